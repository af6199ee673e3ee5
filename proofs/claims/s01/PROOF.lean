import PyProof.Rows.All
import Wide.All
import OpenK.AllK
import Wide.FinOn
import Open.SpecLaws
import KE.OsHead
import KE.OsGo
import HandS.ForSpec
import HandS.Dict
import HandS.Iter
import HandS.Walk
import HandS.SetFor
import PySem.Challenge.RW_slabsaw_s01_answers
set_option Elab.async false
set_option linter.all false
set_option maxRecDepth 100000
set_option maxHeartbeats 2000000
/-! The mathematics of slabs, without the model: the greatest worth of a piece by a recursion of its own, and that the specification's table holds it. -/
namespace Sm
open Sr111

/-! ### Greatest numbers -/
/-- the greatest of i and f 0 .. f (n - 1) -/
def mx (n : Nat) (f : Nat → Nat) (i : Nat) : Nat := (List.range n).foldl (fun b c => max b (f c)) i

theorem foldl_max_le {α : Type} (f : α → Nat) : ∀ (l : List α) (i m : Nat), l.foldl (fun b c => max b (f c)) i ≤ m ↔ i ≤ m ∧ ∀ c ∈ l, f c ≤ m
  | [], i, m => by simp
  | a :: l, i, m => by
    rw [List.foldl_cons, foldl_max_le f l]
    constructor
    · rintro ⟨h, k⟩
      refine ⟨by omega, fun c hc => ?_⟩
      rcases List.mem_cons.mp hc with rfl | hc
      · omega
      · exact k c hc
    · rintro ⟨h, k⟩
      have := k a (List.mem_cons_self ..)
      exact ⟨by omega, fun c hc => k c (List.mem_cons_of_mem _ hc)⟩

theorem mx_le {n : Nat} {f : Nat → Nat} {i m : Nat} : mx n f i ≤ m ↔ i ≤ m ∧ ∀ c, c < n → f c ≤ m := by
  unfold mx
  rw [foldl_max_le]
  simp [List.mem_range]

theorem eq_of_le_iff {a b : Nat} (h : ∀ m, a ≤ m ↔ b ≤ m) : a = b :=
  Nat.le_antisymm ((h b).mpr (Nat.le_refl b)) ((h a).mp (Nat.le_refl a))

theorem mx_congr {n : Nat} {f g : Nat → Nat} {i : Nat} (h : ∀ c, c < n → f c = g c) : mx n f i = mx n g i := by
  refine eq_of_le_iff fun m => ?_
  rw [mx_le, mx_le]
  constructor
  · rintro ⟨a, b⟩
    exact ⟨a, fun c hc => by rw [← h c hc]; exact b c hc⟩
  · rintro ⟨a, b⟩
    exact ⟨a, fun c hc => by rw [h c hc]; exact b c hc⟩

theorem mx_zero (f : Nat → Nat) (i : Nat) : mx 0 f i = i := rfl
theorem mx_succ (n : Nat) (f : Nat → Nat) (i : Nat) : mx (n + 1) f i = max (mx n f i) (f n) := by
  unfold mx
  rw [List.range_succ, List.foldl_append]
  rfl

/-- of two parts the halves are enough -/
theorem mx_half {x : Nat} {V : Nat → Nat} {i : Nat} : mx (x / 2) (fun c => V (c + 1) + V (x - (c + 1))) i = mx (x - 1) (fun c => V (c + 1) + V (x - (c + 1))) i := by
  refine eq_of_le_iff fun m => ?_
  rw [mx_le, mx_le]
  constructor
  · rintro ⟨a, b⟩
    refine ⟨a, fun c hc => ?_⟩
    by_cases h : c < x / 2
    · exact b c h
    · have := b (x - (c + 1) - 1) (by omega)
      have e1 : x - (c + 1) - 1 + 1 = x - (c + 1) := by omega
      have e2 : x - (x - (c + 1)) = c + 1 := by omega
      simp only [e1, e2] at this
      omega
  · rintro ⟨a, b⟩
    exact ⟨a, fun c hc => b c (by omega)⟩

/-! ### Stones -/
/-- the greatest value of a kind that the piece matches -/
def stone (ks : List Kind) (x y : Nat) : Nat := ks.foldl (fun g k => if matchesKind k x y = true then max g k.value else g) 0

/-- one turn of the specification's bestKind -/
def bkStep (best : Option (Nat × Nat)) (z : Kind × Nat) : Option (Nat × Nat) := match best with
  | none => some (z.2, z.1.value)
  | some b => if b.2 < z.1.value then some (z.2, z.1.value) else some b

theorem bestKind_eq (s : Saw) (x y : Nat) : bestKind s x y = (s.kinds.zipIdx.filter fun z => matchesKind z.1 x y).foldl bkStep none := rfl

theorem bk_value : ∀ (l : List (Kind × Nat)) (b : Option (Nat × Nat)), ((l.foldl bkStep b).map fun z => z.2).getD 0 = l.foldl (fun g z => max g z.1.value) ((b.map fun z => z.2).getD 0)
  | [], b => rfl
  | z :: l, b => by
    rw [List.foldl_cons, List.foldl_cons, bk_value l]
    congr 1
    cases b with
    | none => simp [bkStep]
    | some b =>
      simp only [bkStep]
      split
      · simp; omega
      · simp; omega

theorem foldl_zip_max (x y : Nat) : ∀ (ks : List Kind) (n g : Nat), ((ks.zipIdx n).filter fun z => matchesKind z.1 x y).foldl (fun g z => max g z.1.value) g = ks.foldl (fun g k => if matchesKind k x y = true then max g k.value else g) g
  | [], n, g => rfl
  | k :: ks, n, g => by
    rw [List.zipIdx_cons, List.filter_cons, List.foldl_cons]
    by_cases h : matchesKind k x y = true
    · rw [if_pos h, if_pos h, List.foldl_cons]
      exact foldl_zip_max x y ks (n + 1) _
    · rw [if_neg h, if_neg h]
      exact foldl_zip_max x y ks (n + 1) _

theorem uncut_eq (s : Saw) (x y : Nat) : ((bestKind s x y).map fun z => z.2).getD 0 = stone s.kinds x y := by
  rw [bestKind_eq, bk_value]
  exact foldl_zip_max x y s.kinds 0 0

/-- the first kind that the piece matches and whose value is v -/
def firstKind (ks : List Kind) (x y v : Nat) : Option Nat := ks.findIdx? fun k => matchesKind k x y && k.value == v

theorem bk_find (v : Nat) : ∀ (l : List (Kind × Nat)) (b : Option (Nat × Nat)), (∀ z ∈ l, z.1.value ≤ v) → (∀ q, b = some q → q.2 ≤ v) →
    ((l.foldl bkStep b).bind fun z => if z.2 = v then some z.1 else none) = match b.bind fun z => if z.2 = v then some z.1 else none with
      | some k => some k
      | none => (l.find? fun z => z.1.value == v).map fun z => z.2
  | [], b, _, _ => by
    simp only [List.foldl_nil, List.find?_nil, Option.map_none]
    cases b.bind fun z => if z.2 = v then some z.1 else none <;> rfl
  | z :: l, b, hl, hb => by
    rw [List.foldl_cons, bk_find v l (bkStep b z) (fun q hq => hl q (List.mem_cons_of_mem _ hq)) (by
      intro q hq
      have hz := hl z (List.mem_cons_self ..)
      cases b with
      | none =>
        simp only [bkStep, Option.some.injEq] at hq
        subst hq
        exact hz
      | some w =>
        simp only [bkStep] at hq
        split at hq
        · simp only [Option.some.injEq] at hq
          subst hq
          exact hz
        · exact hb q hq)]
    have hz := hl z (List.mem_cons_self ..)
    rw [List.find?_cons]
    cases b with
    | none =>
      simp only [bkStep, Option.bind_some, Option.bind_none]
      by_cases e : z.1.value = v
      · simp [e]
      · have e' : (z.1.value == v) = false := by simp [e]
        simp only [e', if_neg e]
    | some w =>
      have hw := hb w rfl
      simp only [bkStep]
      by_cases c : w.2 < z.1.value
      · rw [if_pos c]
        have hne : ¬ w.2 = v := by omega
        simp only [Option.bind_some, if_neg hne]
        by_cases e : z.1.value = v
        · simp [e]
        · have e' : (z.1.value == v) = false := by simp [e]
          simp only [e', if_neg e]
      · rw [if_neg c]
        simp only [Option.bind_some]
        by_cases e : w.2 = v
        · simp [e]
        · have hne : ¬ z.1.value = v := by omega
          have e' : (z.1.value == v) = false := by simp [hne]
          simp only [e', if_neg e]

theorem find_zip (x y v : Nat) : ∀ (ks : List Kind) (n : Nat), (((ks.zipIdx n).filter fun z => matchesKind z.1 x y).find? fun z => z.1.value == v).map (fun z => z.2) = (ks.findIdx? fun k => matchesKind k x y && k.value == v).map (fun i => i + n)
  | [], n => rfl
  | k :: ks, n => by
    rw [List.zipIdx_cons, List.filter_cons, List.findIdx?_cons]
    have ih := find_zip x y v ks (n + 1)
    by_cases h : matchesKind k x y = true
    · rw [if_pos h, List.find?_cons]
      simp only [h, Bool.true_and]
      by_cases e : k.value = v
      · simp [e]
      · have e' : (k.value == v) = false := by simp [e]
        simp only [e', ih]
        cases ks.findIdx? fun k => matchesKind k x y && k.value == v with
        | none => rfl
        | some i => simp; omega
    · rw [if_neg h, ih]
      have h' : matchesKind k x y = false := by simpa using h
      simp only [h', Bool.false_and]
      cases ks.findIdx? fun k => matchesKind k x y && k.value == v with
      | none => rfl
      | some i => simp; omega

theorem le_stone {ks : List Kind} {x y : Nat} {k : Kind} (hk : k ∈ ks) (hm : matchesKind k x y = true) : k.value ≤ stone ks x y := by
  have aux : ∀ (l : List Kind) (g : Nat), (g ≤ l.foldl (fun g k => if matchesKind k x y = true then max g k.value else g) g) ∧ (k ∈ l → k.value ≤ l.foldl (fun g k => if matchesKind k x y = true then max g k.value else g) g) := by
    intro l
    induction l with
    | nil => intro g; exact ⟨Nat.le_refl _, fun h => by cases h⟩
    | cons a l ih =>
      intro g
      rw [List.foldl_cons]
      have i1 := ih (if matchesKind a x y = true then max g a.value else g)
      refine ⟨Nat.le_trans ?_ i1.1, fun h => ?_⟩
      · split <;> omega
      · rcases List.mem_cons.mp h with rfl | h
        · refine Nat.le_trans ?_ i1.1
          rw [if_pos hm]; omega
        · exact i1.2 h
  exact (aux ks 0).2 hk

theorem kind_find (s : Saw) {x y v : Nat} (h : stone s.kinds x y ≤ v) : ((bestKind s x y).bind fun z => if z.2 = v then some z.1 else none) = firstKind s.kinds x y v := by
  rw [bestKind_eq, bk_find v _ none (by
    intro z hz
    rw [List.mem_filter] at hz
    obtain ⟨hz, hm⟩ := hz
    have hk : z.1 ∈ s.kinds := by
      obtain ⟨k, i⟩ := z
      exact List.fst_mem_of_mem_zipIdx hz
    exact Nat.le_trans (le_stone hk hm) h) (by intro q hq; cases hq)]
  simp only [Option.bind_none]
  rw [find_zip]
  unfold firstKind
  cases s.kinds.findIdx? fun k => matchesKind k x y && k.value == v with
  | none => rfl
  | some i => rfl

/-! ### The greatest worth -/
def mvF (st : Nat → Nat → Nat) : Nat → Nat → Nat → Nat
  | 0, _, _ => 0
  | f + 1, x, y => mx (y - 1) (fun c => mvF st f x (c + 1) + mvF st f x (y - (c + 1))) (mx (x - 1) (fun c => mvF st f (c + 1) y + mvF st f (x - (c + 1)) y) (st x y))
def mv (ks : List Kind) (x y : Nat) : Nat := mvF (stone ks) (x + y) x y

theorem mvF_fuel (st : Nat → Nat → Nat) : ∀ (f g x y : Nat), 1 ≤ x → 1 ≤ y → x + y ≤ f → x + y ≤ g → mvF st f x y = mvF st g x y
  | 0, _, x, y, h1, h2, h3, _ => by omega
  | f + 1, 0, x, y, h1, h2, _, h4 => by omega
  | f + 1, g + 1, x, y, h1, h2, h3, h4 => by
    show mx (y - 1) _ (mx (x - 1) _ _) = mx (y - 1) _ (mx (x - 1) _ _)
    have e1 : mx (x - 1) (fun c => mvF st f (c + 1) y + mvF st f (x - (c + 1)) y) (st x y) = mx (x - 1) (fun c => mvF st g (c + 1) y + mvF st g (x - (c + 1)) y) (st x y) := by
      refine mx_congr fun c hc => ?_
      rw [mvF_fuel st f g (c + 1) y (by omega) (by omega) (by omega) (by omega), mvF_fuel st f g (x - (c + 1)) y (by omega) (by omega) (by omega) (by omega)]
    rw [e1]
    refine mx_congr fun c hc => ?_
    rw [mvF_fuel st f g x (c + 1) (by omega) (by omega) (by omega) (by omega), mvF_fuel st f g x (y - (c + 1)) (by omega) (by omega) (by omega) (by omega)]

/-- what a worth is asked to be -/
def worthOf (st : Nat → Nat → Nat) (V : Nat → Nat → Nat) (x y : Nat) : Nat :=
  mx (y - 1) (fun c => V x (c + 1) + V x (y - (c + 1))) (mx (x - 1) (fun c => V (c + 1) y + V (x - (c + 1)) y) (st x y))

theorem mv_eq (ks : List Kind) {x y : Nat} (hx : 1 ≤ x) (hy : 1 ≤ y) : mv ks x y = worthOf (stone ks) (mv ks) x y := by
  unfold worthOf mv
  obtain ⟨f, hf⟩ : ∃ f, x + y = f + 1 := ⟨x + y - 1, by omega⟩
  rw [hf]
  show mx (y - 1) _ (mx (x - 1) _ _) = mx (y - 1) _ (mx (x - 1) _ _)
  have e1 : mx (x - 1) (fun c => mvF (stone ks) f (c + 1) y + mvF (stone ks) f (x - (c + 1)) y) (stone ks x y) = mx (x - 1) (fun c => mvF (stone ks) (c + 1 + y) (c + 1) y + mvF (stone ks) (x - (c + 1) + y) (x - (c + 1)) y) (stone ks x y) := by
    refine mx_congr fun c hc => ?_
    rw [mvF_fuel _ f (c + 1 + y) (c + 1) y (by omega) (by omega) (by omega) (by omega), mvF_fuel _ f (x - (c + 1) + y) (x - (c + 1)) y (by omega) (by omega) (by omega) (by omega)]
  rw [e1]
  refine mx_congr fun c hc => ?_
  rw [mvF_fuel _ f (x + (c + 1)) x (c + 1) (by omega) (by omega) (by omega) (by omega), mvF_fuel _ f (x + (y - (c + 1))) x (y - (c + 1)) (by omega) (by omega) (by omega) (by omega)]

theorem worthOf_congr {st V U : Nat → Nat → Nat} {x y : Nat} (h1 : ∀ c, c < x - 1 → V (c + 1) y = U (c + 1) y) (h2 : ∀ c, c < y - 1 → V x (c + 1) = U x (c + 1)) : worthOf st V x y = worthOf st U x y := by
  unfold worthOf
  have e1 : mx (x - 1) (fun c => V (c + 1) y + V (x - (c + 1)) y) (st x y) = mx (x - 1) (fun c => U (c + 1) y + U (x - (c + 1)) y) (st x y) := by
    refine mx_congr fun c hc => ?_
    rw [h1 c hc]
    have := h1 (x - (c + 1) - 1) (by omega)
    have e : x - (c + 1) - 1 + 1 = x - (c + 1) := by omega
    rw [e] at this
    rw [this]
  rw [e1]
  refine mx_congr fun c hc => ?_
  rw [h2 c hc]
  have := h2 (y - (c + 1) - 1) (by omega)
  have e : y - (c + 1) - 1 + 1 = y - (c + 1) := by omega
  rw [e] at this
  rw [this]

theorem mv_unique {ks : List Kind} {V : Nat → Nat → Nat} {W H : Nat} (h : ∀ x y, 1 ≤ x → x ≤ W → 1 ≤ y → y ≤ H → V x y = worthOf (stone ks) V x y) : ∀ (n x y : Nat), x + y ≤ n → 1 ≤ x → x ≤ W → 1 ≤ y → y ≤ H → V x y = mv ks x y
  | 0, x, y, h0, h1, _, h3, _ => by omega
  | n + 1, x, y, h0, h1, h2, h3, h4 => by
    rw [h x y h1 h2 h3 h4, mv_eq ks h1 h3]
    refine worthOf_congr (fun c hc => ?_) (fun c hc => ?_)
    · exact mv_unique h n (c + 1) y (by omega) (by omega) (by omega) (by omega) (by omega)
    · exact mv_unique h n x (c + 1) (by omega) (by omega) (by omega) (by omega) (by omega)

theorem stone_le_mv (ks : List Kind) {x y : Nat} (hx : 1 ≤ x) (hy : 1 ≤ y) : stone ks x y ≤ mv ks x y := by
  rw [mv_eq ks hx hy]
  exact (mx_le.mp (mx_le.mp (Nat.le_refl (worthOf (stone ks) (mv ks) x y))).1).1

/-! ### The specification's table -/
/-- a list that is made item by item -/
def bld {α : Type} (f : List α → Nat → α) (n : Nat) : List α := (List.range n).foldl (fun acc i => acc ++ [f acc i]) []
theorem bld_succ {α : Type} (f : List α → Nat → α) (n : Nat) : bld f (n + 1) = bld f n ++ [f (bld f n) n] := by
  unfold bld
  rw [List.range_succ, List.foldl_append]
  rfl
theorem bld_len {α : Type} (f : List α → Nat → α) : ∀ n, (bld f n).length = n
  | 0 => rfl
  | n + 1 => by rw [bld_succ, List.length_append, bld_len f n]; rfl
theorem bld_more {α : Type} (f : List α → Nat → α) {n i : Nat} (h : i < n) : (bld f n)[i]? = some (f (bld f i) i) := by
  induction n with
  | zero => omega
  | succ n ih =>
    rw [bld_succ]
    by_cases e : i < n
    · rw [List.getElem?_append_left (by rw [bld_len]; exact e)]
      exact ih e
    · have e2 : i = n := by omega
      subst e2
      rw [List.getElem?_append_right (by rw [bld_len]; exact Nat.le_refl _), bld_len, Nat.sub_self]
      rfl
theorem bld_at {α : Type} (f : List α → Nat → α) {n i : Nat} (d : α) (h : i < n) : (bld f n).getD i d = f (bld f i) i := by
  rw [List.getD_eq_getElem?_getD, bld_more f h]
  rfl

def rowOf (s : Saw) (table : List (List Nat)) (j n : Nat) : List Nat := bld (fun row i => maxValueFrom s table row (i + 1) (j + 1)) n
theorem valueTable_eq (s : Saw) : valueTable s = bld (fun table j => rowOf s table j s.width) s.height := rfl

/-- an entry of the specification's table -/
def ent (s : Saw) (x y : Nat) : Nat := tableEntry (valueTable s) x y
theorem ent_is (s : Saw) {x y : Nat} (hx : 1 ≤ x) (hxW : x ≤ s.width) (hy : 1 ≤ y) (hyH : y ≤ s.height) :
    ent s x y = maxValueFrom s (bld (fun table j => rowOf s table j s.width) (y - 1)) (rowOf s (bld (fun table j => rowOf s table j s.width) (y - 1)) (y - 1) (x - 1)) x y := by
  unfold ent tableEntry
  rw [valueTable_eq, bld_at _ [] (by omega)]
  unfold rowOf
  rw [bld_at _ 0 (by omega), Nat.sub_add_cancel hx, Nat.sub_add_cancel hy]

theorem maxValueFrom_mx (s : Saw) (table : List (List Nat)) (row : List Nat) (x y : Nat) :
    maxValueFrom s table row x y = mx (y / 2) (fun c => tableEntry table x (c + 1) + tableEntry table x (y - (c + 1))) (mx (x / 2) (fun c => (if c + 1 = 0 then 0 else row.getD (c + 1 - 1) 0) + (if x - (c + 1) = 0 then 0 else row.getD (x - (c + 1) - 1) 0)) (((bestKind s x y).map fun z => z.2).getD 0)) := rfl

theorem ent_eq (s : Saw) {x y : Nat} (hx : 1 ≤ x) (hxW : x ≤ s.width) (hy : 1 ≤ y) (hyH : y ≤ s.height) : ent s x y = worthOf (stone s.kinds) (ent s) x y := by
  rw [ent_is s hx hxW hy hyH, maxValueFrom_mx, uncut_eq]
  unfold worthOf
  have e1 : mx (x / 2) (fun c => (if c + 1 = 0 then 0 else (rowOf s (bld (fun table j => rowOf s table j s.width) (y - 1)) (y - 1) (x - 1)).getD (c + 1 - 1) 0) + (if x - (c + 1) = 0 then 0 else (rowOf s (bld (fun table j => rowOf s table j s.width) (y - 1)) (y - 1) (x - 1)).getD (x - (c + 1) - 1) 0)) (stone s.kinds x y)
      = mx (x / 2) (fun c => ent s (c + 1) y + ent s (x - (c + 1)) y) (stone s.kinds x y) := by
    refine mx_congr fun c hc => ?_
    have row1 : ∀ k, 1 ≤ k → k ≤ x - 1 → (rowOf s (bld (fun table j => rowOf s table j s.width) (y - 1)) (y - 1) (x - 1)).getD (k - 1) 0 = ent s k y := by
      intro k h1 h2
      rw [ent_is s h1 (by omega) hy hyH]
      unfold rowOf
      rw [bld_at _ 0 (by omega), Nat.sub_add_cancel h1, Nat.sub_add_cancel hy]
    rw [if_neg (by omega), if_neg (by omega), row1 (c + 1) (by omega) (by omega), row1 (x - (c + 1)) (by omega) (by omega)]
  rw [e1, mx_half (V := fun k => ent s k y)]
  have e2 : ∀ i, mx (y / 2) (fun c => tableEntry (bld (fun table j => rowOf s table j s.width) (y - 1)) x (c + 1) + tableEntry (bld (fun table j => rowOf s table j s.width) (y - 1)) x (y - (c + 1))) i
      = mx (y / 2) (fun c => ent s x (c + 1) + ent s x (y - (c + 1))) i := by
    intro i
    refine mx_congr fun c hc => ?_
    have col : ∀ k, 1 ≤ k → k ≤ y - 1 → tableEntry (bld (fun table j => rowOf s table j s.width) (y - 1)) x k = ent s x k := by
      intro k h1 h2
      unfold ent tableEntry
      rw [valueTable_eq, bld_at _ [] (by omega), bld_at _ [] (by omega)]
    rw [col (c + 1) (by omega) (by omega), col (y - (c + 1)) (by omega) (by omega)]
  rw [e2, mx_half (V := fun k => ent s x k)]

theorem ent_mv (s : Saw) {x y : Nat} (hx : 1 ≤ x) (hxW : x ≤ s.width) (hy : 1 ≤ y) (hyH : y ≤ s.height) : ent s x y = mv s.kinds x y :=
  mv_unique (V := ent s) (fun _ _ a b c d => ent_eq s a b c d) (x + y) x y (Nat.le_refl _) hx hxW hy hyH

theorem maxValue_mv (s : Saw) {x y : Nat} (hx : 1 ≤ x) (hxW : x ≤ s.width) (hy : 1 ≤ y) (hyH : y ≤ s.height) : Sr111.maxValue s x y = mv s.kinds x y := ent_mv s hx hxW hy hyH

/-! ### The best pattern -/
def bp (ks : List Kind) : Nat → Nat → Nat → Pattern
  | 0, _, _ => .waste
  | f + 1, x, y =>
    if mv ks x y = 0 then .waste
    else match firstKind ks x y (mv ks x y) with
      | some k => .stone k
      | none => match (List.range (x - 1)).find? fun c => mv ks (c + 1) y + mv ks (x - (c + 1)) y == mv ks x y with
        | some c => .vertical (c + 1) (bp ks f (c + 1) y) (bp ks f (x - (c + 1)) y)
        | none => match (List.range (y - 1)).find? fun c => mv ks x (c + 1) + mv ks x (y - (c + 1)) == mv ks x y with
          | some c => .horizontal (c + 1) (bp ks f x (c + 1)) (bp ks f x (y - (c + 1)))
          | none => .waste

theorem find_congr {α : Type} {p q : α → Bool} : ∀ {l : List α}, (∀ a ∈ l, p a = q a) → l.find? p = l.find? q
  | [], _ => rfl
  | a :: l, h => by
    rw [List.find?_cons, List.find?_cons, h a (List.mem_cons_self ..), find_congr fun b hb => h b (List.mem_cons_of_mem _ hb)]

theorem bpFrom_eq (s : Saw) : ∀ (f x y : Nat), 1 ≤ x → x ≤ s.width → 1 ≤ y → y ≤ s.height → bestPatternFrom s (valueTable s) f x y = bp s.kinds f x y
  | 0, _, _, _, _, _, _ => rfl
  | f + 1, x, y, hx, hxW, hy, hyH => by
    have E : ∀ a b, 1 ≤ a → a ≤ s.width → 1 ≤ b → b ≤ s.height → tableEntry (valueTable s) a b = mv s.kinds a b := fun a b h1 h2 h3 h4 => ent_mv s h1 h2 h3 h4
    unfold bestPatternFrom bp
    simp only [E x y hx hxW hy hyH]
    rw [kind_find s (stone_le_mv s.kinds hx hy)]
    have f1 : ((List.range (x - 1)).find? fun c => tableEntry (valueTable s) (c + 1) y + tableEntry (valueTable s) (x - (c + 1)) y == mv s.kinds x y) = (List.range (x - 1)).find? fun c => mv s.kinds (c + 1) y + mv s.kinds (x - (c + 1)) y == mv s.kinds x y :=
      find_congr fun c hc => by
        have := List.mem_range.mp hc
        rw [E (c + 1) y (by omega) (by omega) hy hyH, E (x - (c + 1)) y (by omega) (by omega) hy hyH]
    have f2 : ((List.range (y - 1)).find? fun c => tableEntry (valueTable s) x (c + 1) + tableEntry (valueTable s) x (y - (c + 1)) == mv s.kinds x y) = (List.range (y - 1)).find? fun c => mv s.kinds x (c + 1) + mv s.kinds x (y - (c + 1)) == mv s.kinds x y :=
      find_congr fun c hc => by
        have := List.mem_range.mp hc
        rw [E x (c + 1) hx hxW (by omega) (by omega), E x (y - (c + 1)) hx hxW (by omega) (by omega)]
    rw [f1, f2]
    by_cases h0 : mv s.kinds x y = 0
    · rw [if_pos h0, if_pos h0]
    · rw [if_neg h0, if_neg h0]
      cases firstKind s.kinds x y (mv s.kinds x y) with
      | some k => rfl
      | none =>
        cases g1 : (List.range (x - 1)).find? fun c => mv s.kinds (c + 1) y + mv s.kinds (x - (c + 1)) y == mv s.kinds x y with
        | some c =>
          have hc := List.mem_range.mp (List.mem_of_find?_eq_some g1)
          simp only
          rw [bpFrom_eq s f (c + 1) y (by omega) (by omega) hy hyH, bpFrom_eq s f (x - (c + 1)) y (by omega) (by omega) hy hyH]
        | none =>
          cases g2 : (List.range (y - 1)).find? fun c => mv s.kinds x (c + 1) + mv s.kinds x (y - (c + 1)) == mv s.kinds x y with
          | some c =>
            have hc := List.mem_range.mp (List.mem_of_find?_eq_some g2)
            simp only
            rw [bpFrom_eq s f x (c + 1) hx hxW (by omega) (by omega), bpFrom_eq s f x (y - (c + 1)) hx hxW (by omega) (by omega)]
          | none => rfl

theorem bp_fuel (ks : List Kind) : ∀ (f g x y : Nat), 1 ≤ x → 1 ≤ y → x + y ≤ f → x + y ≤ g → bp ks f x y = bp ks g x y
  | 0, _, x, y, h1, h2, h3, _ => by omega
  | f + 1, 0, x, y, h1, h2, _, h4 => by omega
  | f + 1, g + 1, x, y, h1, h2, h3, h4 => by
    unfold bp
    by_cases h0 : mv ks x y = 0
    · rw [if_pos h0, if_pos h0]
    · rw [if_neg h0, if_neg h0]
      cases firstKind ks x y (mv ks x y) with
      | some k => rfl
      | none =>
        cases g1 : (List.range (x - 1)).find? fun c => mv ks (c + 1) y + mv ks (x - (c + 1)) y == mv ks x y with
        | some c =>
          have hc := List.mem_range.mp (List.mem_of_find?_eq_some g1)
          simp only
          rw [bp_fuel ks f g (c + 1) y (by omega) h2 (by omega) (by omega), bp_fuel ks f g (x - (c + 1)) y (by omega) h2 (by omega) (by omega)]
        | none =>
          cases g2 : (List.range (y - 1)).find? fun c => mv ks x (c + 1) + mv ks x (y - (c + 1)) == mv ks x y with
          | some c =>
            have hc := List.mem_range.mp (List.mem_of_find?_eq_some g2)
            simp only
            rw [bp_fuel ks f g x (c + 1) h1 (by omega) (by omega) (by omega), bp_fuel ks f g x (y - (c + 1)) h1 (by omega) (by omega) (by omega)]
          | none => rfl

/-- the best pattern of a piece -/
def best (ks : List Kind) (x y : Nat) : Pattern := bp ks (x + y) x y
theorem best_is (s : Saw) {x y : Nat} (hx : 1 ≤ x) (hxW : x ≤ s.width) (hy : 1 ≤ y) (hyH : y ≤ s.height) (hx9 : x ≤ 9) (hy9 : y ≤ 9) : Sr111.bestPattern s x y = best s.kinds x y := by
  unfold Sr111.bestPattern best
  rw [bpFrom_eq s _ x y hx hxW hy hyH]
  exact bp_fuel s.kinds _ _ x y hx hy (by show x + y ≤ 2 * maxSide; unfold maxSide; omega) (Nat.le_refl _)

/-- one step of the best pattern -/
theorem best_eq (ks : List Kind) {x y : Nat} (hx : 1 ≤ x) (hy : 1 ≤ y) : best ks x y =
    if mv ks x y = 0 then .waste
    else match firstKind ks x y (mv ks x y) with
      | some k => .stone k
      | none => match (List.range (x - 1)).find? fun c => mv ks (c + 1) y + mv ks (x - (c + 1)) y == mv ks x y with
        | some c => .vertical (c + 1) (best ks (c + 1) y) (best ks (x - (c + 1)) y)
        | none => match (List.range (y - 1)).find? fun c => mv ks x (c + 1) + mv ks x (y - (c + 1)) == mv ks x y with
          | some c => .horizontal (c + 1) (best ks x (c + 1)) (best ks x (y - (c + 1)))
          | none => .waste := by
  obtain ⟨f, hf⟩ : ∃ f, x + y = f + 1 := ⟨x + y - 1, by omega⟩
  have e : best ks x y = bp ks (f + 1) x y := by unfold best; rw [hf]
  rw [e]
  unfold bp
  by_cases h0 : mv ks x y = 0
  · rw [if_pos h0, if_pos h0]
  · rw [if_neg h0, if_neg h0]
    cases firstKind ks x y (mv ks x y) with
    | some k => rfl
    | none =>
      cases g1 : (List.range (x - 1)).find? fun c => mv ks (c + 1) y + mv ks (x - (c + 1)) y == mv ks x y with
      | some c =>
        have hc := List.mem_range.mp (List.mem_of_find?_eq_some g1)
        simp only [best]
        rw [bp_fuel ks f _ (c + 1) y (by omega) hy (by omega) (Nat.le_refl _), bp_fuel ks f _ (x - (c + 1)) y (by omega) hy (by omega) (Nat.le_refl _)]
      | none =>
        cases g2 : (List.range (y - 1)).find? fun c => mv ks x (c + 1) + mv ks x (y - (c + 1)) == mv ks x y with
        | some c =>
          have hc := List.mem_range.mp (List.mem_of_find?_eq_some g2)
          simp only [best]
          rw [bp_fuel ks f _ x (c + 1) hx (by omega) (by omega) (Nat.le_refl _), bp_fuel ks f _ x (y - (c + 1)) hx (by omega) (by omega) (Nat.le_refl _)]
        | none => rfl

end Sm

/-! The best pattern's encoding step by step; areas, counts, values. -/
namespace Sm
open Sr111

theorem mx_attained {n : Nat} {f : Nat → Nat} {i : Nat} : mx n f i = i ∨ ∃ c, c < n ∧ mx n f i = f c := by
  induction n with
  | zero => exact .inl rfl
  | succ n ih =>
    rw [mx_succ]
    by_cases h : mx n f i ≤ f n
    · exact .inr ⟨n, by omega, by omega⟩
    · have e : max (mx n f i) (f n) = mx n f i := by omega
      rw [e]
      rcases ih with h1 | ⟨c, h1, h2⟩
      · exact .inl h1
      · exact .inr ⟨c, by omega, h2⟩

theorem stone_attained (ks : List Kind) (x y : Nat) : stone ks x y = 0 ∨ ∃ k ∈ ks, matchesKind k x y = true ∧ k.value = stone ks x y := by
  have aux : ∀ (l : List Kind) (g : Nat), (l.foldl (fun g k => if matchesKind k x y = true then max g k.value else g) g = g) ∨ ∃ k ∈ l, matchesKind k x y = true ∧ k.value = l.foldl (fun g k => if matchesKind k x y = true then max g k.value else g) g := by
    intro l
    induction l with
    | nil => intro g; exact .inl rfl
    | cons a l ih =>
      intro g
      rw [List.foldl_cons]
      rcases ih (if matchesKind a x y = true then max g a.value else g) with h | ⟨k, hk, hm, hv⟩
      · rw [h]
        by_cases hm : matchesKind a x y = true
        · rw [if_pos hm]
          by_cases hc : g ≤ a.value
          · exact .inr ⟨a, List.mem_cons_self .., hm, by omega⟩
          · exact .inl (by omega)
        · rw [if_neg hm]
          exact .inl rfl
      · exact .inr ⟨k, List.mem_cons_of_mem _ hk, hm, hv⟩
  exact aux ks 0

/-- the smallest left width, less one -/
def vcut (ks : List Kind) (x y : Nat) : Option Nat := (List.range (x - 1)).find? fun c => mv ks (c + 1) y + mv ks (x - (c + 1)) y == mv ks x y
def hcut (ks : List Kind) (x y : Nat) : Option Nat := (List.range (y - 1)).find? fun c => mv ks x (c + 1) + mv ks x (y - (c + 1)) == mv ks x y

theorem firstKind_none {ks : List Kind} {x y v : Nat} (h : firstKind ks x y v = none) : ∀ k ∈ ks, matchesKind k x y = true → k.value ≠ v := by
  intro k hk hm e
  have := List.findIdx?_eq_none_iff.mp h k hk
  simp [hm, e] at this

theorem hcut_some {ks : List Kind} {x y : Nat} (hx : 1 ≤ x) (hy : 1 ≤ y) (h0 : mv ks x y ≠ 0) (hk : firstKind ks x y (mv ks x y) = none) (hv : vcut ks x y = none) : ∃ c, hcut ks x y = some c := by
  have hm := mv_eq ks hx hy
  unfold worthOf at hm
  rcases mx_attained (n := y - 1) (f := fun c => mv ks x (c + 1) + mv ks x (y - (c + 1))) (i := mx (x - 1) (fun c => mv ks (c + 1) y + mv ks (x - (c + 1)) y) (stone ks x y)) with h | ⟨c, hc, h⟩
  · rcases mx_attained (n := x - 1) (f := fun c => mv ks (c + 1) y + mv ks (x - (c + 1)) y) (i := stone ks x y) with h2 | ⟨c, hc, h2⟩
    · rw [h, h2] at hm
      rcases stone_attained ks x y with h3 | ⟨k, hk1, hk2, hk3⟩
      · exact absurd (hm.trans h3) h0
      · exact absurd (hk3.trans hm.symm) (firstKind_none hk k hk1 hk2)
    · rw [h, h2] at hm
      have := List.find?_eq_none.mp hv c (List.mem_range.mpr hc)
      simp at this
      exact absurd hm.symm this
  · rw [h] at hm
    cases e : hcut ks x y with
    | some c => exact ⟨c, rfl⟩
    | none =>
      have := List.find?_eq_none.mp e c (List.mem_range.mpr hc)
      simp at this
      exact absurd hm.symm this

theorem vcut_lt {ks : List Kind} {x y c : Nat} (h : vcut ks x y = some c) : c + 1 < x ∧ mv ks (c + 1) y + mv ks (x - (c + 1)) y = mv ks x y := by
  have h1 := List.mem_range.mp (List.mem_of_find?_eq_some h)
  have h2 := List.find?_some h
  exact ⟨by omega, by simpa using h2⟩
theorem hcut_lt {ks : List Kind} {x y c : Nat} (h : hcut ks x y = some c) : c + 1 < y ∧ mv ks x (c + 1) + mv ks x (y - (c + 1)) = mv ks x y := by
  have h1 := List.mem_range.mp (List.mem_of_find?_eq_some h)
  have h2 := List.find?_some h
  exact ⟨by omega, by simpa using h2⟩

/-- which rule makes the best pattern, and what it is -/
inductive How (ks : List Kind) (x y : Nat) : Prop
  | waste (h0 : mv ks x y = 0) (e : best ks x y = .waste)
  | stone (k : Nat) (h0 : mv ks x y ≠ 0) (hk : firstKind ks x y (mv ks x y) = some k) (e : best ks x y = .stone k)
  | vert (c : Nat) (h0 : mv ks x y ≠ 0) (hk : firstKind ks x y (mv ks x y) = none) (hv : vcut ks x y = some c) (e : best ks x y = .vertical (c + 1) (best ks (c + 1) y) (best ks (x - (c + 1)) y))
  | hori (c : Nat) (h0 : mv ks x y ≠ 0) (hk : firstKind ks x y (mv ks x y) = none) (hv : vcut ks x y = none) (hh : hcut ks x y = some c) (e : best ks x y = .horizontal (c + 1) (best ks x (c + 1)) (best ks x (y - (c + 1))))

theorem how (ks : List Kind) {x y : Nat} (hx : 1 ≤ x) (hy : 1 ≤ y) : How ks x y := by
  have e := best_eq ks hx hy
  by_cases h0 : mv ks x y = 0
  · rw [if_pos h0] at e
    exact .waste h0 e
  · rw [if_neg h0] at e
    cases hk : firstKind ks x y (mv ks x y) with
    | some k =>
      rw [hk] at e
      exact .stone k h0 hk e
    | none =>
      rw [hk] at e
      simp only at e
      change best ks x y = match vcut ks x y with
        | some c => _
        | none => match hcut ks x y with
          | some c => _
          | none => _ at e
      cases hv : vcut ks x y with
      | some c =>
        rw [hv] at e
        exact .vert c h0 hk hv e
      | none =>
        rw [hv] at e
        obtain ⟨c, hh⟩ := hcut_some hx hy h0 hk hv
        rw [hh] at e
        exact .hori c h0 hk hv hh e

/-- the best pattern's encoding -/
def enc (ks : List Kind) (x y : Nat) : List Int := encodePattern (best ks x y)

theorem enc_len (ks : List Kind) : ∀ (n x y : Nat), x + y ≤ n → 1 ≤ x → 1 ≤ y → (enc ks x y).length + 2 ≤ 4 * (x * y)
  | 0, x, y, h, hx, hy => by omega
  | n + 1, x, y, h, hx, hy => by
    have pos : 1 ≤ x * y := Nat.mul_pos hx hy
    cases how ks hx hy with
    | waste h0 e => unfold enc; rw [e]; show 1 + 2 ≤ _; omega
    | stone k h0 hk e => unfold enc; rw [e]; show 2 + 2 ≤ _; omega
    | vert c h0 hk hv e =>
      have hc := (vcut_lt hv).1
      have i1 := enc_len ks n (c + 1) y (by omega) (by omega) hy
      have i2 := enc_len ks n (x - (c + 1)) y (by omega) (by omega) hy
      unfold enc at i1 i2 ⊢
      rw [e]
      simp only [encodePattern, List.length_cons, List.length_append]
      have e2 : x * y = (c + 1) * y + (x - (c + 1)) * y := by
        rw [← Nat.add_mul]; congr 1; omega
      omega
    | hori c h0 hk hv hh e =>
      have hc := (hcut_lt hh).1
      have i1 := enc_len ks n x (c + 1) (by omega) hx (by omega)
      have i2 := enc_len ks n x (y - (c + 1)) (by omega) hx (by omega)
      unfold enc at i1 i2 ⊢
      rw [e]
      simp only [encodePattern, List.length_cons, List.length_append]
      have e2 : x * y = x * (c + 1) + x * (y - (c + 1)) := by
        rw [← Nat.mul_add]; congr 1; omega
      omega

/-! ### Patterns that can be applied: the best one; its value; its area -/
theorem kindAt_get {s : Saw} {k : Nat} (h : k < s.kinds.length) : kindAt s k = s.kinds[k] := by
  unfold kindAt
  rw [List.getD_eq_getElem?_getD, List.getElem?_eq_getElem h]
  rfl

theorem firstKind_some {ks : List Kind} {x y v k : Nat} (h : firstKind ks x y v = some k) : ∃ hk : k < ks.length, matchesKind ks[k] x y = true ∧ ks[k].value = v := by
  obtain ⟨hk, hp, _⟩ := List.findIdx?_eq_some_iff_getElem.mp h
  simp at hp
  exact ⟨hk, hp.1, hp.2⟩

theorem best_applies (s : Saw) : ∀ (n x y : Nat), x + y ≤ n → 1 ≤ x → 1 ≤ y → isApplicable s x y (best s.kinds x y) = true ∧ patternValue s (best s.kinds x y) = mv s.kinds x y
  | 0, x, y, h, hx, hy => by omega
  | n + 1, x, y, h, hx, hy => by
    cases how s.kinds hx hy with
    | waste h0 e => rw [e, h0]; exact ⟨rfl, rfl⟩
    | stone k h0 hk e =>
      obtain ⟨h1, h2, h3⟩ := firstKind_some hk
      rw [e]
      simp only [isApplicable, patternValue, kindAt_get h1, h2, h3, Bool.and_true, decide_eq_true_eq]
      exact ⟨h1, trivial⟩
    | vert c h0 hk hv e =>
      have hc := vcut_lt hv
      have i1 := best_applies s n (c + 1) y (by omega) (by omega) hy
      have i2 := best_applies s n (x - (c + 1)) y (by omega) (by omega) hy
      rw [e]
      simp only [isApplicable, patternValue, i1.1, i1.2, i2.1, i2.2, Bool.and_true, decide_eq_true_eq, Bool.and_eq_true]
      exact ⟨⟨by omega, by omega⟩, hc.2⟩
    | hori c h0 hk hv hh e =>
      have hc := hcut_lt hh
      have i1 := best_applies s n x (c + 1) (by omega) hx (by omega)
      have i2 := best_applies s n x (y - (c + 1)) (by omega) hx (by omega)
      rw [e]
      simp only [isApplicable, patternValue, i1.1, i1.2, i2.1, i2.2, Bool.and_true, decide_eq_true_eq, Bool.and_eq_true]
      exact ⟨⟨by omega, by omega⟩, hc.2⟩

/-! ### Counts and areas -/
theorem sum_eq (l : List Nat) : SrCommon.sum l = l.sum := by
  unfold SrCommon.sum
  rw [List.sum_eq_foldl]

theorem counts_len (n : Nat) : ∀ p : Pattern, (Sr111.stoneCounts n p).length = n
  | .waste => by simp [Sr111.stoneCounts]
  | .stone k => by simp [Sr111.stoneCounts]
  | .vertical _ l r => by simp [Sr111.stoneCounts, counts_len n l, counts_len n r]
  | .horizontal _ l r => by simp [Sr111.stoneCounts, counts_len n l, counts_len n r]

/-- the area of the stones of some kinds, so many of each -/
def areaOf : List Kind → List Nat → Nat
  | k :: ks, c :: cs => k.width * k.height * c + areaOf ks cs
  | _, _ => 0
theorem stoneArea_eq (s : Saw) (cs : List Nat) : stoneArea s cs = areaOf s.kinds cs := by
  unfold stoneArea
  rw [sum_eq]
  generalize s.kinds = ks
  induction ks generalizing cs with
  | nil => simp [areaOf]
  | cons k ks ih =>
    cases cs with
    | nil => simp [areaOf]
    | cons c cs => simp [areaOf, ih]
theorem areaOf_zero : ∀ (ks : List Kind) (n : Nat), areaOf ks (List.replicate n 0) = 0
  | [], n => by cases n <;> rfl
  | k :: ks, 0 => rfl
  | k :: ks, n + 1 => by
    rw [List.replicate_succ]
    simp [areaOf, areaOf_zero ks n]
theorem areaOf_set : ∀ (ks : List Kind) (n k : Nat) (h : k < ks.length), k < n → areaOf ks ((List.replicate n 0).set k 1) = ks[k].width * ks[k].height
  | [], n, k, h, _ => by simp at h
  | a :: ks, 0, k, h, h2 => by omega
  | a :: ks, n + 1, 0, h, h2 => by
    rw [List.replicate_succ]
    simp [areaOf, areaOf_zero]
  | a :: ks, n + 1, k + 1, h, h2 => by
    rw [List.replicate_succ]
    simp only [List.set_cons_succ, areaOf, List.getElem_cons_succ, Nat.mul_zero, Nat.zero_add]
    exact areaOf_set ks n k (by simpa using h) (by omega)
theorem areaOf_add : ∀ (ks : List Kind) (a b : List Nat), a.length = b.length → areaOf ks (a.zipWith (· + ·) b) = areaOf ks a + areaOf ks b
  | [], a, b, h => by cases a <;> cases b <;> simp_all [areaOf]
  | k :: ks, [], [], h => rfl
  | k :: ks, a :: as, b :: bs, h => by
    have ih := areaOf_add ks as bs (by simpa using h)
    simp only [List.zipWith_cons_cons, areaOf, ih, Nat.mul_add]
    omega
  | k :: ks, [], b :: bs, h => by simp at h
  | k :: ks, a :: as, [], h => by simp at h

theorem matches_area {k : Kind} {x y : Nat} (h : matchesKind k x y = true) : k.width * k.height = x * y := by
  unfold matchesKind at h
  simp at h
  rcases h with ⟨h1, h2⟩ | ⟨_, h1, h2⟩
  · rw [h1, h2]
  · rw [h1, h2, Nat.mul_comm]

theorem area_le (s : Saw) : ∀ (p : Pattern) (x y : Nat), isApplicable s x y p = true → areaOf s.kinds (Sr111.stoneCounts s.kinds.length p) ≤ x * y
  | .waste, x, y, _ => by simp [Sr111.stoneCounts, areaOf_zero]
  | .stone k, x, y, h => by
    simp only [isApplicable, Bool.and_eq_true, decide_eq_true_eq] at h
    obtain ⟨h1, h2⟩ := h
    rw [kindAt_get h1] at h2
    simp only [Sr111.stoneCounts, areaOf_set _ _ _ h1 h1, matches_area h2]
    exact Nat.le_refl _
  | .vertical c l r, x, y, h => by
    simp only [isApplicable, Bool.and_eq_true, decide_eq_true_eq] at h
    obtain ⟨h1, h2, h3, h4⟩ := h
    have i1 := area_le s l c y h3
    have i2 := area_le s r (x - c) y h4
    simp only [Sr111.stoneCounts]
    rw [areaOf_add _ _ _ (by rw [counts_len, counts_len])]
    have e : x * y = c * y + (x - c) * y := by rw [← Nat.add_mul]; congr 1; omega
    omega
  | .horizontal c l r, x, y, h => by
    simp only [isApplicable, Bool.and_eq_true, decide_eq_true_eq] at h
    obtain ⟨h1, h2, h3, h4⟩ := h
    have i1 := area_le s l x c h3
    have i2 := area_le s r x (y - c) h4
    simp only [Sr111.stoneCounts]
    rw [areaOf_add _ _ _ (by rw [counts_len, counts_len])]
    have e : x * y = x * c + x * (y - c) := by rw [← Nat.mul_add]; congr 1; omega
    omega

/-! ### Decoding -/
theorem dec_rest : ∀ (f : Nat) (l : List Int) (p : Pattern) (r : List Int), decodePattern f l = some (p, r) → r.length < l.length ∧ l = encodePattern p ++ r
  | 0, l, p, r, h => by simp [decodePattern] at h
  | f + 1, l, p, r, h => by
    unfold decodePattern at h
    split at h
    · simp only [Option.some.injEq, Prod.mk.injEq] at h
      obtain ⟨rfl, rfl⟩ := h
      exact ⟨by simp, rfl⟩
    · split at h
      · cases h
      · rename_i k l hk
        simp only [Option.some.injEq, Prod.mk.injEq] at h
        obtain ⟨rfl, rfl⟩ := h
        refine ⟨by simp; omega, ?_⟩
        simp only [encodePattern, List.cons_append, List.nil_append]
        congr 2
        omega
    · rename_i c l
      split at h
      · cases h
      · rename_i hc
        split at h
        · cases h
        · rename_i left l2 e1
          have i1 := dec_rest f _ _ _ e1
          cases e2 : decodePattern f l2 with
          | none => rw [e2] at h; cases h
          | some z =>
            rw [e2] at h
            simp only [Option.map_some, Option.some.injEq, Prod.mk.injEq] at h
            obtain ⟨rfl, rfl⟩ := h
            have i2 := dec_rest f _ _ _ e2
            refine ⟨by simp; omega, ?_⟩
            have ec : ((c.toNat : Nat) : Int) = c := by omega
            simp only [encodePattern, List.cons_append, List.append_assoc, ec]
            rw [i1.2, i2.2]
    · rename_i c l
      split at h
      · cases h
      · rename_i hc
        split at h
        · cases h
        · rename_i left l2 e1
          have i1 := dec_rest f _ _ _ e1
          cases e2 : decodePattern f l2 with
          | none => rw [e2] at h; cases h
          | some z =>
            rw [e2] at h
            simp only [Option.map_some, Option.some.injEq, Prod.mk.injEq] at h
            obtain ⟨rfl, rfl⟩ := h
            have i2 := dec_rest f _ _ _ e2
            refine ⟨by simp; omega, ?_⟩
            have ec : ((c.toNat : Nat) : Int) = c := by omega
            simp only [encodePattern, List.cons_append, List.append_assoc, ec]
            rw [i1.2, i2.2]
    · cases h

end Sm
namespace Sm
open Sr111
theorem stone_snoc (ks : List Kind) (k : Kind) (x y : Nat) : stone (ks ++ [k]) x y = if matchesKind k x y = true then max (stone ks x y) k.value else stone ks x y := by
  unfold stone
  rw [List.foldl_append]
  rfl
theorem take_more {α : Type} : ∀ {l : List α} {i : Nat} {x : α}, l[i]? = some x → l.take (i + 1) = l.take i ++ [x]
  | [], i, x, h => by simp at h
  | a :: l, 0, x, h => by
    have e : a = x := Option.some.inj h
    subst e
    rfl
  | a :: l, i + 1, x, h => by
    have ih := take_more (l := l) (i := i) (x := x) h
    show a :: l.take (i + 1) = a :: l.take i ++ [x]
    rw [ih]
    rfl
theorem max_if (a b : Nat) : (if (b : Int) > (a : Int) then (b : Int) else (a : Int)) = ((max a b : Nat) : Int) := by
  split <;> omega
/-- the greatest worth of two parts -/
def cutW (V : Nat → Nat → Nat) (x y : Nat) : Nat := mx (y - 1) (fun c => V x (c + 1) + V x (y - (c + 1))) (mx (x - 1) (fun c => V (c + 1) y + V (x - (c + 1)) y) 0)
theorem worth_cut (st V : Nat → Nat → Nat) (x y : Nat) : max (st x y) (cutW V x y) = worthOf st V x y := by
  refine eq_of_le_iff fun m => ?_
  unfold cutW worthOf
  rw [mx_le, mx_le, Nat.max_le, mx_le, mx_le]
  constructor
  · rintro ⟨a, ⟨b, c⟩, d⟩
    exact ⟨⟨a, c⟩, d⟩
  · rintro ⟨⟨a, c⟩, d⟩
    exact ⟨a, ⟨Nat.zero_le _, c⟩, d⟩
end Sm

/-! One step of the best pattern as the program takes it; a stack of pieces. -/
namespace Sm
open Sr111
/-- a pattern step by step: waste, a stone, a cut ahead of its parts -/
def stepsOf : Pattern → List (List Int)
  | .waste => [[0]]
  | .stone k => [[1, (k : Int)]]
  | .vertical c l r => [2, (c : Int)] :: (stepsOf l ++ stepsOf r)
  | .horizontal c l r => [3, (c : Int)] :: (stepsOf l ++ stepsOf r)
theorem steps_flat : ∀ z : Pattern, (stepsOf z).flatten = encodePattern z
  | .waste => rfl
  | .stone k => rfl
  | .vertical c l r => by
    show [2, (c : Int)] ++ (stepsOf l ++ stepsOf r).flatten = _
    rw [List.flatten_append, steps_flat l, steps_flat r]
    rfl
  | .horizontal c l r => by
    show [3, (c : Int)] ++ (stepsOf l ++ stepsOf r).flatten = _
    rw [List.flatten_append, steps_flat l, steps_flat r]
    rfl
theorem steps_len : ∀ z : Pattern, (stepsOf z).length ≤ (encodePattern z).length
  | .waste => Nat.le_refl _
  | .stone k => by show 1 ≤ 2; omega
  | .vertical c l r => by
    have h1 := steps_len l
    have h2 := steps_len r
    simp only [stepsOf, encodePattern, List.length_cons, List.length_append]
    omega
  | .horizontal c l r => by
    have h1 := steps_len l
    have h2 := steps_len r
    simp only [stepsOf, encodePattern, List.length_cons, List.length_append]
    omega
/-- the best pattern's steps -/
def sts (ks : List Kind) (x y : Nat) : List (List Int) := stepsOf (best ks x y)
/-- a step s of a piece that fits it, and the parts ps behind it -/
inductive Prt (x y : Nat) : List Int → List (Nat × Nat) → Prop
  | waste : Prt x y [0] []
  | stone (k : Nat) : Prt x y [1, (k : Int)] []
  | vert (c : Nat) (h1 : 1 ≤ c) (h2 : c < x) : Prt x y [2, (c : Int)] [(c, y), (x - c, y)]
  | hori (c : Nat) (h1 : 1 ≤ c) (h2 : c < y) : Prt x y [3, (c : Int)] [(x, c), (x, y - c)]
/-- the best patterns' steps of pieces, one behind another -/
def stss (ks : List Kind) (ps : List (Nat × Nat)) : List (List Int) := ps.flatMap fun p => sts ks p.1 p.2
theorem stss_cons (ks : List Kind) (p : Nat × Nat) (ps : List (Nat × Nat)) : stss ks (p :: ps) = sts ks p.1 p.2 ++ stss ks ps := rfl
/-- the first step s of the best pattern of a piece, and the parts ps behind it -/
structure Stp (ks : List Kind) (x y : Nat) (s : List Int) (ps : List (Nat × Nat)) : Prop where
  prt : Prt x y s ps
  eq : sts ks x y = s :: stss ks ps
theorem Stp.of {ks : List Kind} {x y : Nat} {s : List Int} {ps : List (Nat × Nat)} (h : Prt x y s ps) (e : sts ks x y = s :: stss ks ps) : Stp ks x y s ps := ⟨h, e⟩
theorem two_parts {ks : List Kind} {p q : Nat × Nat} : stss ks [p, q] = sts ks p.1 p.2 ++ sts ks q.1 q.2 := by
  rw [stss_cons, stss_cons]
  simp [stss]
/-- how much is left to do -/
def todo (ps : List (Nat × Nat)) : Nat := (ps.map fun p => 2 * (p.1 * p.2) - 1).sum
theorem todo_append (a b : List (Nat × Nat)) : todo (a ++ b) = todo a + todo b := by
  unfold todo
  rw [List.map_append, List.sum_append_nat]
theorem todo_rev (a : List (Nat × Nat)) : todo a.reverse = todo a := by
  induction a with
  | nil => rfl
  | cons x a ih =>
    rw [List.reverse_cons, todo_append, ih]
    show todo a + todo [x] = todo ([x] ++ a)
    rw [todo_append, Nat.add_comm]
theorem Prt.less {x y : Nat} {s : List Int} {ps : List (Nat × Nat)} (h : Prt x y s ps) (hx : 1 ≤ x) (hy : 1 ≤ y) : todo ps < 2 * (x * y) - 1 := by
  have pos : 1 ≤ x * y := Nat.mul_pos hx hy
  cases h with
  | waste => show 0 < _; omega
  | stone k => show 0 < _; omega
  | vert c h1 h2 =>
    have e2 : x * y = c * y + (x - c) * y := by rw [← Nat.add_mul]; congr 1; omega
    have p1 : 1 ≤ c * y := Nat.mul_pos h1 hy
    have p2 : 1 ≤ (x - c) * y := Nat.mul_pos (by omega) hy
    show (2 * (c * y) - 1) + ((2 * ((x - c) * y) - 1) + 0) < _
    omega
  | hori c h1 h2 =>
    have e2 : x * y = x * c + x * (y - c) := by rw [← Nat.mul_add]; congr 1; omega
    have p1 : 1 ≤ x * c := Nat.mul_pos hx h1
    have p2 : 1 ≤ x * (y - c) := Nat.mul_pos hx (by omega)
    show (2 * (x * c) - 1) + ((2 * (x * (y - c)) - 1) + 0) < _
    omega
theorem Prt.within {x y : Nat} {s : List Int} {ps : List (Nat × Nat)} (h : Prt x y s ps) (hx : 1 ≤ x) (hy : 1 ≤ y) : ∀ p ∈ ps, 1 ≤ p.1 ∧ p.1 ≤ x ∧ 1 ≤ p.2 ∧ p.2 ≤ y := by
  cases h with
  | waste => intro p hp; cases hp
  | stone k => intro p hp; cases hp
  | vert c h1 h2 =>
    intro p hp
    simp only [List.mem_cons, List.not_mem_nil, or_false] at hp
    rcases hp with rfl | rfl
    · exact ⟨h1, by omega, hy, Nat.le_refl _⟩
    · exact ⟨by show 1 ≤ x - c; omega, Nat.sub_le .., hy, Nat.le_refl _⟩
  | hori c h1 h2 =>
    intro p hp
    simp only [List.mem_cons, List.not_mem_nil, or_false] at hp
    rcases hp with rfl | rfl
    · exact ⟨hx, Nat.le_refl _, h1, by show c ≤ y; omega⟩
    · exact ⟨hx, Nat.le_refl _, by show 1 ≤ y - c; omega, Nat.sub_le ..⟩
theorem Prt.len {x y : Nat} {s : List Int} {ps : List (Nat × Nat)} (h : Prt x y s ps) : s.length ≤ 2 := by
  cases h <;> simp

/-- finding the first of some numbers -/
theorem find_first {n : Nat} {p : Nat → Bool} {i : Nat} (hi : i < n) (hp : p i = true) (hn : ∀ j, j < i → p j = false) : (List.range n).find? p = some i := by
  induction n with
  | zero => omega
  | succ n ih =>
    rw [List.range_succ, List.find?_append]
    by_cases e : i < n
    · rw [ih e]; rfl
    · have e2 : i = n := by omega
      subst e2
      have : (List.range i).find? p = none := List.find?_eq_none.mpr fun j hj => by rw [hn j (List.mem_range.mp hj)]; exact Bool.false_ne_true
      rw [this]
      simp [hp]
theorem find_none {n : Nat} {p : Nat → Bool} (hn : ∀ j, j < n → p j = false) : (List.range n).find? p = none :=
  List.find?_eq_none.mpr fun j hj => by rw [hn j (List.mem_range.mp hj)]; exact Bool.false_ne_true
theorem firstKind_at {ks : List Kind} {x y v i : Nat} {k : Kind} (hk : ks[i]? = some k) (hp : (matchesKind k x y && k.value == v) = true) (hn : ∀ (j : Nat) (q : Kind), j < i → ks[j]? = some q → (matchesKind q x y && q.value == v) = false) : firstKind ks x y v = some i := by
  unfold firstKind
  obtain ⟨h, e⟩ := List.getElem?_eq_some_iff.mp hk
  refine List.findIdx?_eq_some_iff_getElem.mpr ⟨h, by rw [e]; exact hp, fun j hj => ?_⟩
  rw [hn j _ hj (List.getElem?_eq_getElem (by omega))]
  exact Bool.false_ne_true
theorem firstKind_not {ks : List Kind} {x y v : Nat} (hn : ∀ (j : Nat) (q : Kind), ks[j]? = some q → (matchesKind q x y && q.value == v) = false) : firstKind ks x y v = none := by
  unfold firstKind
  refine List.findIdx?_eq_none_iff.mpr fun k hk => ?_
  obtain ⟨j, hj, e⟩ := List.getElem_of_mem hk
  exact hn j k (by rw [← e]; exact List.getElem?_eq_getElem hj)
end Sm

/-! The specification's calls, one by one: what each answers, refused and not. -/
namespace Sm
open Sr111
theorem isSide_iff {a : Int} : isSide a = true ↔ 1 ≤ a ∧ a ≤ 9 := by
  unfold isSide SrCommon.inRange maxSide
  rw [Bool.and_eq_true, decide_eq_true_eq, decide_eq_true_eq]
  exact Iff.rfl
theorem isValue_iff {a : Int} : isValue a = true ↔ 0 ≤ a ∧ a ≤ 999 := by
  unfold isValue SrCommon.inRange
  rw [Bool.and_eq_true, decide_eq_true_eq, decide_eq_true_eq]
theorem isFlag_iff {a : Int} : isFlag a = true ↔ 0 ≤ a ∧ a ≤ 1 := by
  unfold isFlag SrCommon.inRange
  rw [Bool.and_eq_true, decide_eq_true_eq, decide_eq_true_eq]
theorem isKind_iff {s : Saw} {k : Int} : isKind s k = true ↔ 0 ≤ k ∧ k < s.kinds.length := by
  unfold isKind SrCommon.isIndex
  rw [Bool.and_eq_true, decide_eq_true_eq, decide_eq_true_eq]
section
variable {s : Saw} {st : State} {a b c d k v x y : Int}
theorem step_create_bad (h : isSide a = false ∨ isSide b = false) : step st (.create a b) = (st, ⟨-22, []⟩) := by
  unfold step
  simp only
  rw [if_pos h]
  rfl
theorem step_create_ok (h1 : isSide a = true) (h2 : isSide b = true) : step st (.create a b) = (some ⟨a.toNat, b.toNat, []⟩, ⟨0, []⟩) := by
  unfold step
  simp only
  rw [if_neg (by rw [h1, h2]; simp)]
  rfl
theorem step_none {cl : Call} (h : ∀ a b, cl ≠ .create a b) : step none cl = (none, ⟨-11, []⟩) := by
  cases cl with
  | create a b => exact absurd rfl (h a b)
  | _ => rfl
theorem step_add_bad (h : isSide a = false ∨ isSide b = false ∨ isValue c = false ∨ isFlag d = false) : step (some s) (.addKind a b c d) = (some s, ⟨-22, []⟩) := by
  unfold step perform
  simp only
  rw [if_pos h]
  rfl
theorem step_add_full (h1 : isSide a = true) (h2 : isSide b = true) (h3 : isValue c = true) (h4 : isFlag d = true) (h : 5 ≤ s.kinds.length) : step (some s) (.addKind a b c d) = (some s, ⟨-28, []⟩) := by
  unfold step perform
  simp only
  rw [if_neg (by rw [h1, h2, h3, h4]; simp), if_pos (show maxKinds ≤ s.kinds.length from h)]
  rfl
theorem step_add_ok (h1 : isSide a = true) (h2 : isSide b = true) (h3 : isValue c = true) (h4 : isFlag d = true) (h : ¬ 5 ≤ s.kinds.length) :
    step (some s) (.addKind a b c d) = (some { s with kinds := s.kinds ++ [⟨a.toNat, b.toNat, c.toNat, d == 1⟩] }, ⟨(s.kinds.length : Int), []⟩) := by
  unfold step perform
  simp only
  rw [if_neg (by rw [h1, h2, h3, h4]; simp), if_neg (show ¬ maxKinds ≤ s.kinds.length from h)]
  rfl
theorem step_remove_bad (h : isKind s k = false) : step (some s) (.removeKind k) = (some s, ⟨-2, []⟩) := by
  unfold step perform
  simp only
  rw [if_pos h]
  rfl
theorem step_remove_ok (h : isKind s k = true) : step (some s) (.removeKind k) = (some { s with kinds := s.kinds.eraseIdx k.toNat }, ⟨((s.kinds.length - 1 : Nat) : Int), []⟩) := by
  unfold step perform
  simp only
  rw [if_neg (by rw [h]; simp)]
  rfl
theorem step_value_bad (h : isKind s k = false) : step (some s) (.setValue k v) = (some s, ⟨-2, []⟩) := by
  unfold step perform
  simp only
  rw [if_pos h]
  rfl
theorem step_value_out (h : isKind s k = true) (h2 : isValue v = false) : step (some s) (.setValue k v) = (some s, ⟨-22, []⟩) := by
  unfold step perform
  simp only
  rw [if_neg (by rw [h]; simp), if_pos h2]
  rfl
theorem step_value_ok (h : isKind s k = true) (h2 : isValue v = true) : step (some s) (.setValue k v) = (some (withKind s k.toNat { kindAt s k.toNat with value := v.toNat }), ⟨((kindAt s k.toNat).value : Int), []⟩) := by
  unfold step perform
  simp only
  rw [if_neg (by rw [h]; simp), if_neg (by rw [h2]; simp)]
  rfl
theorem step_turn_bad (h : isKind s k = false) : step (some s) (.setMayTurn k v) = (some s, ⟨-2, []⟩) := by
  unfold step perform
  simp only
  rw [if_pos h]
  rfl
theorem step_turn_out (h : isKind s k = true) (h2 : isFlag v = false) : step (some s) (.setMayTurn k v) = (some s, ⟨-22, []⟩) := by
  unfold step perform
  simp only
  rw [if_neg (by rw [h]; simp), if_pos h2]
  rfl
theorem step_turn_ok (h : isKind s k = true) (h2 : isFlag v = true) : step (some s) (.setMayTurn k v) = (some (withKind s k.toNat { kindAt s k.toNat with mayTurn := v == 1 }), ⟨SrCommon.boolToInt (kindAt s k.toNat).mayTurn, []⟩) := by
  unfold step perform
  simp only
  rw [if_neg (by rw [h]; simp), if_neg (by rw [h2]; simp)]
  rfl
theorem step_slab_bad (h : isSide a = false ∨ isSide b = false) : step (some s) (.setSlab a b) = (some s, ⟨-22, []⟩) := by
  unfold step perform
  simp only
  rw [if_pos h]
  rfl
theorem step_slab_ok (h1 : isSide a = true) (h2 : isSide b = true) : step (some s) (.setSlab a b) = (some { s with width := a.toNat, height := b.toNat }, ⟨0, [(s.width : Int), (s.height : Int)]⟩) := by
  unfold step perform
  simp only
  rw [if_neg (by rw [h1, h2]; simp)]
/-- what holds of a saw -/
structure Fit (s : Saw) : Prop where
  w1 : 1 ≤ s.width
  w9 : s.width ≤ 9
  h1 : 1 ≤ s.height
  h9 : s.height ≤ 9
  k5 : s.kinds.length ≤ 5
theorem Fit.dims {s : Saw} (f : Fit s) : 1 ≤ s.width ∧ s.width ≤ 9 ∧ 1 ≤ s.height ∧ s.height ≤ 9 := ⟨f.w1, f.w9, f.h1, f.h9⟩
theorem step_max (f : Fit s) : step (some s) .maxValue = (some s, ⟨(mv s.kinds s.width s.height : Int), []⟩) := by
  unfold step perform
  simp only
  rw [maxValue_mv s f.w1 (Nat.le_refl _) f.h1 (Nat.le_refl _)]
  rfl
theorem step_of_bad (h : ¬ ((1 ≤ x ∧ x ≤ s.width) ∧ 1 ≤ y ∧ y ≤ s.height)) : step (some s) (.maxValueOf x y) = (some s, ⟨-22, []⟩) := by
  unfold step perform SrCommon.inRange
  simp only
  rw [if_pos (by
    rw [← Bool.not_eq_true, ← Bool.not_eq_true, Bool.and_eq_true, Bool.and_eq_true, decide_eq_true_eq, decide_eq_true_eq, decide_eq_true_eq, decide_eq_true_eq]
    omega)]
  rfl
theorem step_of_ok (h : (1 ≤ x ∧ x ≤ s.width) ∧ 1 ≤ y ∧ y ≤ s.height) : step (some s) (.maxValueOf x y) = (some s, ⟨(mv s.kinds x.toNat y.toNat : Int), []⟩) := by
  unfold step perform SrCommon.inRange
  simp only
  rw [if_neg (by
    rw [← Bool.not_eq_true, ← Bool.not_eq_true, Bool.and_eq_true, Bool.and_eq_true, decide_eq_true_eq, decide_eq_true_eq, decide_eq_true_eq, decide_eq_true_eq]
    omega), maxValue_mv s (by omega) (by omega) (by omega) (by omega)]
  rfl
theorem step_best (f : Fit s) : step (some s) .bestPattern = (some s, ⟨(mv s.kinds s.width s.height : Int), enc s.kinds s.width s.height⟩) := by
  unfold step perform
  simp only
  rw [maxValue_mv s f.w1 (Nat.le_refl _) f.h1 (Nat.le_refl _), best_is s f.w1 (Nat.le_refl _) f.h1 (Nat.le_refl _) f.w9 f.h9]
  rfl
/-- the number of stones of each kind in the best pattern -/
def bestCounts (s : Saw) : List Nat := Sr111.stoneCounts s.kinds.length (best s.kinds s.width s.height)
theorem step_counts (f : Fit s) : step (some s) .stoneCounts = (some s, ⟨((bestCounts s).sum : Int), (bestCounts s).map fun (n : Nat) => (n : Int)⟩) := by
  unfold step perform
  simp only
  rw [best_is s f.w1 (Nat.le_refl _) f.h1 (Nat.le_refl _) f.w9 f.h9, sum_eq]
  rfl
theorem step_waste (f : Fit s) : step (some s) .wasteArea = (some s, ⟨((s.width * s.height - areaOf s.kinds (bestCounts s) : Nat) : Int), []⟩) := by
  unfold step perform
  simp only
  rw [best_is s f.w1 (Nat.le_refl _) f.h1 (Nat.le_refl _) f.w9 f.h9, stoneArea_eq]
  rfl
theorem waste_le (f : Fit s) : areaOf s.kinds (bestCounts s) ≤ s.width * s.height := area_le s _ _ _ (best_applies s _ s.width s.height (Nat.le_refl _) f.w1 f.h1).1
theorem step_row_bad (h : ¬ (1 ≤ y ∧ y ≤ s.height)) : step (some s) (.valuesForHeight y) = (some s, ⟨-22, []⟩) := by
  unfold step perform SrCommon.inRange
  simp only
  rw [if_pos (by
    rw [← Bool.not_eq_true, Bool.and_eq_true, decide_eq_true_eq, decide_eq_true_eq]
    omega)]
  rfl
theorem step_row_ok (h : 1 ≤ y ∧ y ≤ s.height) : step (some s) (.valuesForHeight y) = (some s, ⟨(s.width : Int), (List.range s.width).map fun i => (mv s.kinds (i + 1) y.toNat : Int)⟩) := by
  unfold step perform SrCommon.inRange SrCommon.natsToInts
  simp only
  rw [if_neg (by
    rw [← Bool.not_eq_true, Bool.and_eq_true, decide_eq_true_eq, decide_eq_true_eq]
    omega), List.map_map]
  have e : (List.range s.width).map ((fun (x : Nat) => (x : Int)) ∘ fun i => Sr111.maxValue s (i + 1) y.toNat) = (List.range s.width).map fun i => (mv s.kinds (i + 1) y.toNat : Int) := by
    refine List.map_congr_left fun i hi => ?_
    have := List.mem_range.mp hi
    show ((Sr111.maxValue s (i + 1) y.toNat : Nat) : Int) = _
    rw [maxValue_mv s (by omega) (by omega) (by omega) (by omega)]
  rw [e]
theorem step_without_bad (h : isKind s k = false) : step (some s) (.maxValueWithout k) = (some s, ⟨-2, []⟩) := by
  unfold step perform
  simp only
  rw [if_pos h]
  rfl
theorem step_without_ok (f : Fit s) (h : isKind s k = true) : step (some s) (.maxValueWithout k) = (some s, ⟨(mv (s.kinds.eraseIdx k.toNat) s.width s.height : Int), []⟩) := by
  unfold step perform
  simp only
  rw [if_neg (by rw [h]; simp), maxValue_mv { s with kinds := s.kinds.eraseIdx k.toNat } f.w1 (Nat.le_refl _) f.h1 (Nat.le_refl _)]
  rfl
theorem step_ifvalue_bad (h : isKind s k = false) : step (some s) (.maxValueIfValue k v) = (some s, ⟨-2, []⟩) := by
  unfold step perform
  simp only
  rw [if_pos h]
  rfl
theorem step_ifvalue_out (h : isKind s k = true) (h2 : isValue v = false) : step (some s) (.maxValueIfValue k v) = (some s, ⟨-22, []⟩) := by
  unfold step perform
  simp only
  rw [if_neg (by rw [h]; simp), if_pos h2]
  rfl
theorem step_ifvalue_ok (f : Fit s) (h : isKind s k = true) (h2 : isValue v = true) : step (some s) (.maxValueIfValue k v) = (some s, ⟨(mv (s.kinds.set k.toNat { kindAt s k.toNat with value := v.toNat }) s.width s.height : Int), []⟩) := by
  unfold step perform
  simp only
  rw [if_neg (by rw [h]; simp), if_neg (by rw [h2]; simp)]
  have e := maxValue_mv (withKind s k.toNat { kindAt s k.toNat with value := v.toNat }) (x := s.width) (y := s.height) f.w1 (Nat.le_refl _) f.h1 (Nat.le_refl _)
  simp only at e
  rw [e]
  rfl
/-- the smallest height, less one, that is worth v at least -/
def heightFor (ks : List Kind) (W v : Nat) : Option Nat := (List.range 9).find? fun j => decide (v ≤ mv ks W (j + 1))
theorem step_height_bad (h : v < 0) : step (some s) (.minHeight v) = (some s, ⟨-22, []⟩) := by
  unfold step perform
  simp only
  rw [if_pos h]
  rfl
theorem minHeight_eq (f : Fit s) (n : Nat) : Sr111.minHeight s n = (heightFor s.kinds s.width n).map (· + 1) := by
  unfold Sr111.minHeight heightFor
  simp only
  congr 1
  show (List.range 9).find? _ = _
  refine find_congr fun j hj => ?_
  have := List.mem_range.mp hj
  have e := maxValue_mv { s with height := maxSide } (x := s.width) (y := j + 1) f.w1 (Nat.le_refl _) (by omega) (by show j + 1 ≤ 9; omega)
  rw [e]
theorem step_height_none (f : Fit s) (h : ¬ v < 0) (e : heightFor s.kinds s.width v.toNat = none) : step (some s) (.minHeight v) = (some s, ⟨-33, []⟩) := by
  unfold step perform
  simp only
  rw [if_neg h, minHeight_eq f, e]
  rfl
theorem step_height_some (f : Fit s) (h : ¬ v < 0) {j : Nat} (e : heightFor s.kinds s.width v.toNat = some j) : step (some s) (.minHeight v) = (some s, ⟨((j + 1 : Nat) : Int), []⟩) := by
  unfold step perform
  simp only
  rw [if_neg h, minHeight_eq f, e]
  rfl
theorem step_describe : step (some s) .describe = (some s, ⟨(s.kinds.length : Int), [(s.width : Int), (s.height : Int)] ++ s.kinds.flatMap fun k => [(k.width : Int), (k.height : Int), (k.value : Int), SrCommon.boolToInt k.mayTurn]⟩) := rfl
end
end Sm

/-! The calls as they stand in one list of numbers, and what is due for them. -/
namespace Sm
open Sr111
theorem whole_id (c : List (List Int)) : PySr111.whole c = c := by
  unfold PySr111.whole
  split <;> rfl
theorem shape_some {n : Int} {a b : Nat} (h : PySr111.shape n = some (a, b)) :
    (n = 0 ∧ a = 2 ∧ b = 0) ∨ (n = 1 ∧ a = 4 ∧ b = 0) ∨ (n = 2 ∧ a = 1 ∧ b = 0) ∨ (n = 3 ∧ a = 2 ∧ b = 0) ∨ (n = 4 ∧ a = 2 ∧ b = 0) ∨ (n = 5 ∧ a = 2 ∧ b = 0) ∨ (n = 6 ∧ a = 0 ∧ b = 0) ∨ (n = 7 ∧ a = 2 ∧ b = 0) ∨ (n = 8 ∧ a = 0 ∧ b = 0) ∨
    (n = 9 ∧ a = 0 ∧ b = 0) ∨ (n = 10 ∧ a = 0 ∧ b = 0) ∨ (n = 11 ∧ a = 0 ∧ b = 1) ∨ (n = 12 ∧ a = 1 ∧ b = 0) ∨ (n = 13 ∧ a = 1 ∧ b = 0) ∨ (n = 14 ∧ a = 2 ∧ b = 0) ∨ (n = 15 ∧ a = 1 ∧ b = 0) ∨ (n = 16 ∧ a = 0 ∧ b = 0) := by
  unfold PySr111.shape at h
  by_cases e0 : n = 0
  · rw [if_pos e0] at h
    have h' := Prod.mk.inj (Option.some.inj h)
    exact Or.inl ⟨e0, h'.1.symm, h'.2.symm⟩
  rw [if_neg e0] at h
  by_cases e1 : n = 1
  · rw [if_pos e1] at h
    have h' := Prod.mk.inj (Option.some.inj h)
    exact Or.inr (Or.inl ⟨e1, h'.1.symm, h'.2.symm⟩)
  rw [if_neg e1] at h
  by_cases e2 : n = 2
  · rw [if_pos e2] at h
    have h' := Prod.mk.inj (Option.some.inj h)
    exact Or.inr (Or.inr (Or.inl ⟨e2, h'.1.symm, h'.2.symm⟩))
  rw [if_neg e2] at h
  by_cases e3 : n = 3
  · rw [if_pos e3] at h
    have h' := Prod.mk.inj (Option.some.inj h)
    exact Or.inr (Or.inr (Or.inr (Or.inl ⟨e3, h'.1.symm, h'.2.symm⟩)))
  rw [if_neg e3] at h
  by_cases e4 : n = 4
  · rw [if_pos e4] at h
    have h' := Prod.mk.inj (Option.some.inj h)
    exact Or.inr (Or.inr (Or.inr (Or.inr (Or.inl ⟨e4, h'.1.symm, h'.2.symm⟩))))
  rw [if_neg e4] at h
  by_cases e5 : n = 5
  · rw [if_pos e5] at h
    have h' := Prod.mk.inj (Option.some.inj h)
    exact Or.inr (Or.inr (Or.inr (Or.inr (Or.inr (Or.inl ⟨e5, h'.1.symm, h'.2.symm⟩)))))
  rw [if_neg e5] at h
  by_cases e6 : n = 6
  · rw [if_pos e6] at h
    have h' := Prod.mk.inj (Option.some.inj h)
    exact Or.inr (Or.inr (Or.inr (Or.inr (Or.inr (Or.inr (Or.inl ⟨e6, h'.1.symm, h'.2.symm⟩))))))
  rw [if_neg e6] at h
  by_cases e7 : n = 7
  · rw [if_pos e7] at h
    have h' := Prod.mk.inj (Option.some.inj h)
    exact Or.inr (Or.inr (Or.inr (Or.inr (Or.inr (Or.inr (Or.inr (Or.inl ⟨e7, h'.1.symm, h'.2.symm⟩)))))))
  rw [if_neg e7] at h
  by_cases e8 : n = 8
  · rw [if_pos e8] at h
    have h' := Prod.mk.inj (Option.some.inj h)
    exact Or.inr (Or.inr (Or.inr (Or.inr (Or.inr (Or.inr (Or.inr (Or.inr (Or.inl ⟨e8, h'.1.symm, h'.2.symm⟩))))))))
  rw [if_neg e8] at h
  by_cases e9 : n = 9
  · rw [if_pos e9] at h
    have h' := Prod.mk.inj (Option.some.inj h)
    exact Or.inr (Or.inr (Or.inr (Or.inr (Or.inr (Or.inr (Or.inr (Or.inr (Or.inr (Or.inl ⟨e9, h'.1.symm, h'.2.symm⟩)))))))))
  rw [if_neg e9] at h
  by_cases e10 : n = 10
  · rw [if_pos e10] at h
    have h' := Prod.mk.inj (Option.some.inj h)
    exact Or.inr (Or.inr (Or.inr (Or.inr (Or.inr (Or.inr (Or.inr (Or.inr (Or.inr (Or.inr (Or.inl ⟨e10, h'.1.symm, h'.2.symm⟩))))))))))
  rw [if_neg e10] at h
  by_cases e11 : n = 11
  · rw [if_pos e11] at h
    have h' := Prod.mk.inj (Option.some.inj h)
    exact Or.inr (Or.inr (Or.inr (Or.inr (Or.inr (Or.inr (Or.inr (Or.inr (Or.inr (Or.inr (Or.inr (Or.inl ⟨e11, h'.1.symm, h'.2.symm⟩)))))))))))
  rw [if_neg e11] at h
  by_cases e12 : n = 12
  · rw [if_pos e12] at h
    have h' := Prod.mk.inj (Option.some.inj h)
    exact Or.inr (Or.inr (Or.inr (Or.inr (Or.inr (Or.inr (Or.inr (Or.inr (Or.inr (Or.inr (Or.inr (Or.inr (Or.inl ⟨e12, h'.1.symm, h'.2.symm⟩))))))))))))
  rw [if_neg e12] at h
  by_cases e13 : n = 13
  · rw [if_pos e13] at h
    have h' := Prod.mk.inj (Option.some.inj h)
    exact Or.inr (Or.inr (Or.inr (Or.inr (Or.inr (Or.inr (Or.inr (Or.inr (Or.inr (Or.inr (Or.inr (Or.inr (Or.inr (Or.inl ⟨e13, h'.1.symm, h'.2.symm⟩)))))))))))))
  rw [if_neg e13] at h
  by_cases e14 : n = 14
  · rw [if_pos e14] at h
    have h' := Prod.mk.inj (Option.some.inj h)
    exact Or.inr (Or.inr (Or.inr (Or.inr (Or.inr (Or.inr (Or.inr (Or.inr (Or.inr (Or.inr (Or.inr (Or.inr (Or.inr (Or.inr (Or.inl ⟨e14, h'.1.symm, h'.2.symm⟩))))))))))))))
  rw [if_neg e14] at h
  by_cases e15 : n = 15
  · rw [if_pos e15] at h
    have h' := Prod.mk.inj (Option.some.inj h)
    exact Or.inr (Or.inr (Or.inr (Or.inr (Or.inr (Or.inr (Or.inr (Or.inr (Or.inr (Or.inr (Or.inr (Or.inr (Or.inr (Or.inr (Or.inr (Or.inl ⟨e15, h'.1.symm, h'.2.symm⟩)))))))))))))))
  rw [if_neg e15] at h
  by_cases e16 : n = 16
  · rw [if_pos e16] at h
    have h' := Prod.mk.inj (Option.some.inj h)
    exact Or.inr (Or.inr (Or.inr (Or.inr (Or.inr (Or.inr (Or.inr (Or.inr (Or.inr (Or.inr (Or.inr (Or.inr (Or.inr (Or.inr (Or.inr (Or.inr (⟨e16, h'.1.symm, h'.2.symm⟩))))))))))))))))
  rw [if_neg e16] at h
  cases h
/-- the call at the beginning of a list: its number n, what stands behind it, the call, the rest -/
inductive CallIs : Int → List Int → Call → List Int → Prop
  | create (a b : Int) (t : List Int) : CallIs 0 (a :: b :: t) (.create a b) t
  | addKind (a b c d : Int) (t : List Int) : CallIs 1 (a :: b :: c :: d :: t) (.addKind a b c d) t
  | removeKind (a : Int) (t : List Int) : CallIs 2 (a :: t) (.removeKind a) t
  | setValue (a b : Int) (t : List Int) : CallIs 3 (a :: b :: t) (.setValue a b) t
  | setMayTurn (a b : Int) (t : List Int) : CallIs 4 (a :: b :: t) (.setMayTurn a b) t
  | setSlab (a b : Int) (t : List Int) : CallIs 5 (a :: b :: t) (.setSlab a b) t
  | maxValue (t : List Int) : CallIs 6 t .maxValue t
  | maxValueOf (a b : Int) (t : List Int) : CallIs 7 (a :: b :: t) (.maxValueOf a b) t
  | bestPattern (t : List Int) : CallIs 8 t .bestPattern t
  | stoneCounts (t : List Int) : CallIs 9 t .stoneCounts t
  | wasteArea (t : List Int) : CallIs 10 t .wasteArea t
  | checkPattern (x t : List Int) (h : x.length ≤ 70) : CallIs 11 ((x.length : Int) :: (x ++ t)) (.checkPattern x) t
  | valuesForHeight (a : Int) (t : List Int) : CallIs 12 (a :: t) (.valuesForHeight a) t
  | maxValueWithout (a : Int) (t : List Int) : CallIs 13 (a :: t) (.maxValueWithout a) t
  | maxValueIfValue (a b : Int) (t : List Int) : CallIs 14 (a :: b :: t) (.maxValueIfValue a b) t
  | minHeight (a : Int) (t : List Int) : CallIs 15 (a :: t) (.minHeight a) t
  | describe (t : List Int) : CallIs 16 t .describe t
theorem rows0 (r : List Int) : PyFlat.rows 0 r = some ([], r) := rfl
/-- reading one call -/
theorem call_is {n : Int} {r : List Int} {c : List (List Int)} {t : List Int} (h : PyFlat.call PySr111.shape (n :: r) = some (c, t)) (hb : PyInside.call PySr111.bound c = true) :
    ∃ cl, Sr111Neutral.parseCall c = some cl ∧ CallIs n r cl t := by
  unfold PyFlat.call at h
  simp only at h
  cases hs : PySr111.shape n with
  | none => rw [hs] at h; cases h
  | some ab =>
    obtain ⟨a, b⟩ := ab
    rw [hs] at h
    simp only at h
    by_cases hl : r.length < a
    · rw [if_pos hl] at h; cases h
    · rw [if_neg hl] at h
      have hs2 := shape_some hs
      have two : a = 2 → ∃ x y t', r = x :: y :: t' := fun e => by
        match r, hl with
        | x :: y :: t', _ => exact ⟨x, y, t', rfl⟩
        | [x], hl => simp at hl; omega
        | [], hl => simp at hl; omega
      have one : a = 1 → ∃ x t', r = x :: t' := fun e => by
        match r, hl with
        | x :: t', _ => exact ⟨x, t', rfl⟩
        | [], hl => simp at hl; omega
      rcases hs2 with ⟨rfl, rfl, rfl⟩ | ⟨rfl, rfl, rfl⟩ | ⟨rfl, rfl, rfl⟩ | ⟨rfl, rfl, rfl⟩ | ⟨rfl, rfl, rfl⟩ | ⟨rfl, rfl, rfl⟩ | ⟨rfl, rfl, rfl⟩ | ⟨rfl, rfl, rfl⟩ | ⟨rfl, rfl, rfl⟩ | ⟨rfl, rfl, rfl⟩ | ⟨rfl, rfl, rfl⟩ | ⟨rfl, rfl, rfl⟩ | ⟨rfl, rfl, rfl⟩ | ⟨rfl, rfl, rfl⟩ | ⟨rfl, rfl, rfl⟩ | ⟨rfl, rfl, rfl⟩ | ⟨rfl, rfl, rfl⟩
      case inr.inl =>
        match r, hl, h with
        | x :: y :: z :: u :: t', _, h =>
          simp only [rows0, Option.some.injEq, Prod.mk.injEq] at h
          obtain ⟨rfl, rfl⟩ := h
          exact ⟨_, rfl, .addKind x y z u t'⟩
        | [x, y, z], hl, _ => simp at hl
        | [x, y], hl, _ => simp at hl
        | [x], hl, _ => simp at hl
        | [], hl, _ => simp at hl
      case inr.inr.inr.inr.inr.inr.inr.inr.inr.inr.inr.inl =>
        match r, h with
        | [], h => cases h
        | m :: r', h =>
          unfold PyFlat.rows PyFlat.row at h
          simp only [List.drop_zero] at h
          by_cases hm : 0 ≤ m ∧ m.toNat ≤ r'.length
          · rw [if_pos hm] at h
            simp only [rows0, Option.some.injEq, Prod.mk.injEq] at h
            obtain ⟨rfl, rfl⟩ := h
            have hx : (r'.take m.toNat).length = m.toNat := by rw [List.length_take]; omega
            have hb2 : (r'.take m.toNat).length ≤ 70 := by
              have : (PyInside.each [] [] && PyInside.lists [(-2147483648, 2147483647, 0, 70)] [r'.take m.toNat]) = true := hb
              simp only [PyInside.each, PyInside.lists, Bool.true_and, Bool.and_true, Bool.and_eq_true, decide_eq_true_eq] at this
              exact this.1.2
            refine ⟨_, rfl, ?_⟩
            have := CallIs.checkPattern (r'.take m.toNat) (r'.drop m.toNat) hb2
            rw [List.take_append_drop, hx] at this
            have em : ((m.toNat : Nat) : Int) = m := by omega
            rw [em] at this
            exact this
          · rw [if_neg hm] at h
            cases h
      case inl => obtain ⟨x, y, t', rfl⟩ := two rfl; simp only [rows0, Option.some.injEq, Prod.mk.injEq] at h; obtain ⟨rfl, rfl⟩ := h; exact ⟨_, rfl, .create x y t'⟩
      case inr.inr.inl => obtain ⟨x, t', rfl⟩ := one rfl; simp only [rows0, Option.some.injEq, Prod.mk.injEq] at h; obtain ⟨rfl, rfl⟩ := h; exact ⟨_, rfl, .removeKind x t'⟩
      case inr.inr.inr.inl => obtain ⟨x, y, t', rfl⟩ := two rfl; simp only [rows0, Option.some.injEq, Prod.mk.injEq] at h; obtain ⟨rfl, rfl⟩ := h; exact ⟨_, rfl, .setValue x y t'⟩
      case inr.inr.inr.inr.inl => obtain ⟨x, y, t', rfl⟩ := two rfl; simp only [rows0, Option.some.injEq, Prod.mk.injEq] at h; obtain ⟨rfl, rfl⟩ := h; exact ⟨_, rfl, .setMayTurn x y t'⟩
      case inr.inr.inr.inr.inr.inl => obtain ⟨x, y, t', rfl⟩ := two rfl; simp only [rows0, Option.some.injEq, Prod.mk.injEq] at h; obtain ⟨rfl, rfl⟩ := h; exact ⟨_, rfl, .setSlab x y t'⟩
      case inr.inr.inr.inr.inr.inr.inl => simp only [List.drop_zero, List.take_zero, rows0, Option.some.injEq, Prod.mk.injEq] at h; obtain ⟨rfl, rfl⟩ := h; exact ⟨_, rfl, .maxValue _⟩
      case inr.inr.inr.inr.inr.inr.inr.inl => obtain ⟨x, y, t', rfl⟩ := two rfl; simp only [rows0, Option.some.injEq, Prod.mk.injEq] at h; obtain ⟨rfl, rfl⟩ := h; exact ⟨_, rfl, .maxValueOf x y t'⟩
      case inr.inr.inr.inr.inr.inr.inr.inr.inl => simp only [List.drop_zero, List.take_zero, rows0, Option.some.injEq, Prod.mk.injEq] at h; obtain ⟨rfl, rfl⟩ := h; exact ⟨_, rfl, .bestPattern _⟩
      case inr.inr.inr.inr.inr.inr.inr.inr.inr.inl => simp only [List.drop_zero, List.take_zero, rows0, Option.some.injEq, Prod.mk.injEq] at h; obtain ⟨rfl, rfl⟩ := h; exact ⟨_, rfl, .stoneCounts _⟩
      case inr.inr.inr.inr.inr.inr.inr.inr.inr.inr.inl => simp only [List.drop_zero, List.take_zero, rows0, Option.some.injEq, Prod.mk.injEq] at h; obtain ⟨rfl, rfl⟩ := h; exact ⟨_, rfl, .wasteArea _⟩
      case inr.inr.inr.inr.inr.inr.inr.inr.inr.inr.inr.inr.inl => obtain ⟨x, t', rfl⟩ := one rfl; simp only [rows0, Option.some.injEq, Prod.mk.injEq] at h; obtain ⟨rfl, rfl⟩ := h; exact ⟨_, rfl, .valuesForHeight x t'⟩
      case inr.inr.inr.inr.inr.inr.inr.inr.inr.inr.inr.inr.inr.inl => obtain ⟨x, t', rfl⟩ := one rfl; simp only [rows0, Option.some.injEq, Prod.mk.injEq] at h; obtain ⟨rfl, rfl⟩ := h; exact ⟨_, rfl, .maxValueWithout x t'⟩
      case inr.inr.inr.inr.inr.inr.inr.inr.inr.inr.inr.inr.inr.inr.inl => obtain ⟨x, y, t', rfl⟩ := two rfl; simp only [rows0, Option.some.injEq, Prod.mk.injEq] at h; obtain ⟨rfl, rfl⟩ := h; exact ⟨_, rfl, .maxValueIfValue x y t'⟩
      case inr.inr.inr.inr.inr.inr.inr.inr.inr.inr.inr.inr.inr.inr.inr.inl => obtain ⟨x, t', rfl⟩ := one rfl; simp only [rows0, Option.some.injEq, Prod.mk.injEq] at h; obtain ⟨rfl, rfl⟩ := h; exact ⟨_, rfl, .minHeight x t'⟩
      case inr.inr.inr.inr.inr.inr.inr.inr.inr.inr.inr.inr.inr.inr.inr.inr => simp only [List.drop_zero, List.take_zero, rows0, Option.some.injEq, Prod.mk.injEq] at h; obtain ⟨rfl, rfl⟩ := h; exact ⟨_, rfl, .describe _⟩

/-- what one call answers, with its length ahead -/
def ansOf (st : State) (c : Call) : List Int := (Sr111.step st c).2.code :: (Sr111.step st c).2.values
/-- behind some calls: the state, what is still due -/
structure Due (l : List Int) (pl : Nat) (st : State) (done rest : List Int) : Prop where
  le : pl ≤ l.length
  all : PySr111.answers l = done ++ rest
  ex : ∃ (f : Nat) (cs : List (List (List Int))), PyFlat.calls PySr111.shape f (l.drop pl) = some cs ∧ PyInside.calls PySr111.bound cs = true ∧ rest = PyFlat.told (PyFlat.played Sr111Neutral.step st cs)
theorem due_start {l : List Int} (h : PySr111.answers_asked l = true) : Due l 0 none [] (PySr111.answers l) ∧ (PySr111.answers l).length ≤ 10000000 := by
  unfold PySr111.answers_asked at h
  cases e : PyFlat.calls PySr111.shape l.length l with
  | none => rw [e] at h; cases h
  | some raw =>
    rw [e] at h
    simp only [Bool.and_eq_true] at h
    obtain ⟨⟨⟨⟨h1, h2⟩, h3⟩, h4⟩, h5⟩ := h
    refine ⟨⟨Nat.zero_le _, rfl, l.length, raw, e, h3, ?_⟩, by simpa [PyFlat.short] using h5⟩
    unfold PySr111.answers PySr111.calls
    rw [e]
    simp only
    have : raw.map PySr111.whole = raw := by
      have : ∀ r : List (List (List Int)), r.map PySr111.whole = r := by
        intro r
        induction r with
        | nil => rfl
        | cons c r ih => rw [List.map_cons, ih, whole_id]
      exact this raw
    rw [this]
    rfl
theorem due_end {l : List Int} {pl : Nat} {st : State} {done rest : List Int} (h : Due l pl st done rest) (e : ¬ pl < l.length) : done = PySr111.answers l := by
  obtain ⟨f, cs, h1, _, h3⟩ := h.ex
  have : l.drop pl = [] := List.drop_eq_nil_iff.mpr (by omega)
  rw [this] at h1
  have hc : cs = [] := by
    cases f <;> · simp [PyFlat.calls] at h1; exact h1
  subst hc
  have hr : rest = [] := h3
  rw [h.all, hr, List.append_nil]
theorem due_step {l : List Int} {pl : Nat} {st : State} {done rest : List Int} (h : Due l pl st done rest) (e : pl < l.length) :
    ∃ (n : Int) (r : List Int) (c : Call) (t : List Int), l.drop pl = n :: r ∧ CallIs n r c t ∧ t.length ≤ r.length ∧
      Due l (l.length - t.length) (Sr111.step st c).1 (done ++ ((ansOf st c).length : Int) :: ansOf st c) (rest.drop ((ansOf st c).length + 1)) ∧ (ansOf st c).length + 1 ≤ rest.length := by
  obtain ⟨f, cs, h1, h2, h3⟩ := h.ex
  cases hd : l.drop pl with
  | nil =>
    have := congrArg List.length hd
    rw [List.length_drop] at this
    simp at this
    omega
  | cons n r =>
    rw [hd] at h1
    cases f with
    | zero => cases h1
    | succ f =>
      unfold PyFlat.calls at h1
      cases hc : PyFlat.call PySr111.shape (n :: r) with
      | none => rw [hc] at h1; cases h1
      | some ct =>
        obtain ⟨c, t⟩ := ct
        rw [hc] at h1
        simp only at h1
        cases hq : PyFlat.calls PySr111.shape f t with
        | none => rw [hq] at h1; cases h1
        | some cs' =>
          rw [hq] at h1
          simp only [Option.some.injEq] at h1
          subst h1
          have h2' : (PyInside.call PySr111.bound c && cs'.all (PyInside.call PySr111.bound)) = true := h2
          rw [Bool.and_eq_true] at h2'
          obtain ⟨cl, hp, his⟩ := call_is hc h2'.1
          have hsuf : ∃ p, r = p ++ t := by
            cases his with
            | create a b t => exact ⟨[a, b], rfl⟩
            | addKind a b c d t => exact ⟨[a, b, c, d], rfl⟩
            | removeKind a t => exact ⟨[a], rfl⟩
            | setValue a b t => exact ⟨[a, b], rfl⟩
            | setMayTurn a b t => exact ⟨[a, b], rfl⟩
            | setSlab a b t => exact ⟨[a, b], rfl⟩
            | maxValue t => exact ⟨[], rfl⟩
            | maxValueOf a b t => exact ⟨[a, b], rfl⟩
            | bestPattern t => exact ⟨[], rfl⟩
            | stoneCounts t => exact ⟨[], rfl⟩
            | wasteArea t => exact ⟨[], rfl⟩
            | checkPattern x t h => exact ⟨(x.length : Int) :: x, rfl⟩
            | valuesForHeight a t => exact ⟨[a], rfl⟩
            | maxValueWithout a t => exact ⟨[a], rfl⟩
            | maxValueIfValue a b t => exact ⟨[a, b], rfl⟩
            | minHeight a t => exact ⟨[a], rfl⟩
            | describe t => exact ⟨[], rfl⟩
          obtain ⟨p, hp2⟩ := hsuf
          have hstep : Sr111Neutral.step st c = ((Sr111.step st cl).1, ansOf st cl) := by
            unfold Sr111Neutral.step ansOf
            rw [hp]
          have hrest : rest = (((ansOf st cl).length : Int) :: ansOf st cl) ++ PyFlat.told (PyFlat.played Sr111Neutral.step (Sr111.step st cl).1 cs') := by
            rw [h3, show PyFlat.played Sr111Neutral.step st (c :: cs') = (Sr111Neutral.step st c).2 :: PyFlat.played Sr111Neutral.step (Sr111Neutral.step st c).1 cs' from rfl, hstep]
            rfl
          have hdrop : l.drop (l.length - t.length) = t := by
            have e1 : l = l.take pl ++ (n :: (p ++ t)) := by
              rw [← hp2, ← hd, List.take_append_drop]
            have e2 : l = (l.take pl ++ (n :: p)) ++ t := by
              rw [List.append_assoc]
              exact e1
            have e3 : (l.take pl ++ (n :: p)).length = l.length - t.length := by
              have := congrArg List.length e2
              rw [List.length_append] at this
              omega
            have e4 : List.drop (l.take pl ++ (n :: p)).length ((l.take pl ++ (n :: p)) ++ t) = t := List.drop_left
            rw [← e2, e3] at e4
            exact e4
          refine ⟨n, r, cl, t, rfl, his, by rw [hp2, List.length_append]; omega, ⟨by omega, ?_, f, cs', by rw [hdrop]; exact hq, h2'.2, ?_⟩, ?_⟩
          · rw [h.all, List.append_assoc]
            congr 1
            rw [hrest]
            congr 1
            simp
          · rw [hrest]
            simp
          · rw [hrest]
            simp
end Sm

/-! Patterns read from lists: how many are still missing. -/
namespace Sm
open Sr111
/-- m patterns are read, one behind another; the rest -/
def scan : Nat → List Int → Option (List Int)
  | 0, l => some l
  | m + 1, l => match l with
    | 0 :: l => scan m l
    | 1 :: k :: l => if k < 0 then none else scan m l
    | 2 :: c :: l => if c < 1 then none else scan (m + 2) l
    | 3 :: c :: l => if c < 1 then none else scan (m + 2) l
    | _ => none
termination_by m l => (l.length, m)
theorem scan_zero (l : List Int) : scan 0 l = some l := by rw [scan]
theorem scan_waste (m : Nat) (l : List Int) : scan (m + 1) (0 :: l) = scan m l := by rw [scan]
theorem scan_stone (m : Nat) (k : Int) (l : List Int) : scan (m + 1) (1 :: k :: l) = if k < 0 then none else scan m l := by rw [scan]
theorem scan_vert (m : Nat) (c : Int) (l : List Int) : scan (m + 1) (2 :: c :: l) = if c < 1 then none else scan (m + 2) l := by rw [scan]
theorem scan_hori (m : Nat) (c : Int) (l : List Int) : scan (m + 1) (3 :: c :: l) = if c < 1 then none else scan (m + 2) l := by rw [scan]
theorem scan_nil (m : Nat) : scan (m + 1) [] = none := by rw [scan] <;> simp
theorem scan_one (m : Nat) {a : Int} (h : a ≠ 0) : scan (m + 1) [a] = none := by
  rw [scan] <;> simp_all
theorem scan_other (m : Nat) {a : Int} {l : List Int} (h0 : a ≠ 0) (h1 : a ≠ 1) (h2 : a ≠ 2) (h3 : a ≠ 3) : scan (m + 1) (a :: l) = none := by
  rw [scan] <;> simp_all
theorem dec_other (f : Nat) {a : Int} {l : List Int} (h0 : a ≠ 0) (h1 : a ≠ 1) (h2 : a ≠ 2) (h3 : a ≠ 3) : decodePattern (f + 1) (a :: l) = none := by
  unfold decodePattern
  split
  · rename_i e; cases e; exact absurd rfl h0
  · rename_i e; cases e; exact absurd rfl h1
  · rename_i e; cases e; exact absurd rfl h2
  · rename_i e; cases e; exact absurd rfl h3
  · rfl
theorem dec_one (f : Nat) {a : Int} (h : a ≠ 0) : decodePattern (f + 1) [a] = none := by
  unfold decodePattern
  split
  · rename_i e; cases e; exact absurd rfl h
  · rename_i e; cases e
  · rename_i e; cases e
  · rename_i e; cases e
  · rfl
/-- the rest behind a pattern -/
def then_ (m : Nat) (o : Option (Pattern × List Int)) : Option (List Int) := match o with
  | none => none
  | some z => scan m z.2
theorem scan_dec : ∀ (f m : Nat) (l : List Int), l.length ≤ 2 * f → scan (m + 1) l = then_ m (decodePattern f l)
  | 0, m, l, h => by
    have : l = [] := List.length_eq_zero_iff.mp (by omega)
    subst this
    rw [scan_nil]
    rfl
  | f + 1, m, [], h => by
    rw [scan_nil]
    rfl
  | f + 1, m, a :: l, h => by
    by_cases h0 : a = 0
    · subst h0
      rw [scan_waste]
      rfl
    · match l, h with
      | [], h => rw [scan_one m h0, dec_one f h0]; rfl
      | k :: l, h =>
        have hl : l.length ≤ 2 * f := by simp at h; omega
        have two : (if k < 1 then none else scan (m + 2) l) = then_ m (if k < 1 then none else match decodePattern f l with
            | none => none
            | some (left, l) => (decodePattern f l).map fun z => (Pattern.waste, z.2)) := by
          by_cases hk : k < 1
          · rw [if_pos hk, if_pos hk]; rfl
          · rw [if_neg hk, if_neg hk, scan_dec f (m + 1) l hl]
            cases e : decodePattern f l with
            | none => rfl
            | some z =>
              obtain ⟨p, r⟩ := z
              have hr := (dec_rest f l p r e).1
              show scan (m + 1) r = _
              rw [scan_dec f m r (by omega)]
              cases e2 : decodePattern f r with
              | none => simp [e2, then_]
              | some z2 => simp [e2, then_]
        by_cases h1 : a = 1
        · subst h1
          rw [scan_stone]
          show _ = then_ m (if k < 0 then none else some (Pattern.stone k.toNat, l))
          by_cases hk : k < 0
          · rw [if_pos hk, if_pos hk]; rfl
          · rw [if_neg hk, if_neg hk]; rfl
        · by_cases h2 : a = 2
          · subst h2
            rw [scan_vert, two]
            show _ = then_ m (if k < 1 then none else match decodePattern f l with
              | none => none
              | some (left, l) => (decodePattern f l).map fun z => (Pattern.vertical k.toNat left z.1, z.2))
            by_cases hk : k < 1
            · rw [if_pos hk, if_pos hk]
            · rw [if_neg hk, if_neg hk]
              cases e : decodePattern f l with
              | none => rfl
              | some z =>
                obtain ⟨p, r⟩ := z
                cases e2 : decodePattern f r with
                | none => simp [e2, then_]
                | some z2 => simp [e2, then_]
          · by_cases h3 : a = 3
            · subst h3
              rw [scan_hori, two]
              show _ = then_ m (if k < 1 then none else match decodePattern f l with
                | none => none
                | some (left, l) => (decodePattern f l).map fun z => (Pattern.horizontal k.toNat left z.1, z.2))
              by_cases hk : k < 1
              · rw [if_pos hk, if_pos hk]
              · rw [if_neg hk, if_neg hk]
                cases e : decodePattern f l with
                | none => rfl
                | some z =>
                  obtain ⟨p, r⟩ := z
                  cases e2 : decodePattern f r with
                  | none => simp [e2, then_]
                  | some z2 => simp [e2, then_]
            · rw [scan_other m h0 h1 h2 h3, dec_other f h0 h1 h2 h3]
              rfl
/-- a list that is just one pattern's encoding -/
theorem dec_is {l : List Int} (h : l.length ≤ 80) : (scan 1 l = some [] ∧ ∃ z, decodePattern 40 l = some (z, []) ∧ l = encodePattern z) ∨ (scan 1 l ≠ some [] ∧ (decodePattern 40 l = none ∨ ∃ z r, decodePattern 40 l = some (z, r) ∧ r ≠ [])) := by
  have e := scan_dec 40 0 l (by omega)
  cases d : decodePattern 40 l with
  | none =>
    rw [d] at e
    exact .inr ⟨by rw [e]; simp [then_], .inl rfl⟩
  | some z =>
    obtain ⟨z, r⟩ := z
    rw [d] at e
    have e2 : scan 1 l = some r := by
      rw [e]
      exact scan_zero r
    by_cases hr : r = []
    · subst hr
      have := (dec_rest 40 l z [] d).2
      rw [List.append_nil] at this
      exact .inl ⟨e2, z, rfl, this⟩
    · exact .inr ⟨by rw [e2]; simpa using hr, .inr ⟨z, r, rfl, hr⟩⟩
section
variable {s : Saw} {l : List Int}
theorem step_check_bad (hl : l.length ≤ 80) (h : scan 1 l ≠ some []) : step (some s) (.checkPattern l) = (some s, ⟨-22, []⟩) := by
  unfold step perform
  simp only
  rcases dec_is hl with ⟨a, _⟩ | ⟨_, a | ⟨z, r, a, hr⟩⟩
  · exact absurd a h
  · rw [a]; rfl
  · rw [a]
    simp only
    rw [if_pos hr]
    rfl
theorem step_check_ok (hl : l.length ≤ 80) (h : scan 1 l = some []) : ∃ z, l = encodePattern z ∧
    (isApplicable s s.width s.height z = false → step (some s) (.checkPattern l) = (some s, ⟨-33, []⟩)) ∧
    (isApplicable s s.width s.height z = true → step (some s) (.checkPattern l) = (some s, ⟨(patternValue s z : Int), (Sr111.stoneCounts s.kinds.length z).map fun (n : Nat) => (n : Int)⟩)) := by
  rcases dec_is hl with ⟨_, z, a, b⟩ | ⟨a, _⟩
  · refine ⟨z, b, fun ha => ?_, fun ha => ?_⟩
    · unfold step perform
      simp only
      rw [a]
      simp only
      rw [if_neg (by simp), if_pos ha]
      rfl
    · unfold step perform
      simp only
      rw [a]
      simp only
      rw [if_neg (by simp), if_neg (by rw [ha]; simp)]
      rfl
  · exact absurd h a
end
end Sm

/-! Steps: read from a list, held against a slab, counted. -/
namespace Sm
open Sr111
/-! ### Stones -/
/-- the numbers of the stones' kinds -/
def stonesOf : Pattern → List Nat
  | .waste => []
  | .stone k => [k]
  | .vertical _ l r => stonesOf l ++ stonesOf r
  | .horizontal _ l r => stonesOf l ++ stonesOf r
def isStone (st : List Int) : Bool := match st with
  | a :: _ => decide (a = 1)
  | [] => false
def stonesIn (ss : List (List Int)) : List Int := (ss.filter isStone).map fun st => st.getD 1 0
theorem stonesIn_append (a b : List (List Int)) : stonesIn (a ++ b) = stonesIn a ++ stonesIn b := by
  unfold stonesIn
  rw [List.filter_append, List.map_append]
theorem stonesIn_cons (a : List Int) (b : List (List Int)) : stonesIn (a :: b) = stonesIn [a] ++ stonesIn b := stonesIn_append [a] b
theorem stonesIn_len (ss : List (List Int)) : (stonesIn ss).length ≤ ss.length := by
  unfold stonesIn
  rw [List.length_map]
  exact List.length_filter_le ..
theorem stones_in : ∀ z : Pattern, stonesIn (stepsOf z) = (stonesOf z).map fun (n : Nat) => (n : Int)
  | .waste => rfl
  | .stone k => rfl
  | .vertical c l r => by
    show stonesIn ([2, (c : Int)] :: (stepsOf l ++ stepsOf r)) = _
    rw [stonesIn_cons, stonesIn_append, stones_in l, stones_in r]
    show [] ++ _ = ((stonesOf l ++ stonesOf r).map _)
    rw [List.map_append]
    rfl
  | .horizontal c l r => by
    show stonesIn ([3, (c : Int)] :: (stepsOf l ++ stepsOf r)) = _
    rw [stonesIn_cons, stonesIn_append, stones_in l, stones_in r]
    show [] ++ _ = ((stonesOf l ++ stonesOf r).map _)
    rw [List.map_append]
    rfl
theorem stones_len (z : Pattern) : (stonesOf z).length ≤ (encodePattern z).length := by
  have h := stonesIn_len (stepsOf z)
  rw [stones_in, List.length_map] at h
  exact Nat.le_trans h (steps_len z)
theorem count_cast (l : List Nat) (k : Nat) : (l.map fun (n : Nat) => (n : Int)).count (k : Int) = l.count k := by
  induction l with
  | nil => rfl
  | cons a l ih =>
    rw [List.map_cons, List.count_cons, List.count_cons, ih]
    by_cases h : a = k
    · subst h; simp
    · have : ¬ ((a : Int) = (k : Int)) := by omega
      simp [h, this]
theorem counts_is (n : Nat) : ∀ z : Pattern, Sr111.stoneCounts n z = (List.range n).map fun k => (stonesOf z).count k
  | .waste => by
    refine List.ext_getElem (by simp [Sr111.stoneCounts]) fun i h1 h2 => ?_
    simp [Sr111.stoneCounts, stonesOf]
  | .stone k => by
    refine List.ext_getElem (by simp [Sr111.stoneCounts]) fun i h1 h2 => ?_
    simp only [Sr111.stoneCounts, stonesOf, List.getElem_set, List.getElem_replicate, List.getElem_map, List.getElem_range, List.count_cons, List.count_nil]
    by_cases h : k = i
    · subst h; simp
    · simp [h]
  | .vertical _ l r => by
    refine List.ext_getElem (by simp [Sr111.stoneCounts, counts_len]) fun i h1 h2 => ?_
    simp only [Sr111.stoneCounts, stonesOf, counts_is n l, counts_is n r, List.getElem_zipWith, List.getElem_map, List.getElem_range, List.count_append]
  | .horizontal _ l r => by
    refine List.ext_getElem (by simp [Sr111.stoneCounts, counts_len]) fun i h1 h2 => ?_
    simp only [Sr111.stoneCounts, stonesOf, counts_is n l, counts_is n r, List.getElem_zipWith, List.getElem_map, List.getElem_range, List.count_append]
theorem stones_lt {s : Saw} : ∀ {z : Pattern} {x y : Nat}, isApplicable s x y z = true → ∀ k ∈ stonesOf z, k < s.kinds.length
  | .waste, x, y, _ => by intro k hk; cases hk
  | .stone j, x, y, h => by
    intro k hk
    simp only [stonesOf, List.mem_cons, List.not_mem_nil, or_false] at hk
    subst hk
    simp only [isApplicable, Bool.and_eq_true, decide_eq_true_eq] at h
    exact h.1
  | .vertical c l r, x, y, h => by
    simp only [isApplicable, Bool.and_eq_true, decide_eq_true_eq] at h
    obtain ⟨_, _, h3, h4⟩ := h
    intro k hk
    rcases List.mem_append.mp hk with hk | hk
    · exact stones_lt h3 k hk
    · exact stones_lt h4 k hk
  | .horizontal c l r, x, y, h => by
    simp only [isApplicable, Bool.and_eq_true, decide_eq_true_eq] at h
    obtain ⟨_, _, h3, h4⟩ := h
    intro k hk
    rcases List.mem_append.mp hk with hk | hk
    · exact stones_lt h3 k hk
    · exact stones_lt h4 k hk
theorem value_is (s : Saw) : ∀ z : Pattern, patternValue s z = ((stonesOf z).map fun k => (kindAt s k).value).sum
  | .waste => rfl
  | .stone k => by simp [patternValue, stonesOf]
  | .vertical _ l r => by simp only [patternValue, stonesOf, value_is s l, value_is s r, List.map_append, List.sum_append_nat]
  | .horizontal _ l r => by simp only [patternValue, stonesOf, value_is s l, value_is s r, List.map_append, List.sum_append_nat]
theorem area_is (s : Saw) : ∀ z : Pattern, (∀ k ∈ stonesOf z, k < s.kinds.length) → areaOf s.kinds (Sr111.stoneCounts s.kinds.length z) = ((stonesOf z).map fun k => (kindAt s k).width * (kindAt s k).height).sum
  | .waste, _ => by simp [Sr111.stoneCounts, areaOf_zero, stonesOf]
  | .stone k, h => by
    have h1 := h k (by simp [stonesOf])
    simp [Sr111.stoneCounts, areaOf_set _ _ _ h1 h1, stonesOf, kindAt_get h1]
  | .vertical _ l r, h => by
    simp only [Sr111.stoneCounts, stonesOf, List.map_append, List.sum_append_nat]
    rw [areaOf_add _ _ _ (by rw [counts_len, counts_len]), area_is s l (fun k hk => h k (List.mem_append_left _ hk)), area_is s r (fun k hk => h k (List.mem_append_right _ hk))]
  | .horizontal _ l r, h => by
    simp only [Sr111.stoneCounts, stonesOf, List.map_append, List.sum_append_nat]
    rw [areaOf_add _ _ _ (by rw [counts_len, counts_len]), area_is s l (fun k hk => h k (List.mem_append_left _ hk)), area_is s r (fun k hk => h k (List.mem_append_right _ hk))]
theorem sum_zero (n : Nat) : (List.replicate n 0).sum = 0 := by
  induction n with
  | zero => rfl
  | succ n ih => rw [List.replicate_succ, List.sum_cons, ih]
theorem sum_one : ∀ (n k : Nat), k < n → ((List.replicate n 0).set k 1).sum = 1
  | 0, k, h => by omega
  | n + 1, 0, _ => by rw [List.replicate_succ, List.set_cons_zero, List.sum_cons, sum_zero]
  | n + 1, k + 1, h => by rw [List.replicate_succ, List.set_cons_succ, List.sum_cons, sum_one n k (by omega)]
theorem sum_zip : ∀ (a b : List Nat), a.length = b.length → (a.zipWith (· + ·) b).sum = a.sum + b.sum
  | [], [], _ => rfl
  | a :: as, b :: bs, h => by
    rw [List.zipWith_cons_cons, List.sum_cons, List.sum_cons, List.sum_cons, sum_zip as bs (by simpa using h)]
    omega
  | [], b :: bs, h => by simp at h
  | a :: as, [], h => by simp at h
theorem count_is (n : Nat) : ∀ z : Pattern, (∀ k ∈ stonesOf z, k < n) → (Sr111.stoneCounts n z).sum = (stonesOf z).length
  | .waste, _ => sum_zero n
  | .stone k, h => sum_one n k (h k (by simp [stonesOf]))
  | .vertical _ l r, h => by
    simp only [Sr111.stoneCounts, stonesOf, List.length_append]
    rw [sum_zip _ _ (by rw [counts_len, counts_len]), count_is n l (fun k hk => h k (List.mem_append_left _ hk)), count_is n r (fun k hk => h k (List.mem_append_right _ hk))]
  | .horizontal _ l r, h => by
    simp only [Sr111.stoneCounts, stonesOf, List.length_append]
    rw [sum_zip _ _ (by rw [counts_len, counts_len]), count_is n l (fun k hk => h k (List.mem_append_left _ hk)), count_is n r (fun k hk => h k (List.mem_append_right _ hk))]
theorem sum_cast (l : List Nat) : (l.map fun (n : Nat) => (n : Int)).sum = ((l.sum : Nat) : Int) := by
  induction l with
  | nil => rfl
  | cons a l ih =>
    rw [List.map_cons, List.sum_cons, List.sum_cons, ih]
    omega

/-! ### Reading -/
/-- the step ahead of a list, or none -/
def stepAt : List Int → Option (List Int)
  | 0 :: _ => some [0]
  | 1 :: k :: _ => if k < 0 then none else some [1, k]
  | 2 :: c :: _ => if c < 1 then none else some [2, c]
  | 3 :: c :: _ => if c < 1 then none else some [3, c]
  | _ => none
/-- how many patterns follow a step -/
def grow (st : List Int) : Nat := match st with
  | a :: _ => if a = 2 ∨ a = 3 then 2 else 0
  | [] => 0
theorem scan_step (m : Nat) (l : List Int) : scan (m + 1) l = match stepAt l with
    | none => none
    | some st => scan (m + grow st) (l.drop st.length) := by
  match l with
  | [] => rw [scan_nil]; rfl
  | [a] =>
    by_cases h0 : a = 0
    · subst h0; rw [scan_waste]; rfl
    · rw [scan_one m h0]
      have : stepAt [a] = none := by unfold stepAt; split <;> simp_all
      rw [this]
  | a :: k :: l =>
    by_cases h0 : a = 0
    · subst h0; rw [scan_waste]; rfl
    · by_cases h1 : a = 1
      · subst h1
        rw [scan_stone]
        show _ = match (if k < 0 then none else some [1, k] : Option (List Int)) with
          | none => none
          | some st => scan (m + grow st) ((1 :: k :: l).drop st.length)
        by_cases hk : k < 0
        · rw [if_pos hk, if_pos hk]
        · rw [if_neg hk, if_neg hk]; rfl
      · by_cases h2 : a = 2
        · subst h2
          rw [scan_vert]
          show _ = match (if k < 1 then none else some [2, k] : Option (List Int)) with
            | none => none
            | some st => scan (m + grow st) ((2 :: k :: l).drop st.length)
          by_cases hk : k < 1
          · rw [if_pos hk, if_pos hk]
          · rw [if_neg hk, if_neg hk]; rfl
        · by_cases h3 : a = 3
          · subst h3
            rw [scan_hori]
            show _ = match (if k < 1 then none else some [3, k] : Option (List Int)) with
              | none => none
              | some st => scan (m + grow st) ((3 :: k :: l).drop st.length)
            by_cases hk : k < 1
            · rw [if_pos hk, if_pos hk]
            · rw [if_neg hk, if_neg hk]; rfl
          · rw [scan_other m h0 h1 h2 h3]
            have : stepAt (a :: k :: l) = none := by unfold stepAt; split <;> simp_all
            rw [this]
/-- what a step read is -/
theorem stepAt_some {l st : List Int} (h : stepAt l = some st) : l.take st.length = st ∧ (st = [0] ∨ ∃ a k, st = [a, k]) := by
  unfold stepAt at h
  split at h
  · cases h; exact ⟨rfl, .inl rfl⟩
  · split at h
    · cases h
    · cases h; exact ⟨rfl, .inr ⟨_, _, rfl⟩⟩
  · split at h
    · cases h
    · cases h; exact ⟨rfl, .inr ⟨_, _, rfl⟩⟩
  · split at h
    · cases h
    · cases h; exact ⟨rfl, .inr ⟨_, _, rfl⟩⟩
  · cases h
/-- no cut of a pattern is ahead of the first width or height -/
def Pos : Pattern → Prop
  | .waste => True
  | .stone _ => True
  | .vertical c l r => 1 ≤ c ∧ Pos l ∧ Pos r
  | .horizontal c l r => 1 ≤ c ∧ Pos l ∧ Pos r
theorem dec_pos : ∀ (f : Nat) (l : List Int) (p : Pattern) (r : List Int), decodePattern f l = some (p, r) → Pos p
  | 0, l, p, r, h => by cases h
  | f + 1, l, p, r, h => by
    unfold decodePattern at h
    split at h
    · cases h; trivial
    · split at h
      · cases h
      · cases h; trivial
    · split at h
      · cases h
      · split at h
        · cases h
        · rename_i hc _ left l2 e1
          cases e2 : decodePattern f l2 with
          | none => rw [e2] at h; cases h
          | some z =>
            obtain ⟨q, r2⟩ := z
            rw [e2] at h
            cases h
            exact ⟨by omega, dec_pos f _ _ _ e1, dec_pos f _ _ _ e2⟩
    · split at h
      · cases h
      · split at h
        · cases h
        · rename_i hc _ left l2 e1
          cases e2 : decodePattern f l2 with
          | none => rw [e2] at h; cases h
          | some z =>
            obtain ⟨q, r2⟩ := z
            rw [e2] at h
            cases h
            exact ⟨by omega, dec_pos f _ _ _ e1, dec_pos f _ _ _ e2⟩
    · cases h
/-- a pattern's first step, and the patterns behind it -/
inductive Fst : Pattern → List Int → List Pattern → Prop
  | waste : Fst .waste [0] []
  | stone (k : Nat) : Fst (.stone k) [1, (k : Int)] []
  | vert (c : Nat) (l r : Pattern) : Fst (.vertical c l r) [2, (c : Int)] [l, r]
  | hori (c : Nat) (l r : Pattern) : Fst (.horizontal c l r) [3, (c : Int)] [l, r]
theorem fst (p : Pattern) : ∃ st qs, Fst p st qs := by
  cases p with
  | waste => exact ⟨_, _, .waste⟩
  | stone k => exact ⟨_, _, .stone k⟩
  | vertical c l r => exact ⟨_, _, .vert c l r⟩
  | horizontal c l r => exact ⟨_, _, .hori c l r⟩
theorem Fst.steps {p : Pattern} {st : List Int} {qs : List Pattern} (h : Fst p st qs) : stepsOf p = st :: qs.flatMap stepsOf := by
  cases h <;> simp [stepsOf]
theorem Fst.enc {p : Pattern} {st : List Int} {qs : List Pattern} (h : Fst p st qs) : encodePattern p = st ++ qs.flatMap encodePattern := by
  cases h <;> simp [encodePattern]
theorem Fst.grow {p : Pattern} {st : List Int} {qs : List Pattern} (h : Fst p st qs) : Sm.grow st = qs.length := by
  cases h <;> rfl
theorem Fst.pos {p : Pattern} {st : List Int} {qs : List Pattern} (h : Fst p st qs) (hp : Pos p) : ∀ q ∈ qs, Pos q := by
  cases h with
  | waste => intro q hq; cases hq
  | stone k => intro q hq; cases hq
  | vert c l r =>
    intro q hq
    simp only [List.mem_cons, List.not_mem_nil, or_false] at hq
    rcases hq with rfl | rfl
    · exact hp.2.1
    · exact hp.2.2
  | hori c l r =>
    intro q hq
    simp only [List.mem_cons, List.not_mem_nil, or_false] at hq
    rcases hq with rfl | rfl
    · exact hp.2.1
    · exact hp.2.2
theorem Fst.read {p : Pattern} {st : List Int} {qs : List Pattern} (h : Fst p st qs) (hp : Pos p) (r : List Int) : stepAt (encodePattern p ++ r) = some st := by
  cases h with
  | waste => rfl
  | stone k =>
    show (if (k : Int) < 0 then none else some [1, (k : Int)]) = _
    rw [if_neg (by omega)]
  | vert c l q =>
    show (if (c : Int) < 1 then none else some [2, (c : Int)]) = _
    rw [if_neg (by have := hp.1; omega)]
  | hori c l q =>
    show (if (c : Int) < 1 then none else some [3, (c : Int)]) = _
    rw [if_neg (by have := hp.1; omega)]
/-- how far a list is read: the steps so far, the patterns to come -/
structure Read (l : List Int) (pl m : Nat) (ss : List (List Int)) : Prop where
  le : pl ≤ l.length
  sc : scan 1 l = scan m (l.drop pl)
  ok : ∀ z, l = encodePattern z → Pos z → ∃ pats : List Pattern, m = pats.length ∧ l.drop pl = pats.flatMap encodePattern ∧ stepsOf z = ss ++ pats.flatMap stepsOf ∧ ∀ p ∈ pats, Pos p
  cnt : ss.length ≤ pl
theorem Read.start (l : List Int) : Read l 0 1 [] :=
  ⟨Nat.zero_le _, rfl, fun z hz hp => ⟨[z], rfl, by simp [hz], by simp, by simpa using hp⟩, Nat.zero_le _⟩
/-- one step more -/
theorem Read.turn {l : List Int} {pl m : Nat} {ss : List (List Int)} (h : Read l pl (m + 1) ss) {st : List Int} (e : stepAt (l.drop pl) = some st) : Read l (pl + st.length) (m + grow st) (ss ++ [st]) := by
  obtain ⟨ht, hs⟩ := stepAt_some e
  have hl : 1 ≤ st.length := by rcases hs with rfl | ⟨a, k, rfl⟩ <;> simp
  have hle : pl + st.length ≤ l.length := by
    have := congrArg List.length ht
    rw [List.length_take, List.length_drop] at this
    have := h.le
    omega
  refine ⟨hle, ?_, fun z hz hp => ?_, by rw [List.length_append]; have := h.cnt; simp; omega⟩
  · rw [h.sc, scan_step, e]
    simp only
    rw [List.drop_drop]
  · obtain ⟨pats, h1, h2, h3, h4⟩ := h.ok z hz hp
    cases pats with
    | nil => simp at h1
    | cons p pats =>
      obtain ⟨st', qs, hf⟩ := fst p
      have e2 : stepAt (l.drop pl) = some st' := by
        rw [h2, List.flatMap_cons]
        exact hf.read (h4 p (by simp)) _
      rw [e] at e2
      obtain rfl : st = st' := Option.some.inj e2
      refine ⟨qs ++ pats, ?_, ?_, ?_, fun q hq => ?_⟩
      · rw [List.length_append, ← hf.grow]
        simp at h1
        omega
      · rw [← List.drop_drop, h2, List.flatMap_cons, hf.enc, List.append_assoc, List.drop_left, List.flatMap_append]
      · rw [h3, List.flatMap_cons, hf.steps, List.flatMap_append]
        simp
      · rcases List.mem_append.mp hq with hq | hq
        · exact hf.pos (h4 p (by simp)) q hq
        · exact h4 q (by simp [hq])
theorem Read.none {l : List Int} {pl m : Nat} {ss : List (List Int)} (h : Read l pl (m + 1) ss) (e : stepAt (l.drop pl) = none) : scan 1 l ≠ some [] := by
  rw [h.sc, scan_step, e]
  simp
theorem Read.left {l : List Int} {pl : Nat} {ss : List (List Int)} (h : Read l pl 0 ss) (e : pl < l.length) : scan 1 l ≠ some [] := by
  rw [h.sc, scan_zero]
  intro h2
  have := congrArg List.length (Option.some.inj h2)
  rw [List.length_drop] at this
  simp at this
  omega
theorem Read.all {l : List Int} {pl : Nat} {ss : List (List Int)} (h : Read l pl 0 ss) (e : ¬ pl < l.length) : scan 1 l = some [] ∧ ∀ z, l = encodePattern z → Pos z → ss = stepsOf z := by
  refine ⟨?_, fun z hz hp => ?_⟩
  · rw [h.sc, scan_zero, List.drop_eq_nil_of_le (by omega)]
  · obtain ⟨pats, h1, h2, h3, h4⟩ := h.ok z hz hp
    cases pats with
    | nil => rw [h3]; simp
    | cons p pats => simp at h1
theorem dec_is' {l : List Int} (h : l.length ≤ 80) (hs : scan 1 l = some []) : ∃ z, l = encodePattern z ∧ Pos z ∧ decodePattern 40 l = some (z, []) := by
  rcases dec_is h with ⟨_, z, a, b⟩ | ⟨a, _⟩
  · exact ⟨z, b, dec_pos _ _ _ _ a, a⟩
  · exact absurd hs a
section
variable {s : Saw} {l : List Int}
theorem check_ok (hl : l.length ≤ 80) (h : scan 1 l = some []) : ∃ z, l = encodePattern z ∧ Pos z ∧
    (isApplicable s s.width s.height z = false → step (some s) (.checkPattern l) = (some s, ⟨-33, []⟩)) ∧
    (isApplicable s s.width s.height z = true → step (some s) (.checkPattern l) = (some s, ⟨(patternValue s z : Int), (Sr111.stoneCounts s.kinds.length z).map fun (n : Nat) => (n : Int)⟩)) := by
  obtain ⟨z, b, hp, a⟩ := dec_is' hl h
  refine ⟨z, b, hp, fun ha => ?_, fun ha => ?_⟩
  · unfold step perform
    simp only
    rw [a]
    simp only
    rw [if_neg (by simp), if_pos ha]
    rfl
  · unfold step perform
    simp only
    rw [a]
    simp only
    rw [if_neg (by simp), if_neg (by rw [ha]; simp)]
    rfl
end

/-! ### Held against a slab -/
/-- a step fits a piece, whatever becomes of its parts -/
def stepFits (ks : List Kind) (x y : Nat) (st : List Int) : Bool := match st with
  | [1, k] => match ks[k.toNat]? with
    | some q => matchesKind q x y
    | none => false
  | [2, c] => decide (c < (x : Int))
  | [3, c] => decide (c < (y : Int))
  | _ => true
/-- patterns still to come, each with its piece -/
abbrev Wk := List (Pattern × Nat × Nat)
def okAll (s : Saw) (w : Wk) : Bool := w.all fun z => isApplicable s z.2.1 z.2.2 z.1
theorem Fst.fits {s : Saw} {p : Pattern} {st : List Int} {qs : List Pattern} (h : Fst p st qs) (hp : Pos p) {x y : Nat} (hx : 1 ≤ x) (hy : 1 ≤ y) :
    (stepFits s.kinds x y st = false ∧ isApplicable s x y p = false) ∨ (stepFits s.kinds x y st = true ∧ ∃ ps : List (Nat × Nat), Prt x y st ps ∧ ps.length = qs.length ∧ isApplicable s x y p = okAll s (qs.zip ps)) := by
  cases h with
  | waste => exact .inr ⟨rfl, [], .waste, rfl, rfl⟩
  | stone k =>
    have e : stepFits s.kinds x y [1, (k : Int)] = isApplicable s x y (.stone k) := by
      show (match s.kinds[k]? with
        | some q => matchesKind q x y
        | none => false) = (decide (k < s.kinds.length) && matchesKind (kindAt s k) x y)
      by_cases hk : k < s.kinds.length
      · rw [List.getElem?_eq_getElem hk, kindAt_get hk, decide_eq_true hk]
        rfl
      · rw [List.getElem?_eq_none (by omega), decide_eq_false hk]
        rfl
    cases h2 : isApplicable s x y (.stone k) with
    | false => exact .inl ⟨by rw [e, h2], rfl⟩
    | true => exact .inr ⟨by rw [e, h2], [], .stone k, rfl, rfl⟩
  | vert c l r =>
    have h1 : 1 ≤ c := hp.1
    have e : stepFits s.kinds x y [2, (c : Int)] = decide (c < x) := decide_eq_decide.mpr (by omega)
    by_cases h2 : c < x
    · refine .inr ⟨by rw [e]; exact decide_eq_true h2, [(c, y), (x - c, y)], .vert c h1 h2, rfl, ?_⟩
      simp only [isApplicable, decide_eq_true h1, decide_eq_true h2, Bool.true_and]
      simp [okAll]
    · refine .inl ⟨by rw [e]; exact decide_eq_false h2, ?_⟩
      simp only [isApplicable, decide_eq_false h2, Bool.false_and, Bool.and_false]
  | hori c l r =>
    have h1 : 1 ≤ c := hp.1
    have e : stepFits s.kinds x y [3, (c : Int)] = decide (c < y) := decide_eq_decide.mpr (by omega)
    by_cases h2 : c < y
    · refine .inr ⟨by rw [e]; exact decide_eq_true h2, [(x, c), (x, y - c)], .hori c h1 h2, rfl, ?_⟩
      simp only [isApplicable, decide_eq_true h1, decide_eq_true h2, Bool.true_and]
      simp [okAll]
    · refine .inl ⟨by rw [e]; exact decide_eq_false h2, ?_⟩
      simp only [isApplicable, decide_eq_false h2, Bool.false_and, Bool.and_false]
/-- how far a pattern's steps are held against the slab: what is still to come, each with its piece -/
structure Held (s : Saw) (z : Pattern) (ss : List (List Int)) (i : Nat) (w : Wk) : Prop where
  st : ss.drop i = w.flatMap fun q => stepsOf q.1
  ok : isApplicable s s.width s.height z = okAll s w
  pos : ∀ q ∈ w, Pos q.1 ∧ 1 ≤ q.2.1 ∧ 1 ≤ q.2.2
  len : w.length ≤ i + 1
theorem Held.start {s : Saw} (f : Fit s) {z : Pattern} (hp : Pos z) : Held s z (stepsOf z) 0 [(z, s.width, s.height)] :=
  ⟨by simp, by simp [okAll], by simp; exact ⟨hp, f.w1, f.h1⟩, Nat.le_refl _⟩
theorem zip_map_fst {α β : Type} : ∀ {a : List α} {b : List β}, b.length = a.length → (a.zip b).map Prod.fst = a ∧ (a.zip b).map Prod.snd = b
  | [], [], _ => ⟨rfl, rfl⟩
  | a :: as, b :: bs, h => by
    have := zip_map_fst (a := as) (b := bs) (by simpa using h)
    exact ⟨by rw [List.zip_cons_cons, List.map_cons, this.1], by rw [List.zip_cons_cons, List.map_cons, this.2]⟩
  | [], b :: bs, h => by simp at h
  | a :: as, [], h => by simp at h
theorem Held.turn {s : Saw} {z : Pattern} {ss : List (List Int)} {i : Nat} {w : Wk} (h : Held s z ss i w) {st : List Int} (hi : ss[i]? = some st) :
    ∃ p x y w', w = (p, x, y) :: w' ∧ 1 ≤ x ∧ 1 ≤ y ∧ ((stepFits s.kinds x y st = false ∧ isApplicable s s.width s.height z = false) ∨
      (stepFits s.kinds x y st = true ∧ ∃ (ps : List (Nat × Nat)) (u : Wk), Prt x y st ps ∧ u.map Prod.snd = ps ∧ Held s z ss (i + 1) (u ++ w'))) := by
  have hlt := (List.getElem?_eq_some_iff.mp hi).1
  have hd : ss.drop i = st :: ss.drop (i + 1) := by
    rw [List.drop_eq_getElem_cons hlt]
    congr 1
    exact (List.getElem?_eq_some_iff.mp hi).2
  cases w with
  | nil =>
    have := h.st
    rw [hd] at this
    cases this
  | cons q w' =>
    obtain ⟨p, x, y⟩ := q
    obtain ⟨hpp, hx, hy⟩ := h.pos (p, x, y) (by simp)
    obtain ⟨st', qs, hf⟩ := fst p
    have hs := h.st
    rw [hd, List.flatMap_cons, hf.steps, List.cons_append] at hs
    obtain ⟨e1, e2⟩ := List.cons.inj hs
    subst e1
    refine ⟨p, x, y, w', rfl, hx, hy, ?_⟩
    rcases hf.fits (s := s) hpp hx hy with ⟨a, b⟩ | ⟨a, ps, hprt, hl, b⟩
    · refine .inl ⟨a, ?_⟩
      rw [h.ok]
      show (isApplicable s x y p && okAll s w') = false
      rw [b, Bool.false_and]
    · obtain ⟨z1, z2⟩ := zip_map_fst hl
      refine .inr ⟨a, ps, qs.zip ps, hprt, z2, ⟨?_, ?_, fun q hq => ?_, ?_⟩⟩
      · rw [e2, List.flatMap_append]
        congr 1
        have : ((qs.zip ps).map Prod.fst).flatMap stepsOf = qs.flatMap stepsOf := by rw [z1]
        rw [← this, List.flatMap_map]
      · rw [h.ok]
        show (isApplicable s x y p && okAll s w') = okAll s (qs.zip ps ++ w')
        rw [b]
        unfold okAll
        rw [List.all_append]
      · rcases List.mem_append.mp hq with hq | hq
        · have m1 : q.1 ∈ qs := by
            rw [← z1]
            exact List.mem_map_of_mem hq
          have m2 : q.2 ∈ ps := by
            rw [← z2]
            exact List.mem_map_of_mem hq
          have := hprt.within hx hy q.2 m2
          exact ⟨hf.pos hpp q.1 m1, this.1, this.2.2.1⟩
        · exact h.pos q (by simp [hq])
      · have h1 := h.len
        have h2 : ps.length ≤ 2 := by cases hprt <;> simp
        rw [List.length_append, List.length_zip]
        rw [List.length_cons] at h1
        omega
theorem Held.end_ {s : Saw} {z : Pattern} {ss : List (List Int)} {i : Nat} {w : Wk} (h : Held s z ss i w) (hi : ss.length ≤ i) : isApplicable s s.width s.height z = true := by
  have hs := h.st
  rw [List.drop_eq_nil_of_le hi] at hs
  cases w with
  | nil => rw [h.ok]; rfl
  | cons q w =>
    obtain ⟨st, qs, hf⟩ := fst q.1
    rw [List.flatMap_cons, hf.steps] at hs
    cases hs

/-! ### How many, of which form -/
def IsStep (st : List Int) : Prop := st = [0] ∨ ∃ a k, st = [a, k]
theorem Prt.isStep {x y : Nat} {st : List Int} {ps : List (Nat × Nat)} (h : Prt x y st ps) : IsStep st := by
  cases h with
  | waste => exact .inl rfl
  | stone k => exact .inr ⟨_, _, rfl⟩
  | vert c h1 h2 => exact .inr ⟨_, _, rfl⟩
  | hori c h1 h2 => exact .inr ⟨_, _, rfl⟩
theorem steps_are : ∀ (z : Pattern), ∀ st ∈ stepsOf z, IsStep st
  | .waste => by intro st h; simp [stepsOf] at h; exact .inl h
  | .stone k => by intro st h; simp [stepsOf] at h; exact .inr ⟨_, _, h⟩
  | .vertical c l r => by
    intro st h
    simp only [stepsOf, List.mem_cons, List.mem_append] at h
    rcases h with h | h | h
    · exact .inr ⟨_, _, h⟩
    · exact steps_are l st h
    · exact steps_are r st h
  | .horizontal c l r => by
    intro st h
    simp only [stepsOf, List.mem_cons, List.mem_append] at h
    rcases h with h | h | h
    · exact .inr ⟨_, _, h⟩
    · exact steps_are l st h
    · exact steps_are r st h
theorem steps_pos (z : Pattern) : 1 ≤ (stepsOf z).length := by
  cases z <;> simp [stepsOf]
theorem sts_len (ks : List Kind) {x y : Nat} (hx : 1 ≤ x) (hy : 1 ≤ y) : (sts ks x y).length + 2 ≤ 4 * (x * y) := by
  have h1 := steps_len (best ks x y)
  have h2 := enc_len ks _ x y (Nat.le_refl _) hx hy
  unfold enc at h2
  unfold sts
  omega
theorem stss_len (ks : List Kind) : ∀ ps : List (Nat × Nat), ps.length ≤ (stss ks ps).length
  | [] => Nat.zero_le _
  | p :: ps => by
    have h1 := stss_len ks ps
    have h2 := steps_pos (best ks p.1 p.2)
    rw [stss_cons, List.length_append, List.length_cons]
    unfold sts
    omega
theorem sts_flat (ks : List Kind) (x y : Nat) : (sts ks x y).flatten = enc ks x y := steps_flat _
theorem stonesIn_more {ss : List (List Int)} {i : Nat} {st : List Int} (h : ss[i]? = some st) : stonesIn (ss.take (i + 1)) = stonesIn (ss.take i) ++ stonesIn [st] := by
  rw [take_more h, stonesIn_append]
theorem flat_more {ss : List (List Int)} {i : Nat} {st : List Int} (h : ss[i]? = some st) : (ss.take (i + 1)).flatten = (ss.take i).flatten ++ st := by
  rw [take_more h, List.flatten_append]
  simp
theorem flat_take (ss : List (List Int)) (i : Nat) : (ss.take i).flatten.length ≤ ss.flatten.length := by
  have h := congrArg (fun l : List (List Int) => l.flatten.length) (List.take_append_drop i ss)
  simp only [List.flatten_append, List.length_append] at h
  omega
theorem stepAt_one {a : Int} (h : a ≠ 0) : stepAt [a] = none := by unfold stepAt; split <;> simp_all
theorem stepAt_stone (k : Int) (r : List Int) : stepAt (1 :: k :: r) = if k < 0 then none else some [1, k] := rfl
theorem stepAt_cut {a : Int} (h : a = 2 ∨ a = 3) (k : Int) (r : List Int) : stepAt (a :: k :: r) = if k < 1 then none else some [a, k] := by
  rcases h with rfl | rfl <;> rfl
theorem stepAt_other {a : Int} (h0 : a ≠ 0) (h1 : a ≠ 1) (h2 : ¬ (a = 2 ∨ a = 3)) (k : Int) (r : List Int) : stepAt (a :: k :: r) = none := by
  unfold stepAt; split <;> simp_all
theorem grow_is {a : Int} (r : List Int) : grow (a :: r) = if a = 2 ∨ a = 3 then 2 else 0 := rfl
/-- a stone is no wider than the slab is wide or high -/
theorem stones_small {s : Saw} : ∀ {z : Pattern} {x y : Nat}, isApplicable s x y z = true → x ≤ 9 → y ≤ 9 → ∀ k ∈ stonesOf z, (kindAt s k).width ≤ 9
  | .waste, x, y, _, _, _ => by intro k hk; cases hk
  | .stone j, x, y, h, hx, hy => by
    intro k hk
    simp only [stonesOf, List.mem_cons, List.not_mem_nil, or_false] at hk
    subst hk
    simp only [isApplicable, Bool.and_eq_true, decide_eq_true_eq] at h
    have h2 := h.2
    unfold matchesKind at h2
    simp at h2
    omega
  | .vertical c l r, x, y, h, hx, hy => by
    simp only [isApplicable, Bool.and_eq_true, decide_eq_true_eq] at h
    obtain ⟨_, _, h3, h4⟩ := h
    intro k hk
    rcases List.mem_append.mp hk with hk | hk
    · exact stones_small h3 (by omega) hy k hk
    · exact stones_small h4 (by omega) hy k hk
  | .horizontal c l r, x, y, h, hx, hy => by
    simp only [isApplicable, Bool.and_eq_true, decide_eq_true_eq] at h
    obtain ⟨_, _, h3, h4⟩ := h
    intro k hk
    rcases List.mem_append.mp hk with hk | hk
    · exact stones_small h3 hx (by omega) k hk
    · exact stones_small h4 hx (by omega) k hk
theorem steps_fst : ∀ (z : Pattern), ∀ st ∈ stepsOf z, ∃ p qs, Fst p st qs
  | .waste => by intro st h; simp [stepsOf] at h; subst h; exact ⟨_, _, .waste⟩
  | .stone k => by intro st h; simp [stepsOf] at h; subst h; exact ⟨_, _, .stone k⟩
  | .vertical c l r => by
    intro st h
    simp only [stepsOf, List.mem_cons, List.mem_append] at h
    rcases h with h | h | h
    · subst h; exact ⟨_, _, .vert c l r⟩
    · exact steps_fst l st h
    · exact steps_fst r st h
  | .horizontal c l r => by
    intro st h
    simp only [stepsOf, List.mem_cons, List.mem_append] at h
    rcases h with h | h | h
    · subst h; exact ⟨_, _, .hori c l r⟩
    · exact steps_fst l st h
    · exact steps_fst r st h
theorem check_bad_fit {s : Saw} {l : List Int} {z : Pattern} (a : decodePattern 40 l = some (z, [])) (ha : isApplicable s s.width s.height z = false) : step (some s) (.checkPattern l) = (some s, ⟨-33, []⟩) := by
  unfold step perform
  simp only
  rw [a]
  simp only
  rw [if_neg (by simp), if_pos ha]
  rfl
theorem check_fit {s : Saw} {l : List Int} {z : Pattern} (a : decodePattern 40 l = some (z, [])) (ha : isApplicable s s.width s.height z = true) : step (some s) (.checkPattern l) = (some s, ⟨(patternValue s z : Int), (Sr111.stoneCounts s.kinds.length z).map fun (n : Nat) => (n : Int)⟩) := by
  unfold step perform
  simp only
  rw [a]
  simp only
  rw [if_neg (by simp), if_neg (by rw [ha]; simp)]
  rfl
/-- how many stones there are of each kind, as numbers -/
theorem counts_int (n : Nat) (z : Pattern) : ((List.range n).map fun (k : Nat) => ((((stonesOf z).map fun (n : Nat) => (n : Int)).count (k : Int) : Nat) : Int)) = (Sr111.stoneCounts n z).map fun (n : Nat) => (n : Int) := by
  rw [counts_is, List.map_map]
  refine List.map_congr_left fun k _ => ?_
  rw [count_cast]
  rfl
theorem best_is_ok {s : Saw} (f : Fit s) : isApplicable s s.width s.height (best s.kinds s.width s.height) = true := (best_applies s _ s.width s.height (Nat.le_refl _) f.w1 f.h1).1
theorem best_stones_len {s : Saw} (f : Fit s) : (stonesOf (best s.kinds s.width s.height)).length ≤ 1000 := by
  have h1 := stones_len (best s.kinds s.width s.height)
  have h2 := enc_len s.kinds _ s.width s.height (Nat.le_refl _) f.w1 f.h1
  have h3 : s.width * s.height ≤ 9 * 9 := Nat.mul_le_mul f.w9 f.h9
  unfold enc at h2
  omega
theorem best_sum {s : Saw} (f : Fit s) : (bestCounts s).sum = (stonesOf (best s.kinds s.width s.height)).length := count_is _ _ (stones_lt (best_is_ok f))
theorem best_area {s : Saw} (f : Fit s) : areaOf s.kinds (bestCounts s) = ((stonesOf (best s.kinds s.width s.height)).map fun k => (kindAt s k).width * (kindAt s k).height).sum := area_is s _ (stones_lt (best_is_ok f))
/-! ### Lists without a place -/
theorem erase_snoc {α : Type} (l : List α) (a : α) (k : Nat) : (l ++ [a]).eraseIdx k = if k = l.length then l.eraseIdx k else l.eraseIdx k ++ [a] := by
  by_cases h : k < l.length
  · rw [List.eraseIdx_append_of_lt_length h, if_neg (by omega)]
  · rw [List.eraseIdx_append_of_length_le (by omega)]
    by_cases h2 : k = l.length
    · rw [if_pos h2, h2, Nat.sub_self, List.eraseIdx_of_length_le (l := l) (Nat.le_refl _)]
      simp
    · rw [if_neg h2]
      have e : k - l.length = (k - l.length - 1) + 1 := by omega
      rw [e, List.eraseIdx_of_length_le (l := l) (by omega)]
      rfl
end Sm

/-! What lies in the heap, what the top has written; the ranges; the kinds. -/
namespace Sb
open PySem PySem.Spec PyProof.Rows L2
open PySem.W (Codec)
def top (i : Nat) : Stmt := PySem.Challenge.pw_slabsaw_s01_answers.main.body.getD i (.Pass ⟨0, 0, 0, 0⟩)

/-! ### Words -/
theorem lk_here {k : Str} {v : V} {r : List (Str × V)} : List.lookup k ((k, v) :: r) = some v := by
  have e : (k == k) = true := beq_self_eq_true k
  simp only [List.lookup, e]
theorem lk_past {k g : Str} {v : V} {r : List (Str × V)} (h : (k == g) = false) : List.lookup k ((g, v) :: r) = List.lookup k r := by
  simp only [List.lookup, h]
theorem lk_nil {k : Str} : List.lookup k ([] : List (Str × V)) = none := rfl
theorem put_here {f : Str} {v x : V} {r : List (Str × V)} : putF f v ((f, x) :: r) = (f, v) :: r := if_pos rfl
theorem put_past {f g : Str} {v x : V} {r : List (Str × V)} (h : ¬ g = f) : putF f v ((g, x) :: r) = (g, x) :: putF f v r := if_neg h
theorem put_nil {f : Str} {v : V} : putF f v [] = [(f, v)] := rfl
/-- an if whose test is known -/
theorem ifT {c : Bool} {A B : Prop} (hc : c = true) (h : A) : if c = true then A else B := by
  rw [if_pos hc]
  exact h
theorem ifF {c : Bool} {A B : Prop} (hc : c = false) (h : B) : if c = true then A else B := by
  rw [hc, if_neg Bool.false_ne_true]
  exact h

/-- a def that is called by its name -/
structure Cal (P : Program) (w : World) (K : PySem.W.Frag) (mg : Str → Option Value) (base : Heap) (x : Str) (k : Nat) (ps : List Str) (sp : Sp) : Prop where
  ex : ∃ (f : Addr) (fd : FuncData), mg x = some (.ref f) ∧ PySem.W.keepIn K (.ref f) = true ∧ Binds K fd ps [] ∧ FnOk P w K mg base CX0 k f fd ps sp
/-- a method -/
structure MCal (P : Program) (w : World) (K : PySem.W.Frag) (mg : Str → Option Value) (base : Heap) (C : Addr) (x : Str) (k : Nat) (ps : List Str) (sp : Sp) : Prop where
  ex : ∃ (f : Addr) (fd : FuncData), Meth K C x f ∧ Binds K fd ps [] ∧ FnOk P w K mg base CX0 k f fd ps sp

/-- a constant of the top that is a whole number -/
theorem pe_k {X : Cx} {x : Str} {i : Int} {pos : Pos} (hg : Gl X x) (h : ∃ t, X.mg x = some (.int i t)) (hd : (x == ("__debug__" : Str)) = false := by decide) : PE X (.Name x pos) (tC (.int i)) := by
  obtain ⟨t, e⟩ := h
  exact pe_glob hg e ⟨t, rfl⟩ hd
theorem vi {i j : Int} : (V.int i = V.int j) ↔ i = j := ⟨fun h => V.int.inj h, fun h => by rw [h]⟩

/-- what the top has written -/
structure Txt (K : PySem.W.Frag) (mg : Str → Option Value) (CK CS : Addr) : Prop where
  cl_Kind : Cls K CK
  n_width : NoAttr K CK "width"
  n_height : NoAttr K CK "height"
  n_value : NoAttr K CK "value"
  n_may_turn : NoAttr K CK "may_turn"
  m_Kind : mg "Kind" = some (.ref CK)
  cl_Saw : Cls K CS
  s_exists : NoAttr K CS "exists"
  s_width : NoAttr K CS "width"
  s_height : NoAttr K CS "height"
  s_kinds : NoAttr K CS "kinds"
  m_Saw : mg "Saw" = some (.ref CS)
  b_len : mg "len" = none
  b_max : mg "max" = none
  b_range : mg "range" = none
  b_enumerate : mg "enumerate" = none
  b_sum : mg "sum" = none
  b_list : mg "list" = none
  k_LONGEST_SIDE : ∃ t, mg "LONGEST_SIDE" = some (.int 9 t)
  k_HIGHEST_VALUE : ∃ t, mg "HIGHEST_VALUE" = some (.int 999 t)
  k_MOST_KINDS : ∃ t, mg "MOST_KINDS" = some (.int 5 t)
  k_PARAMETER_COUNTS : ∃ a, mg "PARAMETER_COUNTS" = some (.ref a) ∧ ∀ H : Hp, SqT K H a [.int 2, .int 4, .int 1, .int 2, .int 2, .int 2, .int 0, .int 2, .int 0, .int 0, .int 0, .int 1, .int 1, .int 1, .int 2, .int 1, .int 0]
  k_CREATE : ∃ t, mg "CREATE" = some (.int 0 t)
  k_ADD_KIND : ∃ t, mg "ADD_KIND" = some (.int 1 t)
  k_REMOVE_KIND : ∃ t, mg "REMOVE_KIND" = some (.int 2 t)
  k_SET_VALUE : ∃ t, mg "SET_VALUE" = some (.int 3 t)
  k_SET_MAY_TURN : ∃ t, mg "SET_MAY_TURN" = some (.int 4 t)
  k_SET_SLAB : ∃ t, mg "SET_SLAB" = some (.int 5 t)
  k_MAX_VALUE : ∃ t, mg "MAX_VALUE" = some (.int 6 t)
  k_MAX_VALUE_OF : ∃ t, mg "MAX_VALUE_OF" = some (.int 7 t)
  k_BEST_PATTERN : ∃ t, mg "BEST_PATTERN" = some (.int 8 t)
  k_STONE_COUNTS : ∃ t, mg "STONE_COUNTS" = some (.int 9 t)
  k_WASTE_AREA : ∃ t, mg "WASTE_AREA" = some (.int 10 t)
  k_CHECK_PATTERN : ∃ t, mg "CHECK_PATTERN" = some (.int 11 t)
  k_VALUES_FOR_HEIGHT : ∃ t, mg "VALUES_FOR_HEIGHT" = some (.int 12 t)
  k_MAX_VALUE_WITHOUT : ∃ t, mg "MAX_VALUE_WITHOUT" = some (.int 13 t)
  k_MAX_VALUE_IF_VALUE : ∃ t, mg "MAX_VALUE_IF_VALUE" = some (.int 14 t)
  k_NO_FIT : ∃ t, mg "NO_FIT" = some (.int (-33) t)
  k_NO_INSTANCE : ∃ t, mg "NO_INSTANCE" = some (.int (-11) t)
  k_NO_SUCH_KIND : ∃ t, mg "NO_SUCH_KIND" = some (.int (-2) t)
  k_OUT_OF_RANGE : ∃ t, mg "OUT_OF_RANGE" = some (.int (-22) t)
  k_TOO_MANY_KINDS : ∃ t, mg "TOO_MANY_KINDS" = some (.int (-28) t)
  k_WASTE : ∃ t, mg "WASTE" = some (.int 0 t)
  k_STONE : ∃ t, mg "STONE" = some (.int 1 t)
  k_VERTICAL_CUT : ∃ t, mg "VERTICAL_CUT" = some (.int 2 t)
  k_HORIZONTAL_CUT : ∃ t, mg "HORIZONTAL_CUT" = some (.int 3 t)

/-! ### Kinds in the heap -/
/-- a kind's attributes, in the order in which __init__ sets them -/
def kF (k : Sr111.Kind) : List (Str × V) := [("width", .int (k.width : Int)), ("height", .int (k.height : Int)), ("value", .int (k.value : Int)), ("may_turn", .int (SrCommon.boolToInt k.mayTurn))]
def KindAt (CK : Addr) (H : Hp) (a : Addr) (k : Sr111.Kind) : Prop := ∃ dx, H a = some (.ins CK dx (kF k))
theorem kF_width (k : Sr111.Kind) : (kF k).lookup ("width" : Str) = some (.int (k.width : Int)) := lk_here
theorem kF_height (k : Sr111.Kind) : (kF k).lookup ("height" : Str) = some (.int (k.height : Int)) := (lk_past (by decide +kernel)).trans lk_here
theorem kF_value (k : Sr111.Kind) : (kF k).lookup ("value" : Str) = some (.int (k.value : Int)) := (lk_past (by decide +kernel)).trans ((lk_past (by decide +kernel)).trans lk_here)
theorem kF_may_turn (k : Sr111.Kind) : (kF k).lookup ("may_turn" : Str) = some (.int (SrCommon.boolToInt k.mayTurn)) := (lk_past (by decide +kernel)).trans ((lk_past (by decide +kernel)).trans ((lk_past (by decide +kernel)).trans lk_here))
theorem kF_matches (k : Sr111.Kind) : (kF k).lookup ("matches" : Str) = none := (lk_past (by decide +kernel)).trans ((lk_past (by decide +kernel)).trans ((lk_past (by decide +kernel)).trans ((lk_past (by decide +kernel)).trans rfl)))
/-- the list at l holds the kinds ks, one object each -/
structure KindsAt (CK : Addr) (H : Hp) (l : Addr) (as : List Addr) (ks : List Sr111.Kind) : Prop where
  lst : H l = some (.lst (as.map V.ref))
  nd : as.Nodup
  len : as.length = ks.length
  at_ : ∀ (j : Nat) (a : Addr) (k : Sr111.Kind), as[j]? = some a → ks[j]? = some k → KindAt CK H a k
theorem KindsAt.same {CK : Addr} {H H' : Hp} {l : Addr} {as : List Addr} {ks : List Sr111.Kind} (h : KindsAt CK H l as ks) (s : Same H H') : KindsAt CK H' l as ks :=
  ⟨s _ _ h.lst, h.nd, h.len, fun j a k h1 h2 => let ⟨dx, e⟩ := h.at_ j a k h1 h2; ⟨dx, s _ _ e⟩⟩

section
variable {P : Program} {w : World} {K : PySem.W.Frag} {mg : Str → Option Value} {base : Heap} {CK CS : Addr}

/-! ### limits -/
/-- a number in, a truth value out, nothing else -/
def spTest (p : Int → Bool) : Sp := fun vs H Q _ => ∃ z : Int, vs = [.int z] ∧ Q (.bl (p z)) H
abbrev s_is_side : Stmt := top 9
theorem sc_is_side : FnScope ["number"] ["number"] (defScope s_is_side) := ⟨rfl, rfl, rfl, by decide +kernel, rfl, by decide +kernel, by decide +kernel⟩
theorem ok_is_side {f : Addr} {fd : FuncData} (F : Fun K "is_side" "is_side" s_is_side f fd) (T : Txt K mg CK CS) : FnOk P w K mg base CX0 1 f fd ["number"] (spTest Sr111.isSide) := by
  refine F.ok sc_is_side (fun vs H Q E h => ?_) (fun cdv A outer s H vs Q E hr h => ?_)
  · obtain ⟨z, rfl, _⟩ := h
    rfl
  · obtain ⟨z, rfl, k⟩ := h
    refine ⟨_, (pss_one (ps_ret (pe_chain op_le op_le pe_int (pv 0) (pe_k (by rfl) T.k_LONGEST_SIDE)))), ?_⟩
    refine ⟨_, rfl, _, _, rfl, rfl, _, rfl, ?_⟩
    have e : Sr111.isSide z = (decide (1 ≤ z) && decide (z ≤ 9)) := rfl
    rw [e] at k
    by_cases h1 : (1 : Int) ≤ z
    · refine ifT (decide_eq_true h1) ?_
      rw [decide_eq_true h1, Bool.true_and] at k
      exact ⟨_, _, rfl, rfl, k⟩
    · refine ifF (decide_eq_false h1) ?_
      rw [decide_eq_false h1, Bool.false_and] at k
      exact k

abbrev s_is_value : Stmt := top 10
theorem sc_is_value : FnScope ["number"] ["number"] (defScope s_is_value) := ⟨rfl, rfl, rfl, by decide +kernel, rfl, by decide +kernel, by decide +kernel⟩
theorem ok_is_value {f : Addr} {fd : FuncData} (F : Fun K "is_value" "is_value" s_is_value f fd) (T : Txt K mg CK CS) : FnOk P w K mg base CX0 1 f fd ["number"] (spTest Sr111.isValue) := by
  refine F.ok sc_is_value (fun vs H Q E h => ?_) (fun cdv A outer s H vs Q E hr h => ?_)
  · obtain ⟨z, rfl, _⟩ := h
    rfl
  · obtain ⟨z, rfl, k⟩ := h
    refine ⟨_, (pss_one (ps_ret (pe_chain op_le op_le pe_int (pv 0) (pe_k (by rfl) T.k_HIGHEST_VALUE)))), ?_⟩
    refine ⟨_, rfl, _, _, rfl, rfl, _, rfl, ?_⟩
    have e : Sr111.isValue z = (decide (0 ≤ z) && decide (z ≤ 999)) := rfl
    rw [e] at k
    by_cases h1 : (0 : Int) ≤ z
    · refine ifT (decide_eq_true h1) ?_
      rw [decide_eq_true h1, Bool.true_and] at k
      exact ⟨_, _, rfl, rfl, k⟩
    · refine ifF (decide_eq_false h1) ?_
      rw [decide_eq_false h1, Bool.false_and] at k
      exact k
abbrev s_is_may_turn : Stmt := top 11
theorem sc_is_may_turn : FnScope ["number"] ["number"] (defScope s_is_may_turn) := ⟨rfl, rfl, rfl, by decide +kernel, rfl, by decide +kernel, by decide +kernel⟩
theorem ok_is_may_turn {f : Addr} {fd : FuncData} (F : Fun K "is_may_turn" "is_may_turn" s_is_may_turn f fd) (T : Txt K mg CK CS) : FnOk P w K mg base CX0 1 f fd ["number"] (spTest Sr111.isFlag) := by
  refine F.ok sc_is_may_turn (fun vs H Q E h => ?_) (fun cdv A outer s H vs Q E hr h => ?_)
  · obtain ⟨z, rfl, _⟩ := h
    rfl
  · obtain ⟨z, rfl, k⟩ := h
    refine ⟨_, (pss_one (ps_ret (pe_chain op_le op_le pe_int (pv 0) pe_int))), ?_⟩
    refine ⟨_, rfl, _, _, rfl, rfl, _, rfl, ?_⟩
    have e : Sr111.isFlag z = (decide (0 ≤ z) && decide (z ≤ 1)) := rfl
    rw [e] at k
    by_cases h1 : (0 : Int) ≤ z
    · refine ifT (decide_eq_true h1) ?_
      rw [decide_eq_true h1, Bool.true_and] at k
      exact ⟨_, _, rfl, rfl, k⟩
    · refine ifF (decide_eq_false h1) ?_
      rw [decide_eq_false h1, Bool.false_and] at k
      exact k

abbrev s_Kind_matches : Stmt := inClass (top 39) 1
theorem sc_Kind_matches : FnScope ["self", "x", "y"] ["self", "x", "y"] (defScope s_Kind_matches) := ⟨rfl, rfl, rfl, by decide +kernel, rfl, by decide +kernel, by decide +kernel⟩
def spMatches (CK : Addr) : Sp := fun vs H Q _ => ∃ (a : Addr) (k : Sr111.Kind) (x y : Nat), vs = [.ref a, .int (x : Int), .int (y : Int)] ∧ KindAt CK H a k ∧ Q (.bl (Sr111.matchesKind k x y)) H
theorem ok_matches {f : Addr} {fd : FuncData} (F : Fun K "matches" "Kind.matches" s_Kind_matches f fd) (T : Txt K mg CK CS) : FnOk P w K mg base CX0 1 f fd ["self", "x", "y"] (spMatches CK) := by
  refine F.ok sc_Kind_matches (fun vs H Q E h => ?_) (fun cdv A outer s H vs Q E hr h => ?_)
  · obtain ⟨a, k, x, y, rfl, _⟩ := h
    rfl
  · obtain ⟨a, k, x, y, rfl, ⟨dx, ha⟩, q⟩ := h
    refine ⟨_, (pss_cons (ps_if (PW.pt (pw_and (pt_cmpR op_eq (pv 1) (pe_fld (pv 0) rfl) (nomark _)) (pw_and1 (pt_cmpR op_eq (pv 2) (pe_fld (pv 0) rfl) (nomark _)))))
    (pss_one (ps_ret pe_bl)) pss_nil)
  (pss_one (ps_ret (pe_and (pe_cmpR op_eq (pe_fld (pv 0) rfl) pe_int (nomark _)) (pe_and (pe_cmpR op_eq (pv 1) (pe_fld (pv 0) rfl) (nomark _)) (pe_one (pe_cmpR op_eq (pv 2) (pe_fld (pv 0) rfl) (nomark _)))))))), ?_⟩
    refine ⟨_, rfl, _, rfl, a, CK, dx, _, _, rfl, ha, T.cl_Kind, T.n_width, kF_width k, rfl, _, rfl, ?_⟩
    -- the second way: may_turn == 1 and x == height and y == width
    have turned : ¬ (k.width = x ∧ k.height = y) → tRet (tAndV (tOp rEq (tFld K (tVar 0) "may_turn") (tC (.int 1))) (tAndV (tOp rEq (tVar 1) (tFld K (tVar 0) "height")) (tOp rEq (tVar 2) (tFld K (tVar 0) "width")))) { nx := fun _ H' => Q .non H', rt := Q } (start ["self", "x", "y"] [V.ref a, V.int (x : Int), V.int (y : Int)]) H := by
      intro hn
      refine ⟨_, rfl, a, CK, dx, _, _, rfl, ha, T.cl_Kind, T.n_may_turn, kF_may_turn k, rfl, _, rfl, ?_⟩
      have e0 : Sr111.matchesKind k x y = (k.mayTurn && (decide (k.width = y) && decide (k.height = x))) := by
        unfold Sr111.matchesKind
        have e : (k.width == x && k.height == y) = false := by
          simp only [Bool.and_eq_false_iff, beq_eq_false_iff_ne]
          omega
        rw [e, Bool.false_or]
        rfl
      rw [e0] at q
      cases hm : k.mayTurn with
      | false =>
        rw [hm] at q
        exact ifF rfl q
      | true =>
        rw [hm] at q
        refine ifT rfl ?_
        refine ⟨_, rfl, _, rfl, a, CK, dx, _, _, rfl, ha, T.cl_Kind, T.n_height, kF_height k, rfl, _, rfl, ?_⟩
        by_cases a1 : k.height = x
        · refine ifT (decide_eq_true (by rw [vi]; omega)) ?_
          refine ⟨_, rfl, _, rfl, a, CK, dx, _, _, rfl, ha, T.cl_Kind, T.n_width, kF_width k, rfl, ?_⟩
          have e1 : decide (V.int (y : Int) = V.int (k.width : Int)) = (true && (decide (k.width = y) && decide (k.height = x))) := by
            rw [decide_eq_true a1, Bool.and_true, Bool.true_and]
            exact decide_eq_decide.mpr (by rw [vi]; omega)
          show Q (.bl (decide (V.int (y : Int) = V.int (k.width : Int)))) H
          rw [e1]
          exact q
        · refine ifF (decide_eq_false (by rw [vi]; omega)) ?_
          rw [decide_eq_false a1, Bool.and_false, Bool.and_false] at q
          exact q
    by_cases h1 : x = k.width
    · refine ifT (decide_eq_true (by rw [vi]; omega)) ?_
      refine ⟨_, rfl, _, rfl, a, CK, dx, _, _, rfl, ha, T.cl_Kind, T.n_height, kF_height k, rfl, _, rfl, ?_⟩
      by_cases h2 : y = k.height
      · refine ifT (decide_eq_true (by rw [vi]; omega)) ?_
        have e : Sr111.matchesKind k x y = true := by unfold Sr111.matchesKind; simp [h1, h2]
        rw [e] at q
        exact q
      · refine ifF (decide_eq_false (by rw [vi]; omega)) ?_
        exact turned (by omega)
    · refine ifF (decide_eq_false (by rw [vi]; omega)) ?_
      exact ifF rfl (turned (by omega))
end
end Sb

/-! Worths: the table of all pieces. -/
namespace Sb
open PySem PySem.Spec PyProof.Rows L2
open PySem.W (Codec)
/-- a piece as a key -/
abbrev pk (x y : Nat) : List Key := [Sum.inl (x : Int), Sum.inl (y : Int)]
theorem pk_inj {a b x y : Nat} : pk a b = pk x y ↔ a = x ∧ b = y := by
  constructor
  · intro h
    have h1 := List.cons.inj h
    have h2 := List.cons.inj h1.2
    have e1 := Sum.inl.inj h1.1
    have e2 := Sum.inl.inj h2.1
    omega
  · rintro ⟨rfl, rfl⟩
    rfl
theorem take_ref {as : List Addr} {i : Nat} {v : V} (h : (as.map V.ref)[i]? = some v) : ∃ a, as[i]? = some a ∧ v = .ref a := by
  rw [List.getElem?_map] at h
  cases e : as[i]? with
  | none => rw [e] at h; cases h
  | some a => rw [e] at h; exact ⟨a, rfl, (Option.some.inj h).symm⟩
theorem KindsAt.get {CK : Addr} {H : Hp} {l : Addr} {as : List Addr} {ks : List Sr111.Kind} (h : KindsAt CK H l as ks) {i : Nat} {a : Addr} (e : as[i]? = some a) : ∃ k, ks[i]? = some k ∧ KindAt CK H a k := by
  have h1 := (List.getElem?_eq_some_iff.mp e).1
  have h2 : i < ks.length := by have := h.len; omega
  exact ⟨_, List.getElem?_eq_getElem h2, h.at_ i a _ e (List.getElem?_eq_getElem h2)⟩

section
variable {P : Program} {w : World} {K : PySem.W.Frag} {mg : Str → Option Value} {base : Heap} {CK CS : Addr}

/-! ### stone_worth -/
abbrev s_stone_worth : Stmt := top 26
theorem sc_stone_worth : FnScope ["kinds", "x", "y", "greatest", "kind"] ["kinds", "x", "y"] (defScope s_stone_worth) := ⟨rfl, rfl, rfl, by decide +kernel, rfl, by decide +kernel, by decide +kernel⟩
def spStone (CK : Addr) : Sp := fun vs H Q _ => ∃ (l : Addr) (as : List Addr) (ks : List Sr111.Kind) (x y : Nat), vs = [.ref l, .int (x : Int), .int (y : Int)] ∧ KindsAt CK H l as ks ∧ Q (.int (Sm.stone ks x y : Int)) H
theorem ok_stone_worth {f : Addr} {fd : FuncData} (F : Fun K "stone_worth" "stone_worth" s_stone_worth f fd) (T : Txt K mg CK CS) (c_matches : MCal P w K mg base CK "matches" 1 ["self", "x", "y"] (spMatches CK)) :
    FnOk P w K mg base CX0 2 f fd ["kinds", "x", "y"] (spStone CK) := by
  obtain ⟨_, _, m_matches, b_matches, G_matches⟩ := c_matches.ex
  refine F.ok sc_stone_worth (fun vs H Q E h => ?_) (fun cdv A outer s H vs Q E hr h => ?_)
  · obtain ⟨l, as, ks, x, y, rfl, _⟩ := h
    rfl
  · obtain ⟨l, as, ks, x, y, rfl, hK, q⟩ := h
    refine ⟨_, (pss_cons (ps_set (i := 3) sc_stone_worth.nd rfl (Or.inl rfl) pe_int)
  (pss_cons (ps_for PassesOwn.never rfl (pi_list (pv 0)) (pg_name (i := 4) sc_stone_worth.nd rfl (Or.inl rfl))
    (pss_one (ps_if (pt_val (pe_meth (pv 4) T.cl_Kind m_matches G_matches (hr.mono (by decide)) b_matches .nil pass0 (pa_cons (pv 1) (pa_cons (pv 2) pa_nil))))
    (pss_one (ps_set (i := 3) sc_stone_worth.nd rfl (Or.inl rfl) (pe_callB (call_max2 rfl) (by rfl) T.b_max (by decide +kernel) (pa_cons (pv 3) (pa_cons (pe_fld (pv 4) rfl) pa_nil))))) pss_nil)))
  (pss_one (ps_ret (pv 3))))), ?_⟩
    refine ⟨_, rfl, l, rfl, ⟨_, SqL.of hK.lst⟩, for_list (K := K) (a := l) (xs := as.map V.ref) (fun i σ H' => ∃ v : Option V, σ = [some (.ref l), some (.int (x : Int)), some (.int (y : Int)), some (.int (Sm.stone (ks.take i) x y : Int)), v] ∧ H' = H)
      ⟨none, rfl, rfl⟩ (fun i σ H' _ ⟨_, _, e⟩ => by rw [e]; exact SqL.of hK.lst) ?_ ?_⟩
    · rintro i v σ H' hi ⟨v4, rfl, rfl⟩
      obtain ⟨a, ha, rfl⟩ := take_ref hi
      obtain ⟨k, hk, dx, hka⟩ := hK.get ha
      refine ⟨_, rfl, a, dx, _, rfl, hka, kF_matches k, _, rfl, _, rfl, ?_⟩
      refine ⟨a, k, x, y, rfl, ⟨dx, hka⟩, _, rfl, ?_⟩
      have st := Sm.stone_snoc (ks.take i) k x y
      rw [← Sm.take_more hk] at st
      by_cases c : Sr111.matchesKind k x y = true
      · refine ifT c ?_
        rw [if_pos c] at st
        refine ⟨_, rfl, _, rfl, a, CK, dx, _, _, rfl, hka, T.cl_Kind, T.n_value, kF_value k, _, _, rfl, ?_⟩
        refine ⟨some (.ref a), ?_, rfl⟩
        rw [Sm.max_if, ← st]
        rfl
      · refine ifF (by simpa using c) ?_
        rw [if_neg c] at st
        exact ⟨some (.ref a), by rw [st]; rfl, rfl⟩
    · rintro σ H' ⟨v4, rfl, rfl⟩
      refine ⟨_, rfl, ?_⟩
      have e : ks.take (as.map V.ref).length = ks := by rw [List.length_map, hK.len, List.take_length]
      rw [e]
      exact q

/-! ### the worth of a cut -/
abbrev s_vertical_cut_worth : Stmt := top 28
theorem sc_vertical_cut_worth : FnScope ["worths", "x", "y", "c"] ["worths", "x", "y", "c"] (defScope s_vertical_cut_worth) := ⟨rfl, rfl, rfl, by decide +kernel, rfl, by decide +kernel, by decide +kernel⟩
def spCutV : Sp := fun vs H Q _ => ∃ (d : Addr) (kvs : List (List Key × V)) (x y c u1 u2 : Nat), vs = [.ref d, .int (x : Int), .int (y : Int), .int (c : Int)] ∧ c ≤ x ∧ H d = some (.dT kvs) ∧ valV kvs (pk c y) = some (.int (u1 : Int)) ∧ valV kvs (pk (x - c) y) = some (.int (u2 : Int)) ∧
  ∀ H', Same H H' → Q (.int ((u1 + u2 : Nat) : Int)) H'
theorem ok_vertical_cut_worth {f : Addr} {fd : FuncData} (F : Fun K "vertical_cut_worth" "vertical_cut_worth" s_vertical_cut_worth f fd) (T : Txt K mg CK CS) : FnOk P w K mg base CX0 1 f fd ["worths", "x", "y", "c"] spCutV := by
  refine F.ok sc_vertical_cut_worth (fun vs H Q E h => ?_) (fun cdv A outer s H vs Q E hr h => ?_)
  · obtain ⟨d, kvs, x, y, c, u1, u2, rfl, _⟩ := h
    rfl
  · obtain ⟨d, kvs, x, y, c, u1, u2, rfl, hcx, hd, h1, h2, q⟩ := h
    have hu := hu_of hr
    refine ⟨_, (pss_one (ps_ret (pe_op op_add (pe_dget hu (pv 0) (pe_tup (pa_cons (pv 3) (pa_cons (pv 2) pa_nil))) (fun _ _ => rfl)) (pe_dget hu (pv 0) (pe_tup (pa_cons (pe_op op_sub (pv 1) (pv 3)) (pa_cons (pv 2) pa_nil))) (fun _ _ => rfl))))), ?_⟩
    refine ⟨_, rfl, _, rfl, _, rfl, (by show 2 ≤ sizeLine; decide), fun p hp => ?_⟩
    have s1 : Same H (upd H p (.tup [.int (c : Int), .int (y : Int)])) := fun b o e => by rw [upd_ne (ne_of_none e hp)]; exact e
    refine ⟨d, _, rfl, by rw [← h1]; exact DGet.t (k := pk c y) (s1 _ _ hd) upd_same, ?_⟩
    refine ⟨_, rfl, _, rfl, _, rfl, _, _, rfl, rfl, _, rfl, (by show 2 ≤ sizeLine; decide), fun p2 hp2 => ?_⟩
    have s2 : Same (upd H p (.tup [.int (c : Int), .int (y : Int)])) (upd (upd H p (.tup [.int (c : Int), .int (y : Int)])) p2 (.tup [.int ((x : Int) - (c : Int)), .int (y : Int)])) := fun b o e => by rw [upd_ne (ne_of_none e hp2)]; exact e
    have ex : (x : Int) - (c : Int) = ((x - c : Nat) : Int) := by omega
    refine ⟨d, _, rfl, by rw [← h2]; exact DGet.t (k := pk (x - c) y) (s2 _ _ (s1 _ _ hd)) (by rw [upd_same]; show some (HO.tup [V.int ((x : Int) - (c : Int)), V.int (y : Int)]) = _; rw [ex]; rfl), ?_⟩
    refine ⟨_, _, rfl, rfl, ?_⟩
    have := q _ (s1.trans s2)
    rw [Int.natCast_add] at this
    exact this
abbrev s_horizontal_cut_worth : Stmt := top 29
theorem sc_horizontal_cut_worth : FnScope ["worths", "x", "y", "c"] ["worths", "x", "y", "c"] (defScope s_horizontal_cut_worth) := ⟨rfl, rfl, rfl, by decide +kernel, rfl, by decide +kernel, by decide +kernel⟩
def spCutH : Sp := fun vs H Q _ => ∃ (d : Addr) (kvs : List (List Key × V)) (x y c u1 u2 : Nat), vs = [.ref d, .int (x : Int), .int (y : Int), .int (c : Int)] ∧ c ≤ y ∧ H d = some (.dT kvs) ∧ valV kvs (pk x c) = some (.int (u1 : Int)) ∧ valV kvs (pk x (y - c)) = some (.int (u2 : Int)) ∧
  ∀ H', Same H H' → Q (.int ((u1 + u2 : Nat) : Int)) H'
theorem ok_horizontal_cut_worth {f : Addr} {fd : FuncData} (F : Fun K "horizontal_cut_worth" "horizontal_cut_worth" s_horizontal_cut_worth f fd) (T : Txt K mg CK CS) : FnOk P w K mg base CX0 1 f fd ["worths", "x", "y", "c"] spCutH := by
  refine F.ok sc_horizontal_cut_worth (fun vs H Q E h => ?_) (fun cdv A outer s H vs Q E hr h => ?_)
  · obtain ⟨d, kvs, x, y, c, u1, u2, rfl, _⟩ := h
    rfl
  · obtain ⟨d, kvs, x, y, c, u1, u2, rfl, hcx, hd, h1, h2, q⟩ := h
    have hu := hu_of hr
    refine ⟨_, (pss_one (ps_ret (pe_op op_add (pe_dget hu (pv 0) (pe_tup (pa_cons (pv 1) (pa_cons (pv 3) pa_nil))) (fun _ _ => rfl)) (pe_dget hu (pv 0) (pe_tup (pa_cons (pv 1) (pa_cons (pe_op op_sub (pv 2) (pv 3)) pa_nil))) (fun _ _ => rfl))))), ?_⟩
    refine ⟨_, rfl, _, rfl, _, rfl, (by show 2 ≤ sizeLine; decide), fun p hp => ?_⟩
    have s1 : Same H (upd H p (.tup [.int (x : Int), .int (c : Int)])) := fun b o e => by rw [upd_ne (ne_of_none e hp)]; exact e
    refine ⟨d, _, rfl, by rw [← h1]; exact DGet.t (k := pk x c) (s1 _ _ hd) upd_same, ?_⟩
    refine ⟨_, rfl, _, rfl, _, rfl, _, rfl, _, _, rfl, rfl, (by show 2 ≤ sizeLine; decide), fun p2 hp2 => ?_⟩
    have s2 : Same (upd H p (.tup [.int (x : Int), .int (c : Int)])) (upd (upd H p (.tup [.int (x : Int), .int (c : Int)])) p2 (.tup [.int (x : Int), .int ((y : Int) - (c : Int))])) := fun b o e => by rw [upd_ne (ne_of_none e hp2)]; exact e
    have ex : (y : Int) - (c : Int) = ((y - c : Nat) : Int) := by omega
    refine ⟨d, _, rfl, by rw [← h2]; exact DGet.t (k := pk x (y - c)) (s2 _ _ (s1 _ _ hd)) (by rw [upd_same]; show some (HO.tup [V.int (x : Int), V.int ((y : Int) - (c : Int))]) = _; rw [ex]; rfl), ?_⟩
    refine ⟨_, _, rfl, rfl, ?_⟩
    have := q _ (s1.trans s2)
    rw [Int.natCast_add] at this
    exact this

/-! ### cut_worth -/
abbrev s_cut_worth : Stmt := top 27
theorem sc_cut_worth : FnScope ["worths", "x", "y", "greatest", "c"] ["worths", "x", "y"] (defScope s_cut_worth) := ⟨rfl, rfl, rfl, by decide +kernel, rfl, by decide +kernel, by decide +kernel⟩
/-- the smaller pieces' worths stand in the dict -/
def Below (kvs : List (List Key × V)) (V0 : Nat → Nat → Nat) (x y : Nat) : Prop :=
  (∀ c, 1 ≤ c → c < x → valV kvs (pk c y) = some (.int (V0 c y : Int))) ∧ ∀ c, 1 ≤ c → c < y → valV kvs (pk x c) = some (.int (V0 x c : Int))
def spCut : Sp := fun vs H Q _ => ∃ (d : Addr) (kvs : List (List Key × V)) (V0 : Nat → Nat → Nat) (x y : Nat), vs = [.ref d, .int (x : Int), .int (y : Int)] ∧ (1 ≤ x ∧ x ≤ 9 ∧ 1 ≤ y ∧ y ≤ 9) ∧ H d = some (.dT kvs) ∧ Below kvs V0 x y ∧
  ∀ H', Same H H' → Q (.int (Sm.cutW V0 x y : Int)) H'
theorem ok_cut_worth {f : Addr} {fd : FuncData} (F : Fun K "cut_worth" "cut_worth" s_cut_worth f fd) (T : Txt K mg CK CS)
    (c_v : Cal P w K mg base "vertical_cut_worth" 1 ["worths", "x", "y", "c"] spCutV) (c_h : Cal P w K mg base "horizontal_cut_worth" 1 ["worths", "x", "y", "c"] spCutH) : FnOk P w K mg base CX0 2 f fd ["worths", "x", "y"] spCut := by
  obtain ⟨_, _, m_vertical_cut_worth, kp_vertical_cut_worth, b_vertical_cut_worth, G_vertical_cut_worth⟩ := c_v.ex
  obtain ⟨_, _, m_horizontal_cut_worth, kp_horizontal_cut_worth, b_horizontal_cut_worth, G_horizontal_cut_worth⟩ := c_h.ex
  refine F.ok sc_cut_worth (fun vs H Q E h => ?_) (fun cdv A outer s H vs Q E hr h => ?_)
  · obtain ⟨d, kvs, V0, x, y, rfl, _⟩ := h
    rfl
  · obtain ⟨d, kvs, V0, x, y, rfl, hxy, hd, hB, q⟩ := h
    have hu := hu_of hr
    refine ⟨_, (pss_cons (ps_set (i := 3) sc_cut_worth.nd rfl (Or.inl rfl) pe_int)
  (pss_cons (ps_for PassesOwn.never rfl (pi_range2 rfl T.b_range (pa_cons pe_int (pa_cons (pv 1) pa_nil))) (pg_name (i := 4) sc_cut_worth.nd rfl (Or.inl rfl))
    (pss_one (ps_set (i := 3) sc_cut_worth.nd rfl (Or.inl rfl) (pe_callB (call_max2 rfl) (by rfl) T.b_max (by decide +kernel) (pa_cons (pv 3) (pa_cons (pe_call G_vertical_cut_worth (hr.mono (by decide)) (by rfl) m_vertical_cut_worth kp_vertical_cut_worth b_vertical_cut_worth .nil pass0 (pa_cons (pv 0) (pa_cons (pv 1) (pa_cons (pv 2) (pa_cons (pv 4) pa_nil))))) pa_nil))))))
  (pss_cons (ps_for PassesOwn.never rfl (pi_range2 rfl T.b_range (pa_cons pe_int (pa_cons (pv 2) pa_nil))) (pg_name (i := 4) sc_cut_worth.nd rfl (Or.inl rfl))
    (pss_one (ps_set (i := 3) sc_cut_worth.nd rfl (Or.inl rfl) (pe_callB (call_max2 rfl) (by rfl) T.b_max (by decide +kernel) (pa_cons (pv 3) (pa_cons (pe_call G_horizontal_cut_worth (hr.mono (by decide)) (by rfl) m_horizontal_cut_worth kp_horizontal_cut_worth b_horizontal_cut_worth .nil pass0 (pa_cons (pv 0) (pa_cons (pv 1) (pa_cons (pv 2) (pa_cons (pv 4) pa_nil))))) pa_nil))))))
  (pss_one (ps_ret (pv 3)))))), ?_⟩
    have ex : ((x : Int) - 1).toNat = x - 1 := by omega
    have ey : ((y : Int) - 1).toNat = y - 1 := by omega
    refine ⟨_, rfl, _, _, rfl, (by omega), for_range (lo := 1) (n := ((x : Int) - 1).toNat) (fun i σ H' => ∃ v : Option V, σ = [some (.ref d), some (.int (x : Int)), some (.int (y : Int)), some (.int (Sm.mx i (fun c => V0 (c + 1) y + V0 (x - (c + 1)) y) 0 : Int)), v] ∧ Same H H')
      ⟨none, rfl, Same.refl H⟩ ?_ ?_⟩
    · rintro i σ H' hi ⟨v, rfl, s1⟩
      have e1 : (1 : Int) + (i : Int) = ((i + 1 : Nat) : Int) := by omega
      refine ⟨_, rfl, _, rfl, _, rfl, _, rfl, _, rfl, ?_⟩
      refine ⟨d, kvs, x, y, i + 1, V0 (i + 1) y, V0 (x - (i + 1)) y, by rw [e1]; rfl, by omega, s1 _ _ hd, hB.1 _ (by omega) (by omega), hB.1 _ (by omega) (by omega), fun H2 s2 => ?_⟩
      refine ⟨_, _, rfl, some (.int (1 + (i : Int))), ?_, s1.trans s2⟩
      rw [Sm.max_if, ← Sm.mx_succ i (fun c => V0 (c + 1) y + V0 (x - (c + 1)) y) 0]
      rfl
    · rintro σ H' ⟨v, rfl, s1⟩
      rw [ex]
      refine ⟨_, rfl, _, _, rfl, (by omega), for_range (lo := 1) (n := ((y : Int) - 1).toNat) (fun i σ H' => ∃ v : Option V, σ = [some (.ref d), some (.int (x : Int)), some (.int (y : Int)), some (.int (Sm.mx i (fun c => V0 x (c + 1) + V0 x (y - (c + 1))) (Sm.mx (x - 1) (fun c => V0 (c + 1) y + V0 (x - (c + 1)) y) 0) : Int)), v] ∧ Same H H')
        ⟨v, rfl, s1⟩ ?_ ?_⟩
      · rintro i σ H' hi ⟨v, rfl, s1⟩
        have e1 : (1 : Int) + (i : Int) = ((i + 1 : Nat) : Int) := by omega
        refine ⟨_, rfl, _, rfl, _, rfl, _, rfl, _, rfl, ?_⟩
        refine ⟨d, kvs, x, y, i + 1, V0 x (i + 1), V0 x (y - (i + 1)), by rw [e1]; rfl, by omega, s1 _ _ hd, hB.2 _ (by omega) (by omega), hB.2 _ (by omega) (by omega), fun H2 s2 => ?_⟩
        refine ⟨_, _, rfl, some (.int (1 + (i : Int))), ?_, s1.trans s2⟩
        rw [Sm.max_if, ← Sm.mx_succ i (fun c => V0 x (c + 1) + V0 x (y - (c + 1))) _]
        rfl
      · rintro σ H' ⟨v, rfl, s1⟩
        rw [ey]
        exact ⟨_, rfl, q _ s1⟩

/-! ### max_worths -/
abbrev s_max_worths : Stmt := top 25
theorem sc_max_worths : FnScope ["kinds", "width", "height", "worths", "x", "y"] ["kinds", "width", "height"] (defScope s_max_worths) := ⟨rfl, rfl, rfl, by decide +kernel, rfl, by decide +kernel, by decide +kernel⟩
/-- the dict at d holds the worths of all pieces up to W, H -/
def WorthsAt (H : Hp) (d : Addr) (ks : List Sr111.Kind) (W0 H0 : Nat) : Prop := ∃ kvs, H d = some (.dT kvs) ∧ ∀ a b, 1 ≤ a → a ≤ W0 → 1 ≤ b → b ≤ H0 → valV kvs (pk a b) = some (.int (Sm.mv ks a b : Int))
theorem WorthsAt.same {H H' : Hp} {d : Addr} {ks : List Sr111.Kind} {W0 H0 : Nat} (h : WorthsAt H d ks W0 H0) (s : Same H H') : WorthsAt H' d ks W0 H0 := let ⟨kvs, e, q⟩ := h; ⟨kvs, s _ _ e, q⟩
def spWorths (CK : Addr) : Sp := fun vs H Q _ => ∃ (l : Addr) (as : List Addr) (ks : List Sr111.Kind) (W0 H0 : Nat), vs = [.ref l, .int (W0 : Int), .int (H0 : Int)] ∧ KindsAt CK H l as ks ∧ (1 ≤ W0 ∧ W0 ≤ 9 ∧ 1 ≤ H0 ∧ H0 ≤ 9) ∧
  ∀ d H', Same H H' → H d = none → WorthsAt H' d ks W0 H0 → Q (.ref d) H'
theorem ok_max_worths {f : Addr} {fd : FuncData} (F : Fun K "max_worths" "max_worths" s_max_worths f fd) (T : Txt K mg CK CS)
    (c_s : Cal P w K mg base "stone_worth" 2 ["kinds", "x", "y"] (spStone CK)) (c_c : Cal P w K mg base "cut_worth" 2 ["worths", "x", "y"] spCut) : FnOk P w K mg base CX0 3 f fd ["kinds", "width", "height"] (spWorths CK) := by
  obtain ⟨_, _, m_stone_worth, kp_stone_worth, b_stone_worth, G_stone_worth⟩ := c_s.ex
  obtain ⟨_, _, m_cut_worth, kp_cut_worth, b_cut_worth, G_cut_worth⟩ := c_c.ex
  refine F.ok sc_max_worths (fun vs H Q E h => ?_) (fun cdv A outer s H vs Q E hr h => ?_)
  · obtain ⟨l, as, ks, W0, H0, rfl, _⟩ := h
    rfl
  · obtain ⟨l, as, ks, W0, H0, rfl, hK, hWH, q⟩ := h
    have hu := hu_of hr
    refine ⟨_, (pss_cons (ps_set (i := 3) sc_max_worths.nd rfl (Or.inl rfl) pe_dnewT)
  (pss_cons (ps_for PassesOwn.never rfl (pi_range2 rfl T.b_range (pa_cons pe_int (pa_cons (pe_op op_add (pv 1) pe_int) pa_nil))) (pg_name (i := 4) sc_max_worths.nd rfl (Or.inl rfl))
    (pss_one (ps_for PassesOwn.never rfl (pi_range2 rfl T.b_range (pa_cons pe_int (pa_cons (pe_op op_add (pv 2) pe_int) pa_nil))) (pg_name (i := 5) sc_max_worths.nd rfl (Or.inl rfl))
    (pss_one (ps_dput hu (pv 3) (pe_tup (pa_cons (pv 4) (pa_cons (pv 5) pa_nil))) (pe_callB (call_max2 rfl) (by rfl) T.b_max (by decide +kernel) (pa_cons (pe_call G_stone_worth (hr.mono (by decide)) (by rfl) m_stone_worth kp_stone_worth b_stone_worth .nil pass0 (pa_cons (pv 0) (pa_cons (pv 4) (pa_cons (pv 5) pa_nil)))) (pa_cons (pe_call G_cut_worth (hr.mono (by decide)) (by rfl) m_cut_worth kp_cut_worth b_cut_worth .nil pass0 (pa_cons (pv 3) (pa_cons (pv 4) (pa_cons (pv 5) pa_nil)))) pa_nil))) rfl)))))
  (pss_one (ps_ret (pv 3))))), ?_⟩
    intro d hd
    have eW : (((W0 : Int) + 1) - 1).toNat = W0 := by omega
    have eH : (((H0 : Int) + 1) - 1).toNat = H0 := by omega
    -- what stands behind i columns and j pieces of the next
    let Done : Nat → Nat → Hp → Prop := fun i j H' => Same H H' ∧ ∃ kvs, H' d = some (.dT kvs) ∧ kvs.length ≤ i * H0 + j ∧
      ∀ a b, 1 ≤ a → 1 ≤ b → b ≤ H0 → (a ≤ i ∨ a = i + 1 ∧ b ≤ j) → valV kvs (pk a b) = some (.int (Sm.mv ks a b : Int))
    refine ⟨_, rfl, _, _, rfl, rfl, _, _, rfl, (by omega), for_range (lo := 1) (n := (((W0 : Int) + 1) - 1).toNat) (fun i σ H' => ∃ u v : Option V, σ = [some (.ref l), some (.int (W0 : Int)), some (.int (H0 : Int)), some (.ref d), u, v] ∧ Done i 0 H')
      ⟨none, none, rfl, fun b o e => by rw [upd_ne (ne_of_none e hd)]; exact e, [], upd_same, Nat.zero_le _, fun a b h1 h2 h3 h4 => by omega⟩ ?_ ?_⟩
    · rintro i σ H1 hi ⟨u, v, rfl, D0⟩
      refine ⟨_, rfl, _, _, rfl, rfl, _, _, rfl, (by omega), for_range (lo := 1) (n := (((H0 : Int) + 1) - 1).toNat) (fun j σ H' => ∃ v : Option V, σ = [some (.ref l), some (.int (W0 : Int)), some (.int (H0 : Int)), some (.ref d), some (.int (1 + (i : Int))), v] ∧ Done i j H')
        ⟨v, rfl, D0⟩ ?_ ?_⟩
      · rintro j σ H2 hj ⟨v, rfl, s2, kvs, hk, hl, hv⟩
        have e1 : (1 : Int) + (i : Int) = ((i + 1 : Nat) : Int) := by omega
        have e2 : (1 : Int) + (j : Int) = ((j + 1 : Nat) : Int) := by omega
        refine ⟨_, rfl, _, rfl, _, rfl, l, as, ks, i + 1, j + 1, by rw [e1, e2]; rfl, hK.same s2, ?_⟩
        refine ⟨_, rfl, _, rfl, _, rfl, d, kvs, Sm.mv ks, i + 1, j + 1, by rw [e1, e2]; rfl, by omega, hk, ⟨fun c h1 h2 => hv c (j + 1) h1 (by omega) (by omega) (by omega), fun c h1 h2 => hv (i + 1) c (by omega) h1 (by omega) (by omega)⟩, fun H3 s3 => ?_⟩
        refine ⟨_, _, rfl, ?_⟩
        refine ⟨_, rfl, _, rfl, _, rfl, (by show 2 ≤ sizeLine; decide), fun p hp => ?_⟩
        have s4 : Same H3 (upd H3 p (.tup [.int (1 + (i : Int)), .int (1 + (j : Int))])) := fun b o e => by rw [upd_ne (ne_of_none e hp)]; exact e
        have hlen : kvs.length < sizeLine := by
          have : i * H0 + j < 1000 := by
            have : i * H0 ≤ 9 * 9 := Nat.mul_le_mul (by omega) (by omega)
            omega
          exact Nat.lt_of_le_of_lt hl (Nat.lt_trans this (by decide))
        refine ⟨d, _, rfl, DPut.t (k := pk (i + 1) (j + 1)) (s4 _ _ (s3 _ _ hk)) (by rw [upd_same, e1, e2]; rfl) hlen, ?_⟩
        refine ⟨some (.int (1 + (j : Int))), rfl, fun b o e => ?_, _, upd_same, ?_, ?_⟩
        · rw [upd_ne (ne_of_none e hd)]
          exact s4 _ _ (s3 _ _ (s2 _ _ e))
        · have := length_putK kvs (pk (i + 1) (j + 1)) (V.int (if ((Sm.cutW (Sm.mv ks) (i + 1) (j + 1) : Nat) : Int) > ((Sm.stone ks (i + 1) (j + 1) : Nat) : Int) then ((Sm.cutW (Sm.mv ks) (i + 1) (j + 1) : Nat) : Int) else ((Sm.stone ks (i + 1) (j + 1) : Nat) : Int)))
          omega
        · intro a b h1 h2 h3 h4
          rw [valV_put, Sm.max_if, Sm.worth_cut (Sm.stone ks), ← Sm.mv_eq ks (by omega) (by omega)]
          by_cases e : pk a b = pk (i + 1) (j + 1)
          · rw [if_pos e]
            obtain ⟨rfl, rfl⟩ := pk_inj.mp e
            rfl
          · rw [if_neg e]
            refine hv a b h1 h2 h3 ?_
            have : ¬ (a = i + 1 ∧ b = j + 1) := fun z => e (pk_inj.mpr z)
            omega
      · rintro σ H2 ⟨v, rfl, s2, kvs, hk, hl, hv⟩
        rw [eH] at hl hv
        refine ⟨_, v, rfl, s2, kvs, hk, ?_, fun a b h1 h2 h3 h4 => hv a b h1 h2 h3 (by omega)⟩
        rw [Nat.add_mul]
        omega
    · rintro σ H1 ⟨u, v, rfl, s1, kvs, hk, hl, hv⟩
      rw [eW] at hl hv
      exact ⟨_, rfl, q d _ s1 hd ⟨kvs, hk, fun a b h1 h2 h3 h4 => hv a b h1 h3 h4 (by omega)⟩⟩

/-! ### max_worth -/
abbrev s_max_worth : Stmt := top 24
theorem sc_max_worth : FnScope ["kinds", "width", "height"] ["kinds", "width", "height"] (defScope s_max_worth) := ⟨rfl, rfl, rfl, by decide +kernel, rfl, by decide +kernel, by decide +kernel⟩
def spWorth (CK : Addr) : Sp := fun vs H Q _ => ∃ (l : Addr) (as : List Addr) (ks : List Sr111.Kind) (W0 H0 : Nat), vs = [.ref l, .int (W0 : Int), .int (H0 : Int)] ∧ KindsAt CK H l as ks ∧ (1 ≤ W0 ∧ W0 ≤ 9 ∧ 1 ≤ H0 ∧ H0 ≤ 9) ∧
  ∀ H', Same H H' → Q (.int (Sm.mv ks W0 H0 : Int)) H'
theorem ok_max_worth {f : Addr} {fd : FuncData} (F : Fun K "max_worth" "max_worth" s_max_worth f fd) (T : Txt K mg CK CS) (c_w : Cal P w K mg base "max_worths" 3 ["kinds", "width", "height"] (spWorths CK)) : FnOk P w K mg base CX0 4 f fd ["kinds", "width", "height"] (spWorth CK) := by
  obtain ⟨_, _, m_max_worths, kp_max_worths, b_max_worths, G_max_worths⟩ := c_w.ex
  refine F.ok sc_max_worth (fun vs H Q E h => ?_) (fun cdv A outer s H vs Q E hr h => ?_)
  · obtain ⟨l, as, ks, W0, H0, rfl, _⟩ := h
    rfl
  · obtain ⟨l, as, ks, W0, H0, rfl, hK, hWH, q⟩ := h
    have hu := hu_of hr
    refine ⟨_, (pss_one (ps_ret (pe_dget hu (pe_call G_max_worths (hr.mono (by decide)) (by rfl) m_max_worths kp_max_worths b_max_worths .nil pass0 (pa_cons (pv 0) (pa_cons (pv 1) (pa_cons (pv 2) pa_nil)))) (pe_tup (pa_cons (pv 1) (pa_cons (pv 2) pa_nil))) (fun _ _ => rfl)))), ?_⟩
    refine ⟨_, rfl, _, rfl, _, rfl, l, as, ks, W0, H0, rfl, hK, hWH, fun d H1 s1 hd ⟨kvs, hk, hv⟩ => ?_⟩
    refine ⟨_, rfl, _, rfl, (by show 2 ≤ sizeLine; decide), fun p hp => ?_⟩
    have s2 : Same H1 (upd H1 p (.tup [.int (W0 : Int), .int (H0 : Int)])) := fun b o e => by rw [upd_ne (ne_of_none e hp)]; exact e
    refine ⟨d, _, rfl, by rw [← hv W0 H0 (by omega) (by omega) (by omega) (by omega)]; exact DGet.t (k := pk W0 H0) (s2 _ _ hk) upd_same, ?_⟩
    exact q _ (s1.trans s2)
end
end Sb

/-! Best patterns. -/
namespace Sb
open PySem PySem.Spec PyProof.Rows L2
open PySem.W (Codec)
/-- a number or None -/
def oV : Option Nat → V
  | some k => .int (k : Int)
  | none => .non
theorem cvi {a b : Nat} : decide (V.int (a : Int) = V.int (b : Int)) = (a == b) := by
  rw [show (a == b) = decide (a = b) from rfl]
  exact decide_eq_decide.mpr (by rw [vi]; omega)

section
variable {P : Program} {w : World} {K : PySem.W.Frag} {mg : Str → Option Value} {base : Heap} {CK CS : Addr}

/-! ### first_best_kind -/
abbrev s_first_best_kind : Stmt := top 35
theorem sc_first_best_kind : FnScope ["kinds", "worths", "x", "y", "k", "kind"] ["kinds", "worths", "x", "y"] (defScope s_first_best_kind) := ⟨rfl, rfl, rfl, by decide +kernel, rfl, by decide +kernel, by decide +kernel⟩
def spFK (CK : Addr) : Sp := fun vs H Q _ => ∃ (l d : Addr) (as : List Addr) (ks : List Sr111.Kind) (kvs : List (List Key × V)) (x y v : Nat), vs = [.ref l, .ref d, .int (x : Int), .int (y : Int)] ∧ KindsAt CK H l as ks ∧ H d = some (.dT kvs) ∧ valV kvs (pk x y) = some (.int (v : Int)) ∧
  ∀ H', Same H H' → Q (oV (Sm.firstKind ks x y v)) H'
theorem ok_first_best_kind {f : Addr} {fd : FuncData} (F : Fun K "first_best_kind" "first_best_kind" s_first_best_kind f fd) (T : Txt K mg CK CS) (c_matches : MCal P w K mg base CK "matches" 1 ["self", "x", "y"] (spMatches CK)) :
    FnOk P w K mg base CX0 2 f fd ["kinds", "worths", "x", "y"] (spFK CK) := by
  obtain ⟨_, _, m_matches, b_matches, G_matches⟩ := c_matches.ex
  refine F.ok sc_first_best_kind (fun vs H Q E h => ?_) (fun cdv A outer s H vs Q E hr h => ?_)
  · obtain ⟨l, d, as, ks, kvs, x, y, v, rfl, _⟩ := h
    rfl
  · obtain ⟨l, d, as, ks, kvs, x, y, v, rfl, hK, hd, hv, q⟩ := h
    have hu := hu_of hr
    refine ⟨_, (pss_cons (ps_for PassesOwn.never rfl (pi_enum (by rfl) T.b_enumerate (pa_cons (pv 0) pa_nil)) (pg_tup (by rfl) (pgs_cons (pg_name (i := 4) sc_first_best_kind.nd rfl (Or.inl rfl)) (pgs_cons (pg_name (i := 5) sc_first_best_kind.nd rfl (Or.inl rfl)) pgs_nil)))
    (pss_one (ps_if (PW.pt (pw_and (pt_val (pe_meth (pv 5) T.cl_Kind m_matches G_matches (hr.mono (by decide)) b_matches .nil pass0 (pa_cons (pv 2) (pa_cons (pv 3) pa_nil)))) (pw_and1 (pt_cmpR op_eq (pe_fld (pv 5) rfl) (pe_dget hu (pv 1) (pe_tup (pa_cons (pv 2) (pa_cons (pv 3) pa_nil))) (fun _ _ => rfl)) (nomark _)))))
    (pss_one (ps_ret (pv 4))) pss_nil)))
  (pss_one (ps_ret pe_non))), ?_⟩
    refine ⟨_, rfl, l, _, rfl, SqL.of hK.lst, for_it (walk_enum (xs := as.map V.ref)) (fun i σ H' => ∃ u1 u2 : Option V, σ = [some (.ref l), some (.ref d), some (.int (x : Int)), some (.int (y : Int)), u1, u2] ∧ Same H H' ∧ ∀ (j : Nat) (q : Sr111.Kind), j < i → ks[j]? = some q → (Sr111.matchesKind q x y && q.value == v) = false)
      ⟨none, none, rfl, Same.refl H, fun j q h => by omega⟩ (fun i σ H' _ ⟨_, _, _, s1, _⟩ => SqL.of (s1 _ _ hK.lst)) ?_ ?_⟩
    · rintro i z σ H1 H2 hi ⟨u1, u2, rfl, s1, hn⟩ ⟨t, a0, b0, rfl, ht, rfl, ea, eb⟩
      obtain rfl : V.int (i : Nat) = a0 := Option.some.inj ea
      obtain ⟨a, ha, rfl⟩ := take_ref eb
      have s2 : Same H1 (upd H1 t (.tup [.int (i : Nat), .ref a])) := fun b o e => by rw [upd_ne (ne_of_none e ht)]; exact e
      have s3 := s1.trans s2
      obtain ⟨k, hk, dx, hka⟩ := (hK.same s3).get ha
      refine ⟨t, _, rfl, .inl (.inl upd_same), rfl, _, _, rfl, _, _, rfl, rfl, ?_⟩
      refine ⟨_, rfl, a, dx, _, rfl, hka, kF_matches k, _, rfl, _, rfl, ?_⟩
      refine ⟨a, k, x, y, rfl, ⟨dx, hka⟩, _, rfl, ?_⟩
      have next : (Sr111.matchesKind k x y && k.value == v) = false → ∀ (j : Nat) (q : Sr111.Kind), j < i + 1 → ks[j]? = some q → (Sr111.matchesKind q x y && q.value == v) = false := by
        intro e j q hj hq
        by_cases hji : j = i
        · subst hji
          rw [hk] at hq
          rw [← Option.some.inj hq]
          exact e
        · exact hn j q (by omega) hq
      by_cases c : Sr111.matchesKind k x y = true
      · refine ifT c ?_
        refine ⟨_, rfl, a, CK, dx, _, _, rfl, hka, T.cl_Kind, T.n_value, kF_value k, _, rfl, ?_⟩
        refine ⟨_, rfl, _, rfl, (by show 2 ≤ sizeLine; decide), fun p hp => ?_⟩
        have s4 : Same (upd H1 t (.tup [.int (i : Nat), .ref a])) (upd (upd H1 t (.tup [.int (i : Nat), .ref a])) p (.tup [.int (x : Int), .int (y : Int)])) := fun b o e => by rw [upd_ne (ne_of_none e hp)]; exact e
        have s5 := s3.trans s4
        refine ⟨d, _, rfl, by rw [← hv]; exact DGet.t (k := pk x y) (s5 _ _ hd) upd_same, rfl, _, rfl, ?_⟩
        by_cases c2 : k.value = v
        · refine ifT (by rw [cvi]; simpa using c2) ?_
          refine ⟨_, rfl, ?_⟩
          have := q _ s5
          rw [Sm.firstKind_at hk (by rw [c]; simpa using c2) hn] at this
          exact this
        · refine ifF (by rw [cvi]; simpa using c2) ?_
          exact ⟨_, _, rfl, s5, next (by rw [c]; simpa using c2)⟩
      · refine ifF (by simpa using c) ?_
        refine ifF rfl ?_
        exact ⟨_, _, rfl, s3, next (by rw [show Sr111.matchesKind k x y = false by simpa using c]; rfl)⟩
    · rintro σ H1 ⟨u1, u2, rfl, s1, hn⟩
      have := q _ s1
      rw [Sm.firstKind_not (fun j z hz => hn j z (by
        have := (List.getElem?_eq_some_iff.mp hz).1
        rw [List.length_map, hK.len]
        exact this) hz)] at this
      exact this

/-! ### the first cuts -/
abbrev s_first_best_vertical_cut : Stmt := top 36
theorem sc_first_best_vertical_cut : FnScope ["worths", "x", "y", "c"] ["worths", "x", "y"] (defScope s_first_best_vertical_cut) := ⟨rfl, rfl, rfl, by decide +kernel, rfl, by decide +kernel, by decide +kernel⟩
/-- worths that hold those of a piece and of what is smaller -/
def spFC (cut : List Sr111.Kind → Nat → Nat → Option Nat) : Sp := fun vs H Q _ => ∃ (d : Addr) (ks : List Sr111.Kind) (W0 H0 x y : Nat), vs = [.ref d, .int (x : Int), .int (y : Int)] ∧ WorthsAt H d ks W0 H0 ∧ (1 ≤ x ∧ x ≤ W0 ∧ 1 ≤ y ∧ y ≤ H0 ∧ W0 ≤ 9 ∧ H0 ≤ 9) ∧
  ∀ H', Same H H' → Q (oV ((cut ks x y).map (· + 1))) H'
theorem ok_first_best_vertical_cut {f : Addr} {fd : FuncData} (F : Fun K "first_best_vertical_cut" "first_best_vertical_cut" s_first_best_vertical_cut f fd) (T : Txt K mg CK CS)
    (c_v : Cal P w K mg base "vertical_cut_worth" 1 ["worths", "x", "y", "c"] spCutV) : FnOk P w K mg base CX0 2 f fd ["worths", "x", "y"] (spFC Sm.vcut) := by
  obtain ⟨_, _, m_vertical_cut_worth, kp_vertical_cut_worth, b_vertical_cut_worth, G_vertical_cut_worth⟩ := c_v.ex
  refine F.ok sc_first_best_vertical_cut (fun vs H Q E h => ?_) (fun cdv A outer s H vs Q E hr h => ?_)
  · obtain ⟨d, ks, W0, H0, x, y, rfl, _⟩ := h
    rfl
  · obtain ⟨d, ks, W0, H0, x, y, rfl, ⟨kvs, hd, hv⟩, hxy, q⟩ := h
    have hu := hu_of hr
    refine ⟨_, (pss_cons (ps_for PassesOwn.never rfl (pi_range2 rfl T.b_range (pa_cons pe_int (pa_cons (pv 1) pa_nil))) (pg_name (i := 3) sc_first_best_vertical_cut.nd rfl (Or.inl rfl))
    (pss_one (ps_if (pt_cmpR op_eq (pe_call G_vertical_cut_worth (hr.mono (by decide)) (by rfl) m_vertical_cut_worth kp_vertical_cut_worth b_vertical_cut_worth .nil pass0 (pa_cons (pv 0) (pa_cons (pv 1) (pa_cons (pv 2) (pa_cons (pv 3) pa_nil))))) (pe_dget hu (pv 0) (pe_tup (pa_cons (pv 1) (pa_cons (pv 2) pa_nil))) (fun _ _ => rfl)) (nomark _))
    (pss_one (ps_ret (pv 3))) pss_nil)))
  (pss_one (ps_ret pe_non))), ?_⟩
    have ex : ((x : Int) - 1).toNat = x - 1 := by omega
    refine ⟨_, rfl, _, _, rfl, (by omega), for_range (lo := 1) (n := ((x : Int) - 1).toNat) (fun i σ H' => ∃ v : Option V, σ = [some (.ref d), some (.int (x : Int)), some (.int (y : Int)), v] ∧ Same H H' ∧ ∀ j, j < i → (Sm.mv ks (j + 1) y + Sm.mv ks (x - (j + 1)) y == Sm.mv ks x y) = false)
      ⟨none, rfl, Same.refl H, fun j h => by omega⟩ ?_ ?_⟩
    · rintro i σ H1 hi ⟨v, rfl, s1, hn⟩
      have e1 : (1 : Int) + (i : Int) = ((i + 1 : Nat) : Int) := by omega
      refine ⟨_, rfl, _, rfl, _, rfl, _, rfl, ?_⟩
      refine ⟨d, kvs, x, y, i + 1, Sm.mv ks (i + 1) y, Sm.mv ks (x - (i + 1)) y, by rw [e1]; rfl, by omega, s1 _ _ hd, hv _ _ (by omega) (by omega) (by omega) (by omega), hv _ _ (by omega) (by omega) (by omega) (by omega), fun H2 s2 => ?_⟩
      refine ⟨_, rfl, _, rfl, _, rfl, (by show 2 ≤ sizeLine; decide), fun p hp => ?_⟩
      have s3 : Same H2 (upd H2 p (.tup [.int (x : Int), .int (y : Int)])) := fun b o e => by rw [upd_ne (ne_of_none e hp)]; exact e
      have s4 := (s1.trans s2).trans s3
      refine ⟨d, _, rfl, by rw [← hv x y (by omega) (by omega) (by omega) (by omega)]; exact DGet.t (k := pk x y) (s4 _ _ hd) upd_same, rfl, _, rfl, ?_⟩
      by_cases c : Sm.mv ks (i + 1) y + Sm.mv ks (x - (i + 1)) y = Sm.mv ks x y
      · refine ifT (by rw [cvi]; simpa using c) ?_
        refine ⟨_, rfl, ?_⟩
        have := q _ s4
        rw [show Sm.vcut ks x y = some i from Sm.find_first (by omega) (by simpa using c) hn] at this
        rw [e1]
        exact this
      · refine ifF (by rw [cvi]; simpa using c) ?_
        refine ⟨_, rfl, s4, fun j hj => ?_⟩
        by_cases hji : j = i
        · subst hji
          simpa using c
        · exact hn j (by omega)
    · rintro σ H1 ⟨v, rfl, s1, hn⟩
      rw [ex] at hn
      have := q _ s1
      rw [show Sm.vcut ks x y = none from Sm.find_none hn] at this
      exact this
abbrev s_first_best_horizontal_cut : Stmt := top 37
theorem sc_first_best_horizontal_cut : FnScope ["worths", "x", "y", "c"] ["worths", "x", "y"] (defScope s_first_best_horizontal_cut) := ⟨rfl, rfl, rfl, by decide +kernel, rfl, by decide +kernel, by decide +kernel⟩
theorem ok_first_best_horizontal_cut {f : Addr} {fd : FuncData} (F : Fun K "first_best_horizontal_cut" "first_best_horizontal_cut" s_first_best_horizontal_cut f fd) (T : Txt K mg CK CS)
    (c_h : Cal P w K mg base "horizontal_cut_worth" 1 ["worths", "x", "y", "c"] spCutH) : FnOk P w K mg base CX0 2 f fd ["worths", "x", "y"] (spFC Sm.hcut) := by
  obtain ⟨_, _, m_horizontal_cut_worth, kp_horizontal_cut_worth, b_horizontal_cut_worth, G_horizontal_cut_worth⟩ := c_h.ex
  refine F.ok sc_first_best_horizontal_cut (fun vs H Q E h => ?_) (fun cdv A outer s H vs Q E hr h => ?_)
  · obtain ⟨d, ks, W0, H0, x, y, rfl, _⟩ := h
    rfl
  · obtain ⟨d, ks, W0, H0, x, y, rfl, ⟨kvs, hd, hv⟩, hxy, q⟩ := h
    have hu := hu_of hr
    refine ⟨_, (pss_cons (ps_for PassesOwn.never rfl (pi_range2 rfl T.b_range (pa_cons pe_int (pa_cons (pv 2) pa_nil))) (pg_name (i := 3) sc_first_best_horizontal_cut.nd rfl (Or.inl rfl))
    (pss_one (ps_if (pt_cmpR op_eq (pe_call G_horizontal_cut_worth (hr.mono (by decide)) (by rfl) m_horizontal_cut_worth kp_horizontal_cut_worth b_horizontal_cut_worth .nil pass0 (pa_cons (pv 0) (pa_cons (pv 1) (pa_cons (pv 2) (pa_cons (pv 3) pa_nil))))) (pe_dget hu (pv 0) (pe_tup (pa_cons (pv 1) (pa_cons (pv 2) pa_nil))) (fun _ _ => rfl)) (nomark _))
    (pss_one (ps_ret (pv 3))) pss_nil)))
  (pss_one (ps_ret pe_non))), ?_⟩
    have ey : ((y : Int) - 1).toNat = y - 1 := by omega
    refine ⟨_, rfl, _, _, rfl, (by omega), for_range (lo := 1) (n := ((y : Int) - 1).toNat) (fun i σ H' => ∃ v : Option V, σ = [some (.ref d), some (.int (x : Int)), some (.int (y : Int)), v] ∧ Same H H' ∧ ∀ j, j < i → (Sm.mv ks x (j + 1) + Sm.mv ks x (y - (j + 1)) == Sm.mv ks x y) = false)
      ⟨none, rfl, Same.refl H, fun j h => by omega⟩ ?_ ?_⟩
    · rintro i σ H1 hi ⟨v, rfl, s1, hn⟩
      have e1 : (1 : Int) + (i : Int) = ((i + 1 : Nat) : Int) := by omega
      refine ⟨_, rfl, _, rfl, _, rfl, _, rfl, ?_⟩
      refine ⟨d, kvs, x, y, i + 1, Sm.mv ks x (i + 1), Sm.mv ks x (y - (i + 1)), by rw [e1]; rfl, by omega, s1 _ _ hd, hv _ _ (by omega) (by omega) (by omega) (by omega), hv _ _ (by omega) (by omega) (by omega) (by omega), fun H2 s2 => ?_⟩
      refine ⟨_, rfl, _, rfl, _, rfl, (by show 2 ≤ sizeLine; decide), fun p hp => ?_⟩
      have s3 : Same H2 (upd H2 p (.tup [.int (x : Int), .int (y : Int)])) := fun b o e => by rw [upd_ne (ne_of_none e hp)]; exact e
      have s4 := (s1.trans s2).trans s3
      refine ⟨d, _, rfl, by rw [← hv x y (by omega) (by omega) (by omega) (by omega)]; exact DGet.t (k := pk x y) (s4 _ _ hd) upd_same, rfl, _, rfl, ?_⟩
      by_cases c : Sm.mv ks x (i + 1) + Sm.mv ks x (y - (i + 1)) = Sm.mv ks x y
      · refine ifT (by rw [cvi]; simpa using c) ?_
        refine ⟨_, rfl, ?_⟩
        have := q _ s4
        rw [show Sm.hcut ks x y = some i from Sm.find_first (by omega) (by simpa using c) hn] at this
        rw [e1]
        exact this
      · refine ifF (by rw [cvi]; simpa using c) ?_
        refine ⟨_, rfl, s4, fun j hj => ?_⟩
        by_cases hji : j = i
        · subst hji
          simpa using c
        · exact hn j (by omega)
    · rintro σ H1 ⟨v, rfl, s1, hn⟩
      rw [ey] at hn
      have := q _ s1
      rw [show Sm.hcut ks x y = none from Sm.find_none hn] at this
      exact this

/-! ### best_step -/
abbrev s_best_step : Stmt := top 34
theorem sc_best_step : FnScope ["kinds", "worths", "x", "y", "k", "c"] ["kinds", "worths", "x", "y"] (defScope s_best_step) := ⟨rfl, rfl, rfl, by decide +kernel, rfl, by decide +kernel, by decide +kernel⟩
def spStep (CK : Addr) : Sp := fun vs H Q _ => ∃ (l d : Addr) (as : List Addr) (ks : List Sr111.Kind) (W0 H0 x y : Nat), vs = [.ref l, .ref d, .int (x : Int), .int (y : Int)] ∧ KindsAt CK H l as ks ∧ WorthsAt H d ks W0 H0 ∧ (1 ≤ x ∧ x ≤ W0 ∧ 1 ≤ y ∧ y ≤ H0 ∧ W0 ≤ 9 ∧ H0 ≤ 9) ∧
  ∀ (p : Addr) (st : List Int) (ps : List (Nat × Nat)) (H' : Hp), Same H H' → H p = none → H' p = some (.lst (st.map V.int)) → Sm.Stp ks x y st ps → Q (.ref p) H'
theorem ok_best_step {f : Addr} {fd : FuncData} (F : Fun K "best_step" "best_step" s_best_step f fd) (T : Txt K mg CK CS)
    (c_k : Cal P w K mg base "first_best_kind" 2 ["kinds", "worths", "x", "y"] (spFK CK)) (c_v : Cal P w K mg base "first_best_vertical_cut" 2 ["worths", "x", "y"] (spFC Sm.vcut)) (c_h : Cal P w K mg base "first_best_horizontal_cut" 2 ["worths", "x", "y"] (spFC Sm.hcut)) :
    FnOk P w K mg base CX0 3 f fd ["kinds", "worths", "x", "y"] (spStep CK) := by
  obtain ⟨_, _, m_first_best_kind, kp_first_best_kind, b_first_best_kind, G_first_best_kind⟩ := c_k.ex
  obtain ⟨_, _, m_first_best_vertical_cut, kp_first_best_vertical_cut, b_first_best_vertical_cut, G_first_best_vertical_cut⟩ := c_v.ex
  obtain ⟨_, _, m_first_best_horizontal_cut, kp_first_best_horizontal_cut, b_first_best_horizontal_cut, G_first_best_horizontal_cut⟩ := c_h.ex
  refine F.ok sc_best_step (fun vs H Q E h => ?_) (fun cdv A outer s H vs Q E hr h => ?_)
  · obtain ⟨l, d, as, ks, W0, H0, x, y, rfl, _⟩ := h
    rfl
  · obtain ⟨l, d, as, ks, W0, H0, x, y, rfl, hK, hW, hxy, q⟩ := h
    have hu := hu_of hr
    refine ⟨_, (pss_cons (ps_if (pt_cmpR op_eq (pe_dget hu (pv 1) (pe_tup (pa_cons (pv 2) (pa_cons (pv 3) pa_nil))) (fun _ _ => rfl)) pe_int (nomark _))
    (pss_one (ps_ret (pe_lst (pa_cons (pe_k (by rfl) T.k_WASTE) pa_nil)))) pss_nil)
  (pss_cons (ps_set (i := 4) sc_best_step.nd rfl (Or.inl rfl) (pe_call G_first_best_kind (hr.mono (by decide)) (by rfl) m_first_best_kind kp_first_best_kind b_first_best_kind .nil pass0 (pa_cons (pv 0) (pa_cons (pv 1) (pa_cons (pv 2) (pa_cons (pv 3) pa_nil))))))
  (pss_cons (ps_if (pt_cmp (pc_notN (pv 4)))
    (pss_one (ps_ret (pe_lst (pa_cons (pe_k (by rfl) T.k_STONE) (pa_cons (pv 4) pa_nil))))) pss_nil)
  (pss_cons (ps_set (i := 5) sc_best_step.nd rfl (Or.inl rfl) (pe_call G_first_best_vertical_cut (hr.mono (by decide)) (by rfl) m_first_best_vertical_cut kp_first_best_vertical_cut b_first_best_vertical_cut .nil pass0 (pa_cons (pv 1) (pa_cons (pv 2) (pa_cons (pv 3) pa_nil)))))
  (pss_cons (ps_if (pt_cmp (pc_notN (pv 5)))
    (pss_one (ps_ret (pe_lst (pa_cons (pe_k (by rfl) T.k_VERTICAL_CUT) (pa_cons (pv 5) pa_nil))))) pss_nil)
  (pss_one (ps_ret (pe_lst (pa_cons (pe_k (by rfl) T.k_HORIZONTAL_CUT) (pa_cons (pe_call G_first_best_horizontal_cut (hr.mono (by decide)) (by rfl) m_first_best_horizontal_cut kp_first_best_horizontal_cut b_first_best_horizontal_cut .nil pass0 (pa_cons (pv 1) (pa_cons (pv 2) (pa_cons (pv 3) pa_nil)))) pa_nil)))))))))), ?_⟩
    obtain ⟨kvs, hd, hv⟩ := id hW
    have hxyv := hv x y (by omega) (by omega) (by omega) (by omega)
    have new : ∀ {H1 : Hp} {p : Addr} {o : HO}, H1 p = none → Same H1 (upd H1 p o) := fun hp b o e => by rw [upd_ne (ne_of_none e hp)]; exact e
    refine ⟨_, rfl, _, rfl, _, rfl, (by show 2 ≤ sizeLine; decide), fun p hp => ?_⟩
    have s1 : Same H (upd H p (.tup [.int (x : Int), .int (y : Int)])) := new hp
    refine ⟨d, _, rfl, by rw [← hxyv]; exact DGet.t (k := pk x y) (s1 _ _ hd) upd_same, rfl, _, rfl, ?_⟩
    by_cases h0 : Sm.mv ks x y = 0
    · refine ifT (decide_eq_true (by rw [h0]; rfl)) ?_
      refine ⟨(by show 1 ≤ sizeLine; decide), fun p2 hp2 => ?_⟩
      refine q p2 [0] [] _ (s1.trans (new hp2)) (s1.free hp2) upd_same ?_
      cases Sm.how ks (by omega : 1 ≤ x) (by omega : 1 ≤ y) with
      | waste _ e => exact .of .waste (by unfold Sm.sts; rw [e]; rfl)
      | stone _ h _ _ => exact absurd h0 h
      | vert _ h _ _ _ => exact absurd h0 h
      | hori _ h _ _ _ _ => exact absurd h0 h
    · refine ifF (decide_eq_false (fun z => h0 (by have := V.int.inj z; omega))) ?_
      refine ⟨_, rfl, _, rfl, _, rfl, _, rfl, l, d, as, ks, kvs, x, y, Sm.mv ks x y, rfl, hK.same s1, s1 _ _ hd, hxyv, fun H2 s2 => ?_⟩
      refine ⟨_, rfl, _, rfl, ?_⟩
      cases Sm.how ks (by omega : 1 ≤ x) (by omega : 1 ≤ y) with
      | waste h _ => exact absurd h h0
      | stone k h hk e =>
        rw [hk]
        refine ifT rfl ?_
        refine ⟨_, rfl, (by show 2 ≤ sizeLine; decide), fun p2 hp2 => ?_⟩
        exact q p2 [1, (k : Int)] [] _ ((s1.trans s2).trans (new hp2)) ((s1.trans s2).free hp2) upd_same (.of (.stone k) (by unfold Sm.sts; rw [e]; rfl))
      | vert c h hk hc e =>
        rw [hk]
        refine ifF rfl ?_
        refine ⟨_, rfl, _, rfl, _, rfl, d, ks, W0, H0, x, y, rfl, hW.same (s1.trans s2), hxy, fun H3 s3 => ?_⟩
        rw [hc]
        refine ⟨_, rfl, _, rfl, ifT rfl ?_⟩
        refine ⟨_, rfl, (by show 2 ≤ sizeLine; decide), fun p2 hp2 => ?_⟩
        have hlt := Sm.vcut_lt hc
        exact q p2 [2, ((c + 1 : Nat) : Int)] [(c + 1, y), (x - (c + 1), y)] _ (((s1.trans s2).trans s3).trans (new hp2)) (((s1.trans s2).trans s3).free hp2) upd_same (.of (.vert (c + 1) (by omega) (by omega)) (by rw [Sm.two_parts]; unfold Sm.sts; rw [e]; rfl))
      | hori c h hk hc1 hc e =>
        rw [hk]
        refine ifF rfl ?_
        refine ⟨_, rfl, _, rfl, _, rfl, d, ks, W0, H0, x, y, rfl, hW.same (s1.trans s2), hxy, fun H3 s3 => ?_⟩
        rw [hc1]
        refine ⟨_, rfl, _, rfl, ifF rfl ?_⟩
        refine ⟨_, rfl, _, rfl, _, rfl, d, ks, W0, H0, x, y, rfl, hW.same ((s1.trans s2).trans s3), hxy, fun H4 s4 => ?_⟩
        rw [hc]
        refine ⟨(by show 2 ≤ sizeLine; decide), fun p2 hp2 => ?_⟩
        have hlt := Sm.hcut_lt hc
        exact q p2 [3, ((c + 1 : Nat) : Int)] [(x, c + 1), (x, y - (c + 1))] _ ((((s1.trans s2).trans s3).trans s4).trans (new hp2)) ((((s1.trans s2).trans s3).trans s4).free hp2) upd_same (.of (.hori (c + 1) (by omega) (by omega)) (by rw [Sm.two_parts]; unfold Sm.sts; rw [e]; rfl))
end
end Sb

/-! Steps: their parts, their stones, their encoding; the best pattern's steps, by a stack of pieces. -/
namespace Sb
open PySem PySem.Spec PyProof.Rows L2
open PySem.W (Codec)
theorem Same.new {H : Hp} {p : Addr} {o : HO} (hp : H p = none) : Same H (upd H p o) := fun b u e => by rw [upd_ne (ne_of_none e hp)]; exact e
/-- a piece as it stands in a list: the tuple's address, width, height -/
abbrev Pc := Addr × Nat × Nat
def PcAt (H : Hp) (z : Pc) : Prop := H z.1 = some (.tup [.int (z.2.1 : Int), .int (z.2.2 : Int)])
def pcs (zs : List Pc) : List V := zs.map fun z => V.ref z.1

/-- the list at p holds the steps ss, one list each -/
structure StepsAt (H : Hp) (p : Addr) (as : List Addr) (ss : List (List Int)) : Prop where
  lst : H p = some (.lst (as.map V.ref))
  len : as.length = ss.length
  at_ : ∀ (j : Nat) (a : Addr) (st : List Int), as[j]? = some a → ss[j]? = some st → H a = some (.lst (st.map V.int))
theorem StepsAt.same {H H' : Hp} {p : Addr} {as : List Addr} {ss : List (List Int)} (h : StepsAt H p as ss) (s : Same H H') : StepsAt H' p as ss :=
  ⟨s _ _ h.lst, h.len, fun j a st h1 h2 => s _ _ (h.at_ j a st h1 h2)⟩
theorem StepsAt.get {H : Hp} {p a : Addr} {as : List Addr} {ss : List (List Int)} (h : StepsAt H p as ss) {i : Nat} (ha : as[i]? = some a) : ∃ st, ss[i]? = some st ∧ H a = some (.lst (st.map V.int)) := by
  have hi := (List.getElem?_eq_some_iff.mp ha).1
  have hi2 : i < ss.length := by rw [← h.len]; exact hi
  have e : ss[i]? = some ss[i] := List.getElem?_eq_getElem hi2
  exact ⟨_, e, h.at_ i a _ ha e⟩
section
variable {P : Program} {w : World} {K : PySem.W.Frag} {mg : Str → Option Value} {base : Heap} {CK CS : Addr}
/-! ### parts_behind, is_cut -/
abbrev s_parts_behind : Stmt := top 18
theorem sc_parts_behind : FnScope ["step", "x", "y", "c"] ["step", "x", "y"] (defScope s_parts_behind) := ⟨rfl, rfl, rfl, by decide +kernel, rfl, by decide +kernel, by decide +kernel⟩
def spParts : Sp := fun vs H Q _ => ∃ (s : Addr) (st : List Int) (ps : List (Nat × Nat)) (x y : Nat), vs = [.ref s, .int (x : Int), .int (y : Int)] ∧ H s = some (.lst (st.map V.int)) ∧ Sm.Prt x y st ps ∧
  ∀ (p : Addr) (zs : List Pc) (H' : Hp), Same H H' → H p = none → H' p = some (.lst (pcs zs)) → zs.map Prod.snd = ps.reverse → (∀ z ∈ zs, PcAt H' z) → Q (.ref p) H'
theorem ok_parts_behind {f : Addr} {fd : FuncData} (F : Fun K "parts_behind" "parts_behind" s_parts_behind f fd) (T : Txt K mg CK CS) : FnOk P w K mg base CX0 1 f fd ["step", "x", "y"] spParts := by
  refine F.ok sc_parts_behind (fun vs H Q E h => ?_) (fun cdv A outer s H vs Q E hr h => ?_)
  · obtain ⟨s, st, ps, x, y, rfl, _⟩ := h
    rfl
  · obtain ⟨sa, st, ps, x, y, rfl, hs, hst, q⟩ := h
    have hu := hu_of hr
    refine ⟨_, (pss_cons (ps_if (pt_cmpR op_eq (pe_ix ix_list (pv 0) pe_int (fun _ _ => rfl)) (pe_k (by rfl) T.k_VERTICAL_CUT) (nomark _))
    (pss_cons (ps_set (i := 3) sc_parts_behind.nd rfl (Or.inl rfl) (pe_ix ix_list (pv 0) pe_int (fun _ _ => rfl)))
  (pss_one (ps_ret (pe_lst (pa_cons (pe_tup (pa_cons (pe_op op_sub (pv 1) (pv 3)) (pa_cons (pv 2) pa_nil))) (pa_cons (pe_tup (pa_cons (pv 3) (pa_cons (pv 2) pa_nil))) pa_nil)))))) pss_nil)
  (pss_cons (ps_if (pt_cmpR op_eq (pe_ix ix_list (pv 0) pe_int (fun _ _ => rfl)) (pe_k (by rfl) T.k_HORIZONTAL_CUT) (nomark _))
    (pss_cons (ps_set (i := 3) sc_parts_behind.nd rfl (Or.inl rfl) (pe_ix ix_list (pv 0) pe_int (fun _ _ => rfl)))
  (pss_one (ps_ret (pe_lst (pa_cons (pe_tup (pa_cons (pv 1) (pa_cons (pe_op op_sub (pv 2) (pv 3)) pa_nil))) (pa_cons (pe_tup (pa_cons (pv 1) (pa_cons (pv 3) pa_nil))) pa_nil)))))) pss_nil)
  (pss_one (ps_ret (pe_lst pa_nil))))), ?_⟩
    cases hst with
    | waste =>
      refine ⟨_, rfl, sa, _, 0, _, rfl, rfl, SqL.of hs, rfl, rfl, _, rfl, ifF rfl ?_⟩
      refine ⟨_, rfl, sa, _, 0, _, rfl, rfl, SqL.of hs, rfl, rfl, _, rfl, ifF rfl ?_⟩
      refine ⟨Nat.zero_le _, fun p hp => ?_⟩
      exact q p [] _ (Same.new hp) hp upd_same rfl fun z hz => nomatch hz
    | stone k =>
      refine ⟨_, rfl, sa, _, 0, _, rfl, rfl, SqL.of hs, rfl, rfl, _, rfl, ifF rfl ?_⟩
      refine ⟨_, rfl, sa, _, 0, _, rfl, rfl, SqL.of hs, rfl, rfl, _, rfl, ifF rfl ?_⟩
      refine ⟨Nat.zero_le _, fun p hp => ?_⟩
      exact q p [] _ (Same.new hp) hp upd_same rfl fun z hz => nomatch hz
    | vert c h1 h2 =>
      refine ⟨_, rfl, sa, _, 0, _, rfl, rfl, SqL.of hs, rfl, rfl, _, rfl, ifT rfl ?_⟩
      refine ⟨_, rfl, sa, _, 1, _, rfl, rfl, SqL.of hs, rfl, ?_⟩
      refine ⟨_, rfl, _, rfl, _, _, rfl, rfl, _, rfl, (by show 2 ≤ sizeLine; decide), fun p1 hp1 => ?_⟩
      refine ⟨_, rfl, _, rfl, (by show 2 ≤ sizeLine; decide), fun p2 hp2 => ?_⟩
      refine ⟨(by show 2 ≤ sizeLine; decide), fun p3 hp3 => ?_⟩
      have ex : (x : Int) - (c : Int) = ((x - c : Nat) : Int) := by omega
      have s1 := Same.new (o := .tup [.int ((x : Int) - (c : Int)), .int (y : Int)]) hp1
      have s2 := Same.new (o := .tup [.int (c : Int), .int (y : Int)]) hp2
      have s3 := Same.new (o := .lst [.ref p1, .ref p2]) hp3
      refine q p3 [(p1, x - c, y), (p2, c, y)] _ ((s1.trans s2).trans s3) ((s1.trans s2).free hp3) upd_same rfl fun z hz => ?_
      simp only [List.mem_cons, List.not_mem_nil, or_false] at hz
      rcases hz with rfl | rfl
      · refine s3 _ _ (s2 _ _ ?_)
        show upd _ p1 _ p1 = some (.tup [.int ((x - c : Nat) : Int), .int (y : Int)])
        rw [← ex]
        exact upd_same
      · exact s3 _ _ upd_same
    | hori c h1 h2 =>
      refine ⟨_, rfl, sa, _, 0, _, rfl, rfl, SqL.of hs, rfl, rfl, _, rfl, ifF rfl ?_⟩
      refine ⟨_, rfl, sa, _, 0, _, rfl, rfl, SqL.of hs, rfl, rfl, _, rfl, ifT rfl ?_⟩
      refine ⟨_, rfl, sa, _, 1, _, rfl, rfl, SqL.of hs, rfl, ?_⟩
      refine ⟨_, rfl, _, rfl, _, rfl, _, _, rfl, rfl, (by show 2 ≤ sizeLine; decide), fun p1 hp1 => ?_⟩
      refine ⟨_, rfl, _, rfl, (by show 2 ≤ sizeLine; decide), fun p2 hp2 => ?_⟩
      refine ⟨(by show 2 ≤ sizeLine; decide), fun p3 hp3 => ?_⟩
      have ex : (y : Int) - (c : Int) = ((y - c : Nat) : Int) := by omega
      have s1 := Same.new (o := .tup [.int (x : Int), .int ((y : Int) - (c : Int))]) hp1
      have s2 := Same.new (o := .tup [.int (x : Int), .int (c : Int)]) hp2
      have s3 := Same.new (o := .lst [.ref p1, .ref p2]) hp3
      refine q p3 [(p1, x, y - c), (p2, x, c)] _ ((s1.trans s2).trans s3) ((s1.trans s2).free hp3) upd_same rfl fun z hz => ?_
      simp only [List.mem_cons, List.not_mem_nil, or_false] at hz
      rcases hz with rfl | rfl
      · refine s3 _ _ (s2 _ _ ?_)
        show upd _ p1 _ p1 = some (.tup [.int (x : Int), .int ((y - c : Nat) : Int)])
        rw [← ex]
        exact upd_same
      · exact s3 _ _ upd_same
abbrev s_is_cut : Stmt := top 17
theorem sc_is_cut : FnScope ["step"] ["step"] (defScope s_is_cut) := ⟨rfl, rfl, rfl, by decide +kernel, rfl, by decide +kernel, by decide +kernel⟩
def spCutQ : Sp := fun vs H Q _ => ∃ (s : Addr) (a : Int) (r : List Int), vs = [.ref s] ∧ H s = some (.lst ((a :: r).map V.int)) ∧ Q (.bl (decide (a = 2) || decide (a = 3))) H
theorem ok_is_cut {f : Addr} {fd : FuncData} (F : Fun K "is_cut" "is_cut" s_is_cut f fd) (T : Txt K mg CK CS) : FnOk P w K mg base CX0 1 f fd ["step"] spCutQ := by
  refine F.ok sc_is_cut (fun vs H Q E h => ?_) (fun cdv A outer s H vs Q E hr h => ?_)
  · obtain ⟨s, a, r, rfl, _⟩ := h
    rfl
  · obtain ⟨sa, a, r, rfl, hs, q⟩ := h
    refine ⟨_, (pss_one (ps_ret (pe_or (pe_cmpR op_eq (pe_ix ix_list (pv 0) pe_int (fun _ _ => rfl)) (pe_k (by rfl) T.k_VERTICAL_CUT) (nomark _)) (pe_one (pe_cmpR op_eq (pe_ix ix_list (pv 0) pe_int (fun _ _ => rfl)) (pe_k (by rfl) T.k_HORIZONTAL_CUT) (nomark _)))))), ?_⟩
    refine ⟨_, rfl, sa, _, 0, .int a, rfl, rfl, SqL.of hs, at_of (j := 0) rfl (show ((a :: r).map V.int)[0]? = some (V.int a) from rfl), rfl, _, rfl, ?_⟩
    by_cases h2 : a = 2
    · rw [decide_eq_true h2, Bool.true_or] at q
      exact ifT (decide_eq_true (by rw [vi]; exact h2)) q
    · rw [decide_eq_false h2, Bool.false_or] at q
      refine ifF (decide_eq_false (by rw [vi]; exact h2)) ?_
      refine ⟨_, rfl, sa, _, 0, .int a, rfl, rfl, SqL.of hs, at_of (j := 0) rfl (show ((a :: r).map V.int)[0]? = some (V.int a) from rfl), rfl, ?_⟩
      have e : decide (V.int a = V.int 3) = decide (a = 3) := decide_eq_decide.mpr (by rw [vi])
      show Q (.bl (decide (V.int a = V.int 3))) H
      rw [e]
      exact q

/-! ### stones_in, encoding_of -/
abbrev s_stones_in : Stmt := top 19
theorem sc_stones_in : FnScope ["steps", "step"] ["steps"] (defScope s_stones_in) := ⟨rfl, rfl, rfl, by decide +kernel, rfl, by decide +kernel, by decide +kernel⟩
def spStones : Sp := fun vs H Q _ => ∃ (p : Addr) (as : List Addr) (ss : List (List Int)), vs = [.ref p] ∧ StepsAt H p as ss ∧ (∀ st ∈ ss, Sm.IsStep st) ∧ ss.length ≤ 1000 ∧
  ∀ (r : Addr) (H' : Hp), Same H H' → H r = none → H' r = some (.lst ((Sm.stonesIn ss).map V.int)) → Q (.ref r) H'
theorem ok_stones_in {f : Addr} {fd : FuncData} (F : Fun K "stones_in" "stones_in" s_stones_in f fd) (T : Txt K mg CK CS) : FnOk P w K mg base CX0 1 f fd ["steps"] spStones := by
  refine F.ok sc_stones_in (fun vs H Q E h => ?_) (fun cdv A outer s H vs Q E hr h => ?_)
  · obtain ⟨p, as, ss, rfl, _⟩ := h
    rfl
  · obtain ⟨p, as, ss, rfl, hS, hst, hl, q⟩ := h
    refine ⟨_, (pss_one (ps_ret (pe_lc (own := [("step", 1)]) (by rfl) sc_stones_in.nd (pi_list (pv 0)) (blkOk_by (own := [("step", 1)]) (N := ["steps", "step"]) (sc := defScope s_stones_in) (by decide +kernel)) (fun _ _ _ _ _ => (pg_name (i := 1) sc_stones_in.nd rfl (Or.inl rfl))) (fun _ _ _ _ _ => (pts_one (pt_cmpR op_eq (pe_ix (show IxR _ (rIxL K) from ix_list) (pv 1) pe_int (fun _ _ => rfl)) (pe_k (by rfl) T.k_STONE) (nomark _)))) (fun _ _ _ _ _ => (pe_ix (show IxR _ (rIxL K) from ix_list) (pv 1) pe_int (fun _ _ => rfl)))))), ?_⟩
    refine ⟨_, rfl, p, rfl, ⟨_, SqL.of hS.lst⟩, fun D hD => lc_list (xs := as.map V.ref) (fun i H' => Same H H' ∧ H' D = some (.lst ((Sm.stonesIn (ss.take i)).map V.int)))
      ⟨Same.new hD, upd_same⟩ (fun i H' _ h => SqL.of (h.1 _ _ hS.lst)) ?_ ?_⟩
    · rintro i x H1 hx ⟨s1, hD1⟩
      obtain ⟨a, ha, rfl⟩ := take_ref hx
      obtain ⟨st, hi, hst0⟩ := hS.get ha
      have hst1 := s1 _ _ hst0
      have hle : i < ss.length := (List.getElem?_eq_some_iff.mp hi).1
      have more := Sm.stonesIn_more hi
      refine ⟨rfl, ?_⟩
      rcases hst st (List.mem_of_getElem? hi) with rfl | ⟨b, k, rfl⟩
      · refine ⟨_, rfl, a, _, 0, _, rfl, rfl, SqL.of hst1, rfl, rfl, _, rfl, ifF rfl ?_⟩
        refine ⟨s1, ?_⟩
        rw [more]
        show H1 D = some (.lst ((Sm.stonesIn (ss.take i) ++ []).map V.int))
        rw [List.append_nil]
        exact hD1
      · refine ⟨_, rfl, a, _, 0, _, rfl, rfl, SqL.of hst1, rfl, rfl, _, rfl, ?_⟩
        by_cases hb : b = 1
        · subst hb
          refine ifT rfl ?_
          refine ⟨_, rfl, a, _, 1, _, rfl, rfl, SqL.of hst1, rfl, _, hD1, ?_, fun y o hy => ?_, ?_⟩
          · rw [List.length_map]
            have := Sm.stonesIn_len (ss.take i)
            rw [List.length_take] at this
            exact Nat.lt_of_le_of_lt (show (Sm.stonesIn (ss.take i)).length ≤ 1000 by omega) (by decide)
          · rw [upd_ne (ne_of_none hy hD)]
            exact s1 _ _ hy
          · rw [upd_same, more, List.map_append]
            rfl
        · refine ifF (decide_eq_false (by rw [vi]; exact hb)) ?_
          refine ⟨s1, ?_⟩
          have e0 : Sm.stonesIn [[b, k]] = [] := by simp [Sm.stonesIn, Sm.isStone, hb]
          rw [more, e0, List.append_nil]
          exact hD1
    · rintro H1 ⟨s1, hD1⟩
      rw [List.length_map, hS.len, List.take_length] at hD1
      exact q D H1 s1 hD hD1
abbrev s_encoding_of : Stmt := top 20
theorem sc_encoding_of : FnScope ["steps", "encoding", "step"] ["steps"] (defScope s_encoding_of) := ⟨rfl, rfl, rfl, by decide +kernel, rfl, by decide +kernel, by decide +kernel⟩
def spEncOf : Sp := fun vs H Q _ => ∃ (p : Addr) (as : List Addr) (ss : List (List Int)), vs = [.ref p] ∧ StepsAt H p as ss ∧ ss.flatten.length ≤ 1000 ∧
  ∀ (r : Addr) (H' : Hp), Same H H' → H r = none → H' r = some (.lst (ss.flatten.map V.int)) → Q (.ref r) H'
theorem ok_encoding_of {f : Addr} {fd : FuncData} (F : Fun K "encoding_of" "encoding_of" s_encoding_of f fd) (T : Txt K mg CK CS) : FnOk P w K mg base CX0 1 f fd ["steps"] spEncOf := by
  refine F.ok sc_encoding_of (fun vs H Q E h => ?_) (fun cdv A outer s H vs Q E hr h => ?_)
  · obtain ⟨p, as, ss, rfl, _⟩ := h
    rfl
  · obtain ⟨p, as, ss, rfl, hS, hl, q⟩ := h
    refine ⟨_, (pss_cons (ps_set (i := 1) sc_encoding_of.nd rfl (Or.inl rfl) (pe_lst pa_nil))
  (pss_cons (ps_for PassesOwn.never rfl (pi_list (pv 0)) (pg_name (i := 2) sc_encoding_of.nd rfl (Or.inl rfl))
    (pss_one (ps_expr (pe_bm PySem.F.plainAttrs_list PySem.F.slot_list_extend PySem.F.type_list_extend mt_extend (pv 1) (pa_cons (pv 2) pa_nil)))))
  (pss_one (ps_ret (pv 1))))), ?_⟩
    refine ⟨Nat.zero_le _, fun e he => ?_⟩
    refine ⟨_, rfl, p, rfl, ⟨_, SqL.of (Same.new he _ _ hS.lst)⟩, for_list (xs := as.map V.ref) (fun i σ H' => ∃ v : Option V, σ = [some (.ref p), some (.ref e), v] ∧ Same H H' ∧ H' e = some (.lst ((ss.take i).flatten.map V.int)))
      ⟨none, rfl, Same.new he, upd_same⟩ (fun i σ H' _ ⟨_, _, s1, _⟩ => SqL.of (s1 _ _ hS.lst)) ?_ ?_⟩
    · rintro i x σ H1 hx ⟨v, rfl, s1, he1⟩
      obtain ⟨a, ha, rfl⟩ := take_ref hx
      obtain ⟨st, hi, hst0⟩ := hS.get ha
      have hst1 := s1 _ _ hst0
      have more := Sm.flat_more hi
      refine ⟨_, rfl, .inl ⟨rfl, _, SqL.of he1⟩, _, rfl, e, a, _, _, rfl, rfl, he1, hst1, ?_, ?_⟩
      · rw [List.length_map, List.length_map]
        have h1 := Sm.flat_take ss (i + 1)
        rw [more, List.length_append] at h1
        exact Nat.le_trans (show (ss.take i).flatten.length + st.length ≤ 1000 by omega) (by decide)
      · refine ⟨_, rfl, fun y o hy => ?_, ?_⟩
        · rw [upd_ne (ne_of_none hy he)]
          exact s1 _ _ hy
        · rw [upd_same, more, List.map_append]
    · rintro σ H1 ⟨v, rfl, s1, he1⟩
      rw [List.length_map, hS.len, List.take_length] at he1
      exact ⟨_, rfl, q e H1 s1 he he1⟩

/-! ### best_steps -/
abbrev s_best_steps : Stmt := top 33
theorem sc_best_steps : FnScope ["kinds", "width", "height", "worths", "steps", "pieces", "piece", "step"] ["kinds", "width", "height"] (defScope s_best_steps) := ⟨rfl, rfl, rfl, by decide +kernel, rfl, by decide +kernel, by decide +kernel⟩
def spSteps (CK : Addr) : Sp := fun vs H Q _ => ∃ (l : Addr) (as : List Addr) (ks : List Sr111.Kind) (W0 H0 : Nat), vs = [.ref l, .int (W0 : Int), .int (H0 : Int)] ∧ KindsAt CK H l as ks ∧ (1 ≤ W0 ∧ W0 ≤ 9 ∧ 1 ≤ H0 ∧ H0 ≤ 9) ∧
  ∀ (p : Addr) (bs : List Addr) (H' : Hp), Same H H' → H p = none → StepsAt H' p bs (Sm.sts ks W0 H0) → Q (.ref p) H'
/-- the stack: pieces within the slab -/
structure Stack (H : Hp) (e q : Addr) (ks : List Sr111.Kind) (W0 H0 : Nat) (bs : List Addr) (out : List (List Int)) (zs : List Pc) : Prop where
  oe : StepsAt H e bs out
  oq : H q = some (.lst (pcs zs))
  at_ : ∀ z ∈ zs, PcAt H z ∧ 1 ≤ z.2.1 ∧ z.2.1 ≤ W0 ∧ 1 ≤ z.2.2 ∧ z.2.2 ≤ H0
  eq : Sm.sts ks W0 H0 = out ++ Sm.stss ks (zs.map Prod.snd).reverse
  ne : e ≠ q
  ds : ∀ b ∈ bs, b ≠ e ∧ b ≠ q
theorem ok_best_steps {f : Addr} {fd : FuncData} (F : Fun K "best_steps" "best_steps" s_best_steps f fd) (T : Txt K mg CK CS)
    (c_w : Cal P w K mg base "max_worths" 3 ["kinds", "width", "height"] (spWorths CK)) (c_s : Cal P w K mg base "best_step" 3 ["kinds", "worths", "x", "y"] (spStep CK)) (c_p : Cal P w K mg base "parts_behind" 1 ["step", "x", "y"] spParts) :
    FnOk P w K mg base CX0 4 f fd ["kinds", "width", "height"] (spSteps CK) := by
  obtain ⟨_, _, m_max_worths, kp_max_worths, b_max_worths, G_max_worths⟩ := c_w.ex
  obtain ⟨_, _, m_best_step, kp_best_step, b_best_step, G_best_step⟩ := c_s.ex
  obtain ⟨_, _, m_parts_behind, kp_parts_behind, b_parts_behind, G_parts_behind⟩ := c_p.ex
  refine F.ok sc_best_steps (fun vs H Q E h => ?_) (fun cdv A outer s H vs Q E hr h => ?_)
  · obtain ⟨l, as, ks, W0, H0, rfl, _⟩ := h
    rfl
  · obtain ⟨l, as, ks, W0, H0, rfl, hK, hWH, q⟩ := h
    have hu := hu_of hr
    refine ⟨_, (pss_cons (ps_set (i := 3) sc_best_steps.nd rfl (Or.inl rfl) (pe_call G_max_worths (hr.mono (by decide)) (by rfl) m_max_worths kp_max_worths b_max_worths .nil pass0 (pa_cons (pv 0) (pa_cons (pv 1) (pa_cons (pv 2) pa_nil)))))
  (pss_cons (ps_set (i := 4) sc_best_steps.nd rfl (Or.inl rfl) (pe_lst pa_nil))
  (pss_cons (ps_set (i := 5) sc_best_steps.nd rfl (Or.inl rfl) (pe_lst (pa_cons (pe_tup (pa_cons (pv 1) (pa_cons (pv 2) pa_nil))) pa_nil)))
  (pss_cons (ps_while PassesOwn.never (pt_cmpR op_gt (pe_callB call_len_seq (by rfl) T.b_len PySem.boot_len (pa_cons (pv 5) pa_nil)) pe_int (nomark _))
    (pss_cons (ps_set (i := 6) sc_best_steps.nd rfl (Or.inl rfl) (pe_bm0 PySem.F.plainAttrs_list PySem.F.slot_list_pop PySem.F.type_list_pop mt_pop (pv 5)))
  (pss_cons (ps_set (i := 7) sc_best_steps.nd rfl (Or.inl rfl) (pe_call G_best_step (hr.mono (by decide)) (by rfl) m_best_step kp_best_step b_best_step .nil pass0 (pa_cons (pv 0) (pa_cons (pv 3) (pa_cons (pe_ix ix_tup (pv 6) pe_int (fun _ _ => rfl)) (pa_cons (pe_ix ix_tup (pv 6) pe_int (fun _ _ => rfl)) pa_nil))))))
  (pss_cons (ps_expr (pe_bm PySem.F.plainAttrs_list PySem.F.slot_list_append PySem.F.type_list_append mt_append (pv 4) (pa_cons (pv 7) pa_nil)))
  (pss_one (ps_expr (pe_bm PySem.F.plainAttrs_list PySem.F.slot_list_extend PySem.F.type_list_extend mt_extend (pv 5) (pa_cons (pe_call G_parts_behind (hr.mono (by decide)) (by rfl) m_parts_behind kp_parts_behind b_parts_behind .nil pass0 (pa_cons (pv 7) (pa_cons (pe_ix ix_tup (pv 6) pe_int (fun _ _ => rfl)) (pa_cons (pe_ix ix_tup (pv 6) pe_int (fun _ _ => rfl)) pa_nil)))) pa_nil))))))))
  (pss_one (ps_ret (pv 4))))))), ?_⟩
    -- worths = max_worths(..); steps = []; pieces = [(width, height)]
    refine ⟨_, rfl, _, rfl, _, rfl, l, as, ks, W0, H0, rfl, hK, hWH, fun d H1 s1 hd hW => ?_⟩
    refine ⟨Nat.zero_le _, fun e he => ?_⟩
    refine ⟨_, rfl, _, rfl, (by show 2 ≤ sizeLine; decide), fun p0 hp0 => ⟨(by show 1 ≤ sizeLine; decide), fun pq hpq => ?_⟩⟩
    have t1 := Same.new (o := .lst []) he
    have t2 := Same.new (o := .tup [.int (W0 : Int), .int (H0 : Int)]) hp0
    have t3 := Same.new (o := .lst [.ref p0]) hpq
    have e1 : H1 pq = none := (t1.trans t2).free hpq
    have nep : e ≠ pq := ne_of_none (t2 _ _ upd_same) hpq
    have S0 : Stack (upd (upd (upd H1 e (.lst [])) p0 (.tup [.int (W0 : Int), .int (H0 : Int)])) pq (.lst [.ref p0])) e pq ks W0 H0 [] [] [(p0, W0, H0)] := by
      refine ⟨⟨t3 _ _ (t2 _ _ upd_same), rfl, fun j a st h => by simp at h⟩, upd_same, fun z hz => ?_, by simp [Sm.stss], nep, fun b hb => by cases hb⟩
      simp only [List.mem_cons, List.not_mem_nil, or_false] at hz
      subst hz
      exact ⟨t3 _ _ upd_same, hWH.1, Nat.le_refl _, hWH.2.2.1, Nat.le_refl _⟩
    -- the loop
    refine ⟨fun m σ H' => ∃ (bs : List Addr) (out : List (List Int)) (zs : List Pc) (u6 u7 : Option V), m = Sm.todo (zs.map Prod.snd) ∧ σ = [some (.ref l), some (.int (W0 : Int)), some (.int (H0 : Int)), some (.ref d), some (.ref e), some (.ref pq), u6, u7] ∧ Same H1 H' ∧ Stack H' e pq ks W0 H0 bs out zs,
      ⟨_, [], [], [(p0, W0, H0)], none, none, rfl, rfl, (t1.trans t2).trans t3, S0⟩, ?_⟩
    rintro m σ H2 ⟨bs, out, zs, u6, u7, rfl, rfl, s2, S⟩
    refine ⟨_, rfl, pq, _, rfl, .inl (SqL.of S.oq), _, _, rfl, rfl, _, rfl, ?_⟩
    rcases List.eq_nil_or_concat zs with rfl | ⟨zs, z, rfl⟩
    · -- no piece is left
      refine ifF rfl ?_
      refine ⟨_, rfl, ?_⟩
      have oe := S.oe
      have eq := S.eq
      simp [Sm.stss] at eq
      rw [← eq] at oe
      exact q e bs H2 (s1.trans s2) (s1.free he) oe
    · rw [List.concat_eq_append] at S ⊢
      refine ifT (decide_eq_true (by simp [pcs])) ?_
      refine ⟨_, fun _ _ h => h, ?_⟩
      obtain ⟨⟨hz, z1, z2, z3, z4⟩⟩ := (⟨S.at_ z (by simp)⟩ : PLift _)
      -- piece = pieces.pop()
      refine ⟨_, rfl, .inl ⟨rfl, _, SqL.of S.oq⟩, pq, pcs (zs ++ [z]), .ref z.1, rfl, rfl, S.oq, by simp [pcs], ?_⟩
      have edl : (pcs (zs ++ [z])).dropLast = pcs zs := by simp [pcs]
      rw [edl]
      have nez : z.1 ≠ pq := ne_of hz S.oq (by intro h; cases h)
      have hz3 : upd H2 pq (.lst (pcs zs)) z.1 = some (.tup [.int (z.2.1 : Int), .int (z.2.2 : Int)]) := by rw [upd_ne nez]; exact hz
      have s3 : Same H1 (upd H2 pq (.lst (pcs zs))) := fun b o h => by rw [upd_ne (ne_of_none h e1)]; exact s2 _ _ h
      -- step = best_step(kinds, worths, piece[0], piece[1])
      refine ⟨_, rfl, _, rfl, _, rfl, z.1, _, 0, _, rfl, rfl, .inl (.inl hz3), rfl, _, rfl, z.1, _, 1, _, rfl, rfl, .inl (.inl hz3), rfl, ?_⟩
      refine ⟨l, d, as, ks, W0, H0, z.2.1, z.2.2, rfl, hK.same (s1.trans s3), hW.same s3, by omega, fun ps st parts H4 s4 hps hst stp => ?_⟩
      -- steps.append(step)
      have oe3 : StepsAt (upd H2 pq (.lst (pcs zs))) e bs out := ⟨by rw [upd_ne S.ne]; exact S.oe.lst, S.oe.len, fun j a st h1 h2 => by rw [upd_ne (S.ds a (List.mem_of_getElem? h1)).2]; exact S.oe.at_ j a st h1 h2⟩
      have oe4 := oe3.same s4
      have hlen : out.length + zs.length + 1 ≤ 324 := by
        have h1 := congrArg List.length S.eq
        have h2 := Sm.sts_len ks (x := W0) (y := H0) (by omega) (by omega)
        have h3 : W0 * H0 ≤ 9 * 9 := Nat.mul_le_mul (by omega) (by omega)
        have h4 := Sm.stss_len ks ((zs ++ [z]).map Prod.snd).reverse
        rw [List.length_append] at h1
        rw [List.length_reverse, List.length_map, List.length_append] at h4
        simp only [List.length_cons, List.length_nil] at h4
        omega
      refine ⟨_, rfl, .inl ⟨rfl, _, SqL.of oe4.lst⟩, _, rfl, e, _, _, rfl, rfl, oe4.lst, ?_, ?_⟩
      · rw [List.length_map, S.oe.len]
        exact Nat.lt_of_le_of_lt (show out.length ≤ 324 by omega) (by decide)
      have nps : ps ≠ e := (ne_of_none oe3.lst hps).symm
      have npq : ps ≠ pq := (ne_of_none upd_same hps).symm
      have oq4 : H4 pq = some (.lst (pcs zs)) := s4 _ _ upd_same
      have s5 : Same H1 (upd H4 e (.lst (bs.map V.ref ++ [.ref ps]))) := fun b o h => by rw [upd_ne (ne_of_none h he)]; exact s4 _ _ (s3 _ _ h)
      have hst5 : upd H4 e (.lst (bs.map V.ref ++ [.ref ps])) ps = some (.lst (st.map V.int)) := by rw [upd_ne nps]; exact hst
      have oq5 : upd H4 e (.lst (bs.map V.ref ++ [.ref ps])) pq = some (.lst (pcs zs)) := by rw [upd_ne S.ne.symm]; exact oq4
      have hz5 : upd H4 e (.lst (bs.map V.ref ++ [.ref ps])) z.1 = some (.tup [.int (z.2.1 : Int), .int (z.2.2 : Int)]) := by
        rw [upd_ne (ne_of hz S.oe.lst (by intro h; cases h))]
        exact s4 _ _ hz3
      have oe5 : StepsAt (upd H4 e (.lst (bs.map V.ref ++ [.ref ps]))) e (bs ++ [ps]) (out ++ [st]) := by
        refine ⟨by rw [upd_same, List.map_append]; rfl, by rw [List.length_append, List.length_append, S.oe.len]; rfl, fun j a st' h1 h2 => ?_⟩
        by_cases hj : j < bs.length
        · rw [List.getElem?_append_left hj] at h1
          rw [List.getElem?_append_left (by rw [← S.oe.len]; exact hj)] at h2
          rw [upd_ne (S.ds a (List.mem_of_getElem? h1)).1]
          exact oe4.at_ j a st' h1 h2
        · have hj2 : j = bs.length := by
            have := (List.getElem?_eq_some_iff.mp h1).1
            rw [List.length_append] at this
            simp only [List.length_cons, List.length_nil] at this
            omega
          subst hj2
          rw [List.getElem?_append_right (Nat.le_refl _), Nat.sub_self] at h1
          rw [S.oe.len, List.getElem?_append_right (Nat.le_refl _), Nat.sub_self] at h2
          obtain rfl : ps = a := Option.some.inj h1
          obtain rfl : st = st' := Option.some.inj h2
          exact hst5
      -- pieces.extend(parts_behind(step, piece[0], piece[1]))
      refine ⟨_, rfl, .inl ⟨rfl, _, SqL.of oq5⟩, _, rfl, _, rfl, z.1, _, 0, _, rfl, rfl, .inl (.inl hz5), rfl, _, rfl, z.1, _, 1, _, rfl, rfl, .inl (.inl hz5), rfl, ?_⟩
      refine ⟨ps, st, parts, z.2.1, z.2.2, rfl, hst5, stp.prt, fun pp ws H6 s6 hpp hws eparts hat => ?_⟩
      have oq6 := s6 _ _ oq5
      have oe6 := oe5.same s6
      have hw2 : ws.length ≤ 2 := by
        have h3 := congrArg List.length eparts
        rw [List.length_map, List.length_reverse] at h3
        rw [h3]
        cases stp.prt <;> simp
      refine ⟨pq, pp, _, _, rfl, rfl, oq6, hws, ?_, ?_⟩
      · unfold pcs
        rw [List.length_map, List.length_map]
        exact Nat.le_trans (show zs.length + ws.length ≤ 1000 by omega) (by decide)
      · have nbs : ∀ b ∈ bs ++ [ps], b ≠ e ∧ b ≠ pq := fun b hb => by
          rcases List.mem_append.mp hb with h | h
          · exact S.ds b h
          · rw [List.mem_singleton] at h
            subst h
            exact ⟨nps, npq⟩
        refine ⟨_, ?_, bs ++ [ps], out ++ [st], zs ++ ws, _, _, rfl, rfl, fun b o h => ?_, ⟨⟨?_, oe6.len, fun j a st' h1 h2 => ?_⟩, ?_, fun y hy => ?_, ?_, S.ne, nbs⟩⟩
        · rw [List.map_append, List.map_append, Sm.todo_append, Sm.todo_append, eparts, Sm.todo_rev]
          have := stp.prt.less z1 z3
          have e3 : Sm.todo ([z].map Prod.snd) = 2 * (z.2.1 * z.2.2) - 1 := by simp [Sm.todo]
          omega
        · rw [upd_ne (ne_of_none h e1)]
          exact s6 _ _ (s5 _ _ h)
        · rw [upd_ne S.ne]
          exact oe6.lst
        · rw [upd_ne (nbs a (List.mem_of_getElem? h1)).2]
          exact oe6.at_ j a st' h1 h2
        · rw [upd_same]
          unfold pcs
          rw [List.map_append]
        · rcases List.mem_append.mp hy with h | h
          · have h1 := S.at_ y (by simp [h])
            have n1 : y.1 ≠ pq := ne_of h1.1 S.oq (by intro h; cases h)
            have n2 : y.1 ≠ e := ne_of h1.1 S.oe.lst (by intro h; cases h)
            refine ⟨?_, h1.2⟩
            show upd H6 pq _ y.1 = _
            rw [upd_ne n1]
            refine s6 _ _ ?_
            rw [upd_ne n2]
            refine s4 _ _ ?_
            rw [upd_ne n1]
            exact h1.1
          · have h1 := hat y h
            have n1 : y.1 ≠ pq := ne_of h1 oq6 (by intro h; cases h)
            refine ⟨?_, ?_⟩
            · show upd H6 pq _ y.1 = _
              rw [upd_ne n1]
              exact h1
            · have := stp.prt.within z1 z3 y.2 (by
                have h2 := List.mem_map_of_mem (f := Prod.snd) h
                rw [eparts] at h2
                exact List.mem_reverse.mp h2)
              omega
        · rw [S.eq, List.map_append, List.map_append, List.reverse_append, List.reverse_append, eparts, List.reverse_reverse, List.append_assoc]
          congr 1
          show Sm.stss ks (z.2 :: (zs.map Prod.snd).reverse) = _
          rw [Sm.stss_cons, stp.eq]
          show _ = st :: Sm.stss ks (parts ++ (zs.map Prod.snd).reverse)
          unfold Sm.stss
          rw [List.flatMap_append]
          rfl
end
end Sb

/-! Steps read from a list; steps held against a slab. -/
namespace Sb
open PySem PySem.Spec PyProof.Rows L2
open PySem.W (Codec)
/-- a slice between two places -/
theorem cut_nat (xs : List V) {i j : Nat} (h : i ≤ j) : cutV xs (some (i : Int)) (some (j : Int)) = (xs.drop i).take (j - i) := by
  unfold cutV
  rw [HT.sIx_nat, HT.sIx_nat]
  by_cases h1 : i ≤ xs.length
  · rw [Nat.min_eq_left h1]
    by_cases h2 : j ≤ xs.length
    · rw [Nat.min_eq_left h2]
    · rw [Nat.min_eq_right (by omega)]
      rw [List.take_of_length_le (by rw [List.length_drop]; omega), List.take_of_length_le (by rw [List.length_drop]; omega)]
  · rw [Nat.min_eq_right (by omega), Nat.min_eq_right (by omega), List.drop_eq_nil_of_le (Nat.le_refl _), List.drop_eq_nil_of_le (by omega)]
    simp
section
variable {P : Program} {w : World} {K : PySem.W.Frag} {mg : Str → Option Value} {base : Heap} {CK CS : Addr}
/-! ### step_at -/
abbrev s_step_at : Stmt := top 22
theorem sc_step_at : FnScope ["encoding", "place", "step"] ["encoding", "place"] (defScope s_step_at) := ⟨rfl, rfl, rfl, by decide +kernel, rfl, by decide +kernel, by decide +kernel⟩
def spStepAt : Sp := fun vs H Q _ => ∃ (e : Addr) (l : List Int) (pl : Nat), vs = [.ref e, .int (pl : Int)] ∧ H e = some (.lst (l.map V.int)) ∧
  (Sm.stepAt (l.drop pl) = none → ∀ H', Same H H' → Q .non H') ∧
  (∀ st, Sm.stepAt (l.drop pl) = some st → ∀ (p : Addr) (H' : Hp), Same H H' → H p = none → H' p = some (.lst (st.map V.int)) → Q (.ref p) H')
theorem ok_step_at {f : Addr} {fd : FuncData} (F : Fun K "step_at" "step_at" s_step_at f fd) (T : Txt K mg CK CS) (c_c : Cal P w K mg base "is_cut" 1 ["step"] spCutQ) : FnOk P w K mg base CX0 2 f fd ["encoding", "place"] spStepAt := by
  obtain ⟨_, _, m_is_cut, kp_is_cut, b_is_cut, G_is_cut⟩ := c_c.ex
  refine F.ok sc_step_at (fun vs H Q E h => ?_) (fun cdv A outer s H vs Q E hr h => ?_)
  · obtain ⟨e, l, pl, rfl, _⟩ := h
    rfl
  · obtain ⟨e, l, pl, rfl, he, qn, qs⟩ := h
    refine ⟨_, (pss_cons (ps_set (i := 2) sc_step_at.nd rfl (Or.inl rfl) (pe_slice sl_list (pv 0) (po_some (pv 1)) (po_some (pe_op op_add (pv 1) pe_int))))
  (pss_cons (ps_if (PW.pt (pw_and (pt_cmpR op_gt (pe_callB call_len_seq (by rfl) T.b_len PySem.boot_len (pa_cons (pv 2) pa_nil)) pe_int (nomark _)) (pw_and1 (pt_cmpR op_eq (pe_ix ix_list (pv 2) pe_int (fun _ _ => rfl)) (pe_k (by rfl) T.k_WASTE) (nomark _)))))
    (pss_one (ps_ret (pe_lst (pa_cons (pe_k (by rfl) T.k_WASTE) pa_nil)))) pss_nil)
  (pss_cons (ps_if (pt_cmpR op_lt (pe_callB call_len_seq (by rfl) T.b_len PySem.boot_len (pa_cons (pv 2) pa_nil)) pe_int (nomark _))
    (pss_one (ps_ret pe_non)) pss_nil)
  (pss_cons (ps_if (PW.pt (pw_and (pt_cmpR op_eq (pe_ix ix_list (pv 2) pe_int (fun _ _ => rfl)) (pe_k (by rfl) T.k_STONE) (nomark _)) (pw_and1 (pt_cmpR op_ge (pe_ix ix_list (pv 2) pe_int (fun _ _ => rfl)) pe_int (nomark _)))))
    (pss_one (ps_ret (pv 2))) pss_nil)
  (pss_cons (ps_if (PW.pt (pw_and (pt_val (pe_call G_is_cut (hr.mono (by decide)) (by rfl) m_is_cut kp_is_cut b_is_cut .nil pass0 (pa_cons (pv 2) pa_nil))) (pw_and1 (pt_cmpR op_ge (pe_ix ix_list (pv 2) pe_int (fun _ _ => rfl)) pe_int (nomark _)))))
    (pss_one (ps_ret (pv 2))) pss_nil)
  (pss_one (ps_ret pe_non))))))), ?_⟩
    refine ⟨_, rfl, _, rfl, _, rfl, _, rfl, _, _, rfl, rfl, _, rfl, e, _, rfl, SqL.of he, fun y hy => ?_⟩
    have ec : cutV (l.map V.int) (some (pl : Int)) (some ((pl : Int) + 2)) = ((l.drop pl).take 2).map V.int := by
      have := cut_nat (l.map V.int) (i := pl) (j := pl + 2) (by omega)
      rw [Nat.add_sub_cancel_left, ← List.map_drop, ← List.map_take] at this
      exact this
    have s1 : Same H (upd H y (.lst (cutV (l.map V.int) (some (pl : Int)) (some ((pl : Int) + 2))))) := Same.new hy
    have hy1 : upd H y (.lst (cutV (l.map V.int) (some (pl : Int)) (some ((pl : Int) + 2)))) y = some (.lst (((l.drop pl).take 2).map V.int)) := by rw [upd_same, ec]
    revert hy1 s1
    generalize upd H y (.lst (cutV (l.map V.int) (some (pl : Int)) (some ((pl : Int) + 2)))) = H1
    intro s1 hy1
    generalize l.drop pl = r at *
    match r with
    | [] =>
      refine ⟨_, rfl, y, _, rfl, .inl (SqL.of hy1), _, _, rfl, rfl, _, rfl, ifF rfl (ifF rfl ?_)⟩
      refine ⟨_, rfl, y, _, rfl, .inl (SqL.of hy1), _, _, rfl, rfl, _, rfl, ifT rfl ?_⟩
      exact qn rfl H1 s1
    | [a] =>
      refine ⟨_, rfl, y, _, rfl, .inl (SqL.of hy1), _, _, rfl, rfl, _, rfl, ifT rfl ?_⟩
      refine ⟨_, rfl, y, _, 0, .int a, rfl, rfl, SqL.of hy1, rfl, rfl, _, rfl, ?_⟩
      by_cases h0 : a = 0
      · refine ifT (decide_eq_true (by rw [vi]; exact h0)) ?_
        refine ⟨(by show 1 ≤ sizeLine; decide), fun p hp => ?_⟩
        subst h0
        exact qs [0] rfl p _ (s1.trans (Same.new hp)) (s1.free hp) upd_same
      · refine ifF (decide_eq_false (by rw [vi]; exact h0)) ?_
        refine ⟨_, rfl, y, _, rfl, .inl (SqL.of hy1), _, _, rfl, rfl, _, rfl, ifT rfl ?_⟩
        exact qn (Sm.stepAt_one h0) H1 s1
    | a :: k :: r =>
      have hy2 : H1 y = some (.lst [V.int a, V.int k]) := hy1
      refine ⟨_, rfl, y, _, rfl, .inl (SqL.of hy2), _, _, rfl, rfl, _, rfl, ifT rfl ?_⟩
      refine ⟨_, rfl, y, _, 0, .int a, rfl, rfl, SqL.of hy2, rfl, rfl, _, rfl, ?_⟩
      by_cases h0 : a = 0
      · refine ifT (decide_eq_true (by rw [vi]; exact h0)) ?_
        refine ⟨(by show 1 ≤ sizeLine; decide), fun p hp => ?_⟩
        subst h0
        exact qs [0] rfl p _ (s1.trans (Same.new hp)) (s1.free hp) upd_same
      · refine ifF (decide_eq_false (by rw [vi]; exact h0)) ?_
        refine ⟨_, rfl, y, _, rfl, .inl (SqL.of hy2), _, _, rfl, rfl, _, rfl, ifF rfl ?_⟩
        -- the end, where the step is no stone
        have nocut : ¬ (a = 2 ∨ a = 3) → (decide (a = 2) || decide (a = 3)) = false := fun h => by
          rw [decide_eq_false (fun z => h (.inl z)), decide_eq_false (fun z => h (.inr z))]
          rfl
        have iscut : (a = 2 ∨ a = 3) → (decide (a = 2) || decide (a = 3)) = true := fun h => by
          rcases h with h | h
          · rw [decide_eq_true h]; rfl
          · rw [decide_eq_true h, Bool.or_true]
        refine ⟨_, rfl, y, _, 0, .int a, rfl, rfl, SqL.of hy2, rfl, rfl, _, rfl, ?_⟩
        by_cases h1 : a = 1
        · refine ifT (decide_eq_true (by rw [vi]; exact h1)) ?_
          refine ⟨_, rfl, y, _, 1, .int k, rfl, rfl, SqL.of hy2, rfl, _, _, rfl, rfl, _, rfl, ?_⟩
          subst h1
          by_cases hk : k < 0
          · refine ifF (decide_eq_false (by omega)) ?_
            refine ⟨_, rfl, y, 1, [k], rfl, hy2, _, rfl, ifF rfl (ifF rfl ?_)⟩
            exact qn (by rw [Sm.stepAt_stone, if_pos hk]) H1 s1
          · refine ifT (decide_eq_true (by omega)) ?_
            exact ⟨_, rfl, qs [1, k] (by rw [Sm.stepAt_stone, if_neg hk]) y H1 s1 hy hy2⟩
        · refine ifF (decide_eq_false (by rw [vi]; exact h1)) (ifF rfl ?_)
          refine ⟨_, rfl, y, a, [k], rfl, hy2, _, rfl, ?_⟩
          by_cases h2 : a = 2 ∨ a = 3
          · refine ifT (iscut h2) ?_
            refine ⟨_, rfl, y, _, 1, .int k, rfl, rfl, SqL.of hy2, rfl, _, _, rfl, rfl, _, rfl, ?_⟩
            by_cases hk : k < 1
            · refine ifF (decide_eq_false (by omega)) ?_
              exact qn (by rw [Sm.stepAt_cut h2, if_pos hk]) H1 s1
            · refine ifT (decide_eq_true (by omega)) ?_
              exact ⟨_, rfl, qs [a, k] (by rw [Sm.stepAt_cut h2, if_neg hk]) y H1 s1 hy hy2⟩
          · refine ifF (nocut h2) (ifF rfl ?_)
            exact qn (Sm.stepAt_other h0 h1 h2 k r) H1 s1

/-! ### steps_of -/
abbrev s_steps_of : Stmt := top 21
theorem sc_steps_of : FnScope ["encoding", "steps", "place", "awaited", "step"] ["encoding"] (defScope s_steps_of) := ⟨rfl, rfl, rfl, by decide +kernel, rfl, by decide +kernel, by decide +kernel⟩
def spStepsOf : Sp := fun vs H Q _ => ∃ (e : Addr) (l : List Int), vs = [.ref e] ∧ H e = some (.lst (l.map V.int)) ∧ l.length ≤ 80 ∧
  (Sm.scan 1 l ≠ some [] → ∀ H', Same H H' → Q .non H') ∧
  (∀ z, l = Sr111.encodePattern z → Sm.Pos z → Sr111.decodePattern 40 l = some (z, []) → ∀ (p : Addr) (bs : List Addr) (H' : Hp), Same H H' → H p = none → StepsAt H' p bs (Sm.stepsOf z) → Q (.ref p) H')
theorem ok_steps_of {f : Addr} {fd : FuncData} (F : Fun K "steps_of" "steps_of" s_steps_of f fd) (T : Txt K mg CK CS) (c_c : Cal P w K mg base "is_cut" 1 ["step"] spCutQ) (c_a : Cal P w K mg base "step_at" 2 ["encoding", "place"] spStepAt) : FnOk P w K mg base CX0 3 f fd ["encoding"] spStepsOf := by
  obtain ⟨_, _, m_is_cut, kp_is_cut, b_is_cut, G_is_cut⟩ := c_c.ex
  obtain ⟨_, _, m_step_at, kp_step_at, b_step_at, G_step_at⟩ := c_a.ex
  refine F.ok sc_steps_of (fun vs H Q E h => ?_) (fun cdv A outer s H vs Q E hr h => ?_)
  · obtain ⟨e, l, rfl, _⟩ := h
    rfl
  · obtain ⟨e, l, rfl, he, hl, qn, qs⟩ := h
    refine ⟨_, (pss_cons (ps_set (i := 1) sc_steps_of.nd rfl (Or.inl rfl) (pe_lst pa_nil))
  (pss_cons (ps_set (i := 2) sc_steps_of.nd rfl (Or.inl rfl) pe_int)
  (pss_cons (ps_set (i := 3) sc_steps_of.nd rfl (Or.inl rfl) pe_int)
  (pss_cons (ps_while PassesOwn.never (pt_cmpR op_gt (pv 3) pe_int (nomark _))
    (pss_cons (ps_set (i := 4) sc_steps_of.nd rfl (Or.inl rfl) (pe_call G_step_at (hr.mono (by decide)) (by rfl) m_step_at kp_step_at b_step_at .nil pass0 (pa_cons (pv 0) (pa_cons (pv 2) pa_nil))))
  (pss_cons (ps_if (pt_cmp (pc_isN (pv 4)))
    (pss_one (ps_ret pe_non)) pss_nil)
  (pss_cons (ps_expr (pe_bm PySem.F.plainAttrs_list PySem.F.slot_list_append PySem.F.type_list_append mt_append (pv 1) (pa_cons (pv 4) pa_nil)))
  (pss_cons (ps_aug (i := 2) sc_steps_of.nd rfl (.inl rfl) (pe_callB call_len_seq (by rfl) T.b_len PySem.boot_len (pa_cons (pv 4) pa_nil)) ip_add)
  (pss_cons (ps_aug (i := 3) sc_steps_of.nd rfl (.inl rfl) pe_int ip_sub)
  (pss_one (ps_if (pt_val (pe_call G_is_cut (hr.mono (by decide)) (by rfl) m_is_cut kp_is_cut b_is_cut .nil pass0 (pa_cons (pv 4) pa_nil)))
    (pss_one (ps_aug (i := 3) sc_steps_of.nd rfl (.inl rfl) pe_int ip_add)) pss_nil))))))))
  (pss_cons (ps_if (pt_cmpR op_lt (pv 2) (pe_callB call_len_seq (by rfl) T.b_len PySem.boot_len (pa_cons (pv 0) pa_nil)) (nomark _))
    (pss_one (ps_ret pe_non)) pss_nil)
  (pss_one (ps_ret (pv 1)))))))), ?_⟩
    refine ⟨Nat.zero_le _, fun p hp => ?_⟩
    refine ⟨fun m σ H' => ∃ (bs : List Addr) (ss : List (List Int)) (pl aw : Nat) (u4 : Option V), m = l.length - pl ∧ σ = [some (.ref e), some (.ref p), some (.int (pl : Int)), some (.int (aw : Int)), u4] ∧ Same H H' ∧ StepsAt H' p bs ss ∧ (∀ b ∈ bs, b ≠ p) ∧ Sm.Read l pl aw ss,
      ⟨_, [], [], 0, 1, none, rfl, rfl, Same.new hp, ⟨upd_same, rfl, fun j a st h => by simp at h⟩, (fun b hb => by cases hb), Sm.Read.start l⟩, ?_⟩
    rintro m σ H1 ⟨bs, ss, pl, aw, u4, rfl, rfl, s1, S, nb, R⟩
    refine ⟨_, rfl, _, _, rfl, rfl, _, rfl, ?_⟩
    cases aw with
    | zero =>
      refine ifF rfl ?_
      refine ⟨_, rfl, _, rfl, e, _, rfl, .inl (SqL.of (s1 _ _ he)), _, _, rfl, rfl, _, rfl, ?_⟩
      rw [List.length_map]
      by_cases h : pl < l.length
      · refine ifT (decide_eq_true (by omega)) ?_
        exact qn (R.left h) H1 s1
      · refine ifF (decide_eq_false (by omega)) ?_
        refine ⟨_, rfl, ?_⟩
        obtain ⟨h1, h2⟩ := R.all h
        obtain ⟨z, hz, hp2, hd⟩ := Sm.dec_is' hl h1
        have e2 := h2 z hz hp2
        rw [e2] at S
        exact qs z hz hp2 hd p bs H1 s1 hp S
    | succ aw =>
      refine ifT (decide_eq_true (by omega)) ?_
      refine ⟨_, fun _ _ h => h, ?_⟩
      refine ⟨_, rfl, _, rfl, e, l, pl, rfl, s1 _ _ he, fun hn H2 s2 => ?_, fun st hst y H2 s2 hy0 hy => ?_⟩
      · refine ⟨_, rfl, _, rfl, ifT rfl ?_⟩
        exact qn (R.none hn) H2 (s1.trans s2)
      · refine ⟨_, rfl, _, rfl, ifF rfl ?_⟩
        have S2 := S.same s2
        have nyp : y ≠ p := (ne_of_none S.lst hy0).symm
        have hle := (R.turn hst).le
        refine ⟨_, rfl, .inl ⟨rfl, _, SqL.of S2.lst⟩, _, rfl, p, _, _, rfl, rfl, S2.lst, ?_, ?_⟩
        · rw [List.length_map, S.len]
          have := R.cnt
          exact Nat.lt_of_le_of_lt (show ss.length ≤ 80 by omega) (by decide)
        have hy3 : upd H2 p (.lst (bs.map V.ref ++ [.ref y])) y = some (.lst (st.map V.int)) := by rw [upd_ne nyp]; exact hy
        have s3 : Same H (upd H2 p (.lst (bs.map V.ref ++ [.ref y]))) := fun b o h => by rw [upd_ne (ne_of_none h hp)]; exact s2 _ _ (s1 _ _ h)
        have S3 : StepsAt (upd H2 p (.lst (bs.map V.ref ++ [.ref y]))) p (bs ++ [y]) (ss ++ [st]) := by
          refine ⟨by rw [upd_same, List.map_append]; rfl, by rw [List.length_append, List.length_append, S.len]; rfl, fun j a st' h1 h2 => ?_⟩
          by_cases hj : j < bs.length
          · rw [List.getElem?_append_left hj] at h1
            rw [List.getElem?_append_left (by rw [← S.len]; exact hj)] at h2
            rw [upd_ne (nb a (List.mem_of_getElem? h1))]
            exact S2.at_ j a st' h1 h2
          · have hj2 : j = bs.length := by
              have := (List.getElem?_eq_some_iff.mp h1).1
              rw [List.length_append] at this
              simp only [List.length_cons, List.length_nil] at this
              omega
            subst hj2
            rw [List.getElem?_append_right (Nat.le_refl _), Nat.sub_self] at h1
            rw [S.len, List.getElem?_append_right (Nat.le_refl _), Nat.sub_self] at h2
            obtain rfl : y = a := Option.some.inj h1
            obtain rfl : st = st' := Option.some.inj h2
            exact hy3
        have nb3 : ∀ b ∈ bs ++ [y], b ≠ p := fun b hb => by
          rcases List.mem_append.mp hb with h | h
          · exact nb b h
          · rw [List.mem_singleton] at h
            exact h ▸ nyp
        refine ⟨_, rfl, _, rfl, y, _, rfl, .inl (SqL.of hy3), _, _, rfl, rfl, ?_⟩
        refine ⟨_, rfl, _, _, rfl, rfl, ?_⟩
        have hst2 := (Sm.stepAt_some hst).2
        have ep : (pl : Int) + ((st.map V.int).length : Int) = ((pl + st.length : Nat) : Int) := by rw [List.length_map]; omega
        have R3 := R.turn hst
        have hpos : 1 ≤ st.length := by rcases hst2 with rfl | ⟨a, k, rfl⟩ <;> simp
        obtain ⟨a, r, rfl⟩ : ∃ a r, st = a :: r := by
          cases st with
          | nil => simp at hpos
          | cons a r => exact ⟨a, r, rfl⟩
        refine ⟨_, rfl, y, a, r, rfl, hy3, _, rfl, ?_⟩
        rw [Sm.grow_is] at R3
        by_cases h2 : a = 2 ∨ a = 3
        · refine ifT (by rcases h2 with h | h <;> simp [h]) ?_
          refine ⟨_, rfl, _, _, rfl, rfl, ?_⟩
          rw [if_pos h2] at R3
          have ea : ((aw + 1 : Nat) : Int) - 1 + 2 = ((aw + 2 : Nat) : Int) := by omega
          refine ⟨_, ?_, _, _, _, _, some (.ref y), rfl, ?_, s3, S3, nb3, R3⟩
          · omega
          · rw [← ep, ← ea]
            rfl
        · refine ifF (by simpa using h2) ?_
          rw [if_neg h2] at R3
          have ea : ((aw + 1 : Nat) : Int) - 1 = ((aw + 0 : Nat) : Int) := by omega
          refine ⟨_, ?_, _, _, _, _, some (.ref y), rfl, ?_, s3, S3, nb3, R3⟩
          · omega
          · rw [← ep, ← ea]
            rfl
end
end Sb

/-! Steps held against a slab; stones counted. -/
namespace Sb
open PySem PySem.Spec PyProof.Rows L2
open PySem.W (Codec)
/-- a comprehension's item that is kept at all events -/
theorem yes_if {σ : L2.St} {H1 : Hp} {A B : Hp → Prop} (h : A H1) : tYes σ H1 (fun b H3 => if b = true then A H3 else B H3) := by
  show (if true = true then A H1 else B H1)
  rw [if_pos rfl]
  exact h
section
variable {P : Program} {w : World} {K : PySem.W.Frag} {mg : Str → Option Value} {base : Heap} {CK CS : Addr}
/-! ### step_fits, fits -/
abbrev s_step_fits : Stmt := top 32
theorem sc_step_fits : FnScope ["kinds", "step", "x", "y", "k"] ["kinds", "step", "x", "y"] (defScope s_step_fits) := ⟨rfl, rfl, rfl, by decide +kernel, rfl, by decide +kernel, by decide +kernel⟩
def spFitQ (CK : Addr) : Sp := fun vs H Q _ => ∃ (l sa : Addr) (as : List Addr) (ks : List Sr111.Kind) (st : List Int) (x y : Nat), vs = [.ref l, .ref sa, .int (x : Int), .int (y : Int)] ∧ KindsAt CK H l as ks ∧ H sa = some (.lst (st.map V.int)) ∧ (∃ p qs, Sm.Fst p st qs) ∧ Q (.bl (Sm.stepFits ks x y st)) H
theorem ok_step_fits {f : Addr} {fd : FuncData} (F : Fun K "step_fits" "step_fits" s_step_fits f fd) (T : Txt K mg CK CS) (c_matches : MCal P w K mg base CK "matches" 1 ["self", "x", "y"] (spMatches CK)) : FnOk P w K mg base CX0 2 f fd ["kinds", "step", "x", "y"] (spFitQ CK) := by
  obtain ⟨_, _, m_matches, b_matches, G_matches⟩ := c_matches.ex
  refine F.ok sc_step_fits (fun vs H Q E h => ?_) (fun cdv A outer s H vs Q E hr h => ?_)
  · obtain ⟨l, sa, as, ks, st, x, y, rfl, _⟩ := h
    rfl
  · obtain ⟨l, sa, as, ks, st, x, y, rfl, hK, hs, ⟨p0, qs0, hf⟩, q⟩ := h
    refine ⟨_, (pss_cons (ps_if (pt_cmpR op_eq (pe_ix ix_list (pv 1) pe_int (fun _ _ => rfl)) (pe_k (by rfl) T.k_STONE) (nomark _))
    (pss_cons (ps_set (i := 4) sc_step_fits.nd rfl (Or.inl rfl) (pe_ix ix_list (pv 1) pe_int (fun _ _ => rfl)))
  (pss_one (ps_ret (pe_and (pe_cmpR op_lt (pv 4) (pe_callB call_len_seq (by rfl) T.b_len PySem.boot_len (pa_cons (pv 0) pa_nil)) (nomark _)) (pe_one (pe_meth (pe_ix ix_list (pv 0) (pv 4) (fun _ _ => rfl)) T.cl_Kind m_matches G_matches (hr.mono (by decide)) b_matches .nil pass0 (pa_cons (pv 2) (pa_cons (pv 3) pa_nil)))))))) pss_nil)
  (pss_cons (ps_if (pt_cmpR op_eq (pe_ix ix_list (pv 1) pe_int (fun _ _ => rfl)) (pe_k (by rfl) T.k_VERTICAL_CUT) (nomark _))
    (pss_one (ps_ret (pe_cmpR op_lt (pe_ix ix_list (pv 1) pe_int (fun _ _ => rfl)) (pv 2) (nomark _)))) pss_nil)
  (pss_cons (ps_if (pt_cmpR op_eq (pe_ix ix_list (pv 1) pe_int (fun _ _ => rfl)) (pe_k (by rfl) T.k_HORIZONTAL_CUT) (nomark _))
    (pss_one (ps_ret (pe_cmpR op_lt (pe_ix ix_list (pv 1) pe_int (fun _ _ => rfl)) (pv 3) (nomark _)))) pss_nil)
  (pss_one (ps_ret pe_bl))))), ?_⟩
    cases hf with
    | waste =>
      refine ⟨_, rfl, sa, _, 0, _, rfl, rfl, SqL.of hs, rfl, rfl, _, rfl, ifF rfl ?_⟩
      refine ⟨_, rfl, sa, _, 0, _, rfl, rfl, SqL.of hs, rfl, rfl, _, rfl, ifF rfl ?_⟩
      refine ⟨_, rfl, sa, _, 0, _, rfl, rfl, SqL.of hs, rfl, rfl, _, rfl, ifF rfl ?_⟩
      exact q
    | stone k =>
      refine ⟨_, rfl, sa, _, 0, _, rfl, rfl, SqL.of hs, rfl, rfl, _, rfl, ifT rfl ?_⟩
      refine ⟨_, rfl, sa, _, 1, _, rfl, rfl, SqL.of hs, rfl, ?_⟩
      refine ⟨_, rfl, _, rfl, l, _, rfl, .inl (SqL.of hK.lst), _, _, rfl, rfl, _, rfl, ?_⟩
      rw [List.length_map, hK.len]
      change Q (.bl (match ks[k]? with
        | some z => Sr111.matchesKind z x y
        | none => false)) H at q
      by_cases hk : k < ks.length
      · refine ifT (decide_eq_true (by omega)) ?_
        have hla : k < as.length := by rw [hK.len]; exact hk
        have ha : as[k]? = some as[k] := List.getElem?_eq_getElem hla
        have hi : ks[k]? = some ks[k] := List.getElem?_eq_getElem hk
        obtain ⟨dx, hka⟩ := hK.at_ _ _ _ ha hi
        rw [hi] at q
        refine ⟨_, rfl, _, rfl, l, _, (k : Int), .ref as[k], rfl, rfl, SqL.of hK.lst, atI_nat (by rw [List.getElem?_map, ha]; rfl), ?_⟩
        refine ⟨as[k], dx, _, rfl, hka, kF_matches _, _, rfl, _, rfl, ?_⟩
        exact ⟨as[k], ks[k], x, y, rfl, ⟨dx, hka⟩, q⟩
      · refine ifF (decide_eq_false (by omega)) ?_
        rw [List.getElem?_eq_none (by omega)] at q
        exact q
    | vert c a b =>
      refine ⟨_, rfl, sa, _, 0, _, rfl, rfl, SqL.of hs, rfl, rfl, _, rfl, ifF rfl ?_⟩
      refine ⟨_, rfl, sa, _, 0, _, rfl, rfl, SqL.of hs, rfl, rfl, _, rfl, ifT rfl ?_⟩
      refine ⟨_, rfl, sa, _, 1, _, rfl, rfl, SqL.of hs, rfl, _, rfl, _, _, rfl, rfl, ?_⟩
      exact q
    | hori c a b =>
      refine ⟨_, rfl, sa, _, 0, _, rfl, rfl, SqL.of hs, rfl, rfl, _, rfl, ifF rfl ?_⟩
      refine ⟨_, rfl, sa, _, 0, _, rfl, rfl, SqL.of hs, rfl, rfl, _, rfl, ifF rfl ?_⟩
      refine ⟨_, rfl, sa, _, 0, _, rfl, rfl, SqL.of hs, rfl, rfl, _, rfl, ifT rfl ?_⟩
      refine ⟨_, rfl, sa, _, 1, _, rfl, rfl, SqL.of hs, rfl, _, rfl, _, _, rfl, rfl, ?_⟩
      exact q
abbrev s_fits : Stmt := top 31
theorem sc_fits : FnScope ["kinds", "steps", "width", "height", "pieces", "step", "piece"] ["kinds", "steps", "width", "height"] (defScope s_fits) := ⟨rfl, rfl, rfl, by decide +kernel, rfl, by decide +kernel, by decide +kernel⟩
def spFits (CK : Addr) : Sp := fun vs H Q _ => ∃ (l p : Addr) (as bs : List Addr) (s : Sr111.Saw) (z : Sr111.Pattern), vs = [.ref l, .ref p, .int (s.width : Int), .int (s.height : Int)] ∧ KindsAt CK H l as s.kinds ∧ Sm.Fit s ∧ StepsAt H p bs (Sm.stepsOf z) ∧ Sm.Pos z ∧ (Sm.stepsOf z).length ≤ 80 ∧
  ∀ H', Same H H' → Q (.bl (Sr111.isApplicable s s.width s.height z)) H'
theorem ok_fits {f : Addr} {fd : FuncData} (F : Fun K "fits" "fits" s_fits f fd) (T : Txt K mg CK CS) (c_f : Cal P w K mg base "step_fits" 2 ["kinds", "step", "x", "y"] (spFitQ CK)) (c_p : Cal P w K mg base "parts_behind" 1 ["step", "x", "y"] spParts) : FnOk P w K mg base CX0 3 f fd ["kinds", "steps", "width", "height"] (spFits CK) := by
  obtain ⟨_, _, m_step_fits, kp_step_fits, b_step_fits, G_step_fits⟩ := c_f.ex
  obtain ⟨_, _, m_parts_behind, kp_parts_behind, b_parts_behind, G_parts_behind⟩ := c_p.ex
  refine F.ok sc_fits (fun vs H Q E h => ?_) (fun cdv A outer s H vs Q E hr h => ?_)
  · obtain ⟨l, p, as, bs, s, z, rfl, _⟩ := h
    rfl
  · obtain ⟨l, p, as, bs, s, z, rfl, hK, hF, hS, hP, hl, q⟩ := h
    refine ⟨_, (pss_cons (ps_set (i := 4) sc_fits.nd rfl (Or.inl rfl) (pe_lst (pa_cons (pe_tup (pa_cons (pv 2) (pa_cons (pv 3) pa_nil))) pa_nil)))
  (pss_cons (ps_for PassesOwn.never rfl (pi_list (pv 1)) (pg_name (i := 5) sc_fits.nd rfl (Or.inl rfl))
    (pss_cons (ps_set (i := 6) sc_fits.nd rfl (Or.inl rfl) (pe_bm0 PySem.F.plainAttrs_list PySem.F.slot_list_pop PySem.F.type_list_pop mt_pop (pv 4)))
  (pss_cons (ps_if (pt_not (pt_val (pe_call G_step_fits (hr.mono (by decide)) (by rfl) m_step_fits kp_step_fits b_step_fits .nil pass0 (pa_cons (pv 0) (pa_cons (pv 5) (pa_cons (pe_ix ix_tup (pv 6) pe_int (fun _ _ => rfl)) (pa_cons (pe_ix ix_tup (pv 6) pe_int (fun _ _ => rfl)) pa_nil)))))))
    (pss_one (ps_ret pe_bl)) pss_nil)
  (pss_one (ps_expr (pe_bm PySem.F.plainAttrs_list PySem.F.slot_list_extend PySem.F.type_list_extend mt_extend (pv 4) (pa_cons (pe_call G_parts_behind (hr.mono (by decide)) (by rfl) m_parts_behind kp_parts_behind b_parts_behind .nil pass0 (pa_cons (pv 5) (pa_cons (pe_ix ix_tup (pv 6) pe_int (fun _ _ => rfl)) (pa_cons (pe_ix ix_tup (pv 6) pe_int (fun _ _ => rfl)) pa_nil)))) pa_nil)))))))
  (pss_one (ps_ret pe_bl)))), ?_⟩
    refine ⟨_, rfl, _, rfl, (by show 2 ≤ sizeLine; decide), fun p0 hp0 => ⟨(by show 1 ≤ sizeLine; decide), fun pq hpq => ?_⟩⟩
    have t1 := Same.new (o := .tup [.int (s.width : Int), .int (s.height : Int)]) hp0
    have t2 := Same.new (o := .lst [.ref p0]) hpq
    have e1 : H pq = none := t1.free hpq
    refine ⟨_, rfl, p, rfl, ⟨_, SqL.of ((t1.trans t2) _ _ hS.lst)⟩, for_list (xs := bs.map V.ref) (fun i σ H' => ∃ (zs : List Pc) (wk : Sm.Wk) (u5 u6 : Option V), σ = [some (.ref l), some (.ref p), some (.int (s.width : Int)), some (.int (s.height : Int)), some (.ref pq), u5, u6] ∧ Same H H' ∧ H' pq = some (.lst (pcs zs)) ∧ (∀ c ∈ zs, PcAt H' c) ∧ zs.map Prod.snd = (wk.map Prod.snd).reverse ∧ Sm.Held s z (Sm.stepsOf z) i wk)
      ⟨[(p0, s.width, s.height)], _, none, none, rfl, t1.trans t2, upd_same, fun c hc => ?_, rfl, Sm.Held.start hF hP⟩ (fun i σ H' _ ⟨_, _, _, _, _, s1, _⟩ => SqL.of (s1 _ _ hS.lst)) ?_ ?_⟩
    · simp only [List.mem_cons, List.not_mem_nil, or_false] at hc
      subst hc
      exact t2 _ _ upd_same
    · rintro i v σ H1 hx ⟨zs, wk, u5, u6, rfl, s1, hq1, hz1, ez, W⟩
      obtain ⟨sa, ha, rfl⟩ := take_ref hx
      obtain ⟨st, hi, hst0⟩ := hS.get ha
      have hst1 := s1 _ _ hst0
      have hlt : i < (Sm.stepsOf z).length := (List.getElem?_eq_some_iff.mp hi).1
      have hform : ∃ p qs, Sm.Fst p st qs := Sm.steps_fst z st (List.mem_of_getElem? hi)
      obtain ⟨p1, x, y, w', rfl, hx1, hy1, hcase⟩ := W.turn hi
      obtain ⟨zs, c, rfl⟩ : ∃ zs' c, zs = zs' ++ [c] := by
        rcases List.eq_nil_or_concat zs with rfl | ⟨zs', c, rfl⟩
        · simp at ez
        · exact ⟨zs', c, List.concat_eq_append⟩
      have ec : c.2 = (x, y) ∧ zs.map Prod.snd = (w'.map Prod.snd).reverse := by
        rw [List.map_append, List.map_cons (l := w'), List.reverse_cons] at ez
        obtain ⟨h1, h2⟩ := List.append_inj' ez rfl
        exact ⟨(List.cons.inj h2).1, h1⟩
      obtain ⟨ca, cx, cy⟩ := c
      obtain ⟨ecx, ecz⟩ := ec
      obtain ⟨rfl, rfl⟩ : cx = x ∧ cy = y := ⟨congrArg Prod.fst ecx, congrArg Prod.snd ecx⟩
      have hc1 : H1 ca = some (.tup [.int (cx : Int), .int (cy : Int)]) := hz1 (ca, cx, cy) (by simp)
      -- piece = pieces.pop()
      refine ⟨_, rfl, .inl ⟨rfl, _, SqL.of hq1⟩, pq, pcs (zs ++ [(ca, cx, cy)]), .ref ca, rfl, rfl, hq1, by simp [pcs], ?_⟩
      have edl : (pcs (zs ++ [(ca, cx, cy)])).dropLast = pcs zs := by simp [pcs]
      rw [edl]
      have nca : ca ≠ pq := ne_of hc1 hq1 (by intro h; cases h)
      have hc3 : upd H1 pq (.lst (pcs zs)) ca = some (.tup [.int (cx : Int), .int (cy : Int)]) := by rw [upd_ne nca]; exact hc1
      have s3 : Same H (upd H1 pq (.lst (pcs zs))) := fun b o h => by rw [upd_ne (ne_of_none h e1)]; exact s1 _ _ h
      -- if not step_fits(kinds, step, piece[0], piece[1]): return False
      refine ⟨_, rfl, _, rfl, _, rfl, ca, _, 0, _, rfl, rfl, .inl (.inl hc3), rfl, _, rfl, ca, _, 1, _, rfl, rfl, .inl (.inl hc3), rfl, ?_⟩
      refine ⟨l, sa, as, s.kinds, st, cx, cy, rfl, hK.same s3, s3 _ _ hst0, hform, _, rfl, ?_⟩
      rcases hcase with ⟨hno, hbad⟩ | ⟨hyes, ps, u, hprt, hu, W2⟩
      · rw [hno]
        refine ifT rfl ?_
        have := q _ s3
        rw [hbad] at this
        exact this
      · rw [hyes]
        refine ifF rfl ?_
        -- pieces.extend(parts_behind(step, piece[0], piece[1]))
        refine ⟨_, rfl, .inl ⟨rfl, _, SqL.of upd_same⟩, _, rfl, _, rfl, ca, _, 0, _, rfl, rfl, .inl (.inl hc3), rfl, _, rfl, ca, _, 1, _, rfl, rfl, .inl (.inl hc3), rfl, ?_⟩
        refine ⟨sa, st, ps, cx, cy, rfl, s3 _ _ hst0, hprt, fun pp ws H6 s6 hpp hws eparts hat => ?_⟩
        have hq6 := s6 _ _ upd_same
        have hlen := W2.len
        have hw : zs.length + ws.length ≤ 1000 := by
          have h1 := congrArg List.length ecz
          have h2 := congrArg List.length eparts
          have h3 := congrArg List.length hu
          rw [List.length_map, List.length_reverse, List.length_map] at h1
          rw [List.length_map, List.length_reverse] at h2
          rw [List.length_map] at h3
          rw [List.length_append] at hlen
          omega
        refine ⟨pq, pp, _, _, rfl, rfl, hq6, hws, ?_, ?_⟩
        · unfold pcs
          rw [List.length_map, List.length_map]
          exact Nat.le_trans hw (by decide)
        · refine ⟨zs ++ ws, u ++ w', _, _, rfl, fun b o h => ?_, ?_, fun b hb => ?_, ?_, W2⟩
          · rw [upd_ne (ne_of_none h e1)]
            exact s6 _ _ (s3 _ _ h)
          · rw [upd_same]
            unfold pcs
            rw [List.map_append]
          · rcases List.mem_append.mp hb with h | h
            · have h1 := hz1 b (by simp [h])
              have n1 : b.1 ≠ pq := ne_of h1 hq1 (by intro h; cases h)
              show upd H6 pq _ b.1 = _
              rw [upd_ne n1]
              refine s6 _ _ ?_
              rw [upd_ne n1]
              exact h1
            · have h1 := hat b h
              have n1 : b.1 ≠ pq := ne_of h1 hq6 (by intro h; cases h)
              show upd H6 pq _ b.1 = _
              rw [upd_ne n1]
              exact h1
          · rw [List.map_append, List.map_append, List.reverse_append, eparts, hu, ecz]
    · rintro σ H1 ⟨zs, wk, u5, u6, rfl, s1, hq1, hz1, ez, W⟩
      rw [List.length_map, hS.len] at W
      have := q H1 s1
      rw [W.end_ (Nat.le_refl _)] at this
      exact this

/-! ### Stones counted -/
abbrev s_counts_by_kind : Stmt := top 40
theorem sc_counts_by_kind : FnScope ["kinds", "stones", "k"] ["kinds", "stones"] (defScope s_counts_by_kind) := ⟨rfl, rfl, rfl, by decide +kernel, rfl, by decide +kernel, by decide +kernel⟩
def countsV (n : Nat) (ns : List Int) : List Int := (List.range n).map fun (k : Nat) => ((ns.count (k : Int) : Nat) : Int)
def spCounts (CK : Addr) : Sp := fun vs H Q _ => ∃ (l p : Addr) (as : List Addr) (ks : List Sr111.Kind) (ns : List Int), vs = [.ref l, .ref p] ∧ KindsAt CK H l as ks ∧ ks.length ≤ 5 ∧ H p = some (.lst (ns.map V.int)) ∧
  ∀ (r : Addr) (H' : Hp), Same H H' → H r = none → H' r = some (.lst ((countsV ks.length ns).map V.int)) → Q (.ref r) H'
theorem ok_counts_by_kind {f : Addr} {fd : FuncData} (F : Fun K "counts_by_kind" "counts_by_kind" s_counts_by_kind f fd) (T : Txt K mg CK CS) : FnOk P w K mg base CX0 1 f fd ["kinds", "stones"] (spCounts CK) := by
  refine F.ok sc_counts_by_kind (fun vs H Q E h => ?_) (fun cdv A outer s H vs Q E hr h => ?_)
  · obtain ⟨l, p, as, ks, ns, rfl, _⟩ := h
    rfl
  · obtain ⟨l, p, as, ks, ns, rfl, hK, h5, hp, q⟩ := h
    refine ⟨_, (pss_one (ps_ret (pe_lc (own := [("k", 2)]) (by rfl) sc_counts_by_kind.nd (pi_range1 rfl T.b_range (pa_cons (pe_callB call_len_seq (by rfl) T.b_len PySem.boot_len (pa_cons (pv 0) pa_nil)) pa_nil)) (blkOk_by (own := [("k", 2)]) (N := ["kinds", "stones", "k"]) (sc := defScope s_counts_by_kind) (by decide +kernel)) (fun _ _ _ _ _ => (pg_name (i := 2) sc_counts_by_kind.nd rfl (Or.inl rfl))) (fun _ _ _ _ _ => pts_nil) (fun _ _ _ _ _ => (show PE _ _ (tBM K _ (rCntI K) _ _) from pe_bm PySem.F.plainAttrs_list PySem.F.slot_list_count PySem.F.type_list_count mt_lcount (pv 1) (pa_cons (pv 2) pa_nil)))))), ?_⟩
    refine ⟨_, rfl, l, _, rfl, .inl (SqL.of hK.lst), ?_⟩
    rw [List.length_map, hK.len]
    refine ⟨_, rfl, by omega, by omega, fun D hD => lc_range (lo := 0) (n := ks.length) (fun i H' => Same H H' ∧ H' D = some (.lst ((countsV i ns).map V.int)))
      ⟨Same.new hD, upd_same⟩ ?_ ?_⟩
    · rintro i H1 hi ⟨s1, hD1⟩
      refine ⟨rfl, yes_if ?_⟩
      refine ⟨_, rfl, .inl ⟨rfl, _, SqL.of (s1 _ _ hp)⟩, _, rfl, p, ns, _, rfl, rfl, SqL.of (s1 _ _ hp), _, hD1, ?_, fun y o hy => ?_, ?_⟩
      · unfold countsV
        rw [List.length_map, List.length_map, List.length_range]
        exact Nat.lt_of_le_of_lt (show i ≤ 5 by omega) (by decide)
      · rw [upd_ne (ne_of_none hy hD)]
        exact s1 _ _ hy
      · rw [upd_same]
        unfold countsV
        rw [List.range_succ, List.map_append, List.map_append, Int.zero_add]
        rfl
    · rintro H1 ⟨s1, hD1⟩
      exact q D H1 s1 hD hD1
abbrev s_value_together : Stmt := top 41
theorem sc_value_together : FnScope ["kinds", "stones", "k"] ["kinds", "stones"] (defScope s_value_together) := ⟨rfl, rfl, rfl, by decide +kernel, rfl, by decide +kernel, by decide +kernel⟩
def spTogether (CK : Addr) (v : Sr111.Kind → Nat) : Sp := fun vs H Q _ => ∃ (l p : Addr) (as : List Addr) (s : Sr111.Saw) (ns : List Nat), vs = [.ref l, .ref p] ∧ KindsAt CK H l as s.kinds ∧ H p = some (.lst ((ns.map fun (n : Nat) => (n : Int)).map V.int)) ∧ (∀ k ∈ ns, k < s.kinds.length ∧ (Sr111.kindAt s k).width ≤ 9) ∧ ns.length ≤ 1000 ∧
  ∀ H', Same H H' → Q (.int (((ns.map fun k => v (Sr111.kindAt s k)).sum : Nat) : Int)) H'
/-- what a kind in a list is -/
theorem KindsAt.kind {H : Hp} {l : Addr} {as : List Addr} {s : Sr111.Saw} (hK : KindsAt CK H l as s.kinds) {k : Nat} (hk : k < s.kinds.length) : ∃ a dx, (as.map V.ref)[k]? = some (.ref a) ∧ H a = some (.ins CK dx (kF (Sr111.kindAt s k))) := by
  have hla : k < as.length := by rw [hK.len]; exact hk
  have ha : as[k]? = some as[k] := List.getElem?_eq_getElem hla
  have hi : s.kinds[k]? = some (Sr111.kindAt s k) := by rw [List.getElem?_eq_getElem hk, Sm.kindAt_get hk]
  obtain ⟨dx, h⟩ := hK.at_ _ _ _ ha hi
  exact ⟨as[k], dx, by rw [List.getElem?_map, ha]; rfl, h⟩
theorem nat_at {ns : List Nat} {i : Nat} {x : V} (h : ((ns.map fun (n : Nat) => (n : Int)).map V.int)[i]? = some x) : ∃ k, ns[i]? = some k ∧ x = .int (k : Int) := by
  rw [List.getElem?_map, List.getElem?_map] at h
  cases e : ns[i]? with
  | none => rw [e] at h; cases h
  | some k => rw [e] at h; exact ⟨k, rfl, (Option.some.inj h).symm⟩
theorem ok_value_together {f : Addr} {fd : FuncData} (F : Fun K "value_together" "value_together" s_value_together f fd) (T : Txt K mg CK CS) : FnOk P w K mg base CX0 1 f fd ["kinds", "stones"] (spTogether CK Sr111.Kind.value) := by
  refine F.ok sc_value_together (fun vs H Q E h => ?_) (fun cdv A outer s H vs Q E hr h => ?_)
  · obtain ⟨l, p, as, s, ns, rfl, _⟩ := h
    rfl
  · obtain ⟨l, p, as, s, ns, rfl, hK, hp, hns, hl, q⟩ := h
    refine ⟨_, (pss_one (ps_ret (pe_callB (cr_sum rfl) (by rfl) T.b_sum (by decide +kernel) (pa_cons (pe_lc (own := [("k", 2)]) (by rfl) sc_value_together.nd (pi_list (pv 1)) (blkOk_by (own := [("k", 2)]) (N := ["kinds", "stones", "k"]) (sc := defScope s_value_together) (by decide +kernel)) (fun _ _ _ _ _ => (pg_name (i := 2) sc_value_together.nd rfl (Or.inl rfl))) (fun _ _ _ _ _ => pts_nil) (fun _ _ _ _ _ => (show PE _ _ (tFld K _ _) from pe_fld (pe_ix (show IxR _ (rIxL K) from ix_list) (pv 0) (pv 2) (fun _ _ => rfl)) rfl))) pa_nil)))), ?_⟩
    refine ⟨_, rfl, p, rfl, ⟨_, SqL.of hp⟩, fun D hD => lc_list (xs := (ns.map fun (n : Nat) => (n : Int)).map V.int) (fun i H' => Same H H' ∧ H' D = some (.lst ((((ns.take i).map fun k => (Sr111.kindAt s k).value).map fun (n : Nat) => (n : Int)).map V.int)))
      ⟨Same.new hD, upd_same⟩ (fun i H' _ h => SqL.of (h.1 _ _ hp)) ?_ ?_⟩
    · rintro i x H1 hx ⟨s1, hD1⟩
      obtain ⟨k, hi, rfl⟩ := nat_at hx
      obtain ⟨hk, _⟩ := hns k (List.mem_of_getElem? hi)
      obtain ⟨a, dx, ha, hka⟩ := (hK.same s1).kind hk
      refine ⟨rfl, yes_if ?_⟩
      refine ⟨_, rfl, _, rfl, l, _, (k : Int), .ref a, rfl, rfl, SqL.of (s1 _ _ hK.lst), atI_nat ha, ?_⟩
      refine ⟨a, CK, dx, _, _, rfl, hka, T.cl_Kind, T.n_value, kF_value _, _, hD1, ?_, fun y o hy => ?_, ?_⟩
      · rw [List.length_map, List.length_map, List.length_map, List.length_take]
        exact Nat.lt_of_le_of_lt (show min i ns.length ≤ 1000 by omega) (by decide)
      · rw [upd_ne (ne_of_none hy hD)]
        exact s1 _ _ hy
      · rw [upd_same, Sm.take_more hi, List.map_append, List.map_append, List.map_append]
        rfl
    · rintro H1 ⟨s1, hD1⟩
      rw [List.length_map, List.length_map, List.take_length] at hD1
      refine ⟨D, _, rfl, SqL.of hD1, ?_⟩
      rw [Sm.sum_cast]
      exact q H1 s1
abbrev s_area_together : Stmt := top 42
theorem sc_area_together : FnScope ["kinds", "stones", "k"] ["kinds", "stones"] (defScope s_area_together) := ⟨rfl, rfl, rfl, by decide +kernel, rfl, by decide +kernel, by decide +kernel⟩
theorem ok_area_together {f : Addr} {fd : FuncData} (F : Fun K "area_together" "area_together" s_area_together f fd) (T : Txt K mg CK CS) : FnOk P w K mg base CX0 1 f fd ["kinds", "stones"] (spTogether CK fun k => k.width * k.height) := by
  refine F.ok sc_area_together (fun vs H Q E h => ?_) (fun cdv A outer s H vs Q E hr h => ?_)
  · obtain ⟨l, p, as, s, ns, rfl, _⟩ := h
    rfl
  · obtain ⟨l, p, as, s, ns, rfl, hK, hp, hns, hl, q⟩ := h
    refine ⟨_, (pss_one (ps_ret (pe_callB (cr_sum rfl) (by rfl) T.b_sum (by decide +kernel) (pa_cons (pe_lc (own := [("k", 2)]) (by rfl) sc_area_together.nd (pi_list (pv 1)) (blkOk_by (own := [("k", 2)]) (N := ["kinds", "stones", "k"]) (sc := defScope s_area_together) (by decide +kernel)) (fun _ _ _ _ _ => (pg_name (i := 2) sc_area_together.nd rfl (Or.inl rfl))) (fun _ _ _ _ _ => pts_nil) (fun _ _ _ _ _ => (pe_op op_mul (show PE _ _ (tFld K _ _) from pe_fld (pe_ix (show IxR _ (rIxL K) from ix_list) (pv 0) (pv 2) (fun _ _ => rfl)) rfl) (show PE _ _ (tFld K _ _) from pe_fld (pe_ix (show IxR _ (rIxL K) from ix_list) (pv 0) (pv 2) (fun _ _ => rfl)) rfl)))) pa_nil)))), ?_⟩
    refine ⟨_, rfl, p, rfl, ⟨_, SqL.of hp⟩, fun D hD => lc_list (xs := (ns.map fun (n : Nat) => (n : Int)).map V.int) (fun i H' => Same H H' ∧ H' D = some (.lst ((((ns.take i).map fun k => (Sr111.kindAt s k).width * (Sr111.kindAt s k).height).map fun (n : Nat) => (n : Int)).map V.int)))
      ⟨Same.new hD, upd_same⟩ (fun i H' _ h => SqL.of (h.1 _ _ hp)) ?_ ?_⟩
    · rintro i x H1 hx ⟨s1, hD1⟩
      obtain ⟨k, hi, rfl⟩ := nat_at hx
      obtain ⟨hk, hw⟩ := hns k (List.mem_of_getElem? hi)
      obtain ⟨a, dx, ha, hka⟩ := (hK.same s1).kind hk
      refine ⟨rfl, yes_if ?_⟩
      refine ⟨_, rfl, _, rfl, l, _, (k : Int), .ref a, rfl, rfl, SqL.of (s1 _ _ hK.lst), atI_nat ha, ?_⟩
      refine ⟨a, CK, dx, _, _, rfl, hka, T.cl_Kind, T.n_width, kF_width _, ?_⟩
      refine ⟨_, rfl, _, rfl, l, _, (k : Int), .ref a, rfl, rfl, SqL.of (s1 _ _ hK.lst), atI_nat ha, ?_⟩
      refine ⟨a, CK, dx, _, _, rfl, hka, T.cl_Kind, T.n_height, kF_height _, ?_⟩
      refine ⟨_, _, rfl, rfl, .inl ⟨by omega, by omega⟩, _, hD1, ?_, fun y o hy => ?_, ?_⟩
      · rw [List.length_map, List.length_map, List.length_map, List.length_take]
        exact Nat.lt_of_le_of_lt (show min i ns.length ≤ 1000 by omega) (by decide)
      · rw [upd_ne (ne_of_none hy hD)]
        exact s1 _ _ hy
      · rw [upd_same, Sm.take_more hi, List.map_append, List.map_append, List.map_append]
        exact congrArg (fun z => some (HO.lst (_ ++ [V.int z]))) (Int.natCast_mul (Sr111.kindAt s k).width (Sr111.kindAt s k).height).symm
    · rintro H1 ⟨s1, hD1⟩
      rw [List.length_map, List.length_map, List.take_length] at hD1
      refine ⟨D, _, rfl, SqL.of hD1, ?_⟩
      rw [Sm.sum_cast]
      exact q H1 s1
end
end Sb

/-! The saw: its object, its methods. -/
namespace Sb
open PySem PySem.Spec PyProof.Rows L2
open PySem.W (Codec)
/-! ### The object -/
def sF (ex : Bool) (W0 H0 : Int) (l : Addr) : List (Str × V) := [("exists", .bl ex), ("width", .int W0), ("height", .int H0), ("kinds", .ref l)]
section
variable {ex : Bool} {W0 H0 : Int} {l : Addr}
theorem sF_exists : (sF ex W0 H0 l).lookup ("exists" : Str) = some (.bl ex) := lk_here
theorem sF_width : (sF ex W0 H0 l).lookup ("width" : Str) = some (.int W0) := (lk_past (by decide +kernel)).trans lk_here
theorem sF_height : (sF ex W0 H0 l).lookup ("height" : Str) = some (.int H0) := (lk_past (by decide +kernel)).trans ((lk_past (by decide +kernel)).trans lk_here)
theorem sF_kinds : (sF ex W0 H0 l).lookup ("kinds" : Str) = some (.ref l) := (lk_past (by decide +kernel)).trans ((lk_past (by decide +kernel)).trans ((lk_past (by decide +kernel)).trans lk_here))
theorem sF_no {m : Str} (h1 : (m == ("exists" : Str)) = false) (h2 : (m == ("width" : Str)) = false) (h3 : (m == ("height" : Str)) = false) (h4 : (m == ("kinds" : Str)) = false) : (sF ex W0 H0 l).lookup m = none :=
  (lk_past h1).trans ((lk_past h2).trans ((lk_past h3).trans ((lk_past h4).trans rfl)))
theorem sF_put_exists (b : Bool) : putF "exists" (.bl b) (sF ex W0 H0 l) = sF b W0 H0 l := put_here
theorem sF_put_width (z : Int) : putF "width" (.int z) (sF ex W0 H0 l) = sF ex z H0 l := (put_past (by decide +kernel)).trans (congrArg _ put_here)
theorem sF_put_height (z : Int) : putF "height" (.int z) (sF ex W0 H0 l) = sF ex W0 z l := (put_past (by decide +kernel)).trans (congrArg _ ((put_past (by decide +kernel)).trans (congrArg _ put_here)))
theorem sF_put_kinds (q : Addr) : putF "kinds" (.ref q) (sF ex W0 H0 l) = sF ex W0 H0 q := (put_past (by decide +kernel)).trans (congrArg _ ((put_past (by decide +kernel)).trans (congrArg _ ((put_past (by decide +kernel)).trans (congrArg _ put_here)))))
end
theorem kF_put_value (k : Sr111.Kind) (v : Nat) : putF "value" (.int (v : Int)) (kF k) = kF { k with value := v } := (put_past (by decide +kernel)).trans (congrArg _ ((put_past (by decide +kernel)).trans (congrArg _ put_here)))
theorem kF_put_may_turn (k : Sr111.Kind) (b : Bool) : putF "may_turn" (.int (SrCommon.boolToInt b)) (kF k) = kF { k with mayTurn := b } := (put_past (by decide +kernel)).trans (congrArg _ ((put_past (by decide +kernel)).trans (congrArg _ ((put_past (by decide +kernel)).trans (congrArg _ put_here)))))
/-- the object at p is in the state; fp: the addresses that it may write -/
def SawAt (CS CK : Addr) (H : Hp) (p : Addr) (fp : List Addr) : Sr111.State → Prop
  | none => fp = [p] ∧ ∃ dx W0 H0 l, H p = some (.ins CS dx (sF false W0 H0 l))
  | some s => ∃ dx l as, fp = p :: l :: as ∧ H p = some (.ins CS dx (sF true (s.width : Int) (s.height : Int) l)) ∧ KindsAt CK H l as s.kinds ∧ Sm.Fit s
theorem SawAt.same {CS CK : Addr} {H H' : Hp} {p : Addr} {fp : List Addr} : ∀ {st : Sr111.State}, SawAt CS CK H p fp st → Same H H' → SawAt CS CK H' p fp st
  | none, ⟨e, dx, W0, H0, l, h⟩, s => ⟨e, dx, W0, H0, l, s _ _ h⟩
  | some _, ⟨dx, l, as, e, h, k, f⟩, s => ⟨dx, l, as, e, s _ _ h, k.same s, f⟩
theorem SawAt.self {CS CK : Addr} {H : Hp} {p : Addr} {fp : List Addr} : ∀ {st : Sr111.State}, SawAt CS CK H p fp st → p ∈ fp ∧ ∃ dx ex W0 H0 l, H p = some (.ins CS dx (sF ex W0 H0 l))
  | none, ⟨e, dx, W0, H0, l, h⟩ => ⟨by simp [e], dx, false, W0, H0, l, h⟩
  | some _, ⟨dx, l, as, e, h, _, _⟩ => ⟨by simp [e], dx, true, _, _, l, h⟩
/-- a kind is no saw -/
theorem kind_ne {CS CK : Addr} {H : Hp} {p a dx : Addr} {ex : Bool} {W0 H0 : Int} {l : Addr} {k : Sr111.Kind} (hp : H p = some (.ins CS dx (sF ex W0 H0 l))) (hk : KindAt CK H a k) : a ≠ p := by
  obtain ⟨d2, h3⟩ := hk
  intro h4
  subst h4
  rw [hp] at h3
  have h5 := HO.ins.inj (Option.some.inj h3)
  have h6 := congrArg (List.lookup ("kinds" : Str)) h5.2.2
  rw [sF_kinds] at h6
  have h7 : (kF k).lookup ("kinds" : Str) = none := (lk_past (by decide +kernel)).trans ((lk_past (by decide +kernel)).trans ((lk_past (by decide +kernel)).trans ((lk_past (by decide +kernel)).trans rfl)))
  rw [h7] at h6
  cases h6
/-- what is written elsewhere leaves the saw as it is -/
theorem SawAt.frame {CS CK : Addr} {H H' : Hp} {p : Addr} {fp : List Addr} : ∀ {st : Sr111.State}, SawAt CS CK H p fp st → (∀ b, b ∈ fp → H' b = H b) → SawAt CS CK H' p fp st
  | none, ⟨e, dx, W0, H0, l, h⟩, s => ⟨e, dx, W0, H0, l, (s p (by simp [e])).trans h⟩
  | some _, ⟨dx, l, as, e, h, k, f⟩, s => ⟨dx, l, as, e, (s p (by simp [e])).trans h, ⟨(s l (by simp [e])).trans k.lst, k.nd, k.len, fun j a q h1 h2 => let ⟨d2, h3⟩ := k.at_ j a q h1 h2; ⟨d2, (s a (by simp [e, List.mem_of_getElem? h1])).trans h3⟩⟩, f⟩
theorem upd_none {H : Hp} {p r : Addr} {o : HO} (h : upd H p o r = none) : H r = none := by
  by_cases e : r = p
  · rw [e, upd_same] at h; cases h
  · rwa [upd_ne e] at h
/-- the state behind a call, what it answers -/
def nxt (st : Sr111.State) (c : Sr111.Call) : Sr111.State := (Sr111.step st c).1
def out (st : Sr111.State) (c : Sr111.Call) : List Int := (Sr111.step st c).2.code :: (Sr111.step st c).2.values
/-- what a call's caller wants: a list with the answer, the object in the next state, what is not the saw's as it was -/
def Ans (CS CK : Addr) (H : Hp) (p : Addr) (fp : List Addr) (st : Sr111.State) (c : Sr111.Call) (Q : VK) : Prop :=
  ∀ (r : Addr) (H' : Hp) (fp' : List Addr), SawAt CS CK H' p fp' (nxt st c) → (∀ b, b ∈ fp' → b ∈ fp ∨ H b = none) → (∀ b o, H b = some o → ¬ b ∈ fp → H' b = some o) → H r = none → H' r = some (.lst ((out st c).map V.int)) → Q (.ref r) H'
/-- nothing is changed -/
theorem Ans.stays {CS CK : Addr} {H H1 : Hp} {p q : Addr} {fp : List Addr} {st : Sr111.State} {c : Sr111.Call} {Q : VK} {zs : List V} (A : Ans CS CK H p fp st c Q) (S : SawAt CS CK H p fp st) (hn : nxt st c = st) (s : Same H H1) (h0 : H q = none) (hq : H1 q = some (.lst zs)) (ho : zs = (out st c).map V.int) : Q (.ref q) H1 := by
  subst ho
  refine A q H1 fp ?_ (fun b hb => .inl hb) (fun b o h _ => s _ _ h) h0 hq
  rw [hn]
  exact S.same s
def spOp0 (CS CK : Addr) (c : Sr111.Call) : Sp := fun vs H Q _ => ∃ (p : Addr) (fp : List Addr) (s : Sr111.Saw), vs = [.ref p] ∧ SawAt CS CK H p fp (some s) ∧ Ans CS CK H p fp (some s) c Q
def spOp1 (CS CK : Addr) (c : Int → Sr111.Call) : Sp := fun vs H Q _ => ∃ (p : Addr) (fp : List Addr) (s : Sr111.Saw) (a : Int), vs = [.ref p, .int a] ∧ SawAt CS CK H p fp (some s) ∧ Ans CS CK H p fp (some s) (c a) Q
def spOp2 (CS CK : Addr) (c : Int → Int → Sr111.Call) : Sp := fun vs H Q _ => ∃ (p : Addr) (fp : List Addr) (s : Sr111.Saw) (a b : Int), vs = [.ref p, .int a, .int b] ∧ SawAt CS CK H p fp (some s) ∧ Ans CS CK H p fp (some s) (c a b) Q
def spOp4 (CS CK : Addr) (c : Int → Int → Int → Int → Sr111.Call) : Sp := fun vs H Q _ => ∃ (p : Addr) (fp : List Addr) (s : Sr111.Saw) (a b d e : Int), vs = [.ref p, .int a, .int b, .int d, .int e] ∧ SawAt CS CK H p fp (some s) ∧ Ans CS CK H p fp (some s) (c a b d e) Q
def spCreate (CS CK : Addr) : Sp := fun vs H Q _ => ∃ (p : Addr) (fp : List Addr) (st : Sr111.State) (a b : Int), vs = [.ref p, .int a, .int b] ∧ SawAt CS CK H p fp st ∧ Ans CS CK H p fp st (.create a b) Q
/-- the specification's words -/
theorem st_same {s : Sr111.Saw} {c : Sr111.Call} {r : SrCommon.Result} (h : Sr111.step (some s) c = (some s, r)) : nxt (some s) c = some s ∧ out (some s) c = r.code :: r.values := by
  unfold nxt out
  rw [h]
  exact ⟨rfl, rfl⟩

section
variable {P : Program} {w : World} {K : PySem.W.Frag} {mg : Str → Option Value} {base : Heap} {CK CS : Addr}

/-! ### Kind() -/
abbrev s_Kind___init__ : Stmt := inClass (top 39) 0
theorem sc_Kind___init__ : FnScope ["self", "width", "height", "value", "may_turn"] ["self", "width", "height", "value", "may_turn"] (defScope s_Kind___init__) := ⟨rfl, rfl, rfl, by decide +kernel, rfl, by decide +kernel, by decide +kernel⟩
def spKind (CK : Addr) : Sp := fun vs H Q _ => ∃ (p dx : Addr) (k : Sr111.Kind), vs = [.ref p, .int (k.width : Int), .int (k.height : Int), .int (k.value : Int), .int (SrCommon.boolToInt k.mayTurn)] ∧ H p = some (.ins CK dx []) ∧
  ∀ H' : Hp, KindAt CK H' p k → (∀ b o, H b = some o → b ≠ p → H' b = some o) → Q .non H'
theorem ok_Kind {f : Addr} {fd : FuncData} (F : Fun K "__init__" "Kind.__init__" s_Kind___init__ f fd) (T : Txt K mg CK CS) : FnOk P w K mg base CX0 1 f fd ["self", "width", "height", "value", "may_turn"] (spKind CK) := by
  refine F.ok sc_Kind___init__ (fun vs H Q E h => ?_) (fun cdv A outer s H vs Q E hr h => ?_)
  · obtain ⟨p, dx, k, rfl, _⟩ := h
    rfl
  · obtain ⟨p, dx, k, rfl, hp, q⟩ := h
    refine ⟨_, (pss_cons (ps_fld (pv 0) (pv 1) rfl)
  (pss_cons (ps_fld (pv 0) (pv 2) rfl)
  (pss_cons (ps_fld (pv 0) (pv 3) rfl)
  (pss_one (ps_fld (pv 0) (pv 4) rfl))))), ?_⟩
    refine ⟨_, rfl, _, rfl, p, CK, dx, [], rfl, hp, T.cl_Kind, T.n_width, (by show 0 < 1000; decide), ?_⟩
    refine ⟨_, rfl, _, rfl, p, CK, dx, _, rfl, upd_same, T.cl_Kind, T.n_height, (by show 1 < 1000; decide), ?_⟩
    refine ⟨_, rfl, _, rfl, p, CK, dx, _, rfl, upd_same, T.cl_Kind, T.n_value, (by rw [show (putF "height" (V.int (k.height : Int)) (putF "width" (V.int (k.width : Int)) [])) = ([("width", V.int (k.width : Int)), ("height", V.int (k.height : Int))] : List (Str × V)) from put_past (by decide +kernel)]; show 2 < 1000; decide), ?_⟩
    refine ⟨_, rfl, _, rfl, p, CK, dx, _, rfl, upd_same, T.cl_Kind, T.n_may_turn, (by rw [show (putF "value" (V.int (k.value : Int)) (putF "height" (V.int (k.height : Int)) (putF "width" (V.int (k.width : Int)) []))) = ([("width", V.int (k.width : Int)), ("height", V.int (k.height : Int)), ("value", V.int (k.value : Int))] : List (Str × V)) from (congrArg _ (put_past (by decide +kernel))).trans ((put_past (by decide +kernel)).trans (congrArg _ (put_past (by decide +kernel))))]; show 3 < 1000; decide), ?_⟩
    have e : putF "may_turn" (V.int (SrCommon.boolToInt k.mayTurn)) (putF "value" (V.int (k.value : Int)) (putF "height" (V.int (k.height : Int)) (putF "width" (V.int (k.width : Int)) []))) = kF k := by
      rw [show (putF "value" (V.int (k.value : Int)) (putF "height" (V.int (k.height : Int)) (putF "width" (V.int (k.width : Int)) []))) = ([("width", V.int (k.width : Int)), ("height", V.int (k.height : Int)), ("value", V.int (k.value : Int))] : List (Str × V)) from (congrArg _ (put_past (by decide +kernel))).trans ((put_past (by decide +kernel)).trans (congrArg _ (put_past (by decide +kernel))))]
      exact (put_past (by decide +kernel)).trans (congrArg _ ((put_past (by decide +kernel)).trans (congrArg _ (put_past (by decide +kernel)))))
    refine q _ ⟨dx, Eq.trans upd_same (congrArg (fun z => some (HO.ins CK dx z)) e)⟩ fun b o h hb => ?_
    rw [upd_ne hb, upd_ne hb, upd_ne hb, upd_ne hb]
    exact h

/-! ### Saw() -/
abbrev s_Saw___init__ : Stmt := inClass (top 44) 0
theorem sc_Saw___init__ : FnScope ["self"] ["self"] (defScope s_Saw___init__) := ⟨rfl, rfl, rfl, by decide +kernel, rfl, by decide +kernel, by decide +kernel⟩
def spSaw (CS CK : Addr) : Sp := fun vs H Q _ => ∃ (p dx : Addr), vs = [.ref p] ∧ H p = some (.ins CS dx []) ∧
  ∀ H' : Hp, SawAt CS CK H' p [p] none → (∀ b o, H b = some o → b ≠ p → H' b = some o) → Q .non H'
theorem ok_Saw {f : Addr} {fd : FuncData} (F : Fun K "__init__" "Saw.__init__" s_Saw___init__ f fd) (T : Txt K mg CK CS) : FnOk P w K mg base CX0 1 f fd ["self"] (spSaw CS CK) := by
  refine F.ok sc_Saw___init__ (fun vs H Q E h => ?_) (fun cdv A outer s H vs Q E hr h => ?_)
  · obtain ⟨p, dx, rfl, _⟩ := h
    rfl
  · obtain ⟨p, dx, rfl, hp, q⟩ := h
    refine ⟨_, (pss_cons (ps_fld (pv 0) pe_bl rfl)
  (pss_cons (ps_fld (pv 0) pe_int rfl)
  (pss_cons (ps_fld (pv 0) pe_int rfl)
  (pss_one (ps_fld (pv 0) (pe_lst pa_nil) rfl))))), ?_⟩
    have e2 : putF "width" (V.int 0) (putF "exists" (V.bl false) []) = ([("exists", V.bl false), ("width", V.int 0)] : List (Str × V)) := put_past (by decide +kernel)
    have e3 : putF "height" (V.int 0) (putF "width" (V.int 0) (putF "exists" (V.bl false) [])) = ([("exists", V.bl false), ("width", V.int 0), ("height", V.int 0)] : List (Str × V)) := by
      rw [e2]
      exact (put_past (by decide +kernel)).trans (congrArg _ (put_past (by decide +kernel)))
    have e4 : ∀ l, putF "kinds" (V.ref l) (putF "height" (V.int 0) (putF "width" (V.int 0) (putF "exists" (V.bl false) []))) = sF false 0 0 l := by
      intro l
      rw [e3]
      exact (put_past (by decide +kernel)).trans (congrArg _ ((put_past (by decide +kernel)).trans (congrArg _ (put_past (by decide +kernel)))))
    refine ⟨_, rfl, p, CS, dx, [], rfl, hp, T.cl_Saw, T.s_exists, (by show 0 < 1000; decide), ?_⟩
    refine ⟨_, rfl, p, CS, dx, _, rfl, upd_same, T.cl_Saw, T.s_width, (by show 1 < 1000; decide), ?_⟩
    refine ⟨_, rfl, p, CS, dx, _, rfl, upd_same, T.cl_Saw, T.s_height, (by rw [e2]; decide), ?_⟩
    refine ⟨Nat.zero_le _, fun l hl => ?_⟩
    have npl : p ≠ l := ne_of_none upd_same hl
    refine ⟨_, rfl, p, CS, dx, _, rfl, (by rw [upd_ne npl]; exact upd_same), T.cl_Saw, T.s_kinds, (by rw [e3]; decide), ?_⟩
    refine q _ ⟨rfl, dx, 0, 0, l, Eq.trans upd_same (congrArg (fun z => some (HO.ins CS dx z)) (e4 l))⟩ fun b o h hb => ?_
    rw [upd_ne hb]
    refine Same.new hl _ _ ?_
    rw [upd_ne hb, upd_ne hb, upd_ne hb]
    exact h

/-! ### has_kind -/
abbrev s_Saw_has_kind : Stmt := inClass (top 44) 19
theorem sc_Saw_has_kind : FnScope ["self", "k"] ["self", "k"] (defScope s_Saw_has_kind) := ⟨rfl, rfl, rfl, by decide +kernel, rfl, by decide +kernel, by decide +kernel⟩
def spHas (CS CK : Addr) : Sp := fun vs H Q _ => ∃ (p : Addr) (fp : List Addr) (s : Sr111.Saw) (k : Int), vs = [.ref p, .int k] ∧ SawAt CS CK H p fp (some s) ∧ Q (.bl (Sr111.isKind s k)) H
theorem ok_has_kind {f : Addr} {fd : FuncData} (F : Fun K "has_kind" "Saw.has_kind" s_Saw_has_kind f fd) (T : Txt K mg CK CS) : FnOk P w K mg base CX0 1 f fd ["self", "k"] (spHas CS CK) := by
  refine F.ok sc_Saw_has_kind (fun vs H Q E h => ?_) (fun cdv A outer s H vs Q E hr h => ?_)
  · obtain ⟨p, fp, s, k, rfl, _⟩ := h
    rfl
  · obtain ⟨p, fp, s, k, rfl, ⟨dx, l, as, rfl, hp, hK, hF⟩, q⟩ := h
    refine ⟨_, (pss_one (ps_ret (pe_chain op_le op_lt pe_int (pv 1) (pe_callB call_len_seq (by rfl) T.b_len PySem.boot_len (pa_cons (pe_fld (pv 0) rfl) pa_nil))))), ?_⟩
    refine ⟨_, rfl, _, _, rfl, rfl, _, rfl, ?_⟩
    have e : Sr111.isKind s k = (decide (0 ≤ k) && decide (k < (s.kinds.length : Int))) := rfl
    rw [e] at q
    by_cases h1 : (0 : Int) ≤ k
    · refine ifT (decide_eq_true h1) ?_
      rw [decide_eq_true h1, Bool.true_and] at q
      refine ⟨_, rfl, p, CS, dx, _, _, rfl, hp, T.cl_Saw, T.s_kinds, sF_kinds, l, _, rfl, .inl (SqL.of hK.lst), _, _, rfl, rfl, ?_⟩
      rw [List.length_map, hK.len]
      exact q
    · refine ifF (decide_eq_false h1) ?_
      rw [decide_eq_false h1, Bool.false_and] at q
      exact q

/-! ### create -/
abbrev s_Saw_create : Stmt := inClass (top 44) 1
theorem sc_Saw_create : FnScope ["self", "width", "height"] ["self", "width", "height"] (defScope s_Saw_create) := ⟨rfl, rfl, rfl, by decide +kernel, rfl, by decide +kernel, by decide +kernel⟩
theorem ok_create {f : Addr} {fd : FuncData} (F : Fun K "create" "Saw.create" s_Saw_create f fd) (T : Txt K mg CK CS) (c_s : Cal P w K mg base "is_side" 1 ["number"] (spTest Sr111.isSide)) : FnOk P w K mg base CX0 2 f fd ["self", "width", "height"] (spCreate CS CK) := by
  obtain ⟨_, _, m_is_side, kp_is_side, b_is_side, G_is_side⟩ := c_s.ex
  refine F.ok sc_Saw_create (fun vs H Q E h => ?_) (fun cdv A outer s H vs Q E hr h => ?_)
  · obtain ⟨p, fp, st, a, b, rfl, _⟩ := h
    rfl
  · obtain ⟨p, fp, st, a, b, rfl, hS, hA⟩ := h
    refine ⟨_, (pss_cons (ps_if (pt_not (PW.pt (pw_and (pt_val (pe_call G_is_side (hr.mono (by decide)) (by rfl) m_is_side kp_is_side b_is_side .nil pass0 (pa_cons (pv 1) pa_nil))) (pw_and1 (pt_val (pe_call G_is_side (hr.mono (by decide)) (by rfl) m_is_side kp_is_side b_is_side .nil pass0 (pa_cons (pv 2) pa_nil)))))))
    (pss_one (ps_ret (pe_lst (pa_cons (pe_k (by rfl) T.k_OUT_OF_RANGE) pa_nil)))) pss_nil)
  (pss_cons (ps_fld (pv 0) pe_bl rfl)
  (pss_cons (ps_fld (pv 0) (pv 1) rfl)
  (pss_cons (ps_fld (pv 0) (pv 2) rfl)
  (pss_cons (ps_fld (pv 0) (pe_lst pa_nil) rfl)
  (pss_one (ps_ret (pe_lst (pa_cons pe_int pa_nil))))))))), ?_⟩
    have bad : Sr111.isSide a = false ∨ Sr111.isSide b = false → ∀ q, H q = none → Q (.ref q) (upd H q (.lst [V.int (-22)])) := fun hb q hq => by
      have e : Sr111.step st (.create a b) = (st, ⟨-22, []⟩) := Sm.step_create_bad hb
      exact hA.stays hS (by unfold nxt; rw [e]) (Same.new hq) hq upd_same (by unfold out; rw [e]; rfl)
    refine ⟨_, rfl, a, rfl, _, rfl, ?_⟩
    cases ha : Sr111.isSide a with
    | false => exact ifF rfl (ifT rfl ⟨(by show 1 ≤ sizeLine; decide), bad (.inl ha)⟩)
    | true =>
      refine ifT rfl ⟨_, rfl, b, rfl, _, rfl, ?_⟩
      cases hb : Sr111.isSide b with
      | false => exact ifT rfl ⟨(by show 1 ≤ sizeLine; decide), bad (.inr hb)⟩
      | true =>
        refine ifF rfl ?_
        obtain ⟨pfp, dx, ex, W0, H0, l0, hp⟩ := hS.self
        have a1 : (1 : Int) ≤ a ∧ a ≤ 9 := Sm.isSide_iff.mp ha
        have b1 : (1 : Int) ≤ b ∧ b ≤ 9 := Sm.isSide_iff.mp hb
        refine ⟨_, rfl, p, CS, dx, _, rfl, hp, T.cl_Saw, T.s_exists, (by show 4 < 1000; decide), ?_⟩
        rw [sF_put_exists]
        refine ⟨_, rfl, _, rfl, p, CS, dx, _, rfl, upd_same, T.cl_Saw, T.s_width, (by show 4 < 1000; decide), ?_⟩
        rw [sF_put_width]
        refine ⟨_, rfl, _, rfl, p, CS, dx, _, rfl, upd_same, T.cl_Saw, T.s_height, (by show 4 < 1000; decide), ?_⟩
        rw [sF_put_height, upd_upd, upd_upd]
        refine ⟨Nat.zero_le _, fun l hl => ?_⟩
        have npl : p ≠ l := ne_of_none upd_same hl
        have hl0 : H l = none := by rw [upd_ne npl.symm] at hl; exact hl
        refine ⟨_, rfl, p, CS, dx, _, rfl, (by rw [upd_ne npl]; exact upd_same), T.cl_Saw, T.s_kinds, (by show 4 < 1000; decide), ?_⟩
        rw [sF_put_kinds]
        refine ⟨(by show 1 ≤ sizeLine; decide), fun r hr0 => ?_⟩
        have e : Sr111.step st (.create a b) = (some ⟨a.toNat, b.toNat, []⟩, ⟨0, []⟩) := Sm.step_create_ok ha hb
        have ea : ((a.toNat : Nat) : Int) = a := by omega
        have eb : ((b.toNat : Nat) : Int) = b := by omega
        refine hA r _ [p, l] ?_ ?_ ?_ (upd_none (upd_none (upd_none hr0))) ?_
        · unfold nxt
          rw [e]
          refine ⟨dx, l, [], rfl, ?_, ⟨?_, List.nodup_nil, rfl, fun j a k h => by simp at h⟩, ⟨by show 1 ≤ a.toNat; omega, by show a.toNat ≤ 9; omega, by show 1 ≤ b.toNat; omega, by show b.toNat ≤ 9; omega, by show 0 ≤ 5; decide⟩⟩
          · refine Same.new hr0 _ _ ?_
            show upd _ p _ p = some (.ins CS dx (sF true ((a.toNat : Nat) : Int) ((b.toNat : Nat) : Int) l))
            rw [ea, eb]
            exact upd_same
          · refine Same.new hr0 _ _ ?_
            rw [upd_ne npl.symm]
            exact upd_same
        · intro z hz
          simp only [List.mem_cons, List.not_mem_nil, or_false] at hz
          rcases hz with rfl | rfl
          · exact .inl pfp
          · exact .inr hl0
        · intro z o hz hn
          have nzp : z ≠ p := fun h => hn (h ▸ pfp)
          refine Same.new hr0 _ _ ?_
          rw [upd_ne nzp, upd_ne (ne_of_none hz hl0), upd_ne nzp]
          exact hz
        · unfold out
          rw [e]
          exact upd_same

/-! ### set_slab -/
abbrev s_Saw_set_slab : Stmt := inClass (top 44) 6
theorem sc_Saw_set_slab : FnScope ["self", "width", "height", "old_width", "old_height"] ["self", "width", "height"] (defScope s_Saw_set_slab) := ⟨rfl, rfl, rfl, by decide +kernel, rfl, by decide +kernel, by decide +kernel⟩
theorem ok_set_slab {f : Addr} {fd : FuncData} (F : Fun K "set_slab" "Saw.set_slab" s_Saw_set_slab f fd) (T : Txt K mg CK CS) (c_s : Cal P w K mg base "is_side" 1 ["number"] (spTest Sr111.isSide)) : FnOk P w K mg base CX0 2 f fd ["self", "width", "height"] (spOp2 CS CK .setSlab) := by
  obtain ⟨_, _, m_is_side, kp_is_side, b_is_side, G_is_side⟩ := c_s.ex
  refine F.ok sc_Saw_set_slab (fun vs H Q E h => ?_) (fun cdv A outer s H vs Q E hr h => ?_)
  · obtain ⟨p, fp, st, a, b, rfl, _⟩ := h
    rfl
  · obtain ⟨p, fp, s, a, b, rfl, hS, hA⟩ := h
    refine ⟨_, (pss_cons (ps_if (pt_not (PW.pt (pw_and (pt_val (pe_call G_is_side (hr.mono (by decide)) (by rfl) m_is_side kp_is_side b_is_side .nil pass0 (pa_cons (pv 1) pa_nil))) (pw_and1 (pt_val (pe_call G_is_side (hr.mono (by decide)) (by rfl) m_is_side kp_is_side b_is_side .nil pass0 (pa_cons (pv 2) pa_nil)))))))
    (pss_one (ps_ret (pe_lst (pa_cons (pe_k (by rfl) T.k_OUT_OF_RANGE) pa_nil)))) pss_nil)
  (pss_cons (ps_set (i := 3) sc_Saw_set_slab.nd rfl (Or.inl rfl) (pe_fld (pv 0) rfl))
  (pss_cons (ps_set (i := 4) sc_Saw_set_slab.nd rfl (Or.inl rfl) (pe_fld (pv 0) rfl))
  (pss_cons (ps_fld (pv 0) (pv 1) rfl)
  (pss_cons (ps_fld (pv 0) (pv 2) rfl)
  (pss_one (ps_ret (pe_lst (pa_cons pe_int (pa_cons (pv 3) (pa_cons (pv 4) pa_nil))))))))))), ?_⟩
    have bad : Sr111.isSide a = false ∨ Sr111.isSide b = false → ∀ q, H q = none → Q (.ref q) (upd H q (.lst [V.int (-22)])) := fun hb q hq => by
      have e : Sr111.step (some s) (.setSlab a b) = (some s, ⟨-22, []⟩) := Sm.step_slab_bad hb
      exact hA.stays hS (st_same e).1 (Same.new hq) hq upd_same (by rw [(st_same e).2]; rfl)
    refine ⟨_, rfl, a, rfl, _, rfl, ?_⟩
    cases ha : Sr111.isSide a with
    | false => exact ifF rfl (ifT rfl ⟨(by show 1 ≤ sizeLine; decide), bad (.inl ha)⟩)
    | true =>
      refine ifT rfl ⟨_, rfl, b, rfl, _, rfl, ?_⟩
      cases hb : Sr111.isSide b with
      | false => exact ifT rfl ⟨(by show 1 ≤ sizeLine; decide), bad (.inr hb)⟩
      | true =>
        refine ifF rfl ?_
        obtain ⟨dx, l, as, rfl, hp, hK, hF⟩ := hS
        have a1 : (1 : Int) ≤ a ∧ a ≤ 9 := Sm.isSide_iff.mp ha
        have b1 : (1 : Int) ≤ b ∧ b ≤ 9 := Sm.isSide_iff.mp hb
        refine ⟨_, rfl, p, CS, dx, _, _, rfl, hp, T.cl_Saw, T.s_width, sF_width, ?_⟩
        refine ⟨_, rfl, p, CS, dx, _, _, rfl, hp, T.cl_Saw, T.s_height, sF_height, ?_⟩
        refine ⟨_, rfl, _, rfl, p, CS, dx, _, rfl, hp, T.cl_Saw, T.s_width, (by show 4 < 1000; decide), ?_⟩
        rw [sF_put_width]
        refine ⟨_, rfl, _, rfl, p, CS, dx, _, rfl, upd_same, T.cl_Saw, T.s_height, (by show 4 < 1000; decide), ?_⟩
        rw [sF_put_height, upd_upd]
        refine ⟨_, rfl, _, rfl, (by show 3 ≤ sizeLine; decide), fun r hr0 => ?_⟩
        have e := Sm.step_slab_ok (s := s) ha hb
        have ea : ((a.toNat : Nat) : Int) = a := by omega
        have eb : ((b.toNat : Nat) : Int) = b := by omega
        have npl : ∀ {z : Addr} {o : HO}, H z = some o → (∀ d2 fs, o ≠ .ins CS d2 fs) → z ≠ p := fun h1 h2 h3 => by
          subst h3
          rw [hp] at h1
          exact h2 _ _ (Option.some.inj h1).symm
        refine hA r _ (p :: l :: as) ?_ (fun z hz => .inl hz) ?_ (upd_none hr0) ?_
        · unfold nxt
          rw [e]
          refine ⟨dx, l, as, rfl, ?_, ?_, ⟨by show 1 ≤ a.toNat; omega, by show a.toNat ≤ 9; omega, by show 1 ≤ b.toNat; omega, by show b.toNat ≤ 9; omega, hF.k5⟩⟩
          · refine Same.new hr0 _ _ ?_
            show upd _ p _ p = some (.ins CS dx (sF true ((a.toNat : Nat) : Int) ((b.toNat : Nat) : Int) l))
            rw [ea, eb]
            exact upd_same
          · refine KindsAt.same ?_ (Same.new hr0)
            refine ⟨by rw [upd_ne (npl hK.lst (fun _ _ h => by cases h))]; exact hK.lst, hK.nd, hK.len, fun j a k h1 h2 => ?_⟩
            obtain ⟨d2, h3⟩ := hK.at_ j a k h1 h2
            have : a ≠ p := kind_ne hp ⟨d2, h3⟩
            exact ⟨d2, by rw [upd_ne this]; exact h3⟩
        · intro z o hz hn
          refine Same.new hr0 _ _ ?_
          rw [upd_ne (fun h => hn (by simp [h]))]
          exact hz
        · unfold out
          rw [e]
          exact upd_same
end
end Sb

/-! The saw's other methods. -/
namespace Sb
open PySem PySem.Spec PyProof.Rows L2
open PySem.W (Codec)
theorem erase_at {α : Type} {l : List α} {i j : Nat} : (l.eraseIdx i)[j]? = if j < i then l[j]? else l[j + 1]? := List.getElem?_eraseIdx ..
theorem erase_map {α β : Type} (f : α → β) : ∀ (l : List α) (i : Nat), (l.map f).eraseIdx i = (l.eraseIdx i).map f
  | [], _ => by simp
  | a :: l, 0 => rfl
  | a :: l, i + 1 => by
    show f a :: (l.map f).eraseIdx i = f a :: (l.eraseIdx i).map f
    rw [erase_map f l i]
theorem KindsAt.erase {CK : Addr} {H : Hp} {l : Addr} {as : List Addr} {ks : List Sr111.Kind} (h : KindsAt CK H l as ks) (i : Nat) : KindsAt CK (upd H l (.lst ((as.map V.ref).eraseIdx i))) l (as.eraseIdx i) (ks.eraseIdx i) := by
  refine ⟨?_, h.nd.sublist (List.eraseIdx_sublist ..), ?_, fun j a k h1 h2 => ?_⟩
  · rw [upd_same, erase_map]
  · rw [List.length_eraseIdx, List.length_eraseIdx, h.len]
  · rw [erase_at] at h1 h2
    have : KindAt CK H a k := by
      split at h1
      · rw [if_pos (by assumption)] at h2; exact h.at_ _ a k h1 h2
      · rw [if_neg (by assumption)] at h2; exact h.at_ _ a k h1 h2
    obtain ⟨dx, e⟩ := this
    exact ⟨dx, by rw [upd_ne (ne_of e h.lst (by intro z; cases z))]; exact e⟩
theorem KindsAt.put {CK : Addr} {H : Hp} {l a dx : Addr} {as : List Addr} {ks : List Sr111.Kind} (h : KindsAt CK H l as ks) {i : Nat} (ha : as[i]? = some a) (k' : Sr111.Kind) (hl : H a ≠ H l) : KindsAt CK (upd H a (.ins CK dx (kF k'))) l as (ks.set i k') := by
  refine ⟨?_, h.nd, by rw [List.length_set]; exact h.len, fun j b k h1 h2 => ?_⟩
  · rw [upd_ne (fun e => hl (by rw [e]))]
    exact h.lst
  · by_cases e : j = i
    · subst e
      rw [ha] at h1
      have e2 : a = b := Option.some.inj h1
      subst e2
      have hlt : j < ks.length := by have := (List.getElem?_eq_some_iff.mp ha).1; have := h.len; omega
      rw [List.getElem?_set_self hlt] at h2
      rw [← Option.some.inj h2]
      exact ⟨dx, upd_same⟩
    · rw [List.getElem?_set_ne (fun z => e z.symm)] at h2
      obtain ⟨d2, e3⟩ := h.at_ j b k h1 h2
      have nb : b ≠ a := fun z => e (nd_ix h.nd h1 (by rw [z]; exact ha))
      exact ⟨d2, by rw [upd_ne nb]; exact e3⟩
theorem seq_nat {i n : Nat} (h : i < n) : seqIndex? (i : Int) n = some i := by
  unfold seqIndex?
  have h1 : ¬ ((i : Int) < 0) := by omega
  simp [h1, h]
section
variable {P : Program} {w : World} {K : PySem.W.Frag} {mg : Str → Option Value} {base : Heap} {CK CS : Addr}

/-! ### add_kind -/
abbrev s_Saw_add_kind : Stmt := inClass (top 44) 2
theorem sc_Saw_add_kind : FnScope ["self", "width", "height", "value", "may_turn"] ["self", "width", "height", "value", "may_turn"] (defScope s_Saw_add_kind) := ⟨rfl, rfl, rfl, by decide +kernel, rfl, by decide +kernel, by decide +kernel⟩
theorem ok_add_kind {f fK : Addr} {fd fdK : FuncData} (F : Fun K "add_kind" "Saw.add_kind" s_Saw_add_kind f fd) (T : Txt K mg CK CS) (c_s : Cal P w K mg base "is_side" 1 ["number"] (spTest Sr111.isSide)) (c_v : Cal P w K mg base "is_value" 1 ["number"] (spTest Sr111.isValue)) (c_t : Cal P w K mg base "is_may_turn" 1 ["number"] (spTest Sr111.isFlag))
    (M_Kind : Mk K CK fK) (G_Kind : FnOk P w K mg base CX0 1 fK fdK ["self", "width", "height", "value", "may_turn"] (spKind CK)) (b_Kind : Binds K fdK ["self", "width", "height", "value", "may_turn"] []) : FnOk P w K mg base CX0 3 f fd ["self", "width", "height", "value", "may_turn"] (spOp4 CS CK .addKind) := by
  obtain ⟨_, _, m_is_side, kp_is_side, b_is_side, G_is_side⟩ := c_s.ex
  obtain ⟨_, _, m_is_value, kp_is_value, b_is_value, G_is_value⟩ := c_v.ex
  obtain ⟨_, _, m_is_may_turn, kp_is_may_turn, b_is_may_turn, G_is_may_turn⟩ := c_t.ex
  refine F.ok sc_Saw_add_kind (fun vs H Q E h => ?_) (fun cdv A outer s H vs Q E hr h => ?_)
  · obtain ⟨p, fp, st, a, b, c, d, rfl, _⟩ := h
    rfl
  · obtain ⟨p, fp, s, a, b, c, d, rfl, hS, hA⟩ := h
    refine ⟨_, (pss_cons (ps_if (pt_not (PW.pt (pw_and (pt_val (pe_call G_is_side (hr.mono (by decide)) (by rfl) m_is_side kp_is_side b_is_side .nil pass0 (pa_cons (pv 1) pa_nil))) (pw_and (pt_val (pe_call G_is_side (hr.mono (by decide)) (by rfl) m_is_side kp_is_side b_is_side .nil pass0 (pa_cons (pv 2) pa_nil))) (pw_and (pt_val (pe_call G_is_value (hr.mono (by decide)) (by rfl) m_is_value kp_is_value b_is_value .nil pass0 (pa_cons (pv 3) pa_nil))) (pw_and1 (pt_val (pe_call G_is_may_turn (hr.mono (by decide)) (by rfl) m_is_may_turn kp_is_may_turn b_is_may_turn .nil pass0 (pa_cons (pv 4) pa_nil)))))))))
    (pss_one (ps_ret (pe_lst (pa_cons (pe_k (by rfl) T.k_OUT_OF_RANGE) pa_nil)))) pss_nil)
  (pss_cons (ps_if (pt_cmpR op_ge (pe_callB call_len_seq (by rfl) T.b_len PySem.boot_len (pa_cons (pe_fld (pv 0) rfl) pa_nil)) (pe_k (by rfl) T.k_MOST_KINDS) (nomark _))
    (pss_one (ps_ret (pe_lst (pa_cons (pe_k (by rfl) T.k_TOO_MANY_KINDS) pa_nil)))) pss_nil)
  (pss_cons (ps_expr (pe_bm PySem.F.plainAttrs_list PySem.F.slot_list_append PySem.F.type_list_append mt_append (pe_fld (pv 0) rfl) (pa_cons (pe_make M_Kind G_Kind (hr.mono (by decide)) rfl T.m_Kind b_Kind .nil pass0 (pa_cons (pv 1) (pa_cons (pv 2) (pa_cons (pv 3) (pa_cons (pv 4) pa_nil))))) pa_nil)))
  (pss_one (ps_ret (pe_lst (pa_cons (pe_op op_sub (pe_callB call_len_seq (by rfl) T.b_len PySem.boot_len (pa_cons (pe_fld (pv 0) rfl) pa_nil)) pe_int) pa_nil))))))), ?_⟩
    have bad : Sr111.isSide a = false ∨ Sr111.isSide b = false ∨ Sr111.isValue c = false ∨ Sr111.isFlag d = false → (1 ≤ sizeLine ∧ ∀ q, H q = none → Q (.ref q) (upd H q (.lst [V.int (-22)]))) := fun hb => ⟨by decide, fun q hq => by
      have e := Sm.step_add_bad (s := s) hb
      exact hA.stays hS (st_same e).1 (Same.new hq) hq upd_same (by rw [(st_same e).2]; rfl)⟩
    refine ⟨_, rfl, a, rfl, _, rfl, ?_⟩
    cases ha : Sr111.isSide a with
    | false => exact ifF rfl (ifT rfl (bad (.inl ha)))
    | true =>
    refine ifT rfl ⟨_, rfl, b, rfl, _, rfl, ?_⟩
    cases hb : Sr111.isSide b with
    | false => exact ifF rfl (ifT rfl (bad (.inr (.inl hb))))
    | true =>
    refine ifT rfl ⟨_, rfl, c, rfl, _, rfl, ?_⟩
    cases hc : Sr111.isValue c with
    | false => exact ifF rfl (ifT rfl (bad (.inr (.inr (.inl hc)))))
    | true =>
    refine ifT rfl ⟨_, rfl, d, rfl, _, rfl, ?_⟩
    cases hd : Sr111.isFlag d with
    | false => exact ifT rfl (bad (.inr (.inr (.inr hd))))
    | true =>
    refine ifF rfl ?_
    obtain ⟨dx, l, as, rfl, hp, hK, hF⟩ := id hS
    refine ⟨_, rfl, p, CS, dx, _, _, rfl, hp, T.cl_Saw, T.s_kinds, sF_kinds, l, _, rfl, .inl (SqL.of hK.lst), _, _, rfl, rfl, _, rfl, ?_⟩
    rw [List.length_map, hK.len]
    by_cases hfull : 5 ≤ s.kinds.length
    · refine ifT (decide_eq_true (by omega)) ⟨by decide, fun q hq => ?_⟩
      have e := Sm.step_add_full (s := s) ha hb hc hd hfull
      exact hA.stays hS (st_same e).1 (Same.new hq) hq upd_same (by rw [(st_same e).2]; rfl)
    · refine ifF (decide_eq_false (by omega)) ?_
      have e := Sm.step_add_ok (s := s) ha hb hc hd hfull
      have a1 := Sm.isSide_iff.mp ha
      have b1 := Sm.isSide_iff.mp hb
      have c1 := Sm.isValue_iff.mp hc
      have d1 := Sm.isFlag_iff.mp hd
      have ea : ((a.toNat : Nat) : Int) = a := by omega
      have eb : ((b.toNat : Nat) : Int) = b := by omega
      have ec : ((c.toNat : Nat) : Int) = c := by omega
      have ed : SrCommon.boolToInt (d == 1) = d := by
        by_cases h : d = 1
        · subst h; rfl
        · have h0 : d = 0 := by omega
          subst h0; rfl
      refine ⟨_, rfl, p, CS, dx, _, _, rfl, hp, T.cl_Saw, T.s_kinds, sF_kinds, .inl ⟨rfl, _, SqL.of hK.lst⟩, ?_⟩
      refine ⟨_, rfl, _, rfl, _, rfl, _, rfl, ?_⟩
      intro x dk hx hdk nex
      refine ⟨x, dk, ⟨a.toNat, b.toNat, c.toNat, d == 1⟩, by rw [ea, eb, ec, ed]; rfl, upd_same, fun H2 hk2 fr => ⟨rfl, ?_⟩⟩
      have s1 : Same H H2 := Same.made hx hdk fr
      have hK2 := hK.same s1
      refine ⟨l, _, _, rfl, rfl, hK2.lst, ?_, ?_⟩
      · rw [List.length_map, hK.len]
        exact Nat.lt_trans (by omega : s.kinds.length < 1000) (by decide)
      have npl : p ≠ l := ne_of (s1 _ _ hp) hK2.lst (by intro z; cases z)
      have nxl : x ≠ l := by
        obtain ⟨_, h⟩ := hk2
        exact ne_of h hK2.lst (by intro z; cases z)
      have hp3 : upd H2 l (.lst (as.map V.ref ++ [.ref x])) p = some (.ins CS dx (sF true (s.width : Int) (s.height : Int) l)) := by rw [upd_ne npl]; exact s1 _ _ hp
      refine ⟨_, rfl, p, CS, dx, _, _, rfl, hp3, T.cl_Saw, T.s_kinds, sF_kinds, l, _, rfl, .inl (SqL.of upd_same), _, _, rfl, rfl, (by show 1 ≤ sizeLine; decide), fun r hr0 => ?_⟩
      have hxas : ¬ x ∈ as := fun h => by
        obtain ⟨j, hj, ej⟩ := List.getElem_of_mem h
        obtain ⟨k, hk, d2, h3⟩ := hK.get (List.getElem?_eq_getElem hj)
        rw [ej, hx] at h3
        cases h3
      have tk : ∀ z o, H z = some o → z ≠ l → upd (upd H2 l (.lst (as.map V.ref ++ [.ref x]))) r (.lst [V.int (((as.map V.ref ++ [V.ref x]).length : Int) - 1)]) z = some o := fun z o hz hn => by
        refine Same.new hr0 _ _ ?_
        rw [upd_ne hn]
        exact s1 _ _ hz
      refine hA r _ (p :: l :: (as ++ [x])) ?_ ?_ ?_ (s1.free (upd_none hr0)) ?_
      · unfold nxt
        rw [e]
        refine ⟨dx, l, as ++ [x], rfl, Same.new hr0 _ _ hp3, ⟨?_, ?_, ?_, fun j z k h1 h2 => ?_⟩, ⟨hF.w1, hF.w9, hF.h1, hF.h9, ?_⟩⟩
        · refine (Same.new hr0 _ _ upd_same).trans ?_
          rw [List.map_append]
          rfl
        · rw [List.nodup_append]
          exact ⟨hK.nd, by simp, fun y hy z hz => by
            rw [List.mem_singleton] at hz
            subst hz
            exact fun h => hxas (h ▸ hy)⟩
        · show (as ++ [x]).length = (s.kinds ++ [_]).length
          rw [List.length_append, List.length_append, hK.len]
          rfl
        · have h2' : (s.kinds ++ [(⟨a.toNat, b.toNat, c.toNat, d == 1⟩ : Sr111.Kind)])[j]? = some k := h2
          by_cases hj : j < as.length
          · rw [List.getElem?_append_left hj] at h1
            rw [List.getElem?_append_left (by rw [← hK.len]; exact hj)] at h2'
            obtain ⟨d2, h3⟩ := hK.at_ j z k h1 h2'
            exact ⟨d2, tk _ _ h3 (ne_of h3 hK.lst (by intro q; cases q))⟩
          · rw [List.getElem?_append_right (by omega)] at h1
            rw [List.getElem?_append_right (by rw [← hK.len]; omega)] at h2'
            have e0 : j - as.length = 0 := by
              have := (List.getElem?_eq_some_iff.mp h1).1
              simp at this
              omega
            rw [e0] at h1
            rw [← hK.len, e0] at h2'
            have ex : x = z := Option.some.inj h1
            have ek : (⟨a.toNat, b.toNat, c.toNat, d == 1⟩ : Sr111.Kind) = k := Option.some.inj h2'
            subst ex
            obtain ⟨d2, h3⟩ := hk2
            refine ⟨d2, Same.new hr0 _ _ ?_⟩
            rw [upd_ne nxl, ← ek]
            exact h3
        · show (s.kinds ++ [_]).length ≤ 5
          rw [List.length_append]
          show s.kinds.length + 1 ≤ 5
          omega
      · intro z hz
        simp only [List.mem_cons, List.mem_append, List.not_mem_nil, or_false] at hz ⊢
        rcases hz with rfl | rfl | h | rfl
        · exact .inl (.inl rfl)
        · exact .inl (.inr (.inl rfl))
        · exact .inl (.inr (.inr h))
        · exact .inr hx
      · intro z o hz hn
        exact tk z o hz (fun h => hn (by simp [h]))
      · unfold out
        rw [e]
        refine upd_same.trans ?_
        have e9 : ((as.map V.ref ++ [V.ref x]).length : Int) - 1 = (s.kinds.length : Int) := by
          rw [List.length_append, List.length_map, hK.len]
          simp
        show some (HO.lst [V.int (((as.map V.ref ++ [V.ref x]).length : Int) - 1)]) = _
        rw [e9]
        rfl

/-! ### remove_kind -/
abbrev s_Saw_remove_kind : Stmt := inClass (top 44) 3
theorem sc_Saw_remove_kind : FnScope ["self", "k"] ["self", "k"] (defScope s_Saw_remove_kind) := ⟨rfl, rfl, rfl, by decide +kernel, rfl, by decide +kernel, by decide +kernel⟩
theorem ok_remove_kind {f : Addr} {fd : FuncData} (F : Fun K "remove_kind" "Saw.remove_kind" s_Saw_remove_kind f fd) (T : Txt K mg CK CS) (c_h : MCal P w K mg base CS "has_kind" 1 ["self", "k"] (spHas CS CK)) : FnOk P w K mg base CX0 2 f fd ["self", "k"] (spOp1 CS CK .removeKind) := by
  obtain ⟨_, _, m_has_kind, b_has_kind, G_has_kind⟩ := c_h.ex
  refine F.ok sc_Saw_remove_kind (fun vs H Q E h => ?_) (fun cdv A outer s H vs Q E hr h => ?_)
  · obtain ⟨p, fp, st, a, rfl, _⟩ := h
    rfl
  · obtain ⟨p, fp, s, k, rfl, hS, hA⟩ := h
    refine ⟨_, (pss_cons (ps_if (pt_not (pt_val (pe_meth (pv 0) T.cl_Saw m_has_kind G_has_kind (hr.mono (by decide)) b_has_kind .nil pass0 (pa_cons (pv 1) pa_nil))))
    (pss_one (ps_ret (pe_lst (pa_cons (pe_k (by rfl) T.k_NO_SUCH_KIND) pa_nil)))) pss_nil)
  (pss_cons (ps_expr (pe_bm PySem.F.plainAttrs_list PySem.F.slot_list_pop PySem.F.type_list_pop mt_popAt (pe_fld (pv 0) rfl) (pa_cons (pv 1) pa_nil)))
  (pss_one (ps_ret (pe_lst (pa_cons (pe_callB call_len_seq (by rfl) T.b_len PySem.boot_len (pa_cons (pe_fld (pv 0) rfl) pa_nil)) pa_nil)))))), ?_⟩
    obtain ⟨dx, l, as, rfl, hp, hK, hF⟩ := id hS
    refine ⟨_, rfl, p, dx, _, rfl, hp, sF_no (by decide +kernel) (by decide +kernel) (by decide +kernel) (by decide +kernel), _, rfl, p, _, s, k, rfl, hS, _, rfl, ?_⟩
    cases hk : Sr111.isKind s k with
    | false =>
      refine ifT rfl ⟨by decide, fun q hq => ?_⟩
      have e := Sm.step_remove_bad (s := s) hk
      exact hA.stays hS (st_same e).1 (Same.new hq) hq upd_same (by rw [(st_same e).2]; rfl)
    | true =>
      refine ifF rfl ?_
      have e := Sm.step_remove_ok (s := s) hk
      have k1 := Sm.isKind_iff.mp hk
      have ek : ((k.toNat : Nat) : Int) = k := by omega
      have hlt : k.toNat < (as.map V.ref).length := by rw [List.length_map, hK.len]; omega
      have hlen : s.kinds.length ≤ 5 := hF.k5
      refine ⟨_, rfl, p, CS, dx, _, _, rfl, hp, T.cl_Saw, T.s_kinds, sF_kinds, .inl ⟨rfl, _, SqL.of hK.lst⟩, _, rfl, l, _, k, k.toNat, _, rfl, rfl, hK.lst, by omega, by omega, by rw [← ek]; exact seq_nat hlt, List.getElem?_eq_getElem hlt, ?_⟩
      have npl : p ≠ l := ne_of hp hK.lst (by intro z; cases z)
      have hK3 := hK.erase k.toNat
      have hp3 : upd H l (.lst ((as.map V.ref).eraseIdx k.toNat)) p = some (.ins CS dx (sF true (s.width : Int) (s.height : Int) l)) := by rw [upd_ne npl]; exact hp
      refine ⟨_, rfl, p, CS, dx, _, _, rfl, hp3, T.cl_Saw, T.s_kinds, sF_kinds, l, _, rfl, .inl (SqL.of upd_same), (by show 1 ≤ sizeLine; decide), fun r hr0 => ?_⟩
      refine hA r _ (p :: l :: as.eraseIdx k.toNat) ?_ ?_ ?_ (upd_none hr0) ?_
      · unfold nxt
        rw [e]
        refine ⟨dx, l, as.eraseIdx k.toNat, rfl, Same.new hr0 _ _ hp3, hK3.same (Same.new hr0), ⟨hF.w1, hF.w9, hF.h1, hF.h9, ?_⟩⟩
        exact Nat.le_trans (List.length_eraseIdx_le ..) hF.k5
      · intro z hz
        refine .inl ?_
        simp only [List.mem_cons] at hz ⊢
        rcases hz with rfl | rfl | h
        · exact .inl rfl
        · exact .inr (.inl rfl)
        · exact .inr (.inr (List.mem_of_mem_eraseIdx h))
      · intro z o hz hn
        refine Same.new hr0 _ _ ?_
        rw [upd_ne (fun h => hn (by simp [h]))]
        exact hz
      · unfold out
        rw [e]
        refine upd_same.trans ?_
        rw [List.length_eraseIdx_of_lt hlt, List.length_map, hK.len]
        rfl

/-! ### set_value, set_may_turn -/
theorem put_ok {H : Hp} {p dx l : Addr} {as : List Addr} {s : Sr111.Saw} (hp : H p = some (.ins CS dx (sF true (s.width : Int) (s.height : Int) l))) (hK : KindsAt CK H l as s.kinds) (hF : Sm.Fit s) {i : Nat} {a d2 : Addr} (ha : as[i]? = some a) {k0 : Sr111.Kind} (hd : H a = some (.ins CK d2 (kF k0))) (k' : Sr111.Kind) :
    SawAt CS CK (upd H a (.ins CK d2 (kF k'))) p (p :: l :: as) (some (Sr111.withKind s i k')) := by
  have nap : a ≠ p := kind_ne hp ⟨d2, hd⟩
  refine ⟨dx, l, as, rfl, by rw [upd_ne nap.symm]; exact hp, hK.put ha k' (by rw [hd, hK.lst]; intro z; cases z), ⟨hF.w1, hF.w9, hF.h1, hF.h9, ?_⟩⟩
  show (s.kinds.set i k').length ≤ 5
  rw [List.length_set]
  exact hF.k5
abbrev s_Saw_set_value : Stmt := inClass (top 44) 4
theorem sc_Saw_set_value : FnScope ["self", "k", "value", "kind", "old_value"] ["self", "k", "value"] (defScope s_Saw_set_value) := ⟨rfl, rfl, rfl, by decide +kernel, rfl, by decide +kernel, by decide +kernel⟩
theorem ok_set_value {f : Addr} {fd : FuncData} (F : Fun K "set_value" "Saw.set_value" s_Saw_set_value f fd) (T : Txt K mg CK CS) (c_h : MCal P w K mg base CS "has_kind" 1 ["self", "k"] (spHas CS CK)) (c_v : Cal P w K mg base "is_value" 1 ["number"] (spTest Sr111.isValue)) : FnOk P w K mg base CX0 2 f fd ["self", "k", "value"] (spOp2 CS CK .setValue) := by
  obtain ⟨_, _, m_has_kind, b_has_kind, G_has_kind⟩ := c_h.ex
  obtain ⟨_, _, m_is_value, kp_is_value, b_is_value, G_is_value⟩ := c_v.ex
  refine F.ok sc_Saw_set_value (fun vs H Q E h => ?_) (fun cdv A outer s H vs Q E hr h => ?_)
  · obtain ⟨p, fp, st, a, b, rfl, _⟩ := h
    rfl
  · obtain ⟨p, fp, s, k, v, rfl, hS, hA⟩ := h
    refine ⟨_, (pss_cons (ps_if (pt_not (pt_val (pe_meth (pv 0) T.cl_Saw m_has_kind G_has_kind (hr.mono (by decide)) b_has_kind .nil pass0 (pa_cons (pv 1) pa_nil))))
    (pss_one (ps_ret (pe_lst (pa_cons (pe_k (by rfl) T.k_NO_SUCH_KIND) pa_nil)))) pss_nil)
  (pss_cons (ps_if (pt_not (pt_val (pe_call G_is_value (hr.mono (by decide)) (by rfl) m_is_value kp_is_value b_is_value .nil pass0 (pa_cons (pv 2) pa_nil))))
    (pss_one (ps_ret (pe_lst (pa_cons (pe_k (by rfl) T.k_OUT_OF_RANGE) pa_nil)))) pss_nil)
  (pss_cons (ps_set (i := 3) sc_Saw_set_value.nd rfl (Or.inl rfl) (pe_ix ix_list (pe_fld (pv 0) rfl) (pv 1) (fun _ _ => rfl)))
  (pss_cons (ps_set (i := 4) sc_Saw_set_value.nd rfl (Or.inl rfl) (pe_fld (pv 3) rfl))
  (pss_cons (ps_fld (pv 3) (pv 2) rfl)
  (pss_one (ps_ret (pe_lst (pa_cons (pv 4) pa_nil))))))))), ?_⟩
    obtain ⟨dx, l, as, rfl, hp, hK, hF⟩ := id hS
    refine ⟨_, rfl, p, dx, _, rfl, hp, sF_no (by decide +kernel) (by decide +kernel) (by decide +kernel) (by decide +kernel), _, rfl, p, _, s, k, rfl, hS, _, rfl, ?_⟩
    cases hk : Sr111.isKind s k with
    | false =>
      refine ifT rfl ⟨by decide, fun q hq => ?_⟩
      have e := Sm.step_value_bad (s := s) (v := v) hk
      exact hA.stays hS (st_same e).1 (Same.new hq) hq upd_same (by rw [(st_same e).2]; rfl)
    | true =>
      refine ifF rfl ⟨_, rfl, v, rfl, _, rfl, ?_⟩
      cases hv : Sr111.isValue v with
      | false =>
        refine ifT rfl ⟨by decide, fun q hq => ?_⟩
        have e := Sm.step_value_out (s := s) hk hv
        exact hA.stays hS (st_same e).1 (Same.new hq) hq upd_same (by rw [(st_same e).2]; rfl)
      | true =>
        refine ifF rfl ?_
        have e := Sm.step_value_ok (s := s) hk hv
        have k1 := Sm.isKind_iff.mp hk
        have v1 := Sm.isValue_iff.mp hv
        have ek : ((k.toNat : Nat) : Int) = k := by omega
        have ev : ((v.toNat : Nat) : Int) = v := by omega
        have hlt : k.toNat < s.kinds.length := by omega
        have hla : k.toNat < as.length := by rw [hK.len]; exact hlt
        have ha : as[k.toNat]? = some as[k.toNat] := List.getElem?_eq_getElem hla
        have hi : s.kinds[k.toNat]? = some (Sr111.kindAt s k.toNat) := by rw [List.getElem?_eq_getElem hlt, Sm.kindAt_get hlt]
        obtain ⟨d2, hd⟩ := hK.at_ _ _ _ ha hi
        refine ⟨_, rfl, p, CS, dx, _, _, rfl, hp, T.cl_Saw, T.s_kinds, sF_kinds, _, rfl, l, _, k, .ref as[k.toNat], rfl, rfl, SqL.of hK.lst, at_of ek.symm (by rw [List.getElem?_map, ha]; rfl), ?_⟩
        refine ⟨_, rfl, _, CK, d2, _, _, rfl, hd, T.cl_Kind, T.n_value, kF_value _, ?_⟩
        refine ⟨_, rfl, _, rfl, _, CK, d2, _, rfl, hd, T.cl_Kind, T.n_value, (by show 4 < 1000; decide), ?_⟩
        rw [← ev, kF_put_value]
        refine ⟨_, rfl, (by show 1 ≤ sizeLine; decide), fun r hr0 => ?_⟩
        have hput := put_ok hp hK hF ha hd { (Sr111.kindAt s k.toNat) with value := v.toNat }
        refine hA r _ (p :: l :: as) ?_ (fun z hz => .inl hz) ?_ (upd_none hr0) ?_
        · unfold nxt
          rw [e]
          exact hput.same (Same.new hr0)
        · intro z o hz hn
          refine Same.new hr0 _ _ ?_
          rw [upd_ne (fun h => hn (by simp [h]))]
          exact hz
        · unfold out
          rw [e]
          exact upd_same
abbrev s_Saw_set_may_turn : Stmt := inClass (top 44) 5
theorem sc_Saw_set_may_turn : FnScope ["self", "k", "may_turn", "kind", "old_may_turn"] ["self", "k", "may_turn"] (defScope s_Saw_set_may_turn) := ⟨rfl, rfl, rfl, by decide +kernel, rfl, by decide +kernel, by decide +kernel⟩
theorem ok_set_may_turn {f : Addr} {fd : FuncData} (F : Fun K "set_may_turn" "Saw.set_may_turn" s_Saw_set_may_turn f fd) (T : Txt K mg CK CS) (c_h : MCal P w K mg base CS "has_kind" 1 ["self", "k"] (spHas CS CK)) (c_v : Cal P w K mg base "is_may_turn" 1 ["number"] (spTest Sr111.isFlag)) : FnOk P w K mg base CX0 2 f fd ["self", "k", "may_turn"] (spOp2 CS CK .setMayTurn) := by
  obtain ⟨_, _, m_has_kind, b_has_kind, G_has_kind⟩ := c_h.ex
  obtain ⟨_, _, m_is_may_turn, kp_is_may_turn, b_is_may_turn, G_is_may_turn⟩ := c_v.ex
  refine F.ok sc_Saw_set_may_turn (fun vs H Q E h => ?_) (fun cdv A outer s H vs Q E hr h => ?_)
  · obtain ⟨p, fp, st, a, b, rfl, _⟩ := h
    rfl
  · obtain ⟨p, fp, s, k, v, rfl, hS, hA⟩ := h
    refine ⟨_, (pss_cons (ps_if (pt_not (pt_val (pe_meth (pv 0) T.cl_Saw m_has_kind G_has_kind (hr.mono (by decide)) b_has_kind .nil pass0 (pa_cons (pv 1) pa_nil))))
    (pss_one (ps_ret (pe_lst (pa_cons (pe_k (by rfl) T.k_NO_SUCH_KIND) pa_nil)))) pss_nil)
  (pss_cons (ps_if (pt_not (pt_val (pe_call G_is_may_turn (hr.mono (by decide)) (by rfl) m_is_may_turn kp_is_may_turn b_is_may_turn .nil pass0 (pa_cons (pv 2) pa_nil))))
    (pss_one (ps_ret (pe_lst (pa_cons (pe_k (by rfl) T.k_OUT_OF_RANGE) pa_nil)))) pss_nil)
  (pss_cons (ps_set (i := 3) sc_Saw_set_may_turn.nd rfl (Or.inl rfl) (pe_ix ix_list (pe_fld (pv 0) rfl) (pv 1) (fun _ _ => rfl)))
  (pss_cons (ps_set (i := 4) sc_Saw_set_may_turn.nd rfl (Or.inl rfl) (pe_fld (pv 3) rfl))
  (pss_cons (ps_fld (pv 3) (pv 2) rfl)
  (pss_one (ps_ret (pe_lst (pa_cons (pv 4) pa_nil))))))))), ?_⟩
    obtain ⟨dx, l, as, rfl, hp, hK, hF⟩ := id hS
    refine ⟨_, rfl, p, dx, _, rfl, hp, sF_no (by decide +kernel) (by decide +kernel) (by decide +kernel) (by decide +kernel), _, rfl, p, _, s, k, rfl, hS, _, rfl, ?_⟩
    cases hk : Sr111.isKind s k with
    | false =>
      refine ifT rfl ⟨by decide, fun q hq => ?_⟩
      have e := Sm.step_turn_bad (s := s) (v := v) hk
      exact hA.stays hS (st_same e).1 (Same.new hq) hq upd_same (by rw [(st_same e).2]; rfl)
    | true =>
      refine ifF rfl ⟨_, rfl, v, rfl, _, rfl, ?_⟩
      cases hv : Sr111.isFlag v with
      | false =>
        refine ifT rfl ⟨by decide, fun q hq => ?_⟩
        have e := Sm.step_turn_out (s := s) hk hv
        exact hA.stays hS (st_same e).1 (Same.new hq) hq upd_same (by rw [(st_same e).2]; rfl)
      | true =>
        refine ifF rfl ?_
        have e := Sm.step_turn_ok (s := s) hk hv
        have k1 := Sm.isKind_iff.mp hk
        have v1 := Sm.isFlag_iff.mp hv
        have ek : ((k.toNat : Nat) : Int) = k := by omega
        have ev : SrCommon.boolToInt (v == 1) = v := by
          by_cases h : v = 1
          · subst h; rfl
          · have h0 : v = 0 := by omega
            subst h0; rfl
        have hlt : k.toNat < s.kinds.length := by omega
        have hla : k.toNat < as.length := by rw [hK.len]; exact hlt
        have ha : as[k.toNat]? = some as[k.toNat] := List.getElem?_eq_getElem hla
        have hi : s.kinds[k.toNat]? = some (Sr111.kindAt s k.toNat) := by rw [List.getElem?_eq_getElem hlt, Sm.kindAt_get hlt]
        obtain ⟨d2, hd⟩ := hK.at_ _ _ _ ha hi
        refine ⟨_, rfl, p, CS, dx, _, _, rfl, hp, T.cl_Saw, T.s_kinds, sF_kinds, _, rfl, l, _, k, .ref as[k.toNat], rfl, rfl, SqL.of hK.lst, at_of ek.symm (by rw [List.getElem?_map, ha]; rfl), ?_⟩
        refine ⟨_, rfl, _, CK, d2, _, _, rfl, hd, T.cl_Kind, T.n_may_turn, kF_may_turn _, ?_⟩
        refine ⟨_, rfl, _, rfl, _, CK, d2, _, rfl, hd, T.cl_Kind, T.n_may_turn, (by show 4 < 1000; decide), ?_⟩
        have eput : putF "may_turn" (V.int v) (kF (Sr111.kindAt s k.toNat)) = kF { (Sr111.kindAt s k.toNat) with mayTurn := v == 1 } := by
          have := kF_put_may_turn (Sr111.kindAt s k.toNat) (v == 1)
          rw [ev] at this
          exact this
        rw [eput]
        refine ⟨_, rfl, (by show 1 ≤ sizeLine; decide), fun r hr0 => ?_⟩
        have hput := put_ok hp hK hF ha hd { (Sr111.kindAt s k.toNat) with mayTurn := v == 1 }
        refine hA r _ (p :: l :: as) ?_ (fun z hz => .inl hz) ?_ (upd_none hr0) ?_
        · unfold nxt
          rw [e]
          exact hput.same (Same.new hr0)
        · intro z o hz hn
          refine Same.new hr0 _ _ ?_
          rw [upd_ne (fun h => hn (by simp [h]))]
          exact hz
        · unfold out
          rw [e]
          exact upd_same

/-! ### max_value, max_value_of, best_pattern -/
abbrev s_Saw_max_value : Stmt := inClass (top 44) 7
theorem sc_Saw_max_value : FnScope ["self"] ["self"] (defScope s_Saw_max_value) := ⟨rfl, rfl, rfl, by decide +kernel, rfl, by decide +kernel, by decide +kernel⟩
/-- asked alone it says more: nothing is changed -/
def spMax (CS CK : Addr) : Sp := fun vs H Q _ => ∃ (p : Addr) (fp : List Addr) (s : Sr111.Saw), vs = [.ref p] ∧ SawAt CS CK H p fp (some s) ∧ ∀ (r : Addr) (H' : Hp), Same H H' → H r = none → H' r = some (.lst [.int (Sm.mv s.kinds s.width s.height : Int)]) → Q (.ref r) H'
theorem ok_max_value {f : Addr} {fd : FuncData} (F : Fun K "max_value" "Saw.max_value" s_Saw_max_value f fd) (T : Txt K mg CK CS) (c_w : Cal P w K mg base "max_worth" 4 ["kinds", "width", "height"] (spWorth CK)) : FnOk P w K mg base CX0 5 f fd ["self"] (spMax CS CK) := by
  obtain ⟨_, _, m_max_worth, kp_max_worth, b_max_worth, G_max_worth⟩ := c_w.ex
  refine F.ok sc_Saw_max_value (fun vs H Q E h => ?_) (fun cdv A outer s H vs Q E hr h => ?_)
  · obtain ⟨p, fp, st, rfl, _⟩ := h
    rfl
  · obtain ⟨p, fp, s, rfl, hS, q⟩ := h
    refine ⟨_, (pss_one (ps_ret (pe_lst (pa_cons (pe_call G_max_worth (hr.mono (by decide)) (by rfl) m_max_worth kp_max_worth b_max_worth .nil pass0 (pa_cons (pe_fld (pv 0) rfl) (pa_cons (pe_fld (pv 0) rfl) (pa_cons (pe_fld (pv 0) rfl) pa_nil)))) pa_nil)))), ?_⟩
    obtain ⟨dx, l, as, rfl, hp, hK, hF⟩ := id hS
    refine ⟨_, rfl, p, CS, dx, _, _, rfl, hp, T.cl_Saw, T.s_kinds, sF_kinds, _, rfl, p, CS, dx, _, _, rfl, hp, T.cl_Saw, T.s_width, sF_width, _, rfl, p, CS, dx, _, _, rfl, hp, T.cl_Saw, T.s_height, sF_height, ?_⟩
    refine ⟨l, as, s.kinds, s.width, s.height, rfl, hK, hF.dims, fun H2 s2 => ⟨(by show 1 ≤ sizeLine; decide), fun r hr0 => ?_⟩⟩
    exact q r _ (s2.trans (Same.new hr0)) (s2.free hr0) upd_same
abbrev s_Saw_max_value_of : Stmt := inClass (top 44) 8
theorem sc_Saw_max_value_of : FnScope ["self", "x", "y"] ["self", "x", "y"] (defScope s_Saw_max_value_of) := ⟨rfl, rfl, rfl, by decide +kernel, rfl, by decide +kernel, by decide +kernel⟩
theorem ok_max_value_of {f : Addr} {fd : FuncData} (F : Fun K "max_value_of" "Saw.max_value_of" s_Saw_max_value_of f fd) (T : Txt K mg CK CS) (c_w : Cal P w K mg base "max_worth" 4 ["kinds", "width", "height"] (spWorth CK)) : FnOk P w K mg base CX0 5 f fd ["self", "x", "y"] (spOp2 CS CK .maxValueOf) := by
  obtain ⟨_, _, m_max_worth, kp_max_worth, b_max_worth, G_max_worth⟩ := c_w.ex
  refine F.ok sc_Saw_max_value_of (fun vs H Q E h => ?_) (fun cdv A outer s H vs Q E hr h => ?_)
  · obtain ⟨p, fp, st, a, b, rfl, _⟩ := h
    rfl
  · obtain ⟨p, fp, s, x, y, rfl, hS, hA⟩ := h
    refine ⟨_, (pss_cons (ps_if (pt_not (PW.pt (pw_and (pt_chain op_le op_le pe_int (pv 1) (pe_fld (pv 0) rfl)) (pw_and1 (pt_chain op_le op_le pe_int (pv 2) (pe_fld (pv 0) rfl))))))
    (pss_one (ps_ret (pe_lst (pa_cons (pe_k (by rfl) T.k_OUT_OF_RANGE) pa_nil)))) pss_nil)
  (pss_one (ps_ret (pe_lst (pa_cons (pe_call G_max_worth (hr.mono (by decide)) (by rfl) m_max_worth kp_max_worth b_max_worth .nil pass0 (pa_cons (pe_fld (pv 0) rfl) (pa_cons (pv 1) (pa_cons (pv 2) pa_nil)))) pa_nil))))), ?_⟩
    obtain ⟨dx, l, as, rfl, hp, hK, hF⟩ := id hS
    have bad : ¬ ((1 ≤ x ∧ x ≤ s.width) ∧ 1 ≤ y ∧ y ≤ s.height) → (1 ≤ sizeLine ∧ ∀ q, H q = none → Q (.ref q) (upd H q (.lst [V.int (-22)]))) := fun hb => ⟨by decide, fun q hq => by
      have e := Sm.step_of_bad (s := s) hb
      exact hA.stays hS (st_same e).1 (Same.new hq) hq upd_same (by rw [(st_same e).2]; rfl)⟩
    refine ⟨_, rfl, _, _, rfl, rfl, _, rfl, ?_⟩
    by_cases h1 : 1 ≤ x
    · refine ifT (decide_eq_true h1) ⟨_, rfl, p, CS, dx, _, _, rfl, hp, T.cl_Saw, T.s_width, sF_width, _, _, rfl, rfl, _, rfl, ?_⟩
      by_cases h2 : x ≤ (s.width : Int)
      · refine ifT (decide_eq_true h2) ⟨_, rfl, _, _, rfl, rfl, _, rfl, ?_⟩
        by_cases h3 : 1 ≤ y
        · refine ifT (decide_eq_true h3) ⟨_, rfl, p, CS, dx, _, _, rfl, hp, T.cl_Saw, T.s_height, sF_height, _, _, rfl, rfl, _, rfl, ?_⟩
          by_cases h4 : y ≤ (s.height : Int)
          · refine ifF (by rw [decide_eq_true h4]; rfl) ?_
            have ex : ((x.toNat : Nat) : Int) = x := by omega
            have ey : ((y.toNat : Nat) : Int) = y := by omega
            have f1 := hF.w9
            have f2 := hF.h9
            refine ⟨_, rfl, p, CS, dx, _, _, rfl, hp, T.cl_Saw, T.s_kinds, sF_kinds, _, rfl, _, rfl, l, as, s.kinds, x.toNat, y.toNat, by rw [ex, ey]; rfl, hK, by omega, fun H2 s2 => ⟨(by show 1 ≤ sizeLine; decide), fun r hr0 => ?_⟩⟩
            have e := Sm.step_of_ok (s := s) ⟨⟨h1, h2⟩, h3, h4⟩
            exact hA.stays hS (st_same e).1 (s2.trans (Same.new hr0)) (s2.free hr0) upd_same (by rw [(st_same e).2]; rfl)
          · exact ifT (by rw [decide_eq_false h4]; rfl) (bad (by omega))
        · exact ifF (decide_eq_false h3) ⟨_, rfl, ifT rfl (bad (by omega))⟩
      · exact ifF (decide_eq_false h2) (ifT rfl (bad (by omega)))
    · exact ifF (decide_eq_false h1) ⟨_, rfl, ifF rfl (ifT rfl (bad (by omega)))⟩
abbrev s_Saw_best_pattern : Stmt := inClass (top 44) 9
theorem sc_Saw_best_pattern : FnScope ["self"] ["self"] (defScope s_Saw_best_pattern) := ⟨rfl, rfl, rfl, by decide +kernel, rfl, by decide +kernel, by decide +kernel⟩
theorem ok_best_pattern {f : Addr} {fd : FuncData} (F : Fun K "best_pattern" "Saw.best_pattern" s_Saw_best_pattern f fd) (T : Txt K mg CK CS) (c_m : MCal P w K mg base CS "max_value" 5 ["self"] (spMax CS CK)) (c_e : Cal P w K mg base "encoding_of" 1 ["steps"] spEncOf) (c_b : Cal P w K mg base "best_steps" 4 ["kinds", "width", "height"] (spSteps CK)) : FnOk P w K mg base CX0 6 f fd ["self"] (spOp0 CS CK .bestPattern) := by
  obtain ⟨_, _, m_max_value, b_max_value, G_max_value⟩ := c_m.ex
  obtain ⟨_, _, m_encoding_of, kp_encoding_of, b_encoding_of, G_encoding_of⟩ := c_e.ex
  obtain ⟨_, _, m_best_steps, kp_best_steps, b_best_steps, G_best_steps⟩ := c_b.ex
  refine F.ok sc_Saw_best_pattern (fun vs H Q E h => ?_) (fun cdv A outer s H vs Q E hr h => ?_)
  · obtain ⟨p, fp, st, rfl, _⟩ := h
    rfl
  · obtain ⟨p, fp, s, rfl, hS, hA⟩ := h
    refine ⟨_, (pss_one (ps_ret (pe_op op_cat (pe_meth0 (pv 0) T.cl_Saw m_max_value G_max_value (hr.mono (by decide)) b_max_value .nil pass0) (pe_call G_encoding_of (hr.mono (by decide)) (by rfl) m_encoding_of kp_encoding_of b_encoding_of .nil pass0 (pa_cons (pe_call G_best_steps (hr.mono (by decide)) (by rfl) m_best_steps kp_best_steps b_best_steps .nil pass0 (pa_cons (pe_fld (pv 0) rfl) (pa_cons (pe_fld (pv 0) rfl) (pa_cons (pe_fld (pv 0) rfl) pa_nil)))) pa_nil))))), ?_⟩
    obtain ⟨dx, l, as, rfl, hp, hK, hF⟩ := id hS
    refine ⟨_, rfl, p, dx, _, rfl, hp, sF_no (by decide +kernel) (by decide +kernel) (by decide +kernel) (by decide +kernel), p, _, s, rfl, hS, fun r1 H1 s1 _ hr1 => ?_⟩
    have hp1 := s1 _ _ hp
    refine ⟨_, rfl, p, CS, dx, _, _, rfl, hp1, T.cl_Saw, T.s_kinds, sF_kinds, _, rfl, p, CS, dx, _, _, rfl, hp1, T.cl_Saw, T.s_width, sF_width, _, rfl, p, CS, dx, _, _, rfl, hp1, T.cl_Saw, T.s_height, sF_height, ?_⟩
    have hlen : (Sm.enc s.kinds s.width s.height).length + 2 ≤ 4 * (s.width * s.height) := Sm.enc_len s.kinds _ s.width s.height (Nat.le_refl _) hF.w1 hF.h1
    have hle : s.width * s.height ≤ 9 * 9 := Nat.mul_le_mul hF.w9 hF.h9
    refine ⟨l, as, s.kinds, s.width, s.height, rfl, hK.same s1, hF.dims, fun r2 bs H2 s2 hn hr2 => ?_⟩
    refine ⟨r2, bs, _, rfl, hr2, by rw [Sm.sts_flat]; omega, fun r3 H3 s3 hn3 hr3 => ?_⟩
    rw [Sm.sts_flat] at hr3
    refine ⟨r1, r3, _, _, rfl, rfl, s3 _ _ (s2 _ _ hr1), hr3, ?_, fun q hq => ?_⟩
    · rw [List.length_map]
      exact Nat.le_trans (show 1 + (Sm.enc s.kinds s.width s.height).length ≤ 1000 by omega) (by decide)
    · have e := Sm.step_best (s := s) hF
      exact hA.stays hS (st_same e).1 (((s1.trans s2).trans s3).trans (Same.new hq)) (((s1.trans s2).trans s3).free hq) upd_same (by rw [(st_same e).2]; rfl)
end
end Sb

/-! Stones and waste, given patterns. -/
namespace Sb
open PySem PySem.Spec PyProof.Rows L2
open PySem.W (Codec)
section
variable {P : Program} {w : World} {K : PySem.W.Frag} {mg : Str → Option Value} {base : Heap} {CK CS : Addr}
/-- the stones of the best pattern -/
def bestStones (s : Sr111.Saw) : List Nat := Sm.stonesOf (Sm.best s.kinds s.width s.height)
def nints (ns : List Nat) : List Int := ns.map fun (n : Nat) => (n : Int)
abbrev s_Saw_best_stones : Stmt := inClass (top 44) 18
theorem sc_Saw_best_stones : FnScope ["self"] ["self"] (defScope s_Saw_best_stones) := ⟨rfl, rfl, rfl, by decide +kernel, rfl, by decide +kernel, by decide +kernel⟩
def spBestStones (CS CK : Addr) : Sp := fun vs H Q _ => ∃ (p : Addr) (fp : List Addr) (s : Sr111.Saw), vs = [.ref p] ∧ SawAt CS CK H p fp (some s) ∧ ∀ (r : Addr) (H' : Hp), Same H H' → H r = none → H' r = some (.lst ((nints (bestStones s)).map V.int)) → Q (.ref r) H'
theorem ok_best_stones {f : Addr} {fd : FuncData} (F : Fun K "best_stones" "Saw.best_stones" s_Saw_best_stones f fd) (T : Txt K mg CK CS) (c_s : Cal P w K mg base "stones_in" 1 ["steps"] spStones) (c_b : Cal P w K mg base "best_steps" 4 ["kinds", "width", "height"] (spSteps CK)) : FnOk P w K mg base CX0 5 f fd ["self"] (spBestStones CS CK) := by
  obtain ⟨_, _, m_stones_in, kp_stones_in, b_stones_in, G_stones_in⟩ := c_s.ex
  obtain ⟨_, _, m_best_steps, kp_best_steps, b_best_steps, G_best_steps⟩ := c_b.ex
  refine F.ok sc_Saw_best_stones (fun vs H Q E h => ?_) (fun cdv A outer s H vs Q E hr h => ?_)
  · obtain ⟨p, fp, s, rfl, _⟩ := h
    rfl
  · obtain ⟨p, fp, s, rfl, hS, q⟩ := h
    refine ⟨_, (pss_one (ps_ret (pe_call G_stones_in (hr.mono (by decide)) (by rfl) m_stones_in kp_stones_in b_stones_in .nil pass0 (pa_cons (pe_call G_best_steps (hr.mono (by decide)) (by rfl) m_best_steps kp_best_steps b_best_steps .nil pass0 (pa_cons (pe_fld (pv 0) rfl) (pa_cons (pe_fld (pv 0) rfl) (pa_cons (pe_fld (pv 0) rfl) pa_nil)))) pa_nil)))), ?_⟩
    obtain ⟨dx, l, as, rfl, hp, hK, hF⟩ := id hS
    refine ⟨_, rfl, p, CS, dx, _, _, rfl, hp, T.cl_Saw, T.s_kinds, sF_kinds, _, rfl, p, CS, dx, _, _, rfl, hp, T.cl_Saw, T.s_width, sF_width, _, rfl, p, CS, dx, _, _, rfl, hp, T.cl_Saw, T.s_height, sF_height, ?_⟩
    refine ⟨l, as, s.kinds, s.width, s.height, rfl, hK, hF.dims, fun r2 bs H2 s2 hn hr2 => ?_⟩
    have hlen := Sm.sts_len s.kinds (x := s.width) (y := s.height) hF.w1 hF.h1
    have hle : s.width * s.height ≤ 9 * 9 := Nat.mul_le_mul hF.w9 hF.h9
    refine ⟨r2, bs, _, rfl, hr2, fun st h => Sm.steps_are _ st h, by omega, fun r3 H3 s3 hn3 hr3 => ?_⟩
    refine q r3 H3 (s2.trans s3) (s2.free hn3) ?_
    rw [hr3]
    show some (HO.lst ((Sm.stonesIn (Sm.stepsOf (Sm.best s.kinds s.width s.height))).map V.int)) = _
    rw [Sm.stones_in]
    rfl
theorem countsV_len (n : Nat) (ns : List Int) : (countsV n ns).length = n := by
  unfold countsV
  rw [List.length_map, List.length_range]
theorem stones_fine {s : Sr111.Saw} (hF : Sm.Fit s) {z : Sr111.Pattern} (h : Sr111.isApplicable s s.width s.height z = true) : ∀ k ∈ Sm.stonesOf z, k < s.kinds.length ∧ (Sr111.kindAt s k).width ≤ 9 :=
  fun k hk => ⟨Sm.stones_lt h k hk, Sm.stones_small h hF.w9 hF.h9 k hk⟩
abbrev s_Saw_stone_counts : Stmt := inClass (top 44) 10
theorem sc_Saw_stone_counts : FnScope ["self", "stones"] ["self"] (defScope s_Saw_stone_counts) := ⟨rfl, rfl, rfl, by decide +kernel, rfl, by decide +kernel, by decide +kernel⟩
theorem ok_stone_counts {f : Addr} {fd : FuncData} (F : Fun K "stone_counts" "Saw.stone_counts" s_Saw_stone_counts f fd) (T : Txt K mg CK CS) (c_b : MCal P w K mg base CS "best_stones" 5 ["self"] (spBestStones CS CK)) (c_c : Cal P w K mg base "counts_by_kind" 1 ["kinds", "stones"] (spCounts CK)) : FnOk P w K mg base CX0 6 f fd ["self"] (spOp0 CS CK .stoneCounts) := by
  obtain ⟨_, _, m_best_stones, b_best_stones, G_best_stones⟩ := c_b.ex
  obtain ⟨_, _, m_counts_by_kind, kp_counts_by_kind, b_counts_by_kind, G_counts_by_kind⟩ := c_c.ex
  refine F.ok sc_Saw_stone_counts (fun vs H Q E h => ?_) (fun cdv A outer s H vs Q E hr h => ?_)
  · obtain ⟨p, fp, s, rfl, _⟩ := h
    rfl
  · obtain ⟨p, fp, s, rfl, hS, hA⟩ := h
    refine ⟨_, (pss_cons (ps_set (i := 1) sc_Saw_stone_counts.nd rfl (Or.inl rfl) (pe_meth0 (pv 0) T.cl_Saw m_best_stones G_best_stones (hr.mono (by decide)) b_best_stones .nil pass0))
  (pss_one (ps_ret (pe_op op_cat (pe_lst (pa_cons (pe_callB call_len_seq (by rfl) T.b_len PySem.boot_len (pa_cons (pv 1) pa_nil)) pa_nil)) (pe_call G_counts_by_kind (hr.mono (by decide)) (by rfl) m_counts_by_kind kp_counts_by_kind b_counts_by_kind .nil pass0 (pa_cons (pe_fld (pv 0) rfl) (pa_cons (pv 1) pa_nil))))))), ?_⟩
    obtain ⟨dx, l, as, rfl, hp, hK, hF⟩ := id hS
    refine ⟨_, rfl, p, dx, _, rfl, hp, sF_no (by decide +kernel) (by decide +kernel) (by decide +kernel) (by decide +kernel), p, _, s, rfl, hS, fun r1 H1 s1 hn1 hr1 => ?_⟩
    refine ⟨_, rfl, r1, _, rfl, .inl (SqL.of hr1), (by show 1 ≤ sizeLine; decide), fun r2 hr2 => ?_⟩
    have s2 := s1.trans (Same.new (o := .lst [V.int (((nints (bestStones s)).map V.int).length : Int)]) hr2)
    refine ⟨_, rfl, p, CS, dx, _, _, rfl, s2 _ _ hp, T.cl_Saw, T.s_kinds, sF_kinds, _, rfl, ?_⟩
    refine ⟨l, r1, as, s.kinds, nints (bestStones s), rfl, hK.same s2, hF.k5, Same.new hr2 _ _ hr1, fun r3 H3 s3 hn3 hr3 => ?_⟩
    refine ⟨r2, r3, _, _, rfl, rfl, s3 _ _ upd_same, hr3, ?_, fun q hq => ?_⟩
    · show 1 + ((countsV s.kinds.length (nints (bestStones s))).map V.int).length ≤ sizeLine
      rw [List.length_map, countsV_len]
      have := hF.k5
      exact Nat.le_trans (show 1 + s.kinds.length ≤ 1000 by omega) (by decide)
    · have e := Sm.step_counts (s := s) hF
      refine hA.stays hS (st_same e).1 ((s2.trans s3).trans (Same.new hq)) ((s2.trans s3).free hq) upd_same ?_
      rw [(st_same e).2, Sm.best_sum hF]
      unfold countsV Sm.bestCounts
      show _ = List.map V.int (_ :: List.map _ _)
      rw [← Sm.counts_int, List.map_cons, List.length_map]
      unfold nints bestStones
      rw [List.length_map]
      rfl
abbrev s_Saw_waste_area : Stmt := inClass (top 44) 11
theorem sc_Saw_waste_area : FnScope ["self"] ["self"] (defScope s_Saw_waste_area) := ⟨rfl, rfl, rfl, by decide +kernel, rfl, by decide +kernel, by decide +kernel⟩
theorem ok_waste_area {f : Addr} {fd : FuncData} (F : Fun K "waste_area" "Saw.waste_area" s_Saw_waste_area f fd) (T : Txt K mg CK CS) (c_b : MCal P w K mg base CS "best_stones" 5 ["self"] (spBestStones CS CK)) (c_a : Cal P w K mg base "area_together" 1 ["kinds", "stones"] (spTogether CK fun k => k.width * k.height)) : FnOk P w K mg base CX0 6 f fd ["self"] (spOp0 CS CK .wasteArea) := by
  obtain ⟨_, _, m_best_stones, b_best_stones, G_best_stones⟩ := c_b.ex
  obtain ⟨_, _, m_area_together, kp_area_together, b_area_together, G_area_together⟩ := c_a.ex
  refine F.ok sc_Saw_waste_area (fun vs H Q E h => ?_) (fun cdv A outer s H vs Q E hr h => ?_)
  · obtain ⟨p, fp, s, rfl, _⟩ := h
    rfl
  · obtain ⟨p, fp, s, rfl, hS, hA⟩ := h
    refine ⟨_, (pss_one (ps_ret (pe_lst (pa_cons (pe_op op_sub (pe_op op_mul (pe_fld (pv 0) rfl) (pe_fld (pv 0) rfl)) (pe_call G_area_together (hr.mono (by decide)) (by rfl) m_area_together kp_area_together b_area_together .nil pass0 (pa_cons (pe_fld (pv 0) rfl) (pa_cons (pe_meth0 (pv 0) T.cl_Saw m_best_stones G_best_stones (hr.mono (by decide)) b_best_stones .nil pass0) pa_nil)))) pa_nil)))), ?_⟩
    obtain ⟨dx, l, as, rfl, hp, hK, hF⟩ := id hS
    refine ⟨_, rfl, p, CS, dx, _, _, rfl, hp, T.cl_Saw, T.s_width, sF_width, _, rfl, p, CS, dx, _, _, rfl, hp, T.cl_Saw, T.s_height, sF_height, ?_⟩
    have hw9 := hF.w9
    refine ⟨_, _, rfl, rfl, .inl ⟨by omega, by omega⟩, ?_⟩
    refine ⟨_, rfl, p, CS, dx, _, _, rfl, hp, T.cl_Saw, T.s_kinds, sF_kinds, ?_⟩
    refine ⟨_, rfl, p, dx, _, rfl, hp, sF_no (by decide +kernel) (by decide +kernel) (by decide +kernel) (by decide +kernel), p, _, s, rfl, hS, fun r1 H1 s1 hn1 hr1 => ?_⟩
    refine ⟨l, r1, as, s, bestStones s, rfl, hK.same s1, hr1, stones_fine hF (Sm.best_is_ok hF), Sm.best_stones_len hF, fun H2 s2 => ?_⟩
    refine ⟨_, _, rfl, rfl, (by show 1 ≤ sizeLine; decide), fun q hq => ?_⟩
    have e := Sm.step_waste (s := s) hF
    have hle := Sm.waste_le hF
    refine hA.stays hS (st_same e).1 ((s1.trans s2).trans (Same.new hq)) ((s1.trans s2).free hq) upd_same ?_
    rw [(st_same e).2]
    rw [Sm.best_area hF] at hle ⊢
    unfold bestStones
    revert hle
    generalize ((Sm.stonesOf (Sm.best s.kinds s.width s.height)).map fun k => (Sr111.kindAt s k).width * (Sr111.kindAt s k).height).sum = A
    intro hle
    show [V.int ((s.width : Int) * (s.height : Int) - (A : Int))] = [V.int ((s.width * s.height - A : Nat) : Int)]
    congr 2
    rw [← Int.natCast_mul]
    omega
abbrev s_Saw_check_pattern : Stmt := inClass (top 44) 12
theorem sc_Saw_check_pattern : FnScope ["self", "pattern", "steps", "stones"] ["self", "pattern"] (defScope s_Saw_check_pattern) := ⟨rfl, rfl, rfl, by decide +kernel, rfl, by decide +kernel, by decide +kernel⟩
def spCheck (CS CK : Addr) : Sp := fun vs H Q _ => ∃ (p y : Addr) (fp : List Addr) (s : Sr111.Saw) (zs : List Int), vs = [.ref p, .ref y] ∧ SawAt CS CK H p fp (some s) ∧ H y = some (.lst (zs.map V.int)) ∧ zs.length ≤ 80 ∧ Ans CS CK H p fp (some s) (.checkPattern zs) Q
theorem ok_check_pattern {f : Addr} {fd : FuncData} (F : Fun K "check_pattern" "Saw.check_pattern" s_Saw_check_pattern f fd) (T : Txt K mg CK CS) (c1 : Cal P w K mg base "steps_of" 3 ["encoding"] spStepsOf) (c2 : Cal P w K mg base "fits" 3 ["kinds", "steps", "width", "height"] (spFits CK)) (c3 : Cal P w K mg base "stones_in" 1 ["steps"] spStones)
    (c4 : Cal P w K mg base "value_together" 1 ["kinds", "stones"] (spTogether CK Sr111.Kind.value)) (c5 : Cal P w K mg base "counts_by_kind" 1 ["kinds", "stones"] (spCounts CK)) : FnOk P w K mg base CX0 4 f fd ["self", "pattern"] (spCheck CS CK) := by
  obtain ⟨_, _, m_steps_of, kp_steps_of, b_steps_of, G_steps_of⟩ := c1.ex
  obtain ⟨_, _, m_fits, kp_fits, b_fits, G_fits⟩ := c2.ex
  obtain ⟨_, _, m_stones_in, kp_stones_in, b_stones_in, G_stones_in⟩ := c3.ex
  obtain ⟨_, _, m_value_together, kp_value_together, b_value_together, G_value_together⟩ := c4.ex
  obtain ⟨_, _, m_counts_by_kind, kp_counts_by_kind, b_counts_by_kind, G_counts_by_kind⟩ := c5.ex
  refine F.ok sc_Saw_check_pattern (fun vs H Q E h => ?_) (fun cdv A outer s H vs Q E hr h => ?_)
  · obtain ⟨p, y, fp, s, zs, rfl, _⟩ := h
    rfl
  · obtain ⟨p, y, fp, s, zs, rfl, hS, hy, hl, hA⟩ := h
    refine ⟨_, (pss_cons (ps_set (i := 2) sc_Saw_check_pattern.nd rfl (Or.inl rfl) (pe_call G_steps_of (hr.mono (by decide)) (by rfl) m_steps_of kp_steps_of b_steps_of .nil pass0 (pa_cons (pv 1) pa_nil)))
  (pss_cons (ps_if (pt_cmp (pc_isN (pv 2)))
    (pss_one (ps_ret (pe_lst (pa_cons (pe_k (by rfl) T.k_OUT_OF_RANGE) pa_nil)))) pss_nil)
  (pss_cons (ps_if (pt_not (pt_val (pe_call G_fits (hr.mono (by decide)) (by rfl) m_fits kp_fits b_fits .nil pass0 (pa_cons (pe_fld (pv 0) rfl) (pa_cons (pv 2) (pa_cons (pe_fld (pv 0) rfl) (pa_cons (pe_fld (pv 0) rfl) pa_nil)))))))
    (pss_one (ps_ret (pe_lst (pa_cons (pe_k (by rfl) T.k_NO_FIT) pa_nil)))) pss_nil)
  (pss_cons (ps_set (i := 3) sc_Saw_check_pattern.nd rfl (Or.inl rfl) (pe_call G_stones_in (hr.mono (by decide)) (by rfl) m_stones_in kp_stones_in b_stones_in .nil pass0 (pa_cons (pv 2) pa_nil)))
  (pss_one (ps_ret (pe_op op_cat (pe_lst (pa_cons (pe_call G_value_together (hr.mono (by decide)) (by rfl) m_value_together kp_value_together b_value_together .nil pass0 (pa_cons (pe_fld (pv 0) rfl) (pa_cons (pv 3) pa_nil))) pa_nil)) (pe_call G_counts_by_kind (hr.mono (by decide)) (by rfl) m_counts_by_kind kp_counts_by_kind b_counts_by_kind .nil pass0 (pa_cons (pe_fld (pv 0) rfl) (pa_cons (pv 3) pa_nil)))))))))), ?_⟩
    obtain ⟨dx, l, as, rfl, hp, hK, hF⟩ := id hS
    refine ⟨_, rfl, y, zs, rfl, hy, hl, fun hbad H1 s1 => ?_, fun z hz hpz hd r bs H1 s1 hn1 hr1 => ?_⟩
    · refine ⟨_, rfl, _, rfl, ifT rfl ⟨(by show 1 ≤ sizeLine; decide), fun q hq => ?_⟩⟩
      have e := Sm.step_check_bad (s := s) hl hbad
      exact hA.stays hS (st_same e).1 (s1.trans (Same.new hq)) (s1.free hq) upd_same (by rw [(st_same e).2]; rfl)
    · have hlz : (Sm.stepsOf z).length ≤ 80 := Nat.le_trans (Sm.steps_len z) (by rw [← hz]; exact hl)
      have hls : (Sm.stonesOf z).length ≤ 1000 := Nat.le_trans (Sm.stones_len z) (by rw [← hz]; omega)
      refine ⟨_, rfl, _, rfl, ifF rfl ?_⟩
      have hp1 := s1 _ _ hp
      refine ⟨_, rfl, p, CS, dx, _, _, rfl, hp1, T.cl_Saw, T.s_kinds, sF_kinds, _, rfl, _, rfl, p, CS, dx, _, _, rfl, hp1, T.cl_Saw, T.s_width, sF_width, _, rfl, p, CS, dx, _, _, rfl, hp1, T.cl_Saw, T.s_height, sF_height, ?_⟩
      refine ⟨l, r, as, bs, s, z, rfl, hK.same s1, hF, hr1, hpz, hlz, fun H2 s2 => ⟨_, rfl, ?_⟩⟩
      cases ha : Sr111.isApplicable s s.width s.height z with
      | false =>
        refine ifT rfl ⟨(by show 1 ≤ sizeLine; decide), fun q hq => ?_⟩
        have e := Sm.check_bad_fit (s := s) hd ha
        exact hA.stays hS (st_same e).1 ((s1.trans s2).trans (Same.new hq)) ((s1.trans s2).free hq) upd_same (by rw [(st_same e).2]; rfl)
      | true =>
        refine ifF rfl ?_
        refine ⟨_, rfl, r, bs, _, rfl, hr1.same s2, fun st h => Sm.steps_are _ st h, by omega, fun r3 H3 s3 hn3 hr3 => ?_⟩
        rw [Sm.stones_in] at hr3
        have s4 := (s1.trans s2).trans s3
        have hp3 := s4 _ _ hp
        refine ⟨_, rfl, p, CS, dx, _, _, rfl, hp3, T.cl_Saw, T.s_kinds, sF_kinds, _, rfl, ?_⟩
        refine ⟨l, r3, as, s, Sm.stonesOf z, rfl, hK.same s4, hr3, stones_fine hF ha, hls, fun H5 s5 => ⟨(by show 1 ≤ sizeLine; decide), fun r6 hr6 => ?_⟩⟩
        have s6 := s5.trans (Same.new (o := .lst [V.int ((((Sm.stonesOf z).map fun k => (Sr111.kindAt s k).value).sum : Nat) : Int)]) hr6)
        have s7 := s4.trans s6
        refine ⟨_, rfl, p, CS, dx, _, _, rfl, s7 _ _ hp, T.cl_Saw, T.s_kinds, sF_kinds, _, rfl, ?_⟩
        refine ⟨l, r3, as, s.kinds, _, rfl, hK.same s7, hF.k5, s6 _ _ hr3, fun r8 H8 s8 hn8 hr8 => ?_⟩
        refine ⟨r6, r8, _, _, rfl, rfl, s8 _ _ upd_same, hr8, ?_, fun q hq => ?_⟩
        · show 1 + ((countsV s.kinds.length _).map V.int).length ≤ sizeLine
          rw [List.length_map, countsV_len]
          have := hF.k5
          exact Nat.le_trans (show 1 + s.kinds.length ≤ 1000 by omega) (by decide)
        · have e := Sm.check_fit (s := s) hd ha
          refine hA.stays hS (st_same e).1 ((s7.trans s8).trans (Same.new hq)) ((s7.trans s8).free hq) upd_same ?_
          rw [(st_same e).2, Sm.value_is]
          unfold countsV
          show _ = List.map V.int (_ :: List.map _ _)
          rw [← Sm.counts_int]
          rfl
end
end Sb

/-! Other heights, other kinds, other values; describe. -/
namespace Sb
open PySem PySem.Spec PyProof.Rows L2
open PySem.W (Codec)
section
variable {P : Program} {w : World} {K : PySem.W.Frag} {mg : Str → Option Value} {base : Heap} {CK CS : Addr}
/-! ### values_for_height -/
abbrev s_Saw_values_for_height : Stmt := inClass (top 44) 13
theorem sc_Saw_values_for_height : FnScope ["self", "y", "worths", "x"] ["self", "y"] (defScope s_Saw_values_for_height) := ⟨rfl, rfl, rfl, by decide +kernel, rfl, by decide +kernel, by decide +kernel⟩
theorem ok_values_for_height {f : Addr} {fd : FuncData} (F : Fun K "values_for_height" "Saw.values_for_height" s_Saw_values_for_height f fd) (T : Txt K mg CK CS) (c_w : Cal P w K mg base "max_worths" 3 ["kinds", "width", "height"] (spWorths CK)) : FnOk P w K mg base CX0 4 f fd ["self", "y"] (spOp1 CS CK .valuesForHeight) := by
  obtain ⟨_, _, m_max_worths, kp_max_worths, b_max_worths, G_max_worths⟩ := c_w.ex
  refine F.ok sc_Saw_values_for_height (fun vs H Q E h => ?_) (fun cdv A outer s H vs Q E hr h => ?_)
  · obtain ⟨p, fp, s, a, rfl, _⟩ := h
    rfl
  · obtain ⟨p, fp, s, y, rfl, hS, hA⟩ := h
    have hu := hu_of hr
    refine ⟨_, (pss_cons (ps_if (pt_not (pt_chain op_le op_le pe_int (pv 1) (pe_fld (pv 0) rfl)))
    (pss_one (ps_ret (pe_lst (pa_cons (pe_k (by rfl) T.k_OUT_OF_RANGE) pa_nil)))) pss_nil)
  (pss_cons (ps_set (i := 2) sc_Saw_values_for_height.nd rfl (Or.inr rfl) (pe_call G_max_worths (hr.mono (by decide)) (by rfl) m_max_worths kp_max_worths b_max_worths .nil pass0 (pa_cons (pe_fld (pv 0) rfl) (pa_cons (pe_fld (pv 0) rfl) (pa_cons (pv 1) pa_nil)))))
  (pss_one (ps_ret (pe_op op_cat (pe_lst (pa_cons (pe_fld (pv 0) rfl) pa_nil)) (pe_lc (own := [("x", 3)]) (by rfl) sc_Saw_values_for_height.nd (pi_range2 rfl T.b_range (pa_cons pe_int (pa_cons (pe_op op_add (pe_fld (pv 0) rfl) pe_int) pa_nil))) (blkOk_by (own := [("x", 3)]) (N := ["self", "y", "worths", "x"]) (sc := defScope s_Saw_values_for_height) (by decide +kernel)) (fun _ _ _ _ _ => (pg_name (i := 3) sc_Saw_values_for_height.nd rfl (Or.inl rfl))) (fun _ _ _ _ _ => pts_nil) (fun _ _ _ _ _ => (pe_dget hu (pv 2) (pe_tup (pa_cons (pv 3) (pa_cons (pv 1) pa_nil))) (fun _ _ => rfl))))))))), ?_⟩
    obtain ⟨dx, l, as, rfl, hp, hK, hF⟩ := id hS
    have bad : ¬ (1 ≤ y ∧ y ≤ s.height) → (1 ≤ sizeLine ∧ ∀ q, H q = none → Q (.ref q) (upd H q (.lst [V.int (-22)]))) := fun hb => ⟨by decide, fun q hq => by
      have e := Sm.step_row_bad (s := s) hb
      exact hA.stays hS (st_same e).1 (Same.new hq) hq upd_same (by rw [(st_same e).2]; rfl)⟩
    refine ⟨_, rfl, _, _, rfl, rfl, _, rfl, ?_⟩
    by_cases h1 : 1 ≤ y
    · refine ifT (decide_eq_true h1) ⟨_, rfl, p, CS, dx, _, _, rfl, hp, T.cl_Saw, T.s_height, sF_height, _, _, rfl, rfl, _, rfl, ?_⟩
      by_cases h2 : y ≤ (s.height : Int)
      · refine ifF (by rw [decide_eq_true h2]; rfl) ?_
        have ey : ((y.toNat : Nat) : Int) = y := by omega
        have f1 := hF.w9
        have f2 := hF.h9
        have f3 := hF.w1
        refine ⟨_, rfl, p, CS, dx, _, _, rfl, hp, T.cl_Saw, T.s_kinds, sF_kinds, _, rfl, p, CS, dx, _, _, rfl, hp, T.cl_Saw, T.s_width, sF_width, _, rfl, ?_⟩
        refine ⟨l, as, s.kinds, s.width, y.toNat, by rw [ey]; rfl, hK, by omega, fun d H1 s1 hd0 hW => ?_⟩
        obtain ⟨kvs, hd, hv⟩ := hW
        refine ⟨_, rfl, p, CS, dx, _, _, rfl, s1 _ _ hp, T.cl_Saw, T.s_width, sF_width, (by show 1 ≤ sizeLine; decide), fun r1 hr1 => ?_⟩
        have s2 := s1.trans (Same.new (o := .lst [V.int (s.width : Int)]) hr1)
        have hd2 := (Same.new (o := .lst [V.int (s.width : Int)]) hr1) _ _ hd
        refine ⟨_, rfl, p, CS, dx, _, _, rfl, s2 _ _ hp, T.cl_Saw, T.s_width, sF_width, _, _, rfl, rfl, _, _, rfl, (by omega), fun D hD => lc_range (lo := 1) (n := ((s.width : Int) + 1 - 1).toNat) (fun i H' => Same (upd H1 r1 (.lst [V.int (s.width : Int)])) H' ∧ H' D = some (.lst (((List.range i).map fun j => (Sm.mv s.kinds (j + 1) y.toNat : Int)).map V.int)))
          ⟨Same.new hD, upd_same⟩ ?_ ?_⟩
        · rintro i H3 hi ⟨s3, hD3⟩
          have e1 : (1 : Int) + (i : Int) = ((i + 1 : Nat) : Int) := by omega
          refine ⟨rfl, yes_if ?_⟩
          refine ⟨_, rfl, _, rfl, _, rfl, (by show 2 ≤ sizeLine; decide), fun t ht => ?_⟩
          have s4 := s3.trans (Same.new (o := .tup [.int ((1 : Int) + (i : Int)), .int y]) ht)
          refine ⟨d, _, rfl, by rw [← hv (i + 1) y.toNat (by omega) (by omega) (by omega) (by omega)]; exact DGet.t (k := pk (i + 1) y.toNat) (s4 _ _ hd2) (by rw [e1, ← ey]; exact upd_same), ?_⟩
          refine ⟨_, (Same.new (o := .tup [.int ((1 : Int) + (i : Int)), .int y]) ht) _ _ hD3, ?_, fun b o hb => ?_, ?_⟩
          · rw [List.length_map, List.length_map, List.length_range]
            exact Nat.lt_of_le_of_lt (show i ≤ 9 by omega) (by decide)
          · rw [upd_ne (ne_of_none hb hD)]
            exact s4 _ _ hb
          · rw [upd_same, List.range_succ, List.map_append, List.map_append]
            rfl
        · rintro H3 ⟨s3, hD3⟩
          have ew : ((s.width : Int) + 1 - 1).toNat = s.width := by omega
          rw [ew] at hD3
          refine ⟨r1, D, _, _, rfl, rfl, s3 _ _ upd_same, hD3, ?_, fun q hq => ?_⟩
          · show 1 + (((List.range s.width).map fun j => (Sm.mv s.kinds (j + 1) y.toNat : Int)).map V.int).length ≤ sizeLine
            rw [List.length_map, List.length_map, List.length_range]
            exact Nat.le_trans (show 1 + s.width ≤ 1000 by omega) (by decide)
          · have e := Sm.step_row_ok (s := s) ⟨h1, h2⟩
            exact hA.stays hS (st_same e).1 ((s2.trans s3).trans (Same.new hq)) ((s2.trans s3).free hq) upd_same (by rw [(st_same e).2]; rfl)
      · exact ifT (by rw [decide_eq_false h2]; rfl) (bad (by omega))
    · exact ifF (decide_eq_false h1) ⟨_, rfl, ifT rfl (bad (by omega))⟩
/-! ### with_value, max_value_if_value -/
theorem kF_with_value (k : Sr111.Kind) : (kF k).lookup ("with_value" : Str) = none := (lk_past (by decide +kernel)).trans ((lk_past (by decide +kernel)).trans ((lk_past (by decide +kernel)).trans ((lk_past (by decide +kernel)).trans rfl)))
abbrev s_Kind_with_value : Stmt := inClass (top 39) 2
theorem sc_Kind_with_value : FnScope ["self", "value"] ["self", "value"] (defScope s_Kind_with_value) := ⟨rfl, rfl, rfl, by decide +kernel, rfl, by decide +kernel, by decide +kernel⟩
def spWith (CK : Addr) : Sp := fun vs H Q _ => ∃ (a : Addr) (k : Sr111.Kind) (v : Nat), vs = [.ref a, .int (v : Int)] ∧ KindAt CK H a k ∧ ∀ (x : Addr) (H' : Hp), Same H H' → H x = none → KindAt CK H' x { k with value := v } → Q (.ref x) H'
theorem ok_with_value {f fK : Addr} {fd fdK : FuncData} (F : Fun K "with_value" "Kind.with_value" s_Kind_with_value f fd) (T : Txt K mg CK CS) (M_Kind : Mk K CK fK) (G_Kind : FnOk P w K mg base CX0 1 fK fdK ["self", "width", "height", "value", "may_turn"] (spKind CK)) (b_Kind : Binds K fdK ["self", "width", "height", "value", "may_turn"] []) : FnOk P w K mg base CX0 3 f fd ["self", "value"] (spWith CK) := by
  refine F.ok sc_Kind_with_value (fun vs H Q E h => ?_) (fun cdv A outer s H vs Q E hr h => ?_)
  · obtain ⟨a, k, v, rfl, _⟩ := h
    rfl
  · obtain ⟨a, k, v, rfl, ⟨dx, ha⟩, q⟩ := h
    refine ⟨_, (pss_one (ps_ret (pe_make M_Kind G_Kind (hr.mono (by decide)) rfl T.m_Kind b_Kind .nil pass0 (pa_cons (pe_fld (pv 0) rfl) (pa_cons (pe_fld (pv 0) rfl) (pa_cons (pv 1) (pa_cons (pe_fld (pv 0) rfl) pa_nil))))))), ?_⟩
    refine ⟨_, rfl, a, CK, dx, _, _, rfl, ha, T.cl_Kind, T.n_width, kF_width k, _, rfl, a, CK, dx, _, _, rfl, ha, T.cl_Kind, T.n_height, kF_height k, _, rfl, _, rfl, a, CK, dx, _, _, rfl, ha, T.cl_Kind, T.n_may_turn, kF_may_turn k, ?_⟩
    intro x dk hx hdk nex
    exact ⟨x, dk, { k with value := v }, rfl, upd_same, fun H2 hk2 fr => ⟨rfl, q x H2 (Same.made hx hdk fr) hx hk2⟩⟩
/-- another object in a list's place -/
theorem KindsAt.swap {H : Hp} {l q x : Addr} {as : List Addr} {ks : List Sr111.Kind} (h : KindsAt CK H l as ks) {i : Nat} (hx : ¬ x ∈ as) {k' : Sr111.Kind} (hk : KindAt CK H x k') {o : HO} (hq : H q = some o) (ho : ∀ d fs, o ≠ .ins CK d fs) : KindsAt CK (upd H q (.lst ((as.map V.ref).set i (.ref x)))) q (as.set i x) (ks.set i k') := by
  have other : ∀ {a : Addr} {k : Sr111.Kind}, KindAt CK H a k → KindAt CK (upd H q (.lst ((as.map V.ref).set i (.ref x)))) a k := fun ⟨d, e⟩ => ⟨d, by
    rw [upd_ne (ne_of e hq (fun z => ho _ _ z.symm))]
    exact e⟩
  refine ⟨by rw [upd_same, List.map_set], ?_, by rw [List.length_set, List.length_set]; exact h.len, fun j a k h1 h2 => ?_⟩
  · refine List.pairwise_iff_getElem.mpr fun m n hm hn hmn => ?_
    rw [List.length_set] at hm hn
    rw [List.getElem_set, List.getElem_set]
    by_cases e1 : i = m
    · rw [if_pos e1, if_neg (by omega)]
      exact fun e => hx (e ▸ List.getElem_mem hn)
    · rw [if_neg e1]
      by_cases e2 : i = n
      · rw [if_pos e2]
        exact fun e => hx (e ▸ List.getElem_mem hm)
      · rw [if_neg e2]
        exact List.pairwise_iff_getElem.mp h.nd m n hm hn hmn
  · by_cases e : i = j
    · subst e
      have hlt : i < as.length := by have := (List.getElem?_eq_some_iff.mp h1).1; rw [List.length_set] at this; exact this
      rw [List.getElem?_set_self hlt] at h1
      rw [List.getElem?_set_self (by rw [← h.len]; exact hlt)] at h2
      obtain rfl : x = a := Option.some.inj h1
      obtain rfl : k' = k := Option.some.inj h2
      exact other hk
    · rw [List.getElem?_set_ne e] at h1 h2
      exact other (h.at_ j a k h1 h2)
abbrev s_Saw_max_value_if_value : Stmt := inClass (top 44) 15
theorem sc_Saw_max_value_if_value : FnScope ["self", "k", "value", "kinds"] ["self", "k", "value"] (defScope s_Saw_max_value_if_value) := ⟨rfl, rfl, rfl, by decide +kernel, rfl, by decide +kernel, by decide +kernel⟩
theorem ok_max_value_if_value {f : Addr} {fd : FuncData} (F : Fun K "max_value_if_value" "Saw.max_value_if_value" s_Saw_max_value_if_value f fd) (T : Txt K mg CK CS) (c_h : MCal P w K mg base CS "has_kind" 1 ["self", "k"] (spHas CS CK)) (c_v : Cal P w K mg base "is_value" 1 ["number"] (spTest Sr111.isValue)) (c_x : MCal P w K mg base CK "with_value" 3 ["self", "value"] (spWith CK)) (c_w : Cal P w K mg base "max_worth" 4 ["kinds", "width", "height"] (spWorth CK)) : FnOk P w K mg base CX0 5 f fd ["self", "k", "value"] (spOp2 CS CK .maxValueIfValue) := by
  obtain ⟨_, _, m_has_kind, b_has_kind, G_has_kind⟩ := c_h.ex
  obtain ⟨_, _, m_is_value, kp_is_value, b_is_value, G_is_value⟩ := c_v.ex
  obtain ⟨_, _, m_with_value, b_with_value, G_with_value⟩ := c_x.ex
  obtain ⟨_, _, m_max_worth, kp_max_worth, b_max_worth, G_max_worth⟩ := c_w.ex
  refine F.ok sc_Saw_max_value_if_value (fun vs H Q E h => ?_) (fun cdv A outer s H vs Q E hr h => ?_)
  · obtain ⟨p, fp, st, a, b, rfl, _⟩ := h
    rfl
  · obtain ⟨p, fp, s, k, v, rfl, hS, hA⟩ := h
    refine ⟨_, (pss_cons (ps_if (pt_not (pt_val (pe_meth (pv 0) T.cl_Saw m_has_kind G_has_kind (hr.mono (by decide)) b_has_kind .nil pass0 (pa_cons (pv 1) pa_nil))))
    (pss_one (ps_ret (pe_lst (pa_cons (pe_k (by rfl) T.k_NO_SUCH_KIND) pa_nil)))) pss_nil)
  (pss_cons (ps_if (pt_not (pt_val (pe_call G_is_value (hr.mono (by decide)) (by rfl) m_is_value kp_is_value b_is_value .nil pass0 (pa_cons (pv 2) pa_nil))))
    (pss_one (ps_ret (pe_lst (pa_cons (pe_k (by rfl) T.k_OUT_OF_RANGE) pa_nil)))) pss_nil)
  (pss_cons (ps_set (i := 3) sc_Saw_max_value_if_value.nd rfl (Or.inl rfl) (pe_callTy call_list_of (by rfl) T.b_list (by decide +kernel) (pa_cons (pe_fld (pv 0) rfl) pa_nil)))
  (pss_cons (ps_asg (pe_meth (pe_ix ix_list (pv 3) (pv 1) (fun _ _ => rfl)) T.cl_Kind m_with_value G_with_value (hr.mono (by decide)) b_with_value .nil pass0 (pa_cons (pv 2) pa_nil)) (pg_sub (pv 3) (pv 1) set_list))
  (pss_one (ps_ret (pe_lst (pa_cons (pe_call G_max_worth (hr.mono (by decide)) (by rfl) m_max_worth kp_max_worth b_max_worth .nil pass0 (pa_cons (pv 3) (pa_cons (pe_fld (pv 0) rfl) (pa_cons (pe_fld (pv 0) rfl) pa_nil)))) pa_nil)))))))), ?_⟩
    obtain ⟨dx, l, as, rfl, hp, hK, hF⟩ := id hS
    refine ⟨_, rfl, p, dx, _, rfl, hp, sF_no (by decide +kernel) (by decide +kernel) (by decide +kernel) (by decide +kernel), _, rfl, p, _, s, k, rfl, hS, _, rfl, ?_⟩
    cases hk : Sr111.isKind s k with
    | false =>
      refine ifT rfl ⟨by decide, fun q hq => ?_⟩
      have e := Sm.step_ifvalue_bad (s := s) (v := v) hk
      exact hA.stays hS (st_same e).1 (Same.new hq) hq upd_same (by rw [(st_same e).2]; rfl)
    | true =>
      refine ifF rfl ⟨_, rfl, v, rfl, _, rfl, ?_⟩
      cases hv : Sr111.isValue v with
      | false =>
        refine ifT rfl ⟨by decide, fun q hq => ?_⟩
        have e := Sm.step_ifvalue_out (s := s) hk hv
        exact hA.stays hS (st_same e).1 (Same.new hq) hq upd_same (by rw [(st_same e).2]; rfl)
      | true =>
        refine ifF rfl ?_
        have e := Sm.step_ifvalue_ok (s := s) hF hk hv
        have k1 := Sm.isKind_iff.mp hk
        have v1 := Sm.isValue_iff.mp hv
        have ek : ((k.toNat : Nat) : Int) = k := by omega
        have ev : ((v.toNat : Nat) : Int) = v := by omega
        have hlt : k.toNat < s.kinds.length := by omega
        have hla : k.toNat < as.length := by rw [hK.len]; exact hlt
        -- kinds = list(self.kinds)
        refine ⟨_, rfl, p, CS, dx, _, _, rfl, hp, T.cl_Saw, T.s_kinds, sF_kinds, l, _, rfl, .inl (SqL.of hK.lst), fun D hD => ?_⟩
        have s1 := Same.new (o := .lst (as.map V.ref)) hD
        have hK1 := hK.same s1
        obtain ⟨a, d2, ha, hka⟩ := hK1.kind hlt
        -- kinds[k] = kinds[k].with_value(value)
        refine ⟨_, rfl, _, rfl, D, _, k, .ref a, rfl, rfl, SqL.of upd_same, at_of ek.symm ha, a, d2, _, rfl, hka, kF_with_value _, _, rfl, ?_⟩
        refine ⟨a, Sr111.kindAt s k.toNat, v.toNat, by rw [ev]; rfl, ⟨d2, hka⟩, fun x H2 s2 hx0 hx2 => ?_⟩
        have hD2 := s2 _ _ (upd_same (H := H) (a := D) (o := .lst (as.map V.ref)))
        have hxas : ¬ x ∈ as := fun h => by
          obtain ⟨j, hj, ej⟩ := List.getElem_of_mem h
          obtain ⟨k3, hk3, d3, h3⟩ := hK1.get (List.getElem?_eq_getElem hj)
          rw [ej, hx0] at h3
          cases h3
        have hKD : KindsAt CK H2 D as s.kinds := ⟨hD2, hK.nd, hK.len, fun j b q h1 h2 => ((hK1.same s2).at_ j b q h1 h2)⟩
        refine ⟨_, rfl, _, rfl, D, _, k, k.toNat, rfl, rfl, hD2, ?_, ?_⟩
        · unfold ixN
          rw [List.length_map, if_pos (by omega), if_pos (by omega)]
        have hK3 := hKD.swap (i := k.toNat) hxas hx2 hD2 (fun _ _ z => by cases z)
        have s3 : Same H (upd H2 D (.lst ((as.map V.ref).set k.toNat (.ref x)))) := fun b o h => by
          rw [upd_ne (ne_of_none h hD)]
          exact s2 _ _ (s1 _ _ h)
        refine ⟨_, rfl, _, rfl, p, CS, dx, _, _, rfl, s3 _ _ hp, T.cl_Saw, T.s_width, sF_width, _, rfl, p, CS, dx, _, _, rfl, s3 _ _ hp, T.cl_Saw, T.s_height, sF_height, ?_⟩
        refine ⟨D, _, _, s.width, s.height, rfl, hK3, hF.dims, fun H4 s4 => ⟨(by show 1 ≤ sizeLine; decide), fun r hr0 => ?_⟩⟩
        exact hA.stays hS (st_same e).1 ((s3.trans s4).trans (Same.new hr0)) ((s3.trans s4).free hr0) upd_same (by rw [(st_same e).2]; rfl)
end
end Sb

/-! One kind less; the smallest height; describe. -/
namespace Sb
open PySem PySem.Spec PyProof.Rows L2
open PySem.W (Codec)
section
variable {P : Program} {w : World} {K : PySem.W.Frag} {mg : Str → Option Value} {base : Heap} {CK CS : Addr}
/-! ### max_value_without -/
abbrev s_Saw_max_value_without : Stmt := inClass (top 44) 14
theorem sc_Saw_max_value_without : FnScope ["self", "k", "others", "j", "kind"] ["self", "k"] (defScope s_Saw_max_value_without) := ⟨rfl, rfl, rfl, by decide +kernel, rfl, by decide +kernel, by decide +kernel⟩
theorem ok_max_value_without {f : Addr} {fd : FuncData} (F : Fun K "max_value_without" "Saw.max_value_without" s_Saw_max_value_without f fd) (T : Txt K mg CK CS) (c_h : MCal P w K mg base CS "has_kind" 1 ["self", "k"] (spHas CS CK)) (c_w : Cal P w K mg base "max_worth" 4 ["kinds", "width", "height"] (spWorth CK)) : FnOk P w K mg base CX0 5 f fd ["self", "k"] (spOp1 CS CK .maxValueWithout) := by
  obtain ⟨_, _, m_has_kind, b_has_kind, G_has_kind⟩ := c_h.ex
  obtain ⟨_, _, m_max_worth, kp_max_worth, b_max_worth, G_max_worth⟩ := c_w.ex
  refine F.ok sc_Saw_max_value_without (fun vs H Q E h => ?_) (fun cdv A outer s H vs Q E hr h => ?_)
  · obtain ⟨p, fp, st, a, rfl, _⟩ := h
    rfl
  · obtain ⟨p, fp, s, k, rfl, hS, hA⟩ := h
    refine ⟨_, (pss_cons (ps_if (pt_not (pt_val (pe_meth (pv 0) T.cl_Saw m_has_kind G_has_kind (hr.mono (by decide)) b_has_kind .nil pass0 (pa_cons (pv 1) pa_nil))))
    (pss_one (ps_ret (pe_lst (pa_cons (pe_k (by rfl) T.k_NO_SUCH_KIND) pa_nil)))) pss_nil)
  (pss_cons (ps_setLc (i := 2) (own := [("j", 3), ("kind", 4)]) (by rfl) sc_Saw_max_value_without.nd rfl rfl (sw_true rfl rfl rfl (by decide +kernel)) (pi_enum (by rfl) T.b_enumerate (pa_cons (pe_fld (pv 0) rfl) pa_nil)) (blkOk_by (own := [("j", 3), ("kind", 4)]) (N := ["self", "k", "others", "j", "kind"]) (sc := defScope s_Saw_max_value_without) (by decide +kernel)) (fun _ _ _ _ _ => (show PG _ _ (gTup K 2 _) from pg_tup (by rfl) (pgs_cons (pg_name (i := 3) sc_Saw_max_value_without.nd rfl (Or.inl rfl)) (pgs_cons (pg_name (i := 4) sc_Saw_max_value_without.nd rfl (Or.inl rfl)) pgs_nil)))) (fun _ _ _ _ _ => (pts_one (pt_cmpR op_ne (pv 3) (pv 1) (nomark _)))) (fun _ _ _ _ _ => (pv 4)))
  (pss_one (ps_ret (pe_lst (pa_cons (pe_call G_max_worth (hr.mono (by decide)) (by rfl) m_max_worth kp_max_worth b_max_worth .nil pass0 (pa_cons (pv 2) (pa_cons (pe_fld (pv 0) rfl) (pa_cons (pe_fld (pv 0) rfl) pa_nil)))) pa_nil)))))), ?_⟩
    obtain ⟨dx, l, as, rfl, hp, hK, hF⟩ := id hS
    refine ⟨_, rfl, p, dx, _, rfl, hp, sF_no (by decide +kernel) (by decide +kernel) (by decide +kernel) (by decide +kernel), _, rfl, p, _, s, k, rfl, hS, _, rfl, ?_⟩
    cases hk : Sr111.isKind s k with
    | false =>
      refine ifT rfl ⟨by decide, fun q hq => ?_⟩
      have e := Sm.step_without_bad (s := s) hk
      exact hA.stays hS (st_same e).1 (Same.new hq) hq upd_same (by rw [(st_same e).2]; rfl)
    | true =>
      refine ifF rfl ?_
      have e := Sm.step_without_ok (s := s) hF hk
      have k1 := Sm.isKind_iff.mp hk
      have ek : ((k.toNat : Nat) : Int) = k := by omega
      have hlt : k.toNat < s.kinds.length := by omega
      have h5 := hF.k5
      have hlen := hK.len
      refine ⟨_, rfl, p, CS, dx, _, _, rfl, hp, T.cl_Saw, T.s_kinds, sF_kinds, l, _, rfl, SqL.of hK.lst, fun D hD => lc_it (walk_enum (xs := as.map V.ref)) (fun i H' => Same H H' ∧ H' D = some (.lst ((((as.take i).eraseIdx k.toNat)).map V.ref)))
        ⟨Same.new hD, upd_same⟩ (fun i H' _ h => SqL.of (h.1 _ _ hK.lst)) ?_ ?_⟩
      · rintro i z H1 H2 hi ⟨s1, hD1⟩ ⟨t, a0, b0, rfl, ht, rfl, ea, eb⟩
        obtain rfl : V.int (i : Nat) = a0 := Option.some.inj ea
        obtain ⟨a, ha, rfl⟩ := take_ref eb
        rw [List.length_map] at hi
        have s2 : Same H1 (upd H1 t (.tup [.int (i : Nat), .ref a])) := Same.new ht
        have more : (as.take (i + 1)).eraseIdx k.toNat = if k.toNat = i then (as.take i).eraseIdx k.toNat else (as.take i).eraseIdx k.toNat ++ [a] := by
          rw [Sm.take_more ha, Sm.erase_snoc, List.length_take, Nat.min_eq_left (by omega)]
        refine ⟨t, _, rfl, .inl (.inl upd_same), rfl, _, _, rfl, _, _, rfl, rfl, rfl, ?_⟩
        refine ⟨_, rfl, _, rfl, rfl, _, rfl, ?_⟩
        by_cases c : k.toNat = i
        · refine ifF ?_ ⟨s1.trans s2, ?_⟩
          · have e4 : V.int (i : Nat) = V.int k := by rw [vi]; omega
            simp [e4]
          · rw [more, if_pos c]
            exact s2 _ _ hD1
        · refine ifT ?_ ?_
          · have e4 : ¬ V.int (i : Nat) = V.int k := by rw [vi]; omega
            simp [e4]
          · refine ⟨_, rfl, _, s2 _ _ hD1, ?_, fun b o hb => ?_, ?_⟩
            · rw [List.length_map]
              have h7 := List.length_eraseIdx_le (as.take i) k.toNat
              rw [List.length_take] at h7
              exact Nat.lt_of_le_of_lt (show ((as.take i).eraseIdx k.toNat).length ≤ 1000 by omega) (by decide)
            · rw [upd_ne (ne_of_none hb hD)]
              exact s2 _ _ (s1 _ _ hb)
            · rw [upd_same, more, if_neg c, List.map_append]
              rfl
      · rintro H1 ⟨s1, hD1⟩
        rw [List.length_map, List.take_length] at hD1
        have hKD : KindsAt CK H1 D (as.eraseIdx k.toNat) (s.kinds.eraseIdx k.toNat) := by
          refine ⟨hD1, hK.nd.sublist (List.eraseIdx_sublist ..), by rw [List.length_eraseIdx, List.length_eraseIdx, hK.len], fun j a q h1 h2 => ?_⟩
          rw [erase_at] at h1 h2
          have : KindAt CK H a q := by
            split at h1
            · rw [if_pos (by assumption)] at h2; exact hK.at_ _ a q h1 h2
            · rw [if_neg (by assumption)] at h2; exact hK.at_ _ a q h1 h2
          obtain ⟨d2, e2⟩ := this
          exact ⟨d2, s1 _ _ e2⟩
        refine ⟨_, rfl, _, rfl, p, CS, dx, _, _, rfl, s1 _ _ hp, T.cl_Saw, T.s_width, sF_width, _, rfl, p, CS, dx, _, _, rfl, s1 _ _ hp, T.cl_Saw, T.s_height, sF_height, ?_⟩
        refine ⟨D, _, _, s.width, s.height, rfl, hKD, hF.dims, fun H4 s4 => ⟨(by show 1 ≤ sizeLine; decide), fun r hr0 => ?_⟩⟩
        exact hA.stays hS (st_same e).1 ((s1.trans s4).trans (Same.new hr0)) ((s1.trans s4).free hr0) upd_same (by rw [(st_same e).2]; rfl)
/-! ### min_height -/
abbrev s_Saw_min_height : Stmt := inClass (top 44) 16
theorem sc_Saw_min_height : FnScope ["self", "value", "worths", "height"] ["self", "value"] (defScope s_Saw_min_height) := ⟨rfl, rfl, rfl, by decide +kernel, rfl, by decide +kernel, by decide +kernel⟩
theorem ok_min_height {f : Addr} {fd : FuncData} (F : Fun K "min_height" "Saw.min_height" s_Saw_min_height f fd) (T : Txt K mg CK CS) (c_w : Cal P w K mg base "max_worths" 3 ["kinds", "width", "height"] (spWorths CK)) : FnOk P w K mg base CX0 4 f fd ["self", "value"] (spOp1 CS CK .minHeight) := by
  obtain ⟨_, _, m_max_worths, kp_max_worths, b_max_worths, G_max_worths⟩ := c_w.ex
  refine F.ok sc_Saw_min_height (fun vs H Q E h => ?_) (fun cdv A outer s H vs Q E hr h => ?_)
  · obtain ⟨p, fp, s, a, rfl, _⟩ := h
    rfl
  · obtain ⟨p, fp, s, v, rfl, hS, hA⟩ := h
    have hu := hu_of hr
    refine ⟨_, (pss_cons (ps_if (pt_cmpR op_lt (pv 1) pe_int (nomark _))
    (pss_one (ps_ret (pe_lst (pa_cons (pe_k (by rfl) T.k_OUT_OF_RANGE) pa_nil)))) pss_nil)
  (pss_cons (ps_set (i := 2) sc_Saw_min_height.nd rfl (Or.inl rfl) (pe_call G_max_worths (hr.mono (by decide)) (by rfl) m_max_worths kp_max_worths b_max_worths .nil pass0 (pa_cons (pe_fld (pv 0) rfl) (pa_cons (pe_fld (pv 0) rfl) (pa_cons (pe_k (by rfl) T.k_LONGEST_SIDE) pa_nil)))))
  (pss_cons (ps_for PassesOwn.never rfl (pi_range2 rfl T.b_range (pa_cons pe_int (pa_cons (pe_op op_add (pe_k (by rfl) T.k_LONGEST_SIDE) pe_int) pa_nil))) (pg_name (i := 3) sc_Saw_min_height.nd rfl (Or.inl rfl))
    (pss_one (ps_if (pt_cmpR op_ge (pe_dget hu (pv 2) (pe_tup (pa_cons (pe_fld (pv 0) rfl) (pa_cons (pv 3) pa_nil))) (fun _ _ => rfl)) (pv 1) (nomark _))
    (pss_one (ps_ret (pe_lst (pa_cons (pv 3) pa_nil)))) pss_nil)))
  (pss_one (ps_ret (pe_lst (pa_cons (pe_k (by rfl) T.k_NO_FIT) pa_nil))))))), ?_⟩
    obtain ⟨dx, l, as, rfl, hp, hK, hF⟩ := id hS
    refine ⟨_, rfl, _, _, rfl, rfl, _, rfl, ?_⟩
    by_cases h0 : v < 0
    · refine ifT (decide_eq_true h0) ⟨by decide, fun q hq => ?_⟩
      have e := Sm.step_height_bad (s := s) h0
      exact hA.stays hS (st_same e).1 (Same.new hq) hq upd_same (by rw [(st_same e).2]; rfl)
    · refine ifF (decide_eq_false h0) ?_
      have f1 := hF.w9
      have f3 := hF.w1
      refine ⟨_, rfl, p, CS, dx, _, _, rfl, hp, T.cl_Saw, T.s_kinds, sF_kinds, _, rfl, p, CS, dx, _, _, rfl, hp, T.cl_Saw, T.s_width, sF_width, ?_⟩
      refine ⟨l, as, s.kinds, s.width, 9, rfl, hK, by omega, fun d H1 s1 hd0 ⟨kvs, hd, hv⟩ => ?_⟩
      refine ⟨_, _, rfl, rfl, _, _, rfl, (by omega), for_range (lo := 1) (n := ((9 : Int) + 1 - 1).toNat) (fun i σ H' => ∃ u : Option V, σ = [some (.ref p), some (.int v), some (.ref d), u] ∧ Same H1 H' ∧ ∀ j, j < i → decide (v.toNat ≤ Sm.mv s.kinds s.width (j + 1)) = false)
        ⟨none, rfl, Same.refl H1, fun j h => by omega⟩ ?_ ?_⟩
      · rintro i σ H2 hi ⟨u, rfl, s2, hn⟩
        have hi9 : i < 9 := hi
        have e1 : (1 : Int) + (i : Int) = ((i + 1 : Nat) : Int) := by omega
        have s3 := s1.trans s2
        refine ⟨_, rfl, _, rfl, p, CS, dx, _, _, rfl, s3 _ _ hp, T.cl_Saw, T.s_width, sF_width, _, rfl, (by show 2 ≤ sizeLine; decide), fun t ht => ?_⟩
        have s4 := Same.new (o := .tup [.int (s.width : Int), .int ((1 : Int) + (i : Int))]) ht
        refine ⟨d, _, rfl, by rw [← hv s.width (i + 1) (by omega) (by omega) (by omega) (by omega)]; exact DGet.t (k := pk s.width (i + 1)) (s4 _ _ (s2 _ _ hd)) (by rw [e1]; exact upd_same), ?_⟩
        refine ⟨_, rfl, _, _, rfl, rfl, _, rfl, ?_⟩
        by_cases c : v.toNat ≤ Sm.mv s.kinds s.width (i + 1)
        · refine ifT (decide_eq_true (by omega)) ?_
          refine ⟨_, rfl, (by show 1 ≤ sizeLine; decide), fun r hr0 => ?_⟩
          have e := Sm.step_height_some (s := s) hF h0 (j := i) (Sm.find_first hi9 (decide_eq_true c) hn)
          refine hA.stays hS (st_same e).1 ((s3.trans s4).trans (Same.new hr0)) ((s3.trans s4).free hr0) upd_same ?_
          rw [(st_same e).2, e1]
          rfl
        · refine ifF (decide_eq_false (by omega)) ?_
          refine ⟨_, rfl, s2.trans s4, fun j hj => ?_⟩
          by_cases hji : j = i
          · subst hji
            exact decide_eq_false c
          · exact hn j (by omega)
      · rintro σ H2 ⟨u, rfl, s2, hn⟩
        have e := Sm.step_height_none (s := s) hF h0 (Sm.find_none fun j hj => hn j hj)
        refine ⟨(by show 1 ≤ sizeLine; decide), fun r hr0 => ?_⟩
        exact hA.stays hS (st_same e).1 ((s1.trans s2).trans (Same.new hr0)) ((s1.trans s2).free hr0) upd_same (by rw [(st_same e).2]; rfl)
/-! ### describe -/
abbrev s_Saw_describe : Stmt := inClass (top 44) 17
theorem sc_Saw_describe : FnScope ["self", "answer", "kind"] ["self"] (defScope s_Saw_describe) := ⟨rfl, rfl, rfl, by decide +kernel, rfl, by decide +kernel, by decide +kernel⟩
/-- what is told of each kind -/
def tells (ks : List Sr111.Kind) : List Int := ks.flatMap fun k => [(k.width : Int), (k.height : Int), (k.value : Int), SrCommon.boolToInt k.mayTurn]
theorem tells_len (ks : List Sr111.Kind) : (tells ks).length = 4 * ks.length := by
  unfold tells
  induction ks with
  | nil => rfl
  | cons k ks ih =>
    rw [List.flatMap_cons, List.length_append, ih]
    show 4 + 4 * ks.length = 4 * (ks.length + 1)
    omega
theorem ok_describe {f : Addr} {fd : FuncData} (F : Fun K "describe" "Saw.describe" s_Saw_describe f fd) (T : Txt K mg CK CS) : FnOk P w K mg base CX0 1 f fd ["self"] (spOp0 CS CK .describe) := by
  refine F.ok sc_Saw_describe (fun vs H Q E h => ?_) (fun cdv A outer s H vs Q E hr h => ?_)
  · obtain ⟨p, fp, s, rfl, _⟩ := h
    rfl
  · obtain ⟨p, fp, s, rfl, hS, hA⟩ := h
    refine ⟨_, (pss_cons (ps_set (i := 1) sc_Saw_describe.nd rfl (Or.inl rfl) (pe_lst (pa_cons (pe_callB call_len_seq (by rfl) T.b_len PySem.boot_len (pa_cons (pe_fld (pv 0) rfl) pa_nil)) (pa_cons (pe_fld (pv 0) rfl) (pa_cons (pe_fld (pv 0) rfl) pa_nil)))))
  (pss_cons (ps_for PassesOwn.never rfl (pi_list (pe_fld (pv 0) rfl)) (pg_name (i := 2) sc_Saw_describe.nd rfl (Or.inl rfl))
    (pss_one (ps_expr (pe_bm PySem.F.plainAttrs_list PySem.F.slot_list_extend PySem.F.type_list_extend mt_extend (pv 1) (pa_cons (pe_lst (pa_cons (pe_fld (pv 2) rfl) (pa_cons (pe_fld (pv 2) rfl) (pa_cons (pe_fld (pv 2) rfl) (pa_cons (pe_fld (pv 2) rfl) pa_nil))))) pa_nil)))))
  (pss_one (ps_ret (pv 1))))), ?_⟩
    obtain ⟨dx, l, as, rfl, hp, hK, hF⟩ := id hS
    have h5 := hF.k5
    refine ⟨_, rfl, p, CS, dx, _, _, rfl, hp, T.cl_Saw, T.s_kinds, sF_kinds, l, _, rfl, .inl (SqL.of hK.lst), _, rfl, p, CS, dx, _, _, rfl, hp, T.cl_Saw, T.s_width, sF_width, _, rfl, p, CS, dx, _, _, rfl, hp, T.cl_Saw, T.s_height, sF_height, (by show 3 ≤ sizeLine; decide), fun r hr0 => ?_⟩
    have s1 := Same.new (o := .lst [V.int ((as.map V.ref).length : Int), V.int (s.width : Int), V.int (s.height : Int)]) hr0
    refine ⟨_, rfl, p, CS, dx, _, _, rfl, s1 _ _ hp, T.cl_Saw, T.s_kinds, sF_kinds, l, rfl, ⟨_, SqL.of (s1 _ _ hK.lst)⟩, for_list (xs := as.map V.ref) (fun i σ H' => ∃ u : Option V, σ = [some (.ref p), some (.ref r), u] ∧ Same H H' ∧ H' r = some (.lst (([(s.kinds.length : Int), (s.width : Int), (s.height : Int)] ++ tells (s.kinds.take i)).map V.int)))
      ⟨none, rfl, s1, ?_⟩ (fun i σ H' _ ⟨_, _, s2, _⟩ => SqL.of (s2 _ _ hK.lst)) ?_ ?_⟩
    · rw [upd_same, List.length_map, hK.len]
      rfl
    · rintro i x σ H1 hx ⟨u, rfl, s2, hr1⟩
      obtain ⟨a, ha, rfl⟩ := take_ref hx
      obtain ⟨k, hk, d2, hka⟩ := (hK.same s2).get ha
      have hi : i < s.kinds.length := (List.getElem?_eq_some_iff.mp hk).1
      refine ⟨_, rfl, .inl ⟨rfl, _, SqL.of hr1⟩, ?_⟩
      refine ⟨_, rfl, a, CK, d2, _, _, rfl, hka, T.cl_Kind, T.n_width, kF_width k, _, rfl, a, CK, d2, _, _, rfl, hka, T.cl_Kind, T.n_height, kF_height k, _, rfl, a, CK, d2, _, _, rfl, hka, T.cl_Kind, T.n_value, kF_value k, _, rfl, a, CK, d2, _, _, rfl, hka, T.cl_Kind, T.n_may_turn, kF_may_turn k, (by show 4 ≤ sizeLine; decide), fun q hq => ?_⟩
      refine ⟨r, q, _, _, rfl, rfl, Same.new hq _ _ hr1, upd_same, ?_, ?_⟩
      · rw [List.length_map, List.length_append, tells_len, List.length_take]
        exact Nat.le_trans (show 3 + 4 * min i s.kinds.length + 4 ≤ 1000 by omega) (by decide)
      · refine ⟨_, rfl, fun b o hb => ?_, ?_⟩
        · rw [upd_ne (ne_of_none hb hr0)]
          exact Same.new hq _ _ (s2 _ _ hb)
        · rw [upd_same, Sm.take_more hk]
          unfold tells
          rw [List.flatMap_append, ← List.append_assoc, List.map_append (l₂ := List.flatMap _ [k])]
          rfl
    · rintro σ H1 ⟨u, rfl, s2, hr1⟩
      rw [List.length_map, hK.len, List.take_length] at hr1
      have e := Sm.step_describe (s := s)
      refine ⟨_, rfl, ?_⟩
      exact hA.stays hS (st_same e).1 s2 hr0 hr1 (by rw [(st_same e).2]; rfl)
end
end Sb

/-! The calls, one behind another. -/
namespace Sb
open PySem PySem.Spec PyProof.Rows L2
open PySem.W (Codec)
theorem ints_at {zs : List Int} {i : Nat} {z : Int} (h : zs[i]? = some z) : (zs.map V.int)[i]? = some (V.int z) := by
  rw [List.getElem?_map, h]
  rfl
theorem cut_tail (a : V) (xs : List V) : cutV (a :: xs) (some (1 : Int)) none = xs := by
  have e : cutV (a :: xs) (some (1 : Int)) none = ((a :: xs).drop 1).take ((a :: xs).length - 1) := by
    unfold cutV HT.sIx
    simp only [List.length_cons]
    rw [if_neg (by omega)]
    have h : min (1 : Int).toNat (xs.length + 1) = 1 := by
      show min 1 (xs.length + 1) = 1
      omega
    rw [h]
  rw [e]
  show xs.take (xs.length + 1 - 1) = xs
  rw [Nat.add_sub_cancel, List.take_length]
section
variable {P : Program} {w : World} {K : PySem.W.Frag} {mg : Str → Option Value} {base : Heap} {CK CS : Addr}
/-- a call of the saw, by its number and its numbers -/
def spChange (CS CK : Addr) (lo hi : Int) : Sp := fun vs H Q _ => ∃ (p q : Addr) (fp : List Addr) (s : Sr111.Saw) (n : Int) (zs : List Int) (c : Sr111.Call), vs = [.ref p, .int n, .ref q] ∧ SawAt CS CK H p fp (some s) ∧ H q = some (.lst (zs.map V.int)) ∧ Sm.CallIs n zs c [] ∧ (lo ≤ n ∧ n ≤ hi) ∧ Ans CS CK H p fp (some s) c Q
abbrev s_answer_of_change : Stmt := top 65
theorem sc_answer_of_change : FnScope ["saw", "number", "parameters"] ["saw", "number", "parameters"] (defScope s_answer_of_change) := ⟨rfl, rfl, rfl, by decide +kernel, rfl, by decide +kernel, by decide +kernel⟩
theorem ok_answer_of_change {f : Addr} {fd : FuncData} (F : Fun K "answer_of_change" "answer_of_change" s_answer_of_change f fd) (T : Txt K mg CK CS) (c1 : MCal P w K mg base CS "add_kind" 3 ["self", "width", "height", "value", "may_turn"] (spOp4 CS CK .addKind)) (c2 : MCal P w K mg base CS "remove_kind" 2 ["self", "k"] (spOp1 CS CK .removeKind))
    (c3 : MCal P w K mg base CS "set_value" 2 ["self", "k", "value"] (spOp2 CS CK .setValue)) (c4 : MCal P w K mg base CS "set_may_turn" 2 ["self", "k", "may_turn"] (spOp2 CS CK .setMayTurn)) (c5 : MCal P w K mg base CS "set_slab" 2 ["self", "width", "height"] (spOp2 CS CK .setSlab)) : FnOk P w K mg base CX0 4 f fd ["saw", "number", "parameters"] (spChange CS CK 1 5) := by
  obtain ⟨_, _, m_add_kind, b_add_kind, G_add_kind⟩ := c1.ex
  obtain ⟨_, _, m_remove_kind, b_remove_kind, G_remove_kind⟩ := c2.ex
  obtain ⟨_, _, m_set_value, b_set_value, G_set_value⟩ := c3.ex
  obtain ⟨_, _, m_set_may_turn, b_set_may_turn, G_set_may_turn⟩ := c4.ex
  obtain ⟨_, _, m_set_slab, b_set_slab, G_set_slab⟩ := c5.ex
  refine F.ok sc_answer_of_change (fun vs H Q E h => ?_) (fun cdv A outer s H vs Q E hr h => ?_)
  · obtain ⟨p, q, fp, s, n, zs, c, rfl, _⟩ := h
    rfl
  · obtain ⟨p, q, fp, s, n, zs, c, rfl, hS, hq, hc, hn, hA⟩ := h
    refine ⟨_, (pss_cons (ps_if (pt_cmpR op_eq (pv 1) (pe_k (by rfl) T.k_ADD_KIND) (nomark _))
    (pss_one (ps_ret (pe_meth (pv 0) T.cl_Saw m_add_kind G_add_kind (hr.mono (by decide)) b_add_kind .nil pass0 (pa_cons (pe_ix ix_list (pv 2) pe_int (fun _ _ => rfl)) (pa_cons (pe_ix ix_list (pv 2) pe_int (fun _ _ => rfl)) (pa_cons (pe_ix ix_list (pv 2) pe_int (fun _ _ => rfl)) (pa_cons (pe_ix ix_list (pv 2) pe_int (fun _ _ => rfl)) pa_nil))))))) pss_nil)
  (pss_cons (ps_if (pt_cmpR op_eq (pv 1) (pe_k (by rfl) T.k_REMOVE_KIND) (nomark _))
    (pss_one (ps_ret (pe_meth (pv 0) T.cl_Saw m_remove_kind G_remove_kind (hr.mono (by decide)) b_remove_kind .nil pass0 (pa_cons (pe_ix ix_list (pv 2) pe_int (fun _ _ => rfl)) pa_nil)))) pss_nil)
  (pss_cons (ps_if (pt_cmpR op_eq (pv 1) (pe_k (by rfl) T.k_SET_VALUE) (nomark _))
    (pss_one (ps_ret (pe_meth (pv 0) T.cl_Saw m_set_value G_set_value (hr.mono (by decide)) b_set_value .nil pass0 (pa_cons (pe_ix ix_list (pv 2) pe_int (fun _ _ => rfl)) (pa_cons (pe_ix ix_list (pv 2) pe_int (fun _ _ => rfl)) pa_nil))))) pss_nil)
  (pss_cons (ps_if (pt_cmpR op_eq (pv 1) (pe_k (by rfl) T.k_SET_MAY_TURN) (nomark _))
    (pss_one (ps_ret (pe_meth (pv 0) T.cl_Saw m_set_may_turn G_set_may_turn (hr.mono (by decide)) b_set_may_turn .nil pass0 (pa_cons (pe_ix ix_list (pv 2) pe_int (fun _ _ => rfl)) (pa_cons (pe_ix ix_list (pv 2) pe_int (fun _ _ => rfl)) pa_nil))))) pss_nil)
  (pss_one (ps_ret (pe_meth (pv 0) T.cl_Saw m_set_slab G_set_slab (hr.mono (by decide)) b_set_slab .nil pass0 (pa_cons (pe_ix ix_list (pv 2) pe_int (fun _ _ => rfl)) (pa_cons (pe_ix ix_list (pv 2) pe_int (fun _ _ => rfl)) pa_nil))))))))), ?_⟩
    obtain ⟨dx, l, as, rfl, hp, hK, hF⟩ := id hS
    cases hc with
    | addKind a b c d t =>
      refine ⟨_, rfl, rfl, _, rfl, ifT rfl ?_⟩
      refine ⟨_, rfl, p, dx, _, rfl, hp, sF_no (by decide +kernel) (by decide +kernel) (by decide +kernel) (by decide +kernel), ?_⟩
      refine ⟨_, rfl, q, _, 0, _, rfl, rfl, SqL.of hq, rfl, _, rfl, q, _, 1, _, rfl, rfl, SqL.of hq, rfl, _, rfl, q, _, 2, _, rfl, rfl, SqL.of hq, rfl, _, rfl, q, _, 3, _, rfl, rfl, SqL.of hq, rfl, ?_⟩
      exact ⟨p, _, s, a, b, c, d, rfl, hS, hA⟩
    | removeKind a t =>
      refine ⟨_, rfl, rfl, _, rfl, ifF rfl ⟨_, rfl, rfl, _, rfl, ifT rfl ?_⟩⟩
      refine ⟨_, rfl, p, dx, _, rfl, hp, sF_no (by decide +kernel) (by decide +kernel) (by decide +kernel) (by decide +kernel), ?_⟩
      refine ⟨_, rfl, q, _, 0, _, rfl, rfl, SqL.of hq, rfl, ?_⟩
      exact ⟨p, _, s, a, rfl, hS, hA⟩
    | setValue a b t =>
      refine ⟨_, rfl, rfl, _, rfl, ifF rfl ⟨_, rfl, rfl, _, rfl, ifF rfl ⟨_, rfl, rfl, _, rfl, ifT rfl ?_⟩⟩⟩
      refine ⟨_, rfl, p, dx, _, rfl, hp, sF_no (by decide +kernel) (by decide +kernel) (by decide +kernel) (by decide +kernel), ?_⟩
      refine ⟨_, rfl, q, _, 0, _, rfl, rfl, SqL.of hq, rfl, _, rfl, q, _, 1, _, rfl, rfl, SqL.of hq, rfl, ?_⟩
      exact ⟨p, _, s, a, b, rfl, hS, hA⟩
    | setMayTurn a b t =>
      refine ⟨_, rfl, rfl, _, rfl, ifF rfl ⟨_, rfl, rfl, _, rfl, ifF rfl ⟨_, rfl, rfl, _, rfl, ifF rfl ⟨_, rfl, rfl, _, rfl, ifT rfl ?_⟩⟩⟩⟩
      refine ⟨_, rfl, p, dx, _, rfl, hp, sF_no (by decide +kernel) (by decide +kernel) (by decide +kernel) (by decide +kernel), ?_⟩
      refine ⟨_, rfl, q, _, 0, _, rfl, rfl, SqL.of hq, rfl, _, rfl, q, _, 1, _, rfl, rfl, SqL.of hq, rfl, ?_⟩
      exact ⟨p, _, s, a, b, rfl, hS, hA⟩
    | setSlab a b t =>
      refine ⟨_, rfl, rfl, _, rfl, ifF rfl ⟨_, rfl, rfl, _, rfl, ifF rfl ⟨_, rfl, rfl, _, rfl, ifF rfl ⟨_, rfl, rfl, _, rfl, ifF rfl ?_⟩⟩⟩⟩
      refine ⟨_, rfl, p, dx, _, rfl, hp, sF_no (by decide +kernel) (by decide +kernel) (by decide +kernel) (by decide +kernel), ?_⟩
      refine ⟨_, rfl, q, _, 0, _, rfl, rfl, SqL.of hq, rfl, _, rfl, q, _, 1, _, rfl, rfl, SqL.of hq, rfl, ?_⟩
      exact ⟨p, _, s, a, b, rfl, hS, hA⟩
    | _ => exfalso; omega
/-- a call that changes nothing, with which nothing is handed in -/
abbrev s_answer_of_plain_query : Stmt := top 66
theorem sc_answer_of_plain_query : FnScope ["saw", "number"] ["saw", "number"] (defScope s_answer_of_plain_query) := ⟨rfl, rfl, rfl, by decide +kernel, rfl, by decide +kernel, by decide +kernel⟩
def spPlain (CS CK : Addr) : Sp := fun vs H Q _ => ∃ (p : Addr) (fp : List Addr) (s : Sr111.Saw) (n : Int) (c : Sr111.Call), vs = [.ref p, .int n] ∧ SawAt CS CK H p fp (some s) ∧ Sm.CallIs n [] c [] ∧ Ans CS CK H p fp (some s) c Q
theorem ok_answer_of_plain_query {f : Addr} {fd : FuncData} (F : Fun K "answer_of_plain_query" "answer_of_plain_query" s_answer_of_plain_query f fd) (T : Txt K mg CK CS) (c1 : MCal P w K mg base CS "max_value" 5 ["self"] (spMax CS CK)) (c2 : MCal P w K mg base CS "best_pattern" 6 ["self"] (spOp0 CS CK .bestPattern))
    (c3 : MCal P w K mg base CS "stone_counts" 6 ["self"] (spOp0 CS CK .stoneCounts)) (c4 : MCal P w K mg base CS "waste_area" 6 ["self"] (spOp0 CS CK .wasteArea)) (c5 : MCal P w K mg base CS "describe" 1 ["self"] (spOp0 CS CK .describe)) : FnOk P w K mg base CX0 7 f fd ["saw", "number"] (spPlain CS CK) := by
  obtain ⟨_, _, m_max_value, b_max_value, G_max_value⟩ := c1.ex
  obtain ⟨_, _, m_best_pattern, b_best_pattern, G_best_pattern⟩ := c2.ex
  obtain ⟨_, _, m_stone_counts, b_stone_counts, G_stone_counts⟩ := c3.ex
  obtain ⟨_, _, m_waste_area, b_waste_area, G_waste_area⟩ := c4.ex
  obtain ⟨_, _, m_describe, b_describe, G_describe⟩ := c5.ex
  refine F.ok sc_answer_of_plain_query (fun vs H Q E h => ?_) (fun cdv A outer s H vs Q E hr h => ?_)
  · obtain ⟨p, fp, s, n, c, rfl, _⟩ := h
    rfl
  · obtain ⟨p, fp, s, n, c, rfl, hS, hc, hA⟩ := h
    refine ⟨_, (pss_cons (ps_if (pt_cmpR op_eq (pv 1) (pe_k (by rfl) T.k_MAX_VALUE) (nomark _))
    (pss_one (ps_ret (pe_meth0 (pv 0) T.cl_Saw m_max_value G_max_value (hr.mono (by decide)) b_max_value .nil pass0))) pss_nil)
  (pss_cons (ps_if (pt_cmpR op_eq (pv 1) (pe_k (by rfl) T.k_BEST_PATTERN) (nomark _))
    (pss_one (ps_ret (pe_meth0 (pv 0) T.cl_Saw m_best_pattern G_best_pattern (hr.mono (by decide)) b_best_pattern .nil pass0))) pss_nil)
  (pss_cons (ps_if (pt_cmpR op_eq (pv 1) (pe_k (by rfl) T.k_STONE_COUNTS) (nomark _))
    (pss_one (ps_ret (pe_meth0 (pv 0) T.cl_Saw m_stone_counts G_stone_counts (hr.mono (by decide)) b_stone_counts .nil pass0))) pss_nil)
  (pss_cons (ps_if (pt_cmpR op_eq (pv 1) (pe_k (by rfl) T.k_WASTE_AREA) (nomark _))
    (pss_one (ps_ret (pe_meth0 (pv 0) T.cl_Saw m_waste_area G_waste_area (hr.mono (by decide)) b_waste_area .nil pass0))) pss_nil)
  (pss_one (ps_ret (pe_meth0 (pv 0) T.cl_Saw m_describe G_describe (hr.mono (by decide)) b_describe .nil pass0))))))), ?_⟩
    obtain ⟨dx, l, as, rfl, hp, hK, hF⟩ := id hS
    cases hc with
    | maxValue t =>
      refine ⟨_, rfl, rfl, _, rfl, ifT rfl ?_⟩
      refine ⟨_, rfl, p, dx, _, rfl, hp, sF_no (by decide +kernel) (by decide +kernel) (by decide +kernel) (by decide +kernel), ?_⟩
      refine ⟨p, _, s, rfl, hS, fun r H' s1 hr0 hr1 => ?_⟩
      have e := Sm.step_max (s := s) hF
      exact hA.stays hS (st_same e).1 s1 hr0 hr1 (by rw [(st_same e).2]; rfl)
    | bestPattern t =>
      refine ⟨_, rfl, rfl, _, rfl, ifF rfl ⟨_, rfl, rfl, _, rfl, ifT rfl ?_⟩⟩
      refine ⟨_, rfl, p, dx, _, rfl, hp, sF_no (by decide +kernel) (by decide +kernel) (by decide +kernel) (by decide +kernel), ?_⟩
      exact ⟨p, _, s, rfl, hS, hA⟩
    | stoneCounts t =>
      refine ⟨_, rfl, rfl, _, rfl, ifF rfl ⟨_, rfl, rfl, _, rfl, ifF rfl ⟨_, rfl, rfl, _, rfl, ifT rfl ?_⟩⟩⟩
      refine ⟨_, rfl, p, dx, _, rfl, hp, sF_no (by decide +kernel) (by decide +kernel) (by decide +kernel) (by decide +kernel), ?_⟩
      exact ⟨p, _, s, rfl, hS, hA⟩
    | wasteArea t =>
      refine ⟨_, rfl, rfl, _, rfl, ifF rfl ⟨_, rfl, rfl, _, rfl, ifF rfl ⟨_, rfl, rfl, _, rfl, ifF rfl ⟨_, rfl, rfl, _, rfl, ifT rfl ?_⟩⟩⟩⟩
      refine ⟨_, rfl, p, dx, _, rfl, hp, sF_no (by decide +kernel) (by decide +kernel) (by decide +kernel) (by decide +kernel), ?_⟩
      exact ⟨p, _, s, rfl, hS, hA⟩
    | describe t =>
      refine ⟨_, rfl, rfl, _, rfl, ifF rfl ⟨_, rfl, rfl, _, rfl, ifF rfl ⟨_, rfl, rfl, _, rfl, ifF rfl ⟨_, rfl, rfl, _, rfl, ifF rfl ?_⟩⟩⟩⟩
      refine ⟨_, rfl, p, dx, _, rfl, hp, sF_no (by decide +kernel) (by decide +kernel) (by decide +kernel) (by decide +kernel), ?_⟩
      exact ⟨p, _, s, rfl, hS, hA⟩
/-- a call that changes nothing, with which something is handed in -/
abbrev s_answer_of_query : Stmt := top 67
theorem sc_answer_of_query : FnScope ["saw", "number", "parameters"] ["saw", "number", "parameters"] (defScope s_answer_of_query) := ⟨rfl, rfl, rfl, by decide +kernel, rfl, by decide +kernel, by decide +kernel⟩
def spQuery (CS CK : Addr) : Sp := fun vs H Q _ => ∃ (p q : Addr) (fp : List Addr) (s : Sr111.Saw) (n : Int) (zs : List Int) (c : Sr111.Call), vs = [.ref p, .int n, .ref q] ∧ SawAt CS CK H p fp (some s) ∧ H q = some (.lst (zs.map V.int)) ∧ Sm.CallIs n zs c [] ∧ 6 ≤ n ∧ zs ≠ [] ∧ Ans CS CK H p fp (some s) c Q
theorem ok_answer_of_query {f : Addr} {fd : FuncData} (F : Fun K "answer_of_query" "answer_of_query" s_answer_of_query f fd) (T : Txt K mg CK CS) (c1 : MCal P w K mg base CS "max_value_of" 5 ["self", "x", "y"] (spOp2 CS CK .maxValueOf)) (c2 : MCal P w K mg base CS "check_pattern" 4 ["self", "pattern"] (spCheck CS CK))
    (c3 : MCal P w K mg base CS "values_for_height" 4 ["self", "y"] (spOp1 CS CK .valuesForHeight)) (c4 : MCal P w K mg base CS "max_value_without" 5 ["self", "k"] (spOp1 CS CK .maxValueWithout)) (c5 : MCal P w K mg base CS "max_value_if_value" 5 ["self", "k", "value"] (spOp2 CS CK .maxValueIfValue)) (c6 : MCal P w K mg base CS "min_height" 4 ["self", "value"] (spOp1 CS CK .minHeight)) :
    FnOk P w K mg base CX0 6 f fd ["saw", "number", "parameters"] (spQuery CS CK) := by
  obtain ⟨_, _, m_max_value_of, b_max_value_of, G_max_value_of⟩ := c1.ex
  obtain ⟨_, _, m_check_pattern, b_check_pattern, G_check_pattern⟩ := c2.ex
  obtain ⟨_, _, m_values_for_height, b_values_for_height, G_values_for_height⟩ := c3.ex
  obtain ⟨_, _, m_max_value_without, b_max_value_without, G_max_value_without⟩ := c4.ex
  obtain ⟨_, _, m_max_value_if_value, b_max_value_if_value, G_max_value_if_value⟩ := c5.ex
  obtain ⟨_, _, m_min_height, b_min_height, G_min_height⟩ := c6.ex
  refine F.ok sc_answer_of_query (fun vs H Q E h => ?_) (fun cdv A outer s H vs Q E hr h => ?_)
  · obtain ⟨p, q, fp, s, n, zs, c, rfl, _⟩ := h
    rfl
  · obtain ⟨p, q, fp, s, n, zs, c, rfl, hS, hq, hc, hn, hz, hA⟩ := h
    refine ⟨_, (pss_cons (ps_if (pt_cmpR op_eq (pv 1) (pe_k (by rfl) T.k_MAX_VALUE_OF) (nomark _))
    (pss_one (ps_ret (pe_meth (pv 0) T.cl_Saw m_max_value_of G_max_value_of (hr.mono (by decide)) b_max_value_of .nil pass0 (pa_cons (pe_ix ix_list (pv 2) pe_int (fun _ _ => rfl)) (pa_cons (pe_ix ix_list (pv 2) pe_int (fun _ _ => rfl)) pa_nil))))) pss_nil)
  (pss_cons (ps_if (pt_cmpR op_eq (pv 1) (pe_k (by rfl) T.k_CHECK_PATTERN) (nomark _))
    (pss_one (ps_ret (pe_meth (pv 0) T.cl_Saw m_check_pattern G_check_pattern (hr.mono (by decide)) b_check_pattern .nil pass0 (pa_cons (pe_slice sl_list (pv 2) (po_some pe_int) po_none) pa_nil)))) pss_nil)
  (pss_cons (ps_if (pt_cmpR op_eq (pv 1) (pe_k (by rfl) T.k_VALUES_FOR_HEIGHT) (nomark _))
    (pss_one (ps_ret (pe_meth (pv 0) T.cl_Saw m_values_for_height G_values_for_height (hr.mono (by decide)) b_values_for_height .nil pass0 (pa_cons (pe_ix ix_list (pv 2) pe_int (fun _ _ => rfl)) pa_nil)))) pss_nil)
  (pss_cons (ps_if (pt_cmpR op_eq (pv 1) (pe_k (by rfl) T.k_MAX_VALUE_WITHOUT) (nomark _))
    (pss_one (ps_ret (pe_meth (pv 0) T.cl_Saw m_max_value_without G_max_value_without (hr.mono (by decide)) b_max_value_without .nil pass0 (pa_cons (pe_ix ix_list (pv 2) pe_int (fun _ _ => rfl)) pa_nil)))) pss_nil)
  (pss_cons (ps_if (pt_cmpR op_eq (pv 1) (pe_k (by rfl) T.k_MAX_VALUE_IF_VALUE) (nomark _))
    (pss_one (ps_ret (pe_meth (pv 0) T.cl_Saw m_max_value_if_value G_max_value_if_value (hr.mono (by decide)) b_max_value_if_value .nil pass0 (pa_cons (pe_ix ix_list (pv 2) pe_int (fun _ _ => rfl)) (pa_cons (pe_ix ix_list (pv 2) pe_int (fun _ _ => rfl)) pa_nil))))) pss_nil)
  (pss_one (ps_ret (pe_meth (pv 0) T.cl_Saw m_min_height G_min_height (hr.mono (by decide)) b_min_height .nil pass0 (pa_cons (pe_ix ix_list (pv 2) pe_int (fun _ _ => rfl)) pa_nil))))))))), ?_⟩
    obtain ⟨dx, l, as, rfl, hp, hK, hF⟩ := id hS
    cases hc with
    | maxValueOf a b t =>
      refine ⟨_, rfl, rfl, _, rfl, ifT rfl ?_⟩
      refine ⟨_, rfl, p, dx, _, rfl, hp, sF_no (by decide +kernel) (by decide +kernel) (by decide +kernel) (by decide +kernel), ?_⟩
      refine ⟨_, rfl, q, _, 0, _, rfl, rfl, SqL.of hq, rfl, _, rfl, q, _, 1, _, rfl, rfl, SqL.of hq, rfl, ?_⟩
      exact ⟨p, _, s, a, b, rfl, hS, hA⟩
    | checkPattern x t h =>
      refine ⟨_, rfl, rfl, _, rfl, ifF rfl ⟨_, rfl, rfl, _, rfl, ifT rfl ?_⟩⟩
      refine ⟨_, rfl, p, dx, _, rfl, hp, sF_no (by decide +kernel) (by decide +kernel) (by decide +kernel) (by decide +kernel), ?_⟩
      refine ⟨_, rfl, _, rfl, q, _, rfl, SqL.of hq, fun y hy => ?_⟩
      have ecut : cutV (List.map V.int ((x.length : Int) :: (x ++ []))) (some (1 : Int)) none = x.map V.int := by
        rw [List.append_nil, List.map_cons, cut_tail]
      have sy := Same.new (o := .lst (cutV (List.map V.int ((x.length : Int) :: (x ++ []))) (some (1 : Int)) none)) hy
      refine ⟨p, y, _, s, x, rfl, hS.same sy, by rw [← ecut]; exact upd_same, by omega, ?_⟩
      intro r H' fp' h1 h2 h3 h4 h5
      exact hA r H' fp' h1 (fun b hb => (h2 b hb).imp id fun z => sy.free z) (fun b o hb hn => h3 b o (sy _ _ hb) hn) (sy.free h4) h5
    | valuesForHeight a t =>
      refine ⟨_, rfl, rfl, _, rfl, ifF rfl ⟨_, rfl, rfl, _, rfl, ifF rfl ⟨_, rfl, rfl, _, rfl, ifT rfl ?_⟩⟩⟩
      refine ⟨_, rfl, p, dx, _, rfl, hp, sF_no (by decide +kernel) (by decide +kernel) (by decide +kernel) (by decide +kernel), ?_⟩
      refine ⟨_, rfl, q, _, 0, _, rfl, rfl, SqL.of hq, rfl, ?_⟩
      exact ⟨p, _, s, a, rfl, hS, hA⟩
    | maxValueWithout a t =>
      refine ⟨_, rfl, rfl, _, rfl, ifF rfl ⟨_, rfl, rfl, _, rfl, ifF rfl ⟨_, rfl, rfl, _, rfl, ifF rfl ⟨_, rfl, rfl, _, rfl, ifT rfl ?_⟩⟩⟩⟩
      refine ⟨_, rfl, p, dx, _, rfl, hp, sF_no (by decide +kernel) (by decide +kernel) (by decide +kernel) (by decide +kernel), ?_⟩
      refine ⟨_, rfl, q, _, 0, _, rfl, rfl, SqL.of hq, rfl, ?_⟩
      exact ⟨p, _, s, a, rfl, hS, hA⟩
    | maxValueIfValue a b t =>
      refine ⟨_, rfl, rfl, _, rfl, ifF rfl ⟨_, rfl, rfl, _, rfl, ifF rfl ⟨_, rfl, rfl, _, rfl, ifF rfl ⟨_, rfl, rfl, _, rfl, ifF rfl ⟨_, rfl, rfl, _, rfl, ifT rfl ?_⟩⟩⟩⟩⟩
      refine ⟨_, rfl, p, dx, _, rfl, hp, sF_no (by decide +kernel) (by decide +kernel) (by decide +kernel) (by decide +kernel), ?_⟩
      refine ⟨_, rfl, q, _, 0, _, rfl, rfl, SqL.of hq, rfl, _, rfl, q, _, 1, _, rfl, rfl, SqL.of hq, rfl, ?_⟩
      exact ⟨p, _, s, a, b, rfl, hS, hA⟩
    | minHeight a t =>
      refine ⟨_, rfl, rfl, _, rfl, ifF rfl ⟨_, rfl, rfl, _, rfl, ifF rfl ⟨_, rfl, rfl, _, rfl, ifF rfl ⟨_, rfl, rfl, _, rfl, ifF rfl ⟨_, rfl, rfl, _, rfl, ifF rfl ?_⟩⟩⟩⟩⟩
      refine ⟨_, rfl, p, dx, _, rfl, hp, sF_no (by decide +kernel) (by decide +kernel) (by decide +kernel) (by decide +kernel), ?_⟩
      refine ⟨_, rfl, q, _, 0, _, rfl, rfl, SqL.of hq, rfl, ?_⟩
      exact ⟨p, _, s, a, rfl, hS, hA⟩
    | _ => first | (exfalso; omega) | exact absurd rfl hz
/-- any call -/
def spAny (CS CK : Addr) : Sp := fun vs H Q _ => ∃ (p q : Addr) (fp : List Addr) (st : Sr111.State) (n : Int) (zs : List Int) (c : Sr111.Call), vs = [.ref p, .int n, .ref q] ∧ SawAt CS CK H p fp st ∧ H q = some (.lst (zs.map V.int)) ∧ Sm.CallIs n zs c [] ∧ Ans CS CK H p fp st c Q
theorem calls_range {n : Int} {r : List Int} {c : Sr111.Call} {t : List Int} (h : Sm.CallIs n r c t) : 0 ≤ n ∧ n ≤ 16 := by
  cases h <;> exact ⟨by decide, by decide⟩
theorem calls_not_create {n : Int} {r : List Int} {c : Sr111.Call} {t : List Int} (h : Sm.CallIs n r c t) (h0 : n ≠ 0) : ∀ a b, c ≠ .create a b := by
  cases h <;> first | exact absurd rfl h0 | (intro a b e; cases e)
abbrev s_answer_of : Stmt := top 64
theorem sc_answer_of : FnScope ["saw", "number", "parameters"] ["saw", "number", "parameters"] (defScope s_answer_of) := ⟨rfl, rfl, rfl, by decide +kernel, rfl, by decide +kernel, by decide +kernel⟩
theorem ok_answer_of {f : Addr} {fd : FuncData} (F : Fun K "answer_of" "answer_of" s_answer_of f fd) (T : Txt K mg CK CS) (c1 : MCal P w K mg base CS "create" 2 ["self", "width", "height"] (spCreate CS CK)) (c2 : Cal P w K mg base "answer_of_change" 4 ["saw", "number", "parameters"] (spChange CS CK 1 5))
    (c3 : Cal P w K mg base "answer_of_query" 6 ["saw", "number", "parameters"] (spQuery CS CK)) (c4 : Cal P w K mg base "answer_of_plain_query" 7 ["saw", "number"] (spPlain CS CK)) : FnOk P w K mg base CX0 8 f fd ["saw", "number", "parameters"] (spAny CS CK) := by
  obtain ⟨_, _, m_create, b_create, G_create⟩ := c1.ex
  obtain ⟨_, _, m_answer_of_change, kp_answer_of_change, b_answer_of_change, G_answer_of_change⟩ := c2.ex
  obtain ⟨_, _, m_answer_of_query, kp_answer_of_query, b_answer_of_query, G_answer_of_query⟩ := c3.ex
  obtain ⟨_, _, m_answer_of_plain_query, kp_answer_of_plain_query, b_answer_of_plain_query, G_answer_of_plain_query⟩ := c4.ex
  refine F.ok sc_answer_of (fun vs H Q E h => ?_) (fun cdv A outer s H vs Q E hr h => ?_)
  · obtain ⟨p, q, fp, s, n, zs, c, rfl, _⟩ := h
    rfl
  · obtain ⟨p, q, fp, st, n, zs, c, rfl, hS, hq, hc, hA⟩ := h
    refine ⟨_, (pss_cons (ps_if (pt_cmpR op_eq (pv 1) (pe_k (by rfl) T.k_CREATE) (nomark _))
    (pss_one (ps_ret (pe_meth (pv 0) T.cl_Saw m_create G_create (hr.mono (by decide)) b_create .nil pass0 (pa_cons (pe_ix ix_list (pv 2) pe_int (fun _ _ => rfl)) (pa_cons (pe_ix ix_list (pv 2) pe_int (fun _ _ => rfl)) pa_nil))))) pss_nil)
  (pss_cons (ps_if (pt_not (pt_val (pe_fld (pv 0) rfl)))
    (pss_one (ps_ret (pe_lst (pa_cons (pe_k (by rfl) T.k_NO_INSTANCE) pa_nil)))) pss_nil)
  (pss_cons (ps_if (pt_cmpR op_le (pv 1) (pe_k (by rfl) T.k_SET_SLAB) (nomark _))
    (pss_one (ps_ret (pe_call G_answer_of_change (hr.mono (by decide)) (by rfl) m_answer_of_change kp_answer_of_change b_answer_of_change .nil pass0 (pa_cons (pv 0) (pa_cons (pv 1) (pa_cons (pv 2) pa_nil)))))) pss_nil)
  (pss_cons (ps_if (pt_cmpR op_eq (pe_callB call_len_seq (by rfl) T.b_len PySem.boot_len (pa_cons (pv 2) pa_nil)) pe_int (nomark _))
    (pss_one (ps_ret (pe_call G_answer_of_plain_query (hr.mono (by decide)) (by rfl) m_answer_of_plain_query kp_answer_of_plain_query b_answer_of_plain_query .nil pass0 (pa_cons (pv 0) (pa_cons (pv 1) pa_nil))))) pss_nil)
  (pss_one (ps_ret (pe_call G_answer_of_query (hr.mono (by decide)) (by rfl) m_answer_of_query kp_answer_of_query b_answer_of_query .nil pass0 (pa_cons (pv 0) (pa_cons (pv 1) (pa_cons (pv 2) pa_nil)))))))))), ?_⟩
    obtain ⟨_, dx, ex, W0, H0, l, hp⟩ := hS.self
    by_cases h0 : n = 0
    · subst h0
      refine ⟨_, rfl, rfl, _, rfl, ifT rfl ?_⟩
      cases hc with
      | create a b t =>
        refine ⟨_, rfl, p, dx, _, rfl, hp, sF_no (by decide +kernel) (by decide +kernel) (by decide +kernel) (by decide +kernel), ?_⟩
        refine ⟨_, rfl, q, _, 0, _, rfl, rfl, SqL.of hq, rfl, _, rfl, q, _, 1, _, rfl, rfl, SqL.of hq, rfl, ?_⟩
        exact ⟨p, _, st, a, b, rfl, hS, hA⟩
    · refine ⟨_, rfl, rfl, _, rfl, ifF (decide_eq_false (fun z => h0 (V.int.inj z))) ?_⟩
      have hrange := calls_range hc
      cases st with
      | none =>
        obtain ⟨rfl, dx, W0, H0, l, hp⟩ := id hS
        refine ⟨_, rfl, p, CS, dx, _, _, rfl, hp, T.cl_Saw, T.s_exists, sF_exists, _, rfl, ifT rfl ⟨by decide, fun r hr0 => ?_⟩⟩
        have e := Sm.step_none (calls_not_create hc h0)
        exact hA.stays hS (by unfold nxt; rw [e]) (Same.new hr0) hr0 upd_same (by unfold out; rw [e]; rfl)
      | some s =>
        obtain ⟨dx, l, as, rfl, hp, hK, hF⟩ := id hS
        refine ⟨_, rfl, p, CS, dx, _, _, rfl, hp, T.cl_Saw, T.s_exists, sF_exists, _, rfl, ifF rfl ?_⟩
        refine ⟨_, rfl, _, _, rfl, rfl, _, rfl, ?_⟩
        by_cases h5 : n ≤ 5
        · refine ifT (decide_eq_true h5) ?_
          exact ⟨_, rfl, _, rfl, _, rfl, p, q, _, s, n, zs, c, rfl, hS, hq, hc, by omega, hA⟩
        · refine ifF (decide_eq_false h5) ?_
          refine ⟨_, rfl, q, _, rfl, .inl (SqL.of hq), rfl, _, rfl, ?_⟩
          cases zs with
          | nil =>
            refine ifT rfl ?_
            exact ⟨_, rfl, _, rfl, p, _, s, n, c, rfl, hS, hc, hA⟩
          | cons z zs =>
            refine ifF (decide_eq_false (fun h => ?_)) ?_
            · have := V.int.inj h
              rw [List.length_map, List.length_cons] at this
              omega
            · exact ⟨_, rfl, _, rfl, _, rfl, p, q, _, s, n, z :: zs, c, rfl, hS, hq, hc, by omega, by simp, hA⟩
end
end Sb

/-! answers: the loop over the calls. -/
namespace Sb
open PySem PySem.Spec PyProof.Rows L2
open PySem.W (Codec)
theorem plain_call {n : Int} {r : List Int} {c : Sr111.Call} {t : List Int} (h : Sm.CallIs n r c t) : ∃ zs, r = zs ++ t ∧ Sm.CallIs n zs c [] ∧
    ((n ≠ 11 ∧ ([2, 4, 1, 2, 2, 2, 0, 2, 0, 0, 0, 1, 1, 1, 2, 1, 0] : List Int)[n.toNat]? = some (zs.length : Int)) ∨ (n = 11 ∧ ∃ (m : Nat) (x : List Int), zs = (m : Int) :: x ∧ zs.length = 1 + m)) := by
  cases h with
  | create a b t => exact ⟨[a, b], rfl, .create a b [], .inl ⟨by decide, rfl⟩⟩
  | addKind a b c d t => exact ⟨[a, b, c, d], rfl, .addKind a b c d [], .inl ⟨by decide, rfl⟩⟩
  | removeKind a t => exact ⟨[a], rfl, .removeKind a [], .inl ⟨by decide, rfl⟩⟩
  | setValue a b t => exact ⟨[a, b], rfl, .setValue a b [], .inl ⟨by decide, rfl⟩⟩
  | setMayTurn a b t => exact ⟨[a, b], rfl, .setMayTurn a b [], .inl ⟨by decide, rfl⟩⟩
  | setSlab a b t => exact ⟨[a, b], rfl, .setSlab a b [], .inl ⟨by decide, rfl⟩⟩
  | maxValue t => exact ⟨[], rfl, .maxValue [], .inl ⟨by decide, rfl⟩⟩
  | maxValueOf a b t => exact ⟨[a, b], rfl, .maxValueOf a b [], .inl ⟨by decide, rfl⟩⟩
  | bestPattern t => exact ⟨[], rfl, .bestPattern [], .inl ⟨by decide, rfl⟩⟩
  | stoneCounts t => exact ⟨[], rfl, .stoneCounts [], .inl ⟨by decide, rfl⟩⟩
  | wasteArea t => exact ⟨[], rfl, .wasteArea [], .inl ⟨by decide, rfl⟩⟩
  | checkPattern x t h => exact ⟨(x.length : Int) :: (x ++ []), by simp, .checkPattern x [] h, .inr ⟨rfl, x.length, x ++ [], rfl, by simp; omega⟩⟩
  | valuesForHeight a t => exact ⟨[a], rfl, .valuesForHeight a [], .inl ⟨by decide, rfl⟩⟩
  | maxValueWithout a t => exact ⟨[a], rfl, .maxValueWithout a [], .inl ⟨by decide, rfl⟩⟩
  | maxValueIfValue a b t => exact ⟨[a, b], rfl, .maxValueIfValue a b [], .inl ⟨by decide, rfl⟩⟩
  | minHeight a t => exact ⟨[a], rfl, .minHeight a [], .inl ⟨by decide, rfl⟩⟩
  | describe t => exact ⟨[], rfl, .describe [], .inl ⟨by decide, rfl⟩⟩
theorem slice_is {ns : List Int} {pl : Nat} {n : Int} {zs t : List Int} (h : ns.drop pl = n :: (zs ++ t)) : cutV (ns.map V.int) (some ((pl + 1 : Nat) : Int)) (some ((pl + 1 + zs.length : Nat) : Int)) = zs.map V.int := by
  have hl := congrArg List.length h
  rw [List.length_drop, List.length_cons, List.length_append] at hl
  unfold cutV
  rw [HT.sIx_nat, HT.sIx_nat, List.length_map, Nat.min_eq_left (by omega), Nat.min_eq_left (by omega)]
  have e1 : (ns.map V.int).drop (pl + 1) = (zs ++ t).map V.int := by
    rw [← List.map_drop]
    have : ns.drop (pl + 1) = (ns.drop pl).drop 1 := by rw [List.drop_drop]
    rw [this, h]
    rfl
  rw [e1, List.map_append]
  have e2 : pl + 1 + zs.length - (pl + 1) = (zs.map V.int).length := by rw [List.length_map]; omega
  rw [e2, List.take_left]
/-- the saw's objects are there -/
theorem SawAt.live {CS CK : Addr} {H : Hp} {p : Addr} {fp : List Addr} : ∀ {st : Sr111.State}, SawAt CS CK H p fp st → ∀ b, b ∈ fp → H b ≠ none
  | none, ⟨e, dx, W0, H0, l, h⟩ => fun b hb => by
    rw [e, List.mem_singleton] at hb
    subst hb
    rw [h]
    intro z
    cases z
  | some _, ⟨dx, l, as, e, h, k, f⟩ => fun b hb => by
    rw [e] at hb
    simp only [List.mem_cons] at hb
    rcases hb with rfl | rfl | hb
    · rw [h]; intro z; cases z
    · rw [k.lst]; intro z; cases z
    · obtain ⟨j, hj, ej⟩ := List.getElem_of_mem hb
      obtain ⟨q, hq, d2, h3⟩ := k.get (List.getElem?_eq_getElem hj)
      rw [ej] at h3
      rw [h3]
      intro z
      cases z
section
variable {P : Program} {w : World} {K : PySem.W.Frag} {mg : Str → Option Value} {base : Heap} {CK CS : Addr}
/-! ### parameters_at -/
abbrev s_parameters_at : Stmt := top 63
theorem sc_parameters_at : FnScope ["calls", "place", "number", "start", "end"] ["calls", "place"] (defScope s_parameters_at) := ⟨rfl, rfl, rfl, by decide +kernel, rfl, by decide +kernel, by decide +kernel⟩
def spParAt (K : PySem.W.Frag) : Sp := fun vs H Q _ => ∃ (a : Addr) (ns : List Int) (pl : Nat) (n : Int) (zs t : List Int) (c : Sr111.Call), vs = [.ref a, .int (pl : Int)] ∧ SqL K H a (ns.map V.int) ∧ ns.drop pl = n :: (zs ++ t) ∧ Sm.CallIs n zs c [] ∧
  ((n ≠ 11 ∧ ([2, 4, 1, 2, 2, 2, 0, 2, 0, 0, 0, 1, 1, 1, 2, 1, 0] : List Int)[n.toNat]? = some (zs.length : Int)) ∨ (n = 11 ∧ ∃ (m : Nat) (x : List Int), zs = (m : Int) :: x ∧ zs.length = 1 + m)) ∧
  ∀ (y : Addr) (H' : Hp), Same H H' → H y = none → H' y = some (.lst (zs.map V.int)) → Q (.ref y) H'
theorem ok_parameters_at {f : Addr} {fd : FuncData} (F : Fun K "parameters_at" "parameters_at" s_parameters_at f fd) (T : Txt K mg CK CS) : FnOk P w K mg base CX0 1 f fd ["calls", "place"] (spParAt K) := by
  obtain ⟨aP, k_PARAMETER_COUNTS, hP⟩ := T.k_PARAMETER_COUNTS
  refine F.ok sc_parameters_at (fun vs H Q E h => ?_) (fun cdv A outer s H vs Q E hr h => ?_)
  · obtain ⟨a, ns, pl, n, zs, t, c, rfl, _⟩ := h
    rfl
  · obtain ⟨a, ns, pl, n, zs, t, c, rfl, hS, hd, hc, hcnt, q⟩ := h
    refine ⟨_, (pss_cons (ps_set (i := 2) sc_parameters_at.nd rfl (Or.inl rfl) (pe_ix ix_list (pv 0) (pv 1) (fun _ _ => rfl)))
  (pss_cons (ps_set (i := 3) sc_parameters_at.nd rfl (Or.inl rfl) (pe_op op_add (pv 1) pe_int))
  (pss_cons (ps_set (i := 4) sc_parameters_at.nd rfl (Or.inl rfl) (pe_op op_add (pv 3) (pe_ix ix_tup (pe_glob (v := .ref aP) (by rfl) k_PARAMETER_COUNTS rfl) (pv 2) (fun _ _ => rfl))))
  (pss_cons (ps_if (pt_cmpR op_eq (pv 2) (pe_k (by rfl) T.k_CHECK_PATTERN) (nomark _))
    (pss_one (ps_aug (i := 4) sc_parameters_at.nd rfl (.inl rfl) (pe_ix ix_list (pv 0) (pv 3) (fun _ _ => rfl)) ip_add)) pss_nil)
  (pss_one (ps_ret (pe_slice sl_list (pv 0) (po_some (pv 3)) (po_some (pv 4))))))))), ?_⟩
    have hrange := calls_range hc
    have hn : ns[pl]? = some n := by
      have := congrArg (fun l => l[0]?) hd
      simpa using this
    have en : ((n.toNat : Nat) : Int) = n := by omega
    have es : cutV (ns.map V.int) (some ((pl : Int) + 1)) (some ((pl : Int) + 1 + (zs.length : Int))) = zs.map V.int := by
      have := slice_is hd
      rw [← this]
      congr 2
    refine ⟨_, rfl, _, rfl, a, _, _, _, rfl, rfl, hS, atI_nat (ints_at hn), ?_⟩
    refine ⟨_, rfl, _, _, rfl, rfl, ?_⟩
    rcases hcnt with ⟨h11, hcnt⟩ | ⟨rfl, m, x, rfl, hlen⟩
    · refine ⟨_, rfl, _, rfl, aP, _, _, .int (zs.length : Int), rfl, rfl, hP H, at_of en.symm (ints_at hcnt), _, _, rfl, rfl, ?_⟩
      refine ⟨_, rfl, rfl, _, rfl, ifF (decide_eq_false (fun z => h11 (V.int.inj z))) ?_⟩
      refine ⟨_, rfl, _, rfl, _, rfl, _, rfl, _, rfl, a, _, rfl, hS, fun y hy => ?_⟩
      refine q y _ (Same.new hy) hy ?_
      rw [upd_same]
      exact congrArg (fun z => some (HO.lst z)) es
    · have hm : ns[pl + 1]? = some (m : Int) := by
        have := congrArg (fun l => l[1]?) hd
        simpa using this
      refine ⟨_, rfl, _, rfl, aP, _, _, .int 1, rfl, rfl, hP H, rfl, _, _, rfl, rfl, ?_⟩
      refine ⟨_, rfl, rfl, _, rfl, ifT rfl ?_⟩
      refine ⟨_, rfl, _, rfl, _, rfl, a, _, _, .int (m : Int), rfl, rfl, hS, at_of (show (pl : Int) + 1 = ((pl + 1 : Nat) : Int) by omega) (ints_at hm), _, _, rfl, rfl, ?_⟩
      refine ⟨_, rfl, _, rfl, _, rfl, _, rfl, _, rfl, a, _, rfl, hS, fun y hy => ?_⟩
      refine q y _ (Same.new hy) hy ?_
      rw [upd_same]
      have e3 : (pl : Int) + 1 + (((m : Int) :: x).length : Int) = (pl : Int) + 1 + 1 + (m : Int) := by rw [hlen]; omega
      rw [e3] at es
      exact congrArg (fun z => some (HO.lst z)) es
/-! ### answers -/
abbrev s_answers : Stmt := top 62
theorem sc_answers : FnScope ["calls", "saw", "answered", "place", "number", "parameters", "answer"] ["calls"] (defScope s_answers) := ⟨rfl, rfl, rfl, by decide +kernel, rfl, by decide +kernel, by decide +kernel⟩
def spAns (K : PySem.W.Frag) : Sp := fun vs H Q _ => ∃ (a : Addr) (ns : List Int), vs = [.ref a] ∧ SqL K H a (ns.map V.int) ∧ PySr111.answers_asked ns = true ∧
  ∀ (H' : Hp) (p : Addr), H' p = some (.lst ((PySr111.answers ns).map V.int)) → Q (.ref p) H'
theorem ok_answers {f fS : Addr} {fd fdS : FuncData} (F : Fun K "answers" "answers" s_answers f fd) (T : Txt K mg CK CS) (M_Saw : Mk K CS fS) (G_Saw : FnOk P w K mg base CX0 1 fS fdS ["self"] (spSaw CS CK)) (b_Saw : Binds K fdS ["self"] [])
    (c1 : Cal P w K mg base "answer_of" 8 ["saw", "number", "parameters"] (spAny CS CK)) (c2 : Cal P w K mg base "parameters_at" 1 ["calls", "place"] (spParAt K)) : FnOk P w K mg base CX0 9 f fd ["calls"] (spAns K) := by
  obtain ⟨_, _, m_answer_of, kp_answer_of, b_answer_of, G_answer_of⟩ := c1.ex
  obtain ⟨_, _, m_parameters_at, kp_parameters_at, b_parameters_at, G_parameters_at⟩ := c2.ex
  refine F.ok sc_answers (fun vs H Q E h => ?_) (fun cdv A outer s H vs Q E hr h => ?_)
  · obtain ⟨a, ns, rfl, _⟩ := h
    rfl
  · obtain ⟨a, ns, rfl, hS, hask, q⟩ := h
    refine ⟨_, (pss_cons (ps_set (i := 1) sc_answers.nd rfl (Or.inl rfl) (pe_make0 M_Saw G_Saw (hr.mono (by decide)) rfl T.m_Saw b_Saw .nil pass0))
  (pss_cons (ps_set (i := 2) sc_answers.nd rfl (Or.inl rfl) (pe_lst pa_nil))
  (pss_cons (ps_set (i := 3) sc_answers.nd rfl (Or.inl rfl) pe_int)
  (pss_cons (ps_while PassesOwn.never (pt_cmpR op_lt (pv 3) (pe_callB call_len_seq (by rfl) T.b_len PySem.boot_len (pa_cons (pv 0) pa_nil)) (nomark _))
    (pss_cons (ps_set (i := 4) sc_answers.nd rfl (Or.inl rfl) (pe_ix ix_list (pv 0) (pv 3) (fun _ _ => rfl)))
  (pss_cons (ps_set (i := 5) sc_answers.nd rfl (Or.inl rfl) (pe_call G_parameters_at (hr.mono (by decide)) (by rfl) m_parameters_at kp_parameters_at b_parameters_at .nil pass0 (pa_cons (pv 0) (pa_cons (pv 3) pa_nil))))
  (pss_cons (ps_set (i := 6) sc_answers.nd rfl (Or.inl rfl) (pe_call G_answer_of (hr.mono (by decide)) (by rfl) m_answer_of kp_answer_of b_answer_of .nil pass0 (pa_cons (pv 1) (pa_cons (pv 4) (pa_cons (pv 5) pa_nil)))))
  (pss_cons (ps_expr (pe_bm PySem.F.plainAttrs_list PySem.F.slot_list_append PySem.F.type_list_append mt_append (pv 2) (pa_cons (pe_callB call_len_seq (by rfl) T.b_len PySem.boot_len (pa_cons (pv 6) pa_nil)) pa_nil)))
  (pss_cons (ps_expr (pe_bm PySem.F.plainAttrs_list PySem.F.slot_list_extend PySem.F.type_list_extend mt_extend (pv 2) (pa_cons (pv 6) pa_nil)))
  (pss_one (ps_aug (i := 3) sc_answers.nd rfl (.inl rfl) (pe_op op_add pe_int (pe_callB call_len_seq (by rfl) T.b_len PySem.boot_len (pa_cons (pv 5) pa_nil))) ip_add))))))))
  (pss_one (ps_ret (pv 2))))))), ?_⟩
    obtain ⟨due0, short⟩ := Sm.due_start hask
    -- saw = Saw(); answered = []; place = 0
    intro x dx nx ndx nex
    refine ⟨x, dx, rfl, upd_same, fun H1 S1 fr => ⟨rfl, ?_⟩⟩
    have s1 : Same H H1 := Same.made nx ndx fr
    refine ⟨Nat.zero_le _, fun e he => ?_⟩
    have nxe : e ≠ x := fun z => by
      obtain ⟨_, _, _, _, _, _, h⟩ := S1.self
      rw [← z, he] at h
      cases h
    refine ⟨fun m σ H' => ∃ (pl : Nat) (st : Sr111.State) (done rest : List Int) (fp : List Addr) (v4 v5 v6 : Option V), m = ns.length - pl ∧ σ = [some (.ref a), some (.ref x), some (.ref e), some (.int (pl : Int)), v4, v5, v6] ∧ Same H H' ∧ SawAt CS CK H' x fp st ∧ H' e = some (.lst (done.map V.int)) ∧ ¬ e ∈ fp ∧ H e = none ∧ (∀ b, b ∈ fp → H b = none) ∧ Sm.Due ns pl st done rest,
      ⟨_, 0, none, [], _, [x], none, none, none, rfl, rfl, s1.trans (Same.new he), S1.same (Same.new he), upd_same, by simpa using nxe, s1.free he, by simpa using nx, due0⟩, ?_⟩
    rintro m σ H2 ⟨pl, st, done, rest, fp, v4, v5, v6, rfl, rfl, s2, S2, he2, nef, he0, fpn, due⟩
    refine ⟨_, rfl, _, rfl, a, _, rfl, .inl (s2.seq hS), _, _, rfl, rfl, _, rfl, ?_⟩
    rw [List.length_map]
    by_cases hlt : pl < ns.length
    · refine ifT (decide_eq_true (by omega)) ?_
      refine ⟨_, fun _ _ h => h, ?_⟩
      obtain ⟨n, r, c, t, hd, hc, htr, due2, hrest⟩ := Sm.due_step due hlt
      obtain ⟨zs, rfl, hc0, hcnt⟩ := plain_call hc
      have hn : ns[pl]? = some n := by
        have := congrArg (fun l => l[0]?) hd
        simpa using this
      have epl : ns.length - t.length = pl + 1 + zs.length := by
        have := congrArg List.length hd
        rw [List.length_drop, List.length_cons, List.length_append] at this
        omega
      refine ⟨_, rfl, _, rfl, a, _, _, _, rfl, rfl, s2.seq hS, atI_nat (ints_at hn), ?_⟩
      refine ⟨_, rfl, _, rfl, a, ns, pl, n, zs, t, c, rfl, s2.seq hS, hd, hc0, hcnt, fun y H3 sy hy0 hy => ?_⟩
      refine ⟨_, rfl, _, rfl, _, rfl, x, y, fp, st, n, zs, c, rfl, S2.same sy, hy, hc0, fun r H4 fp4 S4 hf4 fr4 hr0 hr4 => ?_⟩
      have nyf : ¬ y ∈ fp := fun h => S2.live y h hy0
      have hy4 : H4 y = some (.lst (zs.map V.int)) := fr4 y _ hy nyf
      have he4 : H4 e = some (.lst (done.map V.int)) := fr4 e _ (sy _ _ he2) nef
      have nye : y ≠ e := (ne_of_none he2 hy0).symm
      have hlen : done.length + (Sm.ansOf st c).length + 1 ≤ 10000000 := by
        have h1 := congrArg List.length due.all
        rw [List.length_append] at h1
        omega
      have hr4' : H4 r = some (.lst ((Sm.ansOf st c).map V.int)) := hr4
      have nre : r ≠ e := (ne_of_none (sy _ _ he2) hr0).symm
      refine ⟨_, rfl, .inl ⟨rfl, _, SqL.of he4⟩, _, rfl, r, _, rfl, .inl (SqL.of hr4'), e, _, _, rfl, rfl, he4, by rw [List.length_map]; exact Nat.lt_of_lt_of_le (by omega : done.length < 10000000) (by decide), ?_⟩
      refine ⟨_, rfl, .inl ⟨rfl, _, SqL.of upd_same⟩, _, rfl, e, r, _, _, rfl, rfl, upd_same, by rw [upd_ne nre]; exact hr4', ?_, ?_⟩
      · rw [List.length_append, List.length_map, List.length_map]
        exact Nat.le_trans (by show done.length + 1 + (Sm.ansOf st c).length ≤ 10000000; omega) (by decide)
      · rw [upd_upd]
        refine ⟨_, rfl, _, rfl, y, _, rfl, .inl (SqL.of (by rw [upd_ne nye]; exact hy4)), _, _, rfl, rfl, _, _, rfl, rfl, ?_⟩
        have fr5 : ∀ b o, H b = some o → H4 b = some o := fun b o h => fr4 b o (sy _ _ (s2 _ _ h)) (fun hb => by rw [fpn b hb] at h; cases h)
        have nef4 : ¬ e ∈ fp4 := fun h => by
          rcases hf4 e h with h | h
          · exact nef h
          · rw [sy _ _ he2] at h; cases h
        have ep : (pl : Int) + (1 + ((zs.map V.int).length : Int)) = ((pl + 1 + zs.length : Nat) : Int) := by rw [List.length_map]; omega
        refine ⟨_, ?_, pl + 1 + zs.length, (Sr111.step st c).1, _, _, fp4, some (.int n), some (.ref y), some (.ref r), rfl, ?_, fun b o h => ?_, ?_, ?_, nef4, he0, fun b hb => ?_, by rw [← epl]; exact due2⟩
        · omega
        · rw [← ep]
          rfl
        · rw [upd_ne (ne_of_none h he0)]
          exact fr5 b o h
        · refine S4.frame fun b hb => ?_
          have nb : b ≠ e := fun z => by subst z; exact nef4 hb
          rw [upd_ne nb]
        · rw [upd_same, List.map_append, List.append_assoc]
          congr 3
          rw [List.length_map]
          rfl
        · rcases hf4 b hb with h | h
          · exact fpn b h
          · exact s2.free (sy.free h)
    · refine ifF (decide_eq_false (by omega)) ?_
      refine ⟨_, rfl, ?_⟩
      have := Sm.due_end due hlt
      rw [this] at he2
      exact q H2 e he2
end
end Sb

/-! The end. -/
namespace Sb
open PySem PySem.Spec PyProof.Rows L2
open PySem.W (Codec)
/-! ### The end: what the top has written, and the row's head -/
theorem all_mk {P : Program} {w : World} {K : PySem.W.Frag} {h : Heap} {mg : Str → Option Value} {fa CK CS : Addr} (X : K.In h) (G : h.Ns mainGlobals mg) (hfa : mg "answers" = some (.ref fa))
    {f0 : Addr}
    {od0 an0 : Option Addr} {sl0 : Array (Option Value)} {oc0 kV0 dc0 pm0 cd0 ct0 : Value}
    {f1 : Addr}
    {od1 an1 : Option Addr} {sl1 : Array (Option Value)} {oc1 kV1 dc1 pm1 cd1 ct1 : Value}
    {f2 : Addr}
    {od2 an2 : Option Addr} {sl2 : Array (Option Value)} {oc2 kV2 dc2 pm2 cd2 ct2 : Value}
    {f3 : Addr}
    {od3 an3 : Option Addr} {sl3 : Array (Option Value)} {oc3 kV3 dc3 pm3 cd3 ct3 : Value}
    {f4 : Addr}
    {od4 an4 : Option Addr} {sl4 : Array (Option Value)} {oc4 kV4 dc4 pm4 cd4 ct4 : Value}
    {f5 : Addr}
    {od5 an5 : Option Addr} {sl5 : Array (Option Value)} {oc5 kV5 dc5 pm5 cd5 ct5 : Value}
    {f6 : Addr}
    {od6 an6 : Option Addr} {sl6 : Array (Option Value)} {oc6 kV6 dc6 pm6 cd6 ct6 : Value}
    {f7 : Addr}
    {od7 an7 : Option Addr} {sl7 : Array (Option Value)} {oc7 kV7 dc7 pm7 cd7 ct7 : Value}
    {f8 : Addr}
    {od8 an8 : Option Addr} {sl8 : Array (Option Value)} {oc8 kV8 dc8 pm8 cd8 ct8 : Value}
    {f9 : Addr}
    {od9 an9 : Option Addr} {sl9 : Array (Option Value)} {oc9 kV9 dc9 pm9 cd9 ct9 : Value}
    {f10 : Addr}
    {od10 an10 : Option Addr} {sl10 : Array (Option Value)} {oc10 kV10 dc10 pm10 cd10 ct10 : Value}
    {f11 : Addr}
    {od11 an11 : Option Addr} {sl11 : Array (Option Value)} {oc11 kV11 dc11 pm11 cd11 ct11 : Value}
    {f12 : Addr}
    {od12 an12 : Option Addr} {sl12 : Array (Option Value)} {oc12 kV12 dc12 pm12 cd12 ct12 : Value}
    {f13 : Addr}
    {od13 an13 : Option Addr} {sl13 : Array (Option Value)} {oc13 kV13 dc13 pm13 cd13 ct13 : Value}
    {f14 : Addr}
    {od14 an14 : Option Addr} {sl14 : Array (Option Value)} {oc14 kV14 dc14 pm14 cd14 ct14 : Value}
    {f15 : Addr}
    {od15 an15 : Option Addr} {sl15 : Array (Option Value)} {oc15 kV15 dc15 pm15 cd15 ct15 : Value}
    {f16 : Addr}
    {od16 an16 : Option Addr} {sl16 : Array (Option Value)} {oc16 kV16 dc16 pm16 cd16 ct16 : Value}
    {f17 : Addr}
    {od17 an17 : Option Addr} {sl17 : Array (Option Value)} {oc17 kV17 dc17 pm17 cd17 ct17 : Value}
    {f18 : Addr}
    {od18 an18 : Option Addr} {sl18 : Array (Option Value)} {oc18 kV18 dc18 pm18 cd18 ct18 : Value}
    {f19 : Addr}
    {od19 an19 : Option Addr} {sl19 : Array (Option Value)} {oc19 kV19 dc19 pm19 cd19 ct19 : Value}
    {f20 : Addr}
    {od20 an20 : Option Addr} {sl20 : Array (Option Value)} {oc20 kV20 dc20 pm20 cd20 ct20 : Value}
    {f21 : Addr}
    {od21 an21 : Option Addr} {sl21 : Array (Option Value)} {oc21 kV21 dc21 pm21 cd21 ct21 : Value}
    {f22 : Addr}
    {od22 an22 : Option Addr} {sl22 : Array (Option Value)} {oc22 kV22 dc22 pm22 cd22 ct22 : Value}
    {f23 : Addr}
    {od23 an23 : Option Addr} {sl23 : Array (Option Value)} {oc23 kV23 dc23 pm23 cd23 ct23 : Value}
    {f24 : Addr}
    {od24 an24 : Option Addr} {sl24 : Array (Option Value)} {oc24 kV24 dc24 pm24 cd24 ct24 : Value}
    {f25 : Addr}
    {od25 an25 : Option Addr} {sl25 : Array (Option Value)} {oc25 kV25 dc25 pm25 cd25 ct25 : Value}
    {f26 : Addr}
    {od26 an26 : Option Addr} {sl26 : Array (Option Value)} {oc26 kV26 dc26 pm26 cd26 ct26 : Value}
    {f27 : Addr}
    {od27 an27 : Option Addr} {sl27 : Array (Option Value)} {oc27 kV27 dc27 pm27 cd27 ct27 : Value}
    {f28 : Addr}
    {od28 an28 : Option Addr} {sl28 : Array (Option Value)} {oc28 kV28 dc28 pm28 cd28 ct28 : Value}
    {f29 : Addr}
    {od29 an29 : Option Addr} {sl29 : Array (Option Value)} {oc29 kV29 dc29 pm29 cd29 ct29 : Value}
    {f30 : Addr}
    {od30 an30 : Option Addr} {sl30 : Array (Option Value)} {oc30 kV30 dc30 pm30 cd30 ct30 : Value}
    {f31 : Addr}
    {od31 an31 : Option Addr} {sl31 : Array (Option Value)} {oc31 kV31 dc31 pm31 cd31 ct31 : Value}
    {f32 : Addr}
    {od32 an32 : Option Addr} {sl32 : Array (Option Value)} {oc32 kV32 dc32 pm32 cd32 ct32 : Value}
    {f33 : Addr}
    {od33 an33 : Option Addr} {sl33 : Array (Option Value)} {oc33 kV33 dc33 pm33 cd33 ct33 : Value}
    {f34 : Addr}
    {od34 an34 : Option Addr} {sl34 : Array (Option Value)} {oc34 kV34 dc34 pm34 cd34 ct34 : Value}
    {f35 : Addr}
    {od35 an35 : Option Addr} {sl35 : Array (Option Value)} {oc35 kV35 dc35 pm35 cd35 ct35 : Value}
    {f36 : Addr}
    {od36 an36 : Option Addr} {sl36 : Array (Option Value)} {oc36 kV36 dc36 pm36 cd36 ct36 : Value}
    {f37 : Addr}
    {od37 an37 : Option Addr} {sl37 : Array (Option Value)} {oc37 kV37 dc37 pm37 cd37 ct37 : Value}
    {f38 : Addr}
    {od38 an38 : Option Addr} {sl38 : Array (Option Value)} {oc38 kV38 dc38 pm38 cd38 ct38 : Value}
    {f39 : Addr}
    {od39 an39 : Option Addr} {sl39 : Array (Option Value)} {oc39 kV39 dc39 pm39 cd39 ct39 : Value}
    {f40 : Addr}
    {od40 an40 : Option Addr} {sl40 : Array (Option Value)} {oc40 kV40 dc40 pm40 cd40 ct40 : Value}
    {f41 : Addr}
    {od41 an41 : Option Addr} {sl41 : Array (Option Value)} {oc41 kV41 dc41 pm41 cd41 ct41 : Value}
    {f42 : Addr}
    {od42 an42 : Option Addr} {sl42 : Array (Option Value)} {oc42 kV42 dc42 pm42 cd42 ct42 : Value}
    {f43 : Addr}
    {od43 an43 : Option Addr} {sl43 : Array (Option Value)} {oc43 kV43 dc43 pm43 cd43 ct43 : Value}
    {f44 : Addr}
    {od44 an44 : Option Addr} {sl44 : Array (Option Value)} {oc44 kV44 dc44 pm44 cd44 ct44 : Value}
    {f45 : Addr}
    {od45 an45 : Option Addr} {sl45 : Array (Option Value)} {oc45 kV45 dc45 pm45 cd45 ct45 : Value}
    {f46 : Addr}
    {od46 an46 : Option Addr} {sl46 : Array (Option Value)} {oc46 kV46 dc46 pm46 cd46 ct46 : Value}
    {f47 : Addr}
    {od47 an47 : Option Addr} {sl47 : Array (Option Value)} {oc47 kV47 dc47 pm47 cd47 ct47 : Value}
    {f48 : Addr}
    {od48 an48 : Option Addr} {sl48 : Array (Option Value)} {oc48 kV48 dc48 pm48 cd48 ct48 : Value}
    {f49 : Addr}
    {od49 an49 : Option Addr} {sl49 : Array (Option Value)} {oc49 kV49 dc49 pm49 cd49 ct49 : Value}
    {f50 : Addr}
    {od50 an50 : Option Addr} {sl50 : Array (Option Value)} {oc50 kV50 dc50 pm50 cd50 ct50 : Value}
    {f51 : Addr}
    {od51 an51 : Option Addr} {sl51 : Array (Option Value)} {oc51 kV51 dc51 pm51 cd51 ct51 : Value}
    {f52 : Addr}
    {od52 an52 : Option Addr} {sl52 : Array (Option Value)} {oc52 kV52 dc52 pm52 cd52 ct52 : Value}
    {f53 : Addr}
    {od53 an53 : Option Addr} {sl53 : Array (Option Value)} {oc53 kV53 dc53 pm53 cd53 ct53 : Value}
    {t_LONGEST_SIDE : Tok}
    {t_HIGHEST_VALUE : Tok}
    {t_MOST_KINDS : Tok}
    {t_CREATE : Tok}
    {t_ADD_KIND : Tok}
    {t_REMOVE_KIND : Tok}
    {t_SET_VALUE : Tok}
    {t_SET_MAY_TURN : Tok}
    {t_SET_SLAB : Tok}
    {t_MAX_VALUE : Tok}
    {t_MAX_VALUE_OF : Tok}
    {t_BEST_PATTERN : Tok}
    {t_STONE_COUNTS : Tok}
    {t_WASTE_AREA : Tok}
    {t_CHECK_PATTERN : Tok}
    {t_VALUES_FOR_HEIGHT : Tok}
    {t_MAX_VALUE_WITHOUT : Tok}
    {t_MAX_VALUE_IF_VALUE : Tok}
    {t_NO_FIT : Tok}
    {t_NO_INSTANCE : Tok}
    {t_NO_SUCH_KIND : Tok}
    {t_OUT_OF_RANGE : Tok}
    {t_TOO_MANY_KINDS : Tok}
    {t_WASTE : Tok}
    {t_STONE : Tok}
    {t_VERTICAL_CUT : Tok}
    {t_HORIZONTAL_CUT : Tok}
    {p_PARAMETER_COUNTS n_PARAMETER_COUNTS : Nat} {od_PARAMETER_COUNTS : Option Addr} {sl_PARAMETER_COUNTS : Array (Option Value)} {u_PARAMETER_COUNTS_0 u_PARAMETER_COUNTS_1 u_PARAMETER_COUNTS_2 u_PARAMETER_COUNTS_3 u_PARAMETER_COUNTS_4 u_PARAMETER_COUNTS_5 u_PARAMETER_COUNTS_6 u_PARAMETER_COUNTS_7 u_PARAMETER_COUNTS_8 u_PARAMETER_COUNTS_9 u_PARAMETER_COUNTS_10 u_PARAMETER_COUNTS_11 u_PARAMETER_COUNTS_12 u_PARAMETER_COUNTS_13 u_PARAMETER_COUNTS_14 u_PARAMETER_COUNTS_15 u_PARAMETER_COUNTS_16 : Tok}
    (aCK : PySem.W.nsIn K mainGlobals "Kind" = some (some (.ref CK)))
    (aCS : PySem.W.nsIn K mainGlobals "Saw" = some (some (.ref CS)))
    (k_PARAMETER_COUNTS : PySem.W.nsIn K mainGlobals "PARAMETER_COUNTS" = some (some (.ref p_PARAMETER_COUNTS)))
    (a0 : PySem.W.nsIn K mainGlobals "is_side" = some (some (.ref f0)))
    (l0 : K.lookup f0 = some ⟨oc0, od0, .func (PySem.W.fnOf "is_side" "is_side" (defArgs s_is_side) (defBody s_is_side) (defScope s_is_side) .none kV0 dc0 pm0 an0 cd0 ct0), sl0⟩)
    (c0 : PySem.W.codeIn K cd0 "is_side" = true)
    (k0 : PySem.W.keepIn K (.ref f0) = true)
    (a1 : PySem.W.nsIn K mainGlobals "is_value" = some (some (.ref f1)))
    (l1 : K.lookup f1 = some ⟨oc1, od1, .func (PySem.W.fnOf "is_value" "is_value" (defArgs s_is_value) (defBody s_is_value) (defScope s_is_value) .none kV1 dc1 pm1 an1 cd1 ct1), sl1⟩)
    (c1 : PySem.W.codeIn K cd1 "is_value" = true)
    (k1 : PySem.W.keepIn K (.ref f1) = true)
    (a2 : PySem.W.nsIn K mainGlobals "is_may_turn" = some (some (.ref f2)))
    (l2 : K.lookup f2 = some ⟨oc2, od2, .func (PySem.W.fnOf "is_may_turn" "is_may_turn" (defArgs s_is_may_turn) (defBody s_is_may_turn) (defScope s_is_may_turn) .none kV2 dc2 pm2 an2 cd2 ct2), sl2⟩)
    (c2 : PySem.W.codeIn K cd2 "is_may_turn" = true)
    (k2 : PySem.W.keepIn K (.ref f2) = true)
    (a3 : PySem.W.findIn K (.ref CK) "__init__" = some (some (.ref f3)))
    (i3 : PySem.W.isFn K (.ref f3) = true)
    (l3 : K.lookup f3 = some ⟨oc3, od3, .func (PySem.W.fnOf "__init__" "Kind.__init__" (defArgs s_Kind___init__) (defBody s_Kind___init__) (defScope s_Kind___init__) .none kV3 dc3 pm3 an3 cd3 ct3), sl3⟩)
    (c3 : PySem.W.codeIn K cd3 "Kind.__init__" = true)
    (k3 : PySem.W.keepIn K (.ref f3) = true)
    (a4 : PySem.W.findIn K (.ref CK) "matches" = some (some (.ref f4)))
    (i4 : PySem.W.isFn K (.ref f4) = true)
    (l4 : K.lookup f4 = some ⟨oc4, od4, .func (PySem.W.fnOf "matches" "Kind.matches" (defArgs s_Kind_matches) (defBody s_Kind_matches) (defScope s_Kind_matches) .none kV4 dc4 pm4 an4 cd4 ct4), sl4⟩)
    (c4 : PySem.W.codeIn K cd4 "Kind.matches" = true)
    (k4 : PySem.W.keepIn K (.ref f4) = true)
    (a5 : PySem.W.nsIn K mainGlobals "stone_worth" = some (some (.ref f5)))
    (l5 : K.lookup f5 = some ⟨oc5, od5, .func (PySem.W.fnOf "stone_worth" "stone_worth" (defArgs s_stone_worth) (defBody s_stone_worth) (defScope s_stone_worth) .none kV5 dc5 pm5 an5 cd5 ct5), sl5⟩)
    (c5 : PySem.W.codeIn K cd5 "stone_worth" = true)
    (k5 : PySem.W.keepIn K (.ref f5) = true)
    (a6 : PySem.W.nsIn K mainGlobals "vertical_cut_worth" = some (some (.ref f6)))
    (l6 : K.lookup f6 = some ⟨oc6, od6, .func (PySem.W.fnOf "vertical_cut_worth" "vertical_cut_worth" (defArgs s_vertical_cut_worth) (defBody s_vertical_cut_worth) (defScope s_vertical_cut_worth) .none kV6 dc6 pm6 an6 cd6 ct6), sl6⟩)
    (c6 : PySem.W.codeIn K cd6 "vertical_cut_worth" = true)
    (k6 : PySem.W.keepIn K (.ref f6) = true)
    (a7 : PySem.W.nsIn K mainGlobals "horizontal_cut_worth" = some (some (.ref f7)))
    (l7 : K.lookup f7 = some ⟨oc7, od7, .func (PySem.W.fnOf "horizontal_cut_worth" "horizontal_cut_worth" (defArgs s_horizontal_cut_worth) (defBody s_horizontal_cut_worth) (defScope s_horizontal_cut_worth) .none kV7 dc7 pm7 an7 cd7 ct7), sl7⟩)
    (c7 : PySem.W.codeIn K cd7 "horizontal_cut_worth" = true)
    (k7 : PySem.W.keepIn K (.ref f7) = true)
    (a8 : PySem.W.nsIn K mainGlobals "cut_worth" = some (some (.ref f8)))
    (l8 : K.lookup f8 = some ⟨oc8, od8, .func (PySem.W.fnOf "cut_worth" "cut_worth" (defArgs s_cut_worth) (defBody s_cut_worth) (defScope s_cut_worth) .none kV8 dc8 pm8 an8 cd8 ct8), sl8⟩)
    (c8 : PySem.W.codeIn K cd8 "cut_worth" = true)
    (k8 : PySem.W.keepIn K (.ref f8) = true)
    (a9 : PySem.W.nsIn K mainGlobals "max_worths" = some (some (.ref f9)))
    (l9 : K.lookup f9 = some ⟨oc9, od9, .func (PySem.W.fnOf "max_worths" "max_worths" (defArgs s_max_worths) (defBody s_max_worths) (defScope s_max_worths) .none kV9 dc9 pm9 an9 cd9 ct9), sl9⟩)
    (c9 : PySem.W.codeIn K cd9 "max_worths" = true)
    (k9 : PySem.W.keepIn K (.ref f9) = true)
    (a10 : PySem.W.nsIn K mainGlobals "max_worth" = some (some (.ref f10)))
    (l10 : K.lookup f10 = some ⟨oc10, od10, .func (PySem.W.fnOf "max_worth" "max_worth" (defArgs s_max_worth) (defBody s_max_worth) (defScope s_max_worth) .none kV10 dc10 pm10 an10 cd10 ct10), sl10⟩)
    (c10 : PySem.W.codeIn K cd10 "max_worth" = true)
    (k10 : PySem.W.keepIn K (.ref f10) = true)
    (a11 : PySem.W.nsIn K mainGlobals "first_best_kind" = some (some (.ref f11)))
    (l11 : K.lookup f11 = some ⟨oc11, od11, .func (PySem.W.fnOf "first_best_kind" "first_best_kind" (defArgs s_first_best_kind) (defBody s_first_best_kind) (defScope s_first_best_kind) .none kV11 dc11 pm11 an11 cd11 ct11), sl11⟩)
    (c11 : PySem.W.codeIn K cd11 "first_best_kind" = true)
    (k11 : PySem.W.keepIn K (.ref f11) = true)
    (a12 : PySem.W.nsIn K mainGlobals "first_best_vertical_cut" = some (some (.ref f12)))
    (l12 : K.lookup f12 = some ⟨oc12, od12, .func (PySem.W.fnOf "first_best_vertical_cut" "first_best_vertical_cut" (defArgs s_first_best_vertical_cut) (defBody s_first_best_vertical_cut) (defScope s_first_best_vertical_cut) .none kV12 dc12 pm12 an12 cd12 ct12), sl12⟩)
    (c12 : PySem.W.codeIn K cd12 "first_best_vertical_cut" = true)
    (k12 : PySem.W.keepIn K (.ref f12) = true)
    (a13 : PySem.W.nsIn K mainGlobals "first_best_horizontal_cut" = some (some (.ref f13)))
    (l13 : K.lookup f13 = some ⟨oc13, od13, .func (PySem.W.fnOf "first_best_horizontal_cut" "first_best_horizontal_cut" (defArgs s_first_best_horizontal_cut) (defBody s_first_best_horizontal_cut) (defScope s_first_best_horizontal_cut) .none kV13 dc13 pm13 an13 cd13 ct13), sl13⟩)
    (c13 : PySem.W.codeIn K cd13 "first_best_horizontal_cut" = true)
    (k13 : PySem.W.keepIn K (.ref f13) = true)
    (a14 : PySem.W.nsIn K mainGlobals "best_step" = some (some (.ref f14)))
    (l14 : K.lookup f14 = some ⟨oc14, od14, .func (PySem.W.fnOf "best_step" "best_step" (defArgs s_best_step) (defBody s_best_step) (defScope s_best_step) .none kV14 dc14 pm14 an14 cd14 ct14), sl14⟩)
    (c14 : PySem.W.codeIn K cd14 "best_step" = true)
    (k14 : PySem.W.keepIn K (.ref f14) = true)
    (a15 : PySem.W.nsIn K mainGlobals "parts_behind" = some (some (.ref f15)))
    (l15 : K.lookup f15 = some ⟨oc15, od15, .func (PySem.W.fnOf "parts_behind" "parts_behind" (defArgs s_parts_behind) (defBody s_parts_behind) (defScope s_parts_behind) .none kV15 dc15 pm15 an15 cd15 ct15), sl15⟩)
    (c15 : PySem.W.codeIn K cd15 "parts_behind" = true)
    (k15 : PySem.W.keepIn K (.ref f15) = true)
    (a16 : PySem.W.nsIn K mainGlobals "is_cut" = some (some (.ref f16)))
    (l16 : K.lookup f16 = some ⟨oc16, od16, .func (PySem.W.fnOf "is_cut" "is_cut" (defArgs s_is_cut) (defBody s_is_cut) (defScope s_is_cut) .none kV16 dc16 pm16 an16 cd16 ct16), sl16⟩)
    (c16 : PySem.W.codeIn K cd16 "is_cut" = true)
    (k16 : PySem.W.keepIn K (.ref f16) = true)
    (a17 : PySem.W.nsIn K mainGlobals "stones_in" = some (some (.ref f17)))
    (l17 : K.lookup f17 = some ⟨oc17, od17, .func (PySem.W.fnOf "stones_in" "stones_in" (defArgs s_stones_in) (defBody s_stones_in) (defScope s_stones_in) .none kV17 dc17 pm17 an17 cd17 ct17), sl17⟩)
    (c17 : PySem.W.codeIn K cd17 "stones_in" = true)
    (k17 : PySem.W.keepIn K (.ref f17) = true)
    (a18 : PySem.W.nsIn K mainGlobals "encoding_of" = some (some (.ref f18)))
    (l18 : K.lookup f18 = some ⟨oc18, od18, .func (PySem.W.fnOf "encoding_of" "encoding_of" (defArgs s_encoding_of) (defBody s_encoding_of) (defScope s_encoding_of) .none kV18 dc18 pm18 an18 cd18 ct18), sl18⟩)
    (c18 : PySem.W.codeIn K cd18 "encoding_of" = true)
    (k18 : PySem.W.keepIn K (.ref f18) = true)
    (a19 : PySem.W.nsIn K mainGlobals "best_steps" = some (some (.ref f19)))
    (l19 : K.lookup f19 = some ⟨oc19, od19, .func (PySem.W.fnOf "best_steps" "best_steps" (defArgs s_best_steps) (defBody s_best_steps) (defScope s_best_steps) .none kV19 dc19 pm19 an19 cd19 ct19), sl19⟩)
    (c19 : PySem.W.codeIn K cd19 "best_steps" = true)
    (k19 : PySem.W.keepIn K (.ref f19) = true)
    (a20 : PySem.W.nsIn K mainGlobals "step_at" = some (some (.ref f20)))
    (l20 : K.lookup f20 = some ⟨oc20, od20, .func (PySem.W.fnOf "step_at" "step_at" (defArgs s_step_at) (defBody s_step_at) (defScope s_step_at) .none kV20 dc20 pm20 an20 cd20 ct20), sl20⟩)
    (c20 : PySem.W.codeIn K cd20 "step_at" = true)
    (k20 : PySem.W.keepIn K (.ref f20) = true)
    (a21 : PySem.W.nsIn K mainGlobals "steps_of" = some (some (.ref f21)))
    (l21 : K.lookup f21 = some ⟨oc21, od21, .func (PySem.W.fnOf "steps_of" "steps_of" (defArgs s_steps_of) (defBody s_steps_of) (defScope s_steps_of) .none kV21 dc21 pm21 an21 cd21 ct21), sl21⟩)
    (c21 : PySem.W.codeIn K cd21 "steps_of" = true)
    (k21 : PySem.W.keepIn K (.ref f21) = true)
    (a22 : PySem.W.nsIn K mainGlobals "step_fits" = some (some (.ref f22)))
    (l22 : K.lookup f22 = some ⟨oc22, od22, .func (PySem.W.fnOf "step_fits" "step_fits" (defArgs s_step_fits) (defBody s_step_fits) (defScope s_step_fits) .none kV22 dc22 pm22 an22 cd22 ct22), sl22⟩)
    (c22 : PySem.W.codeIn K cd22 "step_fits" = true)
    (k22 : PySem.W.keepIn K (.ref f22) = true)
    (a23 : PySem.W.nsIn K mainGlobals "fits" = some (some (.ref f23)))
    (l23 : K.lookup f23 = some ⟨oc23, od23, .func (PySem.W.fnOf "fits" "fits" (defArgs s_fits) (defBody s_fits) (defScope s_fits) .none kV23 dc23 pm23 an23 cd23 ct23), sl23⟩)
    (c23 : PySem.W.codeIn K cd23 "fits" = true)
    (k23 : PySem.W.keepIn K (.ref f23) = true)
    (a24 : PySem.W.nsIn K mainGlobals "counts_by_kind" = some (some (.ref f24)))
    (l24 : K.lookup f24 = some ⟨oc24, od24, .func (PySem.W.fnOf "counts_by_kind" "counts_by_kind" (defArgs s_counts_by_kind) (defBody s_counts_by_kind) (defScope s_counts_by_kind) .none kV24 dc24 pm24 an24 cd24 ct24), sl24⟩)
    (c24 : PySem.W.codeIn K cd24 "counts_by_kind" = true)
    (k24 : PySem.W.keepIn K (.ref f24) = true)
    (a25 : PySem.W.nsIn K mainGlobals "value_together" = some (some (.ref f25)))
    (l25 : K.lookup f25 = some ⟨oc25, od25, .func (PySem.W.fnOf "value_together" "value_together" (defArgs s_value_together) (defBody s_value_together) (defScope s_value_together) .none kV25 dc25 pm25 an25 cd25 ct25), sl25⟩)
    (c25 : PySem.W.codeIn K cd25 "value_together" = true)
    (k25 : PySem.W.keepIn K (.ref f25) = true)
    (a26 : PySem.W.nsIn K mainGlobals "area_together" = some (some (.ref f26)))
    (l26 : K.lookup f26 = some ⟨oc26, od26, .func (PySem.W.fnOf "area_together" "area_together" (defArgs s_area_together) (defBody s_area_together) (defScope s_area_together) .none kV26 dc26 pm26 an26 cd26 ct26), sl26⟩)
    (c26 : PySem.W.codeIn K cd26 "area_together" = true)
    (k26 : PySem.W.keepIn K (.ref f26) = true)
    (a27 : PySem.W.findIn K (.ref CK) "with_value" = some (some (.ref f27)))
    (i27 : PySem.W.isFn K (.ref f27) = true)
    (l27 : K.lookup f27 = some ⟨oc27, od27, .func (PySem.W.fnOf "with_value" "Kind.with_value" (defArgs s_Kind_with_value) (defBody s_Kind_with_value) (defScope s_Kind_with_value) .none kV27 dc27 pm27 an27 cd27 ct27), sl27⟩)
    (c27 : PySem.W.codeIn K cd27 "Kind.with_value" = true)
    (k27 : PySem.W.keepIn K (.ref f27) = true)
    (a28 : PySem.W.findIn K (.ref CS) "__init__" = some (some (.ref f28)))
    (i28 : PySem.W.isFn K (.ref f28) = true)
    (l28 : K.lookup f28 = some ⟨oc28, od28, .func (PySem.W.fnOf "__init__" "Saw.__init__" (defArgs s_Saw___init__) (defBody s_Saw___init__) (defScope s_Saw___init__) .none kV28 dc28 pm28 an28 cd28 ct28), sl28⟩)
    (c28 : PySem.W.codeIn K cd28 "Saw.__init__" = true)
    (k28 : PySem.W.keepIn K (.ref f28) = true)
    (a29 : PySem.W.findIn K (.ref CS) "has_kind" = some (some (.ref f29)))
    (i29 : PySem.W.isFn K (.ref f29) = true)
    (l29 : K.lookup f29 = some ⟨oc29, od29, .func (PySem.W.fnOf "has_kind" "Saw.has_kind" (defArgs s_Saw_has_kind) (defBody s_Saw_has_kind) (defScope s_Saw_has_kind) .none kV29 dc29 pm29 an29 cd29 ct29), sl29⟩)
    (c29 : PySem.W.codeIn K cd29 "Saw.has_kind" = true)
    (k29 : PySem.W.keepIn K (.ref f29) = true)
    (a30 : PySem.W.findIn K (.ref CS) "create" = some (some (.ref f30)))
    (i30 : PySem.W.isFn K (.ref f30) = true)
    (l30 : K.lookup f30 = some ⟨oc30, od30, .func (PySem.W.fnOf "create" "Saw.create" (defArgs s_Saw_create) (defBody s_Saw_create) (defScope s_Saw_create) .none kV30 dc30 pm30 an30 cd30 ct30), sl30⟩)
    (c30 : PySem.W.codeIn K cd30 "Saw.create" = true)
    (k30 : PySem.W.keepIn K (.ref f30) = true)
    (a31 : PySem.W.findIn K (.ref CS) "set_slab" = some (some (.ref f31)))
    (i31 : PySem.W.isFn K (.ref f31) = true)
    (l31 : K.lookup f31 = some ⟨oc31, od31, .func (PySem.W.fnOf "set_slab" "Saw.set_slab" (defArgs s_Saw_set_slab) (defBody s_Saw_set_slab) (defScope s_Saw_set_slab) .none kV31 dc31 pm31 an31 cd31 ct31), sl31⟩)
    (c31 : PySem.W.codeIn K cd31 "Saw.set_slab" = true)
    (k31 : PySem.W.keepIn K (.ref f31) = true)
    (a32 : PySem.W.findIn K (.ref CS) "add_kind" = some (some (.ref f32)))
    (i32 : PySem.W.isFn K (.ref f32) = true)
    (l32 : K.lookup f32 = some ⟨oc32, od32, .func (PySem.W.fnOf "add_kind" "Saw.add_kind" (defArgs s_Saw_add_kind) (defBody s_Saw_add_kind) (defScope s_Saw_add_kind) .none kV32 dc32 pm32 an32 cd32 ct32), sl32⟩)
    (c32 : PySem.W.codeIn K cd32 "Saw.add_kind" = true)
    (k32 : PySem.W.keepIn K (.ref f32) = true)
    (a33 : PySem.W.findIn K (.ref CS) "remove_kind" = some (some (.ref f33)))
    (i33 : PySem.W.isFn K (.ref f33) = true)
    (l33 : K.lookup f33 = some ⟨oc33, od33, .func (PySem.W.fnOf "remove_kind" "Saw.remove_kind" (defArgs s_Saw_remove_kind) (defBody s_Saw_remove_kind) (defScope s_Saw_remove_kind) .none kV33 dc33 pm33 an33 cd33 ct33), sl33⟩)
    (c33 : PySem.W.codeIn K cd33 "Saw.remove_kind" = true)
    (k33 : PySem.W.keepIn K (.ref f33) = true)
    (a34 : PySem.W.findIn K (.ref CS) "set_value" = some (some (.ref f34)))
    (i34 : PySem.W.isFn K (.ref f34) = true)
    (l34 : K.lookup f34 = some ⟨oc34, od34, .func (PySem.W.fnOf "set_value" "Saw.set_value" (defArgs s_Saw_set_value) (defBody s_Saw_set_value) (defScope s_Saw_set_value) .none kV34 dc34 pm34 an34 cd34 ct34), sl34⟩)
    (c34 : PySem.W.codeIn K cd34 "Saw.set_value" = true)
    (k34 : PySem.W.keepIn K (.ref f34) = true)
    (a35 : PySem.W.findIn K (.ref CS) "set_may_turn" = some (some (.ref f35)))
    (i35 : PySem.W.isFn K (.ref f35) = true)
    (l35 : K.lookup f35 = some ⟨oc35, od35, .func (PySem.W.fnOf "set_may_turn" "Saw.set_may_turn" (defArgs s_Saw_set_may_turn) (defBody s_Saw_set_may_turn) (defScope s_Saw_set_may_turn) .none kV35 dc35 pm35 an35 cd35 ct35), sl35⟩)
    (c35 : PySem.W.codeIn K cd35 "Saw.set_may_turn" = true)
    (k35 : PySem.W.keepIn K (.ref f35) = true)
    (a36 : PySem.W.findIn K (.ref CS) "max_value" = some (some (.ref f36)))
    (i36 : PySem.W.isFn K (.ref f36) = true)
    (l36 : K.lookup f36 = some ⟨oc36, od36, .func (PySem.W.fnOf "max_value" "Saw.max_value" (defArgs s_Saw_max_value) (defBody s_Saw_max_value) (defScope s_Saw_max_value) .none kV36 dc36 pm36 an36 cd36 ct36), sl36⟩)
    (c36 : PySem.W.codeIn K cd36 "Saw.max_value" = true)
    (k36 : PySem.W.keepIn K (.ref f36) = true)
    (a37 : PySem.W.findIn K (.ref CS) "max_value_of" = some (some (.ref f37)))
    (i37 : PySem.W.isFn K (.ref f37) = true)
    (l37 : K.lookup f37 = some ⟨oc37, od37, .func (PySem.W.fnOf "max_value_of" "Saw.max_value_of" (defArgs s_Saw_max_value_of) (defBody s_Saw_max_value_of) (defScope s_Saw_max_value_of) .none kV37 dc37 pm37 an37 cd37 ct37), sl37⟩)
    (c37 : PySem.W.codeIn K cd37 "Saw.max_value_of" = true)
    (k37 : PySem.W.keepIn K (.ref f37) = true)
    (a38 : PySem.W.findIn K (.ref CS) "best_pattern" = some (some (.ref f38)))
    (i38 : PySem.W.isFn K (.ref f38) = true)
    (l38 : K.lookup f38 = some ⟨oc38, od38, .func (PySem.W.fnOf "best_pattern" "Saw.best_pattern" (defArgs s_Saw_best_pattern) (defBody s_Saw_best_pattern) (defScope s_Saw_best_pattern) .none kV38 dc38 pm38 an38 cd38 ct38), sl38⟩)
    (c38 : PySem.W.codeIn K cd38 "Saw.best_pattern" = true)
    (k38 : PySem.W.keepIn K (.ref f38) = true)
    (a39 : PySem.W.findIn K (.ref CS) "best_stones" = some (some (.ref f39)))
    (i39 : PySem.W.isFn K (.ref f39) = true)
    (l39 : K.lookup f39 = some ⟨oc39, od39, .func (PySem.W.fnOf "best_stones" "Saw.best_stones" (defArgs s_Saw_best_stones) (defBody s_Saw_best_stones) (defScope s_Saw_best_stones) .none kV39 dc39 pm39 an39 cd39 ct39), sl39⟩)
    (c39 : PySem.W.codeIn K cd39 "Saw.best_stones" = true)
    (k39 : PySem.W.keepIn K (.ref f39) = true)
    (a40 : PySem.W.findIn K (.ref CS) "stone_counts" = some (some (.ref f40)))
    (i40 : PySem.W.isFn K (.ref f40) = true)
    (l40 : K.lookup f40 = some ⟨oc40, od40, .func (PySem.W.fnOf "stone_counts" "Saw.stone_counts" (defArgs s_Saw_stone_counts) (defBody s_Saw_stone_counts) (defScope s_Saw_stone_counts) .none kV40 dc40 pm40 an40 cd40 ct40), sl40⟩)
    (c40 : PySem.W.codeIn K cd40 "Saw.stone_counts" = true)
    (k40 : PySem.W.keepIn K (.ref f40) = true)
    (a41 : PySem.W.findIn K (.ref CS) "waste_area" = some (some (.ref f41)))
    (i41 : PySem.W.isFn K (.ref f41) = true)
    (l41 : K.lookup f41 = some ⟨oc41, od41, .func (PySem.W.fnOf "waste_area" "Saw.waste_area" (defArgs s_Saw_waste_area) (defBody s_Saw_waste_area) (defScope s_Saw_waste_area) .none kV41 dc41 pm41 an41 cd41 ct41), sl41⟩)
    (c41 : PySem.W.codeIn K cd41 "Saw.waste_area" = true)
    (k41 : PySem.W.keepIn K (.ref f41) = true)
    (a42 : PySem.W.findIn K (.ref CS) "check_pattern" = some (some (.ref f42)))
    (i42 : PySem.W.isFn K (.ref f42) = true)
    (l42 : K.lookup f42 = some ⟨oc42, od42, .func (PySem.W.fnOf "check_pattern" "Saw.check_pattern" (defArgs s_Saw_check_pattern) (defBody s_Saw_check_pattern) (defScope s_Saw_check_pattern) .none kV42 dc42 pm42 an42 cd42 ct42), sl42⟩)
    (c42 : PySem.W.codeIn K cd42 "Saw.check_pattern" = true)
    (k42 : PySem.W.keepIn K (.ref f42) = true)
    (a43 : PySem.W.findIn K (.ref CS) "values_for_height" = some (some (.ref f43)))
    (i43 : PySem.W.isFn K (.ref f43) = true)
    (l43 : K.lookup f43 = some ⟨oc43, od43, .func (PySem.W.fnOf "values_for_height" "Saw.values_for_height" (defArgs s_Saw_values_for_height) (defBody s_Saw_values_for_height) (defScope s_Saw_values_for_height) .none kV43 dc43 pm43 an43 cd43 ct43), sl43⟩)
    (c43 : PySem.W.codeIn K cd43 "Saw.values_for_height" = true)
    (k43 : PySem.W.keepIn K (.ref f43) = true)
    (a44 : PySem.W.findIn K (.ref CS) "max_value_without" = some (some (.ref f44)))
    (i44 : PySem.W.isFn K (.ref f44) = true)
    (l44 : K.lookup f44 = some ⟨oc44, od44, .func (PySem.W.fnOf "max_value_without" "Saw.max_value_without" (defArgs s_Saw_max_value_without) (defBody s_Saw_max_value_without) (defScope s_Saw_max_value_without) .none kV44 dc44 pm44 an44 cd44 ct44), sl44⟩)
    (c44 : PySem.W.codeIn K cd44 "Saw.max_value_without" = true)
    (k44 : PySem.W.keepIn K (.ref f44) = true)
    (a45 : PySem.W.findIn K (.ref CS) "max_value_if_value" = some (some (.ref f45)))
    (i45 : PySem.W.isFn K (.ref f45) = true)
    (l45 : K.lookup f45 = some ⟨oc45, od45, .func (PySem.W.fnOf "max_value_if_value" "Saw.max_value_if_value" (defArgs s_Saw_max_value_if_value) (defBody s_Saw_max_value_if_value) (defScope s_Saw_max_value_if_value) .none kV45 dc45 pm45 an45 cd45 ct45), sl45⟩)
    (c45 : PySem.W.codeIn K cd45 "Saw.max_value_if_value" = true)
    (k45 : PySem.W.keepIn K (.ref f45) = true)
    (a46 : PySem.W.findIn K (.ref CS) "min_height" = some (some (.ref f46)))
    (i46 : PySem.W.isFn K (.ref f46) = true)
    (l46 : K.lookup f46 = some ⟨oc46, od46, .func (PySem.W.fnOf "min_height" "Saw.min_height" (defArgs s_Saw_min_height) (defBody s_Saw_min_height) (defScope s_Saw_min_height) .none kV46 dc46 pm46 an46 cd46 ct46), sl46⟩)
    (c46 : PySem.W.codeIn K cd46 "Saw.min_height" = true)
    (k46 : PySem.W.keepIn K (.ref f46) = true)
    (a47 : PySem.W.findIn K (.ref CS) "describe" = some (some (.ref f47)))
    (i47 : PySem.W.isFn K (.ref f47) = true)
    (l47 : K.lookup f47 = some ⟨oc47, od47, .func (PySem.W.fnOf "describe" "Saw.describe" (defArgs s_Saw_describe) (defBody s_Saw_describe) (defScope s_Saw_describe) .none kV47 dc47 pm47 an47 cd47 ct47), sl47⟩)
    (c47 : PySem.W.codeIn K cd47 "Saw.describe" = true)
    (k47 : PySem.W.keepIn K (.ref f47) = true)
    (a48 : PySem.W.nsIn K mainGlobals "answer_of_change" = some (some (.ref f48)))
    (l48 : K.lookup f48 = some ⟨oc48, od48, .func (PySem.W.fnOf "answer_of_change" "answer_of_change" (defArgs s_answer_of_change) (defBody s_answer_of_change) (defScope s_answer_of_change) .none kV48 dc48 pm48 an48 cd48 ct48), sl48⟩)
    (c48 : PySem.W.codeIn K cd48 "answer_of_change" = true)
    (k48 : PySem.W.keepIn K (.ref f48) = true)
    (a49 : PySem.W.nsIn K mainGlobals "answer_of_plain_query" = some (some (.ref f49)))
    (l49 : K.lookup f49 = some ⟨oc49, od49, .func (PySem.W.fnOf "answer_of_plain_query" "answer_of_plain_query" (defArgs s_answer_of_plain_query) (defBody s_answer_of_plain_query) (defScope s_answer_of_plain_query) .none kV49 dc49 pm49 an49 cd49 ct49), sl49⟩)
    (c49 : PySem.W.codeIn K cd49 "answer_of_plain_query" = true)
    (k49 : PySem.W.keepIn K (.ref f49) = true)
    (a50 : PySem.W.nsIn K mainGlobals "answer_of_query" = some (some (.ref f50)))
    (l50 : K.lookup f50 = some ⟨oc50, od50, .func (PySem.W.fnOf "answer_of_query" "answer_of_query" (defArgs s_answer_of_query) (defBody s_answer_of_query) (defScope s_answer_of_query) .none kV50 dc50 pm50 an50 cd50 ct50), sl50⟩)
    (c50 : PySem.W.codeIn K cd50 "answer_of_query" = true)
    (k50 : PySem.W.keepIn K (.ref f50) = true)
    (a51 : PySem.W.nsIn K mainGlobals "answer_of" = some (some (.ref f51)))
    (l51 : K.lookup f51 = some ⟨oc51, od51, .func (PySem.W.fnOf "answer_of" "answer_of" (defArgs s_answer_of) (defBody s_answer_of) (defScope s_answer_of) .none kV51 dc51 pm51 an51 cd51 ct51), sl51⟩)
    (c51 : PySem.W.codeIn K cd51 "answer_of" = true)
    (k51 : PySem.W.keepIn K (.ref f51) = true)
    (a52 : PySem.W.nsIn K mainGlobals "parameters_at" = some (some (.ref f52)))
    (l52 : K.lookup f52 = some ⟨oc52, od52, .func (PySem.W.fnOf "parameters_at" "parameters_at" (defArgs s_parameters_at) (defBody s_parameters_at) (defScope s_parameters_at) .none kV52 dc52 pm52 an52 cd52 ct52), sl52⟩)
    (c52 : PySem.W.codeIn K cd52 "parameters_at" = true)
    (k52 : PySem.W.keepIn K (.ref f52) = true)
    (a53 : PySem.W.nsIn K mainGlobals "answers" = some (some (.ref f53)))
    (l53 : K.lookup f53 = some ⟨oc53, od53, .func (PySem.W.fnOf "answers" "answers" (defArgs s_answers) (defBody s_answers) (defScope s_answers) .none kV53 dc53 pm53 an53 cd53 ct53), sl53⟩)
    (c53 : PySem.W.codeIn K cd53 "answers" = true)
    (k53 : PySem.W.keepIn K (.ref f53) = true)
    (pgCK : PySem.W.plainGet K CK Str.empty = true)
    (hdCK : PySem.W.hasDictIn K CK = true)
    (poCK : PySem.W.plainOver K CK = true)
    (saCK : PySem.W.findIn K (.ref CK) "__setattr__" = some (some (.builtin "object.__setattr__")))
    (mkCK : PySem.W.makesIn K CK = true)
    (kcCK : PySem.W.keepIn K (.ref CK) = true)
    (n_width : PySem.W.findIn K (.ref CK) "width" = some none)
    (n_height : PySem.W.findIn K (.ref CK) "height" = some none)
    (n_value : PySem.W.findIn K (.ref CK) "value" = some none)
    (n_may_turn : PySem.W.findIn K (.ref CK) "may_turn" = some none)
    (pgCS : PySem.W.plainGet K CS Str.empty = true)
    (hdCS : PySem.W.hasDictIn K CS = true)
    (poCS : PySem.W.plainOver K CS = true)
    (saCS : PySem.W.findIn K (.ref CS) "__setattr__" = some (some (.builtin "object.__setattr__")))
    (mkCS : PySem.W.makesIn K CS = true)
    (kcCS : PySem.W.keepIn K (.ref CS) = true)
    (s_exists : PySem.W.findIn K (.ref CS) "exists" = some none)
    (s_width : PySem.W.findIn K (.ref CS) "width" = some none)
    (s_height : PySem.W.findIn K (.ref CS) "height" = some none)
    (s_kinds : PySem.W.findIn K (.ref CS) "kinds" = some none)
    (k_LONGEST_SIDE : PySem.W.nsIn K mainGlobals "LONGEST_SIDE" = some (some (.int (9) t_LONGEST_SIDE)))
    (k_HIGHEST_VALUE : PySem.W.nsIn K mainGlobals "HIGHEST_VALUE" = some (some (.int (999) t_HIGHEST_VALUE)))
    (k_MOST_KINDS : PySem.W.nsIn K mainGlobals "MOST_KINDS" = some (some (.int (5) t_MOST_KINDS)))
    (k_CREATE : PySem.W.nsIn K mainGlobals "CREATE" = some (some (.int (0) t_CREATE)))
    (k_ADD_KIND : PySem.W.nsIn K mainGlobals "ADD_KIND" = some (some (.int (1) t_ADD_KIND)))
    (k_REMOVE_KIND : PySem.W.nsIn K mainGlobals "REMOVE_KIND" = some (some (.int (2) t_REMOVE_KIND)))
    (k_SET_VALUE : PySem.W.nsIn K mainGlobals "SET_VALUE" = some (some (.int (3) t_SET_VALUE)))
    (k_SET_MAY_TURN : PySem.W.nsIn K mainGlobals "SET_MAY_TURN" = some (some (.int (4) t_SET_MAY_TURN)))
    (k_SET_SLAB : PySem.W.nsIn K mainGlobals "SET_SLAB" = some (some (.int (5) t_SET_SLAB)))
    (k_MAX_VALUE : PySem.W.nsIn K mainGlobals "MAX_VALUE" = some (some (.int (6) t_MAX_VALUE)))
    (k_MAX_VALUE_OF : PySem.W.nsIn K mainGlobals "MAX_VALUE_OF" = some (some (.int (7) t_MAX_VALUE_OF)))
    (k_BEST_PATTERN : PySem.W.nsIn K mainGlobals "BEST_PATTERN" = some (some (.int (8) t_BEST_PATTERN)))
    (k_STONE_COUNTS : PySem.W.nsIn K mainGlobals "STONE_COUNTS" = some (some (.int (9) t_STONE_COUNTS)))
    (k_WASTE_AREA : PySem.W.nsIn K mainGlobals "WASTE_AREA" = some (some (.int (10) t_WASTE_AREA)))
    (k_CHECK_PATTERN : PySem.W.nsIn K mainGlobals "CHECK_PATTERN" = some (some (.int (11) t_CHECK_PATTERN)))
    (k_VALUES_FOR_HEIGHT : PySem.W.nsIn K mainGlobals "VALUES_FOR_HEIGHT" = some (some (.int (12) t_VALUES_FOR_HEIGHT)))
    (k_MAX_VALUE_WITHOUT : PySem.W.nsIn K mainGlobals "MAX_VALUE_WITHOUT" = some (some (.int (13) t_MAX_VALUE_WITHOUT)))
    (k_MAX_VALUE_IF_VALUE : PySem.W.nsIn K mainGlobals "MAX_VALUE_IF_VALUE" = some (some (.int (14) t_MAX_VALUE_IF_VALUE)))
    (k_NO_FIT : PySem.W.nsIn K mainGlobals "NO_FIT" = some (some (.int (-33) t_NO_FIT)))
    (k_NO_INSTANCE : PySem.W.nsIn K mainGlobals "NO_INSTANCE" = some (some (.int (-11) t_NO_INSTANCE)))
    (k_NO_SUCH_KIND : PySem.W.nsIn K mainGlobals "NO_SUCH_KIND" = some (some (.int (-2) t_NO_SUCH_KIND)))
    (k_OUT_OF_RANGE : PySem.W.nsIn K mainGlobals "OUT_OF_RANGE" = some (some (.int (-22) t_OUT_OF_RANGE)))
    (k_TOO_MANY_KINDS : PySem.W.nsIn K mainGlobals "TOO_MANY_KINDS" = some (some (.int (-28) t_TOO_MANY_KINDS)))
    (k_WASTE : PySem.W.nsIn K mainGlobals "WASTE" = some (some (.int (0) t_WASTE)))
    (k_STONE : PySem.W.nsIn K mainGlobals "STONE" = some (some (.int (1) t_STONE)))
    (k_VERTICAL_CUT : PySem.W.nsIn K mainGlobals "VERTICAL_CUT" = some (some (.int (2) t_VERTICAL_CUT)))
    (k_HORIZONTAL_CUT : PySem.W.nsIn K mainGlobals "HORIZONTAL_CUT" = some (some (.int (3) t_HORIZONTAL_CUT)))
    (l_PARAMETER_COUNTS : K.lookup p_PARAMETER_COUNTS = some ⟨.type "tuple", od_PARAMETER_COUNTS, .seq #[.int 2 u_PARAMETER_COUNTS_0, .int 4 u_PARAMETER_COUNTS_1, .int 1 u_PARAMETER_COUNTS_2, .int 2 u_PARAMETER_COUNTS_3, .int 2 u_PARAMETER_COUNTS_4, .int 2 u_PARAMETER_COUNTS_5, .int 0 u_PARAMETER_COUNTS_6, .int 2 u_PARAMETER_COUNTS_7, .int 0 u_PARAMETER_COUNTS_8, .int 0 u_PARAMETER_COUNTS_9, .int 0 u_PARAMETER_COUNTS_10, .int 1 u_PARAMETER_COUNTS_11, .int 1 u_PARAMETER_COUNTS_12, .int 1 u_PARAMETER_COUNTS_13, .int 2 u_PARAMETER_COUNTS_14, .int 1 u_PARAMETER_COUNTS_15, .int 0 u_PARAMETER_COUNTS_16] n_PARAMETER_COUNTS, sl_PARAMETER_COUNTS⟩)
    (b_len : PySem.W.nsIn K mainGlobals "len" = some none)
    (b_max : PySem.W.nsIn K mainGlobals "max" = some none)
    (b_range : PySem.W.nsIn K mainGlobals "range" = some none)
    (b_enumerate : PySem.W.nsIn K mainGlobals "enumerate" = some none)
    (b_sum : PySem.W.nsIn K mainGlobals "sum" = some none)
    (b_list : PySem.W.nsIn K mainGlobals "list" = some none)
    : ∃ fd : FuncData, (∀ (s : Shared) (us : List Value), us.length = (["calls"] : List Str).length → BindsTo s fd ⟨us, []⟩ ((["calls"] : List Str).zip us)) ∧ ∀ base : Heap, K.In base → base.Ns mainGlobals mg → FnOk P w K mg base CX0 9 fa fd ["calls"] (spAns K) := by
  have e := hfa.symm.trans (PySem.W.mg_of X G a53)
  cases e
  have T : Txt K mg CK CS := {
    cl_Kind := ⟨pgCK, hdCK, poCK, saCK⟩
    m_Kind := PySem.W.mg_of X G aCK
    n_width := n_width
    n_height := n_height
    n_value := n_value
    n_may_turn := n_may_turn
    cl_Saw := ⟨pgCS, hdCS, poCS, saCS⟩
    m_Saw := PySem.W.mg_of X G aCS
    s_exists := s_exists
    s_width := s_width
    s_height := s_height
    s_kinds := s_kinds
    k_LONGEST_SIDE := ⟨_, PySem.W.mg_of X G k_LONGEST_SIDE⟩
    k_HIGHEST_VALUE := ⟨_, PySem.W.mg_of X G k_HIGHEST_VALUE⟩
    k_MOST_KINDS := ⟨_, PySem.W.mg_of X G k_MOST_KINDS⟩
    k_CREATE := ⟨_, PySem.W.mg_of X G k_CREATE⟩
    k_ADD_KIND := ⟨_, PySem.W.mg_of X G k_ADD_KIND⟩
    k_REMOVE_KIND := ⟨_, PySem.W.mg_of X G k_REMOVE_KIND⟩
    k_SET_VALUE := ⟨_, PySem.W.mg_of X G k_SET_VALUE⟩
    k_SET_MAY_TURN := ⟨_, PySem.W.mg_of X G k_SET_MAY_TURN⟩
    k_SET_SLAB := ⟨_, PySem.W.mg_of X G k_SET_SLAB⟩
    k_MAX_VALUE := ⟨_, PySem.W.mg_of X G k_MAX_VALUE⟩
    k_MAX_VALUE_OF := ⟨_, PySem.W.mg_of X G k_MAX_VALUE_OF⟩
    k_BEST_PATTERN := ⟨_, PySem.W.mg_of X G k_BEST_PATTERN⟩
    k_STONE_COUNTS := ⟨_, PySem.W.mg_of X G k_STONE_COUNTS⟩
    k_WASTE_AREA := ⟨_, PySem.W.mg_of X G k_WASTE_AREA⟩
    k_CHECK_PATTERN := ⟨_, PySem.W.mg_of X G k_CHECK_PATTERN⟩
    k_VALUES_FOR_HEIGHT := ⟨_, PySem.W.mg_of X G k_VALUES_FOR_HEIGHT⟩
    k_MAX_VALUE_WITHOUT := ⟨_, PySem.W.mg_of X G k_MAX_VALUE_WITHOUT⟩
    k_MAX_VALUE_IF_VALUE := ⟨_, PySem.W.mg_of X G k_MAX_VALUE_IF_VALUE⟩
    k_NO_FIT := ⟨_, PySem.W.mg_of X G k_NO_FIT⟩
    k_NO_INSTANCE := ⟨_, PySem.W.mg_of X G k_NO_INSTANCE⟩
    k_NO_SUCH_KIND := ⟨_, PySem.W.mg_of X G k_NO_SUCH_KIND⟩
    k_OUT_OF_RANGE := ⟨_, PySem.W.mg_of X G k_OUT_OF_RANGE⟩
    k_TOO_MANY_KINDS := ⟨_, PySem.W.mg_of X G k_TOO_MANY_KINDS⟩
    k_WASTE := ⟨_, PySem.W.mg_of X G k_WASTE⟩
    k_STONE := ⟨_, PySem.W.mg_of X G k_STONE⟩
    k_VERTICAL_CUT := ⟨_, PySem.W.mg_of X G k_VERTICAL_CUT⟩
    k_HORIZONTAL_CUT := ⟨_, PySem.W.mg_of X G k_HORIZONTAL_CUT⟩
    k_PARAMETER_COUNTS := ⟨_, PySem.W.mg_of X G k_PARAMETER_COUNTS, fun H => .inr ⟨_, _, _, l_PARAMETER_COUNTS, rfl, rfl, (by show 17 ≤ sizeLine; decide), .cons ⟨_, rfl⟩ (.cons ⟨_, rfl⟩ (.cons ⟨_, rfl⟩ (.cons ⟨_, rfl⟩ (.cons ⟨_, rfl⟩ (.cons ⟨_, rfl⟩ (.cons ⟨_, rfl⟩ (.cons ⟨_, rfl⟩ (.cons ⟨_, rfl⟩ (.cons ⟨_, rfl⟩ (.cons ⟨_, rfl⟩ (.cons ⟨_, rfl⟩ (.cons ⟨_, rfl⟩ (.cons ⟨_, rfl⟩ (.cons ⟨_, rfl⟩ (.cons ⟨_, rfl⟩ (.cons ⟨_, rfl⟩ (.nil)))))))))))))))))⟩⟩
    b_len := PySem.W.mg_none_of X G b_len
    b_max := PySem.W.mg_none_of X G b_max
    b_range := PySem.W.mg_none_of X G b_range
    b_enumerate := PySem.W.mg_none_of X G b_enumerate
    b_sum := PySem.W.mg_none_of X G b_sum
    b_list := PySem.W.mg_none_of X G b_list
  }
  have F0 := fun_mk (st := s_is_side) l0 c0 k0
  have b0 := F0.binds (ps := ["number"]) fun _ _ _ _ _ _ us hl => match us, hl with | [_], _ => rfl
  have F1 := fun_mk (st := s_is_value) l1 c1 k1
  have b1 := F1.binds (ps := ["number"]) fun _ _ _ _ _ _ us hl => match us, hl with | [_], _ => rfl
  have F2 := fun_mk (st := s_is_may_turn) l2 c2 k2
  have b2 := F2.binds (ps := ["number"]) fun _ _ _ _ _ _ us hl => match us, hl with | [_], _ => rfl
  have F3 := fun_mk (st := s_Kind___init__) l3 c3 k3
  have b3 := F3.binds (ps := ["self", "width", "height", "value", "may_turn"]) fun _ _ _ _ _ _ us hl => match us, hl with | [_, _, _, _, _], _ => rfl
  have F4 := fun_mk (st := s_Kind_matches) l4 c4 k4
  have b4 := F4.binds (ps := ["self", "x", "y"]) fun _ _ _ _ _ _ us hl => match us, hl with | [_, _, _], _ => rfl
  have F5 := fun_mk (st := s_stone_worth) l5 c5 k5
  have b5 := F5.binds (ps := ["kinds", "x", "y"]) fun _ _ _ _ _ _ us hl => match us, hl with | [_, _, _], _ => rfl
  have F6 := fun_mk (st := s_vertical_cut_worth) l6 c6 k6
  have b6 := F6.binds (ps := ["worths", "x", "y", "c"]) fun _ _ _ _ _ _ us hl => match us, hl with | [_, _, _, _], _ => rfl
  have F7 := fun_mk (st := s_horizontal_cut_worth) l7 c7 k7
  have b7 := F7.binds (ps := ["worths", "x", "y", "c"]) fun _ _ _ _ _ _ us hl => match us, hl with | [_, _, _, _], _ => rfl
  have F8 := fun_mk (st := s_cut_worth) l8 c8 k8
  have b8 := F8.binds (ps := ["worths", "x", "y"]) fun _ _ _ _ _ _ us hl => match us, hl with | [_, _, _], _ => rfl
  have F9 := fun_mk (st := s_max_worths) l9 c9 k9
  have b9 := F9.binds (ps := ["kinds", "width", "height"]) fun _ _ _ _ _ _ us hl => match us, hl with | [_, _, _], _ => rfl
  have F10 := fun_mk (st := s_max_worth) l10 c10 k10
  have b10 := F10.binds (ps := ["kinds", "width", "height"]) fun _ _ _ _ _ _ us hl => match us, hl with | [_, _, _], _ => rfl
  have F11 := fun_mk (st := s_first_best_kind) l11 c11 k11
  have b11 := F11.binds (ps := ["kinds", "worths", "x", "y"]) fun _ _ _ _ _ _ us hl => match us, hl with | [_, _, _, _], _ => rfl
  have F12 := fun_mk (st := s_first_best_vertical_cut) l12 c12 k12
  have b12 := F12.binds (ps := ["worths", "x", "y"]) fun _ _ _ _ _ _ us hl => match us, hl with | [_, _, _], _ => rfl
  have F13 := fun_mk (st := s_first_best_horizontal_cut) l13 c13 k13
  have b13 := F13.binds (ps := ["worths", "x", "y"]) fun _ _ _ _ _ _ us hl => match us, hl with | [_, _, _], _ => rfl
  have F14 := fun_mk (st := s_best_step) l14 c14 k14
  have b14 := F14.binds (ps := ["kinds", "worths", "x", "y"]) fun _ _ _ _ _ _ us hl => match us, hl with | [_, _, _, _], _ => rfl
  have F15 := fun_mk (st := s_parts_behind) l15 c15 k15
  have b15 := F15.binds (ps := ["step", "x", "y"]) fun _ _ _ _ _ _ us hl => match us, hl with | [_, _, _], _ => rfl
  have F16 := fun_mk (st := s_is_cut) l16 c16 k16
  have b16 := F16.binds (ps := ["step"]) fun _ _ _ _ _ _ us hl => match us, hl with | [_], _ => rfl
  have F17 := fun_mk (st := s_stones_in) l17 c17 k17
  have b17 := F17.binds (ps := ["steps"]) fun _ _ _ _ _ _ us hl => match us, hl with | [_], _ => rfl
  have F18 := fun_mk (st := s_encoding_of) l18 c18 k18
  have b18 := F18.binds (ps := ["steps"]) fun _ _ _ _ _ _ us hl => match us, hl with | [_], _ => rfl
  have F19 := fun_mk (st := s_best_steps) l19 c19 k19
  have b19 := F19.binds (ps := ["kinds", "width", "height"]) fun _ _ _ _ _ _ us hl => match us, hl with | [_, _, _], _ => rfl
  have F20 := fun_mk (st := s_step_at) l20 c20 k20
  have b20 := F20.binds (ps := ["encoding", "place"]) fun _ _ _ _ _ _ us hl => match us, hl with | [_, _], _ => rfl
  have F21 := fun_mk (st := s_steps_of) l21 c21 k21
  have b21 := F21.binds (ps := ["encoding"]) fun _ _ _ _ _ _ us hl => match us, hl with | [_], _ => rfl
  have F22 := fun_mk (st := s_step_fits) l22 c22 k22
  have b22 := F22.binds (ps := ["kinds", "step", "x", "y"]) fun _ _ _ _ _ _ us hl => match us, hl with | [_, _, _, _], _ => rfl
  have F23 := fun_mk (st := s_fits) l23 c23 k23
  have b23 := F23.binds (ps := ["kinds", "steps", "width", "height"]) fun _ _ _ _ _ _ us hl => match us, hl with | [_, _, _, _], _ => rfl
  have F24 := fun_mk (st := s_counts_by_kind) l24 c24 k24
  have b24 := F24.binds (ps := ["kinds", "stones"]) fun _ _ _ _ _ _ us hl => match us, hl with | [_, _], _ => rfl
  have F25 := fun_mk (st := s_value_together) l25 c25 k25
  have b25 := F25.binds (ps := ["kinds", "stones"]) fun _ _ _ _ _ _ us hl => match us, hl with | [_, _], _ => rfl
  have F26 := fun_mk (st := s_area_together) l26 c26 k26
  have b26 := F26.binds (ps := ["kinds", "stones"]) fun _ _ _ _ _ _ us hl => match us, hl with | [_, _], _ => rfl
  have F27 := fun_mk (st := s_Kind_with_value) l27 c27 k27
  have b27 := F27.binds (ps := ["self", "value"]) fun _ _ _ _ _ _ us hl => match us, hl with | [_, _], _ => rfl
  have F28 := fun_mk (st := s_Saw___init__) l28 c28 k28
  have b28 := F28.binds (ps := ["self"]) fun _ _ _ _ _ _ us hl => match us, hl with | [_], _ => rfl
  have F29 := fun_mk (st := s_Saw_has_kind) l29 c29 k29
  have b29 := F29.binds (ps := ["self", "k"]) fun _ _ _ _ _ _ us hl => match us, hl with | [_, _], _ => rfl
  have F30 := fun_mk (st := s_Saw_create) l30 c30 k30
  have b30 := F30.binds (ps := ["self", "width", "height"]) fun _ _ _ _ _ _ us hl => match us, hl with | [_, _, _], _ => rfl
  have F31 := fun_mk (st := s_Saw_set_slab) l31 c31 k31
  have b31 := F31.binds (ps := ["self", "width", "height"]) fun _ _ _ _ _ _ us hl => match us, hl with | [_, _, _], _ => rfl
  have F32 := fun_mk (st := s_Saw_add_kind) l32 c32 k32
  have b32 := F32.binds (ps := ["self", "width", "height", "value", "may_turn"]) fun _ _ _ _ _ _ us hl => match us, hl with | [_, _, _, _, _], _ => rfl
  have F33 := fun_mk (st := s_Saw_remove_kind) l33 c33 k33
  have b33 := F33.binds (ps := ["self", "k"]) fun _ _ _ _ _ _ us hl => match us, hl with | [_, _], _ => rfl
  have F34 := fun_mk (st := s_Saw_set_value) l34 c34 k34
  have b34 := F34.binds (ps := ["self", "k", "value"]) fun _ _ _ _ _ _ us hl => match us, hl with | [_, _, _], _ => rfl
  have F35 := fun_mk (st := s_Saw_set_may_turn) l35 c35 k35
  have b35 := F35.binds (ps := ["self", "k", "may_turn"]) fun _ _ _ _ _ _ us hl => match us, hl with | [_, _, _], _ => rfl
  have F36 := fun_mk (st := s_Saw_max_value) l36 c36 k36
  have b36 := F36.binds (ps := ["self"]) fun _ _ _ _ _ _ us hl => match us, hl with | [_], _ => rfl
  have F37 := fun_mk (st := s_Saw_max_value_of) l37 c37 k37
  have b37 := F37.binds (ps := ["self", "x", "y"]) fun _ _ _ _ _ _ us hl => match us, hl with | [_, _, _], _ => rfl
  have F38 := fun_mk (st := s_Saw_best_pattern) l38 c38 k38
  have b38 := F38.binds (ps := ["self"]) fun _ _ _ _ _ _ us hl => match us, hl with | [_], _ => rfl
  have F39 := fun_mk (st := s_Saw_best_stones) l39 c39 k39
  have b39 := F39.binds (ps := ["self"]) fun _ _ _ _ _ _ us hl => match us, hl with | [_], _ => rfl
  have F40 := fun_mk (st := s_Saw_stone_counts) l40 c40 k40
  have b40 := F40.binds (ps := ["self"]) fun _ _ _ _ _ _ us hl => match us, hl with | [_], _ => rfl
  have F41 := fun_mk (st := s_Saw_waste_area) l41 c41 k41
  have b41 := F41.binds (ps := ["self"]) fun _ _ _ _ _ _ us hl => match us, hl with | [_], _ => rfl
  have F42 := fun_mk (st := s_Saw_check_pattern) l42 c42 k42
  have b42 := F42.binds (ps := ["self", "pattern"]) fun _ _ _ _ _ _ us hl => match us, hl with | [_, _], _ => rfl
  have F43 := fun_mk (st := s_Saw_values_for_height) l43 c43 k43
  have b43 := F43.binds (ps := ["self", "y"]) fun _ _ _ _ _ _ us hl => match us, hl with | [_, _], _ => rfl
  have F44 := fun_mk (st := s_Saw_max_value_without) l44 c44 k44
  have b44 := F44.binds (ps := ["self", "k"]) fun _ _ _ _ _ _ us hl => match us, hl with | [_, _], _ => rfl
  have F45 := fun_mk (st := s_Saw_max_value_if_value) l45 c45 k45
  have b45 := F45.binds (ps := ["self", "k", "value"]) fun _ _ _ _ _ _ us hl => match us, hl with | [_, _, _], _ => rfl
  have F46 := fun_mk (st := s_Saw_min_height) l46 c46 k46
  have b46 := F46.binds (ps := ["self", "value"]) fun _ _ _ _ _ _ us hl => match us, hl with | [_, _], _ => rfl
  have F47 := fun_mk (st := s_Saw_describe) l47 c47 k47
  have b47 := F47.binds (ps := ["self"]) fun _ _ _ _ _ _ us hl => match us, hl with | [_], _ => rfl
  have F48 := fun_mk (st := s_answer_of_change) l48 c48 k48
  have b48 := F48.binds (ps := ["saw", "number", "parameters"]) fun _ _ _ _ _ _ us hl => match us, hl with | [_, _, _], _ => rfl
  have F49 := fun_mk (st := s_answer_of_plain_query) l49 c49 k49
  have b49 := F49.binds (ps := ["saw", "number"]) fun _ _ _ _ _ _ us hl => match us, hl with | [_, _], _ => rfl
  have F50 := fun_mk (st := s_answer_of_query) l50 c50 k50
  have b50 := F50.binds (ps := ["saw", "number", "parameters"]) fun _ _ _ _ _ _ us hl => match us, hl with | [_, _, _], _ => rfl
  have F51 := fun_mk (st := s_answer_of) l51 c51 k51
  have b51 := F51.binds (ps := ["saw", "number", "parameters"]) fun _ _ _ _ _ _ us hl => match us, hl with | [_, _, _], _ => rfl
  have F52 := fun_mk (st := s_parameters_at) l52 c52 k52
  have b52 := F52.binds (ps := ["calls", "place"]) fun _ _ _ _ _ _ us hl => match us, hl with | [_, _], _ => rfl
  have F53 := fun_mk (st := s_answers) l53 c53 k53
  refine ⟨PySem.W.fnOf "answers" "answers" (defArgs s_answers) (defBody s_answers) (defScope s_answers) .none kV53 dc53 pm53 an53 cd53 ct53, fun s us hu => match us, hu with | [_], _ => .of_eq rfl, fun base _ _ => ?_⟩
  have c_is_side : Cal P w K mg base "is_side" 1 ["number"] (spTest Sr111.isSide) := ⟨_, _, PySem.W.mg_of X G a0, k0, b0, ok_is_side F0 T ⟩
  have c_is_value : Cal P w K mg base "is_value" 1 ["number"] (spTest Sr111.isValue) := ⟨_, _, PySem.W.mg_of X G a1, k1, b1, ok_is_value F1 T ⟩
  have c_is_may_turn : Cal P w K mg base "is_may_turn" 1 ["number"] (spTest Sr111.isFlag) := ⟨_, _, PySem.W.mg_of X G a2, k2, b2, ok_is_may_turn F2 T ⟩
  have M_Kind : Mk K CK f3 := ⟨mkCK, a3, i3, kcCK⟩
  have G_Kind : FnOk P w K mg base CX0 1 f3 _ ["self", "width", "height", "value", "may_turn"] (spKind CK) := ok_Kind F3 T 
  have b_Kind := b3
  have c_matches : MCal P w K mg base CK "matches" 1 ["self", "x", "y"] (spMatches CK) := ⟨_, _, ⟨a4, i4, k4⟩, b4, ok_matches F4 T ⟩
  have c_stone_worth : Cal P w K mg base "stone_worth" 2 ["kinds", "x", "y"] (spStone CK) := ⟨_, _, PySem.W.mg_of X G a5, k5, b5, ok_stone_worth F5 T c_matches⟩
  have c_vertical_cut_worth : Cal P w K mg base "vertical_cut_worth" 1 ["worths", "x", "y", "c"] spCutV := ⟨_, _, PySem.W.mg_of X G a6, k6, b6, ok_vertical_cut_worth F6 T ⟩
  have c_horizontal_cut_worth : Cal P w K mg base "horizontal_cut_worth" 1 ["worths", "x", "y", "c"] spCutH := ⟨_, _, PySem.W.mg_of X G a7, k7, b7, ok_horizontal_cut_worth F7 T ⟩
  have c_cut_worth : Cal P w K mg base "cut_worth" 2 ["worths", "x", "y"] spCut := ⟨_, _, PySem.W.mg_of X G a8, k8, b8, ok_cut_worth F8 T c_vertical_cut_worth c_horizontal_cut_worth⟩
  have c_max_worths : Cal P w K mg base "max_worths" 3 ["kinds", "width", "height"] (spWorths CK) := ⟨_, _, PySem.W.mg_of X G a9, k9, b9, ok_max_worths F9 T c_stone_worth c_cut_worth⟩
  have c_max_worth : Cal P w K mg base "max_worth" 4 ["kinds", "width", "height"] (spWorth CK) := ⟨_, _, PySem.W.mg_of X G a10, k10, b10, ok_max_worth F10 T c_max_worths⟩
  have c_first_best_kind : Cal P w K mg base "first_best_kind" 2 ["kinds", "worths", "x", "y"] (spFK CK) := ⟨_, _, PySem.W.mg_of X G a11, k11, b11, ok_first_best_kind F11 T c_matches⟩
  have c_first_best_vertical_cut : Cal P w K mg base "first_best_vertical_cut" 2 ["worths", "x", "y"] (spFC Sm.vcut) := ⟨_, _, PySem.W.mg_of X G a12, k12, b12, ok_first_best_vertical_cut F12 T c_vertical_cut_worth⟩
  have c_first_best_horizontal_cut : Cal P w K mg base "first_best_horizontal_cut" 2 ["worths", "x", "y"] (spFC Sm.hcut) := ⟨_, _, PySem.W.mg_of X G a13, k13, b13, ok_first_best_horizontal_cut F13 T c_horizontal_cut_worth⟩
  have c_best_step : Cal P w K mg base "best_step" 3 ["kinds", "worths", "x", "y"] (spStep CK) := ⟨_, _, PySem.W.mg_of X G a14, k14, b14, ok_best_step F14 T c_first_best_kind c_first_best_vertical_cut c_first_best_horizontal_cut⟩
  have c_parts_behind : Cal P w K mg base "parts_behind" 1 ["step", "x", "y"] spParts := ⟨_, _, PySem.W.mg_of X G a15, k15, b15, ok_parts_behind F15 T ⟩
  have c_is_cut : Cal P w K mg base "is_cut" 1 ["step"] spCutQ := ⟨_, _, PySem.W.mg_of X G a16, k16, b16, ok_is_cut F16 T ⟩
  have c_stones_in : Cal P w K mg base "stones_in" 1 ["steps"] spStones := ⟨_, _, PySem.W.mg_of X G a17, k17, b17, ok_stones_in F17 T ⟩
  have c_encoding_of : Cal P w K mg base "encoding_of" 1 ["steps"] spEncOf := ⟨_, _, PySem.W.mg_of X G a18, k18, b18, ok_encoding_of F18 T ⟩
  have c_best_steps : Cal P w K mg base "best_steps" 4 ["kinds", "width", "height"] (spSteps CK) := ⟨_, _, PySem.W.mg_of X G a19, k19, b19, ok_best_steps F19 T c_max_worths c_best_step c_parts_behind⟩
  have c_step_at : Cal P w K mg base "step_at" 2 ["encoding", "place"] spStepAt := ⟨_, _, PySem.W.mg_of X G a20, k20, b20, ok_step_at F20 T c_is_cut⟩
  have c_steps_of : Cal P w K mg base "steps_of" 3 ["encoding"] spStepsOf := ⟨_, _, PySem.W.mg_of X G a21, k21, b21, ok_steps_of F21 T c_is_cut c_step_at⟩
  have c_step_fits : Cal P w K mg base "step_fits" 2 ["kinds", "step", "x", "y"] (spFitQ CK) := ⟨_, _, PySem.W.mg_of X G a22, k22, b22, ok_step_fits F22 T c_matches⟩
  have c_fits : Cal P w K mg base "fits" 3 ["kinds", "steps", "width", "height"] (spFits CK) := ⟨_, _, PySem.W.mg_of X G a23, k23, b23, ok_fits F23 T c_step_fits c_parts_behind⟩
  have c_counts_by_kind : Cal P w K mg base "counts_by_kind" 1 ["kinds", "stones"] (spCounts CK) := ⟨_, _, PySem.W.mg_of X G a24, k24, b24, ok_counts_by_kind F24 T ⟩
  have c_value_together : Cal P w K mg base "value_together" 1 ["kinds", "stones"] (spTogether CK Sr111.Kind.value) := ⟨_, _, PySem.W.mg_of X G a25, k25, b25, ok_value_together F25 T ⟩
  have c_area_together : Cal P w K mg base "area_together" 1 ["kinds", "stones"] (spTogether CK fun k => k.width * k.height) := ⟨_, _, PySem.W.mg_of X G a26, k26, b26, ok_area_together F26 T ⟩
  have c_with_value : MCal P w K mg base CK "with_value" 3 ["self", "value"] (spWith CK) := ⟨_, _, ⟨a27, i27, k27⟩, b27, ok_with_value F27 T M_Kind G_Kind b_Kind⟩
  have M_Saw : Mk K CS f28 := ⟨mkCS, a28, i28, kcCS⟩
  have G_Saw : FnOk P w K mg base CX0 1 f28 _ ["self"] (spSaw CS CK) := ok_Saw F28 T 
  have b_Saw := b28
  have c_has_kind : MCal P w K mg base CS "has_kind" 1 ["self", "k"] (spHas CS CK) := ⟨_, _, ⟨a29, i29, k29⟩, b29, ok_has_kind F29 T ⟩
  have c_create : MCal P w K mg base CS "create" 2 ["self", "width", "height"] (spCreate CS CK) := ⟨_, _, ⟨a30, i30, k30⟩, b30, ok_create F30 T c_is_side⟩
  have c_set_slab : MCal P w K mg base CS "set_slab" 2 ["self", "width", "height"] (spOp2 CS CK .setSlab) := ⟨_, _, ⟨a31, i31, k31⟩, b31, ok_set_slab F31 T c_is_side⟩
  have c_add_kind : MCal P w K mg base CS "add_kind" 3 ["self", "width", "height", "value", "may_turn"] (spOp4 CS CK .addKind) := ⟨_, _, ⟨a32, i32, k32⟩, b32, ok_add_kind F32 T c_is_side c_is_value c_is_may_turn M_Kind G_Kind b_Kind⟩
  have c_remove_kind : MCal P w K mg base CS "remove_kind" 2 ["self", "k"] (spOp1 CS CK .removeKind) := ⟨_, _, ⟨a33, i33, k33⟩, b33, ok_remove_kind F33 T c_has_kind⟩
  have c_set_value : MCal P w K mg base CS "set_value" 2 ["self", "k", "value"] (spOp2 CS CK .setValue) := ⟨_, _, ⟨a34, i34, k34⟩, b34, ok_set_value F34 T c_has_kind c_is_value⟩
  have c_set_may_turn : MCal P w K mg base CS "set_may_turn" 2 ["self", "k", "may_turn"] (spOp2 CS CK .setMayTurn) := ⟨_, _, ⟨a35, i35, k35⟩, b35, ok_set_may_turn F35 T c_has_kind c_is_may_turn⟩
  have c_max_value : MCal P w K mg base CS "max_value" 5 ["self"] (spMax CS CK) := ⟨_, _, ⟨a36, i36, k36⟩, b36, ok_max_value F36 T c_max_worth⟩
  have c_max_value_of : MCal P w K mg base CS "max_value_of" 5 ["self", "x", "y"] (spOp2 CS CK .maxValueOf) := ⟨_, _, ⟨a37, i37, k37⟩, b37, ok_max_value_of F37 T c_max_worth⟩
  have c_best_pattern : MCal P w K mg base CS "best_pattern" 6 ["self"] (spOp0 CS CK .bestPattern) := ⟨_, _, ⟨a38, i38, k38⟩, b38, ok_best_pattern F38 T c_max_value c_encoding_of c_best_steps⟩
  have c_best_stones : MCal P w K mg base CS "best_stones" 5 ["self"] (spBestStones CS CK) := ⟨_, _, ⟨a39, i39, k39⟩, b39, ok_best_stones F39 T c_stones_in c_best_steps⟩
  have c_stone_counts : MCal P w K mg base CS "stone_counts" 6 ["self"] (spOp0 CS CK .stoneCounts) := ⟨_, _, ⟨a40, i40, k40⟩, b40, ok_stone_counts F40 T c_best_stones c_counts_by_kind⟩
  have c_waste_area : MCal P w K mg base CS "waste_area" 6 ["self"] (spOp0 CS CK .wasteArea) := ⟨_, _, ⟨a41, i41, k41⟩, b41, ok_waste_area F41 T c_best_stones c_area_together⟩
  have c_check_pattern : MCal P w K mg base CS "check_pattern" 4 ["self", "pattern"] (spCheck CS CK) := ⟨_, _, ⟨a42, i42, k42⟩, b42, ok_check_pattern F42 T c_steps_of c_fits c_stones_in c_value_together c_counts_by_kind⟩
  have c_values_for_height : MCal P w K mg base CS "values_for_height" 4 ["self", "y"] (spOp1 CS CK .valuesForHeight) := ⟨_, _, ⟨a43, i43, k43⟩, b43, ok_values_for_height F43 T c_max_worths⟩
  have c_max_value_without : MCal P w K mg base CS "max_value_without" 5 ["self", "k"] (spOp1 CS CK .maxValueWithout) := ⟨_, _, ⟨a44, i44, k44⟩, b44, ok_max_value_without F44 T c_has_kind c_max_worth⟩
  have c_max_value_if_value : MCal P w K mg base CS "max_value_if_value" 5 ["self", "k", "value"] (spOp2 CS CK .maxValueIfValue) := ⟨_, _, ⟨a45, i45, k45⟩, b45, ok_max_value_if_value F45 T c_has_kind c_is_value c_with_value c_max_worth⟩
  have c_min_height : MCal P w K mg base CS "min_height" 4 ["self", "value"] (spOp1 CS CK .minHeight) := ⟨_, _, ⟨a46, i46, k46⟩, b46, ok_min_height F46 T c_max_worths⟩
  have c_describe : MCal P w K mg base CS "describe" 1 ["self"] (spOp0 CS CK .describe) := ⟨_, _, ⟨a47, i47, k47⟩, b47, ok_describe F47 T ⟩
  have c_answer_of_change : Cal P w K mg base "answer_of_change" 4 ["saw", "number", "parameters"] (spChange CS CK 1 5) := ⟨_, _, PySem.W.mg_of X G a48, k48, b48, ok_answer_of_change F48 T c_add_kind c_remove_kind c_set_value c_set_may_turn c_set_slab⟩
  have c_answer_of_plain_query : Cal P w K mg base "answer_of_plain_query" 7 ["saw", "number"] (spPlain CS CK) := ⟨_, _, PySem.W.mg_of X G a49, k49, b49, ok_answer_of_plain_query F49 T c_max_value c_best_pattern c_stone_counts c_waste_area c_describe⟩
  have c_answer_of_query : Cal P w K mg base "answer_of_query" 6 ["saw", "number", "parameters"] (spQuery CS CK) := ⟨_, _, PySem.W.mg_of X G a50, k50, b50, ok_answer_of_query F50 T c_max_value_of c_check_pattern c_values_for_height c_max_value_without c_max_value_if_value c_min_height⟩
  have c_answer_of : Cal P w K mg base "answer_of" 8 ["saw", "number", "parameters"] (spAny CS CK) := ⟨_, _, PySem.W.mg_of X G a51, k51, b51, ok_answer_of F51 T c_create c_answer_of_change c_answer_of_query c_answer_of_plain_query⟩
  have c_parameters_at : Cal P w K mg base "parameters_at" 1 ["calls", "place"] (spParAt K) := ⟨_, _, PySem.W.mg_of X G a52, k52, b52, ok_parameters_at F52 T ⟩
  exact ok_answers F53 T M_Saw G_Saw b_Saw c_answer_of c_parameters_at
end Sb
open PySem PySem.W PyProof.Rows
set_option maxRecDepth 100000 in
set_option maxHeartbeats 0 in
theorem PySem.Challenge.cw_slabsaw_s01_answers_holds : PySem.Challenge.rw_slabsaw_s01_answers.Holds := by
  w_on; k_headS; (case hw => exact ⟨[.list [.int 6]], by decide +kernel, by decide +kernel⟩)
  k_fillS
  refine L2.walk_specK (r := PySem.Challenge.rw_slabsaw_s01_answers) (k := 9) (CX := L2.CX0) (ps := ["calls"]) (sp := Sb.spAns) (by decide +kernel) rfl rfl ⟨rfl, by decide, by decide⟩ (fun w h Y => PySem.W.kIn_of Y) ?F ?S (fun _ _ _ _ z => z)
  case F =>
    intro w mg fa h Y KX G hmg
    refine' Sb.all_mk KX G hmg ?aCK ?aCS ?k_PARAMETER_COUNTS ?a0 ?l0 ?c0 ?k0 ?a1 ?l1 ?c1 ?k1 ?a2 ?l2 ?c2 ?k2 ?a3 ?i3 ?l3 ?c3 ?k3 ?a4 ?i4 ?l4 ?c4 ?k4 ?a5 ?l5 ?c5 ?k5 ?a6 ?l6 ?c6 ?k6 ?a7 ?l7 ?c7 ?k7 ?a8 ?l8 ?c8 ?k8 ?a9 ?l9 ?c9 ?k9 ?a10 ?l10 ?c10 ?k10 ?a11 ?l11 ?c11 ?k11 ?a12 ?l12 ?c12 ?k12 ?a13 ?l13 ?c13 ?k13 ?a14 ?l14 ?c14 ?k14 ?a15 ?l15 ?c15 ?k15 ?a16 ?l16 ?c16 ?k16 ?a17 ?l17 ?c17 ?k17 ?a18 ?l18 ?c18 ?k18 ?a19 ?l19 ?c19 ?k19 ?a20 ?l20 ?c20 ?k20 ?a21 ?l21 ?c21 ?k21 ?a22 ?l22 ?c22 ?k22 ?a23 ?l23 ?c23 ?k23 ?a24 ?l24 ?c24 ?k24 ?a25 ?l25 ?c25 ?k25 ?a26 ?l26 ?c26 ?k26 ?a27 ?i27 ?l27 ?c27 ?k27 ?a28 ?i28 ?l28 ?c28 ?k28 ?a29 ?i29 ?l29 ?c29 ?k29 ?a30 ?i30 ?l30 ?c30 ?k30 ?a31 ?i31 ?l31 ?c31 ?k31 ?a32 ?i32 ?l32 ?c32 ?k32 ?a33 ?i33 ?l33 ?c33 ?k33 ?a34 ?i34 ?l34 ?c34 ?k34 ?a35 ?i35 ?l35 ?c35 ?k35 ?a36 ?i36 ?l36 ?c36 ?k36 ?a37 ?i37 ?l37 ?c37 ?k37 ?a38 ?i38 ?l38 ?c38 ?k38 ?a39 ?i39 ?l39 ?c39 ?k39 ?a40 ?i40 ?l40 ?c40 ?k40 ?a41 ?i41 ?l41 ?c41 ?k41 ?a42 ?i42 ?l42 ?c42 ?k42 ?a43 ?i43 ?l43 ?c43 ?k43 ?a44 ?i44 ?l44 ?c44 ?k44 ?a45 ?i45 ?l45 ?c45 ?k45 ?a46 ?i46 ?l46 ?c46 ?k46 ?a47 ?i47 ?l47 ?c47 ?k47 ?a48 ?l48 ?c48 ?k48 ?a49 ?l49 ?c49 ?k49 ?a50 ?l50 ?c50 ?k50 ?a51 ?l51 ?c51 ?k51 ?a52 ?l52 ?c52 ?k52 ?a53 ?l53 ?c53 ?k53 ?pgCK ?hdCK ?poCK ?saCK ?mkCK ?kcCK ?n_width ?n_height ?n_value ?n_may_turn ?pgCS ?hdCS ?poCS ?saCS ?mkCS ?kcCS ?s_exists ?s_width ?s_height ?s_kinds ?k_LONGEST_SIDE ?k_HIGHEST_VALUE ?k_MOST_KINDS ?k_CREATE ?k_ADD_KIND ?k_REMOVE_KIND ?k_SET_VALUE ?k_SET_MAY_TURN ?k_SET_SLAB ?k_MAX_VALUE ?k_MAX_VALUE_OF ?k_BEST_PATTERN ?k_STONE_COUNTS ?k_WASTE_AREA ?k_CHECK_PATTERN ?k_VALUES_FOR_HEIGHT ?k_MAX_VALUE_WITHOUT ?k_MAX_VALUE_IF_VALUE ?k_NO_FIT ?k_NO_INSTANCE ?k_NO_SUCH_KIND ?k_OUT_OF_RANGE ?k_TOO_MANY_KINDS ?k_WASTE ?k_STONE ?k_VERTICAL_CUT ?k_HORIZONTAL_CUT ?l_PARAMETER_COUNTS ?b_len ?b_max ?b_range ?b_enumerate ?b_sum ?b_list
    (case aCK => k_is)
    (case aCS => k_is)
    (case k_PARAMETER_COUNTS => k_is)
    (case a0 => k_is)
    (case l0 => k_is)
    (case c0 => k_is)
    (case k0 => k_is)
    (case a1 => k_is)
    (case l1 => k_is)
    (case c1 => k_is)
    (case k1 => k_is)
    (case a2 => k_is)
    (case l2 => k_is)
    (case c2 => k_is)
    (case k2 => k_is)
    (case a3 => k_is)
    (case i3 => k_is)
    (case l3 => k_is)
    (case c3 => k_is)
    (case k3 => k_is)
    (case a4 => k_is)
    (case i4 => k_is)
    (case l4 => k_is)
    (case c4 => k_is)
    (case k4 => k_is)
    (case a5 => k_is)
    (case l5 => k_is)
    (case c5 => k_is)
    (case k5 => k_is)
    (case a6 => k_is)
    (case l6 => k_is)
    (case c6 => k_is)
    (case k6 => k_is)
    (case a7 => k_is)
    (case l7 => k_is)
    (case c7 => k_is)
    (case k7 => k_is)
    (case a8 => k_is)
    (case l8 => k_is)
    (case c8 => k_is)
    (case k8 => k_is)
    (case a9 => k_is)
    (case l9 => k_is)
    (case c9 => k_is)
    (case k9 => k_is)
    (case a10 => k_is)
    (case l10 => k_is)
    (case c10 => k_is)
    (case k10 => k_is)
    (case a11 => k_is)
    (case l11 => k_is)
    (case c11 => k_is)
    (case k11 => k_is)
    (case a12 => k_is)
    (case l12 => k_is)
    (case c12 => k_is)
    (case k12 => k_is)
    (case a13 => k_is)
    (case l13 => k_is)
    (case c13 => k_is)
    (case k13 => k_is)
    (case a14 => k_is)
    (case l14 => k_is)
    (case c14 => k_is)
    (case k14 => k_is)
    (case a15 => k_is)
    (case l15 => k_is)
    (case c15 => k_is)
    (case k15 => k_is)
    (case a16 => k_is)
    (case l16 => k_is)
    (case c16 => k_is)
    (case k16 => k_is)
    (case a17 => k_is)
    (case l17 => k_is)
    (case c17 => k_is)
    (case k17 => k_is)
    (case a18 => k_is)
    (case l18 => k_is)
    (case c18 => k_is)
    (case k18 => k_is)
    (case a19 => k_is)
    (case l19 => k_is)
    (case c19 => k_is)
    (case k19 => k_is)
    (case a20 => k_is)
    (case l20 => k_is)
    (case c20 => k_is)
    (case k20 => k_is)
    (case a21 => k_is)
    (case l21 => k_is)
    (case c21 => k_is)
    (case k21 => k_is)
    (case a22 => k_is)
    (case l22 => k_is)
    (case c22 => k_is)
    (case k22 => k_is)
    (case a23 => k_is)
    (case l23 => k_is)
    (case c23 => k_is)
    (case k23 => k_is)
    (case a24 => k_is)
    (case l24 => k_is)
    (case c24 => k_is)
    (case k24 => k_is)
    (case a25 => k_is)
    (case l25 => k_is)
    (case c25 => k_is)
    (case k25 => k_is)
    (case a26 => k_is)
    (case l26 => k_is)
    (case c26 => k_is)
    (case k26 => k_is)
    (case a27 => k_is)
    (case i27 => k_is)
    (case l27 => k_is)
    (case c27 => k_is)
    (case k27 => k_is)
    (case a28 => k_is)
    (case i28 => k_is)
    (case l28 => k_is)
    (case c28 => k_is)
    (case k28 => k_is)
    (case a29 => k_is)
    (case i29 => k_is)
    (case l29 => k_is)
    (case c29 => k_is)
    (case k29 => k_is)
    (case a30 => k_is)
    (case i30 => k_is)
    (case l30 => k_is)
    (case c30 => k_is)
    (case k30 => k_is)
    (case a31 => k_is)
    (case i31 => k_is)
    (case l31 => k_is)
    (case c31 => k_is)
    (case k31 => k_is)
    (case a32 => k_is)
    (case i32 => k_is)
    (case l32 => k_is)
    (case c32 => k_is)
    (case k32 => k_is)
    (case a33 => k_is)
    (case i33 => k_is)
    (case l33 => k_is)
    (case c33 => k_is)
    (case k33 => k_is)
    (case a34 => k_is)
    (case i34 => k_is)
    (case l34 => k_is)
    (case c34 => k_is)
    (case k34 => k_is)
    (case a35 => k_is)
    (case i35 => k_is)
    (case l35 => k_is)
    (case c35 => k_is)
    (case k35 => k_is)
    (case a36 => k_is)
    (case i36 => k_is)
    (case l36 => k_is)
    (case c36 => k_is)
    (case k36 => k_is)
    (case a37 => k_is)
    (case i37 => k_is)
    (case l37 => k_is)
    (case c37 => k_is)
    (case k37 => k_is)
    (case a38 => k_is)
    (case i38 => k_is)
    (case l38 => k_is)
    (case c38 => k_is)
    (case k38 => k_is)
    (case a39 => k_is)
    (case i39 => k_is)
    (case l39 => k_is)
    (case c39 => k_is)
    (case k39 => k_is)
    (case a40 => k_is)
    (case i40 => k_is)
    (case l40 => k_is)
    (case c40 => k_is)
    (case k40 => k_is)
    (case a41 => k_is)
    (case i41 => k_is)
    (case l41 => k_is)
    (case c41 => k_is)
    (case k41 => k_is)
    (case a42 => k_is)
    (case i42 => k_is)
    (case l42 => k_is)
    (case c42 => k_is)
    (case k42 => k_is)
    (case a43 => k_is)
    (case i43 => k_is)
    (case l43 => k_is)
    (case c43 => k_is)
    (case k43 => k_is)
    (case a44 => k_is)
    (case i44 => k_is)
    (case l44 => k_is)
    (case c44 => k_is)
    (case k44 => k_is)
    (case a45 => k_is)
    (case i45 => k_is)
    (case l45 => k_is)
    (case c45 => k_is)
    (case k45 => k_is)
    (case a46 => k_is)
    (case i46 => k_is)
    (case l46 => k_is)
    (case c46 => k_is)
    (case k46 => k_is)
    (case a47 => k_is)
    (case i47 => k_is)
    (case l47 => k_is)
    (case c47 => k_is)
    (case k47 => k_is)
    (case a48 => k_is)
    (case l48 => k_is)
    (case c48 => k_is)
    (case k48 => k_is)
    (case a49 => k_is)
    (case l49 => k_is)
    (case c49 => k_is)
    (case k49 => k_is)
    (case a50 => k_is)
    (case l50 => k_is)
    (case c50 => k_is)
    (case k50 => k_is)
    (case a51 => k_is)
    (case l51 => k_is)
    (case c51 => k_is)
    (case k51 => k_is)
    (case a52 => k_is)
    (case l52 => k_is)
    (case c52 => k_is)
    (case k52 => k_is)
    (case a53 => k_is)
    (case l53 => k_is)
    (case c53 => k_is)
    (case k53 => k_is)
    (case pgCK => k_is)
    (case hdCK => k_is)
    (case poCK => k_is)
    (case saCK => k_is)
    (case mkCK => k_is)
    (case kcCK => k_is)
    (case n_width => k_is)
    (case n_height => k_is)
    (case n_value => k_is)
    (case n_may_turn => k_is)
    (case pgCS => k_is)
    (case hdCS => k_is)
    (case poCS => k_is)
    (case saCS => k_is)
    (case mkCS => k_is)
    (case kcCS => k_is)
    (case s_exists => k_is)
    (case s_width => k_is)
    (case s_height => k_is)
    (case s_kinds => k_is)
    (case k_LONGEST_SIDE => k_is)
    (case k_HIGHEST_VALUE => k_is)
    (case k_MOST_KINDS => k_is)
    (case k_CREATE => k_is)
    (case k_ADD_KIND => k_is)
    (case k_REMOVE_KIND => k_is)
    (case k_SET_VALUE => k_is)
    (case k_SET_MAY_TURN => k_is)
    (case k_SET_SLAB => k_is)
    (case k_MAX_VALUE => k_is)
    (case k_MAX_VALUE_OF => k_is)
    (case k_BEST_PATTERN => k_is)
    (case k_STONE_COUNTS => k_is)
    (case k_WASTE_AREA => k_is)
    (case k_CHECK_PATTERN => k_is)
    (case k_VALUES_FOR_HEIGHT => k_is)
    (case k_MAX_VALUE_WITHOUT => k_is)
    (case k_MAX_VALUE_IF_VALUE => k_is)
    (case k_NO_FIT => k_is)
    (case k_NO_INSTANCE => k_is)
    (case k_NO_SUCH_KIND => k_is)
    (case k_OUT_OF_RANGE => k_is)
    (case k_TOO_MANY_KINDS => k_is)
    (case k_WASTE => k_is)
    (case k_STONE => k_is)
    (case k_VERTICAL_CUT => k_is)
    (case k_HORIZONTAL_CUT => k_is)
    (case l_PARAMETER_COUNTS => k_is)
    (case b_len => k_is)
    (case b_max => k_is)
    (case b_range => k_is)
    (case b_enumerate => k_is)
    (case b_sum => k_is)
    (case b_list => k_is)
  case S =>
    intro K H xs a hO hwi hask hx
    cases hx with
    | cons h1 h2 =>
      cases h2
      cases h1 with
      | lst hs ha =>
        have e := L2.ints_dw a.1 _ ha
        subst e
        exact ⟨_, a.1, rfl, hs, hask, fun H' p hp => .lst (L2.SqL.of hp) (L2.dw_ints _)⟩
#print axioms PySem.Challenge.cw_slabsaw_s01_answers_holds

