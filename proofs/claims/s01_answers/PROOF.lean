import PyProof.Rows.All
import PyKs570
import Wide.All
import OpenK.AllK
import Wide.FinOn
import Open.SpecLaws
import KE.OsGo
import KE.DataMinKey
import HandS.ForSpec
import HandS.ForMost
import HandS.SetKeys
import HandS.Conv
import HandS.Codes
import HandS.Deep
import HandS.CallLocal
import HandS.Lambda
import HandS.Nested
import HandS.SortKw
import HandS.Evl
import HandS.WideBits
import HandS.Walk
import HandS.TupLen
import PySem.Challenge.RW_restgroups_s01_answers
import PyFlatLaws
import HandS.EndTab
set_option Elab.async false
set_option maxRecDepth 100000
/-! the mathematics, over the specification's own words alone -/
namespace Rg
open Ks565
/-- the numbers as they first come -/
def firsts (g : List Nat) : List Nat := g.foldl (fun l x => if l.contains x then l else l ++ [x]) []
def place (f : List Nat) (x : Nat) : Nat := (f.takeWhile fun y => y != x).length
theorem tidy_is (g : List Nat) : tidy g = g.map (place (firsts g)) := rfl
theorem firsts_snoc (g : List Nat) (x : Nat) : firsts (g ++ [x]) = if (firsts g).contains x then firsts g else firsts g ++ [x] := by
  unfold firsts
  rw [List.foldl_append]
  rfl
theorem list_rev_ind {α : Type} {p : List α → Prop} (h0 : p []) (h1 : ∀ l x, p l → p (l ++ [x])) : ∀ l, p l := by
  intro l
  have q : ∀ r : List α, p r.reverse := by
    intro r
    induction r with
    | nil => exact h0
    | cons x r ih =>
      rw [List.reverse_cons]
      exact h1 _ _ ih
  have := q l.reverse
  rwa [List.reverse_reverse] at this
theorem firsts_mem (g : List Nat) : ∀ x, x ∈ firsts g ↔ x ∈ g := by
  refine list_rev_ind (p := fun g => ∀ x, x ∈ firsts g ↔ x ∈ g) (fun x => Iff.rfl) (fun l y ih x => ?_) g
  rw [firsts_snoc]
  by_cases c : (firsts l).contains y = true
  · rw [if_pos c, ih x, List.mem_append]
    have hy : y ∈ l := (ih y).mp (List.contains_iff_mem.mp c)
    constructor
    · exact .inl
    · rintro (h | h)
      · exact h
      · rw [List.mem_singleton.mp h]; exact hy
  · rw [if_neg c, List.mem_append, List.mem_append, ih x]
theorem firsts_len (g : List Nat) : (firsts g).length ≤ g.length := by
  refine list_rev_ind (p := fun g => (firsts g).length ≤ g.length) (Nat.le_refl _) (fun l y ih => ?_) g
  rw [firsts_snoc, List.length_append]
  split
  · exact Nat.le_trans ih (Nat.le_add_right _ _)
  · rw [List.length_append]
    exact Nat.add_le_add_right ih _
theorem place_lt : ∀ {f : List Nat} {x : Nat}, x ∈ f → place f x < f.length
  | y :: r, x, h => by
    unfold place
    rw [List.takeWhile_cons]
    by_cases e : y = x
    · subst e
      simp
    · have hb : (y != x) = true := by simp [e]
      have hm : x ∈ r := by
        rcases List.mem_cons.mp h with q | q
        · exact absurd q.symm e
        · exact q
      rw [hb, if_pos rfl, List.length_cons, List.length_cons]
      have ih := place_lt hm
      unfold place at ih
      omega
theorem tidy_len (g : List Nat) : (tidy g).length = g.length := by
  rw [tidy_is, List.length_map]
theorem tidy_lt {g : List Nat} {x : Nat} (h : x ∈ tidy g) : x < g.length := by
  rw [tidy_is] at h
  obtain ⟨y, hy, rfl⟩ := List.mem_map.mp h
  exact Nat.lt_of_lt_of_le (place_lt ((firsts_mem g y).mpr hy)) (firsts_len g)
/-- told by other numbers, the groups are the same -/
theorem firsts_map {f : Nat → Nat} (g : List Nat) (hf : ∀ x ∈ g, ∀ y ∈ g, f x = f y → x = y) : firsts (g.map f) = (firsts g).map f := by
  refine list_rev_ind (p := fun g => (∀ x ∈ g, ∀ y ∈ g, f x = f y → x = y) → firsts (g.map f) = (firsts g).map f) (fun _ => rfl) (fun l z ih hf => ?_) g hf
  have ih := ih fun x hx y hy => hf x (List.mem_append.mpr (.inl hx)) y (List.mem_append.mpr (.inl hy))
  have hz : z ∈ l ++ [z] := List.mem_append.mpr (.inr (List.mem_singleton.mpr rfl))
  rw [List.map_append, List.map_singleton, firsts_snoc, firsts_snoc, ih]
  have hc : ((firsts l).map f).contains (f z) = (firsts l).contains z := by
    rw [Bool.eq_iff_iff, List.contains_iff_mem, List.contains_iff_mem, List.mem_map]
    constructor
    · rintro ⟨y, hy, e⟩
      rw [← hf y (List.mem_append.mpr (.inl ((firsts_mem l y).mp hy))) z hz e]
      exact hy
    · exact fun h => ⟨z, h, rfl⟩
  rw [hc]
  by_cases c : (firsts l).contains z = true
  · rw [if_pos c, if_pos c]
  · rw [if_neg c, if_neg c, List.map_append, List.map_singleton]
theorem place_map {f : Nat → Nat} {x : Nat} : ∀ {l : List Nat}, (∀ y ∈ l, f y = f x → y = x) → place (l.map f) (f x) = place l x
  | [], _ => rfl
  | y :: r, h => by
    unfold place
    rw [List.map_cons, List.takeWhile_cons, List.takeWhile_cons]
    have ih := place_map (l := r) fun z hz => h z (List.mem_cons.mpr (.inr hz))
    unfold place at ih
    by_cases e : y = x
    · subst e
      simp
    · have e2 : ¬ f y = f x := fun q => e (h y (List.mem_cons.mpr (.inl rfl)) q)
      have b1 : (y != x) = true := by simp [e]
      have b2 : (f y != f x) = true := by simp [e2]
      rw [b1, b2, if_pos rfl, if_pos rfl, List.length_cons, List.length_cons, ih]
theorem tidy_map {f : Nat → Nat} {g : List Nat} (hf : ∀ x ∈ g, ∀ y ∈ g, f x = f y → x = y) : tidy (g.map f) = tidy g := by
  rw [tidy_is, tidy_is, firsts_map g hf, List.map_map]
  apply List.map_congr_left
  intro x hx
  exact place_map fun y hy => hf y ((firsts_mem g y).mp hy) x hx
/-! how many groups -/
theorem foldl_max_ge : ∀ (l : List Nat) (a : Nat), a ≤ l.foldl max a
  | [], _ => Nat.le_refl _
  | x :: r, a => Nat.le_trans (Nat.le_max_left a x) (foldl_max_ge r (max a x))
theorem foldl_max_mem : ∀ (l : List Nat) (a : Nat), ∀ x ∈ l, x ≤ l.foldl max a
  | y :: r, a, x, h => by
    rcases List.mem_cons.mp h with e | q
    · rw [e]
      exact Nat.le_trans (Nat.le_max_right a y) (foldl_max_ge r (max a y))
    · exact foldl_max_mem r (max a y) x q
theorem foldl_max_le : ∀ (l : List Nat) (a m : Nat), a ≤ m → (∀ x ∈ l, x ≤ m) → l.foldl max a ≤ m
  | [], _, _, h, _ => h
  | y :: r, a, m, h, hl => foldl_max_le r (max a y) m (Nat.max_le.mpr ⟨h, hl y (List.mem_cons.mpr (.inl rfl))⟩) fun x hx => hl x (List.mem_cons.mpr (.inr hx))
theorem groups_of_max {g : List Nat} {m : Nat} (hm : m ∈ g) (h : ∀ y ∈ g, y ≤ m) : groups g = m + 1 := by
  unfold groups
  rw [Nat.le_antisymm (foldl_max_le g 0 m (Nat.zero_le _) h) (foldl_max_mem g 0 m hm)]
theorem lt_groups {g : List Nat} {x : Nat} (h : x ∈ g) : x < groups g := Nat.lt_succ_of_le (foldl_max_mem g 0 x h)
theorem groups_le {g : List Nat} {n : Nat} (hn : 0 < n) (h : ∀ x ∈ g, x < n) : groups g ≤ n := by
  have q := foldl_max_le g 0 (n - 1) (Nat.zero_le _) fun x hx => Nat.le_sub_one_of_lt (h x hx)
  unfold groups
  omega
/-! sums -/
theorem foldl_add (l : List Int) : ∀ a : Int, l.foldl (· + ·) a = a + l.sum := by
  induction l with
  | nil => intro a; simp
  | cons x r ih => intro a; rw [List.foldl_cons, ih, List.sum_cons]; omega
theorem with_sum (t : Folk) (i : Nat) (s : List Nat) : with_ t i s = (s.map (likes t i)).sum := by
  unfold with_
  rw [foldl_add]
  omega
theorem members_lt {g : Groups} {k i : Nat} (h : i ∈ members g k) : i < g.length := List.mem_range.mp (List.mem_filter.mp h).1
theorem members_len (g : Groups) (k : Nat) : (members g k).length ≤ g.length := by
  have q := List.length_filter_le (fun i => g.getD i 0 == k) (List.range g.length)
  rw [List.length_range] at q
  exact q
theorem likes_self (t : Folk) (i : Nat) : likes t i i = 0 := by unfold likes; rw [if_pos rfl]
/-! ways to go -/
def letGo2 (t : Folk) (g : Groups) (i : Nat) : Bool := (members g (g.getD i 0)).all fun j => decide (likes t j i ≤ 0)
theorem letGo_is (t : Folk) (g : Groups) (i : Nat) : letGo t g i = letGo2 t g i := by
  unfold letGo letGo2
  congr 1
  funext j
  by_cases e : j = i
  · subst e
    simp [likes_self]
  · simp [e]
def ways (t : Folk) (g : Groups) (i k : Nat) : Nat := if with_ t i (members g k) ≤ worth t g i then 0 else if welcome t g i k = false then 1 else if letGo2 t g i = false then 2 else 3
theorem may_is {t : Folk} {w : Nat} {g : Groups} {i k : Nat} (hk : k ≤ groups g) (hw : w ≤ 2) : may t w g i k = decide (w < ways t g i k) := by
  unfold may rather ways
  rw [letGo_is]
  by_cases h1 : with_ t i (members g k) ≤ worth t g i
  · have hn : ¬ worth t g i < with_ t i (members g k) := Int.not_lt.mpr h1
    rw [if_pos h1, decide_eq_false hn]
    simp
  · have hn : worth t g i < with_ t i (members g k) := Int.not_le.mp h1
    have hne : ¬ g.getD i 0 = k := fun e => by
      unfold worth at hn
      rw [e] at hn
      exact Int.lt_irrefl _ hn
    have hb : (g.getD i 0 != k) = true := bne_iff_ne.mpr hne
    rw [if_neg h1, decide_eq_true hn, hb, decide_eq_true hk]
    have hw' : w = 0 ∨ w = 1 ∨ w = 2 := by omega
    cases hA : welcome t g i k <;> cases hB : letGo2 t g i <;> rcases hw' with rfl | rfl | rfl <;> rfl
/-! the first of those that are most -/
def bestFold (v : Nat → Int) (k : Nat) (l : List Nat) : Nat := l.foldl (fun b k => if v b < v k then k else b) k
theorem bestFold_same (v : Nat → Int) (k : Nat) (l : List Nat) : bestFold v k (k :: l) = bestFold v k l := by
  unfold bestFold
  rw [List.foldl_cons, if_neg (Int.lt_irrefl _)]
theorem best_is (t : Folk) (g : Groups) (i : Nat) : best t g i = bestFold (fun k => with_ t i (members g k)) (g.getD i 0) (List.range (groups g + 1)) := by
  unfold best bestFold
  have key : ∀ (l : List Nat) (b : Nat), (b = g.getD i 0 ∨ with_ t i (members g (g.getD i 0)) < with_ t i (members g b)) →
      l.foldl (fun b k => if k != g.getD i 0 && decide (with_ t i (members g b) < with_ t i (members g k)) then k else b) b = l.foldl (fun b k => if with_ t i (members g b) < with_ t i (members g k) then k else b) b := by
    intro l
    induction l with
    | nil => intro b _; rfl
    | cons k r ih =>
      intro b hb
      rw [List.foldl_cons, List.foldl_cons]
      by_cases c : with_ t i (members g b) < with_ t i (members g k)
      · have hk : ¬ k = g.getD i 0 := fun e => by
          rcases hb with hb | hb
          · rw [hb, e] at c
            exact Int.lt_irrefl _ c
          · rw [e] at c
            omega
        have hc : (k != g.getD i 0 && decide (with_ t i (members g b) < with_ t i (members g k))) = true := by
          rw [bne_iff_ne.mpr hk, decide_eq_true c]
          rfl
        rw [if_pos hc, if_pos c]
        refine ih k (.inr ?_)
        rcases hb with hb | hb
        · rw [← hb]
          exact c
        · omega
      · have hc : ¬ (k != g.getD i 0 && decide (with_ t i (members g b) < with_ t i (members g k))) = true := by
          rw [decide_eq_false c, Bool.and_false]
          exact Bool.false_ne_true
        rw [if_neg hc, if_neg c]
        exact ih b hb
  exact key _ _ (.inl rfl)
theorem foldl_snd (v : Nat → Int) : ∀ (l : List (Nat × Nat)) (p : Nat × Nat), (l.foldl (fun b q => if v b.2 < v q.2 then q else b) p).2 = bestFold v p.2 (l.map (·.2))
  | [], _ => rfl
  | x :: r, p => by
    unfold bestFold
    rw [List.foldl_cons, List.map_cons, List.foldl_cons]
    by_cases c : v p.2 < v x.2
    · rw [if_pos c, if_pos c]
      exact foldl_snd v r x
    · rw [if_neg c, if_neg c]
      exact foldl_snd v r p
/-- a step, told by the groups that the first one may go to -/
def mineOf (l : List (Nat × Nat)) (i : Nat) : List Nat := (l.filter fun q => q.1 == i).map (·.2)
theorem step_nil {t : Folk} {w : Nat} {g : Groups} (h : moves t w g = []) : Ks567.step t w g = none := by
  unfold Ks567.step
  rw [h]
theorem step_cons {t : Folk} {w : Nat} {g : Groups} {p : Nat × Nat} {l : List (Nat × Nat)} (h : moves t w g = p :: l) :
    Ks567.step t w g = some (p.1, bestFold (fun k => with_ t p.1 (members g k)) p.2 ((mineOf l p.1)), go g p.1 (bestFold (fun k => with_ t p.1 (members g k)) p.2 ((mineOf l p.1)))) := by
  unfold Ks567.step
  rw [h]
  have e : (((p :: l).filter fun q => q.1 == p.1).foldl (fun b q => if with_ t p.1 (members g b.2) < with_ t p.1 (members g q.2) then q else b) p).2 = bestFold (fun k => with_ t p.1 (members g k)) p.2 (mineOf l p.1) := by
    rw [foldl_snd fun k => with_ t p.1 (members g k)]
    unfold mineOf
    rw [List.filter_cons, if_pos (beq_self_eq_true _), List.map_cons, bestFold_same]
  show some (p.1, (((p :: l).filter fun q => q.1 == p.1).foldl (fun b q => if with_ t p.1 (members g b.2) < with_ t p.1 (members g q.2) then q else b) p).2, _) = _
  rw [e]
/-! sets that would leave -/
theorem exists_min : ∀ (l : List Int), l ≠ [] → ∃ m ∈ l, ∀ y ∈ l, m ≤ y
  | [x], _ => ⟨x, List.mem_singleton.mpr rfl, fun y hy => by rw [List.mem_singleton.mp hy]; exact Int.le_refl _⟩
  | x :: z :: r, _ => by
    obtain ⟨m, hm, hl⟩ := exists_min (z :: r) (by simp)
    by_cases c : x ≤ m
    · refine ⟨x, List.mem_cons_self, fun y hy => ?_⟩
      rcases List.mem_cons.mp hy with e | e
      · rw [e]; exact Int.le_refl _
      · exact Int.le_trans c (hl y e)
    · refine ⟨m, List.mem_cons_of_mem _ hm, fun y hy => ?_⟩
      rcases List.mem_cons.mp hy with e | e
      · rw [e]; omega
      · exact hl y e
theorem exists_max (l : List Int) (h : l ≠ []) : ∃ m ∈ l, ∀ y ∈ l, y ≤ m := by
  obtain ⟨m, hm, hl⟩ := exists_min (l.map fun x => -x) (by simpa using h)
  obtain ⟨x, hx, rfl⟩ := List.mem_map.mp hm
  refine ⟨x, hx, fun y hy => ?_⟩
  have := hl (-y) (List.mem_map.mpr ⟨y, hy, rfl⟩)
  omega
def gains (t : Folk) (g : Groups) (s : List Nat) : List Int := s.map fun i => with_ t i s - worth t g i
/-- 2 if the set would leave, 1 if only weakly, else 0 -/
def how (t : Folk) (g : Groups) (s : Nat) : Nat := if Ks566.leaves t g s then 2 else if Ks566.leavesWeak t g s then 1 else 0
theorem how_min {t : Folk} {g : Groups} {s : Nat} {m M : Int} (hs : s ≠ 0) (hm : m ∈ gains t g (Ks566.set t.n s)) (hmin : ∀ y ∈ gains t g (Ks566.set t.n s), m ≤ y) (hM : M ∈ gains t g (Ks566.set t.n s)) (hmax : ∀ y ∈ gains t g (Ks566.set t.n s), y ≤ M) :
    how t g s = if 0 < m then 2 else if m = 0 ∧ 0 < M then 1 else 0 := by
  have h1 : Ks566.leaves t g s = decide (0 < m) := by
    unfold Ks566.leaves
    rw [bne_iff_ne.mpr hs, Bool.true_and]
    by_cases c : 0 < m
    · rw [decide_eq_true c]
      refine List.all_eq_true.mpr fun i hi => decide_eq_true ?_
      have := hmin _ (List.mem_map.mpr ⟨i, hi, rfl⟩)
      omega
    · rw [decide_eq_false c]
      obtain ⟨i, hi, e⟩ := List.mem_map.mp hm
      refine List.all_eq_false.mpr ⟨i, hi, ?_⟩
      simp only [decide_eq_true_eq]
      omega
  have h2 : Ks566.leavesWeak t g s = (decide (0 ≤ m) && decide (0 < M)) := by
    unfold Ks566.leavesWeak
    congr 1
    · by_cases c : 0 ≤ m
      · rw [decide_eq_true c]
        refine List.all_eq_true.mpr fun i hi => decide_eq_true ?_
        have := hmin _ (List.mem_map.mpr ⟨i, hi, rfl⟩)
        omega
      · rw [decide_eq_false c]
        obtain ⟨i, hi, e⟩ := List.mem_map.mp hm
        refine List.all_eq_false.mpr ⟨i, hi, ?_⟩
        simp only [decide_eq_true_eq]
        omega
    · by_cases c : 0 < M
      · rw [decide_eq_true c]
        obtain ⟨i, hi, e⟩ := List.mem_map.mp hM
        refine List.any_eq_true.mpr ⟨i, hi, decide_eq_true ?_⟩
        omega
      · rw [decide_eq_false c]
        refine List.any_eq_false.mpr fun i hi => ?_
        have := hmax _ (List.mem_map.mpr ⟨i, hi, rfl⟩)
        simp only [decide_eq_true_eq]
        omega
  unfold how
  rw [h1, h2]
  by_cases c : 0 < m
  · simp [c]
  · by_cases c2 : m = 0
    · subst c2
      by_cases c3 : 0 < M <;> simp [c3]
    · have c4 : ¬ 0 ≤ m := by omega
      simp [c, c2, c4]
theorem set_ne {n s : Nat} (h0 : s ≠ 0) (h : s < 2 ^ n) : Ks566.set n s ≠ [] := by
  intro e
  obtain ⟨i, hi⟩ := Nat.exists_testBit_of_ne_zero h0
  have hin : i < n := by
    apply Classical.byContradiction
    intro hc
    have := Nat.testBit_lt_two_pow (Nat.lt_of_lt_of_le h (Nat.pow_le_pow_right (by decide) (Nat.not_lt.mp hc)))
    rw [this] at hi
    cases hi
  have : i ∈ Ks566.set n s := List.mem_filter.mpr ⟨List.mem_range.mpr hin, hi⟩
  rw [e] at this
  cases this
theorem set_lt {n s i : Nat} (h : i ∈ Ks566.set n s) : i < n := List.mem_range.mp (List.mem_filter.mp h).1
theorem set_len (n s : Nat) : (Ks566.set n s).length ≤ n := by
  have q := List.length_filter_le (fun i => s.testBit i) (List.range n)
  rw [List.length_range] at q
  exact q
/-- the sets that would leave, told by how -/
theorem by_is {t : Folk} {w : Nat} {g : Groups} (hw : w ≤ 1) : Ks566.by_ t w g = (List.range (2 ^ t.n)).filter fun s => decide (s ≠ 0 ∧ (if w = 1 then 1 else 2) ≤ how t g s) := by
  unfold Ks566.by_
  apply List.filter_congr
  intro s _
  by_cases h0 : s = 0
  · subst h0
    have e0 : Ks566.set t.n 0 = [] := by
      unfold Ks566.set
      rw [List.filter_eq_nil_iff]
      intro i _
      simp
    have e1 : Ks566.leaves t g 0 = false := rfl
    have e2 : Ks566.leavesWeak t g 0 = false := by
      unfold Ks566.leavesWeak
      rw [e0]
      rfl
    rw [e1, e2]
    simp
  · have lw : Ks566.leaves t g s = true → s < 2 ^ t.n → Ks566.leavesWeak t g s = true := fun hl hlt => by
      have hne := set_ne h0 hlt
      unfold Ks566.leaves at hl
      rw [Bool.and_eq_true] at hl
      unfold Ks566.leavesWeak
      rw [Bool.and_eq_true]
      refine ⟨List.all_eq_true.mpr fun i hi => ?_, ?_⟩
      · have := List.all_eq_true.mp hl.2 i hi
        have := of_decide_eq_true this
        exact decide_eq_true (Int.le_of_lt this)
      · obtain ⟨x, hx⟩ := List.exists_mem_of_ne_nil _ hne
        exact List.any_eq_true.mpr ⟨x, hx, List.all_eq_true.mp hl.2 x hx⟩
    rename_i hs
    have hlt : s < 2 ^ t.n := List.mem_range.mp hs
    unfold how
    rcases (by omega : w = 0 ∨ w = 1) with e | e
    · subst e
      cases hl : Ks566.leaves t g s
      · cases hk : Ks566.leavesWeak t g s <;> simp [h0]
      · simp [h0]
    · subst e
      cases hl : Ks566.leaves t g s
      · cases hk : Ks566.leavesWeak t g s <;> simp [h0]
      · have := lw hl hlt
        simp [h0, this]
theorem leave_is {t : Folk} {g : Groups} {s : Nat} (hl : g.length = t.n) (hg : ∀ x ∈ g, x < t.n) (hn : 0 < t.n) : tidy ((List.range t.n).map fun i => if s.testBit i then groups g else g.getD i 0) = Ks566.leave t g s := by
  unfold Ks566.leave
  have hG : groups g ≤ t.n := groups_le hn hg
  have hget : ∀ i, i < t.n → g.getD i 0 < groups g := fun i hi => by
    rw [List.getD_eq_getElem?_getD, List.getElem?_eq_getElem (by omega)]
    exact lt_groups (List.getElem_mem _)
  have e : ((List.range t.n).map fun i => if s.testBit i then groups g else g.getD i 0) = ((List.range t.n).map fun i => if s.testBit i then t.n else g.getD i 0).map fun x => if x = t.n then groups g else x := by
    rw [List.map_map]
    apply List.map_congr_left
    intro i hi
    have hi := List.mem_range.mp hi
    have := hget i hi
    show (if s.testBit i = true then groups g else g.getD i 0) = if (if s.testBit i = true then t.n else g.getD i 0) = t.n then groups g else (if s.testBit i = true then t.n else g.getD i 0)
    by_cases c : s.testBit i = true
    · rw [if_pos c, if_pos c, if_pos rfl]
    · rw [if_neg c, if_neg c, if_neg (by omega)]
  rw [e]
  refine tidy_map fun x hx y hy hxy => ?_
  have key : ∀ z ∈ (List.range t.n).map (fun i => if s.testBit i then t.n else g.getD i 0), z = t.n ∨ z < groups g := fun z hz => by
    obtain ⟨i, hi, rfl⟩ := List.mem_map.mp hz
    have := hget i (List.mem_range.mp hi)
    by_cases c : s.testBit i = true
    · rw [if_pos c]; exact .inl rfl
    · rw [if_neg c]; exact .inr this
  have hx := key x hx
  have hy := key y hy
  by_cases cx : x = t.n
  · by_cases cy : y = t.n
    · rw [cx, cy]
    · rw [if_pos cx, if_neg cy] at hxy
      omega
  · by_cases cy : y = t.n
    · rw [if_neg cx, if_pos cy] at hxy
      omega
    · rw [if_neg cx, if_neg cy] at hxy
      exact hxy
/-! worths changed -/
def rowsOf (t : Folk) : List (List Int) := (List.range t.n).map fun i => (List.range t.n).map (likes t i)
def Wf (t : Folk) : Prop := t.v.length = t.n * t.n
theorem ix_inj {n a b i j : Nat} (hb : b < n) (hj : j < n) (h : a * n + b = i * n + j) : a = i ∧ b = j := by
  have h1 : (a * n + b) / n = a := by rw [Nat.add_comm, Nat.add_mul_div_right _ _ (by omega), Nat.div_eq_of_lt hb, Nat.zero_add]
  have h2 : (i * n + j) / n = i := by rw [Nat.add_comm, Nat.add_mul_div_right _ _ (by omega), Nat.div_eq_of_lt hj, Nat.zero_add]
  have h3 : a = i := by rw [← h1, ← h2, h]
  subst h3
  exact ⟨rfl, by omega⟩
theorem ix_lt {n i j : Nat} (hi : i < n) (hj : j < n) : i * n + j < n * n := by
  have h : (i + 1) * n ≤ n * n := Nat.mul_le_mul_right n hi
  rw [Nat.succ_mul] at h
  omega
theorem likes_set {t : Folk} {i j a b : Nat} {x : Int} (hv : Wf t) (hi : i < t.n) (hj : j < t.n) (hb : b < t.n) : likes (Ks570.set_ t i j x) a b = if a = b then 0 else if a = i ∧ b = j then x else likes t a b := by
  unfold likes Ks570.set_
  by_cases hab : a = b
  · rw [if_pos hab, if_pos hab]
  · rw [if_neg hab, if_neg hab, if_neg hab]
    show (t.v.set (i * t.n + j) x).getD (a * t.n + b) 0 = _
    rw [List.getD_eq_getElem?_getD, List.getElem?_set]
    by_cases h : a = i ∧ b = j
    · obtain ⟨rfl, rfl⟩ := h
      have hlt : a * t.n + b < t.v.length := by rw [hv]; exact ix_lt hi hj
      rw [if_pos rfl, if_pos hlt, if_pos ⟨rfl, rfl⟩]
      rfl
    · rw [if_neg fun z => h (ix_inj hb hj z.symm), if_neg h, List.getD_eq_getElem?_getD]
theorem set_wf {t : Folk} {i j : Nat} {x : Int} (hv : Wf t) : Wf (Ks570.set_ t i j x) := by
  unfold Wf Ks570.set_
  show (t.v.set _ _).length = _
  rw [List.length_set]
  exact hv
theorem rows_ext {t u : Folk} (hn : t.n = u.n) (h : ∀ i j, i < t.n → j < t.n → likes t i j = likes u i j) : rowsOf t = rowsOf u := by
  unfold rowsOf
  rw [← hn]
  apply List.map_congr_left
  intro i hi
  apply List.map_congr_left
  intro j hj
  exact h i j (List.mem_range.mp hi) (List.mem_range.mp hj)
theorem rows_by {n : Nat} {rows : List (List Int)} {f : Nat → Nat → Int} (h : ∀ i, i < n → rows[i]? = some ((List.range n).map (f i))) (hl : rows.length = n) : rows = (List.range n).map fun i => (List.range n).map (f i) := by
  apply List.ext_getElem?
  intro i
  rw [List.getElem?_map]
  by_cases hi : i < n
  · rw [List.getElem?_range hi, h i hi]
    rfl
  · rw [List.getElem?_eq_none (by omega), List.getElem?_eq_none (by rw [List.length_range]; omega)]
    rfl
theorem rowsOf_set {t : Folk} {i j : Nat} {x : Int} (hv : Wf t) (hi : i < t.n) (hj : j < t.n) (hne : i ≠ j) : (rowsOf t).set i (((List.range t.n).map (likes t i)).set j x) = rowsOf (Ks570.set_ t i j x) := by
  have hl : ((rowsOf t).set i (((List.range t.n).map (likes t i)).set j x)).length = t.n := by
    rw [List.length_set]
    unfold rowsOf
    rw [List.length_map, List.length_range]
  show _ = (List.range t.n).map fun a => (List.range t.n).map (likes (Ks570.set_ t i j x) a)
  refine rows_by (n := t.n) (f := likes (Ks570.set_ t i j x)) (fun a ha => ?_) hl
  rw [List.getElem?_set]
  have hra : (rowsOf t)[a]? = some ((List.range t.n).map (likes t a)) := by
    unfold rowsOf
    rw [List.getElem?_map, List.getElem?_range ha]
    rfl
  by_cases e : i = a
  · subst e
    rw [if_pos rfl, if_pos (by rw [List.length_set] at hl; omega)]
    congr 1
    apply List.ext_getElem?
    intro b
    rw [List.getElem?_set, List.length_map, List.length_range, List.getElem?_map, List.getElem?_map]
    by_cases hb : b < t.n
    · rw [List.getElem?_range hb]
      show (if j = b then if j < t.n then some x else none else some (likes t i b)) = some (likes (Ks570.set_ t i j x) i b)
      rw [likes_set hv hi hj hb]
      by_cases e : j = b
      · subst e
        rw [if_pos rfl, if_pos hj, if_neg hne, if_pos ⟨rfl, rfl⟩]
      · rw [if_neg e, if_neg (fun z : i = i ∧ b = j => e z.2.symm)]
        by_cases e2 : i = b
        · subst e2
          rw [if_pos rfl, likes_self]
        · rw [if_neg e2]
    · rw [List.getElem?_eq_none (by rw [List.length_range]; omega), if_neg (by omega)]
      rfl
  · rw [if_neg e, hra]
    congr 1
    apply List.map_congr_left
    intro b hb
    have hb := List.mem_range.mp hb
    rw [likes_set hv hi hj hb]
    by_cases e2 : a = b
    · subst e2
      rw [if_pos rfl, likes_self]
    · rw [if_neg e2, if_neg fun z => e z.1.symm]
/-- row: so much each is worth to i -/
def rowT (t : Folk) (i : Nat) (l : List Int) : Folk := (List.range t.n).foldl (fun t j => Ks570.set_ t i j (l.getD j 0)) t
theorem row_upto {t : Folk} {i : Nat} {l : List Int} (hv : Wf t) (hi : i < t.n) : ∀ k, k ≤ t.n → ((List.range k).foldl (fun t j => Ks570.set_ t i j (l.getD j 0)) t).n = t.n ∧ Wf ((List.range k).foldl (fun t j => Ks570.set_ t i j (l.getD j 0)) t) ∧
    ∀ a b, b < t.n → likes ((List.range k).foldl (fun t j => Ks570.set_ t i j (l.getD j 0)) t) a b = if a = b then 0 else if a = i ∧ b < k then l.getD b 0 else likes t a b
  | 0, _ => ⟨rfl, hv, fun a b _ => by
    show likes t a b = _
    by_cases e : a = b
    · subst e
      rw [if_pos rfl, likes_self]
    · rw [if_neg e, if_neg (fun z => absurd z.2 (Nat.not_lt_zero _))]⟩
  | k + 1, hk => by
    obtain ⟨h1, h2, h3⟩ := row_upto (t := t) (i := i) (l := l) hv hi k (by omega)
    rw [List.range_succ, List.foldl_append]
    refine ⟨h1, set_wf h2, fun a b hb => ?_⟩
    show likes (Ks570.set_ _ i k (l.getD k 0)) a b = _
    rw [likes_set h2 (by rw [h1]; exact hi) (by rw [h1]; omega) (by rw [h1]; exact hb), h3 a b hb]
    by_cases e : a = b
    · rw [if_pos e, if_pos e]
    · rw [if_neg e, if_neg e, if_neg e]
      by_cases c : a = i ∧ b = k
      · rw [if_pos c, if_pos ⟨c.1, by omega⟩, c.2]
      · rw [if_neg c]
        by_cases c2 : a = i ∧ b < k
        · rw [if_pos c2, if_pos ⟨c2.1, by omega⟩]
        · rw [if_neg c2, if_neg fun z => by
            rcases Nat.lt_succ_iff_lt_or_eq.mp z.2 with q | q
            · exact c2 ⟨z.1, q⟩
            · exact c ⟨z.1, q⟩]
theorem rowT_n {t : Folk} {i : Nat} {l : List Int} (hv : Wf t) (hi : i < t.n) : (rowT t i l).n = t.n := (row_upto hv hi t.n (Nat.le_refl _)).1
theorem rowT_wf {t : Folk} {i : Nat} {l : List Int} (hv : Wf t) (hi : i < t.n) : Wf (rowT t i l) := (row_upto hv hi t.n (Nat.le_refl _)).2.1
theorem rowsOf_row {t : Folk} {i : Nat} {l : List Int} (hv : Wf t) (hi : i < t.n) (hl : l.length = t.n) (h0 : l.getD i 0 = 0) : (rowsOf t).set i l = rowsOf (rowT t i l) := by
  obtain ⟨h1, _, h3⟩ := row_upto (l := l) hv hi t.n (Nat.le_refl _)
  have e : rowsOf (rowT t i l) = (List.range t.n).map fun a => (List.range t.n).map (likes (rowT t i l) a) := by
    unfold rowsOf
    rw [rowT_n hv hi]
  rw [e]
  have hlen : ((rowsOf t).set i l).length = t.n := by
    rw [List.length_set]
    unfold rowsOf
    rw [List.length_map, List.length_range]
  refine rows_by (f := likes (rowT t i l)) (fun a ha => ?_) hlen
  have hra : (rowsOf t)[a]? = some ((List.range t.n).map (likes t a)) := by
    unfold rowsOf
    rw [List.getElem?_map, List.getElem?_range ha]
    rfl
  rw [List.getElem?_set]
  by_cases e : i = a
  · subst e
    rw [if_pos rfl, if_pos (by rw [List.length_set] at hlen; omega)]
    congr 1
    apply List.ext_getElem?
    intro b
    rw [List.getElem?_map]
    by_cases hb : b < t.n
    · rw [List.getElem?_range hb, List.getElem?_eq_getElem (by omega)]
      show some l[b] = some (likes (rowT t i l) i b)
      have hg : l.getD b 0 = l[b] := by rw [List.getD_eq_getElem?_getD, List.getElem?_eq_getElem (by omega)]; rfl
      have z := h3 i b hb
      rw [show likes (rowT t i l) i b = _ from z, ← hg]
      by_cases e2 : i = b
      · subst e2
        rw [if_pos rfl, h0]
      · rw [if_neg e2, if_pos ⟨rfl, hb⟩]
    · rw [List.getElem?_eq_none (by omega), List.getElem?_eq_none (by rw [List.length_range]; omega)]
      rfl
  · rw [if_neg e, hra]
    congr 1
    apply List.map_congr_left
    intro b hb
    have hb := List.mem_range.mp hb
    have z := h3 a b hb
    rw [show likes (rowT t i l) a b = _ from z]
    by_cases e2 : a = b
    · subst e2
      rw [if_pos rfl, likes_self]
    · rw [if_neg e2, if_neg fun q => e q.1.symm]
/-- even: what the greater number is worth to the lesser holds for both -/
def evenT (t : Folk) : Folk := ⟨t.n, (List.range t.n).flatMap fun i => (List.range t.n).map fun j => if i < j then likes t i j else likes t j i⟩
theorem flat_len (f : Nat → Nat → Int) (n : Nat) : ∀ m, ((List.range m).flatMap fun i => (List.range n).map (f i)).length = m * n
  | 0 => by simp
  | m + 1 => by
    rw [List.range_succ, List.flatMap_append, List.length_append, flat_len f n m, Nat.succ_mul]
    simp
theorem flat_get (f : Nat → Nat → Int) (n : Nat) : ∀ (m i j : Nat), i < m → j < n → ((List.range m).flatMap fun i => (List.range n).map (f i)).getD (i * n + j) 0 = f i j
  | 0, _, _, h, _ => absurd h (Nat.not_lt_zero _)
  | m + 1, i, j, hi, hj => by
    rw [List.range_succ, List.flatMap_append, List.getD_eq_getElem?_getD]
    by_cases c : i < m
    · rw [List.getElem?_append_left, ← List.getD_eq_getElem?_getD]
      · exact flat_get f n m i j c hj
      · rw [flat_len]
        have : (i + 1) * n ≤ m * n := Nat.mul_le_mul_right n c
        rw [Nat.succ_mul] at this
        omega
    · have e : i = m := by omega
      subst e
      rw [List.getElem?_append_right (by rw [flat_len]; omega), flat_len, Nat.add_sub_cancel_left]
      simp [List.getElem?_range hj]
theorem evenT_wf (t : Folk) : Wf (evenT t) := flat_len (fun i j => if i < j then likes t i j else likes t j i) t.n t.n
theorem likes_even {t : Folk} {i j : Nat} (hi : i < t.n) (hj : j < t.n) : likes (evenT t) i j = likes t (min i j) (max i j) := by
  have e1 : likes (evenT t) i j = if i = j then 0 else ((List.range t.n).flatMap fun i => (List.range t.n).map fun j => if i < j then likes t i j else likes t j i).getD (i * t.n + j) 0 := rfl
  rw [e1, flat_get (fun i j => if i < j then likes t i j else likes t j i) t.n t.n i j hi hj]
  by_cases e : i = j
  · subst e
    rw [if_pos rfl, Nat.min_self, Nat.max_self, likes_self]
  · rw [if_neg e]
    by_cases c : i < j
    · rw [if_pos c, Nat.min_eq_left (by omega), Nat.max_eq_right (by omega)]
    · rw [if_neg c, Nat.min_eq_right (by omega), Nat.max_eq_left (by omega)]
theorem rowsOf_even (t : Folk) : rowsOf (evenT t) = (List.range t.n).map fun i => (List.range t.n).map fun j => likes t (min i j) (max i j) := by
  unfold rowsOf
  show ((List.range t.n).map fun i => (List.range t.n).map (likes (evenT t) i)) = _
  apply List.map_congr_left
  intro i hi
  apply List.map_congr_left
  intro j hj
  exact likes_even (List.mem_range.mp hi) (List.mem_range.mp hj)
theorem even_iff (t : Folk) : Ks567.even t = true ↔ rowsOf (evenT t) = rowsOf t := by
  unfold Ks567.even
  rw [List.all_eq_true]
  constructor
  · intro h
    refine rows_ext rfl fun i j hi hj => ?_
    have hi : i < t.n := hi
    have hj : j < t.n := hj
    rw [likes_even hi hj]
    by_cases c : i ≤ j
    · rw [Nat.min_eq_left c, Nat.max_eq_right c]
    · rw [Nat.min_eq_right (by omega), Nat.max_eq_left (by omega)]
      have z := List.all_eq_true.mp (h i (List.mem_range.mpr hi)) j (List.mem_range.mpr hj)
      exact (eq_of_beq z).symm
  · intro h i hi
    rw [List.all_eq_true]
    intro j hj
    have hi := List.mem_range.mp hi
    have hj := List.mem_range.mp hj
    have key : ∀ a b, a < t.n → b < t.n → likes (evenT t) a b = likes t a b := fun a b ha hb => by
      have z : (rowsOf (evenT t))[a]? = (rowsOf t)[a]? := by rw [h]
      unfold rowsOf at z
      rw [List.getElem?_map, List.getElem?_map, List.getElem?_range ha, show (evenT t).n = t.n from rfl, List.getElem?_range ha] at z
      have z2 : ((List.range t.n).map (likes (evenT t) a))[b]? = ((List.range t.n).map (likes t a))[b]? := congrArg (fun l => l[b]?) (Option.some.inj z)
      rw [List.getElem?_map, List.getElem?_map, List.getElem?_range hb] at z2
      exact Option.some.inj z2
    have k1 := key i j hi hj
    have k2 := key j i hj hi
    rw [likes_even hi hj] at k1
    rw [likes_even hj hi, Nat.min_comm, Nat.max_comm] at k2
    rw [← k1, ← k2]
    exact beq_self_eq_true _
theorem fresh_wf (n : Nat) : Wf (Ks570.fresh n).game.t := by
  unfold Wf Ks570.fresh
  show ((List.range (n * n)).map _).length = n * n
  rw [List.length_map, List.length_range]
end Rg

set_option Elab.async false
set_option maxRecDepth 100000
/-! more mathematics: all ways to be in groups, what may be come to, a run -/
namespace Rg
open Ks565
/-! lists without twins -/
theorem nodup_le {α : Type} [BEq α] [LawfulBEq α] : ∀ (l m : List α), l.Nodup → (∀ x ∈ l, x ∈ m) → l.length ≤ m.length
  | [], _, _, _ => Nat.zero_le _
  | x :: l, m, hn, hs => by
    obtain ⟨h1, h2⟩ := List.nodup_cons.mp hn
    have hx := hs x List.mem_cons_self
    have ih := nodup_le l (m.erase x) h2 fun y hy => (List.mem_erase_of_ne (fun (z : y = x) => h1 (by rw [← z]; exact hy))).mpr (hs y (List.mem_cons_of_mem _ hy))
    rw [List.length_erase_of_mem hx] at ih
    have := List.length_pos_of_mem hx
    rw [List.length_cons]
    omega
theorem nodup_same {α : Type} [BEq α] [LawfulBEq α] {l m : List α} (h1 : l.Nodup) (h2 : m.Nodup) (h : ∀ x, x ∈ l ↔ x ∈ m) : l.length = m.length :=
  Nat.le_antisymm (nodup_le l m h1 fun x hx => (h x).mp hx) (nodup_le m l h2 fun x hx => (h x).mpr hx)
theorem erase_nodup {α : Type} [BEq α] [LawfulBEq α] : ∀ (k : Nat) (l : List α), l.length ≤ k → l.eraseDups.Nodup
  | 0, l, h => by
    rw [List.length_eq_zero_iff.mp (Nat.le_zero.mp h)]
    exact List.nodup_nil
  | k + 1, [], _ => List.nodup_nil
  | k + 1, a :: l, h => by
    rw [List.eraseDups_cons]
    refine List.nodup_cons.mpr ⟨fun z => ?_, erase_nodup k _ (Nat.le_trans (List.length_filter_le _ _) (Nat.le_of_succ_le_succ h))⟩
    have := (List.mem_filter.mp (List.mem_eraseDups.mp z)).2
    simp at this
theorem dups_nodup {α : Type} [BEq α] [LawfulBEq α] (l : List α) : l.eraseDups.Nodup := erase_nodup l.length l (Nat.le_refl _)
theorem dups_of_nodup {α : Type} [BEq α] [LawfulBEq α] : ∀ {l : List α}, l.Nodup → l.eraseDups = l
  | [], _ => rfl
  | a :: l, h => by
    obtain ⟨h1, h2⟩ := List.nodup_cons.mp h
    rw [List.eraseDups_cons, List.filter_eq_self.mpr, dups_of_nodup h2]
    intro b hb
    have : b ≠ a := fun z => h1 (z ▸ hb)
    simp [this]
/-! all ways -/
def mx (g : List Nat) : Nat := (g.map (· + 1)).foldl max 0
theorem mx_snoc (g : List Nat) (x : Nat) : mx (g ++ [x]) = max (mx g) (x + 1) := by
  unfold mx
  rw [List.map_append, List.foldl_append]
  rfl
theorem mem_all_succ {k : Nat} {g : Groups} : g ∈ all (k + 1) ↔ ∃ g' x, g' ∈ all k ∧ x ≤ mx g' ∧ g = g' ++ [x] := by
  show g ∈ (all k).flatMap (fun g => (List.range ((g.map (· + 1)).foldl max 0 + 1)).map fun x => g ++ [x]) ↔ _
  rw [List.mem_flatMap]
  constructor
  · rintro ⟨g', h1, h2⟩
    obtain ⟨x, h3, h4⟩ := List.mem_map.mp h2
    exact ⟨g', x, h1, Nat.le_of_lt_succ (List.mem_range.mp h3), h4.symm⟩
  · rintro ⟨g', x, h1, h2, rfl⟩
    exact ⟨g', h1, List.mem_map.mpr ⟨x, List.mem_range.mpr (Nat.lt_succ_of_le h2), rfl⟩⟩
theorem place_app {f r : List Nat} {x : Nat} (h : x ∈ f) : place (f ++ r) x = place f x := by
  unfold place
  induction f with
  | nil => cases h
  | cons y f ih =>
    rw [List.cons_append, List.takeWhile_cons, List.takeWhile_cons]
    by_cases e : y = x
    · simp [e]
    · have hb : (y != x) = true := by simp [e]
      have hm : x ∈ f := by
        rcases List.mem_cons.mp h with q | q
        · exact absurd q.symm e
        · exact q
      rw [hb, if_pos rfl, if_pos rfl, List.length_cons, List.length_cons, ih hm]
theorem place_new {f : List Nat} {x : Nat} (h : x ∉ f) : place (f ++ [x]) x = f.length := by
  unfold place
  induction f with
  | nil => simp
  | cons y f ih =>
    have hb : (y != x) = true := by
      have : y ≠ x := fun z => h (z ▸ List.mem_cons_self)
      simp [this]
    rw [List.cons_append, List.takeWhile_cons, hb, if_pos rfl, List.length_cons, List.length_cons, ih fun z => h (List.mem_cons_of_mem _ z)]
theorem tidy_snoc (l : List Nat) (x : Nat) : tidy (l ++ [x]) = tidy l ++ [place (firsts (l ++ [x])) x] := by
  rw [tidy_is, tidy_is, List.map_append]
  refine congrArg (· ++ _) (List.map_congr_left fun y hy => ?_)
  rw [firsts_snoc]
  split
  · rfl
  · exact place_app ((firsts_mem l y).mpr hy)
theorem mx_tidy (l : List Nat) : mx (tidy l) = (firsts l).length := by
  refine list_rev_ind (p := fun l => mx (tidy l) = (firsts l).length) rfl (fun l x ih => ?_) l
  rw [tidy_snoc, mx_snoc, ih, firsts_snoc]
  by_cases c : (firsts l).contains x = true
  · rw [if_pos c]
    have := place_lt (List.contains_iff_mem.mp c)
    omega
  · rw [if_neg c, place_new fun z => c (List.contains_iff_mem.mpr z), List.length_append]
    show max _ (_ + 1) = _ + 1
    omega
theorem tidy_all (l : List Nat) : tidy l ∈ all l.length := by
  refine list_rev_ind (p := fun l => tidy l ∈ all l.length) (List.mem_singleton.mpr rfl) (fun l x ih => ?_) l
  rw [List.length_append]
  show _ ∈ all (l.length + 1)
  refine mem_all_succ.mpr ⟨tidy l, _, ih, ?_, tidy_snoc l x⟩
  rw [mx_tidy, firsts_snoc]
  by_cases c : (firsts l).contains x = true
  · rw [if_pos c]
    exact Nat.le_of_lt (place_lt (List.contains_iff_mem.mp c))
  · rw [if_neg c, place_new fun z => c (List.contains_iff_mem.mpr z)]
    exact Nat.le_refl _
theorem all_length : ∀ {n : Nat} {g : Groups}, g ∈ all n → g.length = n
  | 0, g, h => by rw [List.mem_singleton.mp h]; rfl
  | n + 1, g, h => by
    obtain ⟨g', x, h1, _, rfl⟩ := mem_all_succ.mp h
    rw [List.length_append, all_length h1]
    rfl
theorem mx_all : ∀ {n : Nat} {g : Groups}, g ∈ all n → mx g ≤ n
  | 0, g, h => by rw [List.mem_singleton.mp h]; exact Nat.le_refl _
  | n + 1, g, h => by
    obtain ⟨g', x, h1, h2, rfl⟩ := mem_all_succ.mp h
    have := mx_all h1
    rw [mx_snoc]
    omega
theorem mx_mem : ∀ (g : List Nat), ∀ x ∈ g, x < mx g := fun g => by
  refine list_rev_ind (p := fun g => ∀ x ∈ g, x < mx g) (fun x h => by cases h) (fun l y ih x h => ?_) g
  rw [mx_snoc]
  rcases List.mem_append.mp h with z | z
  · have := ih x z
    omega
  · rw [List.mem_singleton.mp z]
    omega
theorem all_few {n : Nat} {g : Groups} (h : g ∈ all n) : ∀ x ∈ g, x < n := fun x hx => Nat.lt_of_lt_of_le (mx_mem g x hx) (mx_all h)
theorem all_count : ∀ n < 6, (all n).length ≤ 52 := by decide +kernel
theorem all_lens : ∀ n < 6, (all n).length = [1, 1, 2, 5, 15, 52].getD n 0 := by decide +kernel
/-- of a way that has the numbers as they first come, tidying changes nothing -/
theorem firsts_all : ∀ {n : Nat} {g : Groups}, g ∈ all n → firsts g = List.range (mx g)
  | 0, g, h => by rw [List.mem_singleton.mp h]; rfl
  | n + 1, g, h => by
    obtain ⟨g', x, h1, h2, rfl⟩ := mem_all_succ.mp h
    have ih := firsts_all h1
    rw [firsts_snoc, mx_snoc, ih]
    by_cases c : x < mx g'
    · rw [if_pos (List.contains_iff_mem.mpr (List.mem_range.mpr c)), Nat.max_eq_left (by omega)]
    · have e : x = mx g' := by omega
      rw [if_neg fun z => c (List.mem_range.mp (List.contains_iff_mem.mp z)), Nat.max_eq_right (by omega), e, List.range_succ]
theorem place_range : ∀ (m x : Nat), x < m → place (List.range m) x = x := fun m x h => by
  have e : m = x + 1 + (m - (x + 1)) := by omega
  have z : List.range m = (List.range x ++ [x]) ++ (List.range (m - (x + 1))).map (x + 1 + ·) := by
    rw [← List.range_succ]
    conv => lhs; rw [e, List.range_add]
  rw [z, place_app (List.mem_append.mpr (.inr (List.mem_singleton.mpr rfl))), place_new fun w => absurd (List.mem_range.mp w) (Nat.lt_irrefl x), List.length_range]
theorem all_tidy {n : Nat} {g : Groups} (h : g ∈ all n) : tidy g = g := by
  rw [tidy_is, firsts_all h]
  conv => rhs; rw [← List.map_id g]
  exact List.map_congr_left fun x hx => place_range _ _ (mx_mem g x hx)
theorem tidy_tidy (l : List Nat) : tidy (tidy l) = tidy l := all_tidy (tidy_all l)
theorem go_all {n : Nat} {g : Groups} {i k : Nat} (h : g.length = n) : go g i k ∈ all n := by
  have z := tidy_all (g.set i k)
  rw [List.length_set, h] at z
  exact z
theorem all_nodup : ∀ n < 6, (all n).Nodup := by decide +kernel
/-- few ways in all -/
theorem ways_few {n : Nat} {l : List Groups} (hn : n ≤ 5) (h : l.Nodup) (hs : ∀ g ∈ l, g ∈ all n) : l.length ≤ 52 := Nat.le_trans (nodup_le l (all n) h hs) (all_count n (by omega))
/-! what may be come to -/
inductive Come (t : Folk) (w : Nat) (g : Groups) : Groups → Prop
  | here : Come t w g g
  | on {x y : Groups} : Come t w g x → y ∈ Ks567.next t w x → Come t w g y
theorem Come.trans {t : Folk} {w : Nat} {g x y : Groups} (a : Come t w g x) (b : Come t w x y) : Come t w g y := by
  induction b with
  | here => exact a
  | on _ h ih => exact .on ih h
theorem next_all {t : Folk} {w n : Nat} {g x : Groups} (hg : g.length = n) (h : x ∈ Ks567.next t w g) : x ∈ all n := by
  obtain ⟨p, _, rfl⟩ := List.mem_map.mp h
  exact go_all hg
theorem come_all {t : Folk} {w n : Nat} {g x : Groups} (hg : g ∈ all n) (h : Come t w g x) : x ∈ all n := by
  induction h with
  | here => exact hg
  | on _ h ih => exact next_all (all_length ih) h
/-- a list that is closed: all that comes next is in it -/
def Closed (t : Folk) (w : Nat) (l : List Groups) : Prop := ∀ x ∈ l, ∀ y ∈ Ks567.next t w x, y ∈ l
theorem reach_is {t : Folk} {w n : Nat} (hn : n ≤ 5) : ∀ (f : Nat) (l : List Groups), l.Nodup → (∀ g ∈ l, g ∈ all n) → 52 < f + l.length →
    (Ks567.reach t w f l).Nodup ∧ Closed t w (Ks567.reach t w f l) ∧ (∀ x ∈ l, x ∈ Ks567.reach t w f l) ∧ ∀ y ∈ Ks567.reach t w f l, ∃ x ∈ l, Come t w x y
  | 0, l, h1, h2, h3 => by
    have := ways_few hn h1 h2
    omega
  | f + 1, l, h1, h2, h3 => by
    have e : Ks567.reach t w (f + 1) l = if (l ++ l.flatMap (Ks567.next t w)).eraseDups.length = l.length then l else Ks567.reach t w f (l ++ l.flatMap (Ks567.next t w)).eraseDups := rfl
    rw [e]
    have em : (l ++ l.flatMap (Ks567.next t w)).eraseDups = l ++ ((l.flatMap (Ks567.next t w)).removeAll l).eraseDups := by
      rw [List.eraseDups_append, dups_of_nodup h1]
    by_cases c : (l ++ l.flatMap (Ks567.next t w)).eraseDups.length = l.length
    · rw [if_pos c]
      refine ⟨h1, fun x hx y hy => ?_, fun x hx => hx, fun y hy => ⟨y, hy, .here⟩⟩
      rw [em, List.length_append] at c
      have hz : ((l.flatMap (Ks567.next t w)).removeAll l).eraseDups = [] := List.length_eq_zero_iff.mp (by omega)
      apply Classical.byContradiction
      intro hc
      have : y ∈ ((l.flatMap (Ks567.next t w)).removeAll l).eraseDups := by
        rw [List.mem_eraseDups]
        unfold List.removeAll
        refine List.mem_filter.mpr ⟨List.mem_flatMap.mpr ⟨x, hx, hy⟩, ?_⟩
        simpa using hc
      rw [hz] at this
      cases this
    · rw [if_neg c]
      have hm : ∀ y, y ∈ (l ++ l.flatMap (Ks567.next t w)).eraseDups ↔ y ∈ l ∨ ∃ x ∈ l, y ∈ Ks567.next t w x := fun y => by
        rw [List.mem_eraseDups, List.mem_append, List.mem_flatMap]
      have hl : l.length ≤ (l ++ l.flatMap (Ks567.next t w)).eraseDups.length := by
        rw [em, List.length_append]
        omega
      obtain ⟨g1, g2, g3, g4⟩ := reach_is hn f (l ++ l.flatMap (Ks567.next t w)).eraseDups (dups_nodup _) (fun g hg => by
        rcases (hm g).mp hg with z | ⟨x, hx, z⟩
        · exact h2 g z
        · exact next_all (all_length (h2 x hx)) z) (by omega)
      refine ⟨g1, g2, fun x hx => g3 x ((hm x).mpr (.inl hx)), fun y hy => ?_⟩
      obtain ⟨x, hx, hc⟩ := g4 y hy
      rcases (hm x).mp hx with z | ⟨v, hv, z⟩
      · exact ⟨x, z, hc⟩
      · exact ⟨v, hv, Come.trans (.on .here z) hc⟩
theorem closed_come {t : Folk} {w : Nat} {l : List Groups} {x y : Groups} (c : Closed t w l) (hx : x ∈ l) (h : Come t w x y) : y ∈ l := by
  induction h with
  | here => exact hx
  | on _ h ih => exact c _ ih _ h
theorem reach_all {t : Folk} {w n : Nat} {g : Groups} (hn : n ≤ 5) (hg : g ∈ all n) : (Ks567.all t w g).Nodup ∧ ∀ x, x ∈ Ks567.all t w g ↔ Come t w g x := by
  obtain ⟨g1, g2, g3, g4⟩ := reach_is (t := t) (w := w) hn 60 [g] (List.nodup_cons.mpr ⟨(fun z => (by cases z)), List.nodup_nil⟩) (fun x hx => by rw [List.mem_singleton.mp hx]; exact hg) (by show 52 < 60 + 1; decide)
  refine ⟨g1, fun x => ⟨fun hx => ?_, fun hx => closed_come g2 (g3 g (List.mem_singleton.mpr rfl)) hx⟩⟩
  obtain ⟨y, hy, hc⟩ := g4 x hx
  rw [List.mem_singleton.mp hy] at hc
  exact hc
/-- any list without twins that holds just what may be come to is as long as the specification's -/
theorem reach_len {t : Folk} {w n : Nat} {g : Groups} {l : List Groups} (hn : n ≤ 5) (hg : g ∈ all n) (h1 : l.Nodup) (h2 : ∀ x, x ∈ l ↔ Come t w g x) : (Ks567.all t w g).length = l.length :=
  nodup_same (reach_all hn hg).1 h1 fun x => ((reach_all hn hg).2 x).trans (h2 x).symm
theorem any_same {α : Type} {l m : List α} (p : α → Bool) (h : ∀ x, x ∈ l ↔ x ∈ m) : l.any p = m.any p := by
  rw [Bool.eq_iff_iff, List.any_eq_true, List.any_eq_true]
  exact ⟨fun ⟨x, h1, h2⟩ => ⟨x, (h x).mp h1, h2⟩, fun ⟨x, h1, h2⟩ => ⟨x, (h x).mpr h1, h2⟩⟩
/-- it may go round: from somewhere that may be come to, by one move or more, to there again -/
theorem round_iff {t : Folk} {w n : Nat} {g : Groups} (hn : n ≤ 5) (hg : g ∈ all n) : Ks567.round t w g = true ↔ ∃ h x, Come t w g h ∧ x ∈ Ks567.next t w h ∧ Come t w x h := by
  unfold Ks567.round
  rw [List.any_eq_true]
  constructor
  · rintro ⟨h, h1, h2⟩
    obtain ⟨x, h3, h4⟩ := List.any_eq_true.mp h2
    have c := ((reach_all hn hg).2 h).mp h1
    have xa := next_all (all_length (come_all hg c)) h3
    exact ⟨h, x, c, h3, ((reach_all hn xa).2 h).mp (List.contains_iff_mem.mp h4)⟩
  · rintro ⟨h, x, c, h3, h4⟩
    have xa := next_all (all_length (come_all hg c)) h3
    exact ⟨h, ((reach_all hn hg).2 h).mpr c, List.any_eq_true.mpr ⟨x, h3, List.contains_iff_mem.mpr (((reach_all hn xa).2 h).mpr h4)⟩⟩
theorem ends_iff {t : Folk} {w n : Nat} {g : Groups} (hn : n ≤ 5) (hg : g ∈ all n) : Ks567.ends t w g = true ↔ ∃ h, Come t w g h ∧ rests t w h = true := by
  unfold Ks567.ends
  rw [List.any_eq_true]
  exact ⟨fun ⟨h, h1, h2⟩ => ⟨h, ((reach_all hn hg).2 h).mp h1, h2⟩, fun ⟨h, h1, h2⟩ => ⟨h, ((reach_all hn hg).2 h).mpr h1, h2⟩⟩
/-! a run: one turn of it -/
theorem run_rest {t : Folk} {w f : Nat} {g : Groups} {past : List Groups} (h : Ks567.step t w g = none) : Ks567.run t w (f + 1) g past = (past.length, true, g) := by
  unfold Ks567.run
  rw [h]
theorem run_again {t : Folk} {w f i k : Nat} {g x : Groups} {past : List Groups} (h : Ks567.step t w g = some (i, k, x)) (hx : x ∈ past ++ [g]) : Ks567.run t w (f + 1) g past = (past.length + 1, false, x) := by
  unfold Ks567.run
  rw [h]
  exact if_pos (List.contains_iff_mem.mpr hx)
theorem run_on {t : Folk} {w f i k : Nat} {g x : Groups} {past : List Groups} (h : Ks567.step t w g = some (i, k, x)) (hx : x ∉ past ++ [g]) : Ks567.run t w (f + 1) g past = Ks567.run t w f x (past ++ [g]) := by
  conv => lhs; unfold Ks567.run
  rw [h]
  exact if_neg fun z => hx (List.contains_iff_mem.mp z)
end Rg

set_option Elab.async false
set_option maxRecDepth 100000
/-! mathematics of the tables by sets, of places, of what leaves and rests -/
namespace Rg
open Ks565
theorem flatMap_congr_mem {α β : Type} {l : List α} {f g : α → List β} (h : ∀ x ∈ l, f x = g x) : l.flatMap f = l.flatMap g := by
  induction l with
  | nil => rfl
  | cons x r ih => rw [List.flatMap_cons, List.flatMap_cons, h x List.mem_cons_self, ih fun y hy => h y (List.mem_cons_of_mem _ hy)]
/-! sets of people, told as numbers -/
def castL (l : List Nat) : List Int := l.map fun (k : Nat) => (k : Int)
theorem set_succ (n s : Nat) : Ks566.set (n + 1) s = Ks566.set n s ++ if s.testBit n then [n] else [] := by
  unfold Ks566.set
  rw [List.range_succ, List.filter_append]
  congr 1
  rw [List.filter_cons]
  split <;> rfl
theorem set_low {n s : Nat} (h : s < 2 ^ n) : Ks566.set (n + 1) s = Ks566.set n s := by
  rw [set_succ, Nat.testBit_lt_two_pow h, if_neg Bool.false_ne_true, List.append_nil]
theorem set_high {n s : Nat} (h : s < 2 ^ n) : Ks566.set (n + 1) (2 ^ n + s) = Ks566.set n s ++ [n] := by
  rw [set_succ]
  have e1 : (2 ^ n + s).testBit n = true := by rw [Nat.testBit_two_pow_add_eq, Nat.testBit_lt_two_pow h]; rfl
  rw [e1, if_pos rfl]
  congr 1
  unfold Ks566.set
  apply List.filter_congr
  intro i hi
  exact Nat.testBit_two_pow_add_gt (List.mem_range.mp hi) s
theorem sets_double {α : Type} (f : Nat → α) (n : Nat) : (List.range (2 ^ (n + 1))).map f = (List.range (2 ^ n)).map f ++ (List.range (2 ^ n)).map fun s => f (2 ^ n + s) := by
  have e : 2 ^ (n + 1) = 2 ^ n + 2 ^ n := by rw [Nat.pow_succ]; omega
  rw [e, List.range_add, List.map_append, List.map_map]
  rfl
def pplOf (n : Nat) : List (List Int) := (List.range (2 ^ n)).map fun s => castL (Ks566.set n s)
theorem pplOf_zero : pplOf 0 = [[]] := rfl
theorem pplOf_succ (n : Nat) : pplOf (n + 1) = pplOf n ++ (pplOf n).map fun p => p ++ [(n : Int)] := by
  unfold pplOf
  rw [sets_double, List.map_map]
  congr 1
  · apply List.map_congr_left
    intro s hs
    show castL (Ks566.set (n + 1) s) = castL (Ks566.set n s)
    rw [set_low (List.mem_range.mp hs)]
  · apply List.map_congr_left
    intro s hs
    show castL (Ks566.set (n + 1) (2 ^ n + s)) = castL (Ks566.set n s) ++ [(n : Int)]
    rw [set_high (List.mem_range.mp hs)]
    unfold castL
    rw [List.map_append]
    rfl
theorem pplOf_len (n : Nat) : (pplOf n).length = 2 ^ n := by
  unfold pplOf
  rw [List.length_map, List.length_range]
theorem pplOf_at {n s : Nat} (h : s < 2 ^ n) : (pplOf n)[s]? = some (castL (Ks566.set n s)) := by
  unfold pplOf
  rw [List.getElem?_map, List.getElem?_range h]
  rfl
theorem with_snoc (t : Folk) (i : Nat) (l : List Nat) (x : Nat) : with_ t i (l ++ [x]) = with_ t i l + likes t i x := by
  rw [with_sum, with_sum, List.map_append, List.sum_append]
  show _ + (likes t i x + 0) = _
  omega
def sumsTo (t : Folk) (i j : Nat) : List Int := (List.range (2 ^ j)).map fun s => with_ t i (Ks566.set j s)
theorem sumsTo_zero (t : Folk) (i : Nat) : sumsTo t i 0 = [0] := rfl
theorem sumsTo_succ (t : Folk) (i j : Nat) : sumsTo t i (j + 1) = sumsTo t i j ++ (sumsTo t i j).map fun x => x + likes t i j := by
  unfold sumsTo
  rw [sets_double, List.map_map]
  congr 1
  · apply List.map_congr_left
    intro s hs
    show with_ t i (Ks566.set (j + 1) s) = with_ t i (Ks566.set j s)
    rw [set_low (List.mem_range.mp hs)]
  · apply List.map_congr_left
    intro s hs
    show with_ t i (Ks566.set (j + 1) (2 ^ j + s)) = with_ t i (Ks566.set j s) + likes t i j
    rw [set_high (List.mem_range.mp hs), with_snoc]
theorem sumsTo_len (t : Folk) (i j : Nat) : (sumsTo t i j).length = 2 ^ j := by
  unfold sumsTo
  rw [List.length_map, List.length_range]
theorem sumsTo_at {t : Folk} {i j s : Nat} (h : s < 2 ^ j) : (sumsTo t i j)[s]? = some (with_ t i (Ks566.set j s)) := by
  unfold sumsTo
  rw [List.getElem?_map, List.getElem?_range h]
  rfl
def sumsOf (t : Folk) : List (List Int) := (List.range t.n).map fun i => sumsTo t i t.n
theorem sumsOf_at {t : Folk} {i : Nat} (h : i < t.n) : (sumsOf t)[i]? = some (sumsTo t i t.n) := by
  unfold sumsOf
  rw [List.getElem?_map, List.getElem?_range h]
  rfl
theorem sumsOf_len (t : Folk) : (sumsOf t).length = t.n := by
  unfold sumsOf
  rw [List.length_map, List.length_range]
theorem pow_le32 {n : Nat} (h : n ≤ 5) : 2 ^ n ≤ 32 := Nat.le_trans (Nat.pow_le_pow_right (by decide : 0 < 2) h) (by decide)
/-! the set in each group -/
def maskTo (g : List Nat) (k : Nat) : Nat → Nat
  | 0 => 0
  | i + 1 => if g.getD i 0 = k then maskTo g k i ||| 2 ^ i else maskTo g k i
theorem maskTo_lt (g : List Nat) (k : Nat) : ∀ i, maskTo g k i < 2 ^ i
  | 0 => by show 0 < 1; decide
  | i + 1 => by
    have ih := maskTo_lt g k i
    have h1 : maskTo g k i < 2 ^ (i + 1) := Nat.lt_of_lt_of_le ih (Nat.pow_le_pow_right (by decide) (Nat.le_succ i))
    show (if g.getD i 0 = k then maskTo g k i ||| 2 ^ i else maskTo g k i) < 2 ^ (i + 1)
    split
    · exact Nat.or_lt_two_pow h1 (Nat.pow_lt_pow_right (by decide) (Nat.lt_succ_self i))
    · exact h1
theorem maskTo_bit (g : List Nat) (k : Nat) : ∀ i j, (maskTo g k i).testBit j = (decide (j < i) && (g.getD j 0 == k))
  | 0, j => by
    show (0 : Nat).testBit j = _
    simp
  | i + 1, j => by
    have ih := maskTo_bit g k i j
    show (if g.getD i 0 = k then maskTo g k i ||| 2 ^ i else maskTo g k i).testBit j = _
    by_cases c : g.getD i 0 = k
    · rw [if_pos c, Nat.testBit_or, ih, Nat.testBit_two_pow]
      by_cases e : j = i
      · subst e
        have c2 : (g.getD j 0 == k) = true := beq_iff_eq.mpr c
        simp only [c2]
        simp
      · have e1 : decide (i = j) = false := decide_eq_false fun z => e z.symm
        have e2 : decide (j < i + 1) = decide (j < i) := decide_eq_decide.mpr (by omega)
        rw [e1, e2, Bool.or_false]
    · rw [if_neg c, ih]
      by_cases e : j = i
      · subst e
        have c2 : (g.getD j 0 == k) = false := beq_eq_false_iff_ne.mpr c
        simp only [c2, Bool.and_false]
      · have e2 : decide (j < i + 1) = decide (j < i) := decide_eq_decide.mpr (by omega)
        rw [e2]
def mask (g : List Nat) (k : Nat) : Nat := maskTo g k g.length
theorem set_mask {g : List Nat} {n k : Nat} (h : g.length = n) : Ks566.set n (mask g k) = members g k := by
  unfold Ks566.set members mask
  rw [h]
  apply List.filter_congr
  intro i hi
  rw [maskTo_bit, decide_eq_true (List.mem_range.mp hi), Bool.true_and]
theorem mask_lt {g : List Nat} {n k : Nat} (h : g.length = n) : mask g k < 2 ^ n := by
  rw [← h]
  exact maskTo_lt g k g.length
def placesTo (g : List Nat) (i : Nat) : List Nat := (List.range (groups g + 1)).map fun k => maskTo g k i
def placesOf (g : List Nat) : List Nat := (List.range (groups g + 1)).map (mask g)
theorem placesTo_all (g : List Nat) : placesTo g g.length = placesOf g := rfl
theorem placesTo_zero (g : List Nat) : placesTo g 0 = List.replicate (groups g + 1) 0 := by
  unfold placesTo
  apply List.ext_getElem?
  intro j
  rw [List.getElem?_map, List.getElem?_replicate]
  by_cases h : j < groups g + 1
  · rw [List.getElem?_range h, if_pos h]
    rfl
  · rw [List.getElem?_eq_none (by rw [List.length_range]; omega), if_neg h]
    rfl
theorem placesTo_len (g : List Nat) (i : Nat) : (placesTo g i).length = groups g + 1 := by
  unfold placesTo
  rw [List.length_map, List.length_range]
theorem placesTo_at {g : List Nat} {i k : Nat} (h : k ≤ groups g) : (placesTo g i)[k]? = some (maskTo g k i) := by
  unfold placesTo
  rw [List.getElem?_map, List.getElem?_range (by omega)]
  rfl
theorem placesTo_succ (g : List Nat) (i : Nat) : placesTo g (i + 1) = (placesTo g i).set (g.getD i 0) (maskTo g (g.getD i 0) i ||| 2 ^ i) := by
  apply List.ext_getElem?
  intro j
  rw [List.getElem?_set]
  by_cases hj : j < groups g + 1
  · rw [placesTo_at (by omega), placesTo_at (by omega), placesTo_len]
    show some (if g.getD i 0 = j then maskTo g j i ||| 2 ^ i else maskTo g j i) = _
    by_cases c : g.getD i 0 = j
    · rw [if_pos c, if_pos c, c, if_pos hj]
    · rw [if_neg c, if_neg c]
  · have n1 : (placesTo g (i + 1))[j]? = none := List.getElem?_eq_none (by rw [placesTo_len]; omega)
    have n2 : (placesTo g i)[j]? = none := List.getElem?_eq_none (by rw [placesTo_len]; omega)
    rw [n1, n2, placesTo_len]
    split
    · rename_i e
      rw [e, if_neg hj]
    · rfl
theorem placesOf_at {g : List Nat} {k : Nat} (h : k ≤ groups g) : (placesOf g)[k]? = some (mask g k) := placesTo_at h
theorem placesOf_len (g : List Nat) : (placesOf g).length = groups g + 1 := placesTo_len g _
theorem getD_lt_groups {g : List Nat} {i : Nat} (h : i < g.length) : g.getD i 0 < groups g := by
  rw [List.getD_eq_getElem?_getD, List.getElem?_eq_getElem h]
  exact lt_groups (List.getElem_mem h)
/-! where one would rather go -/
def wishes (t : Folk) (g : Groups) (i : Nat) : List Nat := (List.range (groups g + 1)).filter fun k => decide (worth t g i < with_ t i (members g k))
theorem ways_pos {t : Folk} {g : Groups} {i k : Nat} : 0 < ways t g i k ↔ worth t g i < with_ t i (members g k) := by
  unfold ways
  by_cases c : with_ t i (members g k) ≤ worth t g i
  · rw [if_pos c]
    omega
  · rw [if_neg c]
    constructor
    · intro _
      omega
    · intro _
      split
      · decide
      · split <;> decide
theorem ways_le3 (t : Folk) (g : Groups) (i k : Nat) : ways t g i k ≤ 3 := by
  unfold ways
  split
  · omega
  · split
    · omega
    · split <;> omega
theorem wishes_le {t : Folk} {g : Groups} {i k : Nat} (h : k ∈ wishes t g i) : k ≤ groups g := Nat.le_of_lt_succ (List.mem_range.mp (List.mem_filter.mp h).1)
theorem wishes_len (t : Folk) (g : Groups) (i : Nat) : (wishes t g i).length ≤ groups g + 1 := by
  have q := List.length_filter_le (fun k => decide (worth t g i < with_ t i (members g k))) (List.range (groups g + 1))
  rw [List.length_range] at q
  exact q
theorem mem_wishes {t : Folk} {g : Groups} {i k : Nat} (hk : k ≤ groups g) (h : 0 < ways t g i k) : k ∈ wishes t g i :=
  List.mem_filter.mpr ⟨List.mem_range.mpr (by omega), decide_eq_true (ways_pos.mp h)⟩
/-- the moves of the first i people -/
def movesTo (t : Folk) (w : Nat) (g : List Nat) (i : Nat) : List (Nat × Nat) := (List.range i).flatMap fun i => ((List.range (groups g + 1)).filter fun k => may t w g i k).map fun k => (i, k)
/-- .. of the next one, of the first j wishes -/
def movesW (t : Folk) (w : Nat) (g : List Nat) (i j : Nat) : List (Nat × Nat) := (((wishes t g i).take j).filter fun k => decide (w < ways t g i k)).map fun k => (i, k)
theorem movesTo_succ {t : Folk} {w : Nat} (hw : w ≤ 2) (g : List Nat) (i : Nat) : movesTo t w g (i + 1) = movesTo t w g i ++ movesW t w g i (wishes t g i).length := by
  unfold movesTo movesW
  rw [show List.range (i + 1) = List.range i ++ [i] from List.range_succ, List.flatMap_append, List.take_length]
  congr 1
  rw [List.flatMap_cons, List.flatMap_nil, List.append_nil]
  congr 1
  unfold wishes
  rw [List.filter_filter]
  apply List.filter_congr
  intro k hk
  have hk : k ≤ groups g := Nat.le_of_lt_succ (List.mem_range.mp hk)
  rw [may_is hk hw]
  by_cases c : w < ways t g i k
  · rw [decide_eq_true c, decide_eq_true (ways_pos.mp (Nat.lt_of_le_of_lt (Nat.zero_le w) c))]
    rfl
  · rw [decide_eq_false c, Bool.false_and]
theorem movesW_yes {t : Folk} {w : Nat} {g : List Nat} {i j k : Nat} (hj : (wishes t g i)[j]? = some k) (h : w < ways t g i k) : movesW t w g i (j + 1) = movesW t w g i j ++ [(i, k)] := by
  unfold movesW
  rw [List.take_add_one, hj, List.filter_append, List.map_append]
  show _ ++ List.map _ (List.filter _ [k]) = _
  rw [List.filter_cons, if_pos (decide_eq_true h)]
  rfl
theorem movesW_no {t : Folk} {w : Nat} {g : List Nat} {i j k : Nat} (hj : (wishes t g i)[j]? = some k) (h : ¬ w < ways t g i k) : movesW t w g i (j + 1) = movesW t w g i j := by
  unfold movesW
  rw [List.take_add_one, hj, List.filter_append, List.map_append]
  show _ ++ List.map _ (List.filter _ [k]) = _
  rw [List.filter_cons, if_neg (fun z => h (of_decide_eq_true z))]
  show _ ++ [] = _
  rw [List.append_nil]
theorem movesW_len (t : Folk) (w : Nat) (g : List Nat) (i j : Nat) : (movesW t w g i j).length ≤ groups g + 1 := by
  unfold movesW
  rw [List.length_map]
  refine Nat.le_trans (List.length_filter_le _ _) ?_
  rw [List.length_take]
  exact Nat.le_trans (Nat.min_le_right _ _) (wishes_len t g i)
theorem movesTo_len (t : Folk) (w : Nat) (g : List Nat) : ∀ i, (movesTo t w g i).length ≤ i * (groups g + 1)
  | 0 => Nat.zero_le _
  | i + 1 => by
    have e : movesTo t w g (i + 1) = movesTo t w g i ++ ((List.range (groups g + 1)).filter fun k => may t w g i k).map fun k => (i, k) := by
      unfold movesTo
      rw [show List.range (i + 1) = List.range i ++ [i] from List.range_succ, List.flatMap_append]
      simp
    rw [e, List.length_append, Nat.succ_mul, List.length_map]
    refine Nat.add_le_add (movesTo_len t w g i) ?_
    have q := List.length_filter_le (fun k => may t w g i k) (List.range (groups g + 1))
    rw [List.length_range] at q
    exact q
theorem moves_len {t : Folk} {x : Nat} {g : List Nat} (h5 : t.n ≤ 5) (hn : 0 < t.n) (hf : ∀ x ∈ g, x < t.n) : (moves t x g).length ≤ 30 := by
  have z := movesTo_len t x g t.n
  have hG : groups g ≤ t.n := groups_le hn hf
  have z2 : t.n * (groups g + 1) ≤ 5 * 6 := Nat.mul_le_mul h5 (by omega)
  exact Nat.le_trans z z2
theorem moves_mem {t : Folk} {w : Nat} {g : List Nat} {x : Nat × Nat} (h : x ∈ moves t w g) : x.1 < t.n ∧ x.2 ≤ groups g := by
  unfold moves at h
  obtain ⟨i, hi, hx⟩ := List.mem_flatMap.mp h
  obtain ⟨k, hk, rfl⟩ := List.mem_map.mp hx
  exact ⟨List.mem_range.mp hi, Nat.le_of_lt_succ (List.mem_range.mp (List.mem_filter.mp hk).1)⟩
/-! at rest -/
theorem rests_iff {t : Folk} {w : Nat} {g : Groups} (hw : w ≤ 2) : rests t w g = true ↔ ∀ i, i < t.n → ∀ k, k ≤ groups g → ways t g i k ≤ w := by
  unfold rests moves
  rw [List.isEmpty_iff, List.flatMap_eq_nil_iff]
  constructor
  · intro h i hi k hk
    have z := h i (List.mem_range.mpr hi)
    rw [List.map_eq_nil_iff, List.filter_eq_nil_iff] at z
    have z2 := z k (List.mem_range.mpr (by omega))
    rw [may_is hk hw, decide_eq_true_eq] at z2
    omega
  · intro h i hi
    rw [List.map_eq_nil_iff, List.filter_eq_nil_iff]
    intro k hk
    have hk : k ≤ groups g := Nat.le_of_lt_succ (List.mem_range.mp hk)
    rw [may_is hk hw, decide_eq_true_eq]
    have := h i (List.mem_range.mp hi) k hk
    omega
def waysAny (t : Folk) (g : Groups) : Nat := if rests t 0 g then 0 else if rests t 1 g then 1 else if rests t 2 g then 2 else 3
theorem waysAny_le {t : Folk} {w : Nat} {g : Groups} (hw : w ≤ 2) : decide (waysAny t g ≤ w) = rests t w g := by
  have m01 : rests t 0 g = true → rests t 1 g = true := fun h => (rests_iff (by decide)).mpr fun i hi k hk => Nat.le_succ_of_le ((rests_iff (by decide)).mp h i hi k hk)
  have m12 : rests t 1 g = true → rests t 2 g = true := fun h => (rests_iff (by decide)).mpr fun i hi k hk => Nat.le_succ_of_le ((rests_iff (by decide)).mp h i hi k hk)
  unfold waysAny
  have hw' : w = 0 ∨ w = 1 ∨ w = 2 := by omega
  cases h0 : rests t 0 g <;> cases h1 : rests t 1 g <;> cases h2 : rests t 2 g <;> rcases hw' with rfl | rfl | rfl <;> simp_all
theorem waysAny_of {t : Folk} {g : Groups} {m : Nat} (h3 : m ≤ 3) (hub : ∀ i, i < t.n → ∀ k, k ≤ groups g → ways t g i k ≤ m) (hat : m = 0 ∨ ∃ i, i < t.n ∧ ∃ k, k ≤ groups g ∧ ways t g i k = m) : waysAny t g = m := by
  have key : ∀ w, w ≤ 2 → (rests t w g = true ↔ m ≤ w) := fun w hw => by
    rw [rests_iff hw]
    constructor
    · intro h
      rcases hat with e | ⟨i, hi, k, hk, e⟩
      · omega
      · rw [← e]
        exact h i hi k hk
    · intro h i hi k hk
      exact Nat.le_trans (hub i hi k hk) h
  unfold waysAny
  have k0 := key 0 (by decide)
  have k1 := key 1 (by decide)
  have k2 := key 2 (by decide)
  by_cases c0 : m ≤ 0
  · rw [if_pos (k0.mpr c0)]
    omega
  · rw [if_neg fun z => c0 (k0.mp z)]
    by_cases c1 : m ≤ 1
    · rw [if_pos (k1.mpr c1)]
      omega
    · rw [if_neg fun z => c1 (k1.mp z)]
      by_cases c2 : m ≤ 2
      · rw [if_pos (k2.mpr c2)]
        omega
      · rw [if_neg fun z => c2 (k2.mp z)]
        omega
/-! leaving -/
theorem how_le2 (t : Folk) (g : Groups) (s : Nat) : how t g s ≤ 2 := by
  unfold how
  split
  · omega
  · split <;> omega
theorem how_lose {t : Folk} {g : Groups} {s i : Nat} (hi : i ∈ Ks566.set t.n s) (h : with_ t i (Ks566.set t.n s) < worth t g i) : how t g s = 0 := by
  have e1 : Ks566.leaves t g s = false := by
    unfold Ks566.leaves
    rw [Bool.and_eq_false_iff]
    refine .inr (List.all_eq_false.mpr ⟨i, hi, ?_⟩)
    rw [decide_eq_true_eq]
    omega
  have e2 : Ks566.leavesWeak t g s = false := by
    unfold Ks566.leavesWeak
    rw [Bool.and_eq_false_iff]
    refine .inl (List.all_eq_false.mpr ⟨i, hi, ?_⟩)
    rw [decide_eq_true_eq]
    omega
  unfold how
  rw [e1, e2]
  rfl
/-- how many gain -/
def gainers (t : Folk) (g : Groups) (s : Nat) (l : List Nat) : Nat := l.countP fun i => decide (worth t g i < with_ t i (Ks566.set t.n s))
theorem how_gain {t : Folk} {g : Groups} {s : Nat} (hs : s ≠ 0) (hlt : s < 2 ^ t.n) (hno : ∀ i ∈ Ks566.set t.n s, worth t g i ≤ with_ t i (Ks566.set t.n s)) :
    how t g s = if gainers t g s (Ks566.set t.n s) = 0 then 0 else if gainers t g s (Ks566.set t.n s) = (Ks566.set t.n s).length then 2 else 1 := by
  have ha : (Ks566.set t.n s).all (fun i => decide (worth t g i ≤ with_ t i (Ks566.set t.n s))) = true := List.all_eq_true.mpr fun i hi => decide_eq_true (hno i hi)
  have e1 : Ks566.leaves t g s = decide (gainers t g s (Ks566.set t.n s) = (Ks566.set t.n s).length) := by
    unfold Ks566.leaves gainers
    rw [bne_iff_ne.mpr hs, Bool.true_and, Bool.eq_iff_iff, List.all_eq_true, decide_eq_true_eq, List.countP_eq_length]
  have e2 : Ks566.leavesWeak t g s = decide (gainers t g s (Ks566.set t.n s) ≠ 0) := by
    unfold Ks566.leavesWeak gainers
    rw [ha, Bool.true_and, Bool.eq_iff_iff, List.any_eq_true, decide_eq_true_eq, ← Nat.pos_iff_ne_zero, List.countP_pos_iff]
  unfold how
  rw [e1, e2]
  by_cases c0 : gainers t g s (Ks566.set t.n s) = 0
  · by_cases c1 : gainers t g s (Ks566.set t.n s) = (Ks566.set t.n s).length
    · exact absurd (List.length_eq_zero_iff.mp (by omega)) (set_ne hs hlt)
    · rw [if_pos c0, decide_eq_false c1, if_neg Bool.false_ne_true, c0]
      rfl
  · rw [if_neg c0, decide_eq_true c0]
    by_cases c1 : gainers t g s (Ks566.set t.n s) = (Ks566.set t.n s).length
    · rw [if_pos c1, decide_eq_true c1]
      rfl
    · rw [if_neg c1, decide_eq_false c1]
      rfl
theorem holds_iff {t : Folk} {w : Nat} {g : Groups} (hw : w ≤ 1) : Ks566.holds t w g = true ↔ ∀ s, s ≠ 0 → s < 2 ^ t.n → how t g s < if w = 1 then 1 else 2 := by
  unfold Ks566.holds
  rw [by_is hw, List.isEmpty_iff, List.filter_eq_nil_iff]
  constructor
  · intro h s h0 h1
    have z := h s (List.mem_range.mpr h1)
    rw [decide_eq_true_eq] at z
    exact Nat.lt_of_not_le fun y => z ⟨h0, y⟩
  · intro h s hs
    rw [decide_eq_true_eq]
    rintro ⟨h0, h1⟩
    exact absurd h1 (Nat.not_le_of_lt (h s h0 (List.mem_range.mp hs)))
def leavAny (t : Folk) (g : Groups) : Nat := if Ks566.holds t 1 g then 0 else if Ks566.holds t 0 g then 1 else 2
theorem leavAny_of {t : Folk} {g : Groups} {m : Nat} (h2 : m ≤ 2) (hub : ∀ s, s ≠ 0 → s < 2 ^ t.n → how t g s ≤ m) (hat : m = 0 ∨ ∃ s, s ≠ 0 ∧ s < 2 ^ t.n ∧ how t g s = m) : leavAny t g = m := by
  have k1 : Ks566.holds t 1 g = true ↔ m < 1 := by
    rw [holds_iff (by decide)]
    constructor
    · intro h
      rcases hat with e | ⟨s, h0, h1, e⟩
      · omega
      · rw [← e]
        exact h s h0 h1
    · intro h s h0 h1
      exact Nat.lt_of_le_of_lt (hub s h0 h1) h
  have k0 : Ks566.holds t 0 g = true ↔ m < 2 := by
    rw [holds_iff (by decide)]
    constructor
    · intro h
      rcases hat with e | ⟨s, h0, h1, e⟩
      · omega
      · rw [← e]
        exact h s h0 h1
    · intro h s h0 h1
      exact Nat.lt_of_le_of_lt (hub s h0 h1) h
  unfold leavAny
  by_cases c1 : m < 1
  · rw [if_pos (k1.mpr c1)]
    omega
  · rw [if_neg fun z => c1 (k1.mp z)]
    by_cases c0 : m < 2
    · rw [if_pos (k0.mpr c0)]
      omega
    · rw [if_neg fun z => c0 (k0.mp z)]
      omega
theorem leavAny_lt {t : Folk} {w : Nat} {g : Groups} (hw : w ≤ 1) : decide (leavAny t g < if w = 1 then 1 else 2) = Ks566.holds t w g := by
  have m10 : Ks566.holds t 1 g = true → Ks566.holds t 0 g = true := fun h => (holds_iff (by decide)).mpr fun s h0 h1 => Nat.lt_succ_of_lt ((holds_iff (by decide)).mp h s h0 h1)
  unfold leavAny
  have hw' : w = 0 ∨ w = 1 := by omega
  cases h0 : Ks566.holds t 0 g <;> cases h1 : Ks566.holds t 1 g <;> rcases hw' with rfl | rfl <;> simp_all
/-! firm -/
theorem firm_iff {t : Folk} {s : Nat} (h0 : s ≠ 0) (h1 : s < 2 ^ t.n) : Ks566.firm t s = true ↔ ∀ r, 1 ≤ r → r < s → ¬ (r &&& s = r ∧ ∀ i ∈ Ks566.set t.n r, with_ t i (Ks566.set t.n s) < with_ t i (Ks566.set t.n r)) := by
  unfold Ks566.firm
  rw [bne_iff_ne.mpr h0, Bool.true_and, List.all_eq_true]
  constructor
  · rintro h r hr1 hr2 ⟨ha, hb⟩
    have z := h r (List.mem_range.mpr (by omega))
    have e1 : (r == 0) = false := beq_eq_false_iff_ne.mpr (by omega)
    have e2 : ((r &&& s) != r) = false := by rw [ha]; simp
    have e3 : (r == s) = false := beq_eq_false_iff_ne.mpr (by omega)
    have e4 : ((Ks566.set t.n r).all fun i => decide (with_ t i (Ks566.set t.n s) < with_ t i (Ks566.set t.n r))) = true := List.all_eq_true.mpr fun i hi => decide_eq_true (hb i hi)
    rw [e1, e2, e3, e4] at z
    cases z
  · intro h r _
    by_cases c1 : r = 0
    · rw [c1]
      rfl
    · by_cases c2 : r &&& s = r
      · by_cases c3 : r = s
        · have e3 : (r == s) = true := beq_iff_eq.mpr c3
          rw [e3]
          simp
        · have hle : r ≤ s := by
            rw [← c2]
            exact Nat.and_le_right
          have hn := h r (by omega) (by omega)
          have e4 : ((Ks566.set t.n r).all fun i => decide (with_ t i (Ks566.set t.n s) < with_ t i (Ks566.set t.n r))) = false := by
            rw [Bool.eq_false_iff]
            intro y
            refine hn ⟨c2, fun i hi => ?_⟩
            exact of_decide_eq_true (List.all_eq_true.mp y i hi)
          rw [e4]
          simp
      · have e2 : ((r &&& s) != r) = true := bne_iff_ne.mpr c2
        rw [e2]
        simp
/-! all ways -/
theorem mx_groups : ∀ {g : List Nat}, g ≠ [] → mx g = groups g := fun {g} h => by
  have key : ∀ (l : List Nat) (a : Nat), (l.map (· + 1)).foldl max (a + 1) = l.foldl max a + 1 := by
    intro l
    induction l with
    | nil => intro a; rfl
    | cons x r ih =>
      intro a
      rw [List.map_cons, List.foldl_cons, List.foldl_cons, ← ih]
      congr 1
      omega
  cases g with
  | nil => exact absurd rfl h
  | cons x r =>
    unfold mx groups
    rw [List.map_cons, List.foldl_cons, List.foldl_cons, Nat.max_eq_right (Nat.zero_le _), Nat.max_eq_right (Nat.zero_le _)]
    exact key r x
/-- the ways with one person more, of the first j ways -/
def longerTo (l : List Groups) (j : Nat) : List Groups := (l.take j).flatMap fun g => (List.range (groups g + 1)).map fun x => g ++ [x]
theorem longer_all {n : Nat} (h : 0 < n) : longerTo (all n) (all n).length = all (n + 1) := by
  unfold longerTo
  rw [List.take_length]
  show _ = (all n).flatMap fun g => (List.range ((g.map (· + 1)).foldl max 0 + 1)).map fun x => g ++ [x]
  refine flatMap_congr_mem fun g hg => ?_
  have hne : g ≠ [] := fun z => by
    have := all_length hg
    rw [z] at this
    simp at this
    omega
  have e := mx_groups hne
  unfold mx at e
  rw [e]
theorem longerTo_succ {l : List Groups} {j : Nat} {g : Groups} (h : l[j]? = some g) : longerTo l (j + 1) = longerTo l j ++ (List.range (groups g + 1)).map fun x => g ++ [x] := by
  unfold longerTo
  rw [List.take_add_one, h, List.flatMap_append]
  simp
theorem longerTo_len {l : List Groups} {j m : Nat} (h : ∀ g ∈ l, groups g ≤ m) : (longerTo l j).length ≤ l.length * (m + 1) := by
  unfold longerTo
  have key : ∀ k : List Groups, (∀ g ∈ k, groups g ≤ m) → (k.flatMap fun g => (List.range (groups g + 1)).map fun x => g ++ [x]).length ≤ k.length * (m + 1) := by
    intro k
    induction k with
    | nil => intro _; exact Nat.zero_le _
    | cons g k ih =>
      intro hk
      rw [List.flatMap_cons, List.length_append, List.length_map, List.length_range, List.length_cons, Nat.succ_mul]
      have h1 := hk g List.mem_cons_self
      have h2 := ih fun x hx => hk x (List.mem_cons_of_mem _ hx)
      omega
  refine Nat.le_trans (key _ fun g hg => h g (List.mem_of_mem_take hg)) (Nat.mul_le_mul_right _ ?_)
  rw [List.length_take]
  exact Nat.min_le_right _ _
theorem all_one : all 1 = [[0]] := by decide
theorem groups_all {n : Nat} {g : Groups} (hn : 0 < n) (h : g ∈ all n) : groups g ≤ n := groups_le hn (all_few h)
/-! kinds of rest -/
def kindB (t : Folk) (g : Groups) (w : Nat) : Bool := if w ≤ 2 then rests t w g else Ks566.holds t (w - 3) g
theorem kind_is (t : Folk) (w : Nat) : Ks568.kind t w = (all t.n).filter fun g => kindB t g w := by
  unfold Ks568.kind kindB
  by_cases c : w ≤ 2
  · rw [if_pos c]
    apply List.filter_congr
    intro g _
    rw [if_pos c]
  · rw [if_neg c]
    apply List.filter_congr
    intro g _
    rw [if_neg c]
theorem kinds_list (t : Folk) (g : Groups) : [decide (waysAny t g ≤ 0), decide (waysAny t g ≤ 1), decide (waysAny t g ≤ 2), decide (leavAny t g < 2), decide (leavAny t g < 1)] = (List.range 5).map (kindB t g) := by
  have e3 := leavAny_lt (t := t) (g := g) (w := 0) (by decide)
  have e4 := leavAny_lt (t := t) (g := g) (w := 1) (by decide)
  rw [waysAny_le (by decide), waysAny_le (by decide), waysAny_le (by decide)]
  rw [if_neg (by decide)] at e3
  rw [if_pos rfl] at e4
  rw [e3, e4]
  rfl
/-! the best -/
theorem least_min : ∀ {l : List Int}, l ≠ [] → Ks568.least l ∈ l ∧ ∀ y ∈ l, Ks568.least l ≤ y := fun {l} h => by
  cases l with
  | nil => exact absurd rfl h
  | cons x r =>
    show r.foldl min x ∈ x :: r ∧ ∀ y ∈ x :: r, r.foldl min x ≤ y
    have key : ∀ (r : List Int) (x : Int), (r.foldl min x = x ∨ r.foldl min x ∈ r) ∧ r.foldl min x ≤ x ∧ ∀ y ∈ r, r.foldl min x ≤ y := by
      intro r
      induction r with
      | nil => intro x; exact ⟨.inl rfl, Int.le_refl _, fun y hy => by cases hy⟩
      | cons z r ih =>
        intro x
        rw [List.foldl_cons]
        obtain ⟨h1, h2, h3⟩ := ih (min x z)
        have hm : min x z = x ∨ min x z = z := by omega
        refine ⟨?_, by omega, fun y hy => ?_⟩
        · rcases h1 with e | e
          · rcases hm with m | m
            · exact .inl (e.trans m)
            · exact .inr (by rw [e, m]; exact List.mem_cons_self)
          · exact .inr (List.mem_cons_of_mem _ e)
        · rcases List.mem_cons.mp hy with e | e
          · rw [e]; omega
          · exact h3 y e
    obtain ⟨h1, h2, h3⟩ := key r x
    refine ⟨?_, fun y hy => ?_⟩
    · rcases h1 with e | e
      · rw [e]; exact List.mem_cons_self
      · exact List.mem_cons_of_mem _ e
    · rcases List.mem_cons.mp hy with e | e
      · rw [e]; exact h2
      · exact h3 y e
def bestOf (v : Groups → Int) (g : Groups) (l : List Groups) : Groups := l.foldl (fun b h => if v b < v h then h else b) g
theorem best_cons (t : Folk) (k : Nat) (g : Groups) (l : List Groups) : Ks568.best t k (g :: l) = some (bestOf (Ks568.value t k) g l) := rfl
theorem total_sum (t : Folk) (g : List Nat) : Ks567.total t g = (Ks568.worths t g).sum := by
  unfold Ks567.total Ks568.worths
  rw [foldl_add]
  omega
theorem worths_len (t : Folk) (g : Groups) : (Ks568.worths t g).length = t.n := by
  unfold Ks568.worths
  rw [List.length_map, List.length_range]
theorem worths_at {t : Folk} {g : Groups} {i : Nat} (h : i < t.n) : (Ks568.worths t g)[i]? = some (worth t g i) := by
  unfold Ks568.worths
  rw [List.getElem?_map, List.getElem?_range h]
  rfl
/-! beaten -/
theorem better_is (t : Folk) (g h : Groups) : Ks568.better t g h = (decide (Ks568.worths t h ≠ Ks568.worths t g) && (List.range t.n).all fun i => decide (worth t g i ≤ worth t h i)) := by
  unfold Ks568.better
  cases ha : (List.range t.n).all fun i => decide (worth t g i ≤ worth t h i) with
  | false => rw [Bool.false_and, Bool.and_false]
  | true =>
    rw [Bool.true_and, Bool.and_true, Bool.eq_iff_iff, List.any_eq_true, decide_eq_true_eq]
    have hle : ∀ i, i < t.n → worth t g i ≤ worth t h i := fun i hi => of_decide_eq_true (List.all_eq_true.mp ha i (List.mem_range.mpr hi))
    constructor
    · rintro ⟨i, hi, hlt⟩ e
      have hi := List.mem_range.mp hi
      have hlt := of_decide_eq_true hlt
      have z := worths_at (t := t) (g := h) hi
      rw [e, worths_at hi] at z
      have z := Option.some.inj z
      omega
    · intro hne
      apply Classical.byContradiction
      intro hc
      refine hne ?_
      unfold Ks568.worths
      apply List.map_congr_left
      intro i hi
      have h1 := hle i (List.mem_range.mp hi)
      have h2 : ¬ worth t g i < worth t h i := fun y => hc ⟨i, hi, decide_eq_true y⟩
      omega
/-! perfect -/
theorem most_is (t : Folk) (i : Nat) : Ks566.most t i = (((List.range t.n).map (likes t i)).filter fun x => decide (0 < x)).sum := by
  unfold Ks566.most
  rw [foldl_add, Int.zero_add]
  generalize List.range t.n = l
  induction l with
  | nil => rfl
  | cons j l ih =>
    rw [List.map_cons, List.map_cons, List.sum_cons, List.filter_cons, ih]
    by_cases c : 0 < likes t i j
    · rw [if_pos (decide_eq_true c), List.sum_cons]
      omega
    · rw [if_neg (fun z => c (of_decide_eq_true z))]
      omega
theorem perfect_is (t : Folk) (g : Groups) : Ks566.perfect t g = decide (Ks568.worths t g = (List.range t.n).map (Ks566.most t)) := by
  unfold Ks566.perfect Ks568.worths
  rw [Bool.eq_iff_iff, List.all_eq_true, decide_eq_true_eq, List.map_inj_left]
  constructor
  · intro h i hi
    exact eq_of_beq (h i hi)
  · intro h i hi
    exact beq_iff_eq.mpr (h i hi)
/-! envies -/
theorem bit_off : ∀ m < 32, ∀ j < 5, m.testBit j = true → 2 ^ j ≤ m ∧ ∀ i < 5, (m - 2 ^ j).testBit i = (m.testBit i && i != j) := by decide +kernel
theorem set_off {n m j : Nat} (hn : n ≤ 5) (hj : j < n) (hm : m < 2 ^ n) (hb : m.testBit j = true) : Ks566.set n (m - 2 ^ j) = (Ks566.set n m).filter fun x => x != j := by
  have h32 : m < 32 := Nat.lt_of_lt_of_le hm (pow_le32 hn)
  obtain ⟨_, h⟩ := bit_off m h32 j (by omega) hb
  unfold Ks566.set
  rw [List.filter_filter]
  apply List.filter_congr
  intro i hi
  rw [h i (by have := List.mem_range.mp hi; omega), Bool.and_comm]
def enviousB (t : Folk) (g : Groups) (i j : Nat) : Bool := g.getD i 0 != g.getD j 0 && decide (worth t g i < with_ t i ((members g (g.getD j 0)).filter fun x => x != j))
def envTo (t : Folk) (g : Groups) (i : Nat) : List (Nat × Nat) := (List.range i).flatMap fun i => ((List.range t.n).filter fun j => enviousB t g i j).map fun j => (i, j)
def envIn (t : Folk) (g : Groups) (i j : Nat) : List (Nat × Nat) := ((List.range j).filter fun j => enviousB t g i j).map fun j => (i, j)
theorem env_all (t : Folk) (g : Groups) : envTo t g t.n = Ks568.envies t g := rfl
theorem envTo_succ (t : Folk) (g : Groups) (i : Nat) : envTo t g (i + 1) = envTo t g i ++ envIn t g i t.n := by
  unfold envTo envIn
  rw [show List.range (i + 1) = List.range i ++ [i] from List.range_succ, List.flatMap_append]
  simp
theorem envIn_yes {t : Folk} {g : Groups} {i j : Nat} (h : enviousB t g i j = true) : envIn t g i (j + 1) = envIn t g i j ++ [(i, j)] := by
  unfold envIn
  rw [List.range_succ, List.filter_append, List.map_append]
  simp [h]
theorem envIn_no {t : Folk} {g : Groups} {i j : Nat} (h : enviousB t g i j = false) : envIn t g i (j + 1) = envIn t g i j := by
  unfold envIn
  rw [List.range_succ, List.filter_append, List.map_append]
  simp [h]
theorem envIn_len (t : Folk) (g : Groups) (i j : Nat) : (envIn t g i j).length ≤ j := by
  unfold envIn
  rw [List.length_map]
  exact Nat.le_trans (List.length_filter_le _ _) (Nat.le_of_eq List.length_range)
theorem envTo_len (t : Folk) (g : Groups) : ∀ i, (envTo t g i).length ≤ i * t.n
  | 0 => Nat.zero_le _
  | i + 1 => by
    rw [envTo_succ, List.length_append, Nat.succ_mul]
    exact Nat.add_le_add (envTo_len t g i) (envIn_len _ _ _ _)
/-! round: what leads to nothing but what ends, ends -/
/-- in the list of those that end, each comes behind all that it leads to -/
def EndsIn (t : Folk) (w : Nat) (l : List Groups) : Prop := ∀ (a b : List Groups) (x : Groups), l = a ++ x :: b → ∀ y ∈ Ks567.next t w x, y ∈ a
theorem EndsIn.snoc {t : Folk} {w : Nat} {l : List Groups} {x : Groups} (h : EndsIn t w l) (hx : ∀ y ∈ Ks567.next t w x, y ∈ l) : EndsIn t w (l ++ [x]) := by
  intro a b z e y hy
  rcases List.append_eq_append_iff.mp e with ⟨c, e1, e2⟩ | ⟨c, e1, e2⟩
  · cases c with
    | nil =>
      rw [List.append_nil] at e1
      have e3 : x = z := by
        rw [List.nil_append] at e2
        exact (List.cons.inj e2).1
      rw [e1]
      rw [← e3] at hy
      exact hx y hy
    | cons c0 cs =>
      rw [List.cons_append] at e2
      have e3 := (List.cons.inj e2).2
      cases cs with
      | nil => cases e3
      | cons _ _ => cases e3
  · cases c with
    | nil =>
      rw [List.append_nil] at e1
      rw [List.nil_append] at e2
      have e3 : z = x := (List.cons.inj e2).1
      rw [← e1]
      rw [e3] at hy
      exact hx y hy
    | cons c0 cs =>
      rw [List.cons_append] at e2
      have e3 : z = c0 := (List.cons.inj e2).1
      exact h a cs z (by rw [e1, e3]) y hy
theorem ends_come {t : Folk} {w : Nat} : ∀ (l : List Groups), EndsIn t w l → l.Nodup → ∀ x y, x ∈ l → y ∈ Ks567.next t w x → Come t w y x → False := by
  intro l h hn x y hx hy hc
  -- everything reached from what stands ahead of x stands ahead of x
  obtain ⟨a, b, rfl⟩ := List.append_of_mem hx
  have hya : y ∈ a := h a b x rfl y hy
  have key : ∀ z, Come t w y z → z ∈ a := by
    intro z hz
    induction hz with
    | here => exact hya
    | on _ hn2 ih =>
      rename_i u v _
      obtain ⟨a1, a2, rfl⟩ := List.append_of_mem ih
      have := h a1 (a2 ++ x :: b) u (by simp) v hn2
      exact List.mem_append.mpr (.inl this)
  have hxa := key x hc
  have := (List.nodup_append.mp hn).2.2 x hxa x List.mem_cons_self
  exact this rfl
theorem path_cycle {t : Folk} {w n : Nat} (hn : n ≤ 5) {U : Groups → Prop} (hU : ∀ x, U x → x ∈ all n) (hs : ∀ x, U x → ∃ y, y ∈ Ks567.next t w x ∧ U y) : ∀ (f : Nat) (p : List Groups) (u : Groups), (u :: p).Nodup → (∀ x ∈ u :: p, U x) → (∀ x ∈ u :: p, Come t w x u) → 52 < f + (u :: p).length → ∃ h x, U h ∧ x ∈ Ks567.next t w h ∧ Come t w x h
  | 0, p, u, h1, h2, _, h4 => by
    have := ways_few hn h1 fun g hg => hU g (h2 g hg)
    omega
  | f + 1, p, u, h1, h2, h3, h4 => by
    obtain ⟨y, hy, uy⟩ := hs u (h2 u List.mem_cons_self)
    by_cases c : y ∈ u :: p
    · exact ⟨u, y, h2 u List.mem_cons_self, hy, h3 y c⟩
    · refine path_cycle hn hU hs f (u :: p) y (List.nodup_cons.mpr ⟨c, h1⟩) (fun x hx => ?_) (fun x hx => ?_) (by rw [List.length_cons]; omega)
      · rcases List.mem_cons.mp hx with e | e
        · rw [e]; exact uy
        · exact h2 x e
      · rcases List.mem_cons.mp hx with e | e
        · rw [e]; exact .here
        · exact .on (h3 x e) hy
/-- all that may be come to ends just if it may not go round -/
theorem round_ends {t : Folk} {w n : Nat} {g : Groups} {l e : List Groups} (hn : n ≤ 5) (hg : g ∈ all n) (hl : ∀ x, x ∈ l ↔ Come t w g x) (he : EndsIn t w e) (hen : e.Nodup) (hel : ∀ x ∈ e, x ∈ l) (hfix : ∀ x ∈ l, (∀ y ∈ Ks567.next t w x, y ∈ e) → x ∈ e) :
    Ks567.round t w g = true ↔ ∃ x ∈ l, x ∉ e := by
  rw [round_iff hn hg]
  constructor
  · rintro ⟨h, x, c, hx, hc⟩
    refine ⟨h, (hl h).mpr c, fun z => ?_⟩
    exact ends_come e he hen h x z hx hc
  · rintro ⟨x, hx, hxe⟩
    have hs : ∀ z, (z ∈ l ∧ z ∉ e) → ∃ y, y ∈ Ks567.next t w z ∧ (y ∈ l ∧ y ∉ e) := fun z ⟨z1, z2⟩ => by
      apply Classical.byContradiction
      intro hc
      refine z2 (hfix z z1 fun y hy => ?_)
      apply Classical.byContradiction
      intro hye
      exact hc ⟨y, hy, (hl y).mpr (.on ((hl z).mp z1) hy), hye⟩
    obtain ⟨h, y, ⟨u1, u2⟩, h1, h2⟩ := path_cycle (t := t) (w := w) hn (U := fun z => z ∈ l ∧ z ∉ e) (fun z hz => come_all hg ((hl z).mp hz.1)) hs 60 [] x (List.nodup_cons.mpr ⟨(fun z => (by cases z)), List.nodup_nil⟩) (fun z hz => by rw [List.mem_singleton.mp hz]; exact ⟨hx, hxe⟩) (fun z hz => by rw [List.mem_singleton.mp hz]; exact .here) (by show 52 < 60 + 1; decide)
    exact ⟨h, y, (hl h).mp u1, h1, h2⟩
end Rg

set_option Elab.async false
set_option maxRecDepth 100000
set_option maxHeartbeats 2000000
set_option linter.unusedVariables false
/-! the base: places of the text, rules with the written part named, how things lie in the heap -/
namespace Rg
open PySem PySem.Spec PyProof.Rows L2 Evl
def top (i : Nat) : Stmt := PySem.Challenge.pw_restgroups_s01_answers.main.body.getD i (.Pass ⟨0, 0, 0, 0⟩)
def inCls (s : Stmt) (j : Nat) : Stmt := (C8.clsBody s).getD j (.Pass ⟨0, 0, 0, 0⟩)
/-- names that the top leaves to the built-ins -/
structure Blt (mg : Str → Option Value) : Prop where
  len : mg "len" = none
  range : mg "range" = none
  sum : mg "sum" = none
  all : mg "all" = none
  max : mg "max" = none
  min : mg "min" = none
  abs : mg "abs" = none
  list : mg "list" = none
  any : mg "any" = none
  enumerate : mg "enumerate" = none
  zip : mg "zip" = none
  tuple : mg "tuple" = none
/-! rules with the written part named -/
section
variable {X : Cx}
theorem ixl (K : PySem.W.Frag) (h : X.K = K) : IxR X (rIxL K) := by subst h; exact ix_list
theorem ixt (K : PySem.W.Frag) (h : X.K = K) : IxR X (rIxT K) := by subst h; exact ix_tup
theorem slL (K : PySem.W.Frag) (h : X.K = K) : SlR X (rSlL K) := by subst h; exact sl_list
theorem cLen (K : PySem.W.Frag) (h : X.K = K) : CallR X (.builtin "len") (rLenS K) := by subst h; exact call_len_seq
theorem cListOf (K : PySem.W.Frag) (h : X.K = K) : CallR X (.type "list") (rListS K) := by subst h; exact call_list_of
theorem cSum (K : PySem.W.Frag) (h : X.K = K) (hc : X.calm = true) : CallR X (.builtin "sum") (rSum K) := by subst h; exact cr_sum hc
theorem cAll (K : PySem.W.Frag) (h : X.K = K) (hc : X.calm = true) : CallR X (.builtin "all") (rAll K) := by subst h; exact cr_all hc
theorem cAny (K : PySem.W.Frag) (h : X.K = K) (hc : X.calm = true) : CallR X (.builtin "any") (rAny K) := by subst h; exact cr_any hc
theorem cMax (K : PySem.W.Frag) (h : X.K = K) (hc : X.calm = true) : CallR X (.builtin "max") (rMax K) := by subst h; exact cr_max hc
theorem cMin (K : PySem.W.Frag) (h : X.K = K) (hc : X.calm = true) : CallR X (.builtin "min") (rMin K) := by subst h; exact cr_min hc
theorem oIn (K : PySem.W.Frag) (h : X.K = K) : OpR X (compareOp .In) (rIn K false) := by subst h; exact op_in_seq
theorem oEqD (K : PySem.W.Frag) (h : X.K = K) (hu : X.A.units + 64 < cLine) : OpR X (compareOp .Eq) (rEqD K) := by subst h; exact op_eqD hu
theorem oNeD (K : PySem.W.Frag) (h : X.K = K) (hu : X.A.units + 64 < cLine) : OpR X (compareOp .NotEq) (rNeD K) := by subst h; exact op_neD hu
def rOdd : R2 := fun x y H Q => ∃ n : Nat, x = .int (n : Int) ∧ y = .int 1 ∧ Q (.int ((n % 2 : Nat) : Int)) H
theorem oOdd : OpR X (binaryOp .BitAnd) rOdd := op_odd
theorem rv_odd {H : Hp} {n : Nat} : RV rOdd (.int (n : Int)) (.int 1) H (.int ((n % 2 : Nat) : Int)) := fun H1 _ _ q => ⟨n, rfl, rfl, q H1 (Ex.refl H1)⟩
/-- an index of a list or a tuple -/
def rIxG (K : PySem.W.Frag) : R2 := fun x y H Q => rIxL K x y H Q ∨ rIxT K x y H Q
theorem ixs (K : PySem.W.Frag) (h : X.K = K) : IxR X (rIxG K) := (ixl K h).or (ixt K h)
def rTupS (K : PySem.W.Frag) : List V → Hp → VK → Prop := fun xs H Q => ∃ p ys, xs = [.ref p] ∧ ((SqL K H p ys ∧ ∀ l, H l = none → Q (.ref l) (upd H l (.tup ys))) ∨ (SqT K H p ys ∧ Q (.ref p) H))
theorem cTupOf (K : PySem.W.Frag) (h : X.K = K) : CallR X (.type "tuple") (rTupS K) := by subst h; exact call_tuple_of
theorem piE (K : PySem.W.Frag) (h : X.K = K) {e : Expr} {ta : TA} {p pos tpos : Pos} {elts : List Expr} {kk : Nat} (hg : Gl X "enumerate") (hm : X.mg "enumerate" = none) (ha : PA X [e] ta) (hs : starEach [e] X.env = [(false, eval e X.env)] := by rfl) :
    PI X (.Tuple elts kk tpos) (.Call (.Name "enumerate" p) [e] [] pos) (iEnum K ta) := by subst h; exact pi_enum hg hm ha hs
theorem piZ (K : PySem.W.Frag) (h : X.K = K) {e e2 : Expr} {ta : TA} {p pos tpos : Pos} {elts : List Expr} {kk : Nat} (hg : Gl X "zip") (hm : X.mg "zip" = none) (ha : PA X [e, e2] ta) (hs : starEach [e, e2] X.env = (false, eval e X.env) :: starEach [e2] X.env := by rfl) (hpl : (backTo pos (starEach [e2] X.env)).any (·.1) = false := by rfl) :
    PI X (.Tuple elts kk tpos) (.Call (.Name "zip" p) [e, e2] [] pos) (iZip K ta) := by subst h; exact pi_zip hg hm ha hs hpl
theorem pgt (K : PySem.W.Frag) (h : X.K = K) {es : List Expr} {k : Nat} {t : TGs} {n : Nat} {pos : Pos} (hc : X.calm = true) (hp : PGs X es t)
    (hn : (assignEach es X.env).length = n := by rfl) (hst : (assignEach es X.env).findIdx? (·.1) = none := by rfl) : PG X (.Tuple es k pos) (gTup K n t) := by subst h; exact pg_tup hc hp hn hst
theorem piL (K : PySem.W.Frag) (h : X.K = K) {tg l : Expr} {tl : TE} (hl : PE X l tl) : PI X tg l (iList K tl) := by subst h; exact pi_list hl
theorem piT (K : PySem.W.Frag) (h : X.K = K) {tg l : Expr} {tl : TE} (hl : PE X l tl) : PI X tg l (iTup K tl) := by subst h; exact pi_tup hl
theorem peF (K : PySem.W.Frag) (h : X.K = K) {e : Expr} {f : Str} {pos : Pos} {ta : TE} (he : PE X e ta) (hb : attributeBase e f X.env (eval e X.env) = eval e X.env) : PE X (.Attribute e f pos) (tFld K ta f) := by subst h; exact pe_fld he hb
theorem psF (K : PySem.W.Frag) (h : X.K = K) {o value : Expr} {f : Str} {pos pos' : Pos} {ta tv : TE} (ha : PE X o ta) (hv : PE X value tv) (hs : swapsWith value (some (.Attribute o f pos')) pos.line X.env = pure false) : PS X (.Assign [.Attribute o f pos'] value pos) (sFld K ta tv f) := by subst h; exact ps_fld ha hv hs
end
/-! lists of numbers, rows of numbers -/
def nv (l : List Nat) : List V := l.map fun (k : Nat) => V.int (k : Int)
theorem nv_len (l : List Nat) : (nv l).length = l.length := List.length_map ..
theorem nv_at {l : List Nat} {i k : Nat} (h : l[i]? = some k) : (nv l)[i]? = some (V.int (k : Int)) := by
  unfold nv
  rw [List.getElem?_map, h]
  rfl
theorem nv_get {l : List Nat} {i : Nat} (h : i < l.length) : (nv l)[i]? = some (V.int ((l.getD i 0 : Nat) : Int)) := by
  refine nv_at ?_
  rw [List.getD_eq_getElem?_getD, List.getElem?_eq_getElem h]
  rfl
theorem nv_ints (l : List Nat) : nv l = (l.map fun (k : Nat) => (k : Int)).map V.int := by
  unfold nv
  rw [List.map_map]
  rfl
theorem nv_inv {l : List Nat} {i : Nat} {x : V} (h : (nv l)[i]? = some x) : ∃ k, l[i]? = some k ∧ x = V.int (k : Int) := by
  unfold nv at h
  rw [List.getElem?_map] at h
  cases e : l[i]? with
  | none => rw [e] at h; cases h
  | some k => rw [e] at h; exact ⟨k, rfl, (Option.some.inj h).symm⟩
theorem iv_inv {l : List Int} {i : Nat} {x : V} (h : (l.map V.int)[i]? = some x) : ∃ k, l[i]? = some k ∧ x = V.int k := by
  rw [List.getElem?_map] at h
  cases e : l[i]? with
  | none => rw [e] at h; cases h
  | some k => rw [e] at h; exact ⟨k, rfl, (Option.some.inj h).symm⟩
theorem iv_at {l : List Int} {i : Nat} {k : Int} (h : l[i]? = some k) : (l.map V.int)[i]? = some (V.int k) := by
  rw [List.getElem?_map, h]
  rfl
/-- rows at a, each a list of its own -/
def RowsAt (H : Hp) (a : Addr) (rows : List (List Int)) : Prop := ∃ rs : List Addr, H a = some (.lst (rs.map V.ref)) ∧ rs.length = rows.length ∧
  ∀ (i : Nat) (r : Addr), rs[i]? = some r → ∃ row, rows[i]? = some row ∧ H r = some (.lst (row.map V.int))
theorem RowsAt.keep {H H' : Hp} {a : Addr} {rows : List (List Int)} (x : RowsAt H a rows) (e : ∀ b xs, H b = some (.lst xs) → H' b = some (.lst xs)) : RowsAt H' a rows := by
  obtain ⟨rs, h1, h2, h3⟩ := x
  refine ⟨rs, e _ _ h1, h2, fun i r hi => ?_⟩
  obtain ⟨row, a1, a2⟩ := h3 i r hi
  exact ⟨row, a1, e _ _ a2⟩
theorem RowsAt.ex {H H' : Hp} {a : Addr} {rows : List (List Int)} (x : RowsAt H a rows) (e : Ex H H') : RowsAt H' a rows := x.keep fun b xs h => e b _ h
/-- the row at i: its address -/
theorem RowsAt.row {H : Hp} {a : Addr} {rows : List (List Int)} {i : Nat} {row : List Int} (x : RowsAt H a rows) (h : rows[i]? = some row) : ∃ (xs : List V) (r : Addr), H a = some (.lst xs) ∧ xs[i]? = some (V.ref r) ∧ xs.length = rows.length ∧ H r = some (.lst (row.map V.int)) := by
  obtain ⟨rs, h1, h2, h3⟩ := x
  have hi : i < rs.length := by rw [h2]; exact (List.getElem?_eq_some_iff.mp h).1
  obtain ⟨row', a1, a2⟩ := h3 i rs[i] (List.getElem?_eq_getElem hi)
  rw [h] at a1
  cases a1
  exact ⟨_, rs[i], h1, by rw [List.getElem?_map, List.getElem?_eq_getElem hi]; rfl, by rw [List.length_map]; exact h2, a2⟩
theorem rowsOf_at {t : Ks565.Folk} {i : Nat} (h : i < t.n) : (rowsOf t)[i]? = some ((List.range t.n).map (Ks565.likes t i)) := by
  unfold rowsOf
  rw [List.getElem?_map, List.getElem?_range h]
  rfl
theorem likes_at {t : Ks565.Folk} {i j : Nat} (h : j < t.n) : ((List.range t.n).map (Ks565.likes t i))[j]? = some (Ks565.likes t i j) := by
  rw [List.getElem?_map, List.getElem?_range h]
  rfl
theorem rowsOf_len (t : Ks565.Folk) : (rowsOf t).length = t.n := by
  unfold rowsOf
  rw [List.length_map, List.length_range]
section
variable {K : PySem.W.Frag} {H : Hp} {σ : L2.St} {ta tb tc : TE} {a : Addr} {t : Ks565.Folk} {i j : Nat}
/-- worths[i][j] -/
theorem ev_worth (hw : RowsAt H a (rowsOf t)) (hi : i < t.n) (hj : j < t.n) (h1 : Ev ta σ H (.ref a)) (h2 : Ev tb σ H (.int (i : Int))) (h3 : Ev tc σ H (.int (j : Int))) :
    Ev (tOp (rIxL K) (tOp (rIxL K) ta tb) tc) σ H (.int (Ks565.likes t i j)) := by
  obtain ⟨xs, r, e1, e2, _, e4⟩ := hw.row (rowsOf_at hi)
  exact ev_op (ev_op h1 h2 (rv_ixL (sq_of e1) (atI_nat e2))) h3 (rv_ixL (sq_of e4) (atI_nat (iv_at (likes_at hj))))
end
/-- what comes back of a call that changes nothing that was there -/
def RetV (H : Hp) (Q : VK) (v : V) : Prop := ∀ H', Ex H H' → Q v H'
def RetL (H : Hp) (Q : VK) (l : List V) : Prop := ∀ p H', H p = none → Ex H H' → H' p = some (.lst l) → Q (.ref p) H'
theorem given_all {n : Nat} (v : Nat → V) : given n (fun _ => true) v = (List.range n).map v := by
  unfold given
  rw [List.filter_eq_self.mpr (fun _ _ => rfl)]
theorem et_yes {σ : L2.St} {H : Hp} : EvT tYes σ H true := fun H1 _ _ q => q H1 (Ex.refl H1)
/-- a built-in's call over a list that is made on the spot -/
theorem ev_cbL {σ : L2.St} {H : Hp} {te : TE} {r : List V → Hp → VK → Prop} {xs : List V} {z : V} (h : EvL te σ H xs) (hr : ∀ p H1, H1 p = some (.lst xs) → Ex H H1 → RC r [.ref p] H1 z) : Ev (tCB r (tCons te tNil)) σ H z := fun H1 e Q q =>
  h H1 e _ fun p H2 _ e2 h2 => hr p H2 h2 (e.trans e2) H2 (Ex.refl H2) Q fun H3 e3 => q H3 (e2.trans e3)
theorem rc_sum {K : PySem.W.Frag} {H : Hp} {p : Addr} {ns : List Int} (h : H p = some (.lst (ns.map V.int))) : RC (rSum K) [.ref p] H (.int ns.sum) := fun H1 e Q q => ⟨p, ns, rfl, sq_of (e _ _ h), q H1 (Ex.refl H1)⟩
theorem rc_all {K : PySem.W.Frag} {H : Hp} {p : Addr} {bs : List Bool} (h : H p = some (.lst (bs.map V.bl))) : RC (rAll K) [.ref p] H (.bl (bs.all id)) := fun H1 e Q q => ⟨p, bs, rfl, sq_of (e _ _ h), q H1 (Ex.refl H1)⟩
/-- a def's call with a list that is made on the spot -/
theorem el_call1 {σ : L2.St} {H : Hp} {te : TE} {sp : Sp} {E : XK} {xs ys : List V} (h : EvL te σ H xs) (hs : ∀ p H1, H1 p = some (.lst xs) → Ex H H1 → SpL sp [.ref p] H1 ys) : EvL (tCall sp [] E (tCons te tNil)) σ H ys := fun H1 e Q q =>
  h H1 e _ fun p H2 _ e2 h2 => hs p H2 h2 (e.trans e2) H2 (Ex.refl H2) Q (fun p3 H3 hp3 e3 h3 => q p3 H3 (fresh_back e2 hp3) (e2.trans e3) h3) E
/-- the i-th of a list, by a map over its places -/
theorem map_range_getD {α : Type} (l : List Nat) (f : Nat → α) : (List.range l.length).map (fun m => f (l.getD m 0)) = l.map f := by
  apply List.ext_getElem?
  intro j
  rw [List.getElem?_map, List.getElem?_map]
  by_cases hj : j < l.length
  · rw [List.getElem?_range hj, List.getElem?_eq_getElem hj]
    simp [List.getD_eq_getElem?_getD, List.getElem?_eq_getElem hj]
  · rw [List.getElem?_eq_none (by rw [List.length_range]; omega), List.getElem?_eq_none (by omega)]
    rfl
theorem getD_of {l : List Nat} {m k : Nat} (h : l[m]? = some k) : l.getD m 0 = k := by
  rw [List.getD_eq_getElem?_getD, h]
  rfl
/-- a comprehension over a list of numbers, each item's value told by the number -/
theorem el_nums {K : PySem.W.Frag} {σ : L2.St} {H : Hp} {tl te : TE} {j : Nat} {vs : List Nat} {a : Addr} {l : List Nat} (f : Nat → V) (h : Ev tl σ H (.ref a)) (hl : H a = some (.lst (nv l))) (hz : l.length ≤ 1000) (hw : ∀ x, wipe ((wipe σ vs).set j (some x)) vs = wipe σ vs)
    (he : ∀ k H1, Ex H H1 → k ∈ l → Ev te ((wipe σ vs).set j (some (.int (k : Int)))) H1 (f k)) : EvL (tLc (iList K tl) (gName j) tYes te vs) σ H (l.map f) := by
  have q := el_lcL (K := K) (te := te) (t := tYes) (j := j) (vs := vs) (fun _ => true) (fun m => f (l.getD m 0)) h (sq_of hl) (by rw [nv_len]; omega) hw (fun m x H1 e hx => et_yes) (fun m x H1 e hx _ => by
    obtain ⟨k, hk, rfl⟩ := nv_inv hx
    rw [getD_of hk]
    exact he k H1 e (List.mem_of_getElem? hk))
  rw [given_all, nv_len, map_range_getD] at q
  exact q
/-- .. over such a list made on the spot -/
theorem el_numsN {K : PySem.W.Frag} {σ : L2.St} {H : Hp} {tl te : TE} {j : Nat} {vs : List Nat} {l : List Nat} (f : Nat → V) (h : EvL tl σ H (nv l)) (hz : l.length ≤ 1000) (hw : ∀ x, wipe ((wipe σ vs).set j (some x)) vs = wipe σ vs)
    (he : ∀ k H1, Ex H H1 → k ∈ l → Ev te ((wipe σ vs).set j (some (.int (k : Int)))) H1 (f k)) : EvL (tLc (iList K tl) (gName j) tYes te vs) σ H (l.map f) := by
  have q := el_lcNL (K := K) (te := te) (t := tYes) (j := j) (vs := vs) (fun _ => true) (fun m => f (l.getD m 0)) h (by rw [nv_len]; omega) hw (fun m x H1 e hx => et_yes) (fun m x H1 e hx _ => by
    obtain ⟨k, hk, rfl⟩ := nv_inv hx
    rw [getD_of hk]
    exact he k H1 e (List.mem_of_getElem? hk))
  rw [given_all, nv_len, map_range_getD] at q
  exact q
/-- .. over range(n) -/
theorem el_rng {σ : L2.St} {H : Hp} {ta : TA} {te : TE} {j n : Nat} {vs : List Nat} (f : Nat → V) (h : EvA ta σ H [.int (n : Int)]) (hz : n ≤ 1000) (hw : ∀ x, wipe ((wipe σ vs).set j (some x)) vs = wipe σ vs)
    (he : ∀ k H1, Ex H H1 → k < n → Ev te ((wipe σ vs).set j (some (.int (k : Int)))) H1 (f k)) : EvL (tLc (iRng1 ta) (gName j) tYes te vs) σ H ((List.range n).map f) := by
  have q := el_lcR1 (te := te) (t := tYes) (j := j) (vs := vs) (fun _ => true) f h (by omega) hw (fun m H1 e hx => et_yes) (fun m H1 e hx _ => he m H1 e (by omega))
  rw [given_all] at q
  exact q
/-- two lists made on the spot, put together -/
theorem el_cat {σ : L2.St} {H : Hp} {ta tb : TE} {xs ys : List V} (ha : EvL ta σ H xs) (hb : EvL tb σ H ys) (hz : xs.length + ys.length ≤ 100000) : EvL (tOp rCat ta tb) σ H (xs ++ ys) := fun H1 e Q q =>
  ha H1 e _ fun p H2 hp e2 h2 => hb H2 (e.trans e2) _ fun p3 H3 hp3 e3 h3 => ⟨p, p3, xs, ys, rfl, rfl, e3 _ _ h2, h3, sz_of hz, fun p4 hp4 => q p4 _ (fresh_back (e2.trans e3) hp4) ((e2.trans e3).trans (Ex.new hp4)) upd_same⟩
/-- a list that stands, and one made on the spot -/
theorem el_catV {σ : L2.St} {H : Hp} {ta tb : TE} {a : Addr} {xs ys : List V} (ha : Ev ta σ H (.ref a)) (hx : H a = some (.lst xs)) (hb : EvL tb σ H ys) (hz : xs.length + ys.length ≤ 100000) : EvL (tOp rCat ta tb) σ H (xs ++ ys) := fun H1 e Q q =>
  ha H1 e _ fun H2 e2 => hb H2 (e.trans e2) _ fun p3 H3 hp3 e3 h3 => ⟨a, p3, xs, ys, rfl, rfl, ((e.trans e2).trans e3) _ _ hx, h3, sz_of hz, fun p4 hp4 => q p4 _ (fresh_back (e2.trans e3) hp4) ((e2.trans e3).trans (Ex.new hp4)) upd_same⟩
theorem rgV_nat (n : Nat) : rgV 0 (n : Int) = nv (List.range n) := by
  unfold rgV nv
  simp
/-- list(range(n)) -/
theorem el_listRg {σ : L2.St} {H : Hp} {ta : TE} {n : Nat} (ha : Ev ta σ H (.int (n : Int))) (hz : n ≤ 1000) : EvL (tLstRg (tRg1 ta)) σ H (nv (List.range n)) := fun H1 e Q q =>
  ha H1 e _ fun H2 e2 => ⟨(n : Int), rfl, RgOk.of_le (by omega) (by omega) (by omega) (by omega), fun p hp => by
    rw [rgV_nat]
    exact q p _ (fresh_back e2 hp) (e2.trans (Ex.new hp)) upd_same⟩
/-- what comes of a def's call is given back, or kept in a name -/
theorem s_retCall {σ : L2.St} {H : Hp} {D : Ends} {sp : Sp} {E : XK} {ta : TA} {vs : List V} (h : EvA ta σ H vs) (k : ∀ H1, Ex H H1 → sp (vs ++ []) H1 D.rt E) : tRet (tCall sp [] E ta) D σ H := h H (Ex.refl H) _ k
theorem q_asgCall {σ : L2.St} {H : Hp} {D : Ends} {sp : Sp} {E : XK} {ta : TA} {vs : List V} {i : Nat} {tz : TS} (h : EvA ta σ H vs) (k : ∀ H1, Ex H H1 → sp (vs ++ []) H1 (fun v H2 => tz D (σ.set i (some v)) H2) E) : tSeq (tAsg (tCall sp [] E ta) (gName i)) tz D σ H := h H (Ex.refl H) _ k
theorem tc_call {σ : L2.St} {H : Hp} {sp : Sp} {E : XK} {ta tr : TA} {vs : List V} {Q : List V → Hp → Prop} (h : EvA ta σ H vs) (k : ∀ H1, Ex H H1 → sp (vs ++ []) H1 (fun x H2 => tr σ H2 fun xs H3 => Q (x :: xs) H3) E) : tCons (tCall sp [] E ta) tr σ H Q := h H (Ex.refl H) _ k
/-- a comprehension over range(lo, hi), some items left out -/
theorem el_rng2 {σ : L2.St} {H : Hp} {ta : TA} {te : TE} {t : TT} {j lo n : Nat} {vs : List Nat} (f : Nat → Bool) (v : Nat → V) (h : EvA ta σ H [.int (lo : Int), .int (n : Int)]) (hz : n ≤ 1000) (hl : lo ≤ n) (hw : ∀ x, wipe ((wipe σ vs).set j (some x)) vs = wipe σ vs)
    (ht : ∀ k H1, Ex H H1 → lo ≤ k → k < n → EvT t ((wipe σ vs).set j (some (.int (k : Int)))) H1 (f k)) (he : ∀ k H1, Ex H H1 → lo ≤ k → k < n → f k = true → Ev te ((wipe σ vs).set j (some (.int (k : Int)))) H1 (v k)) :
    EvL (tLc (iRng2 ta) (gName j) t te vs) σ H (given (n - lo) (fun i => f (lo + i)) (fun i => v (lo + i))) := fun H0 e Q q => h H0 e _ fun H1 e1 => ⟨(lo : Int), (n : Int), rfl, ⟨by omega, by omega, by omega, by omega⟩, fun Dl hD => by
    have en : ((n : Int) - (lo : Int)).toNat = n - lo := by omega
    rw [en]
    refine lc_range (lo := (lo : Int)) (n := n - lo) (Cw H1 (fun i => f (lo + i)) (fun i => v (lo + i)) Dl) ⟨hD, Ex.new hD, upd_same⟩ (fun i H' hi p => ?_) fun H' p => q Dl H' (fresh_back e1 p.1) (e1.trans p.2.1) p.2.2
    have e0 : (lo : Int) + (i : Int) = ((lo + i : Nat) : Int) := by omega
    refine ⟨hw _, ?_⟩
    rw [e0]
    exact cw_turn p (by omega) (ht (lo + i) H1 (e.trans e1) (by omega) (by omega)) fun hf => he (lo + i) H1 (e.trans e1) (by omega) (by omega) hf⟩
/-- a comprehension over range(n), some items left out -/
theorem el_rngF {σ : L2.St} {H : Hp} {ta : TA} {te : TE} {t : TT} {j n : Nat} {vs : List Nat} (f : Nat → Bool) (v : Nat → V) (h : EvA ta σ H [.int (n : Int)]) (hz : n ≤ 1000) (hw : ∀ x, wipe ((wipe σ vs).set j (some x)) vs = wipe σ vs)
    (ht : ∀ k H1, Ex H H1 → k < n → EvT t ((wipe σ vs).set j (some (.int (k : Int)))) H1 (f k)) (he : ∀ k H1, Ex H H1 → k < n → f k = true → Ev te ((wipe σ vs).set j (some (.int (k : Int)))) H1 (v k)) :
    EvL (tLc (iRng1 ta) (gName j) t te vs) σ H (((List.range n).filter f).map v) :=
  el_lcR1 (te := te) (t := t) (j := j) (vs := vs) f v h (by omega) hw (fun m H1 e hx => ht m H1 e (by omega)) fun m H1 e hx hf => he m H1 e (by omega) hf
theorem rc_min {K : PySem.W.Frag} {H : Hp} {p : Addr} {ns : List Int} {m : Int} (h : H p = some (.lst (ns.map V.int))) (hm : m ∈ ns) (hle : ∀ y ∈ ns, m ≤ y) : RC (rMin K) [.ref p] H (.int m) := fun H1 e Q q => ⟨p, ns, rfl, sq_of (e _ _ h), List.length_pos_of_mem hm, fun m' hm' hle' => by
  have e2 : m' = m := Int.le_antisymm (hle' m hm) (hle m' hm')
  rw [e2]
  exact q H1 (Ex.refl H1)⟩
theorem rc_max {K : PySem.W.Frag} {H : Hp} {p : Addr} {ns : List Int} {m : Int} (h : H p = some (.lst (ns.map V.int))) (hm : m ∈ ns) (hle : ∀ y ∈ ns, y ≤ m) : RC (rMax K) [.ref p] H (.int m) := fun H1 e Q q => ⟨p, ns, rfl, sq_of (e _ _ h), List.length_pos_of_mem hm, fun m' hm' hle' => by
  have e2 : m' = m := Int.le_antisymm (hle m' hm') (hle' m hm)
  rw [e2]
  exact q H1 (Ex.refl H1)⟩
/-! max of a tuple of whole numbers -/
section
variable {prog : Program} {w : World} {A : Around} {E : Value → Shared → Prop} {s : Shared} {l : Addr}
theorem max_tup {its : List Value} {ns : List Int} {Q : Value → Shared → Prop} (calm : A.handled = none) (tup : s.heap.IsTuple l its.toArray) (num : IntsAre its ns) (any : 0 < ns.length) (next : ∀ (g : Heap) (tk : Nat) (m : Int) (tm : Tok), (∀ c u, s.heap.get? c = some u → g.get? c = some u) → m ∈ ns → (∀ y, y ∈ ns → y ≤ m) → Q (.int m tm) { s with heap := g, toks := tk }) :
    wpAny (model prog w) A (call (.builtin "max") [.ref l]) Q E s := by
  obtain ⟨ps, hps⟩ := num.allInts.items
  have hns : numsOf its.toArray.toList = ns := num.numsOf
  rw [hps, nums_intItems] at hns
  subst hns
  rw [hps] at tup
  have some1 : 0 < ps.size := by simpa using any
  have old : l < s.heap.objs.size := let ⟨_, q, _⟩ := tup; Heap.lt_size q
  refine call_max_walk (wpAny_pyIter_tuple tup ⟨_, _, _, _, _, _, _, rfl, Walks.tuple (A := A.in1) calm _ l (Nat.ne_of_lt old) (intItems ps), ⟨⟨_, Heap.get?_push_size _ rfl, rfl, rfl⟩, tup.push _⟩, fun c hc => ?_, by simpa [intItems] using some1, CmpOf.ints_gt (numAt ps) (fun _ _ => intItems_at), fun v g tk got kept => ?_⟩)
  · simp only [List.mem_cons, List.not_mem_nil, or_false] at hc
    show c < Array.size (Heap.push _ _).objs
    rw [Heap.size_push]
    rcases hc with q | q <;> rw [q]
    · exact Nat.lt_succ_self _
    · exact Nat.lt_succ_of_lt old
  · obtain ⟨tm, rfl⟩ := intItems_at (by simpa [intItems] using got)
    have best := argBest_gt (numAt ps) (ps.size - 1)
    refine next g tk _ tm (fun c u q => kept c u (fun z => ?_) (Heap.get?_push_of_some _ q)) ?_ fun y hy => ?_
    · simp only [List.mem_cons, List.not_mem_nil, or_false] at z
      subst z
      exact absurd (Heap.lt_size q) (Nat.lt_irrefl _)
    · rw [numAt_eq]
      refine PySem.getD_mem ?_
      rw [List.length_map, Array.length_toList]
      exact Nat.lt_of_le_of_lt best.1 (Nat.sub_lt some1 Nat.one_pos)
    · obtain ⟨n, hn, rfl⟩ := mem_getD hy
      have few : n < ps.size := by simpa using hn
      rw [← numAt_eq]
      exact best.2 n (by omega)
end
def rMaxS (K : PySem.W.Frag) : List V → Hp → VK → Prop := fun vs H Q => ∃ (a : Addr) (ns : List Int), vs = [V.ref a] ∧ (SqL K H a (ns.map V.int) ∨ SqT K H a (ns.map V.int)) ∧ 0 < ns.length ∧ ∀ m, m ∈ ns → (∀ y, y ∈ ns → y ≤ m) → Q (.int m) H
theorem cMaxS {X : Cx} (K : PySem.W.Frag) (h : X.K = K) (hc : X.calm = true) : CallR X (.builtin "max") (rMaxS K) := by
  subst h
  intro pins s σ H vs us Q I r h
  obtain ⟨a, ns, rfl, hs | hs, hne, q⟩ := h
  · obtain ⟨its, rv, hl, _⟩ := I.list hs
    rw [Vals.ref1 r]
    exact max_raw (I.ok.hd hc) hl.isList rv.ints hne fun g tk m tm hk hm hle => ⟨.int _, H, I.kept hk, ⟨_, rfl⟩, q m hm hle⟩
  · obtain ⟨its, rv, hl, _⟩ := I.tuple hs
    rw [Vals.ref1 r]
    exact max_tup (I.ok.hd hc) hl rv.ints hne fun g tk m tm hk hm hle => ⟨.int _, H, I.kept hk, ⟨_, rfl⟩, q m hm hle⟩
/-! what is evaluated, told by a word of the value and the heap behind -/
def EvP (te : TE) (σ : L2.St) (H : Hp) (R : V → Hp → Prop) : Prop := ∀ H1, Ex H H1 → ∀ Q : VK, (∀ v H2, Ex H1 H2 → R v H2 → Q v H2) → te σ H1 Q
def SpP (sp : Sp) (vs : List V) (H : Hp) (R : V → Hp → Prop) : Prop := ∀ H1, Ex H H1 → ∀ Q : VK, (∀ v H2, Ex H1 H2 → R v H2 → Q v H2) → ∀ E : XK, sp vs H1 Q E
/-- a new list's word -/
def IsL (xs : List V) : V → Hp → Prop := fun v H => ∃ p, v = .ref p ∧ H p = some (.lst xs)
section
variable {K : PySem.W.Frag} {σ : L2.St} {H H' : Hp} {te tb : TE} {ta : TA} {vs xs : List V} {v y z : V} {R R1 R2 : V → Hp → Prop} {sp : Sp} {E : XK} {D : Ends} {tz : TS}
theorem EvP.mono (e : Ex H H') (h : EvP te σ H R) : EvP te σ H' R := fun H1 a Q q => h H1 (e.trans a) Q q
theorem EvP.imp (h : EvP te σ H R) (k : ∀ v H1, Ex H H1 → R v H1 → R1 v H1) : EvP te σ H R1 := fun H1 e Q q => h H1 e Q fun v H2 e2 r => q v H2 e2 (k v H2 (e.trans e2) r)
theorem ep_ev (h : Ev te σ H v) : EvP te σ H (fun x _ => x = v) := fun H1 e Q q => h H1 e Q fun H2 e2 => q v H2 e2 rfl
theorem ep_L (h : EvL te σ H xs) : EvP te σ H (IsL xs) := fun H1 e Q q => h H1 e Q fun p H2 _ e2 h2 => q _ H2 e2 ⟨p, rfl, h2⟩
theorem ev_P (h : EvP te σ H R) (k : ∀ x H1, Ex H H1 → R x H1 → x = v) : Ev te σ H v := fun H1 e Q q => h H1 e Q fun x H2 e2 r => by
  rw [k x H2 (e.trans e2) r]
  exact q H2 e2
theorem ep_call {dvs : List V} (h : EvA ta σ H vs) (hs : SpP sp (vs ++ dvs) H R) : EvP (tCall sp dvs E ta) σ H R := fun H1 e Q q =>
  h H1 e _ fun H2 e2 => hs H2 (e.trans e2) Q (fun x H3 e3 r => q x H3 (e2.trans e3) r) E
theorem ep_callP (h : EvP te σ H R1) (ha : EvA ta σ H vs) (hs : ∀ x H1, Ex H H1 → R1 x H1 → SpP sp ((x :: vs) ++ []) H1 R) : EvP (tCall sp [] E (tCons te ta)) σ H R := fun H1 e Q q =>
  h H1 e _ fun x H2 e2 r => ha H2 (e.trans e2) _ fun H3 e3 => hs x H2 (e.trans e2) r H3 e3 Q (fun u H4 e4 r4 => q u H4 ((e2.trans e3).trans e4) r4) E
theorem ev_callP (h : EvP te σ H R1) (ha : EvA ta σ H vs) (hs : ∀ x H1, Ex H H1 → R1 x H1 → SpV sp ((x :: vs) ++ []) H1 z) : Ev (tCall sp [] E (tCons te ta)) σ H z := fun H1 e Q q =>
  h H1 e _ fun x H2 e2 r => ha H2 (e.trans e2) _ fun H3 e3 => hs x H2 (e.trans e2) r H3 e3 Q (fun H4 e4 => q H4 ((e2.trans e3).trans e4)) E
theorem el_callP (h : EvP te σ H R1) (ha : EvA ta σ H vs) (hs : ∀ x H1, Ex H H1 → R1 x H1 → SpL sp ((x :: vs) ++ []) H1 xs) : EvL (tCall sp [] E (tCons te ta)) σ H xs := fun H1 e Q q =>
  h H1 e _ fun x H2 e2 r => ha H2 (e.trans e2) _ fun H3 e3 => hs x H2 (e.trans e2) r H3 e3 Q (fun p H4 hp e4 h4 => q p H4 (fresh_back (e2.trans e3) hp) ((e2.trans e3).trans e4) h4) E
theorem s_retP (h : EvP te σ H R) (k : ∀ x H1, Ex H H1 → R x H1 → D.rt x H1) : tRet te D σ H := h H (Ex.refl H) _ k
theorem q_asgP {i : Nat} (h : EvP te σ H R) (k : ∀ x H1, Ex H H1 → R x H1 → tz D (σ.set i (some x)) H1) : tSeq (tAsg te (gName i)) tz D σ H := h H (Ex.refl H) _ k
theorem s_asgP {i : Nat} (h : EvP te σ H R) (k : ∀ x H1, Ex H H1 → R x H1 → D.nx (σ.set i (some x)) H1) : tAsg te (gName i) D σ H := h H (Ex.refl H) _ k
/-- a field read -/
theorem ev_fld {C a dx : Addr} {fs : List (Str × V)} {f : Str} (cl : Cls K C) (na : NoAttr K C f) (h : Ev te σ H (.ref a)) (ha : H a = some (.ins C dx fs)) (hf : fs.lookup f = some v) : Ev (tFld K te f) σ H v := fun H1 e Q q =>
  h H1 e _ fun H2 e2 => ⟨a, C, dx, fs, v, rfl, (e.trans e2) _ _ ha, cl, na, hf, q H2 e2⟩
theorem ep_fld {C : Addr} {f : Str} (cl : Cls K C) (na : NoAttr K C f) (h : EvP te σ H R) (hr : ∀ x H1, Ex H H1 → R x H1 → ∃ a dx fs u, x = .ref a ∧ H1 a = some (.ins C dx fs) ∧ fs.lookup f = some u ∧ R1 u H1) : EvP (tFld K te f) σ H R1 := fun H1 e Q q =>
  h H1 e _ fun x H2 e2 r => by
    obtain ⟨a, dx, fs, u, rfl, ha, hf, r1⟩ := hr x H2 (e.trans e2) r
    exact ⟨a, C, dx, fs, u, rfl, ha, cl, na, hf, q u H2 e2 r1⟩
/-- list or tuple: an item -/
theorem rv_ixG {p : Addr} {i : Int} (h : SqL K H p xs ∨ SqT K H p xs) (ha : atI xs i = some v) : RV (rIxG K) (.ref p) (.int i) H v := fun H1 e Q q => by
  rcases h with h | h
  · exact .inl (rv_ixL h ha H1 e Q q)
  · exact .inr (rv_ixT h ha H1 e Q q)
theorem ev_lenG {p : Addr} (ha : Ev te σ H (.ref p)) (h : SqL K H p xs ∨ SqT K H p xs) : Ev (tCB (rLenS K) (tCons te tNil)) σ H (.int (xs.length : Int)) := fun H1 e Q q =>
  ha H1 e _ fun H2 e2 => ⟨p, xs, rfl, h.elim (fun h => .inl (ex_l (e.trans e2) h)) (fun h => .inr (ex_t (e.trans e2) h)), q H2 e2⟩
theorem ev_opP {r : L2.R2} (ha : EvP te σ H R) (hb : Ev tb σ H y) (hr : ∀ x H1, Ex H H1 → R x H1 → RV r x y H1 z) : Ev (tOp r te tb) σ H z := fun H1 e Q q =>
  ha H1 e _ fun x H2 e2 rx => hb H2 (e.trans e2) _ fun H3 e3 => hr x H2 (e.trans e2) rx H3 e3 Q fun H4 e4 => q H4 ((e2.trans e3).trans e4)
end
end Rg

set_option Elab.async false
set_option maxRecDepth 100000
set_option maxHeartbeats 4000000
set_option linter.unusedVariables false
/-! rules that the layer lacks: a lambda with parameters called by a built-in, max(xs, key=lambda k: ..) -/
namespace Rg
open PySem PySem.Spec PyProof.Rows L2 LamX NdefX
/-- the captured cells of a lambda made in X -/
abbrev clOf (X : Cx) (scope : Scope) : List (Str × Addr) := cloFrom X.env.cells scope.names []
abbrev lamQ (X : Cx) : Str := X.env.qual ++ "<lambda>"
/-- the words of a lambda, for the context of its body (the body itself stands elsewhere) -/
abbrev lamF (X : Cx) (params : Arguments) (scope : Scope) (c : Addr) : NF := ⟨"<lambda>", lamQ X, params, [], scope, clOf X scope, c⟩
/-- the context in which a lambda's body runs, called by a built-in of X's frame -/
abbrev lamX (X : Cx) (N : List Str) (params : Arguments) (scope : Scope) (f c : Addr) (s : Shared) (H : Hp) : Cx :=
  ncx C8.CX0 X.prog X.w X.K X.mg X.base N (lamF X params scope c) f X.A.in1 X.stack s H C8.E0
section
variable {X : Cx} {pins : List (Addr × Obj)} {σ : L2.St} {H : Hp} {s : Shared}
theorem lam_run {N ps fr : List Str} {js : List Nat} {k : Nat} {f c : Addr} {params : Arguments} {body : Expr} {scope : Scope} {pm ctv : Value} {us : List Value} {vs : List V} {tb : TE} {Q : VK} {R : Value → Shared → Prop} {E : Value → Shared → Prop}
    (I : Inv X pins σ H s) (S : NScope N ps fr scope) (cp : Caps X (clOf X scope) fr js) (hf : s.heap.get? f = some (PySem.W.kla_obj "<lambda>" (lamQ X) params body scope (clOf X scope) pm c ctv)) (hc : H c = some (CodeO c (lamQ X)))
    (hb : bindArgs (PySem.W.kla_fn "<lambda>" (lamQ X) params body scope (clOf X scope) pm (.ref c) ctv) ⟨us, []⟩ = pure (ps.zip us)) (hr : Room (k + 1) X.A.in1) (r : Vals vs us) (hl : vs.length = ps.length)
    (hbody : Room k (X.A.in1.deeper (envF (lamF X params scope c) f s.heap.objs.size)) → PE (lamX X N params scope f c s H) body tb) (ht : tb (startF N vs (js.map (slotAt σ))) H Q)
    (h : ∀ (u : Value) (v : V) (H' : Hp) (s' : Shared), Inv X pins σ H' s' → Un (frs X.stack) [] H H' s.heap s'.heap → RelV v u → Q v H' → R u s') :
    wpAny (model X.prog X.w) X.A.in1 (call (.ref f) us) R E s := by
  have e0 : Env0 X.prog X.w X.K X.mg X.base X.A.in1 X.stack s H := ⟨I.env0.frames, I.env0.mod, I.env0.bs, I.env0.bsz, I.env0.funs, I.env0.frf, I.env0.hok, I.env0.bare⟩
  have C : CellsAt (clOf X scope) fr (js.map (slotAt σ)) s.heap H := cells_of I cp
  obtain ⟨⟨oc, ws, t, hoc, hdc, hvc⟩, _, _⟩ := I.hok c _ hc
  have rc : codeAny (model X.prog X.w) X.A.in1 (.call (.ref f) ⟨us, []⟩) (CR C8.CX0 X.stack X.prog X.w H s Q C8.E0) s := by
    refine PySem.W.kla_callFunE hr.depth hf rfl S.co S.gen rfl ⟨c, oc, ws, t, rfl, hoc, hdc, hvc⟩ ?_
    rw [hb]
    refine wpAny_pure (wpAny_newFunctionEnv S.nocell (fun y hy => S.par y.1 (List.of_mem_zip hy).1) (fun h1 hns hsb => ⟨I.nolimit.fresh _ hsb, ?_⟩) S.kind)
    have kp : ∀ b o, s.heap.get? b = some o → h1.get? b = some o := fun b o q => hsb.extBut b o (Nat.ne_of_lt (Heap.lt_size q)) (Heap.get?_push_of_some _ q)
    have J : Inv (lamX X N params scope f c s H) [] (startF N vs (js.map (slotAt σ))) H { s with heap := h1, toks := s.toks + (ps.zip us).length } := inv_startN (F := lamF X params scope c) S hr.hd e0 hl r C hns kp
    refine PySem.W.kla_codeExpr (wpAny_mono ((hbody (hr.deeper _)).run [] _ _ H Q J ht) (fun u s2 hq => ?_) fun e s2 hq => hq)
    obtain ⟨v, H2, J2, rv, q⟩ := hq
    exact ⟨v, H2, J2.os, J2.bare, J2.base, J2.hok, rv, q⟩
  refine wpAny_call (codeAny_mono rc fun res s2 hq => ?_)
  cases res with
  | error e => exact False.elim hq
  | ok fl =>
    cases fl with
    | next => exact False.elim hq
    | brk => exact False.elim hq
    | cont => exact False.elim hq
    | ret u =>
      obtain ⟨v, H2, os, bare, un, hok, rv, q⟩ := hq
      obtain ⟨h2, g2, d2, t2, o2⟩ := s2
      have eo : o2 = s.os := os
      subst eo
      exact h u v H2 _ (I.call (h' := h2) (g' := g2) (d' := d2) (t' := t2) (ch := []) un hok bare fun b z => absurd z (by simp)) un rv q
end
/-- what max(xs, key=lambda k: body) asks: T, the tables of code objects; tb, the body's reading, over the item and what is captured -/
def tMaxLam (K : PySem.W.Frag) (T : List (Addr × Str)) (N : List Str) (js : List Nat) (te tb : TE) : TE := fun σ H Q => te σ H fun x H0 => ∃ (a : Addr) (xs : List V) (kf : Nat → Int), x = .ref a ∧ SqL K H0 a xs ∧ 0 < xs.length ∧ Tabs T H0 ∧
  ∀ H1, ExtN H0 H1 → Tabs T H1 → (∀ i v H2, xs[i]? = some v → ExtN H1 H2 → Tabs T H2 → tb (startF N [v] (js.map (slotAt σ))) H2 fun r H3 => r = .int (kf i) ∧ ExtN H2 H3 ∧ Tabs T H3) ∧
    ∀ v H2, xs[argBest (fun i j => decide (kf j < kf i)) (xs.length - 1)]? = some v → ExtN H1 H2 → Tabs T H2 → Q v H2
/-- .. with default=None, the list may be empty -/
def tMaxLamD (K : PySem.W.Frag) (T : List (Addr × Str)) (N : List Str) (js : List Nat) (te tb : TE) : TE := fun σ H Q => te σ H fun x H0 => ∃ (a : Addr) (xs : List V) (kf : Nat → Int), x = .ref a ∧ SqL K H0 a xs ∧ Tabs T H0 ∧
  ∀ H1, ExtN H0 H1 → Tabs T H1 → (∀ i v H2, xs[i]? = some v → ExtN H1 H2 → Tabs T H2 → tb (startF N [v] (js.map (slotAt σ))) H2 fun r H3 => r = .int (kf i) ∧ ExtN H2 H3 ∧ Tabs T H3) ∧
    (xs.length = 0 → ∀ H2, ExtN H1 H2 → Tabs T H2 → Q .non H2) ∧ (0 < xs.length → ∀ v H2, xs[argBest (fun i j => decide (kf j < kf i)) (xs.length - 1)]? = some v → ExtN H1 H2 → Tabs T H2 → Q v H2)
theorem sq_extN {K : PySem.W.Frag} {H H' : Hp} {a : Addr} {xs : List V} (e : ExtN H H') (h : SqL K H a xs) : SqL K H' a xs := by
  rcases h with (h | ⟨o, h⟩) | h
  · exact .inl (.inl (e _ _ h fun ps z => by cases z))
  · exact .inl (.inr ⟨o, e _ _ h fun ps z => by cases z⟩)
  · exact .inr h
section
variable {X : Cx}
theorem pe_maxLam {T : List (Addr × Str)} {N fr : List Str} {js : List Nat} {k : Nat} {c0 P : Addr} {params : Arguments} {body : Expr} {scope : Scope} {e : Expr} {te tb : TE} {p lpos kpos pos : Pos} {y : Str}
    (ha : PA X [e] (tCons te tNil)) (hc : X.calm = true) (hg : Gl X "max") (hm : X.mg "max" = none) (TB : TabB X.base X.mg c0 P) (hcode : X.env.code = .ref c0) (hmT : (P, lamQ X) ∈ T) (hu : ∀ q ∈ T, q.1 = P → q.2 = lamQ X)
    (hr : Room (k + 2) X.A) (S : NScope N [y] fr scope) (hfree : ∀ z ∈ scope.names, z.2 = .free → X.env.scope.names.lookup z.1 = some .cell ∨ X.env.scope.names.lookup z.1 = some .free) (hfr : ∀ z ∈ fr, (z, NameKind.free) ∈ scope.names) (hjs : js.map (fun j => X.N[j]?) = fr.map some)
    (hdef : defaultsOf params X.env = ([], [])) (hb : ∀ (q : Str) (cl : List (Str × Addr)) (pm cv ctv u : Value), bindArgs (PySem.W.kla_fn "<lambda>" q params body scope cl pm cv ctv) ⟨[u], []⟩ = pure [(y, u)])
    (hbody : ∀ (f c : Addr) (s : Shared) (H : Hp), Room k (X.A.in1.deeper (envF (lamF X params scope c) f s.heap.objs.size)) → PE (lamX X N params scope f c s H) body tb)
    (hst : backTo pos (starEach [e] X.env) = (false, eval e X.env) :: backTo pos (starEach [] X.env) := by rfl) (hpl : (backTo pos (starEach [e] X.env)).any (·.1) = false := by rfl) :
    PE X (.Call (.Name "max" p) [e] [⟨some "key", .Lambda params body scope lpos, kpos⟩] pos) (tMaxLam X.K T N js te tb) := by
  refine ⟨fun pins s σ H Q I h => ?_⟩
  refine wpAny_Call_Name_kw (ld_blt (u := .builtin "max") I hg hm (by decide +kernel) ?_)
  refine PyProof.Rows.callWith_kw (thn (ha.run pos pins s σ H (fun vs H0 => match vs with
    | [x] => ∃ (a : Addr) (xs : List V) (kf : Nat → Int), x = .ref a ∧ SqL X.K H0 a xs ∧ 0 < xs.length ∧ Tabs T H0 ∧
      ∀ H1, ExtN H0 H1 → Tabs T H1 → (∀ i v H2, xs[i]? = some v → ExtN H1 H2 → Tabs T H2 → tb (startF N [v] (js.map (slotAt σ))) H2 fun r H3 => r = .int (kf i) ∧ ExtN H2 H3 ∧ Tabs T H3) ∧
        ∀ v H2, xs[argBest (fun i j => decide (kf j < kf i)) (xs.length - 1)]? = some v → ExtN H1 H2 → Tabs T H2 → Q v H2
    | _ => False) I h) fun us s1 ⟨vs, H0, I0, r0, q0⟩ => ?_) hst hpl
  match vs, q0 with
  | [x], q0 =>
  obtain ⟨a, xs, kf, rfl, hsq, hne, hT, q⟩ := q0
  obtain rfl := Vals.ref1 r0
  have hfc : ∀ z ∈ scope.names, z.2 = .free → ∃ cc, X.env.cells.lookup z.1 = some cc := fun z hz ez => (hfree z hz ez).elim (fun w => I0.ok.has _ (.inl w)) fun w => I0.ok.has _ (.inr w)
  show wpAny _ _ (evalAll [do let v ← eval (.Lambda params body scope lpos) X.env; standAt pos; pure v]) _ _ s1
  refine wpAny_evalAll_cons (wpAny_bind (lam_make2 I0 TB hcode hmT hu hT hdef hfc fun f c pm ctv H1 s2 I1 eN T1 hf hfn hfs hco => wpAny_bind (wpAny_standAt (wpAny_pure (wpAny_evalAll_nil ?_)))))
  show wpAny _ X.A (call (.builtin "max") [.ref a] [(Str.ofString "key", .ref f)]) _ _ s2
  obtain ⟨qb, qd⟩ := q H1 eN T1
  have hsq1 := sq_extN eN hsq
  obtain ⟨its, rv, hl, _⟩ := I1.list hsq1
  have hls := hl.isList
  have hal : a < s2.heap.objs.size := by
    obtain ⟨ol, hol, _⟩ := id hls
    exact Heap.lt_size hol
  have hfl : f < s2.heap.objs.size := Heap.lt_size hf
  have hh : X.A.handled = none := I1.ok.hd hc
  refine PySem.call_max_walkK (wpAny_pyIter_list hls ?_)
  have noF : ∀ b, s2.heap.objs.size ≤ b → b ∉ frs X.stack := fun b hb z => by
    rcases List.mem_cons.mp (I1.stkSub _ z) with w | w
    · exact absurd (w ▸ hb) (Nat.not_le_of_lt I1.lt)
    · exact I1.nofs hb w
  have noC : ∀ b, s2.heap.objs.size ≤ b → (b ∈ X.ex ∨ X.s_0.heap.objs.size ≤ b) ∧ b ≠ X.env.locals ∧ (∀ x c, X.env.cells.lookup x = some c → c ≠ b) ∧ ∀ p ∈ X.pn ++ pins, p.1 ≠ b := fun b hb =>
    ⟨.inr (Nat.le_trans I1.sz hb), fun w => Nat.not_le_of_lt I1.lt (w ▸ hb), fun x c ec w => by
      obtain ⟨v, o, ho, _⟩ := I1.cell x c ec
      exact Nat.not_le_of_lt (Heap.lt_size ho) (w ▸ hb), fun p hp w => Nat.not_le_of_lt (Heap.lt_size (I1.pin p hp).1) (w ▸ hb)⟩
  have hne1 : a ≠ s2.heap.objs.size := Nat.ne_of_lt hal
  have hS : (s2.heap.push { cls := .type "list_iterator", data := .fields #[.ref a, .int 0 0] }).objs.size = s2.heap.objs.size + 1 := size_push' ..
  have W : WalksS X.prog X.w X.A.in1 s2.heap.objs.size [s2.heap.objs.size, a] [s2.heap.objs.size] (fun x y => y = x) xs.length (fun i v => ∃ x, xs[i]? = some x ∧ RelV x v)
      (fun i (s' : Shared) => s'.heap.IsListIter s2.heap.objs.size a i ∧ ∃ us : List Value, Vals xs us ∧ s'.heap.IsList a us.toArray) := by
    have W0 : ∀ us : List Value, _ := fun us => (Walks.list (prog := X.prog) (w := X.w) (A := X.A.in1) hh s2.heap.objs.size a hne1 us.toArray).toS
    refine ⟨fun b hb => ?_, fun _ => rfl, fun x y z h1 h2 => h2.trans h1, fun i s' h' tk st _ hk => ?_, fun i s' Q' E' hi st hQ => ?_, fun s' Q' E' st hQ => ?_, fun i s' Q' E' st hQ => ?_⟩
    · rw [List.mem_singleton.mp hb]
      exact List.mem_cons_self
    · obtain ⟨⟨oI, g1, g2⟩, us, ru, ol, g3, g4⟩ := st
      exact ⟨⟨oI, hk _ List.mem_cons_self _ g1, g2⟩, us, ru, ol, hk _ (List.mem_cons_of_mem _ (List.mem_singleton.mpr rfl)) _ g3, g4⟩
    · obtain ⟨g1, us, ru, g2⟩ := st
      have hlen := ru.length
      refine (W0 us).item i s' Q' E' (by rw [List.size_toArray, ← hlen]; exact hi) ⟨g1, g2⟩ fun v s'' hP st' mv => ?_
      refine hQ v s'' ⟨xs[i], List.getElem?_eq_getElem hi, ?_⟩ ⟨st'.1, us, ru, st'.2⟩ mv
      obtain ⟨u, hu1, hu2⟩ := ru.get (List.getElem?_eq_getElem hi)
      have hv : us[i]? = some v := by simpa using hP
      rw [hu1] at hv
      cases hv
      exact hu2
    · obtain ⟨g1, us, ru, g2⟩ := st
      have hlen := ru.length
      have hsz : us.toArray.size = xs.length := by simp [hlen]
      exact (W0 us).done s' Q' E' ⟨by rw [hsz]; exact g1, g2⟩ hQ
    · obtain ⟨g1, us, ru, g2⟩ := st
      exact (W0 us).self i s' Q' E' ⟨g1, g2⟩ hQ
  refine ⟨_, _, _, _, _, _, _, (fun s' => ∃ H2, Inv X pins σ H2 s' ∧ ExtN H1 H2 ∧ Tabs T H2 ∧ H2 s2.heap.objs.size = none ∧ H2 (s2.heap.objs.size + 1) = none ∧ H2 f = none ∧ s'.heap.get? f = some (PySem.W.kla_obj "<lambda>" (lamQ X) params body scope (clOf X scope) pm c ctv)),
    (fun i k _ => ∃ t, k = .int (kf i) t), (fun i j => decide (kf j < kf i)), rfl, W, ⟨⟨_, Heap.get?_push_size _ rfl, rfl, rfl⟩, its, rv, ?_⟩, fun b hb => ?_, hne, ?_, ⟨H1, I1.kept fun b o eb => Heap.get?_push_of_some _ eb, ExtN.refl H1, T1, I1.hok.fresh (Nat.le_refl _), I1.hok.fresh (Nat.le_succ _), hfn, Heap.get?_push_of_some _ hf⟩, ?_⟩
  · obtain ⟨ol, g1, g2⟩ := hls
    exact ⟨ol, Heap.get?_push_of_some _ g1, g2⟩
  · rcases List.mem_cons.mp hb with w | w
    · rw [w, hS]
      exact Nat.lt_succ_self _
    · rw [List.mem_singleton.mp w, hS]
      exact Nat.lt_succ_of_lt hal
  · rw [hS]
    refine ⟨fun s3 s4 hJ mv => ?_, fun i k s3 s4 hV mv => hV, fun i v s3 o Q' E' hi hP hJ st hSo hQ => ?_, fun i j ki kj s3 Q' E' hJ hVi hVj hQ => ?_⟩
    · obtain ⟨H2, I2, e2, t2, n1, n2, n3, hf2⟩ := hJ
      have nt : ∀ b u, H2 b = some u → b ∉ [s2.heap.objs.size + 1, s2.heap.objs.size] := fun b u hb z => by
        rcases List.mem_cons.mp z with w | w
        · rw [w, n2] at hb
          cases hb
        · rw [List.mem_singleton.mp w, n1] at hb
          cases hb
      have ntf : f ∉ [s2.heap.objs.size + 1, s2.heap.objs.size] := fun z => by
        rcases List.mem_cons.mp z with w | w
        · exact Nat.not_le_of_lt hfl (w ▸ Nat.le_succ _)
        · exact Nat.not_le_of_lt hfl (List.mem_singleton.mp w ▸ Nat.le_refl _)
      have ntl : X.env.locals ∉ [s2.heap.objs.size + 1, s2.heap.objs.size] := fun z => by
        rcases List.mem_cons.mp z with w | w
        · exact (noC _ (Nat.le_succ _)).2.1 w.symm
        · exact (noC _ (Nat.le_refl _)).2.1 (List.mem_singleton.mp w).symm
      refine ⟨H2, ?_, e2, t2, n1, n2, n3, mv.heap f _ ntf hf2⟩
      obtain ⟨h4, g4, d4, t4, o4⟩ := s4
      have eg : g4 = s3.gens := mv.gens
      have ed : d4 = s3.drawn := mv.drawn
      have eo : o4 = s3.os := mv.os
      subst eg ed eo
      refine I2.step (g' := s3.gens) (d' := s3.drawn) (t' := t4) (h' := h4) (ch := [s2.heap.objs.size + 1, s2.heap.objs.size]) (fun b hb => ?_) (fun b o _ _ hb eb _ => mv.heap b o hb eb) (fun b o _ _ hb eb _ => ⟨o.slots, mv.heap b o hb eb⟩) (fun _ _ _ _ n => n) (fun b o hb eb => ⟨o, mv.heap b o hb eb⟩) (fun _ _ eb => eb) (fun _ _ _ eb => eb) (fun b ps eb => ⟨#[], by rw [eb]; simp⟩) (fun m hm => ?_) (fun b u eb => ?_) I2.bare
      · rcases List.mem_cons.mp hb with w | w
        · rw [w]
          exact noC _ (Nat.le_succ _)
        · rw [List.mem_singleton.mp w]
          exact noC _ (Nat.le_refl _)
      · obtain ⟨ob, es, ep, ho, r⟩ := hm
        exact ⟨ob, es, ep, mv.heap _ _ ntl ho, r⟩
      · refine (I2.hok b u eb).stay (fun cc v hcc qq => mv.heap cc v ?_ qq) (fun _ qq => qq) fun _ _ qq => qq
        rcases hcc with w | w
        · rw [w]
          exact nt b u eb
        · exact nt cc _ w
    · obtain ⟨x, hx, rx⟩ := hP
      obtain ⟨H2, I2, e2, t2, n1, n2, n3, hf2⟩ := hJ
      obtain ⟨⟨oI, gI, gI2⟩, _⟩ := st
      have nex : ∀ b : Addr, b ∉ ([] : List Addr) := fun b z => by cases z
      refine lam_run (vs := [x]) (k := k) I2 S (Caps.made I2.ok hfree hfr hjs) hf2 (e2 c _ hco codeO_ne) (hb _ _ _ _ _ _) hr.in1 (.cons rx .nil) rfl (hbody f c s3 H2) (qb i x H2 hx e2 t2) fun u v' H3 s4 I3 un rv3 hq3 => ?_
      obtain ⟨ev, e3, t3⟩ := hq3
      subst ev
      refine hQ u s4 ⟨H3, I3, e2.trans e3, t3, un.free _ _ gI n1 (nex _), un.free _ _ hSo n2 (nex _), un.free _ _ hf2 n3 (nex _), un.keep _ _ hf2 n3 hfs (nex _)⟩ ⟨⟨oI, un.keep _ _ gI n1 (noF _ (Nat.le_refl _)) (nex _), gI2⟩, ?_⟩ (un.keep _ _ hSo n2 (noF _ (Nat.le_succ _)) (nex _)) rv3 fun _ _ hV => hV
      obtain ⟨its2, rv2, hl2, _⟩ := I3.list (sq_extN (e2.trans e3) hsq1)
      exact ⟨its2, rv2, hl2.isList⟩
    · exact (CmpOf.ints_gt (P := fun i v => ∃ t, v = .int (kf i) t) kf fun i v hV => hV) i j ki kj s3 Q' E' hVi hVj hQ
  · rintro v s' ⟨x, hx, rx⟩ ⟨H2, I2, e2, t2, _⟩
    exact ⟨x, H2, I2, rx, qd x H2 hx e2 t2⟩
theorem pe_maxLamD {T : List (Addr × Str)} {N fr : List Str} {js : List Nat} {k : Nat} {c0 P : Addr} {params : Arguments} {body : Expr} {scope : Scope} {e : Expr} {te tb : TE} {p lpos kpos pos dpos dkpos : Pos} {dj : Nat} {y : Str}
    (ha : PA X [e] (tCons te tNil)) (hc : X.calm = true) (hg : Gl X "max") (hm : X.mg "max" = none) (TB : TabB X.base X.mg c0 P) (hcode : X.env.code = .ref c0) (hmT : (P, lamQ X) ∈ T) (hu : ∀ q ∈ T, q.1 = P → q.2 = lamQ X)
    (hr : Room (k + 2) X.A) (S : NScope N [y] fr scope) (hfree : ∀ z ∈ scope.names, z.2 = .free → X.env.scope.names.lookup z.1 = some .cell ∨ X.env.scope.names.lookup z.1 = some .free) (hfr : ∀ z ∈ fr, (z, NameKind.free) ∈ scope.names) (hjs : js.map (fun j => X.N[j]?) = fr.map some)
    (hdef : defaultsOf params X.env = ([], [])) (hb : ∀ (q : Str) (cl : List (Str × Addr)) (pm cv ctv u : Value), bindArgs (PySem.W.kla_fn "<lambda>" q params body scope cl pm cv ctv) ⟨[u], []⟩ = pure [(y, u)])
    (hbody : ∀ (f c : Addr) (s : Shared) (H : Hp), Room k (X.A.in1.deeper (envF (lamF X params scope c) f s.heap.objs.size)) → PE (lamX X N params scope f c s H) body tb)
    (hst : backTo pos (starEach [e] X.env) = (false, eval e X.env) :: backTo pos (starEach [] X.env) := by rfl) (hpl : (backTo pos (starEach [e] X.env)).any (·.1) = false := by rfl) :
    PE X (.Call (.Name "max" p) [e] [⟨some "key", .Lambda params body scope lpos, kpos⟩, ⟨some "default", .Constant .none dj dpos, dkpos⟩] pos) (tMaxLamD X.K T N js te tb) := by
  refine ⟨fun pins s σ H Q I h => ?_⟩
  refine wpAny_Call_Name_kw (ld_blt (u := .builtin "max") I hg hm (by decide +kernel) ?_)
  refine PyProof.Rows.callWith_kw (thn (ha.run pos pins s σ H (fun vs H0 => match vs with
    | [x] => ∃ (a : Addr) (xs : List V) (kf : Nat → Int), x = .ref a ∧ SqL X.K H0 a xs ∧ Tabs T H0 ∧
      ∀ H1, ExtN H0 H1 → Tabs T H1 → (∀ i v H2, xs[i]? = some v → ExtN H1 H2 → Tabs T H2 → tb (startF N [v] (js.map (slotAt σ))) H2 fun r H3 => r = .int (kf i) ∧ ExtN H2 H3 ∧ Tabs T H3) ∧
        (xs.length = 0 → ∀ H2, ExtN H1 H2 → Tabs T H2 → Q .non H2) ∧ (0 < xs.length → ∀ v H2, xs[argBest (fun i j => decide (kf j < kf i)) (xs.length - 1)]? = some v → ExtN H1 H2 → Tabs T H2 → Q v H2)
    | _ => False) I h) fun us s1 ⟨vs, H0, I0, r0, q0⟩ => ?_) hst hpl
  match vs, q0 with
  | [x], q0 =>
  obtain ⟨a, xs, kf, rfl, hsq, hT, q⟩ := q0
  obtain rfl := Vals.ref1 r0
  have hfc : ∀ z ∈ scope.names, z.2 = .free → ∃ cc, X.env.cells.lookup z.1 = some cc := fun z hz ez => (hfree z hz ez).elim (fun w => I0.ok.has _ (.inl w)) fun w => I0.ok.has _ (.inr w)
  show wpAny _ _ (evalAll [do let v ← eval (.Lambda params body scope lpos) X.env; standAt pos; pure v, do let v ← eval (.Constant .none dj dpos) X.env; standAt pos; pure v]) _ _ s1
  refine wpAny_evalAll_cons (wpAny_bind (lam_make2 I0 TB hcode hmT hu hT hdef hfc fun f c pm ctv H1 s2 I1 eN T1 hf hfn hfs hco => wpAny_bind (wpAny_standAt (wpAny_pure (wpAny_evalAll_cons (wpAny_bind (Constant_none (wpAny_bind (wpAny_standAt (wpAny_pure (wpAny_evalAll_nil ?_)))))))))))
  show wpAny _ X.A (call (.builtin "max") [.ref a] [(Str.ofString "key", .ref f), (Str.ofString "default", .none)]) _ _ s2
  obtain ⟨qb, qz, qd⟩ := q H1 eN T1
  have hsq1 := sq_extN eN hsq
  obtain ⟨its, rv, hl, _⟩ := I1.list hsq1
  have hls := hl.isList
  have hal : a < s2.heap.objs.size := by
    obtain ⟨ol, hol, _⟩ := id hls
    exact Heap.lt_size hol
  have hfl : f < s2.heap.objs.size := Heap.lt_size hf
  have hh : X.A.handled = none := I1.ok.hd hc
  refine PySem.call_max_walkKD (wpAny_pyIter_list hls ?_)
  have noF : ∀ b, s2.heap.objs.size ≤ b → b ∉ frs X.stack := fun b hb z => by
    rcases List.mem_cons.mp (I1.stkSub _ z) with w | w
    · exact absurd (w ▸ hb) (Nat.not_le_of_lt I1.lt)
    · exact I1.nofs hb w
  have noC : ∀ b, s2.heap.objs.size ≤ b → (b ∈ X.ex ∨ X.s_0.heap.objs.size ≤ b) ∧ b ≠ X.env.locals ∧ (∀ x c, X.env.cells.lookup x = some c → c ≠ b) ∧ ∀ p ∈ X.pn ++ pins, p.1 ≠ b := fun b hb =>
    ⟨.inr (Nat.le_trans I1.sz hb), fun w => Nat.not_le_of_lt I1.lt (w ▸ hb), fun x c ec w => by
      obtain ⟨v, o, ho, _⟩ := I1.cell x c ec
      exact Nat.not_le_of_lt (Heap.lt_size ho) (w ▸ hb), fun p hp w => Nat.not_le_of_lt (Heap.lt_size (I1.pin p hp).1) (w ▸ hb)⟩
  have hne1 : a ≠ s2.heap.objs.size := Nat.ne_of_lt hal
  have hS : (s2.heap.push { cls := .type "list_iterator", data := .fields #[.ref a, .int 0 0] }).objs.size = s2.heap.objs.size + 1 := size_push' ..
  have W : WalksS X.prog X.w X.A.in1 s2.heap.objs.size [s2.heap.objs.size, a] [s2.heap.objs.size] (fun x y => y = x) xs.length (fun i v => ∃ x, xs[i]? = some x ∧ RelV x v)
      (fun i (s' : Shared) => s'.heap.IsListIter s2.heap.objs.size a i ∧ ∃ us : List Value, Vals xs us ∧ s'.heap.IsList a us.toArray) := by
    have W0 : ∀ us : List Value, _ := fun us => (Walks.list (prog := X.prog) (w := X.w) (A := X.A.in1) hh s2.heap.objs.size a hne1 us.toArray).toS
    refine ⟨fun b hb => ?_, fun _ => rfl, fun x y z h1 h2 => h2.trans h1, fun i s' h' tk st _ hk => ?_, fun i s' Q' E' hi st hQ => ?_, fun s' Q' E' st hQ => ?_, fun i s' Q' E' st hQ => ?_⟩
    · rw [List.mem_singleton.mp hb]
      exact List.mem_cons_self
    · obtain ⟨⟨oI, g1, g2⟩, us, ru, ol, g3, g4⟩ := st
      exact ⟨⟨oI, hk _ List.mem_cons_self _ g1, g2⟩, us, ru, ol, hk _ (List.mem_cons_of_mem _ (List.mem_singleton.mpr rfl)) _ g3, g4⟩
    · obtain ⟨g1, us, ru, g2⟩ := st
      have hlen := ru.length
      refine (W0 us).item i s' Q' E' (by rw [List.size_toArray, ← hlen]; exact hi) ⟨g1, g2⟩ fun v s'' hP st' mv => ?_
      refine hQ v s'' ⟨xs[i], List.getElem?_eq_getElem hi, ?_⟩ ⟨st'.1, us, ru, st'.2⟩ mv
      obtain ⟨u, hu1, hu2⟩ := ru.get (List.getElem?_eq_getElem hi)
      have hv : us[i]? = some v := by simpa using hP
      rw [hu1] at hv
      cases hv
      exact hu2
    · obtain ⟨g1, us, ru, g2⟩ := st
      have hlen := ru.length
      have hsz : us.toArray.size = xs.length := by simp [hlen]
      exact (W0 us).done s' Q' E' ⟨by rw [hsz]; exact g1, g2⟩ hQ
    · obtain ⟨g1, us, ru, g2⟩ := st
      exact (W0 us).self i s' Q' E' ⟨g1, g2⟩ hQ
  refine ⟨_, _, _, _, _, _, _, (fun s' => ∃ H2, Inv X pins σ H2 s' ∧ ExtN H1 H2 ∧ Tabs T H2 ∧ H2 s2.heap.objs.size = none ∧ H2 (s2.heap.objs.size + 1) = none ∧ H2 f = none ∧ s'.heap.get? f = some (PySem.W.kla_obj "<lambda>" (lamQ X) params body scope (clOf X scope) pm c ctv)),
    (fun i k _ => ∃ t, k = .int (kf i) t), (fun i j => decide (kf j < kf i)), rfl, W, ⟨⟨_, Heap.get?_push_size _ rfl, rfl, rfl⟩, its, rv, ?_⟩, fun b hb => ?_, ?_, ⟨H1, I1.kept fun b o eb => Heap.get?_push_of_some _ eb, ExtN.refl H1, T1, I1.hok.fresh (Nat.le_refl _), I1.hok.fresh (Nat.le_succ _), hfn, Heap.get?_push_of_some _ hf⟩, ?_, ?_⟩
  · obtain ⟨ol, g1, g2⟩ := hls
    exact ⟨ol, Heap.get?_push_of_some _ g1, g2⟩
  · rcases List.mem_cons.mp hb with w | w
    · rw [w, hS]
      exact Nat.lt_succ_self _
    · rw [List.mem_singleton.mp w, hS]
      exact Nat.lt_succ_of_lt hal
  · rw [hS]
    refine ⟨fun s3 s4 hJ mv => ?_, fun i k s3 s4 hV mv => hV, fun i v s3 o Q' E' hi hP hJ st hSo hQ => ?_, fun i j ki kj s3 Q' E' hJ hVi hVj hQ => ?_⟩
    · obtain ⟨H2, I2, e2, t2, n1, n2, n3, hf2⟩ := hJ
      have nt : ∀ b u, H2 b = some u → b ∉ [s2.heap.objs.size + 1, s2.heap.objs.size] := fun b u hb z => by
        rcases List.mem_cons.mp z with w | w
        · rw [w, n2] at hb
          cases hb
        · rw [List.mem_singleton.mp w, n1] at hb
          cases hb
      have ntf : f ∉ [s2.heap.objs.size + 1, s2.heap.objs.size] := fun z => by
        rcases List.mem_cons.mp z with w | w
        · exact Nat.not_le_of_lt hfl (w ▸ Nat.le_succ _)
        · exact Nat.not_le_of_lt hfl (List.mem_singleton.mp w ▸ Nat.le_refl _)
      have ntl : X.env.locals ∉ [s2.heap.objs.size + 1, s2.heap.objs.size] := fun z => by
        rcases List.mem_cons.mp z with w | w
        · exact (noC _ (Nat.le_succ _)).2.1 w.symm
        · exact (noC _ (Nat.le_refl _)).2.1 (List.mem_singleton.mp w).symm
      refine ⟨H2, ?_, e2, t2, n1, n2, n3, mv.heap f _ ntf hf2⟩
      obtain ⟨h4, g4, d4, t4, o4⟩ := s4
      have eg : g4 = s3.gens := mv.gens
      have ed : d4 = s3.drawn := mv.drawn
      have eo : o4 = s3.os := mv.os
      subst eg ed eo
      refine I2.step (g' := s3.gens) (d' := s3.drawn) (t' := t4) (h' := h4) (ch := [s2.heap.objs.size + 1, s2.heap.objs.size]) (fun b hb => ?_) (fun b o _ _ hb eb _ => mv.heap b o hb eb) (fun b o _ _ hb eb _ => ⟨o.slots, mv.heap b o hb eb⟩) (fun _ _ _ _ n => n) (fun b o hb eb => ⟨o, mv.heap b o hb eb⟩) (fun _ _ eb => eb) (fun _ _ _ eb => eb) (fun b ps eb => ⟨#[], by rw [eb]; simp⟩) (fun m hm => ?_) (fun b u eb => ?_) I2.bare
      · rcases List.mem_cons.mp hb with w | w
        · rw [w]
          exact noC _ (Nat.le_succ _)
        · rw [List.mem_singleton.mp w]
          exact noC _ (Nat.le_refl _)
      · obtain ⟨ob, es, ep, ho, r⟩ := hm
        exact ⟨ob, es, ep, mv.heap _ _ ntl ho, r⟩
      · refine (I2.hok b u eb).stay (fun cc v hcc qq => mv.heap cc v ?_ qq) (fun _ qq => qq) fun _ _ qq => qq
        rcases hcc with w | w
        · rw [w]
          exact nt b u eb
        · exact nt cc _ w
    · obtain ⟨x, hx, rx⟩ := hP
      obtain ⟨H2, I2, e2, t2, n1, n2, n3, hf2⟩ := hJ
      obtain ⟨⟨oI, gI, gI2⟩, _⟩ := st
      have nex : ∀ b : Addr, b ∉ ([] : List Addr) := fun b z => by cases z
      refine lam_run (vs := [x]) (k := k) I2 S (Caps.made I2.ok hfree hfr hjs) hf2 (e2 c _ hco codeO_ne) (hb _ _ _ _ _ _) hr.in1 (.cons rx .nil) rfl (hbody f c s3 H2) (qb i x H2 hx e2 t2) fun u v' H3 s4 I3 un rv3 hq3 => ?_
      obtain ⟨ev, e3, t3⟩ := hq3
      subst ev
      refine hQ u s4 ⟨H3, I3, e2.trans e3, t3, un.free _ _ gI n1 (nex _), un.free _ _ hSo n2 (nex _), un.free _ _ hf2 n3 (nex _), un.keep _ _ hf2 n3 hfs (nex _)⟩ ⟨⟨oI, un.keep _ _ gI n1 (noF _ (Nat.le_refl _)) (nex _), gI2⟩, ?_⟩ (un.keep _ _ hSo n2 (noF _ (Nat.le_succ _)) (nex _)) rv3 fun _ _ hV => hV
      obtain ⟨its2, rv2, hl2, _⟩ := I3.list (sq_extN (e2.trans e3) hsq1)
      exact ⟨its2, rv2, hl2.isList⟩
    · exact (CmpOf.ints_gt (P := fun i v => ∃ t, v = .int (kf i) t) kf fun i v hV => hV) i j ki kj s3 Q' E' hVi hVj hQ
  · rintro hn s' ⟨H2, I2, e2, t2, _⟩
    exact ⟨.non, H2, I2, rfl, qz hn H2 e2 t2⟩
  · rintro hn v s' ⟨x, hx, rx⟩ ⟨H2, I2, e2, t2, _⟩
    exact ⟨x, H2, I2, rx, qd hn x H2 hx e2 t2⟩
end
/-! a def out of a table, called -/
def tCallE (P : Program) (w : World) (K : PySem.W.Frag) (mg : Str → Option Value) (base : Heap) (k : Nat) (tf : TE) (t : TA) : TE := fun σ H Q => tf σ H fun x H1 => ∃ (f : Addr) (sp : Sp) (j : Nat), x = .ref f ∧ j ≤ k ∧ C8.CalAt P w K mg base j f sp ∧ t σ H1 fun vs H2 => sp vs H2 Q C8.E0
theorem pe_callE {X : Cx} {k : Nat} {o i : Expr} {ip pos : Pos} {e : Expr} {es : List Expr} {tf : TE} {t : TA} (hf : PE X (.Subscript o i ip) tf) (hr : Room k X.A) (ha : PA X (e :: es) t) (he : starEach (e :: es) X.env = (false, eval e X.env) :: starEach es X.env := by rfl) (hpl : (backTo pos (starEach es X.env)).any (·.1) = false := by rfl) :
    PE X (.Call (.Subscript o i ip) (e :: es) [] pos) (tCallE X.prog X.w X.K X.mg X.base k tf t) := by
  refine ⟨fun pins s σ H Q I h => ?_⟩
  have ev : eval (.Call (.Subscript o i ip) (e :: es) [] pos) X.env = (do callWith pos (← eval (.Subscript o i ip) X.env) [] (backTo pos (starEach (e :: es) X.env)) (backToKw pos (keywordEach [] X.env))) := by
    rfl
  rw [ev]
  refine wpAny_bind (thn (hf.run pins s σ H _ I h) fun u s1 ⟨v, H1, I1, r1, f, sp, j, ex, hj, c, ht⟩ => ?_)
  subst ex
  obtain rfl : u = Value.ref f := r1
  obtain ⟨fd, ps, F, kp, b⟩ := c.ex
  refine PySem.W.callWith_K (h₀ := X.base) I1.ok.mod.kin kp (thn (ha.run pos pins s1 σ H1 _ I1 ht) fun us s2 ⟨vs, H2, I2, r, q⟩ => ⟨I2.kIn, ?_⟩) he hpl
  exact run_fn F (hr.mono hj) b .nil C8.pass0 I2 r (by rw [List.append_nil]; exact q)
/-! a list made longer by a tuple's items -/
def rExtT (K : PySem.W.Frag) : V → List V → Hp → VK → Prop := fun x vs H Q => ∃ (l b : Addr) (xs zs : List V), x = .ref l ∧ vs = [.ref b] ∧ H l = some (.lst xs) ∧ SqT K H b zs ∧ xs.length + zs.length ≤ sizeLine ∧ Q .non (upd H l (.lst (xs ++ zs)))
theorem mt_extendT {X : Cx} (K : PySem.W.Frag) (hK : X.K = K) : MtM X "list.extend" (rExtT K) := by
  subst hK
  rintro pins s σ H _ _ v us Q I rx rv ⟨l, b, xs, zs, rfl, rfl, hH, hB, hz, q⟩
  cases rx
  obtain ⟨u, rfl, ru⟩ := rv.one
  cases ru
  obtain ⟨z, its, n, r, hl, e⟩ := I.lstM hH
  obtain ⟨its2, r2, ⟨o, ho, hc, n2, hd⟩, z2⟩ := I.tuple hB
  have hl2 := r2.length
  have hsz : its.toArray.size + its2.toArray.size ≤ sizeLine := by
    show its.length + its2.length ≤ sizeLine
    omega
  refine wpAny_call_entry PySem.F.slot_list_extend ⟨_, e, rfl⟩ PySem.F.entry_list_extend ?_ (PySem.F.args_list_extend_2 _ _)
  show wpAny _ X.A.in1 (Builtin.List.listExtendWith (.ref l) (.ref b) .none) _ _ s
  unfold Builtin.List.listExtendWith
  refine wpAny_bind (wpAny_typeOf ⟨o, ho, hc⟩ ?_)
  have h1 : (Builtin.List.listSameRef (.ref l) (.ref b) || Value.type "tuple" == Value.type "list" || Value.type "tuple" == Value.type "tuple") = true := by simp
  rw [if_pos h1]
  refine wpAny_bind ?_
  unfold Builtin.List.listItems
  refine wpAny_bind (wpAny_seqItems ho hd (wpAny_pure ?_))
  refine wpAny_bind (wpAny_bind (wpAny_seqItems e rfl (wpAny_pure ?_)))
  have hlong : ¬ (!its.toArray.isEmpty && Builtin.List.listTooLong (its.toArray.size + its2.toArray.size)) = true := by rw [notLongL hsz, Bool.and_false]; exact Bool.false_ne_true
  rw [if_neg hlong]
  show wpAny _ X.A.in1 (updateSeq l (· ++ its2.toArray) >>= fun _ => ret Value.none) _ _ s
  refine wpAny_bind (wpAny_updateSeq e rfl (wpAny_pure ⟨_, rfl, .non, _, I.lset (its' := its ++ its2) hH e (by simp) (r.append r2) ?_, rfl, q⟩) ?_ ?_)
  · rw [List.length_append]
    exact hz
  · show its.length ≤ sizeLine
    omega
  · rw [Array.size_append]
    omega
/-- an object made without arguments -/
theorem pe_mk0 {X : Cx} {k j : Nat} {C : Addr} {x : Str} {sp : Sp} {dvs : List V} {p pos : Pos} (c : C8.Mak X.prog X.w X.K X.mg X.base k x C sp dvs) (hr : Room j X.A) (hk : k + 1 ≤ j) (hg : Gl X x) (hdb : (x == ("__debug__" : Str)) = false := by decide) :
    PE X (.Call (.Name x p) [] [] pos) (tMake C sp dvs C8.E0 tNil) := by
  obtain ⟨f, fd, ps, ds, M, F, hm, b, d⟩ := c.ex
  exact pe_make0 M F (hr.mono hk) hg hm b d C8.pass0 hdb
end Rg

set_option Elab.async false
set_option maxRecDepth 100000
set_option maxHeartbeats 2000000
set_option linter.unusedVariables false
/-! standing.py's defs: groups numbered, worths evened, what each has with each set, the set in each group -/
namespace Rg
open PySem PySem.Spec PyProof.Rows L2 Evl
variable {P : Program} {w : World} {K : PySem.W.Frag} {mg : Str → Option Value} {base : Heap}
/-- a list or a tuple -/
def SqN (H : Hp) (a : Addr) (xs : List V) : Prop := H a = some (.lst xs) ∨ H a = some (.tup xs)
theorem SqN.sq {H : Hp} {a : Addr} {xs : List V} (h : SqN H a xs) : SqL K H a xs ∨ SqT K H a xs := h.elim (fun h => .inl (sq_of h)) fun h => .inr (st_of h)
theorem SqN.ex {H H' : Hp} {a : Addr} {xs : List V} (h : SqN H a xs) (e : Ex H H') : SqN H' a xs := h.elim (fun h => .inl (e _ _ h)) fun h => .inr (e _ _ h)
theorem all_map {α : Type} (l : List α) (f : α → Bool) : (l.map f).all id = l.all f := by rw [List.all_map]; rfl
/-! numbered -/
abbrev s_numbered : Stmt := top 1
abbrev N_numbered : List Str := ["groups", "numbers", "group"]
abbrev P_numbered : List Str := ["groups"]
theorem sc_numbered : FnScope N_numbered P_numbered (C8.fnScope s_numbered) := C8.fnScope_by (by decide +kernel)
def kvsFrom (k : Nat) : List Nat → List (Key × V)
  | [] => []
  | x :: r => (Sum.inl (x : Int), V.int (k : Int)) :: kvsFrom (k + 1) r
theorem kvsFrom_len : ∀ (f : List Nat) (k : Nat), (kvsFrom k f).length = f.length
  | [], _ => rfl
  | _ :: r, k => by
    show (kvsFrom (k + 1) r).length + 1 = r.length + 1
    rw [kvsFrom_len r]
theorem kvsFrom_snoc : ∀ (f : List Nat) (k x : Nat), kvsFrom k (f ++ [x]) = kvsFrom k f ++ [(Sum.inl (x : Int), V.int ((k + f.length : Nat) : Int))]
  | [], k, x => rfl
  | y :: r, k, x => by
    show (Sum.inl (y : Int), V.int (k : Int)) :: kvsFrom (k + 1) (r ++ [x]) = (Sum.inl (y : Int), V.int (k : Int)) :: (kvsFrom (k + 1) r ++ _)
    rw [kvsFrom_snoc r (k + 1) x, List.length_cons, show k + 1 + r.length = k + (r.length + 1) by omega]
theorem valV_kvs : ∀ (f : List Nat) (k x : Nat), valV (kvsFrom k f) (Sum.inl (x : Int)) = if x ∈ f then some (V.int ((k + place f x : Nat) : Int)) else none
  | [], k, x => rfl
  | y :: r, k, x => by
    have ih := valV_kvs r (k + 1) x
    unfold valV at ih ⊢
    show (List.find? _ ((Sum.inl (y : Int), V.int (k : Int)) :: kvsFrom (k + 1) r)).map (·.2) = _
    rw [List.find?_cons]
    by_cases e : y = x
    · subst e
      simp [place]
    · have e1 : ¬ ((Sum.inl (y : Int) : Key) = Sum.inl (x : Int)) := fun z => e (by injection z with z; omega)
      rw [decide_eq_false e1]
      show (List.find? _ (kvsFrom (k + 1) r)).map (·.2) = _
      rw [ih]
      have e2 : x ∈ y :: r ↔ x ∈ r := by rw [List.mem_cons]; exact ⟨fun q => q.resolve_left fun z => e z.symm, .inr⟩
      have e3 : place (y :: r) x = place r x + 1 := by
        unfold place
        rw [List.takeWhile_cons, show (y != x) = true from bne_iff_ne.mpr e, if_pos rfl, List.length_cons]
      by_cases hm : x ∈ r
      · rw [if_pos hm, if_pos (e2.mpr hm), e3, show k + 1 + place r x = k + (place r x + 1) by omega]
      · rw [if_neg hm, if_neg fun q => hm (e2.mp q)]
theorem firsts_take {g : List Nat} {i k : Nat} (h : g[i]? = some k) : firsts (g.take (i + 1)) = if (firsts (g.take i)).contains k then firsts (g.take i) else firsts (g.take i) ++ [k] := by
  rw [← firsts_snoc, List.take_add_one, h]
  rfl
def sp_numbered : Sp := fun vs H Q _ => ∃ (a : Addr) (g : List Nat), vs = [.ref a] ∧ H a = some (.lst (nv g)) ∧ g.length ≤ 1000 ∧ RetL H Q (nv (Ks565.tidy g))
theorem cal_numbered {f : Addr} {fd : FuncData} (F : C8.Def K mg "numbered" s_numbered f fd) (b : Binds K fd P_numbered []) (B : Blt mg) : C8.Cal P w K mg base 1 "numbered" sp_numbered [] := by
  have sc := sc_numbered; have b_len := B.len
  refine C8.cal0 F b .nil sc (fun vs H Q E h => ?_) (fun cdv A outer s H vs Q E hr h => ?_)
  · obtain ⟨a, g, rfl, _⟩ := h
    rfl
  · refine ⟨_, (pss_cons (ps_set (i := 1) sc.nd rfl (.inr rfl) pe_dnewK)
      (pss_cons (ps_for PassesOwn.never rfl (piL K rfl (pv 0)) (pg_name (i := 2) sc.nd rfl (.inl rfl)) (pss_one (ps_expr (pe_dsetd (pv 1) (pv 2) (pe_callB call_lenD (by rfl) b_len (by decide +kernel) (pa_cons (pv 1) pa_nil)) ⟨rfl, rfl, rfl, rfl⟩))))
      (pss_one (ps_ret (pe_lc (own := [("group", 2)]) rfl sc.nd (piL K rfl (pv 0)) (blkOk_by (own := [("group", 2)]) (N := N_numbered) (sc := C8.fnScope s_numbered) (by decide +kernel)) (fun _ _ _ _ _ => (pg_name (i := 2) sc.nd rfl (Or.inl rfl))) (fun _ _ _ _ _ => pts_nil) (fun _ _ _ _ _ => (pe_dget (hu_of hr) (pv 1) (pv 2) (fun _ _ => rfl)))))))), ?_⟩
    obtain ⟨a, g, rfl, ha, hz, q⟩ := h
    intro d hd
    have hn : (nv g).length = g.length := nv_len g
    refine q_forLn (xs := nv g) (ev_var rfl) (sq_of (Ex.new hd _ _ ha)) (fun i σ' H' => ∃ v, σ' = [some (.ref a), some (.ref d), v] ∧ Ex H H' ∧ H' d = some (.dK (kvsFrom 0 (firsts (g.take i))))) (fun H1 e => ⟨none, rfl, (Ex.new hd).trans e, e _ _ upd_same⟩) (fun i σ' H' _ ⟨_, _, e, _⟩ => sq_of (e _ _ ha)) ?_ ?_
    · rintro i x _ H' hx ⟨v, rfl, e, hd'⟩
      obtain ⟨k, hk, rfl⟩ := nv_inv hx
      have hlen : (firsts (g.take i)).length ≤ 1000 := Nat.le_trans (firsts_len _) (by rw [List.length_take]; omega)
      refine ⟨_, rfl, d, rfl, .inl ⟨_, .inl hd'⟩, _, rfl, _, rfl, d, _, rfl, hd', _, Sum.inl (k : Int), hd', rfl, small1000 (by rw [kvsFrom_len]; exact hlen), fun v' hv => ?_, fun hv => ?_⟩
      · refine ⟨_, rfl, e, ?_⟩
        rw [valV_kvs] at hv
        have hm : k ∈ firsts (g.take i) := by
          by_cases c : k ∈ firsts (g.take i)
          · exact c
          · rw [if_neg c] at hv
            cases hv
        rw [firsts_take hk, if_pos (List.contains_iff_mem.mpr hm)]
        exact hd'
      · refine ⟨_, rfl, e.mut hd, ?_⟩
        rw [valV_kvs] at hv
        have hm : ¬ k ∈ firsts (g.take i) := fun c => by
          rw [if_pos c] at hv
          cases hv
        rw [firsts_take hk, if_neg fun c => hm (List.contains_iff_mem.mp c), upd_same, putK_new _ (by rw [valV_kvs, if_neg hm]), kvsFrom_snoc, kvsFrom_len, Nat.zero_add]
    · rintro _ H' ⟨v, rfl, e, hd'⟩
      rw [hn, List.take_length] at hd'
      refine s_retL (el_lcL (j := 2) (σ := [some (.ref a), some (.ref d), v]) (fun _ => true) (fun m => V.int ((place (firsts g) (g.getD m 0) : Nat) : Int)) (ev_var rfl) (sq_of (e _ _ ha)) (by omega) (fun x => rfl) (fun m x H1 e1 hx => et_yes) (fun m x H1 e1 hx _ => ?_)) fun p H1 hp e1 h1 => ?_
      · obtain ⟨k, hk, rfl⟩ := nv_inv hx
        have e2 : g.getD m 0 = k := by rw [List.getD_eq_getElem?_getD, hk]; rfl
        rw [e2]
        refine fun H2 e3 Q' q' => ⟨_, rfl, _, rfl, d, _, rfl, ?_, q' H2 (Ex.refl H2)⟩
        have z := DGet.k (k := Sum.inl (k : Int)) (e3 _ _ (e1 _ _ hd'))
        rw [valV_kvs, if_pos ((firsts_mem g k).mpr (List.mem_of_getElem? hk)), Nat.zero_add] at z
        exact z
      · refine q p H1 (fresh_back e hp) (e.trans e1) ?_
        rw [h1, given_all, hn]
        unfold nv
        rw [tidy_is, List.map_map, map_range_getD g fun x => V.int ((place (firsts g) x : Nat) : Int)]
        rfl
theorem numbered_L {H : Hp} {a : Addr} {g : List Nat} (ha : H a = some (.lst (nv g))) (hz : g.length ≤ 1000) : SpL sp_numbered [.ref a] H (nv (Ks565.tidy g)) :=
  fun H1 e Q q _ => ⟨a, g, rfl, e _ _ ha, hz, fun p H2 hp e2 h2 => q p H2 hp e2 h2⟩
/-! how_many -/
abbrev s_how_many : Stmt := top 2
abbrev N_how_many : List Str := ["groups"]
abbrev P_how_many : List Str := ["groups"]
theorem sc_how_many : FnScope N_how_many P_how_many (C8.fnScope s_how_many) := C8.fnScope_by (by decide +kernel)
def sp_how_many : Sp := fun vs H Q _ => ∃ (a : Addr) (g : List Nat), vs = [.ref a] ∧ SqN H a (nv g) ∧ 0 < g.length ∧ RetV H Q (.int (Ks565.groups g : Nat))
theorem cal_how_many {f : Addr} {fd : FuncData} (F : C8.Def K mg "how_many" s_how_many f fd) (b : Binds K fd P_how_many []) (B : Blt mg) : C8.Cal P w K mg base 1 "how_many" sp_how_many [] := by
  have sc := sc_how_many; have b_max := B.max
  refine C8.cal0 F b .nil sc (fun vs H Q E h => ?_) (fun cdv A outer s H vs Q E hr h => ?_)
  · obtain ⟨a, g, rfl, _⟩ := h
    rfl
  · refine ⟨_, (pss_one (ps_ret (pe_op op_add (pe_callB (cMaxS K rfl rfl) (by rfl) b_max (by decide +kernel) (pa_cons (pv 0) pa_nil)) pe_int))), ?_⟩
    obtain ⟨a, g, rfl, ha, hz, q⟩ := h
    refine ⟨.ref a, rfl, a, g.map fun (k : Nat) => (k : Int), rfl, by rw [← nv_ints]; exact ha.sq, by rw [List.length_map]; exact hz, fun m hm hle => ⟨m, 1, rfl, rfl, ?_⟩⟩
    obtain ⟨m', hm', rfl⟩ := List.mem_map.mp hm
    have e := groups_of_max hm' fun y hy => by
      have z := hle (y : Int) (List.mem_map.mpr ⟨y, hy, rfl⟩)
      omega
    have e2 : ((m' : Nat) : Int) + 1 = ((Ks565.groups g : Nat) : Int) := by rw [e]; rfl
    show Q (.int (((m' : Nat) : Int) + 1)) H
    rw [e2]
    exact q H (Ex.refl H)
theorem how_many_V {H : Hp} {a : Addr} {g : List Nat} (ha : SqN H a (nv g)) (hz : 0 < g.length) : SpV sp_how_many [.ref a] H (.int (Ks565.groups g : Nat)) :=
  fun H1 e Q q _ => ⟨a, g, rfl, ha.ex e, hz, fun H2 e2 => q H2 e2⟩
/-! rows made on the spot -/
theorem RowsAt.lst {H : Hp} {a : Addr} {rows : List (List Int)} (x : RowsAt H a rows) : ∃ xs, H a = some (.lst xs) ∧ xs.length = rows.length := by
  obtain ⟨rs, h1, h2, _⟩ := x
  exact ⟨_, h1, by rw [List.length_map]; exact h2⟩
theorem RowsAt.nil {H : Hp} {a : Addr} (h : H a = some (.lst [])) : RowsAt H a [] := ⟨[], h, rfl, fun j p hj => by simp at hj⟩
theorem RowsAt.snoc {H H1 : Hp} {a p : Addr} {rows : List (List Int)} {xs : List V} {row : List Int} (h : RowsAt H a rows) (hx : H a = some (.lst xs)) (e : Ex H H1) (hp : H1 p = some (.lst (row.map V.int))) (hne : p ≠ a) : RowsAt (upd H1 a (.lst (xs ++ [.ref p]))) a (rows ++ [row]) := by
  obtain ⟨rs, h1, h2, h3⟩ := h
  rw [h1] at hx
  cases hx
  have ne : ∀ {j : Nat} {r : Addr} {rw : List Int}, rs[j]? = some r → H r = some (.lst (rw.map V.int)) → r ≠ a := fun {j r rw} hj hr z => by
    rw [z, h1] at hr
    have hz : rs.map V.ref = rw.map V.int := by
      injection hr with hr
      injection hr
    have q : (rs.map V.ref)[j]? = some (V.ref r) := by rw [List.getElem?_map, hj]; rfl
    rw [hz] at q
    obtain ⟨k, _, hk⟩ := iv_inv q
    cases hk
  refine ⟨rs ++ [p], ?_, by rw [List.length_append, List.length_append, h2]; rfl, fun j q hj => ?_⟩
  · rw [upd_same, List.map_append]
    rfl
  · by_cases hlt : j < rs.length
    · rw [List.getElem?_append_left hlt] at hj
      obtain ⟨y, a1, a2⟩ := h3 j q hj
      refine ⟨y, by rw [List.getElem?_append_left (by omega)]; exact a1, ?_⟩
      rw [upd_ne (ne hj a2)]
      exact e _ _ a2
    · rw [List.getElem?_append_right (by omega)] at hj
      obtain ⟨hj1, hj2⟩ := List.getElem?_eq_some_iff.mp hj
      have hj0 : j = rs.length := by simp at hj1; omega
      subst hj0
      have hq : p = q := by simpa using hj2
      subst hq
      refine ⟨row, by rw [h2, List.getElem?_append_right (Nat.le_refl _)]; simp, ?_⟩
      rw [upd_ne hne]
      exact hp
def EvRows (te : TE) (σ : L2.St) (H : Hp) (rows : List (List Int)) : Prop := ∀ H1, Ex H H1 → ∀ Q : VK, (∀ p H2, H1 p = none → Ex H1 H2 → RowsAt H2 p rows → Q (.ref p) H2) → te σ H1 Q
theorem range_map_succ {α : Type} (f : Nat → α) (n : Nat) : (List.range (n + 1)).map f = (List.range n).map f ++ [f n] := by
  rw [List.range_succ, List.map_append]
  rfl
theorem er_rng {σ : L2.St} {H : Hp} {ta : TA} {te : TE} {j n : Nat} {vs : List Nat} (f : Nat → List Int) (h : EvA ta σ H [.int (n : Int)]) (hz : n ≤ 1000) (hw : ∀ x, wipe ((wipe σ vs).set j (some x)) vs = wipe σ vs)
    (he : ∀ k H1, Ex H H1 → k < n → EvL te ((wipe σ vs).set j (some (.int (k : Int)))) H1 ((f k).map V.int)) : EvRows (tLc (iRng1 ta) (gName j) tYes te vs) σ H ((List.range n).map f) := fun H0 e Q q =>
  h H0 e _ fun H1 e1 => ⟨n, rfl, by omega, by omega, fun Dl hD => by
    refine lc_range (lo := 0) (n := (n : Int).toNat) (fun i H' => Ex H1 H' ∧ RowsAt H' Dl ((List.range i).map f)) ⟨Ex.new hD, RowsAt.nil upd_same⟩ (fun i H' hi p => ?_) fun H' p => q Dl H' (fresh_back e1 hD) (e1.trans p.1) p.2
    have e0 : (0 : Int) + (i : Int) = (i : Int) := Int.zero_add _
    refine ⟨hw _, ?_⟩
    rw [e0]
    obtain ⟨xs, hxs, hxl⟩ := p.2.lst
    show te _ H' _
    refine he i H' ((e.trans e1).trans p.1) (by omega) H' (Ex.refl H') _ fun r H4 hr e4 h4 => ⟨xs, e4 _ _ hxs, ?_, ?_⟩
    · rw [hxl, List.length_map, List.length_range]
      exact small1000 (by omega)
    · refine ⟨(p.1.trans e4).mut hD, ?_⟩
      rw [range_map_succ]
      exact p.2.snoc hxs e4 h4 fun z => by
        rw [z, hxs] at hr
        cases hr⟩
theorem RowsAt.cat {H H' : Hp} {a b p : Addr} {r1 r2 : List (List Int)} {xs ys : List V} (h1 : RowsAt H a r1) (h2 : RowsAt H b r2) (hx : H a = some (.lst xs)) (hy : H b = some (.lst ys)) (e : Ex H H') (hp : H' p = some (.lst (xs ++ ys))) : RowsAt H' p (r1 ++ r2) := by
  obtain ⟨as, a1, a2, a3⟩ := h1
  obtain ⟨bs, b1, b2, b3⟩ := h2
  rw [a1] at hx
  rw [b1] at hy
  cases hx
  cases hy
  refine ⟨as ++ bs, by rw [hp, List.map_append], by rw [List.length_append, List.length_append, a2, b2], fun i r hi => ?_⟩
  by_cases c : i < as.length
  · rw [List.getElem?_append_left c] at hi
    obtain ⟨row, c1, c2⟩ := a3 i r hi
    exact ⟨row, by rw [List.getElem?_append_left (by omega)]; exact c1, e _ _ c2⟩
  · rw [List.getElem?_append_right (by omega)] at hi
    obtain ⟨row, c1, c2⟩ := b3 _ r hi
    exact ⟨row, by rw [List.getElem?_append_right (by omega), ← a2]; exact c1, e _ _ c2⟩
/-- rows that stand, and rows made on the spot, put together -/
theorem er_cat {σ : L2.St} {H : Hp} {ta tb : TE} {a : Addr} {r1 r2 : List (List Int)} (ha : Ev ta σ H (.ref a)) (h1 : RowsAt H a r1) (hb : EvRows tb σ H r2) (hz : r1.length + r2.length ≤ 100000) : EvRows (tOp rCat ta tb) σ H (r1 ++ r2) := fun H1 e Q q =>
  ha H1 e _ fun H2 e2 => hb H2 (e.trans e2) _ fun p3 H3 hp3 e3 h3 => by
    have h1' := h1.ex ((e.trans e2).trans e3)
    obtain ⟨xs, hx, hxl⟩ := h1'.lst
    obtain ⟨ys, hy, hyl⟩ := h3.lst
    exact ⟨a, p3, xs, ys, rfl, rfl, hx, hy, sz_of (by omega), fun p4 hp4 => q p4 _ (fresh_back (e2.trans e3) hp4) ((e2.trans e3).trans (Ex.new hp4)) (RowsAt.cat h1' h3 hx hy (Ex.new hp4) upd_same)⟩
/-- a comprehension over rows, each item a new row -/
theorem er_rows {σ : L2.St} {H : Hp} {tl te : TE} {j : Nat} {vs : List Nat} {a : Addr} {rows : List (List Int)} (f : List Int → List Int) (h : Ev tl σ H (.ref a)) (hr : RowsAt H a rows) (hz : rows.length ≤ 1000) (hw : ∀ x, wipe ((wipe σ vs).set j (some x)) vs = wipe σ vs)
    (he : ∀ (r : Addr) (row : List Int) H1, Ex H H1 → H r = some (.lst (row.map V.int)) → row ∈ rows → EvL te ((wipe σ vs).set j (some (.ref r))) H1 ((f row).map V.int)) : EvRows (tLc (iList K tl) (gName j) tYes te vs) σ H (rows.map f) := fun H0 e Q q => h H0 e _ fun H1 e1 => by
  obtain ⟨rs, g1, g2, g3⟩ := hr
  refine ⟨a, rfl, ⟨_, ex_l (e.trans e1) (sq_of g1)⟩, fun Dl hD => ?_⟩
  refine lc_list (xs := rs.map V.ref) (fun i H' => Ex H1 H' ∧ RowsAt H' Dl ((rows.take i).map f)) ⟨Ex.new hD, RowsAt.nil upd_same⟩ (fun i H' _ p => ex_l ((e.trans e1).trans p.1) (sq_of g1)) (fun i x H' hi p => ⟨hw x, ?_⟩) fun H' p => ?_
  · have hi2 : ∃ r, rs[i]? = some r ∧ x = .ref r := by
      rw [List.getElem?_map] at hi
      cases hr : rs[i]? with
      | none => rw [hr] at hi; cases hi
      | some r => rw [hr] at hi; exact ⟨r, rfl, (Option.some.inj hi).symm⟩
    obtain ⟨r, hr, rfl⟩ := hi2
    obtain ⟨row, k1, k2⟩ := g3 i r hr
    obtain ⟨xs, hxs, hxl⟩ := p.2.lst
    show te _ H' _
    refine he r row H' ((e.trans e1).trans p.1) k2 (List.mem_of_getElem? k1) H' (Ex.refl H') _ fun r2 H4 hr2 e4 h4 => ⟨xs, e4 _ _ hxs, ?_, (p.1.trans e4).mut hD, ?_⟩
    · rw [hxl, List.length_map, List.length_take]
      exact small1000 (by omega)
    · rw [List.take_add_one, k1, List.map_append]
      exact p.2.snoc hxs e4 h4 fun z => by
        rw [z, hxs] at hr2
        cases hr2
  · have p2 := p.2
    rw [List.length_map, g2, List.take_length] at p2
    exact q Dl H' (fresh_back e1 hD) (e1.trans p.1) p2
theorem s_asgR {σ : L2.St} {H : Hp} {D : Ends} {te : TE} {i : Nat} {rows : List (List Int)} (h : EvRows te σ H rows) (k : ∀ p H1, H p = none → Ex H H1 → RowsAt H1 p rows → D.nx (σ.set i (some (.ref p))) H1) : tAsg te (gName i) D σ H := h H (Ex.refl H) _ k
theorem q_asgR {σ : L2.St} {H : Hp} {D : Ends} {te : TE} {tz : TS} {i : Nat} {rows : List (List Int)} (h : EvRows te σ H rows) (k : ∀ p H1, H p = none → Ex H H1 → RowsAt H1 p rows → tz D (σ.set i (some (.ref p))) H1) : tSeq (tAsg te (gName i)) tz D σ H := h H (Ex.refl H) _ k
/-- [[..]]: one row -/
theorem er_one {σ : L2.St} {H : Hp} {te : TE} {row : List Int} (h : EvL te σ H (row.map V.int)) : EvRows (tLst (tCons te tNil)) σ H [row] := fun H1 e Q q =>
  h H1 e _ fun r H2 hr e2 h2 => ⟨by show 1 ≤ sizeLine; decide, fun p hp => q p _ (fresh_back e2 hp) (e2.trans (Ex.new hp)) ⟨[r], upd_same, rfl, fun i x hi => by
    cases i with
    | zero =>
      cases hi
      exact ⟨row, rfl, (upd_ne (ne_of_none h2 hp)).trans h2⟩
    | succ i => cases hi⟩⟩
theorem el_ints {K : PySem.W.Frag} {σ : L2.St} {H : Hp} {tl te : TE} {j : Nat} {vs : List Nat} {a : Addr} {l : List Int} (f : Int → V) (h : Ev tl σ H (.ref a)) (hl : H a = some (.lst (l.map V.int))) (hz : l.length ≤ 1000) (hw : ∀ x, wipe ((wipe σ vs).set j (some x)) vs = wipe σ vs)
    (he : ∀ k H1, Ex H H1 → k ∈ l → Ev te ((wipe σ vs).set j (some (.int k))) H1 (f k)) : EvL (tLc (iList K tl) (gName j) tYes te vs) σ H (l.map f) := by
  have q := el_lcL (K := K) (te := te) (t := tYes) (j := j) (vs := vs) (fun _ => true) (fun m => f (l.getD m 0)) h (sq_of hl) (by rw [List.length_map]; omega) hw (fun m x H1 e hx => et_yes) (fun m x H1 e hx _ => by
    obtain ⟨k, hk, rfl⟩ := iv_inv hx
    rw [show l.getD m 0 = k by rw [List.getD_eq_getElem?_getD, hk]; rfl]
    exact he k H1 e (List.mem_of_getElem? hk))
  rw [given_all, List.length_map] at q
  have e : (List.range l.length).map (fun m => f (l.getD m 0)) = l.map f := by
    apply List.ext_getElem?
    intro j
    rw [List.getElem?_map, List.getElem?_map]
    by_cases hj : j < l.length
    · rw [List.getElem?_range hj, List.getElem?_eq_getElem hj]
      simp [List.getD_eq_getElem?_getD, List.getElem?_eq_getElem hj]
    · rw [List.getElem?_eq_none (by rw [List.length_range]; omega), List.getElem?_eq_none (by omega)]
      rfl
  rw [e] at q
  exact q
/-- what comes back: rows -/
def RetR (H : Hp) (Q : VK) (rows : List (List Int)) : Prop := ∀ p H', H p = none → Ex H H' → RowsAt H' p rows → Q (.ref p) H'
def SpR (sp : Sp) (vs : List V) (H : Hp) (rows : List (List Int)) : Prop := ∀ H1, Ex H H1 → ∀ Q : VK, (∀ p H2, H1 p = none → Ex H1 H2 → RowsAt H2 p rows → Q (.ref p) H2) → ∀ E : XK, sp vs H1 Q E
theorem er_call {σ : L2.St} {H : Hp} {sp : Sp} {E : XK} {ta : TA} {vs : List V} {rows : List (List Int)} (h : EvA ta σ H vs) (hs : SpR sp (vs ++ []) H rows) : EvRows (tCall sp [] E ta) σ H rows := fun G eG Q q =>
  h G eG _ fun G1 e1 => hs G1 (eG.trans e1) Q (fun p G2 np e2 rw2 => q p G2 (fresh_back e1 np) (e1.trans e2) rw2) E
/-! evened, is_even -/
abbrev s_evened : Stmt := top 3
abbrev N_evened : List Str := ["worths", "rows", "i", "j"]
abbrev P_evened : List Str := ["worths"]
theorem sc_evened : FnScope N_evened P_evened (C8.fnScope s_evened) := C8.fnScope_by (by decide +kernel)
def sp_evened : Sp := fun vs H Q _ => ∃ (a : Addr) (t : Ks565.Folk), vs = [.ref a] ∧ RowsAt H a (rowsOf t) ∧ t.n ≤ 1000 ∧ ∀ p H', H p = none → Ex H H' → RowsAt H' p (rowsOf (evenT t)) → Q (.ref p) H'
theorem cal_evened {f : Addr} {fd : FuncData} (F : C8.Def K mg "evened" s_evened f fd) (b : Binds K fd P_evened []) (B : Blt mg) : C8.Cal P w K mg base 1 "evened" sp_evened [] := by
  have sc := sc_evened; have b_range := B.range; have b_len := B.len; have b_min := B.min; have b_max := B.max
  refine C8.cal0 F b .nil sc (fun vs H Q E h => ?_) (fun cdv A outer s H vs Q E hr h => ?_)
  · obtain ⟨_, _, rfl, _⟩ := h
    rfl
  · refine ⟨_, (pss_cons (ps_set (i := 1) sc.nd rfl (.inl rfl) (pe_lst pa_nil))
      (pss_cons (ps_for PassesOwn.never rfl (pi_range1 rfl b_range (pa_cons (pe_callB (cLen K rfl) (by rfl) b_len (by decide +kernel) (pa_cons (pv 0) pa_nil)) pa_nil)) (pg_name (i := 2) sc.nd rfl (.inr rfl)) (pss_one (ps_expr (pe_bm PySem.F.plainAttrs_list PySem.F.slot_list_append PySem.F.type_list_append (mt_append) (pv 1) (pa_cons (pe_lc (own := [("j", 3)]) rfl sc.nd (pi_range1 rfl b_range (pa_cons (pe_callB (cLen K rfl) (by rfl) b_len (by decide +kernel) (pa_cons (pv 0) pa_nil)) pa_nil)) (blkOk_by (own := [("j", 3)]) (N := N_evened) (sc := C8.fnScope s_evened) (by decide +kernel)) (fun _ _ _ _ _ => (pg_name (i := 3) sc.nd rfl (Or.inl rfl))) (fun _ _ _ _ _ => pts_nil) (fun _ _ _ _ _ => (pe_ix (ixl K rfl) (pe_ix (ixl K rfl) (pv 0) (pe_callB (call_min2 rfl) (by rfl) b_min (by decide +kernel) (pa_cons (pv 2) (pa_cons (pv 3) pa_nil))) (fun _ _ => rfl)) (pe_callB (call_max2 rfl) (by rfl) b_max (by decide +kernel) (pa_cons (pv 2) (pa_cons (pv 3) pa_nil))) (fun _ _ => rfl)))) pa_nil)))))
      (pss_one (ps_ret (pv 1))))), ?_⟩
    obtain ⟨a, t, rfl, hw, hz, q⟩ := h
    obtain ⟨xs, hxs, hxl⟩ := hw.lst
    rw [rowsOf_len] at hxl
    refine q_asgL (el_lst ea_nil (by decide)) fun D H0 hD e0 d0 => ?_
    refine q_forR1 (n := (xs.length : Int)) (ea_cons (ev_len (ev_var rfl) (sq_of (e0 _ _ hxs))) ea_nil) (by omega)
      (fun i σ' H' => ∃ v2, σ' = [some (.ref a), some (.ref D), v2, none] ∧ Ex H H' ∧ RowsAt H' D ((List.range i).map fun i => (List.range t.n).map fun j => Ks565.likes t (min i j) (max i j))) (fun H1 e => ⟨none, rfl, e0.trans e, RowsAt.nil (e _ _ d0)⟩) ?_ ?_
    · rintro i _ H1 hi ⟨v2, rfl, e1, p1⟩
      have hi' : i < t.n := by omega
      obtain ⟨ys, hys, hyl⟩ := p1.lst
      rw [List.length_map, List.length_range] at hyl
      refine s_appL hys (ev_var rfl) (el_rng (n := xs.length) (fun j => V.int (Ks565.likes t (min i j) (max i j))) (ea_cons (ev_len (ev_var rfl) (sq_of (e1 _ _ hxs))) ea_nil) (by omega) (fun x => rfl) fun j H2 e2 hj => ?_) (by omega) fun p H2 hp e2 h2 => ?_
      · have emin : (if (j : Int) < (i : Int) then (j : Int) else (i : Int)) = ((min i j : Nat) : Int) := by
          by_cases c : j < i
          · rw [if_pos (by omega), Nat.min_eq_right (by omega)]
          · rw [if_neg (by omega), Nat.min_eq_left (by omega)]
        have emax : (if (j : Int) > (i : Int) then (j : Int) else (i : Int)) = ((max i j : Nat) : Int) := by
          by_cases c : j > i
          · rw [if_pos (by omega), Nat.max_eq_right (by omega)]
          · rw [if_neg (by omega), Nat.max_eq_left (by omega)]
        refine ev_worth (hw.ex (e1.trans e2)) (i := min i j) (j := max i j) (by omega) (by omega) (ev_var rfl) (ev_is (ev_cb (ea_cons (ev_var rfl) (ea_cons (ev_var rfl) ea_nil)) (fun H3 _ Q' q' => ⟨_, _, rfl, q' H3 (Ex.refl H3)⟩)) (congrArg V.int emin)) (ev_is (ev_cb (ea_cons (ev_var rfl) (ea_cons (ev_var rfl) ea_nil)) (fun H3 _ Q' q' => ⟨_, _, rfl, q' H3 (Ex.refl H3)⟩)) (congrArg V.int emax))
      · refine ⟨_, rfl, (e1.trans e2).mut hD, ?_⟩
        rw [range_map_succ]
        refine p1.snoc hys e2 (row := (List.range t.n).map fun j => Ks565.likes t (min i j) (max i j)) ?_ fun z => ?_
        · rw [h2, hxl, List.map_map]
          rfl
        · rw [z, hys] at hp
          cases hp
    · rintro _ H1 ⟨v2, rfl, e1, p1⟩
      refine s_ret (ev_var rfl) fun H2 e2 => q D H2 hD (e1.trans e2) ?_
      have hx : ((xs.length : Int)).toNat = t.n := by omega
      rw [hx] at p1
      rw [rowsOf_even]
      exact p1.ex e2
theorem evened_R {H : Hp} {a : Addr} {t : Ks565.Folk} (hw : RowsAt H a (rowsOf t)) (hz : t.n ≤ 1000) : SpR sp_evened [.ref a] H (rowsOf (evenT t)) := fun H1 e Q q _ => ⟨a, t, rfl, hw.ex e, hz, q⟩
def rowsD (rows : List (List Int)) : PyData := .list (rows.map fun r => .list (r.map .int))
theorem dp_ints {H : Hp} : ∀ (l : List Int), DpAll K H (l.map V.int) (l.map PyData.int)
  | [] => .nil
  | x :: r => .cons (.int x) (dp_ints r)
theorem RowsAt.dp {H : Hp} {a : Addr} {rows : List (List Int)} (h : RowsAt H a rows) : Dp K H (.ref a) (rowsD rows) := by
  obtain ⟨rs, h1, h2, h3⟩ := h
  refine .lst (sq_of h1) ?_
  have key : ∀ (rs : List Addr) (rows : List (List Int)), rs.length = rows.length → (∀ (i : Nat) (r : Addr), rs[i]? = some r → ∃ row, rows[i]? = some row ∧ H r = some (.lst (row.map V.int))) → DpAll K H (rs.map V.ref) (rows.map fun r => .list (r.map .int)) := by
    intro rs
    induction rs with
    | nil =>
      intro rows hl _
      cases rows with
      | nil => exact .nil
      | cons r rows => cases hl
    | cons r rs ih =>
      intro rows hl hr
      cases rows with
      | nil => cases hl
      | cons row rows =>
        obtain ⟨row', e1, e2⟩ := hr 0 r rfl
        cases e1
        exact .cons (.lst (sq_of e2) (dp_ints _)) (ih rows (Nat.succ.inj hl) fun i r' hi => hr (i + 1) r' hi)
  exact key rs rows h2 h3
theorem intsD_lay : ∀ l : List Int, PyData.canLayAll0 (l.map PyData.int) = true
  | [] => by simp only [List.map_nil, PyData.canLayAll0]
  | x :: r => by simp only [List.map_cons, PyData.canLayAll0, PyData.canLay0, intsD_lay r, Bool.and_self]
theorem intsD_deep : ∀ l : List Int, PyData.depthAll (l.map PyData.int) = 0
  | [] => by simp only [List.map_nil, PyData.depthAll]
  | x :: r => by simp only [List.map_cons, PyData.depthAll, PyData.depth, intsD_deep r, Nat.max_self]
theorem rowsD_lay : ∀ l : List (List Int), PyData.canLayAll0 (l.map fun r => PyData.list (r.map PyData.int)) = true
  | [] => by simp only [List.map_nil, PyData.canLayAll0]
  | x :: r => by simp only [List.map_cons, PyData.canLayAll0, PyData.canLay0, intsD_lay x, rowsD_lay r, Bool.and_self]
theorem rowsD_deep : ∀ l : List (List Int), PyData.depthAll (l.map fun r => PyData.list (r.map PyData.int)) ≤ 1
  | [] => by simp only [List.map_nil, PyData.depthAll]; omega
  | x :: r => by
    have ih := rowsD_deep r
    simp only [List.map_cons, PyData.depthAll, PyData.depth, intsD_deep x]
    omega
theorem rowsD_shaped (l : List (List Int)) : SeqAt.shaped (rowsD l) = true := by
  unfold SeqAt.shaped rowsD
  rw [Bool.and_eq_true]
  refine ⟨by simp only [PyData.canLay0]; exact rowsD_lay l, decide_eq_true ?_⟩
  have := rowsD_deep l
  simp only [PyData.depth]
  omega
theorem intsD_eqv : ∀ l k : List Int, PyData.eqvAll (l.map PyData.int) (k.map PyData.int) = decide (l = k)
  | [], [] => by simp only [List.map_nil, PyData.eqvAll]; rfl
  | [], y :: k => by simp [PyData.eqvAll]
  | x :: l, [] => by simp [PyData.eqvAll]
  | x :: l, y :: k => by
    simp only [List.map_cons, PyData.eqvAll, PyData.eqv, intsD_eqv l k]
    by_cases h1 : x = y <;> by_cases h2 : l = k <;> simp [h1, h2]
theorem rowsD_eqvAll : ∀ l k : List (List Int), PyData.eqvAll (l.map fun r => PyData.list (r.map PyData.int)) (k.map fun r => PyData.list (r.map PyData.int)) = decide (l = k)
  | [], [] => by simp only [List.map_nil, PyData.eqvAll]; rfl
  | [], y :: k => by simp [PyData.eqvAll]
  | x :: l, [] => by simp [PyData.eqvAll]
  | x :: l, y :: k => by
    simp only [List.map_cons, PyData.eqvAll, PyData.eqv, intsD_eqv x y, rowsD_eqvAll l k]
    by_cases h1 : x = y <;> by_cases h2 : l = k <;> simp [h1, h2]
theorem rowsD_eqv (l k : List (List Int)) : PyData.eqv (rowsD l) (rowsD k) = decide (l = k) := by
  unfold rowsD
  simp only [PyData.eqv]
  exact rowsD_eqvAll l k
theorem rv_rowsEq {H : Hp} {a b : Addr} {l k : List (List Int)} (h1 : RowsAt H a l) (h2 : RowsAt H b k) : RV (rEqD K) (.ref a) (.ref b) H (.bl (decide (l = k))) := fun H1 e Q q => ⟨rowsD l, rowsD k, (h1.ex e).dp, (h2.ex e).dp, rowsD_shaped l, rowsD_shaped k, by
  rw [rowsD_eqv]
  exact q H1 (Ex.refl H1)⟩
abbrev s_is_even : Stmt := top 4
abbrev N_is_even : List Str := ["worths"]
abbrev P_is_even : List Str := ["worths"]
theorem sc_is_even : FnScope N_is_even P_is_even (C8.fnScope s_is_even) := C8.fnScope_by (by decide +kernel)
def sp_is_even : Sp := fun vs H Q _ => ∃ (a : Addr) (t : Ks565.Folk), vs = [.ref a] ∧ RowsAt H a (rowsOf t) ∧ t.n ≤ 1000 ∧ RetV H Q (.bl (Ks567.even t))
theorem even_dec (t : Ks565.Folk) : decide (rowsOf (evenT t) = rowsOf t) = Ks567.even t := by
  rw [Bool.eq_iff_iff, decide_eq_true_eq]
  exact (even_iff t).symm
theorem cal_is_even {f : Addr} {fd : FuncData} (F : C8.Def K mg "is_even" s_is_even f fd) (b : Binds K fd P_is_even []) (c_evened : C8.Cal P w K mg base 1 "evened" sp_evened []) : C8.Cal P w K mg base 2 "is_even" sp_is_even [] := by
  have sc := sc_is_even
  refine C8.cal0 F b .nil sc (fun vs H Q E h => ?_) (fun cdv A outer s H vs Q E hr h => ?_)
  · obtain ⟨_, _, rfl, _⟩ := h
    rfl
  · refine ⟨_, (pss_one (ps_ret (pe_cmpR (oEqD K rfl hr.units) (C8.pe_c c_evened hr (by decide) (by rfl) (pa_cons (pv 0) pa_nil)) (pv 0) (nomark _)))), ?_⟩
    obtain ⟨a, t, rfl, hw, hz, q⟩ := h
    refine er_call (ea_cons (ev_var rfl) ea_nil) (evened_R hw hz) H (Ex.refl H) _ fun p H1 hp e1 h1 => ?_
    refine (ev_var (i := 0) rfl) H1 (Ex.refl H1) _ fun H2 e2 => ?_
    refine rv_rowsEq (h1.ex e2) (hw.ex (e1.trans e2)) H2 (Ex.refl H2) _ fun H3 e3 => ?_
    rw [even_dec]
    exact q H3 ((e1.trans e2).trans e3)
theorem is_even_V {H : Hp} {a : Addr} {t : Ks565.Folk} (hw : RowsAt H a (rowsOf t)) (hz : t.n ≤ 1000) : SpV sp_is_even [.ref a] H (.bl (Ks567.even t)) := fun H1 e Q q _ => ⟨a, t, rfl, hw.ex e, hz, fun H2 e2 => q H2 e2⟩
/-! people_by_set -/
abbrev s_people_by_set : Stmt := top 5
abbrev N_people_by_set : List Str := ["n", "sets", "i", "people"]
abbrev P_people_by_set : List Str := ["n"]
theorem sc_people_by_set : FnScope N_people_by_set P_people_by_set (C8.fnScope s_people_by_set) := C8.fnScope_by (by decide +kernel)
def sp_people_by_set : Sp := fun vs H Q _ => ∃ (n : Nat), vs = [.int n] ∧ n ≤ 5 ∧ RetR H Q (pplOf n)
theorem cal_people_by_set {f : Addr} {fd : FuncData} (F : C8.Def K mg "people_by_set" s_people_by_set f fd) (b : Binds K fd P_people_by_set []) (B : Blt mg) : C8.Cal P w K mg base 1 "people_by_set" sp_people_by_set [] := by
  have sc := sc_people_by_set; have b_range := B.range
  refine C8.cal0 F b .nil sc (fun vs H Q E h => ?_) (fun cdv A outer s H vs Q E hr h => ?_)
  · obtain ⟨_, rfl, _⟩ := h
    rfl
  · refine ⟨_, (pss_cons (ps_set (i := 1) sc.nd rfl (.inl rfl) (pe_lst (pa_cons (pe_lst pa_nil) pa_nil)))
      (pss_cons (ps_for PassesOwn.never rfl (pi_range1 rfl b_range (pa_cons (pv 0) pa_nil)) (pg_name (i := 2) sc.nd rfl (.inr rfl)) (pss_one (ps_set (i := 1) sc.nd rfl (.inl rfl) (pe_op op_cat (pv 1) (pe_lc (own := [("people", 3)]) rfl sc.nd (piL K rfl (pv 1)) (blkOk_by (own := [("people", 3)]) (N := N_people_by_set) (sc := C8.fnScope s_people_by_set) (by decide +kernel)) (fun _ _ _ _ _ => (pg_name (i := 3) sc.nd rfl (Or.inl rfl))) (fun _ _ _ _ _ => pts_nil) (fun _ _ _ _ _ => (pe_op op_cat (pv 3) (pe_lst (pa_cons (pv 2) pa_nil)))))))))
      (pss_one (ps_ret (pv 1))))), ?_⟩
    obtain ⟨n, rfl, hn, q⟩ := h
    refine q_asgR (er_one (row := []) (el_lst ea_nil (by decide))) fun p0 H0 hp0 e0 r0 => ?_
    refine q_forR1 (n := (n : Int)) (ea_cons (ev_var rfl) ea_nil) (by omega)
      (fun i σ' H' => ∃ p v2, σ' = [some (.int (n : Int)), some (.ref p), v2, none] ∧ H p = none ∧ Ex H H' ∧ RowsAt H' p (pplOf i)) (fun H1 e => ⟨p0, none, rfl, hp0, e0.trans e, r0.ex e⟩) ?_ ?_
    · rintro i _ H1 hi ⟨p, v2, rfl, hp, e1, r1⟩
      have hi' : i < n := by omega
      have hl : (pplOf i).length ≤ 32 := by rw [pplOf_len]; exact pow_le32 (by omega)
      refine s_asgR (er_cat (ev_var rfl) r1 (er_rows (fun r => r ++ [(i : Int)]) (ev_var rfl) r1 (by omega) (fun x => rfl) fun r row H2 e2 hr2 hm => ?_) (by rw [List.length_map]; omega)) fun p2 H2 hp2 e2 r2 => ?_
      · have hrl : row.length ≤ 1000 := by
          obtain ⟨s, hs, rfl⟩ := List.mem_map.mp hm
          unfold castL
          rw [List.length_map]
          exact Nat.le_trans (set_len _ _) (by omega)
        have z := el_catV (ta := tVar 3) (tb := tLst (tCons (tVar 2) tNil)) (σ := (wipe [some (V.int (n : Int)), some (.ref p), some (.int (i : Int)), none] [3]).set 3 (some (.ref r))) (ev_var rfl) (e2 _ _ hr2) (el_lst (ea_cons (ev_var (v := .int (i : Int)) rfl) ea_nil) (by show 1 ≤ 100000; decide)) (by rw [List.length_map]; show _ + 1 ≤ _; omega)
        rw [List.map_append]
        exact z
      · refine ⟨p2, _, rfl, fresh_back e1 hp2, e1.trans e2, ?_⟩
        rw [pplOf_succ]
        exact r2
    · rintro _ H1 ⟨p, v2, rfl, hp, e1, r1⟩
      exact s_ret (ev_var rfl) fun H2 e2 => q p H2 hp (e1.trans e2) (by rw [Int.toNat_natCast] at r1; exact r1.ex e2)
theorem people_by_set_R {H : Hp} {n : Nat} (hn : n ≤ 5) : SpR sp_people_by_set [.int (n : Int)] H (pplOf n) := fun H1 e Q q _ => ⟨n, rfl, hn, q⟩
/-! sums_by_set -/
abbrev s_sums_by_set : Stmt := top 6
abbrev N_sums_by_set : List Str := ["row", "sums", "worth", "others"]
abbrev P_sums_by_set : List Str := ["row"]
theorem sc_sums_by_set : FnScope N_sums_by_set P_sums_by_set (C8.fnScope s_sums_by_set) := C8.fnScope_by (by decide +kernel)
def sp_sums_by_set : Sp := fun vs H Q _ => ∃ (a : Addr) (t : Ks565.Folk) (i : Nat), vs = [.ref a] ∧ H a = some (.lst (((List.range t.n).map (Ks565.likes t i)).map V.int)) ∧ t.n ≤ 5 ∧ RetL H Q ((sumsTo t i t.n).map V.int)
theorem cal_sums_by_set {f : Addr} {fd : FuncData} (F : C8.Def K mg "sums_by_set" s_sums_by_set f fd) (b : Binds K fd P_sums_by_set []) : C8.Cal P w K mg base 1 "sums_by_set" sp_sums_by_set [] := by
  have sc := sc_sums_by_set
  refine C8.cal0 F b .nil sc (fun vs H Q E h => ?_) (fun cdv A outer s H vs Q E hr h => ?_)
  · obtain ⟨_, _, _, rfl, _⟩ := h
    rfl
  · refine ⟨_, (pss_cons (ps_set (i := 1) sc.nd rfl (.inl rfl) (pe_lst (pa_cons pe_int pa_nil)))
      (pss_cons (ps_for PassesOwn.never rfl (piL K rfl (pv 0)) (pg_name (i := 2) sc.nd rfl (.inr rfl)) (pss_one (ps_set (i := 1) sc.nd rfl (.inl rfl) (pe_op op_cat (pv 1) (pe_lc (own := [("others", 3)]) rfl sc.nd (piL K rfl (pv 1)) (blkOk_by (own := [("others", 3)]) (N := N_sums_by_set) (sc := C8.fnScope s_sums_by_set) (by decide +kernel)) (fun _ _ _ _ _ => (pg_name (i := 3) sc.nd rfl (Or.inl rfl))) (fun _ _ _ _ _ => pts_nil) (fun _ _ _ _ _ => (pe_op op_add (pv 3) (pv 2))))))))
      (pss_one (ps_ret (pv 1))))), ?_⟩
    obtain ⟨a, t, i, rfl, ha, hn, q⟩ := h
    refine q_asgL (el_lst (ea_cons ev_c ea_nil) (by show 1 ≤ 100000; decide)) fun p0 H0 hp0 e0 r0 => ?_
    have hlen : (((List.range t.n).map (Ks565.likes t i)).map V.int).length = t.n := by rw [List.length_map, List.length_map, List.length_range]
    refine q_forLn (xs := ((List.range t.n).map (Ks565.likes t i)).map V.int) (ev_var rfl) (sq_of (e0 _ _ ha))
      (fun j σ' H' => ∃ p v2, σ' = [some (.ref a), some (.ref p), v2, none] ∧ H p = none ∧ Ex H H' ∧ H' p = some (.lst ((sumsTo t i j).map V.int))) (fun H1 e => ⟨p0, none, rfl, hp0, e0.trans e, e _ _ r0⟩) (fun j σ' H' _ ⟨_, _, _, _, e, _⟩ => sq_of (e _ _ ha)) ?_ ?_
    · rintro j x _ H1 hx ⟨p, v2, rfl, hp, e1, h1⟩
      have hj : j < t.n := by have := (List.getElem?_eq_some_iff.mp hx).1; omega
      obtain ⟨k, hk, rfl⟩ := iv_inv hx
      rw [likes_at hj] at hk
      have hk := Option.some.inj hk
      subst hk
      have hl : (sumsTo t i j).length ≤ 32 := by rw [sumsTo_len]; exact pow_le32 (by omega)
      refine s_asgL (xs := (sumsTo t i (j + 1)).map V.int) ?_ fun p2 H2 hp2 e2 h2 => ⟨p2, _, rfl, fresh_back e1 hp2, e1.trans e2, h2⟩
      have z := el_catV (ta := tVar 1) (tb := tLc (iList K (tVar 1)) (gName 3) tYes (tOp (rI0 fun i j => V.int (i + j)) (tVar 3) (tVar 2)) [3]) (σ := [some (.ref a), some (.ref p), some (.int (Ks565.likes t i j)), none]) (ev_var rfl) h1
        (el_ints (l := sumsTo t i j) (fun x => V.int (x + Ks565.likes t i j)) (ev_var rfl) h1 (by omega) (fun x => rfl) fun k H2 e2 hkm => ev_op (ev_var rfl) (ev_var rfl) rv_I0) (by rw [List.length_map, List.length_map]; omega)
      rw [sumsTo_succ, List.map_append, List.map_map]
      exact z
    · rintro _ H1 ⟨p, v2, rfl, hp, e1, h1⟩
      exact s_ret (ev_var rfl) fun H2 e2 => q p H2 hp (e1.trans e2) (by rw [hlen] at h1; exact e2 _ _ h1)
theorem sums_by_set_L {H : Hp} {a : Addr} {t : Ks565.Folk} {i : Nat} (ha : H a = some (.lst (((List.range t.n).map (Ks565.likes t i)).map V.int))) (hn : t.n ≤ 5) : SpL sp_sums_by_set [.ref a] H ((sumsTo t i t.n).map V.int) := fun H1 e Q q _ => ⟨a, t, i, rfl, e _ _ ha, hn, fun p H2 hp e2 h2 => q p H2 hp e2 h2⟩
/-! places_in -/
abbrev s_places_in : Stmt := top 7
abbrev N_places_in : List Str := ["groups", "places", "i"]
abbrev P_places_in : List Str := ["groups"]
theorem sc_places_in : FnScope N_places_in P_places_in (C8.fnScope s_places_in) := C8.fnScope_by (by decide +kernel)
def sp_places_in : Sp := fun vs H Q _ => ∃ (a : Addr) (g : List Nat), vs = [.ref a] ∧ SqN H a (nv g) ∧ 0 < g.length ∧ g.length ≤ 5 ∧ (∀ x ∈ g, x < 5) ∧ RetL H Q (nv (placesOf g))
/-- [0] * n -/
theorem el_rep0 {σ : L2.St} {H : Hp} {tb : TE} {n : Nat} (hb : Ev tb σ H (.int (n : Int))) (hn : n ≤ 1000) : EvL (tOp rRep (tLst (tCons (tC (.int 0)) tNil)) tb) σ H (List.replicate n (.int 0)) := fun H1 e Q q =>
  el_lst (ea_cons ev_c ea_nil) (by show 1 ≤ 100000; decide) H1 e _ fun pz H2 hpz e2 h2 => hb H2 (e.trans e2) _ fun H3 e3 => ⟨pz, (n : Int), _, rfl, rfl, e3 _ _ h2, by omega, by omega, by
    show 1 * ((n : Int)).toNat ≤ sizeLine
    exact Nat.le_trans (by omega) (Nat.le_of_lt (small1000 (Nat.le_refl 1000))), fun pr hpr => by
    refine q pr _ (fresh_back (e2.trans e3) hpr) ((e2.trans e3).trans (Ex.new hpr)) ?_
    rw [upd_same]
    congr 2
    show (List.replicate n [V.int 0]).flatten = _
    simp⟩
theorem cal_places_in {f : Addr} {fd : FuncData} (F : C8.Def K mg "places_in" s_places_in f fd) (b : Binds K fd P_places_in []) (B : Blt mg) (c_how_many : C8.Cal P w K mg base 1 "how_many" sp_how_many []) : C8.Cal P w K mg base 2 "places_in" sp_places_in [] := by
  have sc := sc_places_in; have b_range := B.range; have b_len := B.len
  refine C8.cal0 F b .nil sc (fun vs H Q E h => ?_) (fun cdv A outer s H vs Q E hr h => ?_)
  · obtain ⟨_, _, rfl, _⟩ := h
    rfl
  · refine ⟨_, (pss_cons (ps_set (i := 1) sc.nd rfl (.inl rfl) (pe_op op_rep (pe_lst (pa_cons pe_int pa_nil)) (pe_op op_add (C8.pe_c c_how_many hr (by decide) (by rfl) (pa_cons (pv 0) pa_nil)) pe_int)))
      (pss_cons (ps_for PassesOwn.never rfl (pi_range1 rfl b_range (pa_cons (pe_callB (cLen K rfl) (by rfl) b_len (by decide +kernel) (pa_cons (pv 0) pa_nil)) pa_nil)) (pg_name (i := 2) sc.nd rfl (.inl rfl)) (pss_one (ps_asg (pe_op op_or (pe_ix (ixl K rfl) (pv 1) (pe_ix (ixs K rfl) (pv 0) (pv 2) (fun _ _ => rfl)) (fun _ _ => rfl)) (pe_op op_shl pe_int (pv 2))) (pg_sub (pv 1) (pe_ix (ixs K rfl) (pv 0) (pv 2) (fun _ _ => rfl)) set_list))))
      (pss_one (ps_ret (pv 1))))), ?_⟩
    obtain ⟨a, g, rfl, ha, hp, h5, hf, q⟩ := h
    have hG : Ks565.groups g ≤ 5 := groups_le (by decide) hf
    refine q_asgL (el_rep0 (n := Ks565.groups g + 1) (ev_op (ev_call (ea_cons (ev_var rfl) ea_nil) (how_many_V ha hp)) ev_c rv_I0) (by omega)) fun D H0 hD e0 d0 => ?_
    refine q_forR1 (n := ((nv g).length : Int)) (ea_cons (ev_lenG (ev_var rfl) (ha.ex e0).sq) ea_nil) (by rw [nv_len]; omega)
      (fun i σ' H' => ∃ v2, σ' = [some (.ref a), some (.ref D), v2] ∧ Ex H H' ∧ H' D = some (.lst (nv (placesTo g i)))) (fun H1 e => ⟨none, rfl, e0.trans e, ?_⟩) ?_ ?_
    · rw [e _ _ d0, placesTo_zero]
      unfold nv
      rw [List.map_replicate]
      rfl
    · rintro i _ H1 hi ⟨v2, rfl, e1, d1⟩
      have hi' : i < g.length := by rw [nv_len] at hi; omega
      have hk := getD_lt_groups hi'
      have hgi : Ev (tOp (rIxG K) (tVar 0) (tVar 2)) [some (.ref a), some (.ref D), some (.int (i : Int))] H1 (.int ((g.getD i 0 : Nat) : Int)) := ev_op (ev_var rfl) (ev_var rfl) (rv_ixG (ha.ex e1).sq (atI_nat (nv_get hi')))
      refine s_setL (j := g.getD i 0) (v := .int ((maskTo g (g.getD i 0) i ||| 2 ^ i : Nat) : Int)) d1 (ev_is (ev_op (ev_op (ev_var rfl) hgi (rv_ixL (sq_of d1) (atI_nat (nv_at (placesTo_at (Nat.le_of_lt hk)))))) (ev_op ev_c (ev_var rfl) (rv_I ⟨by omega, by omega, by decide⟩)) rv_I0) ?_) (ev_var rfl) hgi (by rw [nv_len, placesTo_len]; omega) fun H2 e2 => ⟨_, rfl, (e1.trans e2).mut hD, ?_⟩
      · have e2 : (1 : Int) * 2 ^ ((i : Int)).toNat = ((2 ^ i : Nat) : Int) := by
          rw [Int.toNat_natCast]
          norm_cast
          omega
        rw [e2, bitOr_nn (Int.natCast_nonneg _) (Int.natCast_nonneg _)]
        rfl
      · rw [upd_same, placesTo_succ]
        unfold nv
        rw [List.map_set]
    · rintro _ H1 ⟨v2, rfl, e1, d1⟩
      refine s_ret (ev_var rfl) fun H2 e2 => q D H2 hD (e1.trans e2) ?_
      rw [nv_len, Int.toNat_natCast] at d1
      exact e2 _ _ d1
theorem places_in_L {H : Hp} {a : Addr} {g : List Nat} (ha : SqN H a (nv g)) (hp : 0 < g.length) (h5 : g.length ≤ 5) (hf : ∀ x ∈ g, x < 5) : SpL sp_places_in [.ref a] H (nv (placesOf g)) := fun H1 e Q q _ => ⟨a, g, rfl, ha.ex e, hp, h5, hf, fun p H2 hp e2 h2 => q p H2 hp e2 h2⟩
end Rg

set_option Elab.async false
set_option maxRecDepth 100000
set_option maxHeartbeats 2000000
set_option linter.unusedVariables false
/-! the classes Liking and Standing: how they lie in the heap, how they are made and read -/
namespace Rg
open PySem PySem.Spec PyProof.Rows L2 Evl LamX
variable {P : Program} {w : World} {K : PySem.W.Frag} {mg : Str → Option Value} {base : Heap}
/-- the addresses of the program's classes -/
structure Zc where
  kept : Addr
  lik : Addr
  std : Addr
/-- the classes, as the top has written them -/
structure ZTxt (K : PySem.W.Frag) (Z : Zc) : Prop where
  kc : Cls K Z.kept
  kW : NoAttr K Z.kept "worths"
  kG : NoAttr K Z.kept "groups"
  kM : NoAttr K Z.kept "made"
  kP : NoAttr K Z.kept "past"
  lc : Cls K Z.lik
  lW : NoAttr K Z.lik "worths"
  lP : NoAttr K Z.lik "people"
  lS : NoAttr K Z.lik "sums"
  sc : Cls K Z.std
  sL : NoAttr K Z.std "liking"
  sG : NoAttr K Z.std "groups"
  sP : NoAttr K Z.std "places"
  sH : NoAttr K Z.std "has"
/-! the fields -/
def kF (aw ag : Addr) (m : Int) (ap : Addr) : List (Str × V) := [("worths", .ref aw), ("groups", .ref ag), ("made", .int m), ("past", .ref ap)]
theorem look_hd {k : Str} {v : V} {r : List (Str × V)} : List.lookup k ((k, v) :: r) = some v := by
  simp only [List.lookup, beq_self_eq_true]
theorem look_tl {k g : Str} {v : V} {r : List (Str × V)} (h : (k == g) = false) : List.lookup k ((g, v) :: r) = List.lookup k r := by
  simp only [List.lookup, h]
def lF (aw ap au : Addr) : List (Str × V) := [("worths", .ref aw), ("people", .ref ap), ("sums", .ref au)]
def sF (al ag ar ah : Addr) : List (Str × V) := [("liking", .ref al), ("groups", .ref ag), ("places", .ref ar), ("has", .ref ah)]
def sF1 (al : Addr) : List (Str × V) := [("liking", .ref al)]
def sF2 (al ag : Addr) : List (Str × V) := [("liking", .ref al), ("groups", .ref ag)]
def sF3 (al ag ar : Addr) : List (Str × V) := [("liking", .ref al), ("groups", .ref ag), ("places", .ref ar)]
theorem pf_s1 (al : Addr) : putF "liking" (.ref al) [] = sF1 al := rfl
theorem pf_s2 (al ag : Addr) : putF "groups" (.ref ag) (sF1 al) = sF2 al ag := rfl
theorem pf_s3 (al ag ar : Addr) : putF "places" (.ref ar) (sF2 al ag) = sF3 al ag ar := rfl
theorem pf_s4 (al ag ar ah : Addr) : putF "has" (.ref ah) (sF3 al ag ar) = sF al ag ar ah := rfl
section
variable (aw ap au al ag ar ah : Addr)
theorem lF_worths : (lF aw ap au).lookup ("worths" : Str) = some (.ref aw) := look_hd
theorem lF_people : (lF aw ap au).lookup ("people" : Str) = some (.ref ap) := (look_tl (by decide +kernel)).trans look_hd
theorem lF_sums : (lF aw ap au).lookup ("sums" : Str) = some (.ref au) := (look_tl (by decide +kernel)).trans ((look_tl (by decide +kernel)).trans look_hd)
theorem sF_liking : (sF al ag ar ah).lookup ("liking" : Str) = some (.ref al) := look_hd
theorem sF_groups : (sF al ag ar ah).lookup ("groups" : Str) = some (.ref ag) := (look_tl (by decide +kernel)).trans look_hd
theorem sF_places : (sF al ag ar ah).lookup ("places" : Str) = some (.ref ar) := (look_tl (by decide +kernel)).trans ((look_tl (by decide +kernel)).trans look_hd)
theorem sF_has : (sF al ag ar ah).lookup ("has" : Str) = some (.ref ah) := (look_tl (by decide +kernel)).trans ((look_tl (by decide +kernel)).trans ((look_tl (by decide +kernel)).trans look_hd))
end
/-- the fields of Kept -/
def isK (fs : List (Str × V)) : Prop := ∃ aw ag m ap, fs = kF aw ag m ap
theorem lF_notK (aw ap au : Addr) : ¬ isK (lF aw ap au) := fun ⟨_, _, _, _, e⟩ => by
  unfold lF kF at e
  have e2 := (List.cons.inj (List.cons.inj e).2).1
  have e3 : ("people" : Str) = "groups" := congrArg Prod.fst e2
  exact absurd e3 (by decide +kernel)
theorem sF_notK (al ag ar ah : Addr) : ¬ isK (sF al ag ar ah) := fun ⟨_, _, _, _, e⟩ => by
  unfold sF kF at e
  have e3 : ("liking" : Str) = "worths" := congrArg Prod.fst (List.cons.inj e).1
  exact absurd e3 (by decide +kernel)
/-! what stands -/
theorem ExtN.l {H H' : Hp} (e : ExtN H H') {a : Addr} {xs : List V} (h : H a = some (.lst xs)) : H' a = some (.lst xs) := e _ _ h fun ps z => by cases z
theorem ExtN.t {H H' : Hp} (e : ExtN H H') {a : Addr} {xs : List V} (h : H a = some (.tup xs)) : H' a = some (.tup xs) := e _ _ h fun ps z => by cases z
structure Std (H H' : Hp) : Prop where
  l : ∀ b xs, H b = some (.lst xs) → H' b = some (.lst xs)
  t : ∀ b xs, H b = some (.tup xs) → H' b = some (.tup xs)
theorem Std.ex {H H' : Hp} (e : Ex H H') : Std H H' := ⟨fun b _ h => e b _ h, fun b _ h => e b _ h⟩
theorem Std.gr {H H' : Hp} (e : LamX.ExtN H H') : Std H H' := ⟨fun b _ h => ExtN.l e h, fun b _ h => ExtN.t e h⟩
theorem Std.trans {H H1 H2 : Hp} (a : Std H H1) (b : Std H1 H2) : Std H H2 := ⟨fun c _ h => b.l c _ (a.l c _ h), fun c _ h => b.t c _ (a.t c _ h)⟩
def But (a : Addr) (H H' : Hp) : Prop := ∀ b o, H b = some o → b ≠ a → H' b = some o
theorem But.ex {a : Addr} {H H' : Hp} (e : Ex H H') : But a H H' := fun b o h _ => e b o h
theorem But.trans {a : Addr} {H H1 H2 : Hp} (x : But a H H1) (y : But a H1 H2) : But a H H2 := fun b o h n => y b o (x b o h n) n
theorem But.put {a : Addr} {H : Hp} {o : HO} : But a H (upd H a o) := fun b u h n => by
  rw [upd_ne n]
  exact h
theorem But.std {a : Addr} {H H' : Hp} {C dx : Addr} {fs : List (Str × V)} (x : But a H H') (ha : H a = some (.ins C dx fs)) : Std H H' := by
  refine ⟨fun b xs h => x b _ h fun z => ?_, fun b xs h => x b _ h fun z => ?_⟩
  · rw [z, ha] at h
    cases h
  · rw [z, ha] at h
    cases h
/-- lists, tuples and objects stand, but Kept's -/
structure Stn (H H' : Hp) : Prop where
  s : Std H H'
  i : ∀ b C dx fs, H b = some (.ins C dx fs) → ¬ isK fs → H' b = some (.ins C dx fs)
theorem Stn.ex {H H' : Hp} (e : Ex H H') : Stn H H' := ⟨.ex e, fun b _ _ _ h _ => e b _ h⟩
theorem Stn.gr {H H' : Hp} (e : LamX.ExtN H H') : Stn H H' := ⟨.gr e, fun b _ _ _ h _ => e b _ h fun ps z => by cases z⟩
theorem Stn.trans {H H1 H2 : Hp} (a : Stn H H1) (b : Stn H1 H2) : Stn H H2 := ⟨a.s.trans b.s, fun c _ _ _ h n => b.i c _ _ _ (a.i c _ _ _ h n) n⟩
theorem But.stn {a : Addr} {H H' : Hp} {C dx : Addr} {fs : List (Str × V)} (x : But a H H') (ha : H a = some (.ins C dx fs)) (hk : isK fs) : Stn H H' := ⟨x.std ha, fun b _ _ fs' h n => x b _ h fun z => by
  rw [z, ha] at h
  cases h
  exact n hk⟩
/-! Liking, Standing -/
def LikAt (Z : Zc) (H : Hp) (a : Addr) (t : Ks565.Folk) : Prop := 0 < t.n ∧ t.n ≤ 5 ∧ ∃ dx aw ap au, H a = some (.ins Z.lik dx (lF aw ap au)) ∧ RowsAt H aw (rowsOf t) ∧ RowsAt H ap (pplOf t.n) ∧ RowsAt H au (sumsOf t)
theorem LikAt.stn {Z : Zc} {H H' : Hp} {a : Addr} {t : Ks565.Folk} (x : LikAt Z H a t) (e : Stn H H') : LikAt Z H' a t := by
  obtain ⟨h0, h5, dx, aw, ap, au, h1, h2, h3, h4⟩ := x
  exact ⟨h0, h5, dx, aw, ap, au, e.i _ _ _ _ h1 (lF_notK _ _ _), h2.keep e.s.l, h3.keep e.s.l, h4.keep e.s.l⟩
theorem LikAt.ex {Z : Zc} {H H' : Hp} {a : Addr} {t : Ks565.Folk} (x : LikAt Z H a t) (e : Ex H H') : LikAt Z H' a t := x.stn (.ex e)
/-- groups told in their own numbers -/
def Few (t : Ks565.Folk) (g : List Nat) : Prop := ∀ x ∈ g, x < t.n
/-- the groups lie there as a list, or as a tuple -/
def seqO (tp : Bool) (xs : List V) : HO := if tp then .tup xs else .lst xs
theorem seqO_sqn {tp : Bool} {H : Hp} {a : Addr} {xs : List V} (h : H a = some (seqO tp xs)) : SqN H a xs := by
  cases tp
  · exact .inl h
  · exact .inr h
theorem seqO_stn {tp : Bool} {H H' : Hp} {a : Addr} {xs : List V} (h : H a = some (seqO tp xs)) (e : Std H H') : H' a = some (seqO tp xs) := by
  cases tp
  · exact e.l _ _ h
  · exact e.t _ _ h
def StdAt (Z : Zc) (tp : Bool) (H : Hp) (a : Addr) (t : Ks565.Folk) (g : List Nat) : Prop := g.length = t.n ∧ Few t g ∧ ∃ dx al ag ar ah, H a = some (.ins Z.std dx (sF al ag ar ah)) ∧ LikAt Z H al t ∧ H ag = some (seqO tp (nv g)) ∧ H ar = some (.lst (nv (placesOf g))) ∧ H ah = some (.lst ((Ks568.worths t g).map V.int))
theorem StdAt.stn {Z : Zc} {tp : Bool} {H H' : Hp} {a : Addr} {t : Ks565.Folk} {g : List Nat} (x : StdAt Z tp H a t g) (e : Stn H H') : StdAt Z tp H' a t g := by
  obtain ⟨h0, h5, dx, al, ag, ar, ah, h1, h2, h3, h4, h6⟩ := x
  exact ⟨h0, h5, dx, al, ag, ar, ah, e.i _ _ _ _ h1 (sF_notK _ _ _ _), h2.stn e, seqO_stn h3 e.s, e.s.l _ _ h4, e.s.l _ _ h6⟩
theorem StdAt.ex {Z : Zc} {tp : Bool} {H H' : Hp} {a : Addr} {t : Ks565.Folk} {g : List Nat} (x : StdAt Z tp H a t g) (e : Ex H H') : StdAt Z tp H' a t g := x.stn (.ex e)
theorem StdAt.gr {Z : Zc} {tp : Bool} {H H' : Hp} {a : Addr} {t : Ks565.Folk} {g : List Nat} (x : StdAt Z tp H a t g) (e : LamX.ExtN H H') : StdAt Z tp H' a t g := x.stn (.gr e)
theorem StdAt.len {Z : Zc} {tp : Bool} {H : Hp} {a : Addr} {t : Ks565.Folk} {g : List Nat} (x : StdAt Z tp H a t g) : g.length = t.n := x.1
theorem StdAt.few {Z : Zc} {tp : Bool} {H : Hp} {a : Addr} {t : Ks565.Folk} {g : List Nat} (x : StdAt Z tp H a t g) : Few t g := x.2.1
theorem StdAt.pos {Z : Zc} {tp : Bool} {H : Hp} {a : Addr} {t : Ks565.Folk} {g : List Nat} (x : StdAt Z tp H a t g) : 0 < t.n := by
  obtain ⟨_, _, _, _, _, _, _, _, h, _⟩ := x
  exact h.1
theorem StdAt.le5 {Z : Zc} {tp : Bool} {H : Hp} {a : Addr} {t : Ks565.Folk} {g : List Nat} (x : StdAt Z tp H a t g) : t.n ≤ 5 := by
  obtain ⟨_, _, _, _, _, _, _, _, h, _⟩ := x
  exact h.2.1
theorem StdAt.grp {Z : Zc} {tp : Bool} {H : Hp} {a : Addr} {t : Ks565.Folk} {g : List Nat} (x : StdAt Z tp H a t g) : Ks565.groups g ≤ t.n := groups_le x.pos x.few
/-! read -/
section
variable {Z : Zc} {tp : Bool} {H : Hp} {σ : L2.St} {ta tb tc : TE} {a al : Addr} {t : Ks565.Folk} {g : List Nat} {i j k s : Nat} (T : ZTxt K Z)
include T
theorem ev_liking (x : StdAt Z tp H a t g) : ∃ al, LikAt Z H al t ∧ ∀ {σ : L2.St} {ta : TE} {H' : Hp}, Ex H H' → Ev ta σ H' (.ref a) → Ev (tFld K ta "liking") σ H' (.ref al) := by
  obtain ⟨h0, h5, dx, al, ag, ar, ah, h1, h2, h3, h4, h6⟩ := x
  exact ⟨al, h2, fun e h => ev_fld T.sc T.sL h (e _ _ h1) (sF_liking _ _ _ _)⟩
theorem ev_groups (x : StdAt Z tp H a t g) : ∃ ag, H ag = some (seqO tp (nv g)) ∧ ∀ {σ : L2.St} {ta : TE} {H' : Hp}, Ex H H' → Ev ta σ H' (.ref a) → Ev (tFld K ta "groups") σ H' (.ref ag) := by
  obtain ⟨h0, h5, dx, al, ag, ar, ah, h1, h2, h3, h4, h6⟩ := x
  exact ⟨ag, h3, fun e h => ev_fld T.sc T.sG h (e _ _ h1) (sF_groups _ _ _ _)⟩
theorem ev_places (x : StdAt Z tp H a t g) : ∃ ar, H ar = some (.lst (nv (placesOf g))) ∧ ∀ {σ : L2.St} {ta : TE} {H' : Hp}, Ex H H' → Ev ta σ H' (.ref a) → Ev (tFld K ta "places") σ H' (.ref ar) := by
  obtain ⟨h0, h5, dx, al, ag, ar, ah, h1, h2, h3, h4, h6⟩ := x
  exact ⟨ar, h4, fun e h => ev_fld T.sc T.sP h (e _ _ h1) (sF_places _ _ _ _)⟩
theorem ev_hasL (x : StdAt Z tp H a t g) : ∃ ah, H ah = some (.lst ((Ks568.worths t g).map V.int)) ∧ ∀ {σ : L2.St} {ta : TE} {H' : Hp}, Ex H H' → Ev ta σ H' (.ref a) → Ev (tFld K ta "has") σ H' (.ref ah) := by
  obtain ⟨h0, h5, dx, al, ag, ar, ah, h1, h2, h3, h4, h6⟩ := x
  exact ⟨ah, h6, fun e h => ev_fld T.sc T.sH h (e _ _ h1) (sF_has _ _ _ _)⟩
/-- standing.places[k] -/
theorem ev_place (x : StdAt Z tp H a t g) (hk : k ≤ Ks565.groups g) (h : Ev ta σ H (.ref a)) (hb : Ev tb σ H (.int (k : Int))) : Ev (tOp (rIxL K) (tFld K ta "places") tb) σ H (.int ((mask g k : Nat) : Int)) := by
  obtain ⟨ar, h1, h2⟩ := ev_places T x
  exact ev_op (h2 (Ex.refl H) h) hb (rv_ixL (sq_of h1) (atI_nat (nv_at (placesOf_at hk))))
/-- standing.has[i] -/
theorem ev_has (x : StdAt Z tp H a t g) (hi : i < t.n) (h : Ev ta σ H (.ref a)) (hb : Ev tb σ H (.int (i : Int))) : Ev (tOp (rIxL K) (tFld K ta "has") tb) σ H (.int (Ks565.worth t g i)) := by
  obtain ⟨ah, h1, h2⟩ := ev_hasL T x
  exact ev_op (h2 (Ex.refl H) h) hb (rv_ixL (sq_of h1) (atI_nat (iv_at (worths_at hi))))
/-- standing.groups[i] -/
theorem ev_grp (x : StdAt Z tp H a t g) (hi : i < t.n) (h : Ev ta σ H (.ref a)) (hb : Ev tb σ H (.int (i : Int))) : Ev (tOp (rIxG K) (tFld K ta "groups") tb) σ H (.int ((g.getD i 0 : Nat) : Int)) := by
  obtain ⟨ag, h1, h2⟩ := ev_groups T x
  exact ev_op (h2 (Ex.refl H) h) hb (rv_ixG (seqO_sqn h1).sq (atI_nat (nv_get (by rw [x.len]; exact hi))))
/-- len(standing.groups) -/
theorem ev_nGrp (x : StdAt Z tp H a t g) (h : Ev ta σ H (.ref a)) : Ev (tCB (rLenS K) (tCons (tFld K ta "groups") tNil)) σ H (.int ((t.n : Nat) : Int)) := by
  obtain ⟨ag, h1, h2⟩ := ev_groups T x
  have z := ev_lenG (K := K) (h2 (Ex.refl H) h) (seqO_sqn h1).sq
  rw [nv_len, x.len] at z
  exact z
/-- len(standing.places) -/
theorem ev_nPla (x : StdAt Z tp H a t g) (h : Ev ta σ H (.ref a)) : Ev (tCB (rLenS K) (tCons (tFld K ta "places") tNil)) σ H (.int ((Ks565.groups g + 1 : Nat) : Int)) := by
  obtain ⟨ar, h1, h2⟩ := ev_places T x
  have z := ev_len (K := K) (h2 (Ex.refl H) h) (sq_of h1)
  rw [nv_len, placesOf_len] at z
  exact z
/-- liking.sums[i] -/
theorem ev_sumsRow (x : LikAt Z H al t) (hi : i < t.n) (h : Ev ta σ H (.ref al)) (hb : Ev tb σ H (.int (i : Int))) : ∃ r, H r = some (.lst ((sumsTo t i t.n).map V.int)) ∧ Ev (tOp (rIxL K) (tFld K ta "sums") tb) σ H (.ref r) := by
  obtain ⟨h0, h5, dx, aw, ap, au, h1, h2, h3, h4⟩ := x
  obtain ⟨xs, r, e1, e2, _, e4⟩ := h4.row (sumsOf_at hi)
  exact ⟨r, e4, ev_op (ev_fld T.lc T.lS h h1 (lF_sums _ _ _)) hb (rv_ixL (sq_of e1) (atI_nat e2))⟩
/-- liking.sums[i][s] -/
theorem ev_sum (x : LikAt Z H al t) (hi : i < t.n) (hs : s < 2 ^ t.n) (h : Ev ta σ H (.ref al)) (hb : Ev tb σ H (.int (i : Int))) (hc : Ev tc σ H (.int (s : Int))) : Ev (tOp (rIxL K) (tOp (rIxL K) (tFld K ta "sums") tb) tc) σ H (.int (Ks565.with_ t i (Ks566.set t.n s))) := by
  obtain ⟨r, h1, h2⟩ := ev_sumsRow T x hi h hb
  exact ev_op h2 hc (rv_ixL (sq_of h1) (atI_nat (iv_at (sumsTo_at hs))))
/-- liking.people[s] -/
theorem ev_ppl (x : LikAt Z H al t) (hs : s < 2 ^ t.n) (h : Ev ta σ H (.ref al)) (hb : Ev tb σ H (.int (s : Int))) : ∃ r, H r = some (.lst (nv (Ks566.set t.n s))) ∧ Ev (tOp (rIxL K) (tFld K ta "people") tb) σ H (.ref r) := by
  obtain ⟨h0, h5, dx, aw, ap, au, h1, h2, h3, h4⟩ := x
  obtain ⟨xs, r, e1, e2, _, e4⟩ := h3.row (pplOf_at hs)
  refine ⟨r, ?_, ev_op (ev_fld T.lc T.lP h h1 (lF_people _ _ _)) hb (rv_ixL (sq_of e1) (atI_nat e2))⟩
  rw [e4, nv_ints]
  rfl
/-- len(liking.people) -/
theorem ev_nPpl (x : LikAt Z H al t) (h : Ev ta σ H (.ref al)) : Ev (tCB (rLenS K) (tCons (tFld K ta "people") tNil)) σ H (.int ((2 ^ t.n : Nat) : Int)) := by
  obtain ⟨h0, h5, dx, aw, ap, au, h1, h2, h3, h4⟩ := x
  obtain ⟨xs, hx, hl⟩ := h3.lst
  have z := ev_len (K := K) (ev_fld T.lc T.lP h h1 (lF_people _ _ _)) (sq_of hx)
  rw [hl, pplOf_len] at z
  exact z
/-- liking.worths[i][j] -/
theorem ev_lw (x : LikAt Z H al t) (hi : i < t.n) (hj : j < t.n) (h : Ev ta σ H (.ref al)) (hb : Ev tb σ H (.int (i : Int))) (hc : Ev tc σ H (.int (j : Int))) : Ev (tOp (rIxL K) (tOp (rIxL K) (tFld K ta "worths") tb) tc) σ H (.int (Ks565.likes t i j)) := by
  obtain ⟨h0, h5, dx, aw, ap, au, h1, h2, h3, h4⟩ := x
  exact ev_worth h2 hi hj (ev_fld T.lc T.lW h h1 (lF_worths _ _ _)) hb hc
end
/-! stored -/
section
variable {H : Hp} {σ : L2.St} {ta tv : TE} {a C dx : Addr} {fs : List (Str × V)} {f : Str} {D : Ends} {tz : TS} {y : V}
theorem q_put (cl : Cls K C) (na : NoAttr K C f) (hv : Ev tv σ H y) (h : Ev ta σ H (.ref a)) (ha : H a = some (.ins C dx fs)) (hl : fs.length < 1000) (k : ∀ H1, Ex H H1 → tz D σ (upd H1 a (.ins C dx (putF f y fs)))) : tSeq (sFld K ta tv f) tz D σ H :=
  hv H (Ex.refl H) _ fun H1 e1 => h H1 e1 _ fun H2 e2 => ⟨a, C, dx, fs, rfl, (e1.trans e2) _ _ ha, cl, na, hl, k H2 (e1.trans e2)⟩
theorem q_putL {xs : List V} (cl : Cls K C) (na : NoAttr K C f) (hv : EvL tv σ H xs) (h : Ev ta σ H (.ref a)) (ha : H a = some (.ins C dx fs)) (hl : fs.length < 1000) (k : ∀ p H1, H p = none → Ex H H1 → H1 p = some (.lst xs) → tz D σ (upd H1 a (.ins C dx (putF f (.ref p) fs)))) : tSeq (sFld K ta tv f) tz D σ H :=
  hv H (Ex.refl H) _ fun p H1 hp e1 h1 => h H1 e1 _ fun H2 e2 => ⟨a, C, dx, fs, rfl, (e1.trans e2) _ _ ha, cl, na, hl, k p H2 hp (e1.trans e2) (e2 _ _ h1)⟩
theorem s_putL {xs : List V} (cl : Cls K C) (na : NoAttr K C f) (hv : EvL tv σ H xs) (h : Ev ta σ H (.ref a)) (ha : H a = some (.ins C dx fs)) (hl : fs.length < 1000) (k : ∀ p H1, H p = none → Ex H H1 → H1 p = some (.lst xs) → D.nx σ (upd H1 a (.ins C dx (putF f (.ref p) fs)))) : sFld K ta tv f D σ H :=
  hv H (Ex.refl H) _ fun p H1 hp e1 h1 => h H1 e1 _ fun H2 e2 => ⟨a, C, dx, fs, rfl, (e1.trans e2) _ _ ha, cl, na, hl, k p H2 hp (e1.trans e2) (e2 _ _ h1)⟩
theorem q_putR {rows : List (List Int)} (cl : Cls K C) (na : NoAttr K C f) (hv : EvRows tv σ H rows) (h : Ev ta σ H (.ref a)) (ha : H a = some (.ins C dx fs)) (hl : fs.length < 1000) (k : ∀ p H1, H p = none → Ex H H1 → RowsAt H1 p rows → tz D σ (upd H1 a (.ins C dx (putF f (.ref p) fs)))) : tSeq (sFld K ta tv f) tz D σ H :=
  hv H (Ex.refl H) _ fun p H1 hp e1 h1 => h H1 e1 _ fun H2 e2 => ⟨a, C, dx, fs, rfl, (e1.trans e2) _ _ ha, cl, na, hl, k p H2 hp (e1.trans e2) (h1.ex e2)⟩
theorem s_putR {rows : List (List Int)} (cl : Cls K C) (na : NoAttr K C f) (hv : EvRows tv σ H rows) (h : Ev ta σ H (.ref a)) (ha : H a = some (.ins C dx fs)) (hl : fs.length < 1000) (k : ∀ p H1, H p = none → Ex H H1 → RowsAt H1 p rows → D.nx σ (upd H1 a (.ins C dx (putF f (.ref p) fs)))) : sFld K ta tv f D σ H :=
  hv H (Ex.refl H) _ fun p H1 hp e1 h1 => h H1 e1 _ fun H2 e2 => ⟨a, C, dx, fs, rfl, (e1.trans e2) _ _ ha, cl, na, hl, k p H2 hp (e1.trans e2) (h1.ex e2)⟩
end
/-! Liking.__init__ -/
abbrev s_Liking___init__ : Stmt := inCls (top 8) 0
abbrev N_Liking___init__ : List Str := ["self", "worths", "row"]
abbrev P_Liking___init__ : List Str := ["self", "worths"]
theorem sc_Liking___init__ : FnScope N_Liking___init__ P_Liking___init__ (C8.fnScope s_Liking___init__) := C8.fnScope_by (by decide +kernel)
def sp_Liking_init (Z : Zc) : Sp := fun vs H Q _ => ∃ (p dx aw : Addr) (t : Ks565.Folk), vs = [.ref p, .ref aw] ∧ H p = some (.ins Z.lik dx []) ∧ RowsAt H aw (rowsOf t) ∧ 0 < t.n ∧ t.n ≤ 5 ∧ ∀ H', But p H H' → LikAt Z H' p t → Q .non H'
theorem rows_sums (t : Ks565.Folk) : (List.range t.n).map (fun i => sumsTo t i t.n) = sumsOf t := rfl
/-- a comprehension over rows, each item told by its number -/
theorem er_rowsI {σ : L2.St} {H : Hp} {tl te : TE} {j : Nat} {vs : List Nat} {a : Addr} {rows : List (List Int)} (f : Nat → List Int) (h : Ev tl σ H (.ref a)) (hr : RowsAt H a rows) (hz : rows.length ≤ 1000) (hw : ∀ x, wipe ((wipe σ vs).set j (some x)) vs = wipe σ vs)
    (he : ∀ (i : Nat) (r : Addr) (row : List Int) H1, Ex H H1 → H r = some (.lst (row.map V.int)) → rows[i]? = some row → EvL te ((wipe σ vs).set j (some (.ref r))) H1 ((f i).map V.int)) : EvRows (tLc (iList K tl) (gName j) tYes te vs) σ H ((List.range rows.length).map f) := fun H0 e Q q => h H0 e _ fun H1 e1 => by
  obtain ⟨rs, g1, g2, g3⟩ := hr
  refine ⟨a, rfl, ⟨_, ex_l (e.trans e1) (sq_of g1)⟩, fun Dl hD => ?_⟩
  refine lc_list (xs := rs.map V.ref) (fun i H' => Ex H1 H' ∧ RowsAt H' Dl ((List.range i).map f)) ⟨Ex.new hD, RowsAt.nil upd_same⟩ (fun i H' _ p => ex_l ((e.trans e1).trans p.1) (sq_of g1)) (fun i x H' hi p => ⟨hw x, ?_⟩) fun H' p => ?_
  · have hi2 : ∃ r, rs[i]? = some r ∧ x = .ref r := by
      rw [List.getElem?_map] at hi
      cases hr : rs[i]? with
      | none => rw [hr] at hi; cases hi
      | some r => rw [hr] at hi; exact ⟨r, rfl, (Option.some.inj hi).symm⟩
    obtain ⟨r, hr, rfl⟩ := hi2
    obtain ⟨row, k1, k2⟩ := g3 i r hr
    obtain ⟨xs, hxs, hxl⟩ := p.2.lst
    have hlt := (List.getElem?_eq_some_iff.mp k1).1
    show te _ H' _
    refine he i r row H' ((e.trans e1).trans p.1) k2 k1 H' (Ex.refl H') _ fun r2 H4 hr2 e4 h4 => ⟨xs, e4 _ _ hxs, ?_, (p.1.trans e4).mut hD, ?_⟩
    · rw [hxl, List.length_map, List.length_range]
      exact small1000 (by omega)
    · rw [range_map_succ]
      exact p.2.snoc hxs e4 h4 fun z => by
        rw [z, hxs] at hr2
        cases hr2
  · have p2 := p.2
    rw [List.length_map, g2] at p2
    exact q Dl H' (fresh_back e1 hD) (e1.trans p.1) p2
theorem mak_Liking {Z : Zc} {f : Addr} {fd : FuncData} (F : C8.Fun K "__init__" "Liking.__init__" s_Liking___init__ f fd) (T : ZTxt K Z) (M : Mk K Z.lik f) (hm : mg "Liking" = some (.ref Z.lik)) (b : Binds K fd P_Liking___init__ []) (B : Blt mg) (c_people_by_set : C8.Cal P w K mg base 1 "people_by_set" sp_people_by_set []) (c_sums_by_set : C8.Cal P w K mg base 1 "sums_by_set" sp_sums_by_set []) : C8.Mak P w K mg base 2 "Liking" Z.lik (sp_Liking_init Z) [] := by
  have sc := sc_Liking___init__; have b_len := B.len
  refine C8.mak0 M hm F b .nil sc (fun vs H Q E h => ?_) (fun cdv A outer s H vs Q E hr h => ?_)
  · obtain ⟨_, _, _, _, rfl, _⟩ := h
    rfl
  · refine ⟨_, (pss_cons (psF K rfl (pv 0) (pv 1) rfl)
      (pss_cons (psF K rfl (pv 0) (C8.pe_c c_people_by_set hr (by decide) (by rfl) (pa_cons (pe_callB (cLen K rfl) (by rfl) b_len (by decide +kernel) (pa_cons (pv 1) pa_nil)) pa_nil)) rfl)
      (pss_one (psF K rfl (pv 0) (pe_lc (own := [("row", 2)]) rfl sc.nd (piL K rfl (pv 1)) (blkOk_by (own := [("row", 2)]) (N := N_Liking___init__) (sc := C8.fnScope s_Liking___init__) (by decide +kernel)) (fun _ _ _ _ _ => (pg_name (i := 2) sc.nd rfl (Or.inl rfl))) (fun _ _ _ _ _ => pts_nil) (fun _ _ _ _ _ => (C8.pe_c c_sums_by_set hr (by decide) (by rfl) (pa_cons (pv 2) pa_nil)))) rfl)))), ?_⟩
    obtain ⟨p, dx, aw, t, rfl, hp, hw, h0, h5, q⟩ := h
    refine q_put T.lc T.lW (ev_var rfl) (ev_var rfl) hp (by show 0 < 1000; decide) fun H1 e1 => ?_
    have s1 : Std H (upd H1 p (.ins Z.lik dx [("worths", .ref aw)])) := (Std.ex e1).trans (But.put.std (e1 _ _ hp))
    have w1 := hw.keep s1.l
    obtain ⟨xs, hx, hxl⟩ := w1.lst
    rw [rowsOf_len] at hxl
    refine q_putR T.lc T.lP (er_call (ea_cons (ev_is (ev_len (ev_var rfl) (sq_of hx)) (by rw [hxl])) ea_nil) (people_by_set_R h5)) (ev_var rfl) upd_same (by show 1 < 1000; decide) fun ap H2 hap e2 r2 => ?_
    have i2 := e2 _ _ (show upd H1 p (.ins Z.lik dx [("worths", .ref aw)]) p = some _ from upd_same)
    have s2 : Std H2 (upd H2 p (.ins Z.lik dx [("worths", .ref aw), ("people", .ref ap)])) := But.put.std i2
    have w2 := (w1.ex e2).keep s2.l
    refine s_putR (rows := sumsOf t) T.lc T.lS ?_ (ev_var rfl) upd_same (by show 2 < 1000; decide) fun au H3 hau e3 r3 => ?_
    · have z := er_rowsI (K := K) (σ := [some (.ref p), some (.ref aw), none]) (tl := tVar 1) (te := tCall sp_sums_by_set [] C8.E0 (tCons (tVar 2) tNil)) (j := 2) (vs := [2]) (fun i => sumsTo t i t.n) (ev_var rfl) w2 (by rw [rowsOf_len]; omega) (fun x => rfl) fun i r row H4 e4 hr4 hi => ?_
      · rw [rowsOf_len] at z
        exact z
      · have hin : i < t.n := by
          have := (List.getElem?_eq_some_iff.mp hi).1
          rw [rowsOf_len] at this
          exact this
        rw [rowsOf_at hin] at hi
        have hi := Option.some.inj hi
        subst hi
        exact el_call (ea_cons (ev_var rfl) ea_nil) (sums_by_set_L (e4 _ _ hr4) h5)
    · have i3 := e3 _ _ (show upd H2 p (.ins Z.lik dx [("worths", .ref aw), ("people", .ref ap)]) p = some _ from upd_same)
      have s3 : Std H3 (upd H3 p (.ins Z.lik dx (lF aw ap au))) := But.put.std i3
      have s23 := (Std.ex e3).trans s3
      refine q _ (((((But.ex e1).trans But.put).trans (But.ex e2)).trans But.put).trans ((But.ex e3).trans But.put)) ⟨h0, h5, dx, aw, ap, au, upd_same, w2.keep s23.l, (r2.keep s2.l).keep s23.l, r3.keep s3.l⟩
/-- what is made: nothing that was there is changed -/
theorem mk_ex {H H1 : Hp} {x dx : Addr} {o1 o2 : HO} (hx : H x = none) (hdx : H dx = none) (but : But x (upd (upd H dx o1) x o2) H1) : Ex H H1 := fun bb o hb => by
  have n1 : bb ≠ x := fun z => by rw [z, hx] at hb; cases hb
  have n2 : bb ≠ dx := fun z => by rw [z, hdx] at hb; cases hb
  exact but bb o (by rw [upd_ne n1, upd_ne n2]; exact hb) n1
theorem mk_pre {H : Hp} {x dx : Addr} {o1 o2 : HO} (hx : H x = none) (hdx : H dx = none) : Ex H (upd (upd H dx o1) x o2) := fun bb o hb => by
  have n1 : bb ≠ x := fun z => by rw [z, hx] at hb; cases hb
  have n2 : bb ≠ dx := fun z => by rw [z, hdx] at hb; cases hb
  rw [upd_ne n1, upd_ne n2]
  exact hb
def IsLik (Z : Zc) (t : Ks565.Folk) : V → Hp → Prop := fun v H => ∃ p, v = .ref p ∧ LikAt Z H p t
def IsStd (Z : Zc) (tp : Bool) (t : Ks565.Folk) (g : List Nat) : V → Hp → Prop := fun v H => ∃ p, v = .ref p ∧ StdAt Z tp H p t g
theorem ep_mkLik {Z : Zc} {σ : L2.St} {H : Hp} {ta : TA} {E : XK} {aw : Addr} {t : Ks565.Folk} (h : EvA ta σ H [.ref aw]) (hw : RowsAt H aw (rowsOf t)) (h0 : 0 < t.n) (h5 : t.n ≤ 5) : EvP (tMake Z.lik (sp_Liking_init Z) [] E ta) σ H (IsLik Z t) := fun H1 e Q q =>
  h H1 e _ fun H2 e2 x dx hx hdx hne => ⟨x, dx, aw, t, rfl, upd_same, (hw.ex (e.trans e2)).ex (mk_pre hx hdx), h0, h5, fun H3 but l3 => ⟨rfl, q _ H3 (e2.trans (mk_ex hx hdx but)) ⟨x, rfl, l3⟩⟩⟩
/-! Standing.__init__ -/
abbrev s_Standing___init__ : Stmt := inCls (top 9) 0
abbrev N_Standing___init__ : List Str := ["self", "liking", "groups", "i"]
abbrev P_Standing___init__ : List Str := ["self", "liking", "groups"]
theorem sc_Standing___init__ : FnScope N_Standing___init__ P_Standing___init__ (C8.fnScope s_Standing___init__) := C8.fnScope_by (by decide +kernel)
def sp_Standing_init (Z : Zc) : Sp := fun vs H Q _ => ∃ (p dx al ag : Addr) (t : Ks565.Folk) (g : List Nat) (tp : Bool), vs = [.ref p, .ref al, .ref ag] ∧ H p = some (.ins Z.std dx []) ∧ LikAt Z H al t ∧ H ag = some (seqO tp (nv g)) ∧ g.length = t.n ∧ Few t g ∧
  ∀ ar ah H', H ar = none → H ah = none → But p H H' → H' p = some (.ins Z.std dx (sF al ag ar ah)) → H' ar = some (.lst (nv (placesOf g))) → H' ah = some (.lst ((Ks568.worths t g).map V.int)) → Q .non H'
theorem mak_Standing {Z : Zc} {f : Addr} {fd : FuncData} (F : C8.Fun K "__init__" "Standing.__init__" s_Standing___init__ f fd) (T : ZTxt K Z) (M : Mk K Z.std f) (hm : mg "Standing" = some (.ref Z.std)) (b : Binds K fd P_Standing___init__ []) (B : Blt mg) (c_places_in : C8.Cal P w K mg base 2 "places_in" sp_places_in []) : C8.Mak P w K mg base 3 "Standing" Z.std (sp_Standing_init Z) [] := by
  have sc := sc_Standing___init__; have b_range := B.range; have b_len := B.len
  refine C8.mak0 M hm F b .nil sc (fun vs H Q E h => ?_) (fun cdv A outer s H vs Q E hr h => ?_)
  · obtain ⟨_, _, _, _, _, _, _, rfl, _⟩ := h
    rfl
  · refine ⟨_, (pss_cons (psF K rfl (pv 0) (pv 1) rfl)
      (pss_cons (psF K rfl (pv 0) (pv 2) rfl)
      (pss_cons (psF K rfl (pv 0) (C8.pe_c c_places_in hr (by decide) (by rfl) (pa_cons (pv 2) pa_nil)) rfl)
      (pss_one (psF K rfl (pv 0) (pe_lc (own := [("i", 3)]) rfl sc.nd (pi_range1 rfl b_range (pa_cons (pe_callB (cLen K rfl) (by rfl) b_len (by decide +kernel) (pa_cons (pv 2) pa_nil)) pa_nil)) (blkOk_by (own := [("i", 3)]) (N := N_Standing___init__) (sc := C8.fnScope s_Standing___init__) (by decide +kernel)) (fun _ _ _ _ _ => (pg_name (i := 3) sc.nd rfl (Or.inl rfl))) (fun _ _ _ _ _ => pts_nil) (fun _ _ _ _ _ => (pe_ix (ixl K rfl) (pe_ix (ixl K rfl) (peF K rfl (pv 1) rfl) (pv 3) (fun _ _ => rfl)) (pe_ix (ixl K rfl) (peF K rfl (pv 0) rfl) (pe_ix (ixs K rfl) (pv 2) (pv 3) (fun _ _ => rfl)) (fun _ _ => rfl)) (fun _ _ => rfl)))) rfl))))), ?_⟩
    obtain ⟨p, dx, al, ag, t, g, tp, rfl, hp, hl, hg, hlen, hf, q⟩ := h
    have h0 := hl.1
    have h5 := hl.2.1
    have notK1 : ¬ isK ([] : List (Str × V)) := fun ⟨_, _, _, _, e⟩ => by cases e
    -- objects other than p stand
    have other : ∀ {H1 H2 : Hp} {fs : List (Str × V)}, LikAt Z H1 al t → H1 p = some (.ins Z.std dx fs) → fs.lookup ("sums" : Str) = none → But p H1 H2 → LikAt Z H2 al t := fun {H1 H2 fs} hl1 hp1 hfs bt => by
      obtain ⟨a0, a5, dl, aw, ap, au, g1, g2, g3, g4⟩ := hl1
      have sd := bt.std hp1
      refine ⟨a0, a5, dl, aw, ap, au, bt _ _ g1 fun z => ?_, g2.keep sd.l, g3.keep sd.l, g4.keep sd.l⟩
      rw [z, hp1] at g1
      have e3 : fs = lF aw ap au := by
        have e := Option.some.inj g1
        injection e
      rw [e3, lF_sums] at hfs
      cases hfs
    have nn : Z.std = Z.std := rfl
    refine q_put T.sc T.sL (ev_var rfl) (ev_var rfl) hp (by show 0 < 1000; decide) fun H1 e1 => ?_
    have b1 : But p H (upd H1 p (.ins Z.std dx (sF1 al))) := (But.ex e1).trans But.put
    have l1 := other hl hp rfl b1
    have g1 := seqO_stn hg (b1.std hp)
    have i1 : upd H1 p (.ins Z.std dx (sF1 al)) p = some (.ins Z.std dx (sF1 al)) := upd_same
    rw [pf_s1]
    generalize upd H1 p (.ins Z.std dx (sF1 al)) = H1' at b1 l1 g1 i1 ⊢
    refine q_put T.sc T.sG (ev_var rfl) (ev_var rfl) i1 (by show 1 < 1000; decide) fun H2 e2 => ?_
    have b2 : But p H1' (upd H2 p (.ins Z.std dx (sF2 al ag))) := (But.ex e2).trans But.put
    have l2 := other l1 i1 (look_tl (by decide +kernel)) b2
    have g2 := seqO_stn g1 (b2.std i1)
    have i2 : upd H2 p (.ins Z.std dx (sF2 al ag)) p = some (.ins Z.std dx (sF2 al ag)) := upd_same
    rw [pf_s2]
    generalize upd H2 p (.ins Z.std dx (sF2 al ag)) = H2' at b2 l2 g2 i2 ⊢
    refine q_putL T.sc T.sP (el_call (ea_cons (ev_var rfl) ea_nil) (places_in_L (seqO_sqn g2) (by omega) (by omega) fun x hx => Nat.lt_of_lt_of_le (hf x hx) h5)) (ev_var rfl) i2 (by show 2 < 1000; decide) fun ar H3 har e3 h3 => ?_
    have b3 : But p H2' (upd H3 p (.ins Z.std dx (sF3 al ag ar))) := (But.ex e3).trans But.put
    have l3 := other l2 i2 ((look_tl (by decide +kernel)).trans (look_tl (by decide +kernel))) b3
    have g3 := seqO_stn g2 (b3.std i2)
    have i3 : upd H3 p (.ins Z.std dx (sF3 al ag ar)) p = some (.ins Z.std dx (sF3 al ag ar)) := upd_same
    have p3 : upd H3 p (.ins Z.std dx (sF3 al ag ar)) ar = some (.lst (nv (placesOf g))) := (But.put.std (e3 _ _ i2)).l _ _ h3
    rw [pf_s3]
    generalize upd H3 p (.ins Z.std dx (sF3 al ag ar)) = H3' at b3 l3 g3 i3 p3 ⊢
    have look : ∀ {H4 : Hp}, Ex H3' H4 → ∀ i, i < t.n → Ev (tOp (rIxL K) (tOp (rIxL K) (tFld K (tVar 1) "sums") (tVar 3)) (tOp (rIxL K) (tFld K (tVar 0) "places") (tOp (rIxG K) (tVar 2) (tVar 3)))) [some (.ref p), some (.ref al), some (.ref ag), some (.int (i : Int))] H4 (.int (Ks565.worth t g i)) := fun {H4} e4 i hi => by
      have hgi : Ev (tOp (rIxG K) (tVar 2) (tVar 3)) [some (.ref p), some (.ref al), some (.ref ag), some (.int (i : Int))] H4 (.int ((g.getD i 0 : Nat) : Int)) := ev_op (ev_var rfl) (ev_var rfl) (rv_ixG ((seqO_sqn g3).ex e4).sq (atI_nat (nv_get (by omega))))
      have hk : g.getD i 0 ≤ Ks565.groups g := Nat.le_of_lt (getD_lt_groups (by omega))
      have hpl : Ev (tOp (rIxL K) (tFld K (tVar 0) "places") (tOp (rIxG K) (tVar 2) (tVar 3))) [some (.ref p), some (.ref al), some (.ref ag), some (.int (i : Int))] H4 (.int ((mask g (g.getD i 0) : Nat) : Int)) :=
        ev_op (ev_fld T.sc T.sP (ev_var rfl) (e4 _ _ i3) ((look_tl (by decide +kernel)).trans ((look_tl (by decide +kernel)).trans look_hd))) hgi (rv_ixL (sq_of (e4 _ _ p3)) (atI_nat (nv_at (placesOf_at hk))))
      have z := ev_sum T (ta := tVar 1) (tb := tVar 3) (l3.ex e4) hi (mask_lt (n := t.n) hlen) (ev_var rfl) (ev_var rfl) hpl
      rw [set_mask hlen] at z
      exact z
    refine s_putL (xs := (Ks568.worths t g).map V.int) T.sc T.sH ?_ (ev_var rfl) i3 (by show 3 < 1000; decide) fun ah H4 hah e4 h4 => ?_
    · have z := el_rng (σ := [some (.ref p), some (.ref al), some (.ref ag), none]) (j := 3) (vs := [3]) (n := (nv g).length) (fun i => V.int (Ks565.worth t g i)) (ea_cons (ev_lenG (K := K) (ev_var (i := 2) rfl) (seqO_sqn g3).sq) ea_nil) (by rw [nv_len]; omega) (fun x => rfl) fun i H5 e5 hi => look e5 i (by rw [nv_len] at hi; omega)
      rw [nv_len, hlen] at z
      unfold Ks568.worths
      rw [List.map_map]
      exact z
    · have i4 := e4 _ _ i3
      have sd : Std H4 (upd H4 p (.ins Z.std dx (sF al ag ar ah))) := But.put.std i4
      have nah : H ah = none := by
        cases hh : H ah with
        | none => rfl
        | some o =>
          have np : ah ≠ p := fun z => by rw [z, i3] at hah; cases hah
          have := b3 _ _ (b2 _ _ (b1 _ _ hh np) np) np
          rw [this] at hah
          cases hah
      have nar : H ar = none := by
        cases hh : H ar with
        | none => rfl
        | some o =>
          have np : ar ≠ p := fun z => by rw [z, i2] at har; cases har
          have := b2 _ _ (b1 _ _ hh np) np
          rw [this] at har
          cases har
      exact q ar ah _ nar nah ((b1.trans b2).trans (b3.trans ((But.ex e4).trans But.put))) upd_same (sd.l _ _ (e4 _ _ p3)) (sd.l _ _ h4)
theorem ep_mkStd {Z : Zc} {tp : Bool} {σ : L2.St} {H : Hp} {ta : TA} {E : XK} {al ag : Addr} {t : Ks565.Folk} {g : List Nat} (h : EvA ta σ H [.ref al, .ref ag]) (hl : LikAt Z H al t) (hg : H ag = some (seqO tp (nv g))) (hlen : g.length = t.n) (hf : Few t g) : EvP (tMake Z.std (sp_Standing_init Z) [] E ta) σ H (IsStd Z tp t g) := fun H1 e Q q =>
  h H1 e _ fun H2 e2 x dx hx hdx hne => ⟨x, dx, al, ag, t, g, tp, rfl, upd_same, (hl.ex (e.trans e2)).ex (mk_pre hx hdx), (mk_pre hx hdx) _ _ ((e.trans e2) _ _ hg), hlen, hf, fun ar ah H3 _ _ but i3 p3 h3 => by
    have e3 := mk_ex hx hdx but
    exact ⟨rfl, q _ H3 (e2.trans e3) ⟨x, rfl, hlen, hf, dx, al, ag, ar, ah, i3, (hl.ex (e.trans e2)).ex e3, e3 _ _ ((e.trans e2) _ _ hg), p3, h3⟩⟩⟩
/-! has_in -/
abbrev s_has_in : Stmt := top 10
abbrev N_has_in : List Str := ["standing", "i", "k"]
abbrev P_has_in : List Str := ["standing", "i", "k"]
theorem sc_has_in : FnScope N_has_in P_has_in (C8.fnScope s_has_in) := C8.fnScope_by (by decide +kernel)
def sp_has_in (Z : Zc) : Sp := fun vs H Q _ => ∃ (a : Addr) (tp : Bool) (t : Ks565.Folk) (g : List Nat) (i k : Nat), vs = [.ref a, .int i, .int k] ∧ StdAt Z tp H a t g ∧ i < t.n ∧ k ≤ Ks565.groups g ∧ RetV H Q (.int (Ks565.with_ t i (Ks565.members g k)))
theorem cal_has_in {Z : Zc} {f : Addr} {fd : FuncData} (F : C8.Def K mg "has_in" s_has_in f fd) (b : Binds K fd P_has_in []) (T : ZTxt K Z) : C8.Cal P w K mg base 1 "has_in" (sp_has_in Z) [] := by
  have sc := sc_has_in
  refine C8.cal0 F b .nil sc (fun vs H Q E h => ?_) (fun cdv A outer s H vs Q E hr h => ?_)
  · obtain ⟨_, _, _, _, _, _, rfl, _⟩ := h
    rfl
  · refine ⟨_, (pss_one (ps_ret (pe_ix (ixl K rfl) (pe_ix (ixl K rfl) (peF K rfl (peF K rfl (pv 0) rfl) rfl) (pv 1) (fun _ _ => rfl)) (pe_ix (ixl K rfl) (peF K rfl (pv 0) rfl) (pv 2) (fun _ _ => rfl)) (fun _ _ => rfl)))), ?_⟩
    obtain ⟨a, tp, t, g, i, k, rfl, hs, hi, hk, q⟩ := h
    obtain ⟨al, hl, evl⟩ := ev_liking T hs
    have z := ev_sum T (σ := L2.start N_has_in [.ref a, .int (i : Int), .int (k : Int)]) (ta := tFld K (tVar 0) "liking") (tb := tVar 1) (tc := tOp (rIxL K) (tFld K (tVar 0) "places") (tVar 2)) hl hi (mask_lt (n := t.n) hs.len) (evl (Ex.refl H) (ev_var rfl)) (ev_var rfl) (ev_place T hs hk (ev_var rfl) (ev_var rfl))
    rw [set_mask hs.len] at z
    exact s_ret z q
theorem has_in_V {Z : Zc} {tp : Bool} {H : Hp} {a : Addr} {t : Ks565.Folk} {g : List Nat} {i k : Nat} (hs : StdAt Z tp H a t g) (hi : i < t.n) (hk : k ≤ Ks565.groups g) : SpV (sp_has_in Z) [.ref a, .int (i : Int), .int (k : Int)] H (.int (Ks565.with_ t i (Ks565.members g k))) :=
  fun H1 e Q q _ => ⟨a, tp, t, g, i, k, rfl, hs.ex e, hi, hk, fun H2 e2 => q H2 e2⟩
end Rg

set_option Elab.async false
set_option maxRecDepth 100000
set_option maxHeartbeats 2000000
set_option linter.unusedVariables false
/-! going.py: where each may go; the defs that make no lambda -/
namespace Rg
open PySem PySem.Spec PyProof.Rows L2 Evl LamX
variable {P : Program} {w : World} {K : PySem.W.Frag} {mg : Str → Option Value} {base : Heap}
/-! comprehensions over enumerate, zip -/
section
variable {σ : L2.St} {H : Hp} {te : TE} {t : TT}
theorem cw_ex {H H' H'' : Hp} {f : Nat → Bool} {v : Nat → V} {Dl : Addr} {i : Nat} (p : Cw H f v Dl i H') (e : Ex H' H'') : Cw H f v Dl i H'' := ⟨p.1, p.2.1.trans e, e _ _ p.2.2⟩
theorem el_lcE {a : Addr} {xs : List V} {tl : TE} {j1 j2 : Nat} {vs : List Nat} (f : Nat → Bool) (v : Nat → V) (h : Ev tl σ H (.ref a)) (hx : SqL K H a xs) (hz : xs.length ≤ 40000) (hw : ∀ x y, wipe (((wipe σ vs).set j1 (some x)).set j2 (some y)) vs = wipe σ vs)
    (ht : ∀ (i : Nat) (x : V) H1, Ex H H1 → xs[i]? = some x → EvT t (((wipe σ vs).set j1 (some (.int (i : Int)))).set j2 (some x)) H1 (f i)) (he : ∀ (i : Nat) (x : V) H1, Ex H H1 → xs[i]? = some x → f i = true → Ev te (((wipe σ vs).set j1 (some (.int (i : Int)))).set j2 (some x)) H1 (v i)) :
    EvL (tLc (iEnum K (tCons tl tNil)) (gTup K 2 (gCons (gName j1) (gCons (gName j2) gNil))) t te vs) σ H (given xs.length f v) := fun H0 e Q q => h H0 e _ fun H1 e1 => ⟨a, xs, rfl, ex_l (e.trans e1) hx, fun Dl hD =>
  lc_it walk_enum (Cw H1 f v Dl) ⟨hD, Ex.new hD, upd_same⟩ (fun i H' _ p => ex_l ((e.trans e1).trans p.2.1) hx) (fun i x H' H'' hi p hY => by
    obtain ⟨T, x1, x2, rfl, hT, rfl, h1, h2⟩ := hY
    have h1 := Option.some.inj h1
    subst h1
    refine ⟨T, _, rfl, st_of upd_same, rfl, _, _, rfl, _, _, rfl, rfl, hw _ _, ?_⟩
    exact cw_turn (cw_ex p (Ex.new hT)) (by omega) (ht i x2 H1 (e.trans e1) h2) (fun hf => he i x2 H1 (e.trans e1) h2 hf)) (fun H' p => q Dl H' (fresh_back e1 p.1) (e1.trans p.2.1) p.2.2)⟩
theorem el_lcZ {a b : Addr} {xs ys : List V} {tl tm : TE} {j1 j2 : Nat} {vs : List Nat} (f : Nat → Bool) (v : Nat → V) (h : Ev tl σ H (.ref a)) (h2 : Ev tm σ H (.ref b)) (hx : SqL K H a xs) (hy : SqL K H b ys) (hl : xs.length = ys.length) (hz : xs.length ≤ 40000) (hw : ∀ x y, wipe (((wipe σ vs).set j1 (some x)).set j2 (some y)) vs = wipe σ vs)
    (ht : ∀ (i : Nat) (x y : V) H1, Ex H H1 → xs[i]? = some x → ys[i]? = some y → EvT t (((wipe σ vs).set j1 (some x)).set j2 (some y)) H1 (f i)) (he : ∀ (i : Nat) (x y : V) H1, Ex H H1 → xs[i]? = some x → ys[i]? = some y → f i = true → Ev te (((wipe σ vs).set j1 (some x)).set j2 (some y)) H1 (v i)) :
    EvL (tLc (iZip K (tCons tl (tCons tm tNil))) (gTup K 2 (gCons (gName j1) (gCons (gName j2) gNil))) t te vs) σ H (given xs.length f v) := fun H0 e Q q => h H0 e _ fun H1 e1 => h2 H1 (e.trans e1) _ fun H2 e2 => ⟨a, b, xs, ys, rfl, ex_l ((e.trans e1).trans e2) hx, ex_l ((e.trans e1).trans e2) hy, fun Dl hD =>
  lc_it (walk_zip (n := xs.length) (by rw [← hl, Nat.min_self])) (Cw H2 f v Dl) ⟨hD, Ex.new hD, upd_same⟩ (fun i H' _ p => ⟨ex_l (((e.trans e1).trans e2).trans p.2.1) hx, ex_l (((e.trans e1).trans e2).trans p.2.1) hy⟩) (fun i x H' H'' hi p hY => by
    obtain ⟨T, x1, x2, rfl, hT, rfl, g1, g2⟩ := hY
    refine ⟨T, _, rfl, st_of upd_same, rfl, _, _, rfl, _, _, rfl, rfl, hw _ _, ?_⟩
    exact cw_turn (cw_ex p (Ex.new hT)) (by omega) (ht i x1 x2 H2 ((e.trans e1).trans e2) g1 g2) (fun hf => he i x1 x2 H2 ((e.trans e1).trans e2) g1 g2 hf)) (fun H' p => q Dl H' (fresh_back (e1.trans e2) p.1) ((e1.trans e2).trans p.2.1) p.2.2)⟩
end
theorem given_nat (n : Nat) (f : Nat → Bool) : given n f (fun i => V.int (i : Int)) = nv ((List.range n).filter f) := rfl
/-! is_welcome, is_let_go -/
abbrev s_is_welcome : Stmt := top 13
abbrev N_is_welcome : List Str := ["standing", "i", "k", "liking", "m"]
abbrev P_is_welcome : List Str := ["standing", "i", "k"]
theorem sc_is_welcome : FnScope N_is_welcome P_is_welcome (C8.fnScope s_is_welcome) := C8.fnScope_by (by decide +kernel)
def sp_is_welcome (Z : Zc) : Sp := fun vs H Q _ => ∃ (a : Addr) (tp : Bool) (t : Ks565.Folk) (g : List Nat) (i k : Nat), vs = [.ref a, .int i, .int k] ∧ StdAt Z tp H a t g ∧ i < t.n ∧ k ≤ Ks565.groups g ∧ RetV H Q (.bl (Ks565.welcome t g i k))
theorem mem_lt {Z : Zc} {tp : Bool} {H : Hp} {a : Addr} {t : Ks565.Folk} {g : List Nat} (x : StdAt Z tp H a t g) {k m : Nat} (h : m ∈ Ks565.members g k) : m < t.n := by rw [← x.len]; exact members_lt h
theorem mem_sz {Z : Zc} {tp : Bool} {H : Hp} {a : Addr} {t : Ks565.Folk} {g : List Nat} (x : StdAt Z tp H a t g) (k : Nat) : (Ks565.members g k).length ≤ 1000 := Nat.le_trans (members_len g k) (by have := x.len; have := x.le5; omega)
theorem cal_is_welcome {Z : Zc} {f : Addr} {fd : FuncData} (F : C8.Def K mg "is_welcome" s_is_welcome f fd) (b : Binds K fd P_is_welcome []) (B : Blt mg) (T : ZTxt K Z) : C8.Cal P w K mg base 1 "is_welcome" (sp_is_welcome Z) [] := by
  have sc := sc_is_welcome; have b_all := B.all
  refine C8.cal0 F b .nil sc (fun vs H Q E h => ?_) (fun cdv A outer s H vs Q E hr h => ?_)
  · obtain ⟨_, _, _, _, _, _, rfl, _⟩ := h
    rfl
  · refine ⟨_, (pss_cons (ps_set (i := 3) sc.nd rfl (.inr rfl) (peF K rfl (pv 0) rfl))
      (pss_one (ps_ret (pe_callB (cAll K rfl rfl) (by rfl) b_all (by decide +kernel) (pa_cons (pe_lc (own := [("m", 4)]) rfl sc.nd (piL K rfl (pe_ix (ixl K rfl) (peF K rfl (pv 3) rfl) (pe_ix (ixl K rfl) (peF K rfl (pv 0) rfl) (pv 2) (fun _ _ => rfl)) (fun _ _ => rfl))) (blkOk_by (own := [("m", 4)]) (N := N_is_welcome) (sc := C8.fnScope s_is_welcome) (by decide +kernel)) (fun _ _ _ _ _ => (pg_name (i := 4) sc.nd rfl (Or.inl rfl))) (fun _ _ _ _ _ => pts_nil) (fun _ _ _ _ _ => (pe_cmpR op_ge (pe_ix (ixl K rfl) (pe_ix (ixl K rfl) (peF K rfl (pv 3) rfl) (pv 4) (fun _ _ => rfl)) (pv 1) (fun _ _ => rfl)) pe_int (nomark _)))) pa_nil))))), ?_⟩
    obtain ⟨a, tp, t, g, i, k, rfl, hs, hi, hk, q⟩ := h
    obtain ⟨al, hl, evl⟩ := ev_liking T hs
    refine q_asg (evl (Ex.refl H) (ev_var rfl)) fun H1 e1 => ?_
    have s1 := hs.ex e1
    have l1 := hl.ex e1
    obtain ⟨r, hr1, evr⟩ := ev_ppl T (σ := (L2.start N_is_welcome [.ref a, .int (i : Int), .int (k : Int)]).set 3 (some (.ref al))) (ta := tVar 3) (tb := tOp (rIxL K) (tFld K (tVar 0) "places") (tVar 2)) l1 (mask_lt (n := t.n) hs.len) (ev_var rfl) (ev_place T s1 hk (ev_var rfl) (ev_var rfl))
    rw [set_mask hs.len] at hr1
    refine s_ret (ev_cbL (el_nums (l := Ks565.members g k) (fun m => V.bl (decide (0 ≤ Ks565.likes t m i))) evr hr1 (mem_sz hs k) (fun x => rfl) fun m H2 e2 hm =>
      ev_op (ev_lw T (l1.ex e2) (mem_lt hs hm) hi (ev_var rfl) (ev_var rfl) (ev_var rfl)) ev_c rv_I0) fun p H2 h2 e2 => ?_) fun H2 e2 => q H2 (e1.trans e2)
    unfold Ks565.welcome
    rw [← all_map]
    exact rc_all (by rw [h2, List.map_map]; rfl)
theorem is_welcome_V {Z : Zc} {tp : Bool} {H : Hp} {a : Addr} {t : Ks565.Folk} {g : List Nat} {i k : Nat} (hs : StdAt Z tp H a t g) (hi : i < t.n) (hk : k ≤ Ks565.groups g) : SpV (sp_is_welcome Z) [.ref a, .int (i : Int), .int (k : Int)] H (.bl (Ks565.welcome t g i k)) :=
  fun H1 e Q q _ => ⟨a, tp, t, g, i, k, rfl, hs.ex e, hi, hk, fun H2 e2 => q H2 e2⟩
abbrev s_is_let_go : Stmt := top 14
abbrev N_is_let_go : List Str := ["standing", "i", "liking", "m"]
abbrev P_is_let_go : List Str := ["standing", "i"]
theorem sc_is_let_go : FnScope N_is_let_go P_is_let_go (C8.fnScope s_is_let_go) := C8.fnScope_by (by decide +kernel)
def sp_is_let_go (Z : Zc) : Sp := fun vs H Q _ => ∃ (a : Addr) (tp : Bool) (t : Ks565.Folk) (g : List Nat) (i : Nat), vs = [.ref a, .int i] ∧ StdAt Z tp H a t g ∧ i < t.n ∧ RetV H Q (.bl (letGo2 t g i))
theorem cal_is_let_go {Z : Zc} {f : Addr} {fd : FuncData} (F : C8.Def K mg "is_let_go" s_is_let_go f fd) (b : Binds K fd P_is_let_go []) (B : Blt mg) (T : ZTxt K Z) : C8.Cal P w K mg base 1 "is_let_go" (sp_is_let_go Z) [] := by
  have sc := sc_is_let_go; have b_all := B.all
  refine C8.cal0 F b .nil sc (fun vs H Q E h => ?_) (fun cdv A outer s H vs Q E hr h => ?_)
  · obtain ⟨_, _, _, _, _, rfl, _⟩ := h
    rfl
  · refine ⟨_, (pss_cons (ps_set (i := 2) sc.nd rfl (.inr rfl) (peF K rfl (pv 0) rfl))
      (pss_one (ps_ret (pe_callB (cAll K rfl rfl) (by rfl) b_all (by decide +kernel) (pa_cons (pe_lc (own := [("m", 3)]) rfl sc.nd (piL K rfl (pe_ix (ixl K rfl) (peF K rfl (pv 2) rfl) (pe_ix (ixl K rfl) (peF K rfl (pv 0) rfl) (pe_ix (ixs K rfl) (peF K rfl (pv 0) rfl) (pv 1) (fun _ _ => rfl)) (fun _ _ => rfl)) (fun _ _ => rfl))) (blkOk_by (own := [("m", 3)]) (N := N_is_let_go) (sc := C8.fnScope s_is_let_go) (by decide +kernel)) (fun _ _ _ _ _ => (pg_name (i := 3) sc.nd rfl (Or.inl rfl))) (fun _ _ _ _ _ => pts_nil) (fun _ _ _ _ _ => (pe_cmpR op_le (pe_ix (ixl K rfl) (pe_ix (ixl K rfl) (peF K rfl (pv 2) rfl) (pv 3) (fun _ _ => rfl)) (pv 1) (fun _ _ => rfl)) pe_int (nomark _)))) pa_nil))))), ?_⟩
    obtain ⟨a, tp, t, g, i, rfl, hs, hi, q⟩ := h
    obtain ⟨al, hl, evl⟩ := ev_liking T hs
    refine q_asg (evl (Ex.refl H) (ev_var rfl)) fun H1 e1 => ?_
    have s1 := hs.ex e1
    have l1 := hl.ex e1
    have hk : g.getD i 0 ≤ Ks565.groups g := Nat.le_of_lt (getD_lt_groups (by rw [hs.len]; exact hi))
    obtain ⟨r, hr1, evr⟩ := ev_ppl T (σ := (L2.start N_is_let_go [.ref a, .int (i : Int)]).set 2 (some (.ref al))) (ta := tVar 2) (tb := tOp (rIxL K) (tFld K (tVar 0) "places") (tOp (rIxG K) (tFld K (tVar 0) "groups") (tVar 1))) l1 (mask_lt (n := t.n) hs.len) (ev_var rfl) (ev_place T s1 hk (ev_var rfl) (ev_grp T s1 hi (ev_var rfl) (ev_var rfl)))
    rw [set_mask hs.len] at hr1
    refine s_ret (ev_cbL (el_nums (l := Ks565.members g (g.getD i 0)) (fun m => V.bl (decide (Ks565.likes t m i ≤ 0))) evr hr1 (mem_sz hs _) (fun x => rfl) fun m H2 e2 hm =>
      ev_op (ev_lw T (l1.ex e2) (mem_lt hs hm) hi (ev_var rfl) (ev_var rfl) (ev_var rfl)) ev_c rv_I0) fun p H2 h2 e2 => ?_) fun H2 e2 => q H2 (e1.trans e2)
    unfold letGo2
    rw [← all_map]
    exact rc_all (by rw [h2, List.map_map]; rfl)
theorem is_let_go_V {Z : Zc} {tp : Bool} {H : Hp} {a : Addr} {t : Ks565.Folk} {g : List Nat} {i : Nat} (hs : StdAt Z tp H a t g) (hi : i < t.n) : SpV (sp_is_let_go Z) [.ref a, .int (i : Int)] H (.bl (letGo2 t g i)) :=
  fun H1 e Q q _ => ⟨a, tp, t, g, i, rfl, hs.ex e, hi, fun H2 e2 => q H2 e2⟩
/-! ways_there -/
/-- how many whole numbers each call has -/
def plain : List Nat := [1, 3, 1, 0, 0, 2, 1, 1, 0, 0, 1, 1, 1, 1, 1, 0, 1, 1, 1, 2, 0, 0, 0, 0, 1, 0, 0]
/-- the constants of the top -/
structure Cst (K : PySem.W.Frag) (mg : Str → Option Value) : Prop where
  EVERY_WAY : ∃ t, mg "EVERY_WAY" = some (.int 3 t)
  NOT_AT_ALL : ∃ t, mg "NOT_AT_ALL" = some (.int 0 t)
  WEAKLY : ∃ t, mg "WEAKLY" = some (.int 1 t)
  WHOLLY : ∃ t, mg "WHOLLY" = some (.int 2 t)
  KINDS_OF_REST : ∃ t, mg "KINDS_OF_REST" = some (.int 5 t)
  MOST_TAKEN_BACK : ∃ t, mg "MOST_TAKEN_BACK" = some (.int 10 t)
  NOT_BEGUN : ∃ t, mg "NOT_BEGUN" = some (.int (-61) t)
  NOT_THERE : ∃ t, mg "NOT_THERE" = some (.int (-2) t)
  WRONG : ∃ t, mg "WRONG" = some (.int (-22) t)
  OWN_GROUP : ∃ t, mg "OWN_GROUP" = some (.int (-17) t)
  NOTHING_TO_DO : ∃ t, mg "NOTHING_TO_DO" = some (.int (-6) t)
  NONE_SUCH : ∃ t, mg "NONE_SUCH" = some (.int (-33) t)
  MOST_PEOPLE : ∃ t, mg "MOST_PEOPLE" = some (.int 5 t)
  MOST_WORTH : ∃ t, mg "MOST_WORTH" = some (.int 20 t)
  LAST_WAY : ∃ t, mg "LAST_WAY" = some (.int 2 t)
  LAST_LEAVING : ∃ t, mg "LAST_LEAVING" = some (.int 1 t)
  LAST_BEST : ∃ t, mg "LAST_BEST" = some (.int 1 t)
  LAST_KIND : ∃ t, mg "LAST_KIND" = some (.int 4 t)
  BEGIN : ∃ t, mg "BEGIN" = some (.int 0 t)
  ROW : ∃ t, mg "ROW" = some (.int 2 t)
  BE : ∃ t, mg "BE" = some (.int 4 t)
  FIRST_ASKING : ∃ t, mg "FIRST_ASKING" = some (.int 9 t)
  PLAIN_NUMBERS : ∃ a, mg "PLAIN_NUMBERS" = some (.ref a) ∧ ∀ H, SqT K H a (nv plain)
abbrev s_ways_there : Stmt := top 15
abbrev N_ways_there : List Str := ["standing", "i", "k"]
abbrev P_ways_there : List Str := ["standing", "i", "k"]
theorem sc_ways_there : FnScope N_ways_there P_ways_there (C8.fnScope s_ways_there) := C8.fnScope_by (by decide +kernel)
def sp_ways_there (Z : Zc) : Sp := fun vs H Q _ => ∃ (a : Addr) (tp : Bool) (t : Ks565.Folk) (g : List Nat) (i k : Nat), vs = [.ref a, .int i, .int k] ∧ StdAt Z tp H a t g ∧ i < t.n ∧ k ≤ Ks565.groups g ∧ RetV H Q (.int (ways t g i k : Nat))
theorem cal_ways_there {Z : Zc} {f : Addr} {fd : FuncData} (F : C8.Def K mg "ways_there" s_ways_there f fd) (b : Binds K fd P_ways_there []) (T : ZTxt K Z) (Cs : Cst K mg) (c_has_in : C8.Cal P w K mg base 1 "has_in" (sp_has_in Z) []) (c_is_welcome : C8.Cal P w K mg base 1 "is_welcome" (sp_is_welcome Z) []) (c_is_let_go : C8.Cal P w K mg base 1 "is_let_go" (sp_is_let_go Z) []) : C8.Cal P w K mg base 2 "ways_there" (sp_ways_there Z) [] := by
  have sc := sc_ways_there; obtain ⟨_, m_EVERY_WAY⟩ := Cs.EVERY_WAY
  refine C8.cal0 F b .nil sc (fun vs H Q E h => ?_) (fun cdv A outer s H vs Q E hr h => ?_)
  · obtain ⟨_, _, _, _, _, _, rfl, _⟩ := h
    rfl
  · refine ⟨_, (pss_cons (ps_if (pt_cmpR op_le (C8.pe_c c_has_in hr (by decide) (by rfl) (pa_cons (pv 0) (pa_cons (pv 1) (pa_cons (pv 2) pa_nil)))) (pe_ix (ixl K rfl) (peF K rfl (pv 0) rfl) (pv 1) (fun _ _ => rfl)) (nomark _)) (pss_one (ps_ret pe_int)) pss_nil)
      (pss_cons (ps_if (pt_not (pt_val (C8.pe_c c_is_welcome hr (by decide) (by rfl) (pa_cons (pv 0) (pa_cons (pv 1) (pa_cons (pv 2) pa_nil)))))) (pss_one (ps_ret pe_int)) pss_nil)
      (pss_cons (ps_if (pt_not (pt_val (C8.pe_c c_is_let_go hr (by decide) (by rfl) (pa_cons (pv 0) (pa_cons (pv 1) pa_nil))))) (pss_one (ps_ret pe_int)) pss_nil)
      (pss_one (ps_ret (pe_glob (v := .int (3)) (by rfl) m_EVERY_WAY ⟨_, rfl⟩)))))), ?_⟩
    obtain ⟨a, tp, t, g, i, k, rfl, hs, hi, hk, q⟩ := h
    refine q_when (et_test (ev_op (ev_call (ea_cons (ev_var rfl) (ea_cons (ev_var rfl) (ea_cons (ev_var rfl) ea_nil))) (has_in_V hs hi hk)) (ev_has T hs hi (ev_var rfl) (ev_var rfl)) rv_I0)) (fun c H1 e => ?_) (fun c H1 e => ?_)
    · refine s_ret ev_c fun H2 e2 => ?_
      have z := q H2 (e.trans e2)
      unfold ways at z
      rw [if_pos (of_decide_eq_true c)] at z
      exact z
    · have c1 : ¬ Ks565.with_ t i (Ks565.members g k) ≤ Ks565.worth t g i := of_decide_eq_false c
      refine q_when (et_not (et_B (ev_call (ea_cons (ev_var rfl) (ea_cons (ev_var rfl) (ea_cons (ev_var rfl) ea_nil))) (is_welcome_V (hs.ex e) hi hk)))) (fun c H2 e2 => ?_) (fun c H2 e2 => ?_)
      · refine s_ret ev_c fun H3 e3 => ?_
        have z := q H3 ((e.trans e2).trans e3)
        unfold ways at z
        rw [if_neg c1, if_pos (by simpa using c)] at z
        exact z
      · have c2 : ¬ Ks565.welcome t g i k = false := by simpa using c
        refine q_when (et_not (et_B (ev_call (ea_cons (ev_var rfl) (ea_cons (ev_var rfl) ea_nil)) (is_let_go_V (hs.ex (e.trans e2)) hi)))) (fun c H3 e3 => ?_) (fun c H3 e3 => ?_)
        · refine s_ret ev_c fun H4 e4 => ?_
          have z := q H4 (((e.trans e2).trans e3).trans e4)
          unfold ways at z
          rw [if_neg c1, if_neg c2, if_pos (by simpa using c)] at z
          exact z
        · refine s_ret ev_c fun H4 e4 => ?_
          have z := q H4 (((e.trans e2).trans e3).trans e4)
          unfold ways at z
          rw [if_neg c1, if_neg c2, if_neg (by simpa using c)] at z
          exact z
theorem ways_there_V {Z : Zc} {tp : Bool} {H : Hp} {a : Addr} {t : Ks565.Folk} {g : List Nat} {i k : Nat} (hs : StdAt Z tp H a t g) (hi : i < t.n) (hk : k ≤ Ks565.groups g) : SpV (sp_ways_there Z) [.ref a, .int (i : Int), .int (k : Int)] H (.int (ways t g i k : Nat)) :=
  fun H1 e Q q _ => ⟨a, tp, t, g, i, k, rfl, hs.ex e, hi, hk, fun H2 e2 => q H2 e2⟩
/-! wished_by -/
abbrev s_wished_by : Stmt := top 16
abbrev N_wished_by : List Str := ["standing", "i", "sums", "now", "k", "there"]
abbrev P_wished_by : List Str := ["standing", "i"]
theorem sc_wished_by : FnScope N_wished_by P_wished_by (C8.fnScope s_wished_by) := C8.fnScope_by (by decide +kernel)
def sp_wished_by (Z : Zc) : Sp := fun vs H Q _ => ∃ (a : Addr) (tp : Bool) (t : Ks565.Folk) (g : List Nat) (i : Nat), vs = [.ref a, .int i] ∧ StdAt Z tp H a t g ∧ i < t.n ∧ RetL H Q (nv (wishes t g i))
theorem cal_wished_by {Z : Zc} {f : Addr} {fd : FuncData} (F : C8.Def K mg "wished_by" s_wished_by f fd) (b : Binds K fd P_wished_by []) (B : Blt mg) (T : ZTxt K Z) : C8.Cal P w K mg base 1 "wished_by" (sp_wished_by Z) [] := by
  have sc := sc_wished_by; have b_enumerate := B.enumerate
  refine C8.cal0 F b .nil sc (fun vs H Q E h => ?_) (fun cdv A outer s H vs Q E hr h => ?_)
  · obtain ⟨_, _, _, _, _, rfl, _⟩ := h
    rfl
  · refine ⟨_, (pss_cons (ps_set (i := 2) sc.nd rfl (.inr rfl) (pe_ix (ixl K rfl) (peF K rfl (peF K rfl (pv 0) rfl) rfl) (pv 1) (fun _ _ => rfl)))
      (pss_cons (ps_set (i := 3) sc.nd rfl (.inr rfl) (pe_ix (ixl K rfl) (peF K rfl (pv 0) rfl) (pv 1) (fun _ _ => rfl)))
      (pss_one (ps_ret (pe_lc (own := [("k", 4), ("there", 5)]) rfl sc.nd (piE K rfl (by rfl) b_enumerate (pa_cons (peF K rfl (pv 0) rfl) pa_nil)) (blkOk_by (own := [("k", 4), ("there", 5)]) (N := N_wished_by) (sc := C8.fnScope s_wished_by) (by decide +kernel)) (fun _ _ _ _ _ => (pgt (n := 2) K rfl rfl (pgs_cons (pg_name (i := 4) sc.nd rfl (Or.inl rfl)) (pgs_cons (pg_name (i := 5) sc.nd rfl (Or.inl rfl)) pgs_nil)))) (fun _ _ _ _ _ => (pts_one (pt_cmpR op_gt (pe_ix (ixl K rfl) (pv 2) (pv 5) (fun _ _ => rfl)) (pv 3) (nomark _)))) (fun _ _ _ _ _ => (pv 4))))))), ?_⟩
    obtain ⟨a, tp, t, g, i, rfl, hs, hi, q⟩ := h
    obtain ⟨al, hl, evl⟩ := ev_liking T hs
    obtain ⟨r, hr1, evr⟩ := ev_sumsRow T (σ := L2.start N_wished_by [.ref a, .int (i : Int)]) (ta := tFld K (tVar 0) "liking") (tb := tVar 1) hl hi (evl (Ex.refl H) (ev_var rfl)) (ev_var rfl)
    refine q_asg evr fun H1 e1 => ?_
    refine q_asg (ev_has T (hs.ex e1) hi (ev_var rfl) (ev_var rfl)) fun H2 e2 => ?_
    have e12 := e1.trans e2
    obtain ⟨ar, har, evp⟩ := ev_places T (hs.ex e12)
    have hG := hs.grp
    have h5 := hs.le5
    have hpl : (nv (placesOf g)).length = Ks565.groups g + 1 := by rw [nv_len, placesOf_len]
    refine s_retL (el_lcE (K := K) (j1 := 4) (j2 := 5) (xs := nv (placesOf g)) (fun k => decide (Ks565.worth t g i < Ks565.with_ t i (Ks565.members g k))) (fun k => V.int (k : Int)) (evp (Ex.refl H2) (ev_var rfl)) (sq_of har) (by omega) (fun x y => rfl) (fun k x H3 e3 hx => ?_) (fun k x H3 e3 hx _ => ev_var rfl)) fun p H3 hp e3 h3 => ?_
    · obtain ⟨m, hm, rfl⟩ := nv_inv hx
      have hk : k ≤ Ks565.groups g := by
        have := (List.getElem?_eq_some_iff.mp hx).1
        omega
      rw [placesOf_at hk] at hm
      have hm := Option.some.inj hm
      subst hm
      have z := sumsTo_at (t := t) (i := i) (mask_lt (n := t.n) (k := k) hs.len)
      rw [set_mask hs.len] at z
      exact et_test (ev_op (ev_op (ev_var rfl) (ev_var rfl) (rv_ixL (sq_of (e3 _ _ (e12 _ _ hr1))) (atI_nat (iv_at z)))) (ev_var rfl) rv_I0)
    · refine q p H3 (fresh_back e12 hp) (e12.trans e3) ?_
      rw [h3, hpl, given_nat]
      rfl
theorem wished_by_L {Z : Zc} {tp : Bool} {H : Hp} {a : Addr} {t : Ks565.Folk} {g : List Nat} {i : Nat} (hs : StdAt Z tp H a t g) (hi : i < t.n) : SpL (sp_wished_by Z) [.ref a, .int (i : Int)] H (nv (wishes t g i)) :=
  fun H1 e Q q _ => ⟨a, tp, t, g, i, rfl, hs.ex e, hi, fun p H2 hp e2 h2 => q p H2 hp e2 h2⟩
/-! moves_by -/
def PairsAt (H : Hp) (a : Addr) (l : List (Nat × Nat)) : Prop := ∃ ps : List Addr, H a = some (.lst (ps.map V.ref)) ∧ ps.length = l.length ∧
  ∀ (j : Nat) (p : Addr), ps[j]? = some p → ∃ x, l[j]? = some x ∧ H p = some (.tup [.int ((x.1 : Nat) : Int), .int ((x.2 : Nat) : Int)])
theorem PairsAt.keep {H H' : Hp} {a : Addr} {l : List (Nat × Nat)} (x : PairsAt H a l) (e : ∀ b xs, H b = some (.lst xs) → H' b = some (.lst xs)) (e2 : ∀ b xs, H b = some (.tup xs) → H' b = some (.tup xs)) : PairsAt H' a l := by
  obtain ⟨ps, h1, h2, h3⟩ := x
  refine ⟨ps, e _ _ h1, h2, fun j p hj => ?_⟩
  obtain ⟨y, a1, a2⟩ := h3 j p hj
  exact ⟨y, a1, e2 _ _ a2⟩
theorem PairsAt.ex {H H' : Hp} {a : Addr} {l : List (Nat × Nat)} (x : PairsAt H a l) (e : Ex H H') : PairsAt H' a l := x.keep (fun b _ h => e b _ h) fun b _ h => e b _ h
theorem PairsAt.nil {H : Hp} {a : Addr} (h : H a = some (.lst [])) : PairsAt H a [] := ⟨[], h, rfl, fun j p hj => by simp at hj⟩
theorem PairsAt.lst {H : Hp} {a : Addr} {l : List (Nat × Nat)} (x : PairsAt H a l) : ∃ xs, H a = some (.lst xs) ∧ xs.length = l.length := by
  obtain ⟨ps, h1, h2, _⟩ := x
  exact ⟨_, h1, by rw [List.length_map]; exact h2⟩
theorem PairsAt.snoc {H H1 : Hp} {a p : Addr} {l : List (Nat × Nat)} {xs : List V} {x : Nat × Nat} (h : PairsAt H a l) (hx : H a = some (.lst xs)) (e : Ex H H1) (hp : H1 p = some (.tup [.int ((x.1 : Nat) : Int), .int ((x.2 : Nat) : Int)])) : PairsAt (upd H1 a (.lst (xs ++ [.ref p]))) a (l ++ [x]) := by
  obtain ⟨ps, h1, h2, h3⟩ := h
  rw [h1] at hx
  cases hx
  have ne : ∀ {b : Addr} {ys : List V}, H1 b = some (.tup ys) → b ≠ a := fun {b ys} hb z => by
    rw [z, e _ _ h1] at hb
    cases hb
  refine ⟨ps ++ [p], ?_, by rw [List.length_append, List.length_append, h2]; rfl, fun j q hj => ?_⟩
  · rw [upd_same, List.map_append]
    rfl
  · by_cases hlt : j < ps.length
    · rw [List.getElem?_append_left hlt] at hj
      obtain ⟨y, a1, a2⟩ := h3 j q hj
      refine ⟨y, by rw [List.getElem?_append_left (by omega)]; exact a1, ?_⟩
      rw [upd_ne (ne (e _ _ a2))]
      exact e _ _ a2
    · rw [List.getElem?_append_right (by omega)] at hj
      obtain ⟨hj1, hj2⟩ := List.getElem?_eq_some_iff.mp hj
      have hj0 : j = ps.length := by simp at hj1; omega
      subst hj0
      have hq : p = q := by simpa using hj2
      subst hq
      refine ⟨x, by rw [h2, List.getElem?_append_right (Nat.le_refl _)]; simp, ?_⟩
      rw [upd_ne (ne hp)]
      exact hp
theorem PairsAt.gr {H H' : Hp} {a : Addr} {l : List (Nat × Nat)} (x : PairsAt H a l) (e : ExtN H H') : PairsAt H' a l := x.keep (fun b _ h => ExtN.l e h) fun b _ h => ExtN.t e h
theorem PairsAt.at_ {H : Hp} {a : Addr} {l : List (Nat × Nat)} (h : PairsAt H a l) {xs : List V} (hx : H a = some (.lst xs)) {j : Nat} {x : V} (hj : xs[j]? = some x) : ∃ (p : Addr) (y : Nat × Nat), x = .ref p ∧ l[j]? = some y ∧ H p = some (.tup [.int ((y.1 : Nat) : Int), .int ((y.2 : Nat) : Int)]) := by
  obtain ⟨ps, h1, h2, h3⟩ := h
  rw [h1] at hx
  cases hx
  rw [List.getElem?_map] at hj
  cases e : ps[j]? with
  | none => rw [e] at hj; cases hj
  | some p =>
    rw [e] at hj
    obtain ⟨y, a1, a2⟩ := h3 j p e
    exact ⟨p, y, (Option.some.inj hj).symm, a1, a2⟩
abbrev s_moves_by : Stmt := top 17
abbrev N_moves_by : List Str := ["standing", "way", "found", "i", "k"]
abbrev P_moves_by : List Str := ["standing", "way"]
theorem sc_moves_by : FnScope N_moves_by P_moves_by (C8.fnScope s_moves_by) := C8.fnScope_by (by decide +kernel)
def sp_moves_by (Z : Zc) : Sp := fun vs H Q _ => ∃ (a : Addr) (tp : Bool) (t : Ks565.Folk) (g : List Nat) (w : Nat), vs = [.ref a, .int w] ∧ StdAt Z tp H a t g ∧ w ≤ 2 ∧
  ∀ p H', H p = none → Ex H H' → PairsAt H' p (Ks565.moves t w g) → Q (.ref p) H'
theorem cal_moves_by {Z : Zc} {f : Addr} {fd : FuncData} (F : C8.Def K mg "moves_by" s_moves_by f fd) (b : Binds K fd P_moves_by []) (B : Blt mg) (T : ZTxt K Z) (c_wished_by : C8.Cal P w K mg base 1 "wished_by" (sp_wished_by Z) []) (c_ways_there : C8.Cal P w K mg base 2 "ways_there" (sp_ways_there Z) []) : C8.Cal P w K mg base 3 "moves_by" (sp_moves_by Z) [] := by
  have sc := sc_moves_by; have b_range := B.range; have b_len := B.len
  refine C8.cal0 F b .nil sc (fun vs H Q E h => ?_) (fun cdv A outer s H vs Q E hr h => ?_)
  · obtain ⟨_, _, _, _, _, rfl, _⟩ := h
    rfl
  · refine ⟨_, (pss_cons (ps_set (i := 2) sc.nd rfl (.inl rfl) (pe_lst pa_nil))
      (pss_cons (ps_for PassesOwn.never rfl (pi_range1 rfl b_range (pa_cons (pe_callB (cLen K rfl) (by rfl) b_len (by decide +kernel) (pa_cons (peF K rfl (pv 0) rfl) pa_nil)) pa_nil)) (pg_name (i := 3) sc.nd rfl (.inl rfl)) (pss_one (ps_for PassesOwn.never rfl (piL K rfl (C8.pe_c c_wished_by hr (by decide) (by rfl) (pa_cons (pv 0) (pa_cons (pv 3) pa_nil)))) (pg_name (i := 4) sc.nd rfl (.inl rfl)) (pss_one (ps_if (pt_cmpR op_gt (C8.pe_c c_ways_there hr (by decide) (by rfl) (pa_cons (pv 0) (pa_cons (pv 3) (pa_cons (pv 4) pa_nil)))) (pv 1) (nomark _)) (pss_one (ps_expr (pe_bm PySem.F.plainAttrs_list PySem.F.slot_list_append PySem.F.type_list_append (mt_append) (pv 2) (pa_cons (pe_tup (pa_cons (pv 3) (pa_cons (pv 4) pa_nil))) pa_nil)))) pss_nil)))))
      (pss_one (ps_ret (pv 2))))), ?_⟩
    obtain ⟨a, tp, t, g, w, rfl, hs, hw2, q⟩ := h
    have hG := hs.grp
    have h5 := hs.le5
    refine q_asgL (el_lst ea_nil (by decide)) fun D H0 hD e0 d0 => ?_
    refine q_forR1 (n := ((t.n : Nat) : Int)) (ea_cons (ev_nGrp T (hs.ex e0) (ev_var rfl)) ea_nil) (by omega)
      (fun i σ' H' => ∃ v3 v4, σ' = [some (.ref a), some (.int (w : Int)), some (.ref D), v3, v4] ∧ Ex H H' ∧ PairsAt H' D (movesTo t w g i)) (fun H1 e => ⟨none, none, rfl, e0.trans e, PairsAt.nil (e _ _ d0)⟩) ?_ ?_
    · rintro i _ H1 hi ⟨v3, v4, rfl, e1, p1⟩
      have hi' : i < t.n := by omega
      obtain ⟨ys, hys, _⟩ := p1.lst
      refine s_forNL (g := gName 4) (el_call (ea_cons (ev_var rfl) (ea_cons (ev_var rfl) ea_nil)) (wished_by_L (hs.ex e1) hi'))
        (fun p j σ' H' => p ≠ D ∧ ∃ v4, σ' = [some (.ref a), some (.int (w : Int)), some (.ref D), some (.int (i : Int)), v4] ∧ Ex H H' ∧ H' p = some (.lst (nv (wishes t g i))) ∧ PairsAt H' D (movesTo t w g i ++ movesW t w g i j))
        (fun p H2 hp e h2 => ⟨(fun z => (by rw [z, hys] at hp; cases hp)), v4, rfl, e1.trans e, h2, by rw [show movesW t w g i 0 = [] from rfl, List.append_nil]; exact p1.ex e⟩) (fun p j σ' H' _ ⟨_, _, _, _, h, _⟩ => sq_of h) ?_ ?_
      · rintro p j x _ H2 hx ⟨hpD, v4', rfl, e2, l2, p2⟩
        obtain ⟨k, hk, rfl⟩ := nv_inv hx
        have hkg := wishes_le (List.mem_of_getElem? hk)
        have hgt : EvT (tTest (tOp (rI0 fun i j => V.bl (decide (j < i))) (tCall (sp_ways_there Z) [] C8.E0 (tCons (tVar 0) (tCons (tVar 3) (tCons (tVar 4) tNil)))) (tVar 1))) [some (.ref a), some (.int (w : Int)), some (.ref D), some (.int (i : Int)), some (.int (k : Int))] H2 (decide ((w : Int) < ((ways t g i k : Nat) : Int))) :=
          et_test (ev_op (ev_call (ea_cons (ev_var rfl) (ea_cons (ev_var rfl) (ea_cons (ev_var rfl) ea_nil))) (ways_there_V (hs.ex e2) hi' hkg)) (ev_var rfl) rv_I0)
        refine s_if hgt (fun c H3 e3 => ?_) (fun c H3 e3 => ?_)
        · have c := Int.ofNat_lt.mp (of_decide_eq_true c)
          obtain ⟨xs, hxs, hl⟩ := (p2.ex e3).lst
          have hlen : xs.length < 100000 := by
            rw [hl, List.length_append]
            have z1 := movesTo_len t w g i
            have z2 := movesW_len t w g i j
            have z3 : i * (Ks565.groups g + 1) ≤ 5 * 6 := Nat.mul_le_mul (by omega) (by omega)
            omega
          refine s_appU hxs (ev_var rfl) (eu_tup (ea_cons (ev_var rfl) (ea_cons (ev_var rfl) ea_nil)) (by show 2 ≤ 100000; decide)) hlen fun pn H4 hp e4 h4 => ?_
          refine ⟨hpD, _, rfl, ((e2.trans e3).trans e4).mut hD, (upd_ne hpD).trans (e4 _ _ (e3 _ _ l2)), ?_⟩
          rw [movesW_yes hk c, ← List.append_assoc]
          exact (p2.ex e3).snoc (x := (i, k)) hxs e4 h4
        · have c : ¬ w < ways t g i k := fun z => of_decide_eq_false c (Int.ofNat_lt.mpr z)
          refine ⟨hpD, _, rfl, e2.trans e3, e3 _ _ l2, ?_⟩
          rw [movesW_no hk c]
          exact p2.ex e3
      · rintro p _ H2 ⟨hpD, v4', rfl, e2, l2, p2⟩
        refine ⟨_, _, rfl, e2, ?_⟩
        rw [movesTo_succ hw2]
        rw [nv_len] at p2
        exact p2
    · rintro _ H1 ⟨v3, v4, rfl, e1, p1⟩
      exact s_ret (ev_var rfl) fun H2 e2 => q D H2 hD (e1.trans e2) (p1.ex e2)
def IsPairs (l : List (Nat × Nat)) : V → Hp → Prop := fun v H => ∃ p, v = .ref p ∧ PairsAt H p l
theorem moves_by_P {Z : Zc} {tp : Bool} {H : Hp} {a : Addr} {t : Ks565.Folk} {g : List Nat} {w : Nat} (hs : StdAt Z tp H a t g) (hw : w ≤ 2) : SpP (sp_moves_by Z) [.ref a, .int (w : Int)] H (IsPairs (Ks565.moves t w g)) :=
  fun H1 e Q q _ => ⟨a, tp, t, g, w, rfl, hs.ex e, hw, fun p H2 hp e2 h2 => q _ H2 e2 ⟨p, rfl, h2⟩⟩
/-! ways_anywhere -/
abbrev s_ways_anywhere : Stmt := top 18
abbrev N_ways_anywhere : List Str := ["standing", "most", "i", "k"]
abbrev P_ways_anywhere : List Str := ["standing"]
theorem sc_ways_anywhere : FnScope N_ways_anywhere P_ways_anywhere (C8.fnScope s_ways_anywhere) := C8.fnScope_by (by decide +kernel)
def sp_ways_anywhere (Z : Zc) : Sp := fun vs H Q _ => ∃ (a : Addr) (tp : Bool) (t : Ks565.Folk) (g : List Nat), vs = [.ref a] ∧ StdAt Z tp H a t g ∧ RetV H Q (.int (waysAny t g : Nat))
/-- what is known of the most so far -/
structure MostW (t : Ks565.Folk) (g : List Nat) (i : Nat) (m : Nat) : Prop where
  le : m ≤ 3
  ub : ∀ j, j < i → ∀ k, k ≤ Ks565.groups g → ways t g j k ≤ m
  at_ : m = 0 ∨ ∃ j, j < t.n ∧ ∃ k, k ≤ Ks565.groups g ∧ ways t g j k = m
theorem cal_ways_anywhere {Z : Zc} {f : Addr} {fd : FuncData} (F : C8.Def K mg "ways_anywhere" s_ways_anywhere f fd) (b : Binds K fd P_ways_anywhere []) (B : Blt mg) (T : ZTxt K Z) (Cs : Cst K mg) (c_wished_by : C8.Cal P w K mg base 1 "wished_by" (sp_wished_by Z) []) (c_ways_there : C8.Cal P w K mg base 2 "ways_there" (sp_ways_there Z) []) : C8.Cal P w K mg base 3 "ways_anywhere" (sp_ways_anywhere Z) [] := by
  have sc := sc_ways_anywhere; have b_range := B.range; have b_len := B.len; have b_max := B.max; obtain ⟨_, m_EVERY_WAY⟩ := Cs.EVERY_WAY
  refine C8.cal0 F b .nil sc (fun vs H Q E h => ?_) (fun cdv A outer s H vs Q E hr h => ?_)
  · obtain ⟨_, _, _, _, rfl, _⟩ := h
    rfl
  · refine ⟨_, (pss_cons (ps_set (i := 1) sc.nd rfl (.inl rfl) pe_int)
      (pss_cons (ps_for PassesOwn.never rfl (pi_range1 rfl b_range (pa_cons (pe_callB (cLen K rfl) (by rfl) b_len (by decide +kernel) (pa_cons (peF K rfl (pv 0) rfl) pa_nil)) pa_nil)) (pg_name (i := 2) sc.nd rfl (.inl rfl)) (pss_cons (ps_for PassesOwn.never rfl (piL K rfl (C8.pe_c c_wished_by hr (by decide) (by rfl) (pa_cons (pv 0) (pa_cons (pv 2) pa_nil)))) (pg_name (i := 3) sc.nd rfl (.inl rfl)) (pss_one (ps_set (i := 1) sc.nd rfl (.inl rfl) (pe_callB (call_max2 rfl) (by rfl) b_max (by decide +kernel) (pa_cons (pv 1) (pa_cons (C8.pe_c c_ways_there hr (by decide) (by rfl) (pa_cons (pv 0) (pa_cons (pv 2) (pa_cons (pv 3) pa_nil)))) pa_nil))))))
      (pss_one (ps_if (pt_cmpR op_eq (pv 1) (pe_glob (v := .int (3)) (by rfl) m_EVERY_WAY ⟨_, rfl⟩) (nomark _)) (pss_one (ps_ret (pv 1))) pss_nil))))
      (pss_one (ps_ret (pv 1))))), ?_⟩
    obtain ⟨a, tp, t, g, rfl, hs, q⟩ := h
    have h5 := hs.le5
    refine q_asg ev_c fun H0 e0 => ?_
    refine q_forR1 (n := ((t.n : Nat) : Int)) (ea_cons (ev_nGrp T (hs.ex e0) (ev_var rfl)) ea_nil) (by omega)
      (fun i σ' H' => ∃ (m : Nat) (v2 v3 : Option V), σ' = [some (.ref a), some (.int (m : Int)), v2, v3] ∧ Ex H H' ∧ MostW t g i m) (fun H1 e => ⟨0, none, none, rfl, e0.trans e, Nat.zero_le _, fun j hj => absurd hj (Nat.not_lt_zero j), .inl rfl⟩) ?_ ?_
    · rintro i _ H1 hi ⟨m, v2, v3, rfl, e1, w1⟩
      have hi' : i < t.n := by omega
      refine q_forNL (g := gName 3) (el_call (ea_cons (ev_var rfl) (ea_cons (ev_var rfl) ea_nil)) (wished_by_L (hs.ex e1) hi'))
        (fun p j σ' H' => ∃ (m : Nat) (v3 : Option V), σ' = [some (.ref a), some (.int (m : Int)), some (.int (i : Int)), v3] ∧ Ex H H' ∧ H' p = some (.lst (nv (wishes t g i))) ∧ MostW t g i m ∧ ∀ k ∈ (wishes t g i).take j, ways t g i k ≤ m)
        (fun p H2 hp e h2 => ⟨m, v3, rfl, e1.trans e, h2, w1, fun k hk => by rw [List.take_zero] at hk; cases hk⟩) (fun p j σ' H' _ ⟨_, _, _, _, h, _⟩ => sq_of h) ?_ ?_
      · rintro p j x _ H2 hx ⟨m, v3', rfl, e2, l2, w2, u2⟩
        obtain ⟨k, hk, rfl⟩ := nv_inv hx
        have hkg := wishes_le (List.mem_of_getElem? hk)
        have emax : (if ((ways t g i k : Nat) : Int) > (m : Int) then ((ways t g i k : Nat) : Int) else (m : Int)) = ((max m (ways t g i k) : Nat) : Int) := by
          by_cases c : ways t g i k > m
          · rw [if_pos (by omega), Nat.max_eq_right (by omega)]
          · rw [if_neg (by omega), Nat.max_eq_left (by omega)]
        refine s_asg (ev_is (ev_cb (ea_cons (ev_var rfl) (ea_cons (ev_call (ea_cons (ev_var rfl) (ea_cons (ev_var rfl) (ea_cons (ev_var rfl) ea_nil))) (ways_there_V (hs.ex e2) hi' hkg)) ea_nil)) (fun H3 _ Q' q' => ⟨_, _, rfl, q' H3 (Ex.refl H3)⟩)) (congrArg V.int emax)) fun H3 e3 => ?_
        have h3 := ways_le3 t g i k
        refine ⟨max m (ways t g i k), _, rfl, e2.trans e3, e3 _ _ l2, ⟨Nat.max_le.mpr ⟨w2.le, h3⟩, fun j' hj' k' hk' => Nat.le_trans (w2.ub j' hj' k' hk') (Nat.le_max_left _ _), ?_⟩, fun k' hk' => ?_⟩
        · by_cases c : ways t g i k ≤ m
          · rw [Nat.max_eq_left c]
            exact w2.at_
          · rw [Nat.max_eq_right (by omega)]
            exact .inr ⟨i, hi', k, hkg, rfl⟩
        · rw [List.take_add_one, hk] at hk'
          rcases List.mem_append.mp hk' with z | z
          · exact Nat.le_trans (u2 k' z) (Nat.le_max_left _ _)
          · have z : k' = k := by simpa using z
            rw [z]
            exact Nat.le_max_right _ _
      · rintro p _ H2 ⟨m, v3', rfl, e2, l2, w2, u2⟩
        rw [nv_len, List.take_length] at u2
        have w3 : MostW t g (i + 1) m := ⟨w2.le, fun j hj k hk => by
          rcases Nat.lt_succ_iff_lt_or_eq.mp hj with z | z
          · exact w2.ub j z k hk
          · rw [z]
            by_cases c : 0 < ways t g i k
            · exact u2 k (mem_wishes hk c)
            · omega, w2.at_⟩
        refine s_when (et_test (ev_op (ev_var rfl) ev_c (rv_eq rfl))) (fun c H3 e3 => ?_) (fun c H3 e3 => ⟨m, _, _, rfl, e2.trans e3, w3⟩)
        have hm : m = 3 := by have := of_decide_eq_true c; injection this with z; omega
        refine s_ret (ev_var rfl) fun H4 e4 => ?_
        have z := q H4 ((e2.trans e3).trans e4)
        rw [waysAny_of (m := m) w3.le (fun j hj k hk => by rw [hm]; exact ways_le3 _ _ _ _) w3.at_] at z
        exact z
    · rintro _ H1 ⟨m, v2, v3, rfl, e1, w1⟩
      refine s_ret (ev_var rfl) fun H2 e2 => ?_
      have z := q H2 (e1.trans e2)
      rw [Int.toNat_natCast] at w1
      rw [waysAny_of w1.le w1.ub w1.at_] at z
      exact z
theorem ways_anywhere_V {Z : Zc} {tp : Bool} {H : Hp} {a : Addr} {t : Ks565.Folk} {g : List Nat} (hs : StdAt Z tp H a t g) : SpV (sp_ways_anywhere Z) [.ref a] H (.int (waysAny t g : Nat)) := fun H1 e Q q _ => ⟨a, tp, t, g, rfl, hs.ex e, fun H2 e2 => q H2 e2⟩
/-! is_at_rest -/
abbrev s_is_at_rest : Stmt := top 19
abbrev N_is_at_rest : List Str := ["standing", "way"]
abbrev P_is_at_rest : List Str := ["standing", "way"]
theorem sc_is_at_rest : FnScope N_is_at_rest P_is_at_rest (C8.fnScope s_is_at_rest) := C8.fnScope_by (by decide +kernel)
def sp_is_at_rest (Z : Zc) : Sp := fun vs H Q _ => ∃ (a : Addr) (tp : Bool) (t : Ks565.Folk) (g : List Nat) (w : Nat), vs = [.ref a, .int w] ∧ StdAt Z tp H a t g ∧ w ≤ 2 ∧ RetV H Q (.bl (Ks565.rests t w g))
theorem cal_is_at_rest {Z : Zc} {f : Addr} {fd : FuncData} (F : C8.Def K mg "is_at_rest" s_is_at_rest f fd) (b : Binds K fd P_is_at_rest []) (c_ways_anywhere : C8.Cal P w K mg base 3 "ways_anywhere" (sp_ways_anywhere Z) []) : C8.Cal P w K mg base 4 "is_at_rest" (sp_is_at_rest Z) [] := by
  have sc := sc_is_at_rest
  refine C8.cal0 F b .nil sc (fun vs H Q E h => ?_) (fun cdv A outer s H vs Q E hr h => ?_)
  · obtain ⟨_, _, _, _, _, rfl, _⟩ := h
    rfl
  · refine ⟨_, (pss_one (ps_ret (pe_cmpR op_le (C8.pe_c c_ways_anywhere hr (by decide) (by rfl) (pa_cons (pv 0) pa_nil)) (pv 1) (nomark _)))), ?_⟩
    obtain ⟨a, tp, t, g, w, rfl, hs, hw, q⟩ := h
    refine s_ret (ev_op (ev_call (ea_cons (ev_var rfl) ea_nil) (ways_anywhere_V hs)) (ev_var rfl) rv_I0) ?_
    rw [← waysAny_le hw] at q
    rw [show decide (((waysAny t g : Nat) : Int) ≤ (w : Int)) = decide (waysAny t g ≤ w) from decide_eq_decide.mpr Int.ofNat_le]
    exact q
theorem is_at_rest_V {Z : Zc} {tp : Bool} {H : Hp} {a : Addr} {t : Ks565.Folk} {g : List Nat} {w : Nat} (hs : StdAt Z tp H a t g) (hw : w ≤ 2) : SpV (sp_is_at_rest Z) [.ref a, .int (w : Int)] H (.bl (Ks565.rests t w g)) := fun H1 e Q q _ => ⟨a, tp, t, g, w, rfl, hs.ex e, hw, fun H2 e2 => q H2 e2⟩
/-! gone -/
abbrev s_gone : Stmt := top 23
abbrev N_gone : List Str := ["groups", "i", "k", "m"]
abbrev P_gone : List Str := ["groups", "i", "k"]
theorem sc_gone : FnScope N_gone P_gone (C8.fnScope s_gone) := C8.fnScope_by (by decide +kernel)
def sp_gone : Sp := fun vs H Q _ => ∃ (a : Addr) (g : List Nat) (i k : Nat), vs = [.ref a, .int i, .int k] ∧ SqN H a (nv g) ∧ g.length ≤ 1000 ∧ RetL H Q (nv (Ks565.go g i k))
theorem set_range (g : List Nat) (i k : Nat) : (List.range g.length).map (fun m => if m = i then k else g.getD m 0) = g.set i k := by
  apply List.ext_getElem?
  intro j
  rw [List.getElem?_map]
  by_cases hj : j < g.length
  · rw [List.getElem?_range hj]
    by_cases e : j = i
    · subst e
      rw [List.getElem?_set_self hj]
      simp
    · rw [List.getElem?_set_ne (Ne.symm e), List.getElem?_eq_getElem hj]
      simp [e, List.getD_eq_getElem?_getD, List.getElem?_eq_getElem hj]
  · rw [List.getElem?_eq_none (by rw [List.length_range]; omega), List.getElem?_eq_none (by rw [List.length_set]; omega)]
    rfl
theorem cal_gone {f : Addr} {fd : FuncData} (F : C8.Def K mg "gone" s_gone f fd) (b : Binds K fd P_gone []) (B : Blt mg) (c_numbered : C8.Cal P w K mg base 1 "numbered" sp_numbered []) : C8.Cal P w K mg base 2 "gone" sp_gone [] := by
  have sc := sc_gone; have b_range := B.range; have b_len := B.len
  refine C8.cal0 F b .nil sc (fun vs H Q E h => ?_) (fun cdv A outer s H vs Q E hr h => ?_)
  · obtain ⟨_, _, _, _, rfl, _⟩ := h
    rfl
  · refine ⟨_, (pss_one (ps_ret (C8.pe_c c_numbered hr (by decide) (by rfl) (pa_cons (pe_lc (own := [("m", 3)]) rfl sc.nd (pi_range1 rfl b_range (pa_cons (pe_callB (cLen K rfl) (by rfl) b_len (by decide +kernel) (pa_cons (pv 0) pa_nil)) pa_nil)) (blkOk_by (own := [("m", 3)]) (N := N_gone) (sc := C8.fnScope s_gone) (by decide +kernel)) (fun _ _ _ _ _ => (pg_name (i := 3) sc.nd rfl (Or.inl rfl))) (fun _ _ _ _ _ => pts_nil) (fun _ _ _ _ _ => (pe_ifExp (pt_cmpR op_eq (pv 3) (pv 1) (nomark _)) (pv 2) (pe_ix (ixs K rfl) (pv 0) (pv 3) (fun _ _ => rfl))))) pa_nil)))), ?_⟩
    obtain ⟨a, g, i, k, rfl, ha, hz, q⟩ := h
    refine s_retL (el_call1 (el_rng (fun m => V.int ((if m = i then k else g.getD m 0 : Nat) : Int)) (ea_cons (ev_lenG (ev_var rfl) ha.sq) ea_nil) (by rw [nv_len]; exact hz) (fun x => rfl) fun m H1 e hm => ?_) fun p H1 h1 e => numbered_L (g := g.set i k) ?_ (by rw [List.length_set]; exact hz)) q
    · refine ev_if (et_test (ev_op (ev_var rfl) (ev_var rfl) (rv_eq rfl))) (fun c => ?_) (fun c => ?_)
      · have c' : m = i := by have := of_decide_eq_true c; injection this with z; omega
        rw [if_pos c']
        exact ev_var rfl
      · have c' : ¬ m = i := fun z => of_decide_eq_false c (by rw [z])
        rw [if_neg c']
        exact ev_op (ev_var rfl) (ev_var rfl) (rv_ixG (ha.ex e).sq (atI_nat (nv_get (by rw [nv_len] at hm; exact hm))))
    · rw [h1, nv_len, ← set_range]
      unfold nv
      rw [List.map_map]
      rfl
theorem gone_L {H : Hp} {a : Addr} {g : List Nat} {i k : Nat} (ha : SqN H a (nv g)) (hz : g.length ≤ 1000) : SpL sp_gone [.ref a, .int (i : Int), .int (k : Int)] H (nv (Ks565.go g i k)) :=
  fun H1 e Q q _ => ⟨a, g, i, k, rfl, ha.ex e, hz, fun p H2 hp e2 h2 => q p H2 hp e2 h2⟩
end Rg

set_option Elab.async false
set_option maxRecDepth 100000
set_option maxHeartbeats 2000000
set_option linter.unusedVariables false
/-! most_among, best_place, step_by -/
namespace Rg
open PySem PySem.Spec PyProof.Rows L2 Evl LamX NdefX
/-- the name of the lambdas of a def -/
abbrev lamName (x : Str) : Str := (x ++ ".<locals>.") ++ "<lambda>"
structure DefC (K : PySem.W.Frag) (mg : Str → Option Value) (x : Str) (st : Stmt) (f c : Addr) (fd : FuncData) : Prop where
  ex : ∃ (oc : Value) (od : Option Addr) (kV doc pm : Value) (an : Option Addr) (ct : Value) (osl : Array (Option Value)),
    fd = PySem.W.fnOf x x (C8.fnArgs st) (C8.fnBody st) (C8.fnScope st) .none kV doc pm an (.ref c) ct ∧ K.lookup f = some ⟨oc, od, .func fd, osl⟩ ∧ PySem.W.codeIn K (.ref c) x = true
  mgf : mg x = some (.ref f)
  kp : PySem.W.keepIn K (.ref f) = true
variable {P : Program} {w : World} {K : PySem.W.Frag} {mg : Str → Option Value} {base : Heap}
theorem calC {x : Str} {st : Stmt} {f c : Addr} {fd : FuncData} {N ps : List Str} {k : Nat} {sp : Sp} (F : DefC K mg x st f c fd) (b : Binds K fd ps []) (S : FnScope N ps (C8.fnScope st)) (len : ∀ vs H Q E, sp vs H Q E → vs.length = ps.length)
    (hbody : ∀ (A : Around) (outer : List Env) (s : Shared) (H : Hp) (vs : List V) (Q : VK) (E : XK), Room k (A.deeper (envOfC x (C8.fnScope st) s.heap.objs.size f (.ref c))) → sp vs H Q E →
      ∃ t, PSs (cxOf C8.CX0 P w K mg base N x (C8.fnScope st) f (.ref c) A outer s H E).nox (C8.fnBody st) t ∧ t { nx := fun _ H' => Q .non H', rt := Q } (L2.start N vs) H) : C8.Cal P w K mg base (k + 1) x sp [] := by
  obtain ⟨oc, od, kV, doc, pm, an, ct, osl, rfl, lk, hcd⟩ := F.ex
  refine ⟨f, _, ps, [], ?_, F.mgf, F.kp, b, .nil⟩
  refine fn_of lk hcd S len fun A outer s H vs Q E hr hsp => ?_
  obtain ⟨t, h1, h2⟩ := hbody A outer s H vs Q E hr hsp
  exact ⟨t, h1.nox, h2⟩
theorem argBest_fold (v : Nat → Int) (k : Nat) (l : List Nat) : ∀ j, j ≤ l.length → (k :: l)[argBest (fun x y => decide (v ((k :: l).getD y 0) < v ((k :: l).getD x 0))) j]? = some (bestFold v k (l.take j))
  | 0, _ => rfl
  | j + 1, hj => by
    have ih := argBest_fold v k l j (by omega)
    have hget : (k :: l)[j + 1]? = some (l.getD j 0) := by
      show l[j]? = _
      rw [List.getD_eq_getElem?_getD, List.getElem?_eq_getElem (by omega)]
      rfl
    have htake : l.take (j + 1) = l.take j ++ [l.getD j 0] := by
      rw [List.take_add_one, List.getD_eq_getElem?_getD, List.getElem?_eq_getElem (by omega)]
      rfl
    have e1 : (k :: l).getD (j + 1) 0 = l.getD j 0 := rfl
    have e2 : (k :: l).getD (argBest (fun x y => decide (v ((k :: l).getD y 0) < v ((k :: l).getD x 0))) j) 0 = bestFold v k (l.take j) := by
      rw [List.getD_eq_getElem?_getD, ih]
      rfl
    have e3 : bestFold v k (l.take (j + 1)) = if v (bestFold v k (l.take j)) < v (l.getD j 0) then l.getD j 0 else bestFold v k (l.take j) := by
      unfold bestFold
      rw [htake, List.foldl_append]
      rfl
    show (k :: l)[if decide (v ((k :: l).getD (argBest _ j) 0) < v ((k :: l).getD (j + 1) 0)) = true then j + 1 else argBest _ j]? = _
    rw [e3, e1, e2]
    by_cases c : v (bestFold v k (l.take j)) < v (l.getD j 0)
    · rw [if_pos (decide_eq_true c), if_pos c]
      exact hget
    · rw [if_neg (fun z => c (of_decide_eq_true z)), if_neg c]
      exact ih
/-! most_among -/
abbrev s_most_among : Stmt := top 20
abbrev N_most_among : List Str := ["standing", "i", "places"]
abbrev P_most_among : List Str := ["standing", "i", "places"]
theorem sc_most_among : FnScope N_most_among P_most_among (C8.fnScope s_most_among) := C8.fnScope_by (by decide +kernel)
def sp_most_among (Z : Zc) (T : List (Addr × Str)) : Sp := fun vs H Q _ => ∃ (a c : Addr) (tp : Bool) (t : Ks565.Folk) (g : List Nat) (i k : Nat) (l : List Nat), vs = [.ref a, .int i, .ref c] ∧ StdAt Z tp H a t g ∧ i < t.n ∧ H c = some (.lst (nv (k :: l))) ∧ (∀ x ∈ k :: l, x ≤ Ks565.groups g) ∧ l.length < 1000 ∧ Tabs T H ∧
  ∀ H', ExtN H H' → Tabs T H' → Q (.int (bestFold (fun k => Ks565.with_ t i (Ks565.members g k)) k l : Nat)) H'
theorem cal_most_among {Z : Zc} {f c0 Pm : Addr} {fd : FuncData} {T : List (Addr × Str)} (F : DefC K mg "most_among" s_most_among f c0 fd) (b : Binds K fd P_most_among []) (B : Blt mg) (TB : TabB base mg c0 Pm) (hT : (Pm, lamName "most_among") ∈ T) (hu : ∀ q ∈ T, q.1 = Pm → q.2 = lamName "most_among") (c_has_in : C8.Cal P w K mg base 1 "has_in" (sp_has_in Z) []) : C8.Cal P w K mg base 4 "most_among" (sp_most_among Z T) [] := by
  have sc := sc_most_among
  have b_max := B.max
  refine calC F b sc (fun vs H Q E h => ?_) (fun A outer s H vs Q E hr h => ?_)
  · obtain ⟨_, _, _, _, _, _, _, _, rfl, _⟩ := h
    rfl
  · refine ⟨_, (pss_one (ps_ret (pe_maxLam (T := T) (N := ["k", "standing", "i"]) (fr := ["standing", "i"]) (js := [0, 1]) (k := 1) (y := "k") (pa_cons (pv 2) pa_nil) rfl rfl b_max TB rfl hT hu (hr.mono (by decide)) (nscope_by (by decide +kernel))
      (ndef_free (sc := C8.fnScope s_most_among) (fr := ["standing", "i"]) (by decide +kernel)) (ndef_fr (sc := C8.fnScope s_most_among) (by decide +kernel)) rfl rfl (fun _ _ _ _ _ _ => rfl)
      (fun _ _ _ _ hr2 => C8.pe_c c_has_in hr2 (by decide) (by rfl) (pa_cons (pv 1) (pa_cons (pv 2) (pa_cons (pv 0) pa_nil))))))), ?_⟩
    obtain ⟨a, c, tp, t, g, i, k, l, rfl, hs, hi, hc, hle, hz, hTb, q⟩ := h
    refine ⟨_, rfl, c, nv (k :: l), (fun m => Ks565.with_ t i (Ks565.members g ((k :: l).getD m 0))), rfl, sq_of hc, by rw [nv_len]; exact Nat.succ_pos _, hTb, fun H1 e1 t1 => ⟨fun m v H2 hv e2 t2 => ?_, fun v H2 hv e2 t2 => ?_⟩⟩
    · obtain ⟨x, hx, rfl⟩ := nv_inv hv
      have e := e1.trans e2
      refine ea_cons (ev_var rfl) (ea_cons (ev_var rfl) (ea_cons (ev_var rfl) ea_nil)) H2 (Ex.refl H2) _ fun H3 e3 => ?_
      exact has_in_V ((hs.gr e).ex e3) hi (hle x (List.mem_of_getElem? hx)) H3 (Ex.refl H3) _ (fun H4 e4 => ⟨by show V.int _ = V.int (Ks565.with_ t i (Ks565.members g ((k :: l).getD m 0))); rw [getD_of hx], ExtN.of (e3.trans e4), t2.ext (e3.trans e4)⟩) C8.E0
    · have z := argBest_fold (fun k => Ks565.with_ t i (Ks565.members g k)) k l l.length (Nat.le_refl _)
      rw [List.take_length] at z
      have hl : (nv (k :: l)).length - 1 = l.length := by rw [nv_len]; rfl
      rw [hl] at hv
      have hv' := nv_at z
      rw [hv'] at hv
      cases hv
      exact q H2 (e1.trans e2) t2
/-! best_place -/
abbrev s_best_place : Stmt := top 21
abbrev N_best_place : List Str := ["standing", "i", "places"]
abbrev P_best_place : List Str := ["standing", "i"]
theorem sc_best_place : FnScope N_best_place P_best_place (C8.fnScope s_best_place) := C8.fnScope_by (by decide +kernel)
def sp_best_place (Z : Zc) (T : List (Addr × Str)) : Sp := fun vs H Q _ => ∃ (a : Addr) (tp : Bool) (t : Ks565.Folk) (g : List Nat) (i : Nat), vs = [.ref a, .int i] ∧ StdAt Z tp H a t g ∧ i < t.n ∧ Tabs T H ∧
  ∀ H', ExtN H H' → Tabs T H' → Q (.int (Ks565.best t g i : Nat)) H'
theorem cal_best_place {Z : Zc} {f : Addr} {fd : FuncData} {T : List (Addr × Str)} (F : C8.Def K mg "best_place" s_best_place f fd) (b : Binds K fd P_best_place []) (B : Blt mg) (ZT : ZTxt K Z) (c_most_among : C8.Cal P w K mg base 4 "most_among" (sp_most_among Z T) []) : C8.Cal P w K mg base 5 "best_place" (sp_best_place Z T) [] := by
  have sc := sc_best_place; have b_list := B.list; have b_range := B.range; have b_len := B.len
  refine C8.cal0 F b .nil sc (fun vs H Q E h => ?_) (fun cdv A outer s H vs Q E hr h => ?_)
  · obtain ⟨_, _, _, _, _, rfl, _⟩ := h
    rfl
  · refine ⟨_, (pss_cons (ps_set (i := 2) sc.nd rfl (.inl rfl) (pe_op op_cat (pe_lst (pa_cons (pe_ix (ixs K rfl) (peF K rfl (pv 0) rfl) (pv 1) (fun _ _ => rfl)) pa_nil)) (pe_listRg rfl (by rfl) b_list (prg_1 (by rfl) b_range (pe_callB (cLen K rfl) (by rfl) b_len (by decide +kernel) (pa_cons (peF K rfl (pv 0) rfl) pa_nil))))))
      (pss_one (ps_ret (C8.pe_c c_most_among hr (by decide) (by rfl) (pa_cons (pv 0) (pa_cons (pv 1) (pa_cons (pv 2) pa_nil))))))), ?_⟩
    obtain ⟨a, tp, t, g, i, rfl, hs, hi, hTb, q⟩ := h
    have hG := hs.grp
    have h5 := hs.le5
    refine q_asgL (el_cat (el_lst (ea_cons (ev_grp ZT hs hi (ev_var rfl) (ev_var rfl)) ea_nil) (by show 1 ≤ 100000; decide)) (el_listRg (n := Ks565.groups g + 1) (ev_nPla ZT hs (ev_var rfl)) (by omega)) ?_) fun p H1 hp e1 h1 => ?_
    · rw [nv_len, List.length_range]
      show 1 + (Ks565.groups g + 1) ≤ 100000
      omega
    · refine s_retCall (ea_cons (ev_var rfl) (ea_cons (ev_var rfl) (ea_cons (ev_var rfl) ea_nil))) fun H2 e2 => ⟨a, p, tp, t, g, i, g.getD i 0, List.range (Ks565.groups g + 1), rfl, hs.ex (e1.trans e2), hi, e2 _ _ h1, fun x hx => ?_, by rw [List.length_range]; omega, hTb.ext (e1.trans e2), fun H3 e3 t3 => ?_⟩
      · rcases List.mem_cons.mp hx with z | z
        · rw [z]
          exact Nat.le_of_lt (getD_lt_groups (by rw [hs.len]; exact hi))
        · exact Nat.le_of_lt_succ (List.mem_range.mp z)
      · rw [← best_is]
        exact q H3 ((ExtN.of (e1.trans e2)).trans e3) t3
theorem given_mine (l : List (Nat × Nat)) (i : Nat) : given l.length (fun j => decide (V.int (((l.getD j (0, 0)).1 : Nat) : Int) = V.int (i : Int))) (fun j => V.int (((l.getD j (0, 0)).2 : Nat) : Int)) = nv (mineOf l i) := by
  have key : ∀ (n : Nat), n ≤ l.length → given n (fun j => decide (V.int (((l.getD j (0, 0)).1 : Nat) : Int) = V.int (i : Int))) (fun j => V.int (((l.getD j (0, 0)).2 : Nat) : Int)) = nv (mineOf (l.take n) i) := by
    intro n
    induction n with
    | zero => intro _; rfl
    | succ n ih =>
      intro hn
      have ih := ih (by omega)
      have ht : l.take (n + 1) = l.take n ++ [l.getD n (0, 0)] := by
        rw [List.take_add_one, List.getD_eq_getElem?_getD, List.getElem?_eq_getElem (by omega)]
        rfl
      have hm : mineOf (l.take (n + 1)) i = mineOf (l.take n) i ++ (if (l.getD n (0, 0)).1 = i then [(l.getD n (0, 0)).2] else []) := by
        unfold mineOf
        rw [ht, List.filter_append, List.map_append]
        congr 1
        generalize l.getD n (0, 0) = y
        by_cases c : y.1 = i
        · rw [if_pos c, List.filter_cons, if_pos (beq_iff_eq.mpr c)]
          rfl
        · rw [if_neg c, List.filter_cons, if_neg fun z => c (beq_iff_eq.mp z)]
          rfl
      by_cases c : (l.getD n (0, 0)).1 = i
      · rw [given_yes (by rw [c]; exact decide_eq_true rfl), ih, hm, if_pos c]
        unfold nv
        rw [List.map_append]
        rfl
      · rw [given_no (decide_eq_false fun z => c (by injection z with z; omega)), ih, hm, if_neg c, List.append_nil]
  have q := key l.length (Nat.le_refl _)
  rw [List.take_length] at q
  exact q
/-! step_by -/
abbrev s_step_by : Stmt := top 22
abbrev N_step_by : List Str := ["standing", "way", "moves", "first", "places", "move"]
abbrev P_step_by : List Str := ["standing", "way"]
theorem sc_step_by : FnScope N_step_by P_step_by (C8.fnScope s_step_by) := C8.fnScope_by (by decide +kernel)
def sp_step_by (Z : Zc) (T : List (Addr × Str)) : Sp := fun vs H Q _ => ∃ (a : Addr) (tp : Bool) (t : Ks565.Folk) (g : List Nat) (w : Nat), vs = [.ref a, .int w] ∧ StdAt Z tp H a t g ∧ w ≤ 2 ∧ Tabs T H ∧
  (Ks567.step t w g = none → ∀ H', ExtN H H' → Tabs T H' → Q .non H') ∧
  ∀ i k h, Ks567.step t w g = some (i, k, h) → ∀ p H', ExtN H H' → Tabs T H' → H' p = some (.tup [.int (i : Nat), .int (k : Nat)]) → Q (.ref p) H'
theorem cal_step_by {Z : Zc} {f : Addr} {fd : FuncData} {T : List (Addr × Str)} (F : C8.Def K mg "step_by" s_step_by f fd) (b : Binds K fd P_step_by []) (B : Blt mg) (c_moves_by : C8.Cal P w K mg base 3 "moves_by" (sp_moves_by Z) []) (c_most_among : C8.Cal P w K mg base 4 "most_among" (sp_most_among Z T) []) : C8.Cal P w K mg base 5 "step_by" (sp_step_by Z T) [] := by
  have sc := sc_step_by; have b_len := B.len
  refine C8.cal0 F b .nil sc (fun vs H Q E h => ?_) (fun cdv A outer s H vs Q E hr h => ?_)
  · obtain ⟨_, _, _, _, _, rfl, _⟩ := h
    rfl
  · refine ⟨_, (pss_cons (ps_set (i := 2) sc.nd rfl (.inl rfl) (C8.pe_c c_moves_by hr (by decide) (by rfl) (pa_cons (pv 0) (pa_cons (pv 1) pa_nil))))
      (pss_cons (ps_if (pt_cmpR op_eq (pe_callB (cLen K rfl) (by rfl) b_len (by decide +kernel) (pa_cons (pv 2) pa_nil)) pe_int (nomark _)) (pss_one (ps_ret pe_non)) pss_nil)
      (pss_cons (ps_set (i := 3) sc.nd rfl (.inr rfl) (pe_ix (ixt K rfl) (pe_ix (ixl K rfl) (pv 2) pe_int (fun _ _ => rfl)) pe_int (fun _ _ => rfl)))
      (pss_cons (ps_setLc (i := 4) rfl sc.nd rfl rfl (sw_true rfl rfl rfl (by decide +kernel)) (own := [("move", 5)]) (piL K rfl (pv 2)) (blkOk_by (own := [("move", 5)]) (N := N_step_by) (sc := C8.fnScope s_step_by) (by decide +kernel)) (fun _ _ _ _ _ => (pg_name (i := 5) sc.nd rfl (Or.inl rfl))) (fun _ _ _ _ _ => (pts_one (pt_cmpR op_eq (pe_ix (ixt K rfl) (pv 5) pe_int (fun _ _ => rfl)) (pv 3) (nomark _)))) (fun _ _ _ _ _ => (pe_ix (ixt K rfl) (pv 5) pe_int (fun _ _ => rfl))))
      (pss_one (ps_ret (pe_tup (pa_cons (pv 3) (pa_cons (C8.pe_c c_most_among hr (by decide) (by rfl) (pa_cons (pv 0) (pa_cons (pv 3) (pa_cons (pv 4) pa_nil)))) pa_nil))))))))), ?_⟩
    obtain ⟨a, tp, t, g, w, rfl, hs, hw2, hTb, qN, qS⟩ := h
    have hG := hs.grp
    have h5 := hs.le5
    have hlen : (Ks565.moves t w g).length ≤ 30 := moves_len h5 hs.pos hs.few
    refine q_asgP (ep_call (ea_cons (ev_var rfl) (ea_cons (ev_var rfl) ea_nil)) (moves_by_P hs hw2)) fun x H2 e12 hx => ?_
    obtain ⟨p, rfl, h2⟩ := hx
    obtain ⟨xs, hxs, hxl⟩ := h2.lst
    refine q_when (et_test (ev_op (ev_len (ev_var rfl) (sq_of hxs)) ev_c (rv_eq rfl))) (fun c H3 e3 => ?_) (fun c H3 e3 => ?_)
    · refine s_ret ev_c fun H4 e4 => qN (step_nil ?_) H4 (ExtN.of ((e12.trans e3).trans e4)) (hTb.ext ((e12.trans e3).trans e4))
      have c' : (xs.length : Int) = 0 := by have := of_decide_eq_true c; injection this
      exact List.length_eq_zero_iff.mp (by omega)
    · have hpos : 0 < (Ks565.moves t w g).length := by
        refine Nat.pos_of_ne_zero fun z => of_decide_eq_false c ?_
        rw [hxl, z]
        rfl
      obtain ⟨x0, l0, hml⟩ : ∃ x0 l0, Ks565.moves t w g = x0 :: l0 := by
        cases hm : Ks565.moves t w g with
        | nil => rw [hm] at hpos; exact absurd hpos (Nat.lt_irrefl _)
        | cons x0 l0 => exact ⟨x0, l0, rfl⟩
      have e13 := e12.trans e3
      have p3 := h2.ex e3
      have hxs3 := e3 _ _ hxs
      have hx0 : xs[0]? = some xs[0] := List.getElem?_eq_getElem (by omega)
      obtain ⟨p0, y0, ex0, hy0, ht0⟩ := p3.at_ hxs3 hx0
      rw [hml] at hy0
      have hy : x0 = y0 := by simpa using hy0
      subst hy
      rw [ex0] at hx0
      refine q_asg (ev_op (ev_op (ev_var rfl) ev_c (rv_ixL (sq_of hxs3) (atI_nat (j := 0) hx0))) ev_c (rv_ixT (st_of ht0) (atI_nat (j := 0) rfl))) fun H4 e4 => ?_
      have p4 := p3.ex e4
      have hxs4 := e4 _ _ hxs3
      refine q_asgL (el_lcL (j := 5) (fun j => decide (V.int ((((Ks565.moves t w g).getD j (0, 0)).1 : Nat) : Int) = V.int ((x0.1 : Nat) : Int))) (fun j => V.int ((((Ks565.moves t w g).getD j (0, 0)).2 : Nat) : Int)) (ev_var rfl) (sq_of hxs4) (by omega) (fun x => rfl) (fun j x H5 e5 hx => ?_) (fun j x H5 e5 hx _ => ?_)) fun pl H5 hpl e5 h5l => ?_
      · obtain ⟨pj, yj, rfl, hyj, htj⟩ := (p4.ex e5).at_ (e5 _ _ hxs4) hx
        have ej : (Ks565.moves t w g).getD j (0, 0) = yj := by rw [List.getD_eq_getElem?_getD, hyj]; rfl
        rw [ej]
        exact et_test (ev_op (ev_op (ev_var rfl) ev_c (rv_ixT (st_of htj) (atI_nat (j := 0) rfl))) (ev_var rfl) (rv_eq rfl))
      · obtain ⟨pj, yj, rfl, hyj, htj⟩ := (p4.ex e5).at_ (e5 _ _ hxs4) hx
        have ej : (Ks565.moves t w g).getD j (0, 0) = yj := by rw [List.getD_eq_getElem?_getD, hyj]; rfl
        rw [ej]
        exact ev_op (ev_var rfl) ev_c (rv_ixT (st_of htj) (atI_nat (j := 1) rfl))
      · rw [hxl, given_mine, hml] at h5l
        have hmine : mineOf (x0 :: l0) x0.1 = x0.2 :: mineOf l0 x0.1 := by
          unfold mineOf
          rw [List.filter_cons, if_pos (beq_self_eq_true _), List.map_cons]
        rw [hmine] at h5l
        have e15 := (e13.trans e4).trans e5
        have hm0 : x0 ∈ Ks565.moves t w g := by rw [hml]; exact List.mem_cons_self
        have hi : x0.1 < t.n := (moves_mem hm0).1
        have hml5 : (mineOf l0 x0.1).length < 1000 := by
          unfold mineOf
          rw [List.length_map]
          have z := List.length_filter_le (fun q => q.1 == x0.1) l0
          have z2 : l0.length + 1 ≤ 30 := by rw [hml] at hlen; exact hlen
          omega
        have hple : ∀ x ∈ x0.2 :: mineOf l0 x0.1, x ≤ Ks565.groups g := fun x hx => by
          rcases List.mem_cons.mp hx with z | z
          · rw [z]
            exact (moves_mem hm0).2
          · obtain ⟨y, hy, rfl⟩ := List.mem_map.mp z
            exact (moves_mem (by rw [hml]; exact List.mem_cons_of_mem _ (List.mem_filter.mp hy).1 : y ∈ Ks565.moves t w g)).2
        refine ⟨_, rfl, ?_⟩
        refine tc_call (ea_cons (ev_var rfl) (ea_cons (ev_var rfl) (ea_cons (ev_var rfl) ea_nil))) fun H6 e6 => ⟨a, pl, tp, t, g, x0.1, x0.2, mineOf l0 x0.1, rfl, hs.ex (e15.trans e6), hi, e6 _ _ h5l, hple, hml5, hTb.ext (e15.trans e6), fun H7 e7 t7 => ?_⟩
        refine ⟨by show 2 ≤ sizeLine; decide, fun pr hpr => ?_⟩
        refine qS _ _ _ (step_cons hml) pr _ (((ExtN.of (e15.trans e6)).trans e7).trans (ExtN.of (Ex.new hpr))) (t7.ext (Ex.new hpr)) upd_same
theorem step_go {t : Ks565.Folk} {x : Nat} {g : List Nat} {i k : Nat} {h : List Nat} (e : Ks567.step t x g = some (i, k, h)) : h = Ks565.go g i k := by
  cases hm : Ks565.moves t x g with
  | nil =>
    rw [step_nil hm] at e
    cases e
  | cons p l =>
    rw [step_cons hm] at e
    cases e
    rfl
end Rg

set_option Elab.async false
set_option maxRecDepth 100000
set_option maxHeartbeats 2000000
set_option linter.unusedVariables false
/-! leaving.py: which sets would leave, what holds, which sets are firm -/
namespace Rg
open PySem PySem.Spec PyProof.Rows L2 Evl LamX
variable {P : Program} {w : World} {K : PySem.W.Frag} {mg : Str → Option Value} {base : Heap}
/-- rows[i][j] -/
theorem ev_row2 {σ : L2.St} {H : Hp} {ta tb tc : TE} {a : Addr} {rows : List (List Int)} {row : List Int} {i j : Nat} {x : Int} (hw : RowsAt H a rows) (hi : rows[i]? = some row) (hj : row[j]? = some x) (h1 : Ev ta σ H (.ref a)) (h2 : Ev tb σ H (.int (i : Int))) (h3 : Ev tc σ H (.int (j : Int))) :
    Ev (tOp (rIxL K) (tOp (rIxL K) ta tb) tc) σ H (.int x) := by
  obtain ⟨xs, r, e1, e2, _, e4⟩ := hw.row hi
  exact ev_op (ev_op h1 h2 (rv_ixL (sq_of e1) (atI_nat e2))) h3 (rv_ixL (sq_of e4) (atI_nat (iv_at hj)))
/-- liking.sums -/
theorem ev_sumsAll {Z : Zc} (T : ZTxt K Z) {H : Hp} {al : Addr} {t : Ks565.Folk} (x : LikAt Z H al t) : ∃ au, RowsAt H au (sumsOf t) ∧ ∀ {σ : L2.St} {ta : TE} {H' : Hp}, Ex H H' → Ev ta σ H' (.ref al) → Ev (tFld K ta "sums") σ H' (.ref au) := by
  obtain ⟨h0, h5, dx, aw, ap, au, h1, h2, h3, h4⟩ := x
  exact ⟨au, h4, fun e h => ev_fld T.lc T.lS h (e _ _ h1) (lF_sums _ _ _)⟩
/-! is_set -/
abbrev s_is_set : Stmt := top 28
abbrev N_is_set : List Str := ["s", "n"]
abbrev P_is_set : List Str := ["s", "n"]
theorem sc_is_set : FnScope N_is_set P_is_set (C8.fnScope s_is_set) := C8.fnScope_by (by decide +kernel)
def sp_is_set : Sp := fun vs H Q _ => ∃ (s n : Nat), vs = [.int s, .int n] ∧ RetV H Q (.bl (decide (¬ (s = 0 ∨ 2 ^ n ≤ s))))
theorem cal_is_set {f : Addr} {fd : FuncData} (F : C8.Def K mg "is_set" s_is_set f fd) (b : Binds K fd P_is_set []) : C8.Cal P w K mg base 1 "is_set" sp_is_set [] := by
  have sc := sc_is_set
  refine C8.cal0 F b .nil sc (fun vs H Q E h => ?_) (fun cdv A outer s H vs Q E hr h => ?_)
  · obtain ⟨_, _, rfl, _⟩ := h
    rfl
  · refine ⟨_, (pss_one (ps_ret (pe_and (pe_cmpR op_gt (pv 0) pe_int (nomark _)) (pe_one (pe_cmpR op_eq (pe_op op_shr (pv 0) (pv 1)) pe_int (nomark _)))))), ?_⟩
    obtain ⟨s, n, rfl, q⟩ := h
    have e : (decide ((0 : Int) < (s : Int)) && decide (V.int ((s : Int) / 2 ^ ((n : Int)).toNat) = V.int 0)) = decide (¬ (s = 0 ∨ 2 ^ n ≤ s)) := by
      have e1 : (s : Int) / 2 ^ ((n : Int)).toNat = ((s / 2 ^ n : Nat) : Int) := by
        rw [Int.toNat_natCast]
        norm_cast
      rw [e1]
      by_cases h0 : s = 0
      · subst h0; simp
      · by_cases h1 : 2 ^ n ≤ s
        · have : 0 < s / 2 ^ n := Nat.div_pos h1 (Nat.two_pow_pos n)
          have h2 : ¬ (V.int ((s / 2 ^ n : Nat) : Int) = V.int 0) := fun z => by injection z with z; omega
          rw [decide_eq_false h2]
          simp [h1]
        · have : s / 2 ^ n = 0 := Nat.div_eq_of_lt (Nat.not_le.mp h1)
          rw [this]
          simp [h0, h1]
          omega
    refine s_ret (ev_andV (ev_op (ev_var rfl) ev_c rv_I0) fun _ => ev_op (ev_op (ev_var rfl) (ev_var rfl) (rv_I (Int.natCast_nonneg _))) ev_c (rv_eq rfl)) ?_
    rw [e]
    exact q
theorem is_set_V {H : Hp} {s n : Nat} : SpV sp_is_set [.int (s : Int), .int (n : Int)] H (.bl (decide (¬ (s = 0 ∨ 2 ^ n ≤ s)))) := fun H1 e Q q _ => ⟨s, n, rfl, fun H2 e2 => q H2 e2⟩
/-! how_they_leave -/
abbrev s_how_they_leave : Stmt := top 29
abbrev N_how_they_leave : List Str := ["standing", "s", "sums", "has", "people", "gaining", "i"]
abbrev P_how_they_leave : List Str := ["standing", "s"]
theorem sc_how_they_leave : FnScope N_how_they_leave P_how_they_leave (C8.fnScope s_how_they_leave) := C8.fnScope_by (by decide +kernel)
def sp_how_they_leave (Z : Zc) : Sp := fun vs H Q _ => ∃ (a : Addr) (tp : Bool) (t : Ks565.Folk) (g : List Nat) (s : Nat), vs = [.ref a, .int s] ∧ StdAt Z tp H a t g ∧ s ≠ 0 ∧ s < 2 ^ t.n ∧ RetV H Q (.int (how t g s : Nat))
theorem gainers_snoc {t : Ks565.Folk} {g : List Nat} {s : Nat} (l : List Nat) (i : Nat) : gainers t g s (l ++ [i]) = gainers t g s l + if Ks565.worth t g i < Ks565.with_ t i (Ks566.set t.n s) then 1 else 0 := by
  unfold gainers
  rw [List.countP_append, List.countP_cons, List.countP_nil]
  by_cases c : Ks565.worth t g i < Ks565.with_ t i (Ks566.set t.n s)
  · rw [decide_eq_true c, if_pos rfl, if_pos c]
  · rw [decide_eq_false c, if_neg Bool.false_ne_true, if_neg c]
theorem cal_how_they_leave {Z : Zc} {f : Addr} {fd : FuncData} (F : C8.Def K mg "how_they_leave" s_how_they_leave f fd) (b : Binds K fd P_how_they_leave []) (B : Blt mg) (T : ZTxt K Z) (Cs : Cst K mg) : C8.Cal P w K mg base 1 "how_they_leave" (sp_how_they_leave Z) [] := by
  have sc := sc_how_they_leave; have b_len := B.len; obtain ⟨_, m_NOT_AT_ALL⟩ := Cs.NOT_AT_ALL; obtain ⟨_, m_WHOLLY⟩ := Cs.WHOLLY; obtain ⟨_, m_WEAKLY⟩ := Cs.WEAKLY
  refine C8.cal0 F b .nil sc (fun vs H Q E h => ?_) (fun cdv A outer s H vs Q E hr h => ?_)
  · obtain ⟨_, _, _, _, _, rfl, _⟩ := h
    rfl
  · refine ⟨_, (pss_cons (ps_set (i := 2) sc.nd rfl (.inl rfl) (peF K rfl (peF K rfl (pv 0) rfl) rfl))
      (pss_cons (ps_set (i := 3) sc.nd rfl (.inl rfl) (peF K rfl (pv 0) rfl))
      (pss_cons (ps_set (i := 4) sc.nd rfl (.inl rfl) (pe_ix (ixl K rfl) (peF K rfl (peF K rfl (pv 0) rfl) rfl) (pv 1) (fun _ _ => rfl)))
      (pss_cons (ps_set (i := 5) sc.nd rfl (.inl rfl) pe_int)
      (pss_cons (ps_for PassesOwn.never rfl (piL K rfl (pv 4)) (pg_name (i := 6) sc.nd rfl (.inl rfl)) (pss_cons (ps_if (pt_cmpR op_lt (pe_ix (ixl K rfl) (pe_ix (ixl K rfl) (pv 2) (pv 6) (fun _ _ => rfl)) (pv 1) (fun _ _ => rfl)) (pe_ix (ixl K rfl) (pv 3) (pv 6) (fun _ _ => rfl)) (nomark _)) (pss_one (ps_ret (pe_glob (v := .int (0)) (by rfl) m_NOT_AT_ALL ⟨_, rfl⟩))) pss_nil)
      (pss_one (ps_if (pt_cmpR op_gt (pe_ix (ixl K rfl) (pe_ix (ixl K rfl) (pv 2) (pv 6) (fun _ _ => rfl)) (pv 1) (fun _ _ => rfl)) (pe_ix (ixl K rfl) (pv 3) (pv 6) (fun _ _ => rfl)) (nomark _)) (pss_one (ps_set (i := 5) sc.nd rfl (.inl rfl) (pe_op op_add (pv 5) pe_int))) pss_nil))))
      (pss_cons (ps_if (pt_cmpR op_eq (pv 5) pe_int (nomark _)) (pss_one (ps_ret (pe_glob (v := .int (0)) (by rfl) m_NOT_AT_ALL ⟨_, rfl⟩))) pss_nil)
      (pss_one (ps_ret (pe_ifExp (pt_cmpR op_eq (pv 5) (pe_callB (cLen K rfl) (by rfl) b_len (by decide +kernel) (pa_cons (pv 4) pa_nil)) (nomark _)) (pe_glob (v := .int (2)) (by rfl) m_WHOLLY ⟨_, rfl⟩) (pe_glob (v := .int (1)) (by rfl) m_WEAKLY ⟨_, rfl⟩)))))))))), ?_⟩
    obtain ⟨a, tp, t, g, s, rfl, hs, hs0, hs1, q⟩ := h
    have h5 := hs.le5
    obtain ⟨al, hl, evl⟩ := ev_liking T hs
    obtain ⟨au, hu, evu⟩ := ev_sumsAll T hl
    obtain ⟨ah, hh, evh⟩ := ev_hasL T hs
    refine q_asg (evu (Ex.refl H) (evl (Ex.refl H) (ev_var rfl))) fun H1 e1 => ?_
    refine q_asg (evh e1 (ev_var rfl)) fun H2 e2 => ?_
    have e12 := e1.trans e2
    obtain ⟨r, hr1, evr⟩ := ev_ppl T (σ := [some (.ref a), some (.int (s : Int)), some (.ref au), some (.ref ah), none, none, none]) (ta := tFld K (tVar 0) "liking") (tb := tVar 1) (hl.ex e12) hs1 (evl e12 (ev_var rfl)) (ev_var rfl)
    refine q_asg evr fun H3 e3 => ?_
    refine q_asg ev_c fun H4 e4 => ?_
    have e14 := (e12.trans e3).trans e4
    have hlen : (Ks566.set t.n s).length ≤ 5 := Nat.le_trans (set_len _ _) h5
    refine q_forLn (xs := nv (Ks566.set t.n s)) (ev_var rfl) (sq_of ((e3.trans e4) _ _ hr1)) (fun j σ' H' => ∃ v6, σ' = [some (.ref a), some (.int (s : Int)), some (.ref au), some (.ref ah), some (.ref r), some (.int ((gainers t g s ((Ks566.set t.n s).take j) : Nat) : Int)), v6] ∧ Ex H2 H' ∧ ∀ i ∈ (Ks566.set t.n s).take j, Ks565.worth t g i ≤ Ks565.with_ t i (Ks566.set t.n s))
      (fun H5 e5 => ⟨none, rfl, (e3.trans e4).trans e5, fun i hi => by rw [List.take_zero] at hi; cases hi⟩) (fun j σ' H' _ ⟨_, _, e, _⟩ => sq_of (e _ _ hr1)) ?_ ?_
    · rintro j x _ H5 hx ⟨v6, rfl, e5, u5⟩
      obtain ⟨i, hi, rfl⟩ := nv_inv hx
      have him := List.mem_of_getElem? hi
      have hin := set_lt him
      have hsum : ∀ {H6 : Hp} {c : Option V}, Ex H2 H6 → Ev (tOp (rIxL K) (tOp (rIxL K) (tVar 2) (tVar 6)) (tVar 1)) [some (.ref a), some (.int (s : Int)), some (.ref au), some (.ref ah), some (.ref r), c, some (.int (i : Int))] H6 (.int (Ks565.with_ t i (Ks566.set t.n s))) := fun {H6 c} e6 => ev_row2 ((hu.ex e12).ex e6) (sumsOf_at hin) (sumsTo_at hs1) (ev_var rfl) (ev_var rfl) (ev_var rfl)
      have hhas : ∀ {H6 : Hp} {c : Option V}, Ex H2 H6 → Ev (tOp (rIxL K) (tVar 3) (tVar 6)) [some (.ref a), some (.int (s : Int)), some (.ref au), some (.ref ah), some (.ref r), c, some (.int (i : Int))] H6 (.int (Ks565.worth t g i)) := fun {H6 c} e6 => ev_op (ev_var rfl) (ev_var rfl) (rv_ixL (sq_of (e6 _ _ (e12 _ _ hh))) (atI_nat (iv_at (worths_at hin))))
      refine q_when (et_test (ev_op (hsum e5) (hhas e5) rv_I0)) (fun c H6 e6 => ?_) (fun c H6 e6 => ?_)
      · refine s_ret ev_c fun H7 e7 => ?_
        have z := q H7 (((e12.trans e5).trans e6).trans e7)
        rw [how_lose him (of_decide_eq_true c)] at z
        exact z
      · have hle : Ks565.worth t g i ≤ Ks565.with_ t i (Ks566.set t.n s) := Int.not_lt.mp (of_decide_eq_false c)
        have htk : (Ks566.set t.n s).take (j + 1) = (Ks566.set t.n s).take j ++ [i] := by rw [List.take_add_one, hi]; rfl
        have u6 : ∀ i' ∈ (Ks566.set t.n s).take (j + 1), Ks565.worth t g i' ≤ Ks565.with_ t i' (Ks566.set t.n s) := fun i' hi' => by
          rw [htk] at hi'
          rcases List.mem_append.mp hi' with z | z
          · exact u5 i' z
          · rw [List.mem_singleton.mp z]
            exact hle
        refine s_when (et_test (ev_op (hsum (e5.trans e6)) (hhas (e5.trans e6)) rv_I0)) (fun c2 H7 e7 => ?_) (fun c2 H7 e7 => ?_)
        · refine s_asg (ev_op (ev_var rfl) ev_c rv_I0) fun H8 e8 => ⟨some (.int (i : Int)), ?_, (((e5.trans e6).trans e7).trans e8), u6⟩
          rw [htk, gainers_snoc, if_pos (of_decide_eq_true c2)]
          rfl
        · refine ⟨some (.int (i : Int)), ?_, (e5.trans e6).trans e7, u6⟩
          rw [htk, gainers_snoc, if_neg (of_decide_eq_false c2)]
          rfl
    · rintro _ H5 ⟨v6, rfl, e5, u5⟩
      rw [nv_len, List.take_length] at u5 ⊢
      have hgain := how_gain hs0 hs1 u5
      refine q_when (et_test (ev_op (ev_var rfl) ev_c (rv_eq rfl))) (fun c H6 e6 => ?_) (fun c H6 e6 => ?_)
      · have c' : gainers t g s (Ks566.set t.n s) = 0 := by have := of_decide_eq_true c; injection this with z; omega
        refine s_ret ev_c fun H7 e7 => ?_
        have z := q H7 (((e12.trans e5).trans e6).trans e7)
        rw [hgain, if_pos c'] at z
        exact z
      · have c' : ¬ gainers t g s (Ks566.set t.n s) = 0 := fun z => of_decide_eq_false c (by rw [z]; rfl)
        refine s_ret (v := .int ((how t g s : Nat) : Int)) (ev_if (et_test (ev_op (ev_var rfl) (ev_len (ev_var rfl) (sq_of (e6 _ _ (e5 _ _ hr1)))) (rv_eq rfl))) (fun c2 => ?_) (fun c2 => ?_)) fun H7 e7 => q H7 (((e12.trans e5).trans e6).trans e7)
        · have c2' : gainers t g s (Ks566.set t.n s) = (Ks566.set t.n s).length := by have := of_decide_eq_true c2; rw [nv_len] at this; injection this with z; omega
          rw [hgain, if_neg c', if_pos c2']
          exact ev_c
        · have c2' : ¬ gainers t g s (Ks566.set t.n s) = (Ks566.set t.n s).length := fun z => of_decide_eq_false c2 (by rw [z, nv_len])
          rw [hgain, if_neg c', if_neg c2']
          exact ev_c
theorem how_they_leave_V {Z : Zc} {tp : Bool} {H : Hp} {a : Addr} {t : Ks565.Folk} {g : List Nat} {s : Nat} (hs : StdAt Z tp H a t g) (hs0 : s ≠ 0) (hs1 : s < 2 ^ t.n) : SpV (sp_how_they_leave Z) [.ref a, .int (s : Int)] H (.int (how t g s : Nat)) :=
  fun H1 e Q q _ => ⟨a, tp, t, g, s, rfl, hs.ex e, hs0, hs1, fun H2 e2 => q H2 e2⟩
/-! least_leaving -/
abbrev s_least_leaving : Stmt := top 30
abbrev N_least_leaving : List Str := ["w"]
abbrev P_least_leaving : List Str := ["w"]
theorem sc_least_leaving : FnScope N_least_leaving P_least_leaving (C8.fnScope s_least_leaving) := C8.fnScope_by (by decide +kernel)
def sp_least_leaving : Sp := fun vs H Q _ => ∃ (w : Nat), vs = [.int w] ∧ RetV H Q (.int ((if w = 1 then 1 else 2 : Nat) : Int))
theorem cal_least_leaving {f : Addr} {fd : FuncData} (F : C8.Def K mg "least_leaving" s_least_leaving f fd) (b : Binds K fd P_least_leaving []) (Cs : Cst K mg) : C8.Cal P w K mg base 1 "least_leaving" sp_least_leaving [] := by
  have sc := sc_least_leaving; obtain ⟨_, m_WEAKLY⟩ := Cs.WEAKLY; obtain ⟨_, m_WHOLLY⟩ := Cs.WHOLLY
  refine C8.cal0 F b .nil sc (fun vs H Q E h => ?_) (fun cdv A outer s H vs Q E hr h => ?_)
  · obtain ⟨_, rfl, _⟩ := h
    rfl
  · refine ⟨_, (pss_one (ps_ret (pe_ifExp (pt_cmpR op_eq (pv 0) pe_int (nomark _)) (pe_glob (v := .int (1)) (by rfl) m_WEAKLY ⟨_, rfl⟩) (pe_glob (v := .int (2)) (by rfl) m_WHOLLY ⟨_, rfl⟩)))), ?_⟩
    obtain ⟨w, rfl, q⟩ := h
    refine s_ret (v := .int ((if w = 1 then 1 else 2 : Nat) : Int)) (ev_if (et_test (ev_op (ev_var rfl) ev_c (rv_eq rfl))) (fun c => ?_) (fun c => ?_)) q
    · have c' : w = 1 := by have := of_decide_eq_true c; injection this with z; omega
      rw [if_pos c']
      exact ev_c
    · have c' : ¬ w = 1 := fun z => of_decide_eq_false c (by rw [z]; rfl)
      rw [if_neg c']
      exact ev_c
theorem least_leaving_V {H : Hp} {w : Nat} : SpV sp_least_leaving [.int (w : Int)] H (.int ((if w = 1 then 1 else 2 : Nat) : Int)) := fun H1 e Q q _ => ⟨w, rfl, fun H2 e2 => q H2 e2⟩
/-! leavers_by -/
theorem given_from1 (N : Nat) (f : Nat → Bool) : given (N - 1) (fun i => f (1 + i)) (fun i => V.int ((1 + i : Nat) : Int)) = nv ((List.range N).filter fun s => decide (s ≠ 0) && f s) := by
  cases N with
  | zero => rfl
  | succ N =>
    rw [List.range_succ_eq_map, List.filter_cons, if_neg (by simp), Nat.add_sub_cancel]
    unfold given nv
    rw [List.filter_map, List.map_map]
    have e1 : ((fun s => decide (s ≠ 0) && f s) ∘ Nat.succ) = fun i => f (1 + i) := by
      funext i
      show (decide (i.succ ≠ 0) && f i.succ) = f (1 + i)
      rw [decide_eq_true (Nat.succ_ne_zero i), Bool.true_and, Nat.add_comm]
    rw [e1]
    apply List.map_congr_left
    intro i _
    show V.int ((1 + i : Nat) : Int) = V.int ((i.succ : Nat) : Int)
    rw [Nat.add_comm]
abbrev s_leavers_by : Stmt := top 31
abbrev N_leavers_by : List Str := ["standing", "w", "least", "s"]
abbrev P_leavers_by : List Str := ["standing", "w"]
theorem sc_leavers_by : FnScope N_leavers_by P_leavers_by (C8.fnScope s_leavers_by) := C8.fnScope_by (by decide +kernel)
def sp_leavers_by (Z : Zc) : Sp := fun vs H Q _ => ∃ (a : Addr) (tp : Bool) (t : Ks565.Folk) (g : List Nat) (w : Nat), vs = [.ref a, .int w] ∧ StdAt Z tp H a t g ∧ w ≤ 1 ∧ RetL H Q (nv (Ks566.by_ t w g))
theorem cal_leavers_by {Z : Zc} {f : Addr} {fd : FuncData} (F : C8.Def K mg "leavers_by" s_leavers_by f fd) (b : Binds K fd P_leavers_by []) (B : Blt mg) (T : ZTxt K Z) (c_least_leaving : C8.Cal P w K mg base 1 "least_leaving" sp_least_leaving []) (c_how_they_leave : C8.Cal P w K mg base 1 "how_they_leave" (sp_how_they_leave Z) []) : C8.Cal P w K mg base 2 "leavers_by" (sp_leavers_by Z) [] := by
  have sc := sc_leavers_by; have b_range := B.range; have b_len := B.len
  refine C8.cal0 F b .nil sc (fun vs H Q E h => ?_) (fun cdv A outer s H vs Q E hr h => ?_)
  · obtain ⟨_, _, _, _, _, rfl, _⟩ := h
    rfl
  · refine ⟨_, (pss_cons (ps_set (i := 2) sc.nd rfl (.inr rfl) (C8.pe_c c_least_leaving hr (by decide) (by rfl) (pa_cons (pv 1) pa_nil)))
      (pss_one (ps_ret (pe_lc (own := [("s", 3)]) rfl sc.nd (pi_range2 rfl b_range (pa_cons pe_int (pa_cons (pe_callB (cLen K rfl) (by rfl) b_len (by decide +kernel) (pa_cons (peF K rfl (peF K rfl (pv 0) rfl) rfl) pa_nil)) pa_nil))) (blkOk_by (own := [("s", 3)]) (N := N_leavers_by) (sc := C8.fnScope s_leavers_by) (by decide +kernel)) (fun _ _ _ _ _ => (pg_name (i := 3) sc.nd rfl (Or.inl rfl))) (fun _ _ _ _ _ => (pts_one (pt_cmpR op_ge (C8.pe_c c_how_they_leave hr (by decide) (by rfl) (pa_cons (pv 0) (pa_cons (pv 3) pa_nil))) (pv 2) (nomark _)))) (fun _ _ _ _ _ => (pv 3)))))), ?_⟩
    obtain ⟨a, tp, t, g, w, rfl, hs, hw1, q⟩ := h
    have hpow := pow_le32 hs.le5
    have hpos : 0 < 2 ^ t.n := Nat.two_pow_pos _
    refine q_asg (ev_call (ea_cons (ev_var rfl) ea_nil) least_leaving_V) fun H1 e1 => ?_
    have s1 := hs.ex e1
    obtain ⟨al, hl, evl⟩ := ev_liking T s1
    refine s_retL (el_rng2 (lo := 1) (n := 2 ^ t.n) (fun s => decide ((if w = 1 then 1 else 2) ≤ how t g s)) (fun s => V.int (s : Int)) (ea_cons ev_c (ea_cons (ev_nPpl T hl (evl (Ex.refl H1) (ev_var rfl))) ea_nil)) (by omega) hpos (fun x => rfl) (fun s H2 e2 h1 h2 => ?_) fun s H2 e2 h1 h2 _ => ev_var rfl) fun p H2 hp e2 h2 => ?_
    · refine et_is (et_test (ev_op (ev_call (ea_cons (ev_var rfl) (ea_cons (ev_var rfl) ea_nil)) (how_they_leave_V (s1.ex e2) (by omega) h2)) (ev_var rfl) rv_I0)) ?_
      exact decide_eq_decide.mpr Int.ofNat_le
    · refine q p H2 (fresh_back e1 hp) (e1.trans e2) ?_
      rw [h2, given_from1 (2 ^ t.n) (fun s => decide ((if w = 1 then 1 else 2) ≤ how t g s)), by_is hw1]
      refine congrArg (fun l => some (HO.lst (nv l))) (List.filter_congr fun s _ => ?_)
      rw [← Bool.decide_and]
theorem leavers_by_L {Z : Zc} {tp : Bool} {H : Hp} {a : Addr} {t : Ks565.Folk} {g : List Nat} {w : Nat} (hs : StdAt Z tp H a t g) (hw1 : w ≤ 1) : SpL (sp_leavers_by Z) [.ref a, .int (w : Int)] H (nv (Ks566.by_ t w g)) :=
  fun H1 e Q q _ => ⟨a, tp, t, g, w, rfl, hs.ex e, hw1, fun p H2 hp e2 h2 => q p H2 hp e2 h2⟩
/-! leaving_at_most -/
abbrev s_leaving_at_most : Stmt := top 32
abbrev N_leaving_at_most : List Str := ["standing", "most", "s"]
abbrev P_leaving_at_most : List Str := ["standing"]
theorem sc_leaving_at_most : FnScope N_leaving_at_most P_leaving_at_most (C8.fnScope s_leaving_at_most) := C8.fnScope_by (by decide +kernel)
def sp_leaving_at_most (Z : Zc) : Sp := fun vs H Q _ => ∃ (a : Addr) (tp : Bool) (t : Ks565.Folk) (g : List Nat), vs = [.ref a] ∧ StdAt Z tp H a t g ∧ RetV H Q (.int (leavAny t g : Nat))
structure MostL (t : Ks565.Folk) (g : List Nat) (i : Nat) (m : Nat) : Prop where
  le : m ≤ 2
  ub : ∀ s, s ≠ 0 → s < 1 + i → how t g s ≤ m
  at_ : m = 0 ∨ ∃ s, s ≠ 0 ∧ s < 2 ^ t.n ∧ how t g s = m
theorem cal_leaving_at_most {Z : Zc} {f : Addr} {fd : FuncData} (F : C8.Def K mg "leaving_at_most" s_leaving_at_most f fd) (b : Binds K fd P_leaving_at_most []) (B : Blt mg) (T : ZTxt K Z) (Cs : Cst K mg) (c_how_they_leave : C8.Cal P w K mg base 1 "how_they_leave" (sp_how_they_leave Z) []) : C8.Cal P w K mg base 2 "leaving_at_most" (sp_leaving_at_most Z) [] := by
  have sc := sc_leaving_at_most; have b_range := B.range; have b_len := B.len; have b_max := B.max; obtain ⟨_, m_NOT_AT_ALL⟩ := Cs.NOT_AT_ALL; obtain ⟨_, m_WHOLLY⟩ := Cs.WHOLLY
  refine C8.cal0 F b .nil sc (fun vs H Q E h => ?_) (fun cdv A outer s H vs Q E hr h => ?_)
  · obtain ⟨_, _, _, _, rfl, _⟩ := h
    rfl
  · refine ⟨_, (pss_cons (ps_set (i := 1) sc.nd rfl (.inl rfl) (pe_glob (v := .int (0)) (by rfl) m_NOT_AT_ALL ⟨_, rfl⟩))
      (pss_cons (ps_for PassesOwn.never rfl (pi_range2 rfl b_range (pa_cons pe_int (pa_cons (pe_callB (cLen K rfl) (by rfl) b_len (by decide +kernel) (pa_cons (peF K rfl (peF K rfl (pv 0) rfl) rfl) pa_nil)) pa_nil))) (pg_name (i := 2) sc.nd rfl (.inl rfl)) (pss_cons (ps_set (i := 1) sc.nd rfl (.inl rfl) (pe_callB (call_max2 rfl) (by rfl) b_max (by decide +kernel) (pa_cons (pv 1) (pa_cons (C8.pe_c c_how_they_leave hr (by decide) (by rfl) (pa_cons (pv 0) (pa_cons (pv 2) pa_nil))) pa_nil))))
      (pss_one (ps_if (pt_cmpR op_eq (pv 1) (pe_glob (v := .int (2)) (by rfl) m_WHOLLY ⟨_, rfl⟩) (nomark _)) (pss_one (ps_ret (pv 1))) pss_nil))))
      (pss_one (ps_ret (pv 1))))), ?_⟩
    obtain ⟨a, tp, t, g, rfl, hs, q⟩ := h
    have hpow := pow_le32 hs.le5
    have hpos : 0 < 2 ^ t.n := Nat.two_pow_pos _
    refine q_asg ev_c fun H0 e0 => ?_
    have s0 := hs.ex e0
    obtain ⟨al, hl, evl⟩ := ev_liking T s0
    refine q_forR2 (lo := 1) (n := ((2 ^ t.n : Nat) : Int)) (ea_cons ev_c (ea_cons (ev_nPpl T hl (evl (Ex.refl H0) (ev_var rfl))) ea_nil)) ⟨by omega, by omega, by omega, by omega⟩
      (fun i σ' H' => ∃ (m : Nat) (v2 : Option V), σ' = [some (.ref a), some (.int (m : Int)), v2] ∧ Ex H H' ∧ MostL t g i m) (fun H1 e => ⟨0, none, rfl, e0.trans e, Nat.zero_le _, fun s h0 h1 => absurd h1 (by omega), .inl rfl⟩) ?_ ?_
    · rintro i _ H1 hi ⟨m, v2, rfl, e1, w1⟩
      have hi' : 1 + i < 2 ^ t.n := by omega
      have ei : (1 : Int) + (i : Int) = ((1 + i : Nat) : Int) := by omega
      rw [ei]
      have emax : (if ((how t g (1 + i) : Nat) : Int) > (m : Int) then ((how t g (1 + i) : Nat) : Int) else (m : Int)) = ((max m (how t g (1 + i)) : Nat) : Int) := by
        by_cases c : how t g (1 + i) > m
        · rw [if_pos (by omega), Nat.max_eq_right (by omega)]
        · rw [if_neg (by omega), Nat.max_eq_left (by omega)]
      refine q_asg (ev_is (ev_cb (ea_cons (ev_var rfl) (ea_cons (ev_call (ea_cons (ev_var rfl) (ea_cons (ev_var rfl) ea_nil)) (how_they_leave_V (hs.ex e1) (by omega) hi')) ea_nil)) (fun H3 _ Q' q' => ⟨_, _, rfl, q' H3 (Ex.refl H3)⟩)) (congrArg V.int emax)) fun H2 e2 => ?_
      have w2 : MostL t g (i + 1) (max m (how t g (1 + i))) := ⟨Nat.max_le.mpr ⟨w1.le, how_le2 _ _ _⟩, fun s h0 h1 => by
        by_cases c : s < 1 + i
        · exact Nat.le_trans (w1.ub s h0 c) (Nat.le_max_left _ _)
        · rw [show s = 1 + i by omega]
          exact Nat.le_max_right _ _, by
        by_cases c : how t g (1 + i) ≤ m
        · rw [Nat.max_eq_left c]
          exact w1.at_
        · rw [Nat.max_eq_right (by omega)]
          exact .inr ⟨1 + i, by omega, hi', rfl⟩⟩
      generalize max m (how t g (1 + i)) = m2 at w2
      refine s_when (et_test (ev_op (ev_var rfl) ev_c (rv_eq rfl))) (fun c H3 e3 => ?_) (fun c H3 e3 => ⟨m2, _, rfl, (e1.trans e2).trans e3, w2⟩)
      have hm : m2 = 2 := by have := of_decide_eq_true c; injection this with z; omega
      refine s_ret (ev_var rfl) fun H4 e4 => ?_
      have z := q H4 (((e1.trans e2).trans e3).trans e4)
      rw [leavAny_of (m := m2) w2.le (fun s h0 h1 => by rw [hm]; exact how_le2 _ _ _) w2.at_] at z
      exact z
    · rintro _ H1 ⟨m, v2, rfl, e1, w1⟩
      refine s_ret (ev_var rfl) fun H2 e2 => ?_
      have z := q H2 (e1.trans e2)
      have en : (((2 ^ t.n : Nat) : Int) - 1).toNat = 2 ^ t.n - 1 := by omega
      rw [en] at w1
      rw [leavAny_of w1.le (fun s h0 h1 => w1.ub s h0 (by omega)) w1.at_] at z
      exact z
theorem leaving_at_most_V {Z : Zc} {tp : Bool} {H : Hp} {a : Addr} {t : Ks565.Folk} {g : List Nat} (hs : StdAt Z tp H a t g) : SpV (sp_leaving_at_most Z) [.ref a] H (.int (leavAny t g : Nat)) := fun H1 e Q q _ => ⟨a, tp, t, g, rfl, hs.ex e, fun H2 e2 => q H2 e2⟩
/-! is_holding -/
abbrev s_is_holding : Stmt := top 33
abbrev N_is_holding : List Str := ["standing", "w"]
abbrev P_is_holding : List Str := ["standing", "w"]
theorem sc_is_holding : FnScope N_is_holding P_is_holding (C8.fnScope s_is_holding) := C8.fnScope_by (by decide +kernel)
def sp_is_holding (Z : Zc) : Sp := fun vs H Q _ => ∃ (a : Addr) (tp : Bool) (t : Ks565.Folk) (g : List Nat) (w : Nat), vs = [.ref a, .int w] ∧ StdAt Z tp H a t g ∧ w ≤ 1 ∧ RetV H Q (.bl (Ks566.holds t w g))
theorem cal_is_holding {Z : Zc} {f : Addr} {fd : FuncData} (F : C8.Def K mg "is_holding" s_is_holding f fd) (b : Binds K fd P_is_holding []) (c_leaving_at_most : C8.Cal P w K mg base 2 "leaving_at_most" (sp_leaving_at_most Z) []) (c_least_leaving : C8.Cal P w K mg base 1 "least_leaving" sp_least_leaving []) : C8.Cal P w K mg base 3 "is_holding" (sp_is_holding Z) [] := by
  have sc := sc_is_holding
  refine C8.cal0 F b .nil sc (fun vs H Q E h => ?_) (fun cdv A outer s H vs Q E hr h => ?_)
  · obtain ⟨_, _, _, _, _, rfl, _⟩ := h
    rfl
  · refine ⟨_, (pss_one (ps_ret (pe_cmpR op_lt (C8.pe_c c_leaving_at_most hr (by decide) (by rfl) (pa_cons (pv 0) pa_nil)) (C8.pe_c c_least_leaving hr (by decide) (by rfl) (pa_cons (pv 1) pa_nil)) (nomark _)))), ?_⟩
    obtain ⟨a, tp, t, g, w, rfl, hs, hw, q⟩ := h
    refine s_ret (ev_op (ev_call (ea_cons (ev_var rfl) ea_nil) (leaving_at_most_V hs)) (ev_call (ea_cons (ev_var rfl) ea_nil) least_leaving_V) rv_I0) ?_
    rw [← leavAny_lt hw] at q
    rw [show decide (((leavAny t g : Nat) : Int) < ((if w = 1 then 1 else 2 : Nat) : Int)) = decide (leavAny t g < if w = 1 then 1 else 2) from decide_eq_decide.mpr Int.ofNat_lt]
    exact q
theorem is_holding_V {Z : Zc} {tp : Bool} {H : Hp} {a : Addr} {t : Ks565.Folk} {g : List Nat} {w : Nat} (hs : StdAt Z tp H a t g) (hw : w ≤ 1) : SpV (sp_is_holding Z) [.ref a, .int (w : Int)] H (.bl (Ks566.holds t w g)) := fun H1 e Q q _ => ⟨a, tp, t, g, w, rfl, hs.ex e, hw, fun H2 e2 => q H2 e2⟩
/-! left_by -/
abbrev s_left_by : Stmt := top 34
abbrev N_left_by : List Str := ["standing", "s", "groups", "people", "apart", "i"]
abbrev P_left_by : List Str := ["standing", "s"]
theorem sc_left_by : FnScope N_left_by P_left_by (C8.fnScope s_left_by) := C8.fnScope_by (by decide +kernel)
def sp_left_by (Z : Zc) : Sp := fun vs H Q _ => ∃ (a : Addr) (tp : Bool) (t : Ks565.Folk) (g : List Nat) (s : Nat), vs = [.ref a, .int s] ∧ StdAt Z tp H a t g ∧ s < 2 ^ t.n ∧ RetL H Q (nv (Ks566.leave t g s))
theorem inV_set {n s i : Nat} (hi : i < n) : inV (.int (i : Int)) (nv (Ks566.set n s)) = s.testBit i := by
  unfold inV nv
  rw [Bool.eq_iff_iff, List.any_eq_true]
  constructor
  · rintro ⟨x, hx, e⟩
    obtain ⟨k, hk, rfl⟩ := List.mem_map.mp hx
    have e2 : (k : Int) = (i : Int) := by simpa [eqV] using e
    have e3 : k = i := by omega
    subst e3
    exact (List.mem_filter.mp hk).2
  · intro h
    exact ⟨V.int (i : Int), List.mem_map.mpr ⟨i, List.mem_filter.mpr ⟨List.mem_range.mpr hi, h⟩, rfl⟩, by simp [eqV]⟩
theorem flat_nv (l : List Nat) : (nv l).all flatV = true := by
  rw [List.all_eq_true]
  intro x hx
  obtain ⟨k, _, rfl⟩ := List.mem_map.mp hx
  rfl
theorem cal_left_by {Z : Zc} {f : Addr} {fd : FuncData} (F : C8.Def K mg "left_by" s_left_by f fd) (b : Binds K fd P_left_by []) (B : Blt mg) (T : ZTxt K Z) (c_how_many : C8.Cal P w K mg base 1 "how_many" sp_how_many []) (c_numbered : C8.Cal P w K mg base 1 "numbered" sp_numbered []) : C8.Cal P w K mg base 2 "left_by" (sp_left_by Z) [] := by
  have sc := sc_left_by; have b_range := B.range; have b_len := B.len
  refine C8.cal0 F b .nil sc (fun vs H Q E h => ?_) (fun cdv A outer s H vs Q E hr h => ?_)
  · obtain ⟨_, _, _, _, _, rfl, _⟩ := h
    rfl
  · refine ⟨_, (pss_cons (ps_set (i := 2) sc.nd rfl (.inr rfl) (peF K rfl (pv 0) rfl))
      (pss_cons (ps_set (i := 3) sc.nd rfl (.inr rfl) (pe_ix (ixl K rfl) (peF K rfl (peF K rfl (pv 0) rfl) rfl) (pv 1) (fun _ _ => rfl)))
      (pss_cons (ps_set (i := 4) sc.nd rfl (.inr rfl) (C8.pe_c c_how_many hr (by decide) (by rfl) (pa_cons (pv 2) pa_nil)))
      (pss_one (ps_ret (C8.pe_c c_numbered hr (by decide) (by rfl) (pa_cons (pe_lc (own := [("i", 5)]) rfl sc.nd (pi_range1 rfl b_range (pa_cons (pe_callB (cLen K rfl) (by rfl) b_len (by decide +kernel) (pa_cons (pv 2) pa_nil)) pa_nil)) (blkOk_by (own := [("i", 5)]) (N := N_left_by) (sc := C8.fnScope s_left_by) (by decide +kernel)) (fun _ _ _ _ _ => (pg_name (i := 5) sc.nd rfl (Or.inl rfl))) (fun _ _ _ _ _ => pts_nil) (fun _ _ _ _ _ => (pe_ifExp (pt_cmpR (oIn K rfl) (pv 5) (pv 3) rfl) (pv 4) (pe_ix (ixs K rfl) (pv 2) (pv 5) (fun _ _ => rfl))))) pa_nil))))))), ?_⟩
    obtain ⟨a, tp, t, g, s, rfl, hs, hs1, q⟩ := h
    have h5 := hs.le5
    have hn : (nv g).length = t.n := (nv_len g).trans hs.len
    obtain ⟨ag, hg, evg⟩ := ev_groups T hs
    obtain ⟨al, hl, evl⟩ := ev_liking T hs
    refine q_asg (evg (Ex.refl H) (ev_var rfl)) fun H1 e1 => ?_
    obtain ⟨r, hr1, evr⟩ := ev_ppl T (σ := [some (.ref a), some (.int (s : Int)), some (.ref ag), none, none, none]) (ta := tFld K (tVar 0) "liking") (tb := tVar 1) (hl.ex e1) hs1 (evl e1 (ev_var rfl)) (ev_var rfl)
    refine q_asg evr fun H2 e2 => ?_
    have g2 := (seqO_sqn hg).ex (e1.trans e2)
    refine q_asg (ev_call (ea_cons (ev_var rfl) ea_nil) (how_many_V g2 (by have := hs.len; have := hs.pos; omega))) fun H3 e3 => ?_
    have e13 := (e1.trans e2).trans e3
    have g3 := g2.ex e3
    refine s_retL (el_call1 (el_rng (n := (nv g).length) (fun i => V.int ((if s.testBit i then Ks565.groups g else g.getD i 0 : Nat) : Int)) (ea_cons (ev_lenG (ev_var rfl) g3.sq) ea_nil) (by omega) (fun x => rfl) fun i H4 e4 hi => ?_) fun p3 H4 h4 e4 => numbered_L (g := (List.range t.n).map fun i => if s.testBit i then Ks565.groups g else g.getD i 0) ?_ ?_) fun p4 H4 hp4 e4 h4 => ?_
    · have hin : inV (.int (i : Int)) (nv (Ks566.set t.n s)) = s.testBit i := inV_set (by omega)
      refine ev_if (et_is (et_test (ev_op (ev_var rfl) (ev_var rfl) (rv_isL (sq_of (e4 _ _ (e3 _ _ (e2 _ _ hr1)))) rfl (flat_nv _)))) hin) (fun c => ?_) (fun c => ?_)
      · rw [if_pos c]
        exact ev_var rfl
      · rw [if_neg (by rw [c]; exact Bool.false_ne_true)]
        exact ev_op (ev_var rfl) (ev_var rfl) (rv_ixG (g3.ex e4).sq (atI_nat (nv_get (by rw [nv_len] at hi; exact hi))))
    · rw [h4, hn]
      unfold nv
      rw [List.map_map]
      rfl
    · rw [List.length_map, List.length_range]
      omega
    · refine q p4 H4 (fresh_back e13 hp4) (e13.trans e4) ?_
      rw [h4, leave_is hs.len hs.few hs.pos]
theorem left_by_L {Z : Zc} {tp : Bool} {H : Hp} {a : Addr} {t : Ks565.Folk} {g : List Nat} {s : Nat} (hs : StdAt Z tp H a t g) (hs1 : s < 2 ^ t.n) : SpL (sp_left_by Z) [.ref a, .int (s : Int)] H (nv (Ks566.leave t g s)) :=
  fun H1 e Q q _ => ⟨a, tp, t, g, s, rfl, hs.ex e, hs1, fun p H2 hp e2 h2 => q p H2 hp e2 h2⟩
/-! is_lesser_within -/
abbrev s_is_lesser_within : Stmt := top 35
abbrev N_is_lesser_within : List Str := ["part", "s"]
abbrev P_is_lesser_within : List Str := ["part", "s"]
theorem sc_is_lesser_within : FnScope N_is_lesser_within P_is_lesser_within (C8.fnScope s_is_lesser_within) := C8.fnScope_by (by decide +kernel)
def sp_is_lesser_within : Sp := fun vs H Q _ => ∃ (r s : Nat), vs = [.int r, .int s] ∧ RetV H Q (.bl (decide (r < s ∧ r &&& s = r)))
theorem bitAnd_nat (a b : Nat) : Builtin.bitAnd (a : Int) (b : Int) = ((a &&& b : Nat) : Int) := by
  rw [bitAnd_pp (Int.natCast_nonneg _) (Int.natCast_nonneg _)]
  rfl
theorem cal_is_lesser_within {f : Addr} {fd : FuncData} (F : C8.Def K mg "is_lesser_within" s_is_lesser_within f fd) (b : Binds K fd P_is_lesser_within []) : C8.Cal P w K mg base 1 "is_lesser_within" sp_is_lesser_within [] := by
  have sc := sc_is_lesser_within
  refine C8.cal0 F b .nil sc (fun vs H Q E h => ?_) (fun cdv A outer s H vs Q E hr h => ?_)
  · obtain ⟨_, _, rfl, _⟩ := h
    rfl
  · refine ⟨_, (pss_one (ps_ret (pe_and (pe_cmpR op_lt (pv 0) (pv 1) (nomark _)) (pe_one (pe_cmpR op_eq (pe_op op_and (pv 0) (pv 1)) (pv 0) (nomark _)))))), ?_⟩
    obtain ⟨r, s, rfl, q⟩ := h
    have e : (decide ((r : Int) < (s : Int)) && decide (V.int (Builtin.bitAnd (r : Int) (s : Int)) = V.int (r : Int))) = decide (r < s ∧ r &&& s = r) := by
      rw [bitAnd_nat, Bool.eq_iff_iff, Bool.and_eq_true, decide_eq_true_eq, decide_eq_true_eq, decide_eq_true_eq]
      constructor
      · rintro ⟨h1, h2⟩
        exact ⟨by omega, by injection h2 with z; omega⟩
      · rintro ⟨h1, h2⟩
        exact ⟨by omega, by rw [h2]⟩
    refine s_ret (ev_andV (ev_op (ev_var rfl) (ev_var rfl) rv_I0) fun _ => ev_op (ev_op (ev_var rfl) (ev_var rfl) rv_I0) (ev_var rfl) (rv_eq rfl)) ?_
    rw [e]
    exact q
theorem is_lesser_within_V {H : Hp} {r s : Nat} : SpV sp_is_lesser_within [.int (r : Int), .int (s : Int)] H (.bl (decide (r < s ∧ r &&& s = r))) := fun H1 e Q q _ => ⟨r, s, rfl, fun H2 e2 => q H2 e2⟩
/-! is_better_apart -/
abbrev s_is_better_apart : Stmt := top 36
abbrev N_is_better_apart : List Str := ["liking", "part", "s", "i"]
abbrev P_is_better_apart : List Str := ["liking", "part", "s"]
theorem sc_is_better_apart : FnScope N_is_better_apart P_is_better_apart (C8.fnScope s_is_better_apart) := C8.fnScope_by (by decide +kernel)
def sp_is_better_apart (Z : Zc) : Sp := fun vs H Q _ => ∃ (a : Addr) (t : Ks565.Folk) (r s : Nat), vs = [.ref a, .int r, .int s] ∧ LikAt Z H a t ∧ r < 2 ^ t.n ∧ s < 2 ^ t.n ∧ RetV H Q (.bl ((Ks566.set t.n r).all fun i => decide (Ks565.with_ t i (Ks566.set t.n s) < Ks565.with_ t i (Ks566.set t.n r))))
theorem cal_is_better_apart {Z : Zc} {f : Addr} {fd : FuncData} (F : C8.Def K mg "is_better_apart" s_is_better_apart f fd) (b : Binds K fd P_is_better_apart []) (B : Blt mg) (T : ZTxt K Z) : C8.Cal P w K mg base 1 "is_better_apart" (sp_is_better_apart Z) [] := by
  have sc := sc_is_better_apart; have b_all := B.all
  refine C8.cal0 F b .nil sc (fun vs H Q E h => ?_) (fun cdv A outer s H vs Q E hr h => ?_)
  · obtain ⟨_, _, _, _, rfl, _⟩ := h
    rfl
  · refine ⟨_, (pss_one (ps_ret (pe_callB (cAll K rfl rfl) (by rfl) b_all (by decide +kernel) (pa_cons (pe_lc (own := [("i", 3)]) rfl sc.nd (piL K rfl (pe_ix (ixl K rfl) (peF K rfl (pv 0) rfl) (pv 1) (fun _ _ => rfl))) (blkOk_by (own := [("i", 3)]) (N := N_is_better_apart) (sc := C8.fnScope s_is_better_apart) (by decide +kernel)) (fun _ _ _ _ _ => (pg_name (i := 3) sc.nd rfl (Or.inl rfl))) (fun _ _ _ _ _ => pts_nil) (fun _ _ _ _ _ => (pe_cmpR op_gt (pe_ix (ixl K rfl) (pe_ix (ixl K rfl) (peF K rfl (pv 0) rfl) (pv 3) (fun _ _ => rfl)) (pv 1) (fun _ _ => rfl)) (pe_ix (ixl K rfl) (pe_ix (ixl K rfl) (peF K rfl (pv 0) rfl) (pv 3) (fun _ _ => rfl)) (pv 2) (fun _ _ => rfl)) (nomark _)))) pa_nil)))), ?_⟩
    obtain ⟨a, t, r, s, rfl, hl, hr2, hs2, q⟩ := h
    have h5 := hl.2.1
    obtain ⟨rr, hr1, evr⟩ := ev_ppl T (σ := L2.start N_is_better_apart [.ref a, .int (r : Int), .int (s : Int)]) (ta := tVar 0) (tb := tVar 1) hl hr2 (ev_var rfl) (ev_var rfl)
    refine s_ret (ev_cbL (el_nums (l := Ks566.set t.n r) (fun i => V.bl (decide (Ks565.with_ t i (Ks566.set t.n s) < Ks565.with_ t i (Ks566.set t.n r)))) evr hr1 (Nat.le_trans (set_len _ _) (by omega)) (fun x => rfl) fun i H1 e1 hi =>
      ev_op (ev_sum T (hl.ex e1) (set_lt hi) hr2 (ev_var rfl) (ev_var rfl) (ev_var rfl)) (ev_sum T (hl.ex e1) (set_lt hi) hs2 (ev_var rfl) (ev_var rfl) (ev_var rfl)) rv_I0) fun p H1 h1 e1 => ?_) q
    rw [← all_map]
    exact rc_all (by rw [h1, List.map_map]; rfl)
theorem is_better_apart_V {Z : Zc} {H : Hp} {a : Addr} {t : Ks565.Folk} {r s : Nat} (hl : LikAt Z H a t) (hr : r < 2 ^ t.n) (hs : s < 2 ^ t.n) : SpV (sp_is_better_apart Z) [.ref a, .int (r : Int), .int (s : Int)] H (.bl ((Ks566.set t.n r).all fun i => decide (Ks565.with_ t i (Ks566.set t.n s) < Ks565.with_ t i (Ks566.set t.n r)))) :=
  fun H1 e Q q _ => ⟨a, t, r, s, rfl, hl.ex e, hr, hs, fun H2 e2 => q H2 e2⟩
/-! is_firm, firm_sets -/
abbrev s_is_firm : Stmt := top 37
abbrev N_is_firm : List Str := ["liking", "s", "part"]
abbrev P_is_firm : List Str := ["liking", "s"]
theorem sc_is_firm : FnScope N_is_firm P_is_firm (C8.fnScope s_is_firm) := C8.fnScope_by (by decide +kernel)
def sp_is_firm (Z : Zc) : Sp := fun vs H Q _ => ∃ (a : Addr) (t : Ks565.Folk) (s : Nat), vs = [.ref a, .int s] ∧ LikAt Z H a t ∧ s ≠ 0 ∧ s < 2 ^ t.n ∧ RetV H Q (.bl (Ks566.firm t s))
theorem cal_is_firm {Z : Zc} {f : Addr} {fd : FuncData} (F : C8.Def K mg "is_firm" s_is_firm f fd) (b : Binds K fd P_is_firm []) (B : Blt mg) (c_is_better_apart : C8.Cal P w K mg base 1 "is_better_apart" (sp_is_better_apart Z) []) (c_is_lesser_within : C8.Cal P w K mg base 1 "is_lesser_within" sp_is_lesser_within []) : C8.Cal P w K mg base 2 "is_firm" (sp_is_firm Z) [] := by
  have sc := sc_is_firm; have b_range := B.range
  refine C8.cal0 F b .nil sc (fun vs H Q E h => ?_) (fun cdv A outer s H vs Q E hr h => ?_)
  · obtain ⟨_, _, _, rfl, _⟩ := h
    rfl
  · refine ⟨_, (pss_cons (ps_for PassesOwn.never rfl (pi_range2 rfl b_range (pa_cons pe_int (pa_cons (pv 1) pa_nil))) (pg_name (i := 2) sc.nd rfl (.inl rfl)) (pss_one (ps_if (PW.pt (pw_and (pt_val (C8.pe_c c_is_lesser_within hr (by decide) (by rfl) (pa_cons (pv 2) (pa_cons (pv 1) pa_nil)))) (pw_and1 (pt_val (C8.pe_c c_is_better_apart hr (by decide) (by rfl) (pa_cons (pv 0) (pa_cons (pv 2) (pa_cons (pv 1) pa_nil)))))))) (pss_one (ps_ret pe_bl)) pss_nil)))
      (pss_one (ps_ret pe_bl))), ?_⟩
    obtain ⟨a, t, s, rfl, hl, hs0, hs1, q⟩ := h
    have hpow := pow_le32 hl.2.1
    refine q_forR2 (lo := 1) (n := (s : Int)) (ea_cons ev_c (ea_cons (ev_var rfl) ea_nil)) ⟨by omega, by omega, by omega, by omega⟩
      (fun i σ' H' => ∃ v2, σ' = [some (.ref a), some (.int (s : Int)), v2] ∧ Ex H H' ∧ ∀ r, 1 ≤ r → r < 1 + i → ¬ (r &&& s = r ∧ ∀ i ∈ Ks566.set t.n r, Ks565.with_ t i (Ks566.set t.n s) < Ks565.with_ t i (Ks566.set t.n r))) (fun H1 e => ⟨none, rfl, e, fun r h1 h2 => absurd h2 (by omega)⟩) ?_ ?_
    · rintro i _ H1 hi ⟨v2, rfl, e1, u1⟩
      have ei : (1 : Int) + (i : Int) = ((1 + i : Nat) : Int) := by omega
      rw [ei]
      refine s_when (et_and (et_B (ev_call (ea_cons (ev_var rfl) (ea_cons (ev_var rfl) ea_nil)) is_lesser_within_V)) fun _ => et_B (ev_call (ea_cons (ev_var rfl) (ea_cons (ev_var rfl) (ea_cons (ev_var rfl) ea_nil))) (is_better_apart_V (hl.ex e1) (by omega) hs1))) (fun c H2 e2 => ?_) (fun c H2 e2 => ?_)
      · rw [Bool.and_eq_true, decide_eq_true_eq, List.all_eq_true] at c
        refine s_ret ev_c fun H3 e3 => ?_
        have z := q H3 ((e1.trans e2).trans e3)
        have hf : Ks566.firm t s = false := by
          rw [Bool.eq_false_iff]
          intro y
          exact (firm_iff hs0 hs1).mp y (1 + i) (by omega) c.1.1 ⟨c.1.2, fun j hj => of_decide_eq_true (c.2 j hj)⟩
        rw [hf] at z
        exact z
      · refine ⟨_, rfl, e1.trans e2, fun r h1 h2 => ?_⟩
        by_cases cr : r < 1 + i
        · exact u1 r h1 cr
        · have er : r = 1 + i := by omega
          subst er
          rintro ⟨y1, y2⟩
          rw [decide_eq_true (show 1 + i < s ∧ (1 + i) &&& s = 1 + i from ⟨by omega, y1⟩), List.all_eq_true.mpr (fun j hj => decide_eq_true (y2 j hj))] at c
          cases c
    · rintro _ H1 ⟨v2, rfl, e1, u1⟩
      refine s_ret ev_c fun H2 e2 => ?_
      have z := q H2 (e1.trans e2)
      have en : ((s : Int) - 1).toNat = s - 1 := by omega
      rw [en] at u1
      rw [(firm_iff hs0 hs1).mpr fun r h1 h2 => u1 r h1 (by omega)] at z
      exact z
theorem is_firm_V {Z : Zc} {H : Hp} {a : Addr} {t : Ks565.Folk} {s : Nat} (hl : LikAt Z H a t) (hs0 : s ≠ 0) (hs1 : s < 2 ^ t.n) : SpV (sp_is_firm Z) [.ref a, .int (s : Int)] H (.bl (Ks566.firm t s)) := fun H1 e Q q _ => ⟨a, t, s, rfl, hl.ex e, hs0, hs1, fun H2 e2 => q H2 e2⟩
abbrev s_firm_sets : Stmt := top 38
abbrev N_firm_sets : List Str := ["liking", "s"]
abbrev P_firm_sets : List Str := ["liking"]
theorem sc_firm_sets : FnScope N_firm_sets P_firm_sets (C8.fnScope s_firm_sets) := C8.fnScope_by (by decide +kernel)
def sp_firm_sets (Z : Zc) : Sp := fun vs H Q _ => ∃ (a : Addr) (t : Ks565.Folk), vs = [.ref a] ∧ LikAt Z H a t ∧ RetL H Q (nv ((List.range (2 ^ t.n)).filter (Ks566.firm t)))
theorem cal_firm_sets {Z : Zc} {f : Addr} {fd : FuncData} (F : C8.Def K mg "firm_sets" s_firm_sets f fd) (b : Binds K fd P_firm_sets []) (B : Blt mg) (T : ZTxt K Z) (c_is_firm : C8.Cal P w K mg base 2 "is_firm" (sp_is_firm Z) []) : C8.Cal P w K mg base 3 "firm_sets" (sp_firm_sets Z) [] := by
  have sc := sc_firm_sets; have b_range := B.range; have b_len := B.len
  refine C8.cal0 F b .nil sc (fun vs H Q E h => ?_) (fun cdv A outer s H vs Q E hr h => ?_)
  · obtain ⟨_, _, rfl, _⟩ := h
    rfl
  · refine ⟨_, (pss_one (ps_ret (pe_lc (own := [("s", 1)]) rfl sc.nd (pi_range2 rfl b_range (pa_cons pe_int (pa_cons (pe_callB (cLen K rfl) (by rfl) b_len (by decide +kernel) (pa_cons (peF K rfl (pv 0) rfl) pa_nil)) pa_nil))) (blkOk_by (own := [("s", 1)]) (N := N_firm_sets) (sc := C8.fnScope s_firm_sets) (by decide +kernel)) (fun _ _ _ _ _ => (pg_name (i := 1) sc.nd rfl (Or.inl rfl))) (fun _ _ _ _ _ => (pts_one (pt_val (C8.pe_c c_is_firm hr (by decide) (by rfl) (pa_cons (pv 0) (pa_cons (pv 1) pa_nil)))))) (fun _ _ _ _ _ => (pv 1))))), ?_⟩
    obtain ⟨a, t, rfl, hl, q⟩ := h
    have hpow := pow_le32 hl.2.1
    have hpos : 0 < 2 ^ t.n := Nat.two_pow_pos _
    refine s_retL (el_rng2 (lo := 1) (n := 2 ^ t.n) (Ks566.firm t) (fun s => V.int (s : Int)) (ea_cons ev_c (ea_cons (ev_nPpl T hl (ev_var rfl)) ea_nil)) (by omega) hpos (fun x => rfl) (fun s H2 e2 h1 h2 => ?_) fun s H2 e2 h1 h2 _ => ev_var rfl) fun p H2 hp e2 h2 => ?_
    · exact et_B (ev_call (ea_cons (ev_var rfl) (ea_cons (ev_var rfl) ea_nil)) (is_firm_V (hl.ex e2) (by omega) h2))
    · refine q p H2 hp e2 ?_
      rw [h2, given_from1 (2 ^ t.n) (Ks566.firm t)]
      refine congrArg (fun l => some (HO.lst (nv l))) (List.filter_congr fun s _ => ?_)
      by_cases c : s = 0
      · subst c
        rfl
      · rw [decide_eq_true c, Bool.true_and]
theorem firm_sets_L {Z : Zc} {H : Hp} {a : Addr} {t : Ks565.Folk} (hl : LikAt Z H a t) : SpL (sp_firm_sets Z) [.ref a] H (nv ((List.range (2 ^ t.n)).filter (Ks566.firm t))) := fun H1 e Q q _ => ⟨a, t, rfl, hl.ex e, fun p H2 hp e2 h2 => q p H2 hp e2 h2⟩
end Rg

set_option Elab.async false
set_option maxRecDepth 100000
set_option maxHeartbeats 2000000
set_option linter.unusedVariables false
/-! choosing.py: all ways to be in groups, the kinds of rest -/
namespace Rg
open PySem PySem.Spec PyProof.Rows L2 Evl LamX
variable {P : Program} {w : World} {K : PySem.W.Frag} {mg : Str → Option Value} {base : Heap}
def gRows (l : List (List Nat)) : List (List Int) := l.map castL
theorem castL_map (g : List Nat) : (castL g).map V.int = nv g := (nv_ints g).symm
theorem gRows_app (l m : List (List Nat)) : gRows (l ++ m) = gRows l ++ gRows m := List.map_append
theorem gRows_len (l : List (List Nat)) : (gRows l).length = l.length := List.length_map ..
/-- the j-th of rows that are groups -/
theorem RowsAt.grp {H : Hp} {a : Addr} {l : List (List Nat)} (x : RowsAt H a (gRows l)) : ∃ rs : List Addr, H a = some (.lst (rs.map V.ref)) ∧ rs.length = l.length ∧ ∀ (i : Nat) (r : Addr), rs[i]? = some r → ∃ g, l[i]? = some g ∧ H r = some (.lst (nv g)) := by
  obtain ⟨rs, h1, h2, h3⟩ := x
  refine ⟨rs, h1, h2.trans (gRows_len l), fun i r hi => ?_⟩
  obtain ⟨row, k1, k2⟩ := h3 i r hi
  unfold gRows at k1
  rw [List.getElem?_map] at k1
  cases e : l[i]? with
  | none => rw [e] at k1; cases k1
  | some g =>
    rw [e] at k1
    have k1 : castL g = row := Option.some.inj k1
    exact ⟨g, rfl, by rw [k2, ← k1, castL_map]⟩
theorem ref_at {rs : List Addr} {i : Nat} {x : V} (h : (rs.map V.ref)[i]? = some x) : ∃ r, rs[i]? = some r ∧ x = .ref r := by
  rw [List.getElem?_map] at h
  cases e : rs[i]? with
  | none => rw [e] at h; cases h
  | some r => rw [e] at h; exact ⟨r, rfl, (Option.some.inj h).symm⟩
/-! with_one_more -/
abbrev s_with_one_more : Stmt := top 41
abbrev N_with_one_more : List Str := ["ways", "longer", "groups", "k"]
abbrev P_with_one_more : List Str := ["ways"]
theorem sc_with_one_more : FnScope N_with_one_more P_with_one_more (C8.fnScope s_with_one_more) := C8.fnScope_by (by decide +kernel)
def sp_with_one_more : Sp := fun vs H Q _ => ∃ (a : Addr) (n : Nat), vs = [.ref a] ∧ 0 < n ∧ n ≤ 4 ∧ RowsAt H a (gRows (Ks565.all n)) ∧ RetR H Q (gRows (Ks565.all (n + 1)))
theorem cal_with_one_more {f : Addr} {fd : FuncData} (F : C8.Def K mg "with_one_more" s_with_one_more f fd) (b : Binds K fd P_with_one_more []) (B : Blt mg) (c_how_many : C8.Cal P w K mg base 1 "how_many" sp_how_many []) : C8.Cal P w K mg base 2 "with_one_more" sp_with_one_more [] := by
  have sc := sc_with_one_more; have b_range := B.range
  refine C8.cal0 F b .nil sc (fun vs H Q E h => ?_) (fun cdv A outer s H vs Q E hr h => ?_)
  · obtain ⟨_, _, rfl, _⟩ := h
    rfl
  · refine ⟨_, (pss_cons (ps_set (i := 1) sc.nd rfl (.inl rfl) (pe_lst pa_nil))
      (pss_cons (ps_for PassesOwn.never rfl (piL K rfl (pv 0)) (pg_name (i := 2) sc.nd rfl (.inl rfl)) (pss_one (ps_for PassesOwn.never rfl (pi_range1 rfl b_range (pa_cons (pe_op op_add (C8.pe_c c_how_many hr (by decide) (by rfl) (pa_cons (pv 2) pa_nil)) pe_int) pa_nil)) (pg_name (i := 3) sc.nd rfl (.inl rfl)) (pss_one (ps_expr (pe_bm PySem.F.plainAttrs_list PySem.F.slot_list_append PySem.F.type_list_append (mt_append) (pv 1) (pa_cons (pe_op op_cat (pv 2) (pe_lst (pa_cons (pv 3) pa_nil))) pa_nil)))))))
      (pss_one (ps_ret (pv 1))))), ?_⟩
    obtain ⟨a, n, rfl, h0, h4, hr0, q⟩ := h
    obtain ⟨rs, h1, h2, h3⟩ := hr0.grp
    have hcount := all_count n (by omega)
    refine q_asgL (el_lst ea_nil (by decide)) fun D H0 hD e0 d0 => ?_
    refine q_forLn (xs := rs.map V.ref) (ev_var rfl) (sq_of (e0 _ _ h1)) (fun j σ' H' => ∃ v2 v3, σ' = [some (.ref a), some (.ref D), v2, v3] ∧ Ex H H' ∧ RowsAt H' D (gRows (longerTo (Ks565.all n) j)))
      (fun H1 e => ⟨none, none, rfl, e0.trans e, RowsAt.nil (e _ _ d0)⟩) (fun j σ' H' _ ⟨_, _, _, e, _⟩ => sq_of (e _ _ h1)) ?_ ?_
    · rintro j x _ H1 hx ⟨v2, v3, rfl, e1, p1⟩
      obtain ⟨r, hr1, rfl⟩ := ref_at hx
      obtain ⟨g, hg, hgr⟩ := h3 j r hr1
      have hga := List.mem_of_getElem? hg
      have hgl := all_length hga
      have hgg := groups_all h0 hga
      refine s_forR1 (n := ((Ks565.groups g : Nat) : Int) + 1) (ea_cons (ev_op (ev_call (ea_cons (ev_var rfl) ea_nil) (how_many_V (.inl (e1 _ _ hgr)) (by omega))) ev_c rv_I0) ea_nil) (by omega)
        (fun k σ' H' => ∃ v3, σ' = [some (.ref a), some (.ref D), some (.ref r), v3] ∧ Ex H H' ∧ RowsAt H' D (gRows (longerTo (Ks565.all n) j ++ (List.range k).map fun x => g ++ [x]))) (fun H2 e => ⟨v3, rfl, e1.trans e, by rw [List.range_zero, List.map_nil, List.append_nil]; exact p1.ex e⟩) ?_ ?_
      · rintro k _ H2 hk ⟨v3', rfl, e2, p2⟩
        obtain ⟨xs, hxs, hxl⟩ := p2.lst
        rw [gRows_len, List.length_append, List.length_map, List.length_range] at hxl
        have hlt := longerTo_len (l := Ks565.all n) (j := j) (m := 4) fun g hg => Nat.le_trans (groups_all h0 hg) h4
        refine s_appL hxs (ev_var rfl) (el_catV (xs := nv g) (ev_var rfl) (e2 _ _ hgr) (el_lst (ea_cons (ev_var rfl) ea_nil) (by show 1 ≤ 100000; decide)) (by rw [nv_len]; show _ + 1 ≤ _; omega)) (by omega) fun p H3 hp e3 h3 => ⟨_, rfl, (e2.trans e3).mut hD, ?_⟩
        rw [range_map_succ, ← List.append_assoc, gRows_app]
        refine p2.snoc hxs e3 (row := castL (g ++ [k])) ?_ fun z => ?_
        · rw [h3, castL_map]
          unfold nv
          rw [List.map_append]
          rfl
        · rw [z, hxs] at hp
          cases hp
      · rintro _ H2 ⟨v3', rfl, e2, p2⟩
        refine ⟨_, _, rfl, e2, ?_⟩
        rw [longerTo_succ hg]
        have en : (((Ks565.groups g : Nat) : Int) + 1).toNat = Ks565.groups g + 1 := by omega
        rw [en] at p2
        exact p2
    · rintro _ H1 ⟨v2, v3, rfl, e1, p1⟩
      refine s_ret (ev_var rfl) fun H2 e2 => q D H2 hD (e1.trans e2) ?_
      rw [List.length_map, h2, longer_all h0] at p1
      exact p1.ex e2
theorem with_one_more_R {H : Hp} {a : Addr} {n : Nat} (h0 : 0 < n) (h4 : n ≤ 4) (hr : RowsAt H a (gRows (Ks565.all n))) : SpR sp_with_one_more [.ref a] H (gRows (Ks565.all (n + 1))) := fun H1 e Q q _ => ⟨a, n, rfl, h0, h4, hr.ex e, q⟩
/-! all_ways -/
abbrev s_all_ways : Stmt := top 42
abbrev N_all_ways : List Str := ["n", "ways", "i"]
abbrev P_all_ways : List Str := ["n"]
theorem sc_all_ways : FnScope N_all_ways P_all_ways (C8.fnScope s_all_ways) := C8.fnScope_by (by decide +kernel)
def sp_all_ways : Sp := fun vs H Q _ => ∃ (n : Nat), vs = [.int n] ∧ 0 < n ∧ n ≤ 5 ∧ RetR H Q (gRows (Ks565.all n))
theorem cal_all_ways {f : Addr} {fd : FuncData} (F : C8.Def K mg "all_ways" s_all_ways f fd) (b : Binds K fd P_all_ways []) (B : Blt mg) (c_with_one_more : C8.Cal P w K mg base 2 "with_one_more" sp_with_one_more []) : C8.Cal P w K mg base 3 "all_ways" sp_all_ways [] := by
  have sc := sc_all_ways; have b_range := B.range
  refine C8.cal0 F b .nil sc (fun vs H Q E h => ?_) (fun cdv A outer s H vs Q E hr h => ?_)
  · obtain ⟨_, rfl, _⟩ := h
    rfl
  · refine ⟨_, (pss_cons (ps_set (i := 1) sc.nd rfl (.inl rfl) (pe_lst (pa_cons (pe_lst (pa_cons pe_int pa_nil)) pa_nil)))
      (pss_cons (ps_for PassesOwn.never rfl (pi_range2 rfl b_range (pa_cons pe_int (pa_cons (pv 0) pa_nil))) (pg_name (i := 2) sc.nd rfl (.inl rfl)) (pss_one (ps_set (i := 1) sc.nd rfl (.inl rfl) (C8.pe_c c_with_one_more hr (by decide) (by rfl) (pa_cons (pv 1) pa_nil)))))
      (pss_one (ps_ret (pv 1))))), ?_⟩
    obtain ⟨n, rfl, h0, h5, q⟩ := h
    refine q_asgR (er_one (row := [0]) (el_lst (ea_cons ev_c ea_nil) (by show 1 ≤ 100000; decide))) fun p0 H0 hp0 e0 r0 => ?_
    refine q_forR2 (lo := 1) (n := (n : Int)) (ea_cons ev_c (ea_cons (ev_var rfl) ea_nil)) ⟨by omega, by omega, by omega, by omega⟩
      (fun i σ' H' => ∃ p v2, σ' = [some (.int (n : Int)), some (.ref p), v2] ∧ H p = none ∧ Ex H H' ∧ RowsAt H' p (gRows (Ks565.all (i + 1)))) (fun H1 e => ⟨p0, none, rfl, hp0, e0.trans e, by rw [all_one]; exact r0.ex e⟩) ?_ ?_
    · rintro i _ H1 hi ⟨p, v2, rfl, hp, e1, r1⟩
      exact s_asgR (er_call (ea_cons (ev_var rfl) ea_nil) (with_one_more_R (by omega) (by omega) r1)) fun p2 H2 hp2 e2 r2 => ⟨p2, _, rfl, fresh_back e1 hp2, e1.trans e2, r2⟩
    · rintro _ H1 ⟨p, v2, rfl, hp, e1, r1⟩
      refine s_ret (ev_var rfl) fun H2 e2 => q p H2 hp (e1.trans e2) ?_
      have en : ((n : Int) - 1).toNat + 1 = n := by omega
      rw [en] at r1
      exact r1.ex e2
theorem all_ways_R {H : Hp} {n : Nat} (h0 : 0 < n) (h5 : n ≤ 5) : SpR sp_all_ways [.int (n : Int)] H (gRows (Ks565.all n)) := fun H1 e Q q _ => ⟨n, rfl, h0, h5, q⟩
/-! all_standings -/
/-- standings at a, one for each of the ways l -/
def StsAt (Z : Zc) (H : Hp) (a : Addr) (t : Ks565.Folk) (l : List (List Nat)) : Prop := ∃ ps : List Addr, H a = some (.lst (ps.map V.ref)) ∧ ps.length = l.length ∧ ∀ (j : Nat) (q : Addr), ps[j]? = some q → ∃ g, l[j]? = some g ∧ StdAt Z false H q t g
theorem StsAt.stn {Z : Zc} {H H' : Hp} {a : Addr} {t : Ks565.Folk} {l : List (List Nat)} (x : StsAt Z H a t l) (e : Stn H H') : StsAt Z H' a t l := by
  obtain ⟨ps, h1, h2, h3⟩ := x
  refine ⟨ps, e.s.l _ _ h1, h2, fun j q hj => ?_⟩
  obtain ⟨g, k1, k2⟩ := h3 j q hj
  exact ⟨g, k1, k2.stn e⟩
theorem StsAt.ex {Z : Zc} {H H' : Hp} {a : Addr} {t : Ks565.Folk} {l : List (List Nat)} (x : StsAt Z H a t l) (e : Ex H H') : StsAt Z H' a t l := x.stn (.ex e)
theorem StsAt.gr {Z : Zc} {H H' : Hp} {a : Addr} {t : Ks565.Folk} {l : List (List Nat)} (x : StsAt Z H a t l) (e : ExtN H H') : StsAt Z H' a t l := x.stn (.gr e)
def IsSts (Z : Zc) (t : Ks565.Folk) (l : List (List Nat)) : V → Hp → Prop := fun v H => ∃ p, v = .ref p ∧ StsAt Z H p t l
/-- .. while they are made: at D, over the heap H0 -/
def StsNew (Z : Zc) (H0 H : Hp) (al D : Addr) (t : Ks565.Folk) (l : List (List Nat)) : Prop := ∃ ps : List Addr, H D = some (.lst (ps.map V.ref)) ∧ ps.length = l.length ∧ ∀ (j : Nat) (q : Addr), ps[j]? = some q →
  ∃ g dx ag ar ah, l[j]? = some g ∧ H q = some (.ins Z.std dx (sF al ag ar ah)) ∧ H0 ag = some (.lst (nv g)) ∧ H ar = some (.lst (nv (placesOf g))) ∧ ar ≠ D ∧ H ah = some (.lst ((Ks568.worths t g).map V.int)) ∧ ah ≠ D
theorem StsNew.snoc {Z : Zc} {H0 H H' : Hp} {al D q dx ag ar ah : Addr} {t : Ks565.Folk} {l : List (List Nat)} {g : List Nat} {xs : List V} (x : StsNew Z H0 H al D t l) (hx : H D = some (.lst xs)) (e : Ex H H') (hq : H' q = some (.ins Z.std dx (sF al ag ar ah))) (hg : H0 ag = some (.lst (nv g))) (hr : H' ar = some (.lst (nv (placesOf g)))) (nr : ar ≠ D) (hh : H' ah = some (.lst ((Ks568.worths t g).map V.int))) (nh : ah ≠ D) :
    StsNew Z H0 (upd H' D (.lst (xs ++ [.ref q]))) al D t (l ++ [g]) := by
  obtain ⟨ps, h1, h2, h3⟩ := x
  rw [h1] at hx
  cases hx
  have nI : ∀ {b C d : Addr} {fs : List (Str × V)}, H' b = some (.ins C d fs) → b ≠ D := fun {b C d fs} hb z => by
    rw [z, e _ _ h1] at hb
    cases hb
  refine ⟨ps ++ [q], by rw [upd_same, List.map_append]; rfl, by rw [List.length_append, List.length_append, h2]; rfl, fun j p hj => ?_⟩
  by_cases hlt : j < ps.length
  · rw [List.getElem?_append_left hlt] at hj
    obtain ⟨g', dx', ag', ar', ah', k1, k2, k3, k4, k5, k6, k7⟩ := h3 j p hj
    exact ⟨g', dx', ag', ar', ah', by rw [List.getElem?_append_left (by omega)]; exact k1, (upd_ne (nI (e _ _ k2))).trans (e _ _ k2), k3, (upd_ne k5).trans (e _ _ k4), k5, (upd_ne k7).trans (e _ _ k6), k7⟩
  · rw [List.getElem?_append_right (by omega)] at hj
    obtain ⟨hj1, hj2⟩ := List.getElem?_eq_some_iff.mp hj
    have hj0 : j = ps.length := by simp at hj1; omega
    subst hj0
    have hqp : q = p := by simpa using hj2
    subst hqp
    exact ⟨g, dx, ag, ar, ah, by rw [h2, List.getElem?_append_right (Nat.le_refl _)]; simp, (upd_ne (nI hq)).trans hq, hg, (upd_ne nr).trans hr, nr, (upd_ne nh).trans hh, nh⟩
abbrev s_all_standings : Stmt := top 43
abbrev N_all_standings : List Str := ["liking", "groups"]
abbrev P_all_standings : List Str := ["liking"]
theorem sc_all_standings : FnScope N_all_standings P_all_standings (C8.fnScope s_all_standings) := C8.fnScope_by (by decide +kernel)
def sp_all_standings (Z : Zc) : Sp := fun vs H Q _ => ∃ (a : Addr) (t : Ks565.Folk), vs = [.ref a] ∧ LikAt Z H a t ∧ ∀ p H', Ex H H' → StsAt Z H' p t (Ks565.all t.n) → Q (.ref p) H'
theorem cal_all_standings {Z : Zc} {f : Addr} {fd : FuncData} (F : C8.Def K mg "all_standings" s_all_standings f fd) (b : Binds K fd P_all_standings []) (B : Blt mg) (T : ZTxt K Z) (c_all_ways : C8.Cal P w K mg base 3 "all_ways" sp_all_ways []) (c_Standing : C8.Mak P w K mg base 3 "Standing" Z.std (sp_Standing_init Z) []) : C8.Cal P w K mg base 5 "all_standings" (sp_all_standings Z) [] := by
  have sc := sc_all_standings; have b_len := B.len
  refine C8.cal0 F b .nil sc (fun vs H Q E h => ?_) (fun cdv A outer s H vs Q E hr h => ?_)
  · obtain ⟨_, _, rfl, _⟩ := h
    rfl
  · refine ⟨_, (pss_one (ps_ret (pe_lc (own := [("groups", 1)]) rfl sc.nd (piL K rfl (C8.pe_c c_all_ways hr (by decide) (by rfl) (pa_cons (pe_callB (cLen K rfl) (by rfl) b_len (by decide +kernel) (pa_cons (peF K rfl (pv 0) rfl) pa_nil)) pa_nil))) (blkOk_by (own := [("groups", 1)]) (N := N_all_standings) (sc := C8.fnScope s_all_standings) (by decide +kernel)) (fun _ _ _ _ _ => (pg_name (i := 1) sc.nd rfl (Or.inl rfl))) (fun _ _ _ _ _ => pts_nil) (fun _ _ _ _ _ => (C8.pe_mk c_Standing hr (by decide) (by rfl) (pa_cons (pv 0) (pa_cons (pv 1) pa_nil))))))), ?_⟩
    obtain ⟨a, t, rfl, hl, q⟩ := h
    have h0 := hl.1
    have h5 := hl.2.1
    have hnw : Ev (tCB (rLenS K) (tCons (tFld K (tVar 0) "worths") tNil)) (L2.start N_all_standings [.ref a]) H (.int ((t.n : Nat) : Int)) := by
      obtain ⟨_, _, dx, aw, ap, au, g1, g2, g3, g4⟩ := hl
      obtain ⟨xs, hx, hxl⟩ := g2.lst
      have z := ev_len (K := K) (ev_fld T.lc T.lW (ev_var (σ := L2.start N_all_standings [.ref a]) (i := 0) rfl) g1 (lF_worths _ _ _)) (sq_of hx)
      rw [hxl, rowsOf_len] at z
      exact z
    refine er_call (ea_cons hnw ea_nil) (all_ways_R h0 h5) H (Ex.refl H) _ fun aw H1 haw e1 r1 => ?_
    obtain ⟨rs, g1, g2, g3⟩ := r1.grp
    have hcount := all_count t.n (by omega)
    refine ⟨aw, rfl, ⟨_, sq_of g1⟩, fun D hD => ?_⟩
    refine lc_list (xs := rs.map V.ref) (fun i H' => Ex H1 H' ∧ StsNew Z H1 H' a D t ((Ks565.all t.n).take i)) ⟨Ex.new hD, [], upd_same, by rw [List.take_zero]; rfl, fun j q hj => by cases hj⟩ (fun i H' _ p => sq_of (p.1 _ _ g1)) (fun i x H' hi p => ⟨rfl, ?_⟩) fun H' p => ?_
    · obtain ⟨r, hr1, rfl⟩ := ref_at hi
      obtain ⟨g, hg, hgr⟩ := g3 i r hr1
      have hga := List.mem_of_getElem? hg
      obtain ⟨ps, d1, d2, d3⟩ := id p.2
      refine et_yes H' (Ex.refl H') _ fun Hy ey => ?_
      rw [if_pos rfl]
      refine (ea_cons (ev_var rfl) (ea_cons (ev_var rfl) ea_nil)) Hy (Ex.refl Hy) _ fun H2 ez x dx hx hdx hne => ?_
      have e2 := ey.trans ez
      have e12 := p.1.trans e2
      have pre := mk_pre (o1 := .own x) (o2 := .ins Z.std dx []) hx hdx
      refine ⟨x, dx, a, r, t, g, false, rfl, upd_same, ((hl.ex e1).ex e12).ex pre, pre _ _ (e12 _ _ hgr), all_length hga, all_few hga, fun ar ah H3 nar nah but i3 p3 h3 => ⟨rfl, ?_⟩⟩
      have e3 := mk_ex hx hdx but
      have nD : ∀ {b : Addr}, upd (upd H2 dx (.own x)) x (.ins Z.std dx []) b = none → b ≠ D := fun {b} hb z => by
        rw [z, pre _ _ (e2 _ _ d1)] at hb
        cases hb
      refine ⟨_, e3 _ _ (e2 _ _ d1), ?_, (e12.trans e3).mut hD, ?_⟩
      · rw [List.length_map, d2, List.length_take]
        exact small1000 (by omega)
      · rw [List.take_add_one, hg]
        exact p.2.snoc d1 (e2.trans e3) i3 hgr p3 (nD nar) h3 (nD nah)
    · rw [List.length_map, g2, List.take_length] at p
      obtain ⟨eH, ps, d1, d2, d3⟩ := p
      refine q D H' (e1.trans eH) ⟨ps, d1, d2, fun j x hj => ?_⟩
      obtain ⟨g, dx, ag, ar, ah, k1, k2, k3, k4, k5, k6, k7⟩ := d3 j x hj
      have hga := List.mem_of_getElem? k1
      exact ⟨g, k1, all_length hga, all_few hga, dx, a, ag, ar, ah, k2, (hl.ex e1).ex eH, eH _ _ k3, k4, k6⟩
theorem all_standings_P {Z : Zc} {H : Hp} {a : Addr} {t : Ks565.Folk} (hl : LikAt Z H a t) : SpP (sp_all_standings Z) [.ref a] H (IsSts Z t (Ks565.all t.n)) := fun H1 e Q q _ => ⟨a, t, rfl, hl.ex e, fun p H2 e2 h2 => q _ H2 e2 ⟨p, rfl, h2⟩⟩
/-- a loop over standings -/
theorem q_forS {Z : Zc} {σ : L2.St} {H : Hp} {D : Ends} {te : TE} {tu tz : TS} {j : Nat} {t : Ks565.Folk} {l : List (List Nat)} (h : EvP te σ H (IsSts Z t l)) (Pv : Nat → L2.St → Hp → Prop) (h0 : ∀ H1, Ex H H1 → Pv 0 σ H1)
    (hs : ∀ H1, Ex H H1 → ∀ i g q σ' H', l[i]? = some g → Ex H1 H' → StdAt Z false H' q t g → Pv i σ' H' → tu { D with nx := fun σ2 H2 => Ex H1 H2 ∧ Pv (i + 1) σ2 H2, ct := fun σ2 H2 => Ex H1 H2 ∧ Pv (i + 1) σ2 H2, bk := tz D } (σ'.set j (some (.ref q))) H')
    (hd : ∀ H1, Ex H H1 → ∀ σ' H', Ex H1 H' → Pv l.length σ' H' → tz D σ' H') : tSeq (tFor (iList K te) (gName j) tu) tz D σ H := h H (Ex.refl H) _ fun x H1 e1 hx => by
  obtain ⟨p, rfl, ps, h1, h2, h3⟩ := hx
  refine ⟨p, rfl, ⟨_, sq_of h1⟩, for_list (xs := ps.map V.ref) (fun i σ' H' => Ex H1 H' ∧ Pv i σ' H') ⟨Ex.refl H1, h0 H1 e1⟩ (fun i σ' H' _ ⟨e, _⟩ => sq_of (e _ _ h1)) (fun i x σ' H' hx ⟨e, pv⟩ => ?_) fun σ' H' ⟨e, pv⟩ => ?_⟩
  · obtain ⟨q, hq, rfl⟩ := ref_at hx
    obtain ⟨g, k1, k2⟩ := h3 i q hq
    exact hs H1 e1 i g q σ' H' k1 e (k2.ex e) pv
  · rw [List.length_map, h2] at pv
    exact hd H1 e1 σ' H' e pv
/-! kinds_of -/
abbrev s_kinds_of : Stmt := top 44
abbrev N_kinds_of : List Str := ["standing", "ways", "leaving"]
abbrev P_kinds_of : List Str := ["standing"]
theorem sc_kinds_of : FnScope N_kinds_of P_kinds_of (C8.fnScope s_kinds_of) := C8.fnScope_by (by decide +kernel)
def sp_kinds_of (Z : Zc) : Sp := fun vs H Q _ => ∃ (a : Addr) (tp : Bool) (t : Ks565.Folk) (g : List Nat), vs = [.ref a] ∧ StdAt Z tp H a t g ∧ RetL H Q (((List.range 5).map (kindB t g)).map V.bl)
theorem cal_kinds_of {Z : Zc} {f : Addr} {fd : FuncData} (F : C8.Def K mg "kinds_of" s_kinds_of f fd) (b : Binds K fd P_kinds_of []) (Cs : Cst K mg) (c_ways_anywhere : C8.Cal P w K mg base 3 "ways_anywhere" (sp_ways_anywhere Z) []) (c_leaving_at_most : C8.Cal P w K mg base 2 "leaving_at_most" (sp_leaving_at_most Z) []) : C8.Cal P w K mg base 4 "kinds_of" (sp_kinds_of Z) [] := by
  have sc := sc_kinds_of; obtain ⟨_, m_WEAKLY⟩ := Cs.WEAKLY; obtain ⟨_, m_WHOLLY⟩ := Cs.WHOLLY
  refine C8.cal0 F b .nil sc (fun vs H Q E h => ?_) (fun cdv A outer s H vs Q E hr h => ?_)
  · obtain ⟨_, _, _, _, rfl, _⟩ := h
    rfl
  · refine ⟨_, (pss_cons (ps_set (i := 1) sc.nd rfl (.inl rfl) (C8.pe_c c_ways_anywhere hr (by decide) (by rfl) (pa_cons (pv 0) pa_nil)))
      (pss_cons (ps_set (i := 2) sc.nd rfl (.inl rfl) (C8.pe_c c_leaving_at_most hr (by decide) (by rfl) (pa_cons (pv 0) pa_nil)))
      (pss_one (ps_ret (pe_lst (pa_cons (pe_cmpR op_le (pv 1) pe_int (nomark _)) (pa_cons (pe_cmpR op_le (pv 1) pe_int (nomark _)) (pa_cons (pe_cmpR op_le (pv 1) pe_int (nomark _)) (pa_cons (pe_cmpR op_lt (pv 2) (pe_glob (v := .int (2)) (by rfl) m_WHOLLY ⟨_, rfl⟩) (nomark _)) (pa_cons (pe_cmpR op_lt (pv 2) (pe_glob (v := .int (1)) (by rfl) m_WEAKLY ⟨_, rfl⟩) (nomark _)) pa_nil)))))))))), ?_⟩
    obtain ⟨a, tp, t, g, rfl, hs, q⟩ := h
    refine q_asg (ev_call (ea_cons (ev_var rfl) ea_nil) (ways_anywhere_V hs)) fun H1 e1 => ?_
    refine q_asg (ev_call (ea_cons (ev_var rfl) ea_nil) (leaving_at_most_V (hs.ex e1))) fun H2 e2 => ?_
    have dle : ∀ k : Nat, decide (((waysAny t g : Nat) : Int) ≤ (k : Int)) = decide (waysAny t g ≤ k) := fun k => decide_eq_decide.mpr Int.ofNat_le
    have dlt : ∀ k : Nat, decide (((leavAny t g : Nat) : Int) < (k : Int)) = decide (leavAny t g < k) := fun k => decide_eq_decide.mpr Int.ofNat_lt
    refine s_retL (el_lst (ea_cons (ev_op (ev_var rfl) ev_c rv_I0) (ea_cons (ev_op (ev_var rfl) ev_c rv_I0) (ea_cons (ev_op (ev_var rfl) ev_c rv_I0) (ea_cons (ev_op (ev_var rfl) ev_c rv_I0) (ea_cons (ev_op (ev_var rfl) ev_c rv_I0) ea_nil))))) (by show 5 ≤ 100000; decide)) fun p H3 hp e3 h3 => q p H3 (fresh_back (e1.trans e2) hp) ((e1.trans e2).trans e3) ?_
    rw [← kinds_list, h3, ← dle 0, ← dle 1, ← dle 2, ← dlt 2, ← dlt 1]
    rfl
theorem kinds_of_L {Z : Zc} {tp : Bool} {H : Hp} {a : Addr} {t : Ks565.Folk} {g : List Nat} (hs : StdAt Z tp H a t g) : SpL (sp_kinds_of Z) [.ref a] H (((List.range 5).map (kindB t g)).map V.bl) := fun H1 e Q q _ => ⟨a, tp, t, g, rfl, hs.ex e, fun p H2 hp e2 h2 => q p H2 hp e2 h2⟩
theorem kinds_at {t : Ks565.Folk} {g : List Nat} {w : Nat} (h : w < 5) : (((List.range 5).map (kindB t g)).map V.bl)[w]? = some (V.bl (kindB t g w)) := by
  rw [List.getElem?_map, List.getElem?_map, List.getElem?_range h]
  rfl
/-! count_kinds -/
abbrev s_count_kinds : Stmt := top 45
abbrev N_count_kinds : List Str := ["standings", "counts", "standing", "kinds", "w"]
abbrev P_count_kinds : List Str := ["standings"]
theorem sc_count_kinds : FnScope N_count_kinds P_count_kinds (C8.fnScope s_count_kinds) := C8.fnScope_by (by decide +kernel)
def kindsTo (t : Ks565.Folk) (l : List (List Nat)) : List Int := (List.range 5).map fun w => ((l.filter fun g => kindB t g w).length : Int)
theorem kindsTo_at {t : Ks565.Folk} {l : List (List Nat)} {w : Nat} (h : w < 5) : (kindsTo t l)[w]? = some ((l.filter fun g => kindB t g w).length : Int) := by
  unfold kindsTo
  rw [List.getElem?_map, List.getElem?_range h]
  rfl
theorem kindsTo_snoc (t : Ks565.Folk) (l : List (List Nat)) (g : List Nat) (w : Nat) : (((l ++ [g]).filter fun g => kindB t g w).length : Int) = if kindB t g w then ((l.filter fun g => kindB t g w).length : Int) + 1 else ((l.filter fun g => kindB t g w).length : Int) := by
  rw [List.filter_append, List.length_append, List.filter_cons]
  split <;> rfl
def sp_count_kinds (Z : Zc) : Sp := fun vs H Q _ => ∃ (a : Addr) (t : Ks565.Folk) (l : List (List Nat)), vs = [.ref a] ∧ StsAt Z H a t l ∧ RetL H Q ((kindsTo t l).map V.int)
theorem ep_var {σ : L2.St} {H : Hp} {i : Nat} {a : Addr} {R : V → Hp → Prop} (h : σ[i]? = some (some (.ref a))) (r : ∀ H1, Ex H H1 → R (.ref a) H1) : EvP (tVar i) σ H R := fun H1 e Q q => ⟨_, h, q _ H1 (Ex.refl H1) (r H1 e)⟩
theorem cal_count_kinds {Z : Zc} {f : Addr} {fd : FuncData} (F : C8.Def K mg "count_kinds" s_count_kinds f fd) (b : Binds K fd P_count_kinds []) (B : Blt mg) (Cs : Cst K mg) (c_kinds_of : C8.Cal P w K mg base 4 "kinds_of" (sp_kinds_of Z) []) : C8.Cal P w K mg base 5 "count_kinds" (sp_count_kinds Z) [] := by
  have sc := sc_count_kinds; have b_range := B.range; obtain ⟨_, m_KINDS_OF_REST⟩ := Cs.KINDS_OF_REST
  refine C8.cal0 F b .nil sc (fun vs H Q E h => ?_) (fun cdv A outer s H vs Q E hr h => ?_)
  · obtain ⟨_, _, _, rfl, _⟩ := h
    rfl
  · refine ⟨_, (pss_cons (ps_set (i := 1) sc.nd rfl (.inr rfl) (pe_op op_rep (pe_lst (pa_cons pe_int pa_nil)) (pe_glob (v := .int (5)) (by rfl) m_KINDS_OF_REST ⟨_, rfl⟩)))
      (pss_cons (ps_for PassesOwn.never rfl (piL K rfl (pv 0)) (pg_name (i := 2) sc.nd rfl (.inl rfl)) (pss_cons (ps_set (i := 3) sc.nd rfl (.inr rfl) (C8.pe_c c_kinds_of hr (by decide) (by rfl) (pa_cons (pv 2) pa_nil)))
      (pss_one (ps_set (i := 1) sc.nd rfl (.inr rfl) (pe_lc (own := [("w", 4)]) rfl sc.nd (pi_range1 rfl b_range (pa_cons (pe_glob (v := .int (5)) (by rfl) m_KINDS_OF_REST ⟨_, rfl⟩) pa_nil)) (blkOk_by (own := [("w", 4)]) (N := N_count_kinds) (sc := C8.fnScope s_count_kinds) (by decide +kernel)) (fun _ _ _ _ _ => (pg_name (i := 4) sc.nd rfl (Or.inl rfl))) (fun _ _ _ _ _ => pts_nil) (fun _ _ _ _ _ => (pe_ifExp (pt_val (pe_ix (ixl K rfl) (pv 3) (pv 4) (fun _ _ => rfl))) (pe_op op_add (pe_ix (ixl K rfl) (pv 1) (pv 4) (fun _ _ => rfl)) pe_int) (pe_ix (ixl K rfl) (pv 1) (pv 4) (fun _ _ => rfl)))))))))
      (pss_one (ps_ret (pv 1))))), ?_⟩
    obtain ⟨a, t, l, rfl, hS, q⟩ := h
    refine q_asgL (el_rep0 (n := 5) ev_c (by decide)) fun p0 H0 hp0 e0 h0 => ?_
    refine q_forS (Z := Z) (t := t) (l := l) (ep_var rfl fun H1 e => ⟨a, rfl, hS.ex (e0.trans e)⟩) (fun i σ' H' => ∃ p v2 v3, σ' = [some (.ref a), some (.ref p), v2, v3, none] ∧ H p = none ∧ Ex H H' ∧ H' p = some (.lst ((kindsTo t (l.take i)).map V.int)))
      (fun H1 e => ⟨p0, none, none, rfl, hp0, e0.trans e, by rw [e _ _ h0, List.take_zero]; rfl⟩) ?_ ?_
    · rintro H1 e1 i g x _ H2 hg e2 hs ⟨p, v2, v3, rfl, hp, eH, hc⟩
      refine q_asgL (el_call (ea_cons (ev_var rfl) ea_nil) (kinds_of_L hs)) fun pk H3 hpk e3 h3 => ?_
      have htk : l.take (i + 1) = l.take i ++ [g] := by rw [List.take_add_one, hg]; rfl
      refine s_asgL (xs := (kindsTo t (l.take (i + 1))).map V.int) ?_ fun pc H4 hpc e4 h4 => ⟨(e2.trans e3).trans e4, pc, _, _, rfl, fresh_back (eH.trans e3) hpc, (eH.trans e3).trans e4, h4⟩
      have z := el_rng (σ := [some (.ref a), some (.ref p), some (.ref x), some (.ref pk), none]) (H := H3) (j := 4) (vs := [4]) (n := 5) (te := tIf (tB (tOp (rIxL K) (tVar 3) (tVar 4))) (tOp (rI0 fun i j => V.int (i + j)) (tOp (rIxL K) (tVar 1) (tVar 4)) (tC (.int 1))) (tOp (rIxL K) (tVar 1) (tVar 4))) (fun w => V.int (((l.take (i + 1)).filter fun g => kindB t g w).length : Int)) (ea_cons ev_c ea_nil) (by decide) (fun x => rfl) fun w H4 e4 hw => ?_
      · unfold kindsTo
        rw [List.map_map]
        exact z
      · have hcw : Ev (tOp (rIxL K) (tVar 1) (tVar 4)) [some (.ref a), some (.ref p), some (.ref x), some (.ref pk), some (.int (w : Int))] H4 (.int (((l.take i).filter fun g => kindB t g w).length : Int)) := ev_op (ev_var rfl) (ev_var rfl) (rv_ixL (sq_of (e4 _ _ (e3 _ _ hc))) (atI_nat (iv_at (kindsTo_at hw))))
        rw [htk, kindsTo_snoc]
        refine ev_if (et_B (ev_op (ev_var rfl) (ev_var rfl) (rv_ixL (sq_of (e4 _ _ h3)) (atI_nat (kinds_at hw))))) (fun c => ?_) (fun c => ?_)
        · rw [if_pos c]
          exact ev_op hcw ev_c rv_I0
        · rw [if_neg (by rw [c]; exact Bool.false_ne_true)]
          exact hcw
    · rintro H1 e1 _ H2 e2 ⟨p, v2, v3, rfl, hp, eH, hc⟩
      rw [List.take_length] at hc
      exact s_ret (ev_var rfl) fun H3 e3 => q p H3 hp (eH.trans e3) (e3 _ _ hc)
theorem count_kinds_L {Z : Zc} {H : Hp} {a : Addr} {t : Ks565.Folk} {l : List (List Nat)} (hS : StsAt Z H a t l) : SpL (sp_count_kinds Z) [.ref a] H ((kindsTo t l).map V.int) := fun H1 e Q q _ => ⟨a, t, l, rfl, hS.ex e, fun p H2 hp e2 h2 => q p H2 hp e2 h2⟩
end Rg

set_option Elab.async false
set_option maxRecDepth 100000
set_option maxHeartbeats 2000000
set_option linter.unusedVariables false
/-! choosing.py: the best, what beats, what is perfect, who envies whom -/
namespace Rg
open PySem PySem.Spec PyProof.Rows L2 Evl LamX NdefX
variable {P : Program} {w : World} {K : PySem.W.Frag} {mg : Str → Option Value} {base : Heap}
/-! goodness -/
abbrev s_goodness : Stmt := top 46
abbrev N_goodness : List Str := ["standing", "k"]
abbrev P_goodness : List Str := ["standing", "k"]
theorem sc_goodness : FnScope N_goodness P_goodness (C8.fnScope s_goodness) := C8.fnScope_by (by decide +kernel)
def sp_goodness (Z : Zc) : Sp := fun vs H Q _ => ∃ (a : Addr) (tp : Bool) (t : Ks565.Folk) (g : List Nat) (k : Nat), vs = [.ref a, .int k] ∧ StdAt Z tp H a t g ∧ k ≤ 1 ∧ RetV H Q (.int (Ks568.value t k g))
theorem cal_goodness {Z : Zc} {f : Addr} {fd : FuncData} (F : C8.Def K mg "goodness" s_goodness f fd) (b : Binds K fd P_goodness []) (B : Blt mg) (T : ZTxt K Z) : C8.Cal P w K mg base 1 "goodness" (sp_goodness Z) [] := by
  have sc := sc_goodness; have b_min := B.min; have b_sum := B.sum
  refine C8.cal0 F b .nil sc (fun vs H Q E h => ?_) (fun cdv A outer s H vs Q E hr h => ?_)
  · obtain ⟨_, _, _, _, _, rfl, _⟩ := h
    rfl
  · refine ⟨_, (pss_one (ps_ret (pe_ifExp (pt_cmpR op_eq (pv 1) pe_int (nomark _)) (pe_callB (cMin K rfl rfl) (by rfl) b_min (by decide +kernel) (pa_cons (peF K rfl (pv 0) rfl) pa_nil)) (pe_callB (cSum K rfl rfl) (by rfl) b_sum (by decide +kernel) (pa_cons (peF K rfl (pv 0) rfl) pa_nil))))), ?_⟩
    obtain ⟨a, tp, t, g, k, rfl, hs, hk, q⟩ := h
    obtain ⟨ah, hh, evh⟩ := ev_hasL T hs
    refine s_ret (v := .int (Ks568.value t k g)) (ev_if (et_test (ev_op (ev_var rfl) ev_c (rv_eq rfl))) (fun c => ?_) (fun c => ?_)) q
    · have c' : k = 1 := by have := of_decide_eq_true c; injection this with z; omega
      have hne : Ks568.worths t g ≠ [] := fun z => by
        have := worths_len t g
        rw [z] at this
        have := hs.pos
        simp at *
        omega
      obtain ⟨m1, m2⟩ := least_min hne
      have e : Ks568.value t k g = Ks568.least (Ks568.worths t g) := by
        unfold Ks568.value
        rw [if_neg (by omega)]
      rw [e]
      exact ev_cb (ea_cons (evh (Ex.refl H) (ev_var rfl)) ea_nil) (rc_min hh m1 m2)
    · have c' : ¬ k = 1 := fun z => of_decide_eq_false c (by rw [z]; rfl)
      have e : Ks568.value t k g = (Ks568.worths t g).sum := by
        unfold Ks568.value
        rw [if_pos (by omega), total_sum]
      rw [e]
      exact ev_cb (ea_cons (evh (Ex.refl H) (ev_var rfl)) ea_nil) (rc_sum hh)
theorem goodness_V {Z : Zc} {tp : Bool} {H : Hp} {a : Addr} {t : Ks565.Folk} {g : List Nat} {k : Nat} (hs : StdAt Z tp H a t g) (hk : k ≤ 1) : SpV (sp_goodness Z) [.ref a, .int (k : Int)] H (.int (Ks568.value t k g)) := fun H1 e Q q _ => ⟨a, tp, t, g, k, rfl, hs.ex e, hk, fun H2 e2 => q H2 e2⟩
/-! best_by -/
/-- the first of the greatest, by its place and by a fold -/
theorem argBest_of (v : List Nat → Int) (k : List Nat) (l : List (List Nat)) : ∀ j, j ≤ l.length → (k :: l)[argBest (fun x y => decide (v ((k :: l).getD y []) < v ((k :: l).getD x []))) j]? = some (bestOf v k (l.take j))
  | 0, _ => rfl
  | j + 1, hj => by
    have ih := argBest_of v k l j (by omega)
    have hget : (k :: l)[j + 1]? = some (l.getD j []) := by
      show l[j]? = _
      rw [List.getD_eq_getElem?_getD, List.getElem?_eq_getElem (by omega)]
      rfl
    have htake : l.take (j + 1) = l.take j ++ [l.getD j []] := by
      rw [List.take_add_one, List.getD_eq_getElem?_getD, List.getElem?_eq_getElem (by omega)]
      rfl
    have e1 : (k :: l).getD (j + 1) [] = l.getD j [] := rfl
    have e2 : (k :: l).getD (argBest (fun x y => decide (v ((k :: l).getD y []) < v ((k :: l).getD x []))) j) [] = bestOf v k (l.take j) := by
      rw [List.getD_eq_getElem?_getD, ih]
      rfl
    have e3 : bestOf v k (l.take (j + 1)) = if v (bestOf v k (l.take j)) < v (l.getD j []) then l.getD j [] else bestOf v k (l.take j) := by
      unfold bestOf
      rw [htake, List.foldl_append]
      rfl
    show (k :: l)[if decide (v ((k :: l).getD (argBest _ j) []) < v ((k :: l).getD (j + 1) [])) = true then j + 1 else argBest _ j]? = _
    rw [e3, e1, e2]
    by_cases c : v (bestOf v k (l.take j)) < v (l.getD j [])
    · rw [if_pos (decide_eq_true c), if_pos c]
      exact hget
    · rw [if_neg (fun z => c (of_decide_eq_true z)), if_neg c]
      exact ih
abbrev s_best_by : Stmt := top 47
abbrev N_best_by : List Str := ["standings", "k"]
abbrev P_best_by : List Str := ["standings", "k"]
theorem sc_best_by : FnScope N_best_by P_best_by (C8.fnScope s_best_by) := C8.fnScope_by (by decide +kernel)
def sp_best_by (Z : Zc) (T : List (Addr × Str)) : Sp := fun vs H Q _ => ∃ (a : Addr) (t : Ks565.Folk) (l : List (List Nat)) (k : Nat), vs = [.ref a, .int k] ∧ StsAt Z H a t l ∧ k ≤ 1 ∧ Tabs T H ∧
  (Ks568.best t k l = none → ∀ H', ExtN H H' → Tabs T H' → Q .non H') ∧
  ∀ g, Ks568.best t k l = some g → ∀ p H', ExtN H H' → Tabs T H' → StdAt Z false H' p t g → Q (.ref p) H'
theorem cal_best_by {Z : Zc} {f c0 Pm : Addr} {fd : FuncData} {T : List (Addr × Str)} (F : DefC K mg "best_by" s_best_by f c0 fd) (b : Binds K fd P_best_by []) (B : Blt mg) (TB : TabB base mg c0 Pm) (hT : (Pm, lamName "best_by") ∈ T) (hu : ∀ q ∈ T, q.1 = Pm → q.2 = lamName "best_by") (c_goodness : C8.Cal P w K mg base 1 "goodness" (sp_goodness Z) []) : C8.Cal P w K mg base 4 "best_by" (sp_best_by Z T) [] := by
  have sc := sc_best_by
  have b_max := B.max
  refine calC F b sc (fun vs H Q E h => ?_) (fun A outer s H vs Q E hr h => ?_)
  · obtain ⟨_, _, _, _, rfl, _⟩ := h
    rfl
  · refine ⟨_, (pss_one (ps_ret (pe_maxLamD (T := T) (N := ["standing", "k"]) (fr := ["k"]) (js := [1]) (k := 1) (y := "standing") (pa_cons (pv 0) pa_nil) rfl rfl b_max TB rfl hT hu (hr.mono (by decide)) (nscope_by (by decide +kernel))
      (ndef_free (sc := C8.fnScope s_best_by) (fr := ["k"]) (by decide +kernel)) (ndef_fr (sc := C8.fnScope s_best_by) (by decide +kernel)) rfl rfl (fun _ _ _ _ _ _ => rfl)
      (fun _ _ _ _ hr2 => C8.pe_c c_goodness hr2 (by decide) (by rfl) (pa_cons (pv 0) (pa_cons (pv 1) pa_nil)))))), ?_⟩
    obtain ⟨a, t, l, k, rfl, hS, hk, hTb, qN, qS⟩ := h
    obtain ⟨ps, h1, h2, h3⟩ := id hS
    refine ⟨_, rfl, a, ps.map V.ref, (fun m => Ks568.value t k (l.getD m [])), rfl, sq_of h1, hTb, fun H1 e1 t1 => ⟨fun m v H2 hv e2 t2 => ?_, fun hz H2 e2 t2 => ?_, fun hz v H2 hv e2 t2 => ?_⟩⟩
    · obtain ⟨x, hx, rfl⟩ := ref_at hv
      obtain ⟨g, hg, hst⟩ := h3 m x hx
      have e := e1.trans e2
      have hgd : l.getD m [] = g := by rw [List.getD_eq_getElem?_getD, hg]; rfl
      refine ea_cons (ev_var rfl) (ea_cons (ev_var rfl) ea_nil) H2 (Ex.refl H2) _ fun H3 e3 => ?_
      exact goodness_V ((hst.gr e).ex e3) hk H3 (Ex.refl H3) _ (fun H4 e4 => ⟨by show V.int _ = V.int (Ks568.value t k (l.getD m [])); rw [hgd], ExtN.of (e3.trans e4), t2.ext (e3.trans e4)⟩) C8.E0
    · have hl : l = [] := List.length_eq_zero_iff.mp (by rw [List.length_map] at hz; omega)
      rw [hl] at qN
      exact qN rfl H2 (e1.trans e2) t2
    · rw [List.length_map] at hz
      cases l with
      | nil => rw [h2] at hz; exact absurd hz (Nat.lt_irrefl _)
      | cons g0 l =>
        have z := argBest_of (Ks568.value t k) g0 l l.length (Nat.le_refl _)
        rw [List.take_length] at z
        have hl : (ps.map V.ref).length - 1 = l.length := by rw [List.length_map, h2]; rfl
        rw [hl] at hv
        obtain ⟨x, hx, rfl⟩ := ref_at hv
        obtain ⟨g, hg, hst⟩ := h3 _ x hx
        rw [z] at hg
        have hg := Option.some.inj hg
        subst hg
        exact qS _ (best_cons t k g0 l) x H2 (e1.trans e2) t2 (hst.gr (e1.trans e2))
/-! lists of whole numbers compared -/
theorem ints_shaped (l : List Int) : SeqAt.shaped (.list (l.map PyData.int)) = true := by
  unfold SeqAt.shaped
  rw [Bool.and_eq_true]
  refine ⟨by simp only [PyData.canLay0]; exact intsD_lay l, decide_eq_true ?_⟩
  simp only [PyData.depth, intsD_deep]
  omega
theorem rv_intsEq {H : Hp} {a b : Addr} {l k : List Int} (h1 : H a = some (.lst (l.map V.int))) (h2 : H b = some (.lst (k.map V.int))) : RV (rEqD K) (.ref a) (.ref b) H (.bl (decide (l = k))) := fun H1 e Q q => ⟨.list (l.map .int), .list (k.map .int), .lst (sq_of (e _ _ h1)) (dp_ints l), .lst (sq_of (e _ _ h2)) (dp_ints k), ints_shaped l, ints_shaped k, by
  simp only [PyData.eqv]
  rw [intsD_eqv]
  exact q H1 (Ex.refl H1)⟩
theorem rv_intsNe {H : Hp} {a b : Addr} {l k : List Int} (h1 : H a = some (.lst (l.map V.int))) (h2 : H b = some (.lst (k.map V.int))) : RV (rNeD K) (.ref a) (.ref b) H (.bl (decide (l ≠ k))) := fun H1 e Q q => ⟨.list (l.map .int), .list (k.map .int), .lst (sq_of (e _ _ h1)) (dp_ints l), .lst (sq_of (e _ _ h2)) (dp_ints k), ints_shaped l, ints_shaped k, by
  simp only [PyData.eqv]
  rw [intsD_eqv]
  have z : (!decide (l = k)) = decide (l ≠ k) := by by_cases c : l = k <;> simp [c]
  rw [z]
  exact q H1 (Ex.refl H1)⟩
/-! is_beaten_by -/
abbrev s_is_beaten_by : Stmt := top 48
abbrev N_is_beaten_by : List Str := ["standing", "other", "x", "y"]
abbrev P_is_beaten_by : List Str := ["standing", "other"]
theorem sc_is_beaten_by : FnScope N_is_beaten_by P_is_beaten_by (C8.fnScope s_is_beaten_by) := C8.fnScope_by (by decide +kernel)
def sp_is_beaten_by (Z : Zc) : Sp := fun vs H Q _ => ∃ (a c : Addr) (tp tq : Bool) (t : Ks565.Folk) (g h : List Nat), vs = [.ref a, .ref c] ∧ StdAt Z tp H a t g ∧ StdAt Z tq H c t h ∧ RetV H Q (.bl (Ks568.better t g h))
theorem cal_is_beaten_by {Z : Zc} {f : Addr} {fd : FuncData} (F : C8.Def K mg "is_beaten_by" s_is_beaten_by f fd) (b : Binds K fd P_is_beaten_by []) (B : Blt mg) (T : ZTxt K Z) : C8.Cal P w K mg base 1 "is_beaten_by" (sp_is_beaten_by Z) [] := by
  have sc := sc_is_beaten_by; have b_all := B.all; have b_zip := B.zip
  refine C8.cal0 F b .nil sc (fun vs H Q E h => ?_) (fun cdv A outer s H vs Q E hr h => ?_)
  · obtain ⟨_, _, _, _, _, _, _, rfl, _⟩ := h
    rfl
  · refine ⟨_, (pss_one (ps_ret (pe_and (pe_cmpR (oNeD K rfl hr.units) (peF K rfl (pv 1) rfl) (peF K rfl (pv 0) rfl) (nomark _)) (pe_one (pe_callB (cAll K rfl rfl) (by rfl) b_all (by decide +kernel) (pa_cons (pe_lc (own := [("x", 2), ("y", 3)]) rfl sc.nd (piZ K rfl (by rfl) b_zip (pa_cons (peF K rfl (pv 0) rfl) (pa_cons (peF K rfl (pv 1) rfl) pa_nil))) (blkOk_by (own := [("x", 2), ("y", 3)]) (N := N_is_beaten_by) (sc := C8.fnScope s_is_beaten_by) (by decide +kernel)) (fun _ _ _ _ _ => (pgt (n := 2) K rfl rfl (pgs_cons (pg_name (i := 2) sc.nd rfl (Or.inl rfl)) (pgs_cons (pg_name (i := 3) sc.nd rfl (Or.inl rfl)) pgs_nil)))) (fun _ _ _ _ _ => pts_nil) (fun _ _ _ _ _ => (pe_cmpR op_le (pv 2) (pv 3) (nomark _)))) pa_nil)))))), ?_⟩
    obtain ⟨a, c, tp, tq, t, g, h, rfl, hs, ho, q⟩ := h
    have h5 := hs.le5
    obtain ⟨ah, hh, evh⟩ := ev_hasL T hs
    obtain ⟨oh, hoh, evo⟩ := ev_hasL T ho
    have hl1 : ((Ks568.worths t g).map V.int).length = t.n := by rw [List.length_map, worths_len]
    have hl2 : ((Ks568.worths t h).map V.int).length = t.n := by rw [List.length_map, worths_len]
    rw [better_is] at q
    refine s_ret (ev_andV (ev_op (evo (Ex.refl H) (ev_var rfl)) (evh (Ex.refl H) (ev_var rfl)) (rv_intsNe hoh hh)) fun _ => ev_cbL (el_lcZ (K := K) (j1 := 2) (j2 := 3) (fun _ => true) (fun i => V.bl (decide (Ks565.worth t g i ≤ Ks565.worth t h i))) (evh (Ex.refl H) (ev_var rfl)) (evo (Ex.refl H) (ev_var rfl)) (sq_of hh) (sq_of hoh) (by rw [hl1, hl2]) (by omega) (fun x y => rfl) (fun i x y H1 e1 hx hy => et_yes) (fun i x y H1 e1 hx hy _ => ?_)) fun p H1 h1 e1 => ?_) q
    · have hi : i < t.n := by have := (List.getElem?_eq_some_iff.mp hx).1; omega
      rw [iv_at (worths_at hi)] at hx hy
      cases hx
      cases hy
      exact ev_op (ev_var rfl) (ev_var rfl) rv_I0
    · rw [← all_map]
      refine rc_all ?_
      rw [h1, given_all, hl1, List.map_map]
      rfl
theorem is_beaten_by_V {Z : Zc} {tp tq : Bool} {H : Hp} {a c : Addr} {t : Ks565.Folk} {g h : List Nat} (hs : StdAt Z tp H a t g) (ho : StdAt Z tq H c t h) : SpV (sp_is_beaten_by Z) [.ref a, .ref c] H (.bl (Ks568.better t g h)) := fun H1 e Q q _ => ⟨a, c, tp, tq, t, g, h, rfl, hs.ex e, ho.ex e, fun H2 e2 => q H2 e2⟩
/-! first_beating -/
theorem find_none {l : List (List Nat)} {p : List Nat → Bool} (h : ∀ g ∈ l, p g = false) : l.find? p = none := List.find?_eq_none.mpr fun g hg => by rw [h g hg]; exact Bool.false_ne_true
theorem find_at {l : List (List Nat)} {p : List Nat → Bool} {i : Nat} {g : List Nat} (hi : l[i]? = some g) (hp : p g = true) (h : ∀ x ∈ l.take i, p x = false) : l.find? p = some g := by
  have e : l = l.take i ++ (g :: l.drop (i + 1)) := by
    obtain ⟨hj, e⟩ := List.getElem?_eq_some_iff.mp hi
    rw [← e, List.getElem_cons_drop, List.take_append_drop]
  rw [e, List.find?_append, find_none h, List.find?_cons, hp]
  rfl
abbrev s_first_beating : Stmt := top 49
abbrev N_first_beating : List Str := ["standing", "other"]
abbrev P_first_beating : List Str := ["standing"]
theorem sc_first_beating : FnScope N_first_beating P_first_beating (C8.fnScope s_first_beating) := C8.fnScope_by (by decide +kernel)
def sp_first_beating (Z : Zc) : Sp := fun vs H Q _ => ∃ (a : Addr) (tp : Bool) (t : Ks565.Folk) (g : List Nat), vs = [.ref a] ∧ StdAt Z tp H a t g ∧ (Ks568.beaten t g = none → ∀ H', Ex H H' → Q .non H') ∧ ∀ h, Ks568.beaten t g = some h → ∀ p H', Ex H H' → StdAt Z false H' p t h → Q (.ref p) H'
theorem cal_first_beating {Z : Zc} {f : Addr} {fd : FuncData} (F : C8.Def K mg "first_beating" s_first_beating f fd) (b : Binds K fd P_first_beating []) (T : ZTxt K Z) (c_all_standings : C8.Cal P w K mg base 5 "all_standings" (sp_all_standings Z) []) (c_is_beaten_by : C8.Cal P w K mg base 1 "is_beaten_by" (sp_is_beaten_by Z) []) : C8.Cal P w K mg base 6 "first_beating" (sp_first_beating Z) [] := by
  have sc := sc_first_beating
  refine C8.cal0 F b .nil sc (fun vs H Q E h => ?_) (fun cdv A outer s H vs Q E hr h => ?_)
  · obtain ⟨_, _, _, _, rfl, _⟩ := h
    rfl
  · refine ⟨_, (pss_cons (ps_for PassesOwn.never rfl (piL K rfl (C8.pe_c c_all_standings hr (by decide) (by rfl) (pa_cons (peF K rfl (pv 0) rfl) pa_nil))) (pg_name (i := 1) sc.nd rfl (.inl rfl)) (pss_one (ps_if (pt_val (C8.pe_c c_is_beaten_by hr (by decide) (by rfl) (pa_cons (pv 0) (pa_cons (pv 1) pa_nil)))) (pss_one (ps_ret (pv 1))) pss_nil)))
      (pss_one (ps_ret pe_non))), ?_⟩
    obtain ⟨a, tp, t, g, rfl, hs, qN, qS⟩ := h
    obtain ⟨al, hl, evl⟩ := ev_liking T hs
    refine q_forS (Z := Z) (t := t) (l := Ks565.all t.n) (ep_call (ea_cons (evl (Ex.refl H) (ev_var rfl)) ea_nil) (all_standings_P hl)) (fun i σ' H' => ∃ v1, σ' = [some (.ref a), v1] ∧ Ex H H' ∧ ∀ x ∈ (Ks565.all t.n).take i, Ks568.better t g x = false)
      (fun H1 e => ⟨none, rfl, e, fun x hx => by rw [List.take_zero] at hx; cases hx⟩) ?_ ?_
    · rintro H1 e1 i h x _ H2 hg e2 ho ⟨v1, rfl, eH, u⟩
      refine s_when (et_B (ev_call (ea_cons (ev_var rfl) (ea_cons (ev_var rfl) ea_nil)) (is_beaten_by_V (hs.ex eH) ho))) (fun c H3 e3 => ?_) (fun c H3 e3 => ?_)
      · exact s_ret (ev_var rfl) fun H4 e4 => qS h (find_at hg c u) x H4 ((eH.trans e3).trans e4) (ho.ex (e3.trans e4))
      · refine ⟨e2.trans e3, _, rfl, eH.trans e3, fun y hy => ?_⟩
        rw [List.take_add_one, hg] at hy
        rcases List.mem_append.mp hy with z | z
        · exact u y z
        · have z : y = h := by simpa using z
          rw [z]
          exact c
    · rintro H1 e1 _ H2 e2 ⟨v1, rfl, eH, u⟩
      rw [List.take_length] at u
      exact s_ret ev_c fun H3 e3 => qN (find_none u) H3 (eH.trans e3)
/-! wanted_by, first_perfect -/
theorem given_filter (l : List Int) (f : Int → Bool) : given l.length (fun i => f (l.getD i 0)) (fun i => V.int (l.getD i 0)) = (l.filter f).map V.int := by
  have key : ∀ n, n ≤ l.length → given n (fun i => f (l.getD i 0)) (fun i => V.int (l.getD i 0)) = ((l.take n).filter f).map V.int := by
    intro n
    induction n with
    | zero => intro _; rfl
    | succ n ih =>
      intro hn
      have ih := ih (by omega)
      have ht : l.take (n + 1) = l.take n ++ [l.getD n 0] := by
        rw [List.take_add_one, List.getD_eq_getElem?_getD, List.getElem?_eq_getElem (by omega)]
        rfl
      rw [ht, List.filter_append, List.map_append, ← ih, List.filter_cons]
      by_cases c : f (l.getD n 0) = true
      · rw [given_yes c, if_pos c]
        rfl
      · rw [given_no (by simpa using c), if_neg c]
        show _ = _ ++ []
        rw [List.append_nil]
  have q := key l.length (Nat.le_refl _)
  rw [List.take_length] at q
  exact q
abbrev s_wanted_by : Stmt := top 50
abbrev N_wanted_by : List Str := ["row", "worth"]
abbrev P_wanted_by : List Str := ["row"]
theorem sc_wanted_by : FnScope N_wanted_by P_wanted_by (C8.fnScope s_wanted_by) := C8.fnScope_by (by decide +kernel)
def sp_wanted_by : Sp := fun vs H Q _ => ∃ (a : Addr) (l : List Int), vs = [.ref a] ∧ H a = some (.lst (l.map V.int)) ∧ l.length ≤ 1000 ∧ RetV H Q (.int (l.filter fun x => decide (0 < x)).sum)
theorem cal_wanted_by {f : Addr} {fd : FuncData} (F : C8.Def K mg "wanted_by" s_wanted_by f fd) (b : Binds K fd P_wanted_by []) (B : Blt mg) : C8.Cal P w K mg base 1 "wanted_by" sp_wanted_by [] := by
  have sc := sc_wanted_by; have b_sum := B.sum
  refine C8.cal0 F b .nil sc (fun vs H Q E h => ?_) (fun cdv A outer s H vs Q E hr h => ?_)
  · obtain ⟨_, _, rfl, _⟩ := h
    rfl
  · refine ⟨_, (pss_one (ps_ret (pe_callB (cSum K rfl rfl) (by rfl) b_sum (by decide +kernel) (pa_cons (pe_lc (own := [("worth", 1)]) rfl sc.nd (piL K rfl (pv 0)) (blkOk_by (own := [("worth", 1)]) (N := N_wanted_by) (sc := C8.fnScope s_wanted_by) (by decide +kernel)) (fun _ _ _ _ _ => (pg_name (i := 1) sc.nd rfl (Or.inl rfl))) (fun _ _ _ _ _ => (pts_one (pt_cmpR op_gt (pv 1) pe_int (nomark _)))) (fun _ _ _ _ _ => (pv 1))) pa_nil)))), ?_⟩
    obtain ⟨a, l, rfl, ha, hz, q⟩ := h
    refine s_ret (ev_cbL (el_lcL (j := 1) (fun i => decide (0 < l.getD i 0)) (fun i => V.int (l.getD i 0)) (ev_var rfl) (sq_of ha) (by rw [List.length_map]; omega) (fun x => rfl) (fun i x H1 e1 hx => ?_) (fun i x H1 e1 hx _ => ?_)) fun p H1 h1 e1 => ?_) q
    · obtain ⟨k, hk, rfl⟩ := iv_inv hx
      rw [show l.getD i 0 = k by rw [List.getD_eq_getElem?_getD, hk]; rfl]
      exact et_test (ev_op (ev_var rfl) ev_c rv_I0)
    · obtain ⟨k, hk, rfl⟩ := iv_inv hx
      rw [show l.getD i 0 = k by rw [List.getD_eq_getElem?_getD, hk]; rfl]
      exact ev_var rfl
    · rw [List.length_map, given_filter l fun x => decide (0 < x)] at h1
      exact rc_sum h1
theorem wanted_by_V {H : Hp} {a : Addr} {l : List Int} (ha : H a = some (.lst (l.map V.int))) (hz : l.length ≤ 1000) : SpV sp_wanted_by [.ref a] H (.int (l.filter fun x => decide (0 < x)).sum) := fun H1 e Q q _ => ⟨a, l, rfl, e _ _ ha, hz, fun H2 e2 => q H2 e2⟩
abbrev s_first_perfect : Stmt := top 51
abbrev N_first_perfect : List Str := ["liking", "wanted", "standing", "row"]
abbrev P_first_perfect : List Str := ["liking"]
theorem sc_first_perfect : FnScope N_first_perfect P_first_perfect (C8.fnScope s_first_perfect) := C8.fnScope_by (by decide +kernel)
def sp_first_perfect (Z : Zc) : Sp := fun vs H Q _ => ∃ (a : Addr) (t : Ks565.Folk), vs = [.ref a] ∧ LikAt Z H a t ∧ ((Ks565.all t.n).find? (Ks566.perfect t) = none → ∀ H', Ex H H' → Q .non H') ∧ ∀ h, (Ks565.all t.n).find? (Ks566.perfect t) = some h → ∀ p H', Ex H H' → StdAt Z false H' p t h → Q (.ref p) H'
/-- a comprehension over rows, each item's value told by its number -/
theorem el_rowsV {σ : L2.St} {H : Hp} {tl te : TE} {j : Nat} {vs : List Nat} {a : Addr} {rows : List (List Int)} (v : Nat → V) (h : Ev tl σ H (.ref a)) (hr : RowsAt H a rows) (hz : rows.length ≤ 1000) (hw : ∀ x, wipe ((wipe σ vs).set j (some x)) vs = wipe σ vs)
    (he : ∀ (i : Nat) (r : Addr) (row : List Int) H1, Ex H H1 → H r = some (.lst (row.map V.int)) → rows[i]? = some row → Ev te ((wipe σ vs).set j (some (.ref r))) H1 (v i)) : EvL (tLc (iList K tl) (gName j) tYes te vs) σ H ((List.range rows.length).map v) := by
  obtain ⟨rs, h1, h2, h3⟩ := hr
  have q := el_lcL (K := K) (te := te) (t := tYes) (j := j) (vs := vs) (fun _ => true) v h (sq_of h1) (by rw [List.length_map]; omega) hw (fun m x H1 e hx => et_yes) (fun m x H1 e hx _ => by
    obtain ⟨r, hr, rfl⟩ := ref_at hx
    obtain ⟨row, k1, k2⟩ := h3 m r hr
    exact he m r row H1 e k2 k1)
  rw [given_all, List.length_map, h2] at q
  exact q
theorem cal_first_perfect {Z : Zc} {f : Addr} {fd : FuncData} (F : C8.Def K mg "first_perfect" s_first_perfect f fd) (b : Binds K fd P_first_perfect []) (T : ZTxt K Z) (c_wanted_by : C8.Cal P w K mg base 1 "wanted_by" sp_wanted_by []) (c_all_standings : C8.Cal P w K mg base 5 "all_standings" (sp_all_standings Z) []) : C8.Cal P w K mg base 6 "first_perfect" (sp_first_perfect Z) [] := by
  have sc := sc_first_perfect
  refine C8.cal0 F b .nil sc (fun vs H Q E h => ?_) (fun cdv A outer s H vs Q E hr h => ?_)
  · obtain ⟨_, _, rfl, _⟩ := h
    rfl
  · refine ⟨_, (pss_cons (ps_setLc (i := 1) rfl sc.nd rfl rfl (sw_true rfl rfl rfl (by decide +kernel)) (own := [("row", 3)]) (piL K rfl (peF K rfl (pv 0) rfl)) (blkOk_by (own := [("row", 3)]) (N := N_first_perfect) (sc := C8.fnScope s_first_perfect) (by decide +kernel)) (fun _ _ _ _ _ => (pg_name (i := 3) sc.nd rfl (Or.inl rfl))) (fun _ _ _ _ _ => pts_nil) (fun _ _ _ _ _ => (C8.pe_c c_wanted_by hr (by decide) (by rfl) (pa_cons (pv 3) pa_nil))))
      (pss_cons (ps_for PassesOwn.never rfl (piL K rfl (C8.pe_c c_all_standings hr (by decide) (by rfl) (pa_cons (pv 0) pa_nil))) (pg_name (i := 2) sc.nd rfl (.inl rfl)) (pss_one (ps_if (pt_cmpR (oEqD K rfl hr.units) (peF K rfl (pv 2) rfl) (pv 1) (nomark _)) (pss_one (ps_ret (pv 2))) pss_nil)))
      (pss_one (ps_ret pe_non)))), ?_⟩
    obtain ⟨a, t, rfl, hl, qN, qS⟩ := h
    have h5 := hl.2.1
    obtain ⟨_, _, dx, aw, ap, au, g1, g2, g3, g4⟩ := id hl
    refine q_asgL (xs := ((List.range t.n).map (Ks566.most t)).map V.int) ?_ fun pw H1 hpw e1 h1 => ?_
    · have z := el_rowsV (K := K) (σ := [some (.ref a), none, none, none]) (tl := tFld K (tVar 0) "worths") (te := tCall sp_wanted_by [] C8.E0 (tCons (tVar 3) tNil)) (j := 3) (vs := [3]) (fun i => V.int (Ks566.most t i)) (ev_fld T.lc T.lW (ev_var rfl) g1 (lF_worths _ _ _)) g2 (by rw [rowsOf_len]; omega) (fun x => rfl) fun i r row H1 e1 hr hi => ?_
      · rw [rowsOf_len] at z
        rw [List.map_map]
        exact z
      · have hin : i < t.n := by
          have := (List.getElem?_eq_some_iff.mp hi).1
          rw [rowsOf_len] at this
          exact this
        rw [rowsOf_at hin] at hi
        have hi := Option.some.inj hi
        subst hi
        rw [most_is]
        exact ev_call (ea_cons (ev_var rfl) ea_nil) (wanted_by_V (e1 _ _ hr) (by rw [List.length_map, List.length_range]; omega))
    refine q_forS (Z := Z) (t := t) (l := Ks565.all t.n) (ep_call (ea_cons (ev_var rfl) ea_nil) (all_standings_P (hl.ex e1))) (fun i σ' H' => ∃ v2, σ' = [some (.ref a), some (.ref pw), v2, none] ∧ Ex H1 H' ∧ ∀ x ∈ (Ks565.all t.n).take i, Ks566.perfect t x = false)
      (fun H2 e => ⟨none, rfl, e, fun x hx => by rw [List.take_zero] at hx; cases hx⟩) ?_ ?_
    · rintro H2 e2 i h x _ H3 hg e3 ho ⟨v1, rfl, eH, u⟩
      obtain ⟨oh, hoh, evo⟩ := ev_hasL T ho
      refine s_when (et_is (et_test (ev_op (evo (Ex.refl H3) (ev_var rfl)) (ev_var rfl) (rv_intsEq hoh (eH _ _ h1)))) (perfect_is t h).symm) (fun c H4 e4 => ?_) (fun c H4 e4 => ?_)
      · exact s_ret (ev_var rfl) fun H5 e5 => qS h (find_at hg c u) x H5 (((e1.trans eH).trans e4).trans e5) (ho.ex (e4.trans e5))
      · refine ⟨e3.trans e4, _, rfl, eH.trans e4, fun y hy => ?_⟩
        rw [List.take_add_one, hg] at hy
        rcases List.mem_append.mp hy with z | z
        · exact u y z
        · have z : y = h := by simpa using z
          rw [z]
          exact c
    · rintro H2 e2 _ H3 e3 ⟨v1, rfl, eH, u⟩
      rw [List.take_length] at u
      exact s_ret ev_c fun H4 e4 => qN (find_none u) H4 ((e1.trans eH).trans e4)
/-! is_envious, envious_pairs -/
abbrev s_is_envious : Stmt := top 52
abbrev N_is_envious : List Str := ["standing", "i", "j", "there"]
abbrev P_is_envious : List Str := ["standing", "i", "j"]
theorem sc_is_envious : FnScope N_is_envious P_is_envious (C8.fnScope s_is_envious) := C8.fnScope_by (by decide +kernel)
def sp_is_envious (Z : Zc) : Sp := fun vs H Q _ => ∃ (a : Addr) (tp : Bool) (t : Ks565.Folk) (g : List Nat) (i j : Nat), vs = [.ref a, .int i, .int j] ∧ StdAt Z tp H a t g ∧ i < t.n ∧ j < t.n ∧ RetV H Q (.bl (enviousB t g i j))
theorem cal_is_envious {Z : Zc} {f : Addr} {fd : FuncData} (F : C8.Def K mg "is_envious" s_is_envious f fd) (b : Binds K fd P_is_envious []) (T : ZTxt K Z) : C8.Cal P w K mg base 1 "is_envious" (sp_is_envious Z) [] := by
  have sc := sc_is_envious
  refine C8.cal0 F b .nil sc (fun vs H Q E h => ?_) (fun cdv A outer s H vs Q E hr h => ?_)
  · obtain ⟨_, _, _, _, _, _, rfl, _⟩ := h
    rfl
  · refine ⟨_, (pss_cons (ps_set (i := 3) sc.nd rfl (.inl rfl) (pe_ix (ixl K rfl) (peF K rfl (pv 0) rfl) (pe_ix (ixs K rfl) (peF K rfl (pv 0) rfl) (pv 2) (fun _ _ => rfl)) (fun _ _ => rfl)))
      (pss_one (ps_ret (pe_and (pe_cmpR op_ne (pe_ix (ixs K rfl) (peF K rfl (pv 0) rfl) (pv 1) (fun _ _ => rfl)) (pe_ix (ixs K rfl) (peF K rfl (pv 0) rfl) (pv 2) (fun _ _ => rfl)) (nomark _)) (pe_one (pe_cmpR op_gt (pe_ix (ixl K rfl) (pe_ix (ixl K rfl) (peF K rfl (peF K rfl (pv 0) rfl) rfl) (pv 1) (fun _ _ => rfl)) (pe_op op_sub (pv 3) (pe_op op_shl pe_int (pv 2))) (fun _ _ => rfl)) (pe_ix (ixl K rfl) (peF K rfl (pv 0) rfl) (pv 1) (fun _ _ => rfl)) (nomark _))))))), ?_⟩
    obtain ⟨a, tp, t, g, i, j, rfl, hs, hi, hj, q⟩ := h
    have h5 := hs.le5
    have hk : g.getD j 0 ≤ Ks565.groups g := Nat.le_of_lt (getD_lt_groups (by rw [hs.len]; exact hj))
    have hm := mask_lt (k := g.getD j 0) hs.len
    have hb : (mask g (g.getD j 0)).testBit j = true := by
      unfold mask
      rw [maskTo_bit, hs.len, decide_eq_true hj]
      simp
    obtain ⟨hle, _⟩ := bit_off (mask g (g.getD j 0)) (Nat.lt_of_lt_of_le hm (pow_le32 h5)) j (by omega) hb
    obtain ⟨al, hl, evl⟩ := ev_liking T hs
    refine q_asg (ev_place T hs hk (ev_var rfl) (ev_grp T hs hj (ev_var rfl) (ev_var rfl))) fun H1 e1 => ?_
    have s1 := hs.ex e1
    have esub : ((mask g (g.getD j 0) : Nat) : Int) - 1 * 2 ^ ((j : Int)).toNat = ((mask g (g.getD j 0) - 2 ^ j : Nat) : Int) := by
      have e2 : (1 : Int) * 2 ^ ((j : Int)).toNat = ((2 ^ j : Nat) : Int) := by
        rw [Int.toNat_natCast]
        norm_cast
        omega
      rw [e2]
      omega
    have hoff := set_off h5 hj hm hb
    rw [set_mask hs.len] at hoff
    have z := ev_sum T (σ := (L2.start N_is_envious [.ref a, .int (i : Int), .int (j : Int)]).set 3 (some (.int ((mask g (g.getD j 0) : Nat) : Int)))) (ta := tFld K (tVar 0) "liking") (tb := tVar 1) (tc := tOp (rI0 fun i j => V.int (i - j)) (tVar 3) (tOp (rI CPow fun i j => V.int (i * 2 ^ j.toNat)) (tC (.int 1)) (tVar 2))) (s := mask g (g.getD j 0) - 2 ^ j) (hl.ex e1) hi (Nat.lt_of_le_of_lt (Nat.sub_le _ _) hm) (evl e1 (ev_var rfl)) (ev_var rfl) (ev_is (ev_op (ev_var rfl) (ev_op ev_c (ev_var rfl) (rv_I ⟨by omega, by omega, by decide⟩)) rv_I0) (congrArg V.int esub))
    rw [hoff] at z
    refine s_ret (ev_andV (ev_op (ev_grp T s1 hi (ev_var rfl) (ev_var rfl)) (ev_grp T s1 hj (ev_var rfl) (ev_var rfl)) (rv_ne rfl)) fun _ => ev_op z (ev_has T s1 hi (ev_var rfl) (ev_var rfl)) rv_I0) fun H2 e2 => ?_
    have y := q H2 (e1.trans e2)
    have e : (!decide (V.int ((g.getD i 0 : Nat) : Int) = V.int ((g.getD j 0 : Nat) : Int))) = (g.getD i 0 != g.getD j 0) := by
      by_cases c : g.getD i 0 = g.getD j 0
      · rw [c]
        simp
      · rw [decide_eq_false fun z => c (by injection z with z; omega), bne_iff_ne.mpr c]
        rfl
    rw [e]
    exact y
theorem is_envious_V {Z : Zc} {tp : Bool} {H : Hp} {a : Addr} {t : Ks565.Folk} {g : List Nat} {i j : Nat} (hs : StdAt Z tp H a t g) (hi : i < t.n) (hj : j < t.n) : SpV (sp_is_envious Z) [.ref a, .int (i : Int), .int (j : Int)] H (.bl (enviousB t g i j)) := fun H1 e Q q _ => ⟨a, tp, t, g, i, j, rfl, hs.ex e, hi, hj, fun H2 e2 => q H2 e2⟩
abbrev s_envious_pairs : Stmt := top 53
abbrev N_envious_pairs : List Str := ["standing", "found", "i", "j"]
abbrev P_envious_pairs : List Str := ["standing"]
theorem sc_envious_pairs : FnScope N_envious_pairs P_envious_pairs (C8.fnScope s_envious_pairs) := C8.fnScope_by (by decide +kernel)
def sp_envious_pairs (Z : Zc) : Sp := fun vs H Q _ => ∃ (a : Addr) (tp : Bool) (t : Ks565.Folk) (g : List Nat), vs = [.ref a] ∧ StdAt Z tp H a t g ∧ ∀ p H', H p = none → Ex H H' → PairsAt H' p (Ks568.envies t g) → Q (.ref p) H'
theorem cal_envious_pairs {Z : Zc} {f : Addr} {fd : FuncData} (F : C8.Def K mg "envious_pairs" s_envious_pairs f fd) (b : Binds K fd P_envious_pairs []) (B : Blt mg) (T : ZTxt K Z) (c_is_envious : C8.Cal P w K mg base 1 "is_envious" (sp_is_envious Z) []) : C8.Cal P w K mg base 2 "envious_pairs" (sp_envious_pairs Z) [] := by
  have sc := sc_envious_pairs; have b_range := B.range; have b_len := B.len
  refine C8.cal0 F b .nil sc (fun vs H Q E h => ?_) (fun cdv A outer s H vs Q E hr h => ?_)
  · obtain ⟨_, _, _, _, rfl, _⟩ := h
    rfl
  · refine ⟨_, (pss_cons (ps_set (i := 1) sc.nd rfl (.inl rfl) (pe_lst pa_nil))
      (pss_cons (ps_for PassesOwn.never rfl (pi_range1 rfl b_range (pa_cons (pe_callB (cLen K rfl) (by rfl) b_len (by decide +kernel) (pa_cons (peF K rfl (pv 0) rfl) pa_nil)) pa_nil)) (pg_name (i := 2) sc.nd rfl (.inl rfl)) (pss_one (ps_for PassesOwn.never rfl (pi_range1 rfl b_range (pa_cons (pe_callB (cLen K rfl) (by rfl) b_len (by decide +kernel) (pa_cons (peF K rfl (pv 0) rfl) pa_nil)) pa_nil)) (pg_name (i := 3) sc.nd rfl (.inl rfl)) (pss_one (ps_if (pt_val (C8.pe_c c_is_envious hr (by decide) (by rfl) (pa_cons (pv 0) (pa_cons (pv 2) (pa_cons (pv 3) pa_nil))))) (pss_one (ps_expr (pe_bm PySem.F.plainAttrs_list PySem.F.slot_list_append PySem.F.type_list_append (mt_append) (pv 1) (pa_cons (pe_tup (pa_cons (pv 2) (pa_cons (pv 3) pa_nil))) pa_nil)))) pss_nil)))))
      (pss_one (ps_ret (pv 1))))), ?_⟩
    obtain ⟨a, tp, t, g, rfl, hs, q⟩ := h
    have h5 := hs.le5
    refine q_asgL (el_lst ea_nil (by decide)) fun D H0 hD e0 d0 => ?_
    refine q_forR1 (n := ((t.n : Nat) : Int)) (ea_cons (ev_nGrp T (hs.ex e0) (ev_var rfl)) ea_nil) (by omega)
      (fun i σ' H' => ∃ v2 v3, σ' = [some (.ref a), some (.ref D), v2, v3] ∧ Ex H H' ∧ PairsAt H' D (envTo t g i)) (fun H1 e => ⟨none, none, rfl, e0.trans e, PairsAt.nil (e _ _ d0)⟩) ?_ ?_
    · rintro i _ H1 hi ⟨v2, v3, rfl, e1, p1⟩
      have hi' : i < t.n := by omega
      refine s_forR1 (n := ((t.n : Nat) : Int)) (ea_cons (ev_nGrp T (hs.ex e1) (ev_var rfl)) ea_nil) (by omega)
        (fun j σ' H' => ∃ v3, σ' = [some (.ref a), some (.ref D), some (.int (i : Int)), v3] ∧ Ex H H' ∧ PairsAt H' D (envTo t g i ++ envIn t g i j)) (fun H2 e => ⟨v3, rfl, e1.trans e, by rw [show envIn t g i 0 = [] from rfl, List.append_nil]; exact p1.ex e⟩) ?_ ?_
      · rintro j _ H2 hj ⟨v3', rfl, e2, p2⟩
        have hj' : j < t.n := by omega
        refine s_if (et_B (ev_call (ea_cons (ev_var rfl) (ea_cons (ev_var rfl) (ea_cons (ev_var rfl) ea_nil))) (is_envious_V (hs.ex e2) hi' hj'))) (fun c H3 e3 => ?_) (fun c H3 e3 => ?_)
        · obtain ⟨xs, hxs, hl⟩ := (p2.ex e3).lst
          have hlen : xs.length < 100000 := by
            rw [hl, List.length_append]
            have z1 := envTo_len t g i
            have z2 := envIn_len t g i j
            have z3 : i * t.n ≤ 5 * 5 := Nat.mul_le_mul (by omega) (by omega)
            omega
          refine s_appU hxs (ev_var rfl) (eu_tup (ea_cons (ev_var rfl) (ea_cons (ev_var rfl) ea_nil)) (by show 2 ≤ 100000; decide)) hlen fun p H4 hp e4 h4 => ?_
          refine ⟨_, rfl, ((e2.trans e3).trans e4).mut hD, ?_⟩
          rw [envIn_yes c, ← List.append_assoc]
          exact (p2.ex e3).snoc (x := (i, j)) hxs e4 h4
        · refine ⟨_, rfl, e2.trans e3, ?_⟩
          rw [envIn_no c]
          exact p2.ex e3
      · rintro _ H2 ⟨v3', rfl, e2, p2⟩
        refine ⟨_, _, rfl, e2, ?_⟩
        rw [envTo_succ]
        exact p2
    · rintro _ H1 ⟨v2, v3, rfl, e1, p1⟩
      exact s_ret (ev_var rfl) fun H2 e2 => q D H2 hD (e1.trans e2) (p1.ex e2)
theorem envious_pairs_P {Z : Zc} {tp : Bool} {H : Hp} {a : Addr} {t : Ks565.Folk} {g : List Nat} (hs : StdAt Z tp H a t g) : SpP (sp_envious_pairs Z) [.ref a] H (IsPairs (Ks568.envies t g)) := fun H1 e Q q _ => ⟨a, tp, t, g, rfl, hs.ex e, fun p H2 hp e2 h2 => q _ H2 e2 ⟨p, rfl, h2⟩⟩
end Rg

set_option Elab.async false
set_option maxRecDepth 100000
set_option maxHeartbeats 2000000
set_option linter.unusedVariables false
/-! kept.py: what one object keeps -/
namespace Rg
open PySem PySem.Spec PyProof.Rows L2 Evl LamX
variable {P : Program} {w : World} {K : PySem.W.Frag} {mg : Str → Option Value} {base : Heap}
/-- the class, as the top has written it -/
structure KTxt (K : PySem.W.Frag) (C : Addr) : Prop where
  cl : Cls K C
  nW : NoAttr K C "worths"
  nG : NoAttr K C "groups"
  nM : NoAttr K C "made"
  nP : NoAttr K C "past"
theorem ZTxt.k {Z : Zc} (T : ZTxt K Z) : KTxt K Z.kept := ⟨T.kc, T.kW, T.kG, T.kM, T.kP⟩
/-! the fields -/
section
variable (aw ag ap b : Addr) (m z : Int)
theorem kF_worths : (kF aw ag m ap).lookup ("worths" : Str) = some (.ref aw) := look_hd
theorem kF_groups : (kF aw ag m ap).lookup ("groups" : Str) = some (.ref ag) := (look_tl (by decide +kernel)).trans look_hd
theorem kF_made : (kF aw ag m ap).lookup ("made" : Str) = some (.int m) := (look_tl (by decide +kernel)).trans ((look_tl (by decide +kernel)).trans look_hd)
theorem kF_past : (kF aw ag m ap).lookup ("past" : Str) = some (.ref ap) := (look_tl (by decide +kernel)).trans ((look_tl (by decide +kernel)).trans ((look_tl (by decide +kernel)).trans look_hd))
theorem kF_no {f : Str} (h1 : (f == ("worths" : Str)) = false) (h2 : (f == ("groups" : Str)) = false) (h3 : (f == ("made" : Str)) = false) (h4 : (f == ("past" : Str)) = false) : (kF aw ag m ap).lookup f = none :=
  (look_tl h1).trans ((look_tl h2).trans ((look_tl h3).trans ((look_tl h4).trans rfl)))
theorem put_hd {f : Str} {v x : V} {r : List (Str × V)} : putF f v ((f, x) :: r) = (f, v) :: r := by
  show (if f = f then _ else _) = _
  rw [if_pos rfl]
theorem put_tl {f g : Str} {v x : V} {r : List (Str × V)} (h : ¬ g = f) : putF f v ((g, x) :: r) = (g, x) :: putF f v r := by
  show (if g = f then _ else _) = _
  rw [if_neg h]
theorem kF_putW : putF "worths" (.ref b) (kF aw ag m ap) = kF b ag m ap := put_hd
theorem kF_putG : putF "groups" (.ref b) (kF aw ag m ap) = kF aw b m ap := (put_tl (by decide +kernel)).trans (congrArg _ put_hd)
theorem kF_putM : putF "made" (.int z) (kF aw ag m ap) = kF aw ag z ap := (put_tl (by decide +kernel)).trans (congrArg _ ((put_tl (by decide +kernel)).trans (congrArg _ put_hd)))
theorem kF_putP : putF "past" (.ref b) (kF aw ag m ap) = kF aw ag m b := (put_tl (by decide +kernel)).trans (congrArg _ ((put_tl (by decide +kernel)).trans (congrArg _ ((put_tl (by decide +kernel)).trans (congrArg _ put_hd)))))
end
/-! how the state lies in the heap -/
def GameAt (H : Hp) (aw ag : Addr) (gm : Ks570.Game) : Prop := RowsAt H aw (rowsOf gm.t) ∧ H ag = some (.lst (nv gm.g))
def PastAt (H : Hp) (ap : Addr) (l : List Ks570.Game) : Prop := ∃ ps : List Addr, H ap = some (.lst (ps.map V.ref)) ∧ ps.length = l.length ∧
  ∀ (j : Nat) (p : Addr), ps[j]? = some p → ∃ gm aw ag, l[j]? = some gm ∧ H p = some (.tup [.ref aw, .ref ag, .int ((gm.m : Nat) : Int)]) ∧ GameAt H aw ag gm
def KeptAt (C : Addr) (H : Hp) (a : Addr) (s : Ks570.State) : Prop := ∃ dx aw ag ap, H a = some (.ins C dx (kF aw ag ((s.game.m : Nat) : Int) ap)) ∧ GameAt H aw ag s.game ∧ PastAt H ap s.was.reverse ∧ s.was.length ≤ 10
def NewAt (C : Addr) (H : Hp) (a : Addr) : Prop := ∃ dx aw ag ap, H a = some (.ins C dx (kF aw ag 0 ap)) ∧ H aw = some (.lst []) ∧ H ag = some (.lst []) ∧ H ap = some (.lst [])
def KAt (C : Addr) (H : Hp) (a : Addr) : Option Ks570.State → Prop
  | none => NewAt C H a
  | some s => KeptAt C H a s
theorem GameAt.std {H H' : Hp} {aw ag : Addr} {gm : Ks570.Game} (x : GameAt H aw ag gm) (e : Std H H') : GameAt H' aw ag gm := ⟨x.1.keep e.l, e.l _ _ x.2⟩
theorem PastAt.std {H H' : Hp} {ap : Addr} {l : List Ks570.Game} (x : PastAt H ap l) (e : Std H H') : PastAt H' ap l := by
  obtain ⟨ps, h1, h2, h3⟩ := x
  refine ⟨ps, e.l _ _ h1, h2, fun j p hj => ?_⟩
  obtain ⟨gm, aw, ag, a1, a2, a3⟩ := h3 j p hj
  exact ⟨gm, aw, ag, a1, e.t _ _ a2, a3.std e⟩
theorem KeptAt.std {C : Addr} {H H' : Hp} {a : Addr} {s : Ks570.State} (x : KeptAt C H a s) (e : Std H H') (ha : ∀ dx fs, H a = some (.ins C dx fs) → H' a = some (.ins C dx fs)) : KeptAt C H' a s := by
  obtain ⟨dx, aw, ag, ap, h1, h2, h3, h4⟩ := x
  exact ⟨dx, aw, ag, ap, ha _ _ h1, h2.std e, h3.std e, h4⟩
theorem KeptAt.ex {C : Addr} {H H' : Hp} {a : Addr} {s : Ks570.State} (x : KeptAt C H a s) (e : Ex H H') : KeptAt C H' a s := x.std (.ex e) fun _ _ h => e _ _ h
theorem KeptAt.gr {C : Addr} {H H' : Hp} {a : Addr} {s : Ks570.State} (x : KeptAt C H a s) (e : LamX.ExtN H H') : KeptAt C H' a s := x.std (.gr e) fun _ _ h => e _ _ h fun ps z => by cases z
section
variable {C : Addr} {H : Hp} {σ : L2.St} {ta tv : TE} {a dx aw ag ap : Addr} {m : Int} (T : KTxt K C)
include T
theorem ev_fW (h : Ev ta σ H (.ref a)) (ha : H a = some (.ins C dx (kF aw ag m ap))) : Ev (tFld K ta "worths") σ H (.ref aw) := fun H1 e Q q => h H1 e _ fun H2 e2 => ⟨a, C, dx, _, _, rfl, (e.trans e2) _ _ ha, T.cl, T.nW, kF_worths _ _ _ _, q H2 e2⟩
theorem ev_fG (h : Ev ta σ H (.ref a)) (ha : H a = some (.ins C dx (kF aw ag m ap))) : Ev (tFld K ta "groups") σ H (.ref ag) := fun H1 e Q q => h H1 e _ fun H2 e2 => ⟨a, C, dx, _, _, rfl, (e.trans e2) _ _ ha, T.cl, T.nG, kF_groups _ _ _ _, q H2 e2⟩
theorem ev_fM (h : Ev ta σ H (.ref a)) (ha : H a = some (.ins C dx (kF aw ag m ap))) : Ev (tFld K ta "made") σ H (.int m) := fun H1 e Q q => h H1 e _ fun H2 e2 => ⟨a, C, dx, _, _, rfl, (e.trans e2) _ _ ha, T.cl, T.nM, kF_made _ _ _ _, q H2 e2⟩
theorem ev_fP (h : Ev ta σ H (.ref a)) (ha : H a = some (.ins C dx (kF aw ag m ap))) : Ev (tFld K ta "past") σ H (.ref ap) := fun H1 e Q q => h H1 e _ fun H2 e2 => ⟨a, C, dx, _, _, rfl, (e.trans e2) _ _ ha, T.cl, T.nP, kF_past _ _ _ _, q H2 e2⟩
/-- self.f = e: the value stands (or is new), the object's fields are put -/
theorem s_fW {D : Ends} {b : Addr} (hv : Ev tv σ H (.ref b)) (h : Ev ta σ H (.ref a)) (ha : H a = some (.ins C dx (kF aw ag m ap))) (k : ∀ H1, Ex H H1 → D.nx σ (upd H1 a (.ins C dx (kF b ag m ap)))) : sFld K ta tv "worths" D σ H :=
  hv H (Ex.refl H) _ fun H1 e1 => h H1 e1 _ fun H2 e2 => ⟨a, C, dx, _, rfl, (e1.trans e2) _ _ ha, T.cl, T.nW, by show 4 < 1000; decide, by rw [kF_putW]; exact k H2 (e1.trans e2)⟩
theorem s_fG {D : Ends} {b : Addr} (hv : Ev tv σ H (.ref b)) (h : Ev ta σ H (.ref a)) (ha : H a = some (.ins C dx (kF aw ag m ap))) (k : ∀ H1, Ex H H1 → D.nx σ (upd H1 a (.ins C dx (kF aw b m ap)))) : sFld K ta tv "groups" D σ H :=
  hv H (Ex.refl H) _ fun H1 e1 => h H1 e1 _ fun H2 e2 => ⟨a, C, dx, _, rfl, (e1.trans e2) _ _ ha, T.cl, T.nG, by show 4 < 1000; decide, by rw [kF_putG]; exact k H2 (e1.trans e2)⟩
theorem s_fM {D : Ends} {z : Int} (hv : Ev tv σ H (.int z)) (h : Ev ta σ H (.ref a)) (ha : H a = some (.ins C dx (kF aw ag m ap))) (k : ∀ H1, Ex H H1 → D.nx σ (upd H1 a (.ins C dx (kF aw ag z ap)))) : sFld K ta tv "made" D σ H :=
  hv H (Ex.refl H) _ fun H1 e1 => h H1 e1 _ fun H2 e2 => ⟨a, C, dx, _, rfl, (e1.trans e2) _ _ ha, T.cl, T.nM, by show 4 < 1000; decide, by rw [kF_putM]; exact k H2 (e1.trans e2)⟩
theorem s_fPL {D : Ends} {xs : List V} (hv : EvL tv σ H xs) (h : Ev ta σ H (.ref a)) (ha : H a = some (.ins C dx (kF aw ag m ap))) (k : ∀ p H1, H p = none → Ex H H1 → H1 p = some (.lst xs) → D.nx σ (upd H1 a (.ins C dx (kF aw ag m p)))) : sFld K ta tv "past" D σ H :=
  hv H (Ex.refl H) _ fun p H1 hp e1 h1 => h H1 e1 _ fun H2 e2 => ⟨a, C, dx, _, rfl, (e1.trans e2) _ _ ha, T.cl, T.nP, by show 4 < 1000; decide, by rw [kF_putP]; exact k p H2 hp (e1.trans e2) (e2 _ _ h1)⟩
theorem s_fGL {D : Ends} {xs : List V} (hv : EvL tv σ H xs) (h : Ev ta σ H (.ref a)) (ha : H a = some (.ins C dx (kF aw ag m ap))) (k : ∀ p H1, H p = none → Ex H H1 → H1 p = some (.lst xs) → D.nx σ (upd H1 a (.ins C dx (kF aw p m ap)))) : sFld K ta tv "groups" D σ H :=
  hv H (Ex.refl H) _ fun p H1 hp e1 h1 => h H1 e1 _ fun H2 e2 => ⟨a, C, dx, _, rfl, (e1.trans e2) _ _ ha, T.cl, T.nG, by show 4 < 1000; decide, by rw [kF_putG]; exact k p H2 hp (e1.trans e2) (e2 _ _ h1)⟩
end
/-! __init__ -/
abbrev s_Kept___init__ : Stmt := inCls (top 56) 0
abbrev N_Kept___init__ : List Str := ["self"]
abbrev P_Kept___init__ : List Str := ["self"]
theorem sc_Kept___init__ : FnScope N_Kept___init__ P_Kept___init__ (C8.fnScope s_Kept___init__) := C8.fnScope_by (by decide +kernel)
def sp_Kept_init (C : Addr) : Sp := fun vs H Q _ => ∃ (p dx : Addr), vs = [.ref p] ∧ H p = some (.ins C dx []) ∧ ∀ H', But p H H' → NewAt C H' p → Q .non H'
theorem met_init {Z : Zc} {f : Addr} {fd : FuncData} (F : C8.Fun K "__init__" "Kept.__init__" s_Kept___init__ f fd) (T : KTxt K Z.kept) (M : Mk K Z.kept f) (hm : mg "Kept" = some (.ref Z.kept)) (b : Binds K fd P_Kept___init__ []) : C8.Mak P w K mg base 1 "Kept" Z.kept (sp_Kept_init Z.kept) [] := by
  have sc := sc_Kept___init__
  refine C8.mak0 M hm F b .nil sc (fun vs H Q E h => ?_) (fun cdv A outer s H vs Q E hr h => ?_)
  · obtain ⟨_, _, rfl, _⟩ := h
    rfl
  · refine ⟨_, (pss_cons (psF K rfl (pv 0) (pe_lst pa_nil) rfl)
      (pss_cons (psF K rfl (pv 0) (pe_lst pa_nil) rfl)
      (pss_cons (psF K rfl (pv 0) pe_int rfl)
      (pss_one (psF K rfl (pv 0) (pe_lst pa_nil) rfl))))), ?_⟩
    obtain ⟨p, dx, rfl, hp, q⟩ := h
    refine ⟨by show 0 ≤ sizeLine; exact Nat.zero_le _, fun p1 n1 => ⟨_, rfl, p, Z.kept, dx, [], rfl, (upd_ne (ne_of_none hp n1)).trans hp, T.cl, T.nW, (by show 0 < 1000; decide), ?_⟩⟩
    have d1 : p1 ≠ p := (ne_of_none hp n1).symm
    refine ⟨by show 0 ≤ sizeLine; exact Nat.zero_le _, fun p2 n2 => ?_⟩
    have d2 : p2 ≠ p := fun z => by rw [z, upd_same] at n2; cases n2
    have d21 : p2 ≠ p1 := fun z => by rw [z, upd_ne d1, upd_same] at n2; cases n2
    refine ⟨_, rfl, p, Z.kept, dx, [("worths", .ref p1)], rfl, (upd_ne d2.symm).trans upd_same, T.cl, T.nG, (by show 1 < 1000; decide), ?_⟩
    refine ⟨_, rfl, p, Z.kept, dx, _, rfl, upd_same, T.cl, T.nM, (by show 2 < 1000; decide), ?_⟩
    refine ⟨by show 0 ≤ sizeLine; exact Nat.zero_le _, fun p3 n3 => ?_⟩
    have d3 : p3 ≠ p := fun z => by rw [z, upd_same] at n3; cases n3
    have n3a := n3
    rw [upd_ne d3, upd_ne d3] at n3a
    have d32 : p3 ≠ p2 := fun z => by rw [z, upd_same] at n3a; cases n3a
    rw [upd_ne d32, upd_ne d3] at n3a
    have d31 : p3 ≠ p1 := fun z => by rw [z, upd_same] at n3a; cases n3a
    rw [upd_ne d31] at n3a
    refine ⟨_, rfl, p, Z.kept, dx, _, rfl, (upd_ne d3.symm).trans upd_same, T.cl, T.nP, (by show 3 < 1000; decide), ?_⟩
    have hn2 : H p2 = none := by rw [upd_ne d2, upd_ne d21] at n2; exact n2
    refine q _ (fun b o hb hne => ?_) ⟨dx, p1, p2, p3, ?_, ?_, ?_, ?_⟩
    · rw [upd_ne hne, upd_ne (ne_of_none hb n3a), upd_ne hne, upd_ne hne, upd_ne (ne_of_none hb hn2), upd_ne hne, upd_ne (ne_of_none hb n1)]
      exact hb
    · rw [upd_same]
      rfl
    · rw [upd_ne d1, upd_ne d31.symm, upd_ne d1, upd_ne d1, upd_ne d21.symm, upd_ne d1, upd_same]
    · rw [upd_ne d2, upd_ne d32.symm, upd_ne d2, upd_ne d2, upd_same]
    · rw [upd_ne d3, upd_same]
theorem s_fWR {C : Addr} (T : KTxt K C) {H : Hp} {σ : L2.St} {ta tv : TE} {a dx aw ag ap : Addr} {m : Int} {D : Ends} {rows : List (List Int)} (hv : EvRows tv σ H rows) (h : Ev ta σ H (.ref a)) (ha : H a = some (.ins C dx (kF aw ag m ap))) (k : ∀ p H1, H p = none → Ex H H1 → RowsAt H1 p rows → D.nx σ (upd H1 a (.ins C dx (kF p ag m ap)))) : sFld K ta tv "worths" D σ H :=
  hv H (Ex.refl H) _ fun p H1 hp e1 h1 => h H1 e1 _ fun H2 e2 => ⟨a, C, dx, _, rfl, (e1.trans e2) _ _ ha, T.cl, T.nW, by show 4 < 1000; decide, by rw [kF_putW]; exact k p H2 hp (e1.trans e2) (h1.ex e2)⟩
/-! is_begun, is_person -/
abbrev s_Kept_is_begun : Stmt := inCls (top 56) 2
abbrev N_Kept_is_begun : List Str := ["self"]
abbrev P_Kept_is_begun : List Str := ["self"]
theorem sc_Kept_is_begun : FnScope N_Kept_is_begun P_Kept_is_begun (C8.fnScope s_Kept_is_begun) := C8.fnScope_by (by decide +kernel)
def sp_Kept_is_begun (C : Addr) : Sp := fun vs H Q _ => ∃ (a : Addr) (o : Option Ks570.State), vs = [.ref a] ∧ KAt C H a o ∧ (∀ s, o = some s → 0 < s.game.g.length) ∧ RetV H Q (.bl o.isSome)
theorem met_is_begun {Z : Zc} {f : Addr} {fd : FuncData} (F : C8.Fun K "is_begun" "Kept.is_begun" s_Kept_is_begun f fd) (T : KTxt K Z.kept) (me : Meth K Z.kept "is_begun" f) (b : Binds K fd P_Kept_is_begun []) (B : Blt mg) : C8.Met P w K mg base 1 Z.kept "is_begun" (sp_Kept_is_begun Z.kept) [] := by
  have sc := sc_Kept_is_begun; have b_len := B.len
  refine C8.met0 T.cl me F b sc (fun vs H Q E h => ?_) (fun cdv A outer s H vs Q E hr h => ?_)
  · obtain ⟨_, _, rfl, _⟩ := h
    rfl
  · refine ⟨_, (pss_one (ps_ret (pe_cmpR op_gt (pe_callB (cLen K rfl) (by rfl) b_len (by decide +kernel) (pa_cons (peF K rfl (pv 0) rfl) pa_nil)) pe_int (nomark _)))), ?_⟩
    obtain ⟨a, o, rfl, hk, ho, q⟩ := h
    have key : ∀ (dx aw ag ap : Addr) (m : Int) (l : List Nat), H a = some (.ins Z.kept dx (kF aw ag m ap)) → H ag = some (.lst (nv l)) → decide ((0 : Int) < ((nv l).length : Int)) = o.isSome → tRet (tOp (rI0 fun i j => V.bl (decide (j < i))) (tCB (rLenS K) (tCons (tFld K (tVar 0) "groups") tNil)) (tC (.int 0))) { nx := fun _ H' => Q .non H', rt := Q } (L2.start N_Kept_is_begun [.ref a]) H := by
      intro dx aw ag ap m l ha hl hb
      refine s_ret (ev_op (ev_len (ev_fG T (ev_var rfl) ha) (sq_of hl)) ev_c rv_I0) ?_
      rw [hb]
      exact q
    cases o with
    | none =>
      obtain ⟨dx, aw, ag, ap, h1, _, h3, _⟩ := hk
      exact key dx aw ag ap 0 [] h1 h3 rfl
    | some st =>
      obtain ⟨dx, aw, ag, ap, h1, ⟨_, h3⟩, _⟩ := hk
      refine key dx aw ag ap _ st.game.g h1 h3 (decide_eq_true ?_)
      have := ho st rfl
      rw [nv_len]
      omega
abbrev s_Kept_is_person : Stmt := inCls (top 56) 3
abbrev N_Kept_is_person : List Str := ["self", "i"]
abbrev P_Kept_is_person : List Str := ["self", "i"]
theorem sc_Kept_is_person : FnScope N_Kept_is_person P_Kept_is_person (C8.fnScope s_Kept_is_person) := C8.fnScope_by (by decide +kernel)
def sp_Kept_is_person (C : Addr) : Sp := fun vs H Q _ => ∃ (a : Addr) (s : Ks570.State) (i : Nat), vs = [.ref a, .int i] ∧ KeptAt C H a s ∧ RetV H Q (.bl (decide (i < s.game.g.length)))
theorem met_is_person {Z : Zc} {f : Addr} {fd : FuncData} (F : C8.Fun K "is_person" "Kept.is_person" s_Kept_is_person f fd) (T : KTxt K Z.kept) (me : Meth K Z.kept "is_person" f) (b : Binds K fd P_Kept_is_person []) (B : Blt mg) : C8.Met P w K mg base 1 Z.kept "is_person" (sp_Kept_is_person Z.kept) [] := by
  have sc := sc_Kept_is_person; have b_len := B.len
  refine C8.met0 T.cl me F b sc (fun vs H Q E h => ?_) (fun cdv A outer s H vs Q E hr h => ?_)
  · obtain ⟨_, _, _, rfl, _⟩ := h
    rfl
  · refine ⟨_, (pss_one (ps_ret (pe_cmpR op_lt (pv 1) (pe_callB (cLen K rfl) (by rfl) b_len (by decide +kernel) (pa_cons (peF K rfl (pv 0) rfl) pa_nil)) (nomark _)))), ?_⟩
    obtain ⟨a, st, i, rfl, ⟨dx, aw, ag, ap, ha, hgm, _⟩, q⟩ := h
    have e : decide ((i : Int) < ((nv st.game.g).length : Int)) = decide (i < st.game.g.length) := by
      rw [nv_len]
      exact decide_eq_decide.mpr Int.ofNat_lt
    refine s_ret (ev_op (ev_var rfl) (ev_len (ev_fG T (ev_var rfl) ha) (sq_of hgm.2)) rv_I0) ?_
    rw [e]
    exact q
/-- kept.is_person(i) -/
theorem ev_isP {C a : Addr} {σ : L2.St} {H : Hp} {s : Ks570.State} {i : Nat} {ta tb : TE} (hk : KeptAt C H a s) (h : Ev ta σ H (.ref a)) (hb : Ev tb σ H (.int (i : Int))) : Ev (tMeth C "is_person" (sp_Kept_is_person C) [] C8.E0 ta (tCons tb tNil)) σ H (.bl (decide (i < s.game.g.length))) := fun H1 e Q q => h H1 e _ fun H2 e2 => by
  obtain ⟨dx, aw, ag, ap, ha, _⟩ := id hk
  refine ⟨a, dx, _, rfl, (e.trans e2) _ _ ha, kF_no aw ag ap _ (by decide +kernel) (by decide +kernel) (by decide +kernel) (by decide +kernel), hb H2 (e.trans e2) _ fun H3 e3 => ?_⟩
  exact ⟨a, s, i, rfl, hk.ex ((e.trans e2).trans e3), fun H4 e4 => q H4 ((e2.trans e3).trans e4)⟩
/-! begin_anew -/
abbrev s_Kept_begin_anew : Stmt := inCls (top 56) 1
abbrev N_Kept_begin_anew : List Str := ["self", "n", "i"]
abbrev P_Kept_begin_anew : List Str := ["self", "n"]
theorem sc_Kept_begin_anew : FnScope N_Kept_begin_anew P_Kept_begin_anew (C8.fnScope s_Kept_begin_anew) := C8.fnScope_by (by decide +kernel)
def sp_Kept_begin_anew (C : Addr) : Sp := fun vs H Q _ => ∃ (a : Addr) (o : Option Ks570.State) (n : Nat), vs = [.ref a, .int n] ∧ KAt C H a o ∧ n ≤ 5 ∧ ∀ H', But a H H' → KeptAt C H' a (Ks570.fresh n) → Q .non H'
theorem rows_fresh (n : Nat) : rowsOf (Ks570.fresh n).game.t = (List.range n).map fun _ => List.replicate n (0 : Int) := by
  unfold rowsOf Ks570.fresh
  apply List.map_congr_left
  intro i hi
  apply List.ext_getElem?
  intro j
  have key : ∀ j, Ks565.likes ⟨n, (List.range (n * n)).map fun _ => 0⟩ i j = 0 := fun j => by
    unfold Ks565.likes
    split
    · rfl
    · simp only [List.getD_eq_getElem?_getD, List.getElem?_map]
      cases (List.range (n * n))[i * n + j]? <;> rfl
  rw [List.getElem?_map]
  by_cases hj : j < n
  · rw [List.getElem?_range hj, List.getElem?_replicate, if_pos hj]
    exact congrArg some (key j)
  · rw [List.getElem?_eq_none (by rw [List.length_range]; exact Nat.not_lt.mp hj), List.getElem?_replicate, if_neg hj]
    rfl
theorem met_begin_anew {Z : Zc} {f : Addr} {fd : FuncData} (F : C8.Fun K "begin_anew" "Kept.begin_anew" s_Kept_begin_anew f fd) (T : KTxt K Z.kept) (me : Meth K Z.kept "begin_anew" f) (b : Binds K fd P_Kept_begin_anew []) (B : Blt mg) : C8.Met P w K mg base 1 Z.kept "begin_anew" (sp_Kept_begin_anew Z.kept) [] := by
  have sc := sc_Kept_begin_anew; have b_range := B.range; have b_list := B.list
  refine C8.met0 T.cl me F b sc (fun vs H Q E h => ?_) (fun cdv A outer s H vs Q E hr h => ?_)
  · obtain ⟨_, _, _, rfl, _⟩ := h
    rfl
  · refine ⟨_, (pss_cons (psF K rfl (pv 0) (pe_lc (own := [("i", 2)]) rfl sc.nd (pi_range1 rfl b_range (pa_cons (pv 1) pa_nil)) (blkOk_by (own := [("i", 2)]) (N := N_Kept_begin_anew) (sc := C8.fnScope s_Kept_begin_anew) (by decide +kernel)) (fun _ _ _ _ _ => (pg_name (i := 2) sc.nd rfl (Or.inl rfl))) (fun _ _ _ _ _ => pts_nil) (fun _ _ _ _ _ => (pe_op op_rep (pe_lst (pa_cons pe_int pa_nil)) (pv 1)))) rfl)
      (pss_cons (psF K rfl (pv 0) (pe_listRg rfl (by rfl) b_list (prg_1 (by rfl) b_range (pv 1))) rfl)
      (pss_cons (psF K rfl (pv 0) pe_int rfl)
      (pss_one (psF K rfl (pv 0) (pe_lst pa_nil) rfl))))), ?_⟩
    obtain ⟨a, o, n, rfl, hk, hn, q⟩ := h
    obtain ⟨dx, aw, ag, ap, m, ha⟩ : ∃ dx aw ag ap m, H a = some (.ins Z.kept dx (kF aw ag m ap)) := by
      cases o with
      | none =>
        obtain ⟨dx, aw, ag, ap, h1, _⟩ := hk
        exact ⟨dx, aw, ag, ap, _, h1⟩
      | some st =>
        obtain ⟨dx, aw, ag, ap, h1, _⟩ := hk
        exact ⟨dx, aw, ag, ap, _, h1⟩
    refine s_fWR T (er_rng (n := n) (fun _ => List.replicate n (0 : Int)) (ea_cons (ev_var rfl) ea_nil) (by omega) (fun x => rfl) fun k H1 e hk2 => ?_) (ev_var rfl) ha fun p1 H1 hp1 e1 h1 => ?_
    · intro H2 e2 Q2 q2
      refine el_lst (ea_cons ev_c ea_nil) (by decide) H2 (Ex.refl H2) _ fun pz H3 hpz e3 h3 => ⟨_, rfl, pz, n, _, rfl, rfl, h3, by omega, by omega, ?_, fun pr hpr => ?_⟩
      · show 1 * ((n : Int)).toNat ≤ sizeLine
        exact Nat.le_trans (by omega) (Nat.le_of_lt (small1000 (Nat.le_refl 1000)))
      · refine q2 pr _ (fresh_back e3 hpr) (e3.trans (Ex.new hpr)) ?_
        rw [upd_same]
        congr 2
        show (List.replicate n [V.int 0]).flatten = _
        rw [List.map_replicate]
        simp
    · have ha1 : upd H1 a (.ins Z.kept dx (kF p1 ag m ap)) a = some (.ins Z.kept dx (kF p1 ag m ap)) := upd_same
      refine s_fGL T (el_listRg (n := n) (ev_var rfl) (by omega)) (ev_var rfl) ha1 fun p2 H2 hp2 e2 h2 => ?_
      have ha2 : upd H2 a (.ins Z.kept dx (kF p1 p2 m ap)) a = some (.ins Z.kept dx (kF p1 p2 m ap)) := upd_same
      refine s_fM T (z := 0) ev_c (ev_var rfl) ha2 fun H3 e3 => ?_
      have ha3 : upd H3 a (.ins Z.kept dx (kF p1 p2 0 ap)) a = some (.ins Z.kept dx (kF p1 p2 0 ap)) := upd_same
      refine s_fPL T (el_lst ea_nil (by decide)) (ev_var rfl) ha3 fun p4 H4 hp4 e4 h4 => ?_
      have b1 : But a H (upd H1 a (.ins Z.kept dx (kF p1 ag m ap))) := (But.ex e1).trans But.put
      have b2 : But a (upd H1 a (.ins Z.kept dx (kF p1 ag m ap))) (upd H2 a (.ins Z.kept dx (kF p1 p2 m ap))) := (But.ex e2).trans But.put
      have b3 : But a (upd H2 a (.ins Z.kept dx (kF p1 p2 m ap))) (upd H3 a (.ins Z.kept dx (kF p1 p2 0 ap))) := (But.ex e3).trans But.put
      have b4 : But a (upd H3 a (.ins Z.kept dx (kF p1 p2 0 ap))) (upd H4 a (.ins Z.kept dx (kF p1 p2 0 p4))) := (But.ex e4).trans But.put
      refine q _ (((b1.trans b2).trans b3).trans b4) ⟨dx, p1, p2, p4, upd_same, ⟨?_, ?_⟩, ⟨[], ?_, rfl, fun j p hj => by simp at hj⟩, Nat.zero_le _⟩
      · have r1 : RowsAt H1 p1 (rowsOf (Ks570.fresh n).game.t) := by rw [rows_fresh]; exact h1
        have s1 : Std H1 (upd H1 a (.ins Z.kept dx (kF p1 ag m ap))) := But.put.std (e1 _ _ ha)
        exact r1.keep ((s1.trans (b2.std ha1)).trans ((b3.std ha2).trans (b4.std ha3))).l
      · have s2 : Std H2 (upd H2 a (.ins Z.kept dx (kF p1 p2 m ap))) := But.put.std (e2 _ _ ha1)
        exact (s2.trans ((b3.std ha2).trans (b4.std ha3))).l _ _ h2
      · exact (But.put.std (e4 _ _ ha3)).l _ _ h4
/-! remember -/
abbrev s_Kept_remember : Stmt := inCls (top 56) 4
abbrev N_Kept_remember : List Str := ["self", "past"]
abbrev P_Kept_remember : List Str := ["self"]
theorem sc_Kept_remember : FnScope N_Kept_remember P_Kept_remember (C8.fnScope s_Kept_remember) := C8.fnScope_by (by decide +kernel)
def sp_Kept_remember (C : Addr) : Sp := fun vs H Q _ => ∃ (a : Addr) (s : Ks570.State), vs = [.ref a] ∧ KeptAt C H a s ∧ ∀ H', But a H H' → KeptAt C H' a { s with was := (s.game :: s.was).take 10 } → Q .non H'
theorem l1U {te : TE} {σ : L2.St} {H : Hp} {xs : List V} {Q : VK} (h : EvU te σ H xs) (k : ∀ pt p H1, H p = none → Ex H H1 → H1 pt = some (.tup xs) → H1 p = some (.lst [.ref pt]) → Q (.ref p) H1) : tLst (tCons te tNil) σ H Q :=
  h H (Ex.refl H) _ fun pt H1 hpt e1 h1 => ⟨by show 1 ≤ sizeLine; decide, fun p hp => k pt p _ (fresh_back e1 hp) (e1.trans (Ex.new hp)) ((Ex.new hp) _ _ h1) upd_same⟩
theorem q_catU {ta te : TE} {σ : L2.St} {H : Hp} {D : Ends} {tz : TS} {i : Nat} {a : Addr} {xs ys : List V} (h : Ev ta σ H (.ref a)) (hx : H a = some (.lst xs)) (ht : EvU te σ H ys) (hz : xs.length ≤ 1000)
    (k : ∀ pt p H1, H p = none → Ex H H1 → H1 pt = some (.tup ys) → H1 p = some (.lst (xs ++ [V.ref pt])) → tz D (σ.set i (some (.ref p))) H1) : tSeq (tAsg (tOp rCat ta (tLst (tCons te tNil))) (gName i)) tz D σ H :=
  h H (Ex.refl H) _ fun H1 e1 => l1U (fun H2 e2 Q q => ht H2 (e1.trans e2) Q q) fun pt p2 H2 hp2 e2 h2t h2 => ⟨a, p2, xs, [.ref pt], rfl, rfl, (e1.trans e2) _ _ hx, h2, Nat.le_trans (by show xs.length + 1 ≤ 100000; omega) (by decide),
    fun p3 hp3 => k pt p3 _ (fresh_back (e1.trans e2) hp3) ((e1.trans e2).trans (Ex.new hp3)) ((Ex.new hp3) _ _ h2t) upd_same⟩
theorem cut_last (xs : List V) : cutV xs (some (-10)) none = xs.drop (xs.length - 10) := by
  unfold cutV
  have e1 : HT.sIx xs.length 0 (some (-10)) = xs.length - 10 := by
    show (if (-10 : Int) < 0 then ((-10 : Int) + (xs.length : Int)).toNat else min (-10 : Int).toNat xs.length) = _
    rw [if_pos (by decide)]
    omega
  rw [e1, HT.sIx_none]
  apply List.take_of_length_le
  rw [List.length_drop]
  exact Nat.le_refl _
theorem PastAt.more {H H1 : Hp} {ap pt aw ag : Addr} {l : List Ks570.Game} {gm : Ks570.Game} {xs : List V} {p : Addr} (h : PastAt H ap l) (hx : H ap = some (.lst xs)) (e : Std H H1) (ht : H1 pt = some (.tup [.ref aw, .ref ag, .int ((gm.m : Nat) : Int)])) (hg : GameAt H1 aw ag gm) (d : Nat)
    (hp : H1 p = some (.lst ((xs ++ [V.ref pt]).drop d))) : PastAt H1 p ((l ++ [gm]).drop d) := by
  obtain ⟨ps, h1, h2, h3⟩ := h
  rw [h1] at hx
  cases hx
  refine ⟨(ps ++ [pt]).drop d, ?_, ?_, fun j q hj => ?_⟩
  · rw [hp, List.map_drop, List.map_append]
    rfl
  · rw [List.length_drop, List.length_drop, List.length_append, List.length_append, h2]
    rfl
  · rw [List.getElem?_drop] at hj
    rw [List.getElem?_drop]
    by_cases hlt : d + j < ps.length
    · rw [List.getElem?_append_left hlt] at hj
      obtain ⟨gm', aw', ag', a1, a2, a3⟩ := h3 _ q hj
      exact ⟨gm', aw', ag', by rw [List.getElem?_append_left (by omega)]; exact a1, e.t _ _ a2, a3.std e⟩
    · rw [List.getElem?_append_right (by omega)] at hj
      obtain ⟨hj1, hj2⟩ := List.getElem?_eq_some_iff.mp hj
      have hj0 : d + j = ps.length := by simp at hj1; omega
      have hq : pt = q := by simpa [hj0] using hj2
      subst hq
      exact ⟨gm, aw, ag, by rw [hj0, h2, List.getElem?_append_right (Nat.le_refl _)]; simp, ht, hg⟩
theorem was_take {l : List Ks570.Game} (g : Ks570.Game) (h : l.length ≤ 10) : ((g :: l).take 10).reverse = (l.reverse ++ [g]).drop (l.length + 1 - 10) := by
  have e : l.reverse ++ [g] = (g :: l).reverse := by rw [List.reverse_cons]
  rw [e, List.drop_reverse]
  congr 1
  rw [List.length_cons]
  by_cases h2 : l.length = 10
  · rw [h2]
  · rw [List.take_of_length_le (by rw [List.length_cons]; omega), List.take_of_length_le (by rw [List.length_cons]; omega)]
theorem met_remember {Z : Zc} {f : Addr} {fd : FuncData} (F : C8.Fun K "remember" "Kept.remember" s_Kept_remember f fd) (T : KTxt K Z.kept) (me : Meth K Z.kept "remember" f) (b : Binds K fd P_Kept_remember []) (Cs : Cst K mg) : C8.Met P w K mg base 1 Z.kept "remember" (sp_Kept_remember Z.kept) [] := by
  have sc := sc_Kept_remember; obtain ⟨_, m_MOST_TAKEN_BACK⟩ := Cs.MOST_TAKEN_BACK
  refine C8.met0 T.cl me F b sc (fun vs H Q E h => ?_) (fun cdv A outer s H vs Q E hr h => ?_)
  · obtain ⟨_, _, rfl, _⟩ := h
    rfl
  · refine ⟨_, (pss_cons (ps_set (i := 1) sc.nd rfl (.inl rfl) (pe_op op_cat (peF K rfl (pv 0) rfl) (pe_lst (pa_cons (pe_tup (pa_cons (peF K rfl (pv 0) rfl) (pa_cons (peF K rfl (pv 0) rfl) (pa_cons (peF K rfl (pv 0) rfl) pa_nil)))) pa_nil))))
      (pss_one (psF K rfl (pv 0) (pe_slice (slL K rfl) (pv 1) (po_some (pe_un un_neg (pe_glob (v := .int (10)) (by rfl) m_MOST_TAKEN_BACK ⟨_, rfl⟩))) po_none) rfl))), ?_⟩
    obtain ⟨a, st, rfl, ⟨dx, aw, ag, ap, ha, hgm, hpa, h10⟩, q⟩ := h
    obtain ⟨xs, hxs, hxl⟩ : ∃ xs, H ap = some (.lst xs) ∧ xs.length = st.was.length := by
      obtain ⟨ps, h1, h2, _⟩ := hpa
      exact ⟨_, h1, by rw [List.length_map, h2, List.length_reverse]⟩
    refine q_catU (ev_fP T (ev_var rfl) ha) hxs (eu_tup (ea_cons (ev_fW T (ev_var rfl) ha) (ea_cons (ev_fG T (ev_var rfl) ha) (ea_cons (ev_fM T (ev_var rfl) ha) ea_nil))) (by show 3 ≤ 100000; decide)) (by omega) fun pt p3 H3 hp3 e3 ht h3 => ?_
    have ha3 := e3 _ _ ha
    refine s_fPL T (el_sl (ev_var rfl) (eo_some (ev_un ev_c ru_neg)) eo_none (sq_of h3)) (ev_var rfl) ha3 fun p4 H4 hp4 e4 h4 => ?_
    have e34 := e3.trans e4
    have ha4 := e4 _ _ ha3
    have s4 : Std H4 (upd H4 a (.ins Z.kept dx (kF aw ag ((st.game.m : Nat) : Int) p4))) := But.put.std ha4
    have sAll : Std H (upd H4 a (.ins Z.kept dx (kF aw ag ((st.game.m : Nat) : Int) p4))) := (Std.ex e34).trans s4
    refine q _ ((But.ex e34).trans But.put) ⟨dx, aw, ag, p4, upd_same, hgm.std sAll, ?_, ?_⟩
    · show PastAt _ p4 ((st.game :: st.was).take 10).reverse
      rw [was_take st.game h10]
      refine hpa.more (pt := pt) hxs sAll (s4.t _ _ (e4 _ _ ht)) (hgm.std sAll) _ (s4.l _ _ ?_)
      rw [h4, cut_last, List.length_append, hxl]
      rfl
    · show ((st.game :: st.was).take 10).length ≤ 10
      rw [List.length_take]
      exact Nat.min_le_left _ _
theorem remember_sp {C a : Addr} {H : Hp} {s : Ks570.State} {Q : VK} {E : XK} (h : KeptAt C H a s) (k : ∀ H', But a H H' → KeptAt C H' a { s with was := (s.game :: s.was).take 10 } → Q .non H') : sp_Kept_remember C [.ref a] H Q E := ⟨a, s, rfl, h, k⟩
/-! change_worths, lay_groups, move_to -/
theorem q_meth0 {C a : Addr} {H : Hp} {σ : L2.St} {D : Ends} {sp : Sp} {m : Str} {tz : TS} {ta : TE} {s : Ks570.State} (h : Ev ta σ H (.ref a)) (hk : KeptAt C H a s) (hm : ∀ aw ag z ap, (kF aw ag z ap).lookup m = none) (k : ∀ H1, Ex H H1 → sp [.ref a] H1 (fun _ H2 => tz D σ H2) C8.E0) : tSeq (tDrop (tMeth C m sp [] C8.E0 ta tNil)) tz D σ H := by
  obtain ⟨dx, aw, ag, ap, ha, _⟩ := hk
  exact h H (Ex.refl H) _ fun H1 e1 => ⟨a, dx, _, rfl, e1 _ _ ha, hm _ _ _ _, k H1 e1⟩
theorem no_remember (aw ag : Addr) (z : Int) (ap : Addr) : (kF aw ag z ap).lookup ("remember" : Str) = none := kF_no _ _ _ _ (by decide +kernel) (by decide +kernel) (by decide +kernel) (by decide +kernel)
abbrev s_Kept_change_worths : Stmt := inCls (top 56) 5
abbrev N_Kept_change_worths : List Str := ["self", "worths"]
abbrev P_Kept_change_worths : List Str := ["self", "worths"]
theorem sc_Kept_change_worths : FnScope N_Kept_change_worths P_Kept_change_worths (C8.fnScope s_Kept_change_worths) := C8.fnScope_by (by decide +kernel)
def sp_Kept_change_worths (C : Addr) : Sp := fun vs H Q _ => ∃ (a b : Addr) (s : Ks570.State) (t : Ks565.Folk), vs = [.ref a, .ref b] ∧ KeptAt C H a s ∧ RowsAt H b (rowsOf t) ∧ ∀ H', But a H H' → KeptAt C H' a (Ks570.change s { s.game with t := t }) → Q .non H'
theorem met_change_worths {Z : Zc} {f : Addr} {fd : FuncData} (F : C8.Fun K "change_worths" "Kept.change_worths" s_Kept_change_worths f fd) (T : KTxt K Z.kept) (me : Meth K Z.kept "change_worths" f) (b : Binds K fd P_Kept_change_worths []) (c_remember : C8.Met P w K mg base 1 Z.kept "remember" (sp_Kept_remember Z.kept) []) : C8.Met P w K mg base 2 Z.kept "change_worths" (sp_Kept_change_worths Z.kept) [] := by
  have sc := sc_Kept_change_worths
  refine C8.met0 T.cl me F b sc (fun vs H Q E h => ?_) (fun cdv A outer s H vs Q E hr h => ?_)
  · obtain ⟨_, _, _, _, rfl, _⟩ := h
    rfl
  · refine ⟨_, (pss_cons (ps_expr (C8.pe_mt0 c_remember hr (by decide) (pv 0)))
      (pss_one (psF K rfl (pv 0) (pv 1) rfl))), ?_⟩
    obtain ⟨a, b, st, t, rfl, hk, hw, q⟩ := h
    have hins : ∃ dx fs, H a = some (.ins Z.kept dx fs) := by
      obtain ⟨dx, aw, ag, ap, h1, _⟩ := hk
      exact ⟨dx, _, h1⟩
    obtain ⟨dx0, fs0, ha0⟩ := hins
    refine q_meth0 (ev_var rfl) hk no_remember fun H1 e1 => remember_sp (hk.ex e1) fun H2 b2 k2 => ?_
    obtain ⟨dx, aw, ag, ap, ha, hgm, hpa, h10⟩ := k2
    refine s_fW T (ev_var rfl) (ev_var rfl) ha fun H3 e3 => ?_
    have s3 : Std H3 (upd H3 a (.ins Z.kept dx (kF b ag ((st.game.m : Nat) : Int) ap))) := But.put.std (e3 _ _ ha)
    have s13 : Std H2 (upd H3 a (.ins Z.kept dx (kF b ag ((st.game.m : Nat) : Int) ap))) := (Std.ex e3).trans s3
    have s03 := ((Std.ex e1).trans (b2.std (e1 _ _ ha0))).trans s13
    exact q _ ((((But.ex e1).trans b2).trans (But.ex e3)).trans But.put) ⟨dx, b, ag, ap, upd_same, ⟨hw.keep s03.l, (hgm.std s13).2⟩, hpa.std s13, h10⟩
abbrev s_Kept_lay_groups : Stmt := inCls (top 56) 6
abbrev N_Kept_lay_groups : List Str := ["self", "groups"]
abbrev P_Kept_lay_groups : List Str := ["self", "groups"]
theorem sc_Kept_lay_groups : FnScope N_Kept_lay_groups P_Kept_lay_groups (C8.fnScope s_Kept_lay_groups) := C8.fnScope_by (by decide +kernel)
def sp_Kept_lay_groups (C : Addr) : Sp := fun vs H Q _ => ∃ (a b : Addr) (s : Ks570.State) (g : List Nat), vs = [.ref a, .ref b] ∧ KeptAt C H a s ∧ H b = some (.lst (nv g)) ∧ ∀ H', But a H H' → KeptAt C H' a (Ks570.change s { s.game with g := g, m := 0 }) → Q .non H'
theorem met_lay_groups {Z : Zc} {f : Addr} {fd : FuncData} (F : C8.Fun K "lay_groups" "Kept.lay_groups" s_Kept_lay_groups f fd) (T : KTxt K Z.kept) (me : Meth K Z.kept "lay_groups" f) (b : Binds K fd P_Kept_lay_groups []) (c_remember : C8.Met P w K mg base 1 Z.kept "remember" (sp_Kept_remember Z.kept) []) : C8.Met P w K mg base 2 Z.kept "lay_groups" (sp_Kept_lay_groups Z.kept) [] := by
  have sc := sc_Kept_lay_groups
  refine C8.met0 T.cl me F b sc (fun vs H Q E h => ?_) (fun cdv A outer s H vs Q E hr h => ?_)
  · obtain ⟨_, _, _, _, rfl, _⟩ := h
    rfl
  · refine ⟨_, (pss_cons (ps_expr (C8.pe_mt0 c_remember hr (by decide) (pv 0)))
      (pss_cons (psF K rfl (pv 0) (pv 1) rfl)
      (pss_one (psF K rfl (pv 0) pe_int rfl)))), ?_⟩
    obtain ⟨a, b, st, g, rfl, hk, hw, q⟩ := h
    have hins : ∃ dx fs, H a = some (.ins Z.kept dx fs) := by
      obtain ⟨dx, aw, ag, ap, h1, _⟩ := hk
      exact ⟨dx, _, h1⟩
    obtain ⟨dx0, fs0, ha0⟩ := hins
    refine q_meth0 (ev_var rfl) hk no_remember fun H1 e1 => remember_sp (hk.ex e1) fun H2 b2 k2 => ?_
    obtain ⟨dx, aw, ag, ap, ha, hgm, hpa, h10⟩ := k2
    refine s_fG T (ev_var rfl) (ev_var rfl) ha fun H3 e3 => ?_
    have ha3 : upd H3 a (.ins Z.kept dx (kF aw b ((st.game.m : Nat) : Int) ap)) a = some (.ins Z.kept dx (kF aw b ((st.game.m : Nat) : Int) ap)) := upd_same
    refine s_fM T (z := 0) ev_c (ev_var rfl) ha3 fun H4 e4 => ?_
    have s3 : Std H3 (upd H3 a (.ins Z.kept dx (kF aw b ((st.game.m : Nat) : Int) ap))) := But.put.std (e3 _ _ ha)
    have s4 : Std H4 (upd H4 a (.ins Z.kept dx (kF aw b 0 ap))) := But.put.std (e4 _ _ ha3)
    have s14 := (((Std.ex e3).trans s3).trans (Std.ex e4)).trans s4
    have s04 := ((Std.ex e1).trans (b2.std (e1 _ _ ha0))).trans s14
    exact q _ ((((((But.ex e1).trans b2).trans (But.ex e3)).trans But.put).trans (But.ex e4)).trans But.put) ⟨dx, aw, b, ap, upd_same, ⟨(hgm.std s14).1, s04.l _ _ hw⟩, hpa.std s14, h10⟩
abbrev s_Kept_move_to : Stmt := inCls (top 56) 7
abbrev N_Kept_move_to : List Str := ["self", "groups"]
abbrev P_Kept_move_to : List Str := ["self", "groups"]
theorem sc_Kept_move_to : FnScope N_Kept_move_to P_Kept_move_to (C8.fnScope s_Kept_move_to) := C8.fnScope_by (by decide +kernel)
def sp_Kept_move_to (C : Addr) : Sp := fun vs H Q _ => ∃ (a b : Addr) (s : Ks570.State) (g : List Nat), vs = [.ref a, .ref b] ∧ KeptAt C H a s ∧ H b = some (.lst (nv g)) ∧ ∀ H', But a H H' → KeptAt C H' a (Ks570.change s { s.game with g := g, m := s.game.m + 1 }) → Q .non H'
theorem met_move_to {Z : Zc} {f : Addr} {fd : FuncData} (F : C8.Fun K "move_to" "Kept.move_to" s_Kept_move_to f fd) (T : KTxt K Z.kept) (me : Meth K Z.kept "move_to" f) (b : Binds K fd P_Kept_move_to []) (c_remember : C8.Met P w K mg base 1 Z.kept "remember" (sp_Kept_remember Z.kept) []) : C8.Met P w K mg base 2 Z.kept "move_to" (sp_Kept_move_to Z.kept) [] := by
  have sc := sc_Kept_move_to
  refine C8.met0 T.cl me F b sc (fun vs H Q E h => ?_) (fun cdv A outer s H vs Q E hr h => ?_)
  · obtain ⟨_, _, _, _, rfl, _⟩ := h
    rfl
  · refine ⟨_, (pss_cons (ps_expr (C8.pe_mt0 c_remember hr (by decide) (pv 0)))
      (pss_cons (psF K rfl (pv 0) (pv 1) rfl)
      (pss_one (psF K rfl (pv 0) (pe_op op_add (peF K rfl (pv 0) rfl) pe_int) rfl)))), ?_⟩
    obtain ⟨a, b, st, g, rfl, hk, hw, q⟩ := h
    have hins : ∃ dx fs, H a = some (.ins Z.kept dx fs) := by
      obtain ⟨dx, aw, ag, ap, h1, _⟩ := hk
      exact ⟨dx, _, h1⟩
    obtain ⟨dx0, fs0, ha0⟩ := hins
    refine q_meth0 (ev_var rfl) hk no_remember fun H1 e1 => remember_sp (hk.ex e1) fun H2 b2 k2 => ?_
    obtain ⟨dx, aw, ag, ap, ha, hgm, hpa, h10⟩ := k2
    refine s_fG T (ev_var rfl) (ev_var rfl) ha fun H3 e3 => ?_
    have ha3 : upd H3 a (.ins Z.kept dx (kF aw b ((st.game.m : Nat) : Int) ap)) a = some (.ins Z.kept dx (kF aw b ((st.game.m : Nat) : Int) ap)) := upd_same
    refine s_fM T (z := ((st.game.m : Nat) : Int) + 1) (ev_op (ev_fM T (ev_var rfl) ha3) ev_c rv_I0) (ev_var rfl) ha3 fun H4 e4 => ?_
    have s3 : Std H3 (upd H3 a (.ins Z.kept dx (kF aw b ((st.game.m : Nat) : Int) ap))) := But.put.std (e3 _ _ ha)
    have s4 : Std H4 (upd H4 a (.ins Z.kept dx (kF aw b (((st.game.m : Nat) : Int) + 1) ap))) := But.put.std (e4 _ _ ha3)
    have s14 := (((Std.ex e3).trans s3).trans (Std.ex e4)).trans s4
    have s04 := ((Std.ex e1).trans (b2.std (e1 _ _ ha0))).trans s14
    exact q _ ((((((But.ex e1).trans b2).trans (But.ex e3)).trans But.put).trans (But.ex e4)).trans But.put) ⟨dx, aw, b, ap, upd_same, ⟨(hgm.std s14).1, s04.l _ _ hw⟩, hpa.std s14, h10⟩
theorem cut_but (xs : List V) : cutV xs none (some (-1)) = xs.take (xs.length - 1) := by
  unfold cutV
  have e1 : HT.sIx xs.length xs.length (some (-1)) = xs.length - 1 := by
    show (if (-1 : Int) < 0 then ((-1 : Int) + (xs.length : Int)).toNat else min (-1 : Int).toNat xs.length) = _
    rw [if_pos (by decide)]
    omega
  rw [e1, HT.sIx_none]
  rfl
abbrev s_Kept_take_back : Stmt := inCls (top 56) 8
abbrev N_Kept_take_back : List Str := ["self", "last"]
abbrev P_Kept_take_back : List Str := ["self"]
theorem sc_Kept_take_back : FnScope N_Kept_take_back P_Kept_take_back (C8.fnScope s_Kept_take_back) := C8.fnScope_by (by decide +kernel)
def sp_Kept_take_back (C : Addr) : Sp := fun vs H Q _ => ∃ (a : Addr) (s : Ks570.State) (gm : Ks570.Game) (l : List Ks570.Game), vs = [.ref a] ∧ KeptAt C H a s ∧ s.was = gm :: l ∧ ∀ H', But a H H' → KeptAt C H' a ⟨gm, l⟩ → Q .non H'
theorem met_take_back {Z : Zc} {f : Addr} {fd : FuncData} (F : C8.Fun K "take_back" "Kept.take_back" s_Kept_take_back f fd) (T : KTxt K Z.kept) (me : Meth K Z.kept "take_back" f) (b : Binds K fd P_Kept_take_back []) : C8.Met P w K mg base 1 Z.kept "take_back" (sp_Kept_take_back Z.kept) [] := by
  have sc := sc_Kept_take_back
  refine C8.met0 T.cl me F b sc (fun vs H Q E h => ?_) (fun cdv A outer s H vs Q E hr h => ?_)
  · obtain ⟨_, _, _, _, rfl, _⟩ := h
    rfl
  · refine ⟨_, (pss_cons (ps_set (i := 1) sc.nd rfl (.inl rfl) (pe_ix (ixl K rfl) (peF K rfl (pv 0) rfl) (pe_un un_neg pe_int) (fun _ _ => rfl)))
      (pss_cons (psF K rfl (pv 0) (pe_slice (slL K rfl) (peF K rfl (pv 0) rfl) po_none (po_some (pe_un un_neg pe_int))) rfl)
      (pss_cons (psF K rfl (pv 0) (pe_ix (ixt K rfl) (pv 1) pe_int (fun _ _ => rfl)) rfl)
      (pss_cons (psF K rfl (pv 0) (pe_ix (ixt K rfl) (pv 1) pe_int (fun _ _ => rfl)) rfl)
      (pss_one (psF K rfl (pv 0) (pe_ix (ixt K rfl) (pv 1) pe_int (fun _ _ => rfl)) rfl)))))), ?_⟩
    obtain ⟨a, st, gm, l, rfl, ⟨dx, aw, ag, ap, ha, hgm, hpa, h10⟩, hwas, q⟩ := h
    rw [hwas, List.reverse_cons] at hpa
    obtain ⟨ps, h1, h2, h3⟩ := hpa
    rw [List.length_append] at h2
    have hpos : 0 < ps.length := by rw [h2]; exact Nat.succ_pos _
    have hsplit : ps = ps.dropLast ++ [ps[ps.length - 1]] := by
      have := List.dropLast_concat_getLast (l := ps) (by intro z; rw [z] at hpos; exact absurd hpos (Nat.lt_irrefl _))
      rw [List.getLast_eq_getElem] at this
      exact this.symm
    obtain ⟨gm', aw', ag', a1, a2, a3⟩ := h3 (ps.length - 1) ps[ps.length - 1] (List.getElem?_eq_getElem (by omega))
    have hg' : gm' = gm := by
      rw [List.getElem?_append_right (by rw [h2]; simp), h2] at a1
      simp at a1
      exact a1.symm
    subst hg'
    have hat : atI (ps.map V.ref) (-1) = some (V.ref ps[ps.length - 1]) := by
      have z := atI_last (ps.dropLast.map V.ref) (V.ref ps[ps.length - 1])
      have e : ps.map V.ref = ps.dropLast.map V.ref ++ [V.ref ps[ps.length - 1]] := by
        conv => lhs; rw [hsplit]
        rw [List.map_append]
        rfl
      rw [e]
      exact z
    refine q_asg (ev_op (ev_fP T (ev_var rfl) ha) (ev_un ev_c ru_neg) (rv_ixL (sq_of h1) hat)) fun H1 e1 => ?_
    have ha1 := e1 _ _ ha
    refine s_fPL T (el_sl (ev_fP T (ev_var rfl) ha1) eo_none (eo_some (ev_un ev_c ru_neg)) (sq_of (e1 _ _ h1))) (ev_var rfl) ha1 fun p2 H2 hp2 e2 h2l => ?_
    have ha2 : upd H2 a (.ins Z.kept dx (kF aw ag ((st.game.m : Nat) : Int) p2)) a = some (.ins Z.kept dx (kF aw ag ((st.game.m : Nat) : Int) p2)) := upd_same
    have s2 : Std H2 (upd H2 a (.ins Z.kept dx (kF aw ag ((st.game.m : Nat) : Int) p2))) := But.put.std (e2 _ _ ha1)
    have t2 := s2.t _ _ (e2 _ _ (e1 _ _ a2))
    refine s_fW T (ev_op (ev_var rfl) ev_c (rv_ixT (st_of t2) (atI_nat (j := 0) rfl))) (ev_var rfl) ha2 fun H3 e3 => ?_
    have ha3 : upd H3 a (.ins Z.kept dx (kF aw' ag ((st.game.m : Nat) : Int) p2)) a = some (.ins Z.kept dx (kF aw' ag ((st.game.m : Nat) : Int) p2)) := upd_same
    have s3 : Std H3 (upd H3 a (.ins Z.kept dx (kF aw' ag ((st.game.m : Nat) : Int) p2))) := But.put.std (e3 _ _ ha2)
    have t3 := s3.t _ _ (e3 _ _ t2)
    refine s_fG T (ev_op (ev_var rfl) ev_c (rv_ixT (st_of t3) (atI_nat (j := 1) rfl))) (ev_var rfl) ha3 fun H4 e4 => ?_
    have ha4 : upd H4 a (.ins Z.kept dx (kF aw' ag' ((st.game.m : Nat) : Int) p2)) a = some (.ins Z.kept dx (kF aw' ag' ((st.game.m : Nat) : Int) p2)) := upd_same
    have s4 : Std H4 (upd H4 a (.ins Z.kept dx (kF aw' ag' ((st.game.m : Nat) : Int) p2))) := But.put.std (e4 _ _ ha3)
    have t4 := s4.t _ _ (e4 _ _ t3)
    refine s_fM T (ev_op (ev_var rfl) ev_c (rv_ixT (st_of t4) (atI_nat (j := 2) rfl))) (ev_var rfl) ha4 fun H5 e5 => ?_
    have s5 : Std H5 (upd H5 a (.ins Z.kept dx (kF aw' ag' ((gm'.m : Nat) : Int) p2))) := But.put.std (e5 _ _ ha4)
    have s25 : Std H2 (upd H5 a (.ins Z.kept dx (kF aw' ag' ((gm'.m : Nat) : Int) p2))) := ((((s2.trans (Std.ex e3)).trans s3).trans (Std.ex e4)).trans s4).trans ((Std.ex e5).trans s5)
    have s05 : Std H (upd H5 a (.ins Z.kept dx (kF aw' ag' ((gm'.m : Nat) : Int) p2))) := (Std.ex (e1.trans e2)).trans s25
    refine q _ ((((((((But.ex (e1.trans e2)).trans But.put).trans (But.ex e3)).trans But.put).trans (But.ex e4)).trans But.put).trans (But.ex e5)).trans But.put) ⟨dx, aw', ag', p2, upd_same, a3.std s05, ⟨ps.take (ps.length - 1), ?_, ?_, fun j p hj => ?_⟩, ?_⟩
    · rw [s25.l _ _ h2l, cut_but, List.length_map, List.map_take]
    · rw [List.length_take, List.length_reverse, h2, List.length_reverse]
      simp
    · have hj2 : j < ps.length - 1 := by
        have := (List.getElem?_eq_some_iff.mp hj).1
        rw [List.length_take] at this
        omega
      rw [List.getElem?_take_of_lt hj2] at hj
      obtain ⟨g2, aw2, ag2, b1, b2, b3⟩ := h3 j p hj
      refine ⟨g2, aw2, ag2, ?_, s05.t _ _ b2, b3.std s05⟩
      rw [List.getElem?_append_left (by rw [List.length_reverse]; rw [List.length_reverse] at h2; simp at h2; omega)] at b1
      exact b1
    · rw [hwas, List.length_cons] at h10
      show l.length ≤ 10
      omega
/-! the state is in order -/
structure GOk (n : Nat) (gm : Ks570.Game) : Prop where
  nn : gm.t.n = n
  wf : Wf gm.t
  len : gm.g.length = n
  few : ∀ x ∈ gm.g, x < n
  tid : ∃ l, gm.g = Ks565.tidy l
structure Ok (s : Ks570.State) : Prop where
  pos : 0 < s.game.t.n
  le : s.game.t.n ≤ 5
  game : GOk s.game.t.n s.game
  was : ∀ gm ∈ s.was, GOk s.game.t.n gm
  ten : s.was.length ≤ 10
theorem Ok.few {s : Ks570.State} (o : Ok s) : Few s.game.t s.game.g := o.game.few
/-! liking_of, standing_of -/
abbrev s_liking_of : Stmt := top 57
abbrev N_liking_of : List Str := ["kept"]
abbrev P_liking_of : List Str := ["kept"]
theorem sc_liking_of : FnScope N_liking_of P_liking_of (C8.fnScope s_liking_of) := C8.fnScope_by (by decide +kernel)
def sp_liking_of (Z : Zc) : Sp := fun vs H Q _ => ∃ (a : Addr) (s : Ks570.State), vs = [.ref a] ∧ KeptAt Z.kept H a s ∧ Ok s ∧ ∀ v H', Ex H H' → IsLik Z s.game.t v H' → Q v H'
theorem cal_liking_of {Z : Zc} {f : Addr} {fd : FuncData} (F : C8.Def K mg "liking_of" s_liking_of f fd) (b : Binds K fd P_liking_of []) (T : ZTxt K Z) (c_Liking : C8.Mak P w K mg base 2 "Liking" Z.lik (sp_Liking_init Z) []) : C8.Cal P w K mg base 4 "liking_of" (sp_liking_of Z) [] := by
  have sc := sc_liking_of
  refine C8.cal0 F b .nil sc (fun vs H Q E h => ?_) (fun cdv A outer s H vs Q E hr h => ?_)
  · obtain ⟨_, _, rfl, _⟩ := h
    rfl
  · refine ⟨_, (pss_one (ps_ret (C8.pe_mk c_Liking hr (by decide) (by rfl) (pa_cons (peF K rfl (pv 0) rfl) pa_nil)))), ?_⟩
    obtain ⟨a, st, rfl, ⟨dx, aw, ag, ap, ha, hgm, _⟩, ok, q⟩ := h
    exact s_retP (ep_mkLik (ea_cons (ev_fW T.k (ev_var rfl) ha) ea_nil) hgm.1 ok.pos ok.le) q
theorem liking_of_P {Z : Zc} {H : Hp} {a : Addr} {s : Ks570.State} (hk : KeptAt Z.kept H a s) (ok : Ok s) : SpP (sp_liking_of Z) [.ref a] H (IsLik Z s.game.t) := fun H1 e Q q _ => ⟨a, s, rfl, hk.ex e, ok, q⟩
abbrev s_standing_of : Stmt := top 58
abbrev N_standing_of : List Str := ["kept"]
abbrev P_standing_of : List Str := ["kept"]
theorem sc_standing_of : FnScope N_standing_of P_standing_of (C8.fnScope s_standing_of) := C8.fnScope_by (by decide +kernel)
def sp_standing_of (Z : Zc) : Sp := fun vs H Q _ => ∃ (a : Addr) (s : Ks570.State), vs = [.ref a] ∧ KeptAt Z.kept H a s ∧ Ok s ∧ ∀ v H', Ex H H' → IsStd Z false s.game.t s.game.g v H' → Q v H'
theorem cal_standing_of {Z : Zc} {f : Addr} {fd : FuncData} (F : C8.Def K mg "standing_of" s_standing_of f fd) (b : Binds K fd P_standing_of []) (T : ZTxt K Z) (c_Standing : C8.Mak P w K mg base 3 "Standing" Z.std (sp_Standing_init Z) []) (c_liking_of : C8.Cal P w K mg base 4 "liking_of" (sp_liking_of Z) []) : C8.Cal P w K mg base 5 "standing_of" (sp_standing_of Z) [] := by
  have sc := sc_standing_of
  refine C8.cal0 F b .nil sc (fun vs H Q E h => ?_) (fun cdv A outer s H vs Q E hr h => ?_)
  · obtain ⟨_, _, rfl, _⟩ := h
    rfl
  · refine ⟨_, (pss_one (ps_ret (C8.pe_mk c_Standing hr (by decide) (by rfl) (pa_cons (C8.pe_c c_liking_of hr (by decide) (by rfl) (pa_cons (pv 0) pa_nil)) (pa_cons (peF K rfl (pv 0) rfl) pa_nil))))), ?_⟩
    obtain ⟨a, st, rfl, hk, ok, q⟩ := h
    obtain ⟨dx, aw, ag, ap, ha, hgm, _⟩ := id hk
    refine ep_call (ea_cons (ev_var rfl) ea_nil) (liking_of_P hk ok) H (Ex.refl H) _ fun v H1 e1 hv => ?_
    obtain ⟨al, rfl, hl⟩ := hv
    refine (ea_cons (ev_fG T.k (ev_var (i := 0) rfl) (e1 _ _ ha)) ea_nil) H1 (Ex.refl H1) _ fun H2 e2 => ?_
    have z := ep_mkStd (Z := Z) (tp := false) (σ := [some (.ref al), some (.ref ag)]) (H := H2) (ta := tCons (tVar 0) (tCons (tVar 1) tNil)) (E := C8.E0) (al := al) (ag := ag) (ea_cons (ev_var rfl) (ea_cons (ev_var rfl) ea_nil)) (hl.ex e2) ((e1.trans e2) _ _ hgm.2) ok.game.len ok.few H2 (Ex.refl H2) (fun v H3 => Q v H3) fun v H3 e3 r3 => q v H3 ((e1.trans e2).trans e3) r3
    obtain ⟨v0, hv0, v1, hv1, z⟩ := z
    cases hv0
    cases hv1
    exact z
theorem standing_of_P {Z : Zc} {H : Hp} {a : Addr} {s : Ks570.State} (hk : KeptAt Z.kept H a s) (ok : Ok s) : SpP (sp_standing_of Z) [.ref a] H (IsStd Z false s.game.t s.game.g) := fun H1 e Q q _ => ⟨a, s, rfl, hk.ex e, ok, q⟩
end Rg

set_option Elab.async false
set_option maxRecDepth 100000
set_option maxHeartbeats 2000000
set_option linter.unusedVariables false
/-! running.py: a run; what one move makes -/
namespace Rg
open PySem PySem.Spec PyProof.Rows L2 Evl LamX
variable {P : Program} {w : World} {K : PySem.W.Frag} {mg : Str → Option Value} {base : Heap}
/-! groups as keys -/
def gk (g : List Nat) : List Key := g.map fun (k : Nat) => Sum.inl (k : Int)
theorem gk_nv (g : List Nat) : (gk g).map kV = nv g := by
  unfold gk nv
  rw [List.map_map]
  rfl
theorem gk_inj : ∀ {g h : List Nat}, gk g = gk h → g = h
  | [], [], _ => rfl
  | [], _ :: _, e => by cases e
  | _ :: _, [], e => by cases e
  | x :: g, y :: h, e => by
    obtain ⟨e1, e2⟩ := List.cons.inj (show Sum.inl (x : Int) :: gk g = Sum.inl (y : Int) :: gk h from e)
    have e3 : (x : Int) = (y : Int) := by injection e1
    rw [gk_inj e2, show x = y by omega]
/-- a dict of groups that were met -/
def metK (l : List (List Nat)) : List (List Key × V) := l.map fun g => (gk g, V.bl true)
theorem metK_len (l : List (List Nat)) : (metK l).length = l.length := List.length_map ..
theorem metK_val : ∀ (l : List (List Nat)) (g : List Nat), valV (metK l) (gk g) = if g ∈ l then some (V.bl true) else none
  | [], g => rfl
  | x :: l, g => by
    by_cases c : x = g
    · subst c
      rw [if_pos List.mem_cons_self]
      exact valV_pos (p := (gk x, V.bl true)) rfl
    · have e : valV (metK (x :: l)) (gk g) = valV (metK l) (gk g) := valV_neg (p := (gk x, V.bl true)) fun z => c (gk_inj z)
      rw [e, metK_val l g]
      by_cases h : g ∈ l
      · rw [if_pos h, if_pos (List.mem_cons_of_mem _ h)]
      · rw [if_neg h, if_neg fun z => (List.mem_cons.mp z).elim (fun y => c y.symm) h]
theorem metK_new {l : List (List Nat)} {g : List Nat} (h : g ∉ l) : putK (metK l) (gk g) (.bl true) = metK (l ++ [g]) := by
  rw [putK_new _ (by rw [metK_val, if_neg h])]
  unfold metK
  rw [List.map_append]
  rfl
theorem metK_old {l : List (List Nat)} {g : List Nat} (h : g ∈ l) : putK (metK l) (gk g) (.bl true) = metK l := by
  unfold putK
  rw [valV_any, metK_val, if_pos h, if_pos (show (some (V.bl true)).isSome = true from rfl)]
  unfold metK
  rw [List.map_map]
  apply List.map_congr_left
  intro x _
  show (if gk x = gk g then (gk x, V.bl true) else (gk x, V.bl true)) = _
  split <;> rfl
/-! tuple(..) -/
theorem eu_tupOf {σ : L2.St} {H : Hp} {ta : TE} {p : Addr} {xs : List V} (ha : Ev ta σ H (.ref p)) (h : H p = some (.lst xs)) : EvU (tCB (rTupS K) (tCons ta tNil)) σ H xs := fun H1 e Q q =>
  ha H1 e _ fun H2 e2 => ⟨p, xs, rfl, .inl ⟨sq_of ((e.trans e2) _ _ h), fun l hl => q l _ (fresh_back e2 hl) (e2.trans (Ex.new hl)) upd_same⟩⟩
theorem eu_tupNew {σ : L2.St} {H : Hp} {ta : TE} {xs : List V} (ha : EvL ta σ H xs) : EvU (tCB (rTupS K) (tCons ta tNil)) σ H xs := fun H1 e Q q =>
  ha H1 e _ fun p H2 _ e2 h2 => ⟨p, xs, rfl, .inl ⟨sq_of h2, fun l hl => q l _ (fresh_back e2 hl) (e2.trans (Ex.new hl)) upd_same⟩⟩
/-- k not in d, the key made on the spot -/
theorem ev_dnotinU {σ : L2.St} {H : Hp} {ty td : TE} {d : Addr} {kvs : List (List Key × V)} {g : List Nat} (hy : EvU ty σ H (nv g)) (hd : Ev td σ H (.ref d)) (h : H d = some (.dT kvs)) : Ev (tDNotIn ty td) σ H (.bl (!(valV kvs (gk g)).isSome)) := fun H1 e Q q =>
  hy H1 e _ fun p H2 _ e2 h2 => hd H2 (e.trans e2) _ fun H3 e3 => ⟨d, _, rfl, DGet.t (((e.trans e2).trans e3) _ _ h) (by rw [gk_nv]; exact e3 _ _ h2), q H3 (e2.trans e3)⟩
/-- d[k] = v, the key made on the spot -/
theorem q_dputU {σ : L2.St} {H : Hp} {D : Ends} {tz : TS} {td ty tv : TE} {d : Addr} {kvs : List (List Key × V)} {g : List Nat} {v : V} (hv : Ev tv σ H v) (hd : Ev td σ H (.ref d)) (hy : EvU ty σ H (nv g)) (h : H d = some (.dT kvs)) (hz : kvs.length < sizeLine) (k : ∀ H1, Ex H H1 → tz D σ (upd H1 d (.dT (putK kvs (gk g) v)))) : tSeq (sDPut td ty tv) tz D σ H :=
  hv H (Ex.refl H) _ fun H1 e1 => hd H1 e1 _ fun H2 e2 => hy H2 (e1.trans e2) _ fun p H3 hp e3 h3 => ⟨d, _, rfl, DPut.t (k := gk g) (((e1.trans e2).trans e3) _ _ h) (by rw [gk_nv]; exact h3) hz, k H3 ((e1.trans e2).trans e3)⟩
/-- Standing(liking, groups), the groups made on the spot -/
theorem ep_mkStdL {Z : Zc} {σ : L2.St} {H : Hp} {ta tb : TE} {al : Addr} {t : Ks565.Folk} {g : List Nat} (h1 : Ev ta σ H (.ref al)) (h2 : EvL tb σ H (nv g)) (hl : LikAt Z H al t) (hlen : g.length = t.n) (hf : Few t g) : EvP (tMake Z.std (sp_Standing_init Z) [] C8.E0 (tCons ta (tCons tb tNil))) σ H (IsStd Z false t g) := fun H1 e Q q =>
  h1 H1 e _ fun H2 e2 => h2 H2 (e.trans e2) _ fun pg H3 hpg e3 h3 => by
    have z := ep_mkStd (Z := Z) (tp := false) (σ := [some (.ref al), some (.ref pg)]) (H := H3) (ta := tCons (tVar 0) (tCons (tVar 1) tNil)) (E := C8.E0) (al := al) (ag := pg) (t := t) (g := g) (ea_cons (ev_var rfl) (ea_cons (ev_var rfl) ea_nil)) (hl.ex ((e.trans e2).trans e3)) h3 hlen hf H3 (Ex.refl H3) Q fun v H4 e4 r4 => q v H4 ((e2.trans e3).trans e4) r4
    obtain ⟨v0, hv0, v1, hv1, z⟩ := z
    cases hv0
    cases hv1
    exact z
theorem s_asgCall {σ : L2.St} {H : Hp} {D : Ends} {sp : Sp} {E : XK} {ta : TA} {vs : List V} {i : Nat} (h : EvA ta σ H vs) (k : ∀ H1, Ex H H1 → sp (vs ++ []) H1 (fun v H2 => D.nx (σ.set i (some v)) H2) E) : tAsg (tCall sp [] E ta) (gName i) D σ H := h H (Ex.refl H) _ k
/-! heaps in which tables grow -/
theorem extN_mut {H H' : Hp} {d : Addr} {o : HO} (e : ExtN H H') (h : H d = none) : ExtN H (upd H' d o) := fun b u hb n => by
  rw [upd_ne (ne_of_none hb h)]
  exact e b u hb n
theorem tabs_mut {T : List (Addr × Str)} {H : Hp} {d : Addr} {kvs : List (List Key × V)} {o : HO} (t : Tabs T H) (h : H d = some (.dT kvs)) : Tabs T (upd H d o) := fun p hp => by
  obtain ⟨ps, h1, h2, h3⟩ := t p hp
  refine ⟨ps, ?_, h2, fun pos cv hc => ?_⟩
  · rw [upd_ne fun z => by rw [z, h] at h1; cases h1]
    exact h1
  · obtain ⟨c, e1, e2⟩ := h3 pos cv hc
    refine ⟨c, e1, ?_⟩
    rw [upd_ne fun z => by rw [z, h] at e2; unfold CodeO at e2; cases e2]
    exact e2
theorem Stn.putT {H : Hp} {d : Addr} {kvs : List (List Key × V)} {o : HO} (h : H d = some (.dT kvs)) : Stn H (upd H d o) := ⟨⟨fun b xs hb => by rw [upd_ne fun z => by rw [z, h] at hb; cases hb]; exact hb, fun b xs hb => by rw [upd_ne fun z => by rw [z, h] at hb; cases hb]; exact hb⟩, fun b C dx fs hb _ => by rw [upd_ne fun z => by rw [z, h] at hb; cases hb]; exact hb⟩
/-! run_from -/
abbrev s_run_from : Stmt := top 72
abbrev N_run_from : List Str := ["standing", "way", "been", "made", "now", "move"]
abbrev P_run_from : List Str := ["standing", "way"]
theorem sc_run_from : FnScope N_run_from P_run_from (C8.fnScope s_run_from) := C8.fnScope_by (by decide +kernel)
def sp_run_from (Z : Zc) (T : List (Addr × Str)) : Sp := fun vs H Q _ => ∃ (a : Addr) (t : Ks565.Folk) (g : List Nat) (w : Nat), vs = [.ref a, .int w] ∧ StdAt Z false H a t g ∧ g ∈ Ks565.all t.n ∧ w ≤ 2 ∧ Tabs T H ∧
  ∀ p ag H', ExtN H H' → Tabs T H' → H' p = some (.tup [.int ((Ks567.run t w Ks567.STEPS g []).1 : Nat), .bl (Ks567.run t w Ks567.STEPS g []).2.1, .ref ag]) → H' ag = some (.lst (nv (Ks567.run t w Ks567.STEPS g []).2.2)) → Q (.ref p) H'
/-- what is kept between two turns of a run: now at g, past what has been -/
structure RunW (t : Ks565.Folk) (w : Nat) (R : Nat × Bool × List Nat) (g : List Nat) (past : List (List Nat)) : Prop where
  nd : past.Nodup
  ins : ∀ x ∈ past, x ∈ Ks565.all t.n
  at_ : g ∈ Ks565.all t.n
  le : past.length ≤ 52
  on : g ∉ past → Ks567.run t w (60 - past.length) g past = R
  again : g ∈ past → Ks567.step t w g ≠ none ∧ R = (past.length, false, g)
  moved : ∀ x ∈ past, Ks567.step t w x ≠ none
theorem RunW.next {t : Ks565.Folk} {w : Nat} {R : Nat × Bool × List Nat} {g h : List Nat} {past : List (List Nat)} {i k : Nat} (r : RunW t w R g past) (hn : t.n ≤ 5) (hg : g ∉ past) (hs : Ks567.step t w g = some (i, k, h)) (hh : h ∈ Ks565.all t.n) : RunW t w R h (past ++ [g]) ∧ (past ++ [g]).length = past.length + 1 := by
  have nd2 : (past ++ [g]).Nodup := List.nodup_append.mpr ⟨r.nd, List.nodup_cons.mpr ⟨(fun z => (by cases z)), List.nodup_nil⟩, fun x hx y hy e => hg (by rw [← List.mem_singleton.mp hy, ← e]; exact hx)⟩
  have ins2 : ∀ x ∈ past ++ [g], x ∈ Ks565.all t.n := fun x hx => (List.mem_append.mp hx).elim (r.ins x) fun z => by rw [List.mem_singleton.mp z]; exact r.at_
  have le2 := ways_few hn nd2 ins2
  have hl : (past ++ [g]).length = past.length + 1 := by rw [List.length_append]; rfl
  have mv2 : ∀ x ∈ past ++ [g], Ks567.step t w x ≠ none := fun x hx => (List.mem_append.mp hx).elim (r.moved x) fun z => by rw [List.mem_singleton.mp z, hs]; exact fun y => by cases y
  have hon := r.on hg
  have ef : 60 - past.length = (60 - (past ++ [g]).length) + 1 := by omega
  refine ⟨⟨nd2, ins2, hh, le2, fun hx => ?_, fun hx => ⟨mv2 h hx, ?_⟩, mv2⟩, hl⟩
  · rw [ef, run_on hs hx] at hon
    exact hon
  · rw [ef, run_again hs hx] at hon
    rw [← hon, hl]
theorem cal_run_from {Z : Zc} {f : Addr} {fd : FuncData} {T : List (Addr × Str)} (F : C8.Def K mg "run_from" s_run_from f fd) (b : Binds K fd P_run_from []) (B : Blt mg) (ZT : ZTxt K Z) (c_step_by : C8.Cal P w K mg base 5 "step_by" (sp_step_by Z T) []) (c_Standing : C8.Mak P w K mg base 3 "Standing" Z.std (sp_Standing_init Z) []) (c_gone : C8.Cal P w K mg base 2 "gone" sp_gone []) : C8.Cal P w K mg base 6 "run_from" (sp_run_from Z T) [] := by
  have sc := sc_run_from; have b_tuple := B.tuple
  refine C8.cal0 F b .nil sc (fun vs H Q E h => ?_) (fun cdv A outer s H vs Q E hr h => ?_)
  · obtain ⟨_, _, _, _, rfl, _⟩ := h
    rfl
  · refine ⟨_, (pss_cons (ps_set (i := 2) sc.nd rfl (.inl rfl) pe_dnewT)
      (pss_cons (ps_set (i := 3) sc.nd rfl (.inl rfl) pe_int)
      (pss_cons (ps_set (i := 4) sc.nd rfl (.inl rfl) (pv 0))
      (pss_cons (ps_set (i := 5) sc.nd rfl (.inl rfl) (C8.pe_c c_step_by hr (by decide) (by rfl) (pa_cons (pv 4) (pa_cons (pv 1) pa_nil))))
      (pss_cons (ps_while PassesOwn.never (PW.pt (pw_and (pt_cmpR op_notN (pv 5) pe_non (nomark _)) (pw_and1 (pt_cmp (pc_dnotin (hu_of hr) (pe_callTy (cTupOf K rfl) (by rfl) b_tuple (by decide +kernel) (pa_cons (peF K rfl (pv 4) rfl) pa_nil)) (pv 2)))))) (pss_cons (ps_dput (hu_of hr) (pv 2) (pe_callTy (cTupOf K rfl) (by rfl) b_tuple (by decide +kernel) (pa_cons (peF K rfl (pv 4) rfl) pa_nil)) pe_bl rfl)
      (pss_cons (ps_set (i := 4) sc.nd rfl (.inl rfl) (C8.pe_mk c_Standing hr (by decide) (by rfl) (pa_cons (peF K rfl (pv 4) rfl) (pa_cons (C8.pe_c c_gone hr (by decide) (by rfl) (pa_cons (peF K rfl (pv 4) rfl) (pa_cons (pe_ix (ixt K rfl) (pv 5) pe_int (fun _ _ => rfl)) (pa_cons (pe_ix (ixt K rfl) (pv 5) pe_int (fun _ _ => rfl)) pa_nil)))) pa_nil))))
      (pss_cons (ps_set (i := 3) sc.nd rfl (.inl rfl) (pe_op op_add (pv 3) pe_int))
      (pss_one (ps_set (i := 5) sc.nd rfl (.inl rfl) (C8.pe_c c_step_by hr (by decide) (by rfl) (pa_cons (pv 4) (pa_cons (pv 1) pa_nil)))))))))
      (pss_one (ps_ret (pe_tup (pa_cons (pv 3) (pa_cons (pe_cmpR op_isN (pv 5) pe_non (nomark _)) (pa_cons (peF K rfl (pv 4) rfl) pa_nil))))))))))), ?_⟩
    obtain ⟨a, t, g0, w, rfl, hs, hga, hw, hTb, q⟩ := h
    have h5 := hs.le5
    generalize hR : Ks567.run t w Ks567.STEPS g0 [] = R at q
    intro d hd
    refine q_asg ev_c fun H0 e0 => ?_
    refine q_asg ev_c fun H1 e1 => ?_
    refine q_asg (ev_var rfl) fun H2 e2 => ?_
    have e02 : Ex H H2 := (((Ex.new hd).trans e0).trans e1).trans e2
    have d2 : H2 d = some (.dT []) := ((e0.trans e1).trans e2) _ _ upd_same
    -- the move that a step makes, as it lies there
    let Mv : List Nat → V → Hp → Prop := fun g mv H' => (Ks567.step t w g = none ∧ mv = .non) ∨ ∃ i k h p, Ks567.step t w g = some (i, k, h) ∧ mv = .ref p ∧ H' p = some (.tup [.int ((i : Nat) : Int), .int ((k : Nat) : Int)])
    refine q_asgCall (ea_cons (ev_var rfl) (ea_cons (ev_var rfl) ea_nil)) fun H3 e3 => ⟨a, false, t, g0, w, rfl, hs.ex (e02.trans e3), hw, hTb.ext (e02.trans e3), ?_⟩
    have start : ∀ mv H4, ExtN H3 H4 → Tabs T H4 → Mv g0 mv H4 → tSeq (tWhile (tAnd (tTest (tOp (fun x y H Q => y = V.non ∧ Q (V.bl (!decide (x = V.non))) H) (tVar 5) (tC .non))) (tB (tDNotIn (tCB (rTupS K) (tCons (tFld K (tVar 4) "groups") tNil)) (tVar 2)))) (tSeq (sDPut (tVar 2) (tCB (rTupS K) (tCons (tFld K (tVar 4) "groups") tNil)) (tC (.bl true))) (tSeq (tAsg (tMake Z.std (sp_Standing_init Z) [] C8.E0 (tCons (tFld K (tVar 4) "liking") (tCons (tCall sp_gone [] C8.E0 (tCons (tFld K (tVar 4) "groups") (tCons (tOp (rIxT K) (tVar 5) (tC (.int 0))) (tCons (tOp (rIxT K) (tVar 5) (tC (.int 1))) tNil)))) tNil))) (gName 4)) (tSeq (tAsg (tOp (rI0 fun i j => V.int (i + j)) (tVar 3) (tC (.int 1))) (gName 3)) (tAsg (tCall (sp_step_by Z T) [] C8.E0 (tCons (tVar 4) (tCons (tVar 1) tNil))) (gName 5)))))) (tRet (tTup (tCons (tVar 3) (tCons (tOp (fun x y H Q => y = V.non ∧ Q (V.bl (decide (x = V.non))) H) (tVar 5) (tC .non)) (tCons (tFld K (tVar 4) "groups") tNil))))) { nx := fun _ H' => Q .non H', rt := Q } [some (.ref a), some (.int (w : Int)), some (.ref d), some (.int 0), some (.ref a), some mv] H4 := by
      intro mv H4 e4 t4 mv4
      refine q_while (fun m σ' H' => ∃ (now : Addr) (g : List Nat) (past : List (List Nat)) (mv : V), m = 60 - past.length ∧ σ' = [some (.ref a), some (.int (w : Int)), some (.ref d), some (.int ((past.length : Nat) : Int)), some (.ref now), some mv] ∧ ExtN H H' ∧ Tabs T H' ∧ H' d = some (.dT (metK past)) ∧ StdAt Z false H' now t g ∧ Mv g mv H' ∧ RunW t w R g past) 60 ⟨a, g0, [], mv, rfl, rfl, (ExtN.of (e02.trans e3)).trans e4, t4, e4 _ _ (e3 _ _ d2) (fun ps z => by cases z), (hs.ex (e02.trans e3)).gr e4, mv4, List.nodup_nil, (fun x hx => by cases hx), hga, Nat.zero_le _, fun _ => hR, (fun z => by cases z), (fun x hx => by cases hx)⟩ ?_
      rintro m _ H' ⟨now, g, past, mv, rfl, rfl, eH, tH, dH, sH, mH, rw_⟩
      obtain ⟨ag, hag, evg⟩ := ev_groups ZT sH
      have hag : H' ag = some (.lst (nv g)) := hag
      have tnn : EvT (tTest (tOp (fun x y H Q => y = V.non ∧ Q (V.bl (!decide (x = V.non))) H) (tVar 5) (tC .non))) [some (.ref a), some (.int (w : Int)), some (.ref d), some (.int ((past.length : Nat) : Int)), some (.ref now), some mv] H' (!decide (mv = .non)) := et_test fun H5 e5 Q' q' => ⟨_, rfl, rfl, q' H5 (Ex.refl H5)⟩
      have tni : EvT (tB (tDNotIn (tCB (rTupS K) (tCons (tFld K (tVar 4) "groups") tNil)) (tVar 2))) [some (.ref a), some (.int (w : Int)), some (.ref d), some (.int ((past.length : Nat) : Int)), some (.ref now), some mv] H' (!(valV (metK past) (gk g)).isSome) := et_B (ev_dnotinU (eu_tupOf (evg (Ex.refl H') (ev_var rfl)) hag) (ev_var rfl) dH)
      refine ⟨_, et_and tnn fun _ => tni, fun c H5 e5 => ?_, fun c H5 e5 => ?_⟩
      · rw [Bool.and_eq_true] at c
        have hgp : g ∉ past := fun z => by
          have := c.2
          rw [metK_val, if_pos z] at this
          cases this
        rcases mH with ⟨_, rfl⟩ | ⟨i, k, h, p, hst, rfl, hp⟩
        · have := c.1
          rw [decide_eq_true rfl] at this
          cases this
        · have hgo := step_go hst
          have hha : h ∈ Ks565.all t.n := by rw [hgo]; exact go_all sH.len
          obtain ⟨rn, hl⟩ := rw_.next h5 hgp hst hha
          refine ⟨fun σ2 H2 => ∃ (now : Addr) (mv : V), σ2 = [some (.ref a), some (.int (w : Int)), some (.ref d), some (.int (((past ++ [g]).length : Nat) : Int)), some (.ref now), some mv] ∧ ExtN H H2 ∧ Tabs T H2 ∧ H2 d = some (.dT (metK (past ++ [g]))) ∧ StdAt Z false H2 now t h ∧ Mv h mv H2, fun σ2 H2 ⟨now, mv, h1, h2, h3, h4, h6, h7⟩ => ⟨60 - (past ++ [g]).length, by have := rw_.le; omega, now, h, past ++ [g], mv, rfl, h1, h2, h3, h4, h6, h7, rn⟩, ?_⟩
          have g5 := e5 _ _ hag
          have s5 := sH.ex e5
          -- been[tuple(now.groups)] = True
          refine q_dputU ev_c (ev_var rfl) (eu_tupOf (evg e5 (ev_var rfl)) g5) (e5 _ _ dH) (by rw [metK_len]; exact small1000 (by have := rw_.le; omega)) fun H6 e6 => ?_
          have e56 := e5.trans e6
          rw [metK_new hgp]
          have n7 : ExtN H (upd H6 d (.dT (metK (past ++ [g])))) := extN_mut (eH.trans (ExtN.of e56)) hd
          have t7 : Tabs T (upd H6 d (.dT (metK (past ++ [g])))) := tabs_mut (tH.ext e56) (e56 _ _ dH)
          have st7 : Stn H6 (upd H6 d (.dT (metK (past ++ [g])))) := Stn.putT (e56 _ _ dH)
          have d7 : upd H6 d (.dT (metK (past ++ [g]))) d = some (.dT (metK (past ++ [g]))) := upd_same
          have s7 := (s5.ex e6).stn st7
          have p7 := st7.s.t _ _ (e56 _ _ hp)
          generalize upd H6 d (.dT (metK (past ++ [g]))) = H7 at n7 t7 d7 s7 p7 st7
          -- now = Standing(..)
          obtain ⟨al, hl7, evl7⟩ := ev_liking ZT s7
          obtain ⟨ag7, hag7, evg7⟩ := ev_groups ZT s7
          have hag7 : H7 ag7 = some (.lst (nv g)) := hag7
          have hgn := gone_L (g := g) (i := i) (k := k) (.inl hag7) (by have := sH.len; omega)
          rw [← hgo] at hgn
          refine q_asgP (ep_mkStdL (evl7 (Ex.refl H7) (ev_var rfl)) (el_call (ea_cons (evg7 (Ex.refl H7) (ev_var rfl)) (ea_cons (ev_op (ev_var rfl) ev_c (rv_ixT (st_of p7) (atI_nat (j := 0) rfl))) (ea_cons (ev_op (ev_var rfl) ev_c (rv_ixT (st_of p7) (atI_nat (j := 1) rfl))) ea_nil))) hgn) hl7 (all_length hha) (all_few hha)) fun v H10 e10 r10 => ?_
          · obtain ⟨pn, rfl, sn⟩ := r10
            refine q_asg (ev_op (ev_var rfl) ev_c rv_I0) fun H11 e11 => ?_
            have e711 := e10.trans e11
            have n11 := n7.trans (ExtN.of e711)
            refine s_asgCall (ea_cons (ev_var rfl) (ea_cons (ev_var rfl) ea_nil)) fun H12 e12 => ⟨pn, false, t, h, w, rfl, (sn.ex e11).ex e12, hw, t7.ext (e711.trans e12), fun hs0 H13 e13 t13 => ?_, fun i2 k2 h2 hs2 p2 H13 e13 t13 h13 => ?_⟩
            · refine ⟨pn, .non, ?_, (n11.trans (ExtN.of e12)).trans e13, t13, e13 _ _ ((e711.trans e12) _ _ d7) (fun ps z => by cases z), ((sn.ex e11).ex e12).gr e13, .inl ⟨hs0, rfl⟩⟩
              rw [hl]
              rfl
            · refine ⟨pn, .ref p2, ?_, (n11.trans (ExtN.of e12)).trans e13, t13, e13 _ _ ((e711.trans e12) _ _ d7) (fun ps z => by cases z), ((sn.ex e11).ex e12).gr e13, .inr ⟨i2, k2, h2, p2, hs2, rfl, h13⟩⟩
              rw [hl]
              rfl
      · -- the end
        have hres : R = (past.length, decide (mv = V.non), g) := by
          rcases mH with ⟨hst, rfl⟩ | ⟨i, k, h, p, hst, rfl, hp⟩
          · have hgp : g ∉ past := fun z => (rw_.again z).1 hst
            have z := rw_.on hgp
            have ef : 60 - past.length = (59 - past.length) + 1 := by have := rw_.le; omega
            rw [ef, run_rest hst] at z
            rw [← z, decide_eq_true rfl]
          · have hgp : g ∈ past := by
              apply Classical.byContradiction
              intro hc
              have hne : (V.ref p = V.non) = False := eq_false fun y => by cases y
              rw [metK_val, if_neg hc] at c
              simp [hne] at c
            rw [(rw_.again hgp).2, decide_eq_false fun y => by cases y]
        refine s_retU (eu_tup (ea_cons (ev_var rfl) (ea_cons (x := .bl (decide (mv = V.non))) (fun H6 e6 Q' q' => ⟨_, rfl, rfl, q' H6 (Ex.refl H6)⟩) (ea_cons (evg e5 (ev_var rfl)) ea_nil))) (by show 3 ≤ 100000; decide)) fun p H6 hp e6 h6 => ?_
        refine q p ag H6 (eH.trans (ExtN.of (e5.trans e6))) (tH.ext (e5.trans e6)) ?_ ?_
        · rw [hres]
          exact h6
        · rw [hres]
          exact (e5.trans e6) _ _ hag
    refine ⟨fun hs0 H4 e4 t4 => start .non H4 e4 t4 (.inl ⟨hs0, rfl⟩), fun i k h hst p H4 e4 t4 h4 => start (.ref p) H4 e4 t4 (.inr ⟨i, k, h, p, hst, rfl, h4⟩)⟩
/-! made_of_by_one_move -/
/-- tuples of numbers at a -/
def TupsAt (H : Hp) (a : Addr) (l : List (List Nat)) : Prop := ∃ ps : List Addr, H a = some (.lst (ps.map V.ref)) ∧ ps.length = l.length ∧ ∀ (j : Nat) (q : Addr), ps[j]? = some q → ∃ g, l[j]? = some g ∧ H q = some (.tup (nv g))
theorem TupsAt.std {H H' : Hp} {a : Addr} {l : List (List Nat)} (x : TupsAt H a l) (e : Std H H') : TupsAt H' a l := by
  obtain ⟨ps, h1, h2, h3⟩ := x
  refine ⟨ps, e.l _ _ h1, h2, fun j q hj => ?_⟩
  obtain ⟨g, k1, k2⟩ := h3 j q hj
  exact ⟨g, k1, e.t _ _ k2⟩
theorem TupsAt.ex {H H' : Hp} {a : Addr} {l : List (List Nat)} (x : TupsAt H a l) (e : Ex H H') : TupsAt H' a l := x.std (.ex e)
theorem TupsAt.nil {H : Hp} {a : Addr} (h : H a = some (.lst [])) : TupsAt H a [] := ⟨[], h, rfl, fun j p hj => by cases hj⟩
theorem TupsAt.lst {H : Hp} {a : Addr} {l : List (List Nat)} (x : TupsAt H a l) : ∃ xs, H a = some (.lst xs) ∧ xs.length = l.length := by
  obtain ⟨ps, h1, h2, _⟩ := x
  exact ⟨_, h1, by rw [List.length_map]; exact h2⟩
theorem tup_ne {H : Hp} {a b : Addr} {xs ys : List V} (ha : H a = some (.lst xs)) (hb : H b = some (.tup ys)) : b ≠ a := fun z => by
  rw [z, ha] at hb
  cases hb
theorem TupsAt.snoc {H H1 : Hp} {a p : Addr} {l : List (List Nat)} {xs : List V} {g : List Nat} (h : TupsAt H a l) (hx : H a = some (.lst xs)) (e : Ex H H1) (hp : H1 p = some (.tup (nv g))) : TupsAt (upd H1 a (.lst (xs ++ [.ref p]))) a (l ++ [g]) := by
  obtain ⟨ps, h1, h2, h3⟩ := h
  rw [h1] at hx
  cases hx
  refine ⟨ps ++ [p], ?_, by rw [List.length_append, List.length_append, h2]; rfl, fun j q hj => ?_⟩
  · rw [upd_same, List.map_append]
    rfl
  · by_cases hlt : j < ps.length
    · rw [List.getElem?_append_left hlt] at hj
      obtain ⟨y, a1, a2⟩ := h3 j q hj
      exact ⟨y, by rw [List.getElem?_append_left (by omega)]; exact a1, (upd_ne (tup_ne (e _ _ h1) (e _ _ a2))).trans (e _ _ a2)⟩
    · rw [List.getElem?_append_right (by omega)] at hj
      obtain ⟨hj1, hj2⟩ := List.getElem?_eq_some_iff.mp hj
      have hj0 : j = ps.length := by simp at hj1; omega
      subst hj0
      have hq : p = q := by simpa using hj2
      subst hq
      exact ⟨g, by rw [h2, List.getElem?_append_right (Nat.le_refl _)]; simp, (upd_ne (tup_ne (e _ _ h1) hp)).trans hp⟩
abbrev s_made_of_by_one_move : Stmt := top 73
abbrev N_made_of_by_one_move : List Str := ["standing", "way", "move"]
abbrev P_made_of_by_one_move : List Str := ["standing", "way"]
theorem sc_made_of_by_one_move : FnScope N_made_of_by_one_move P_made_of_by_one_move (C8.fnScope s_made_of_by_one_move) := C8.fnScope_by (by decide +kernel)
def sp_made_of_by_one_move (Z : Zc) : Sp := fun vs H Q _ => ∃ (a : Addr) (tp : Bool) (t : Ks565.Folk) (g : List Nat) (w : Nat), vs = [.ref a, .int w] ∧ StdAt Z tp H a t g ∧ w ≤ 2 ∧ ∀ p H', H p = none → Ex H H' → TupsAt H' p (Ks567.next t w g) → Q (.ref p) H'
theorem cal_made_of_by_one_move {Z : Zc} {f : Addr} {fd : FuncData} (F : C8.Def K mg "made_of_by_one_move" s_made_of_by_one_move f fd) (b : Binds K fd P_made_of_by_one_move []) (B : Blt mg) (T : ZTxt K Z) (c_moves_by : C8.Cal P w K mg base 3 "moves_by" (sp_moves_by Z) []) (c_gone : C8.Cal P w K mg base 2 "gone" sp_gone []) : C8.Cal P w K mg base 4 "made_of_by_one_move" (sp_made_of_by_one_move Z) [] := by
  have sc := sc_made_of_by_one_move; have b_tuple := B.tuple
  refine C8.cal0 F b .nil sc (fun vs H Q E h => ?_) (fun cdv A outer s H vs Q E hr h => ?_)
  · obtain ⟨_, _, _, _, _, rfl, _⟩ := h
    rfl
  · refine ⟨_, (pss_one (ps_ret (pe_lc (own := [("move", 2)]) rfl sc.nd (piL K rfl (C8.pe_c c_moves_by hr (by decide) (by rfl) (pa_cons (pv 0) (pa_cons (pv 1) pa_nil)))) (blkOk_by (own := [("move", 2)]) (N := N_made_of_by_one_move) (sc := C8.fnScope s_made_of_by_one_move) (by decide +kernel)) (fun _ _ _ _ _ => (pg_name (i := 2) sc.nd rfl (Or.inl rfl))) (fun _ _ _ _ _ => pts_nil) (fun _ _ _ _ _ => (pe_callTy (cTupOf K rfl) (by rfl) b_tuple (by decide +kernel) (pa_cons (C8.pe_c c_gone hr (by decide) (by rfl) (pa_cons (peF K rfl (pv 0) rfl) (pa_cons (pe_ix (ixt K rfl) (pv 2) pe_int (fun _ _ => rfl)) (pa_cons (pe_ix (ixt K rfl) (pv 2) pe_int (fun _ _ => rfl)) pa_nil)))) pa_nil)))))), ?_⟩
    obtain ⟨a, tp, t, g, w, rfl, hs, hw, q⟩ := h
    have h5 := hs.le5
    have hml := moves_len (x := w) h5 hs.pos hs.few
    refine ep_call (ea_cons (ev_var rfl) (ea_cons (ev_var rfl) ea_nil)) (moves_by_P hs hw) H (Ex.refl H) _ fun v H1 e1 hv => ?_
    obtain ⟨pm, rfl, hpm⟩ := hv
    obtain ⟨xs, hxs, hxl⟩ := hpm.lst
    refine ⟨pm, rfl, ⟨_, sq_of hxs⟩, fun D hD => ?_⟩
    refine lc_list (xs := xs) (fun i H' => Ex H1 H' ∧ TupsAt H' D (((Ks565.moves t w g).take i).map fun p => Ks565.go g p.1 p.2)) ⟨Ex.new hD, TupsAt.nil upd_same⟩ (fun i H' _ p => sq_of (p.1 _ _ hxs)) (fun i x H' hi p => ⟨rfl, ?_⟩) fun H' p => ?_
    · obtain ⟨pj, y, rfl, hy, hty⟩ := (hpm.ex p.1).at_ (p.1 _ _ hxs) hi
      obtain ⟨ys, hys, hyl⟩ := p.2.lst
      have s' := hs.ex (e1.trans p.1)
      obtain ⟨ag, hag, evg⟩ := ev_groups T s'
      refine et_yes H' (Ex.refl H') _ fun Hy ey => ?_
      rw [if_pos rfl]
      refine eu_tupNew (el_call (ea_cons (evg ey (ev_var rfl)) (ea_cons (ev_op (ev_var rfl) ev_c (rv_ixT (st_of (ey _ _ hty)) (atI_nat (j := 0) rfl))) (ea_cons (ev_op (ev_var rfl) ev_c (rv_ixT (st_of (ey _ _ hty)) (atI_nat (j := 1) rfl))) ea_nil))) (gone_L (g := g) ((seqO_sqn hag).ex ey) (by have := hs.len; omega))) Hy (Ex.refl Hy) _ fun pt H4 hpt e4 h4 => ⟨ys, e4 _ _ (ey _ _ hys), ?_, (p.1.trans (ey.trans e4)).mut hD, ?_⟩
      · rw [hyl, List.length_map, List.length_take]
        exact small1000 (by omega)
      · rw [List.take_add_one, hy, List.map_append]
        exact p.2.snoc hys (ey.trans e4) h4
    · have p2 := p.2
      rw [hxl, List.take_length] at p2
      exact q D H' (fresh_back e1 hD) (e1.trans p.1) p2
end Rg

set_option Elab.async false
set_option maxRecDepth 100000
set_option maxHeartbeats 2000000
set_option linter.unusedVariables false
/-! running.py: what may be come to, whether it may go round -/
namespace Rg
open PySem PySem.Spec PyProof.Rows L2 Evl LamX
variable {P : Program} {w : World} {K : PySem.W.Frag} {mg : Str → Option Value} {base : Heap}
theorem next_len {t : Ks565.Folk} {w : Nat} {g : List Nat} (h5 : t.n ≤ 5) (hn : 0 < t.n) (hf : Few t g) : (Ks567.next t w g).length ≤ 30 := by
  unfold Ks567.next
  rw [List.length_map]
  exact moves_len h5 hn hf
theorem TupsAt.dropLast {H : Hp} {a : Addr} {l : List (List Nat)} {xs : List V} (h : TupsAt H a l) (hx : H a = some (.lst xs)) : TupsAt (upd H a (.lst xs.dropLast)) a l.dropLast := by
  obtain ⟨ps, h1, h2, h3⟩ := h
  rw [h1] at hx
  cases hx
  refine ⟨ps.dropLast, by rw [upd_same, List.map_dropLast], by rw [List.length_dropLast, List.length_dropLast, h2], fun j q hj => ?_⟩
  have hj' : j < ps.length - 1 := by
    have := (List.getElem?_eq_some_iff.mp hj).1
    rw [List.length_dropLast] at this
    exact this
  rw [List.getElem?_dropLast, if_pos hj'] at hj
  obtain ⟨y, a1, a2⟩ := h3 j q hj
  refine ⟨y, by rw [List.getElem?_dropLast, if_pos (by omega)]; exact a1, (upd_ne (tup_ne h1 a2)).trans a2⟩
theorem TupsAt.last {H : Hp} {a : Addr} {l : List (List Nat)} {xs : List V} (h : TupsAt H a l) (hx : H a = some (.lst xs)) (hl : 0 < xs.length) : ∃ q g, xs[xs.length - 1]? = some (.ref q) ∧ H q = some (.tup (nv g)) ∧ l = l.dropLast ++ [g] := by
  obtain ⟨ps, h1, h2, h3⟩ := h
  rw [h1] at hx
  cases hx
  rw [List.length_map] at hl
  obtain ⟨g, a1, a2⟩ := h3 (ps.length - 1) ps[ps.length - 1] (List.getElem?_eq_getElem (by omega))
  refine ⟨ps[ps.length - 1], g, by rw [List.length_map, List.getElem?_map, List.getElem?_eq_getElem (by omega)]; rfl, a2, ?_⟩
  have hne : l ≠ [] := fun z => by rw [z] at h2; simp at h2; rw [h2] at hl; exact absurd hl (Nat.lt_irrefl _)
  have e := List.dropLast_concat_getLast hne
  rw [List.getLast_eq_getElem] at e
  obtain ⟨b1, b2⟩ := List.getElem?_eq_some_iff.mp a1
  rw [← e]
  congr 2
  · rw [e]
  · rw [← b2]
    congr 1
    omega
theorem TupsAt.app {H : Hp} {a b : Addr} {l m : List (List Nat)} {xs ys : List V} (h : TupsAt H a l) (h' : TupsAt H b m) (hx : H a = some (.lst xs)) (hy : H b = some (.lst ys)) : TupsAt (upd H a (.lst (xs ++ ys))) a (l ++ m) := by
  obtain ⟨ps, h1, h2, h3⟩ := h
  obtain ⟨qs, k1, k2, k3⟩ := h'
  rw [h1] at hx
  rw [k1] at hy
  cases hx
  cases hy
  refine ⟨ps ++ qs, by rw [upd_same, List.map_append], by rw [List.length_append, List.length_append, h2, k2], fun j q hj => ?_⟩
  by_cases hlt : j < ps.length
  · rw [List.getElem?_append_left hlt] at hj
    obtain ⟨y, a1, a2⟩ := h3 j q hj
    exact ⟨y, by rw [List.getElem?_append_left (by omega)]; exact a1, (upd_ne (tup_ne h1 a2)).trans a2⟩
  · rw [List.getElem?_append_right (by omega)] at hj
    obtain ⟨y, a1, a2⟩ := k3 _ q hj
    exact ⟨y, by rw [List.getElem?_append_right (by omega), ← h2]; exact a1, (upd_ne (tup_ne h1 a2)).trans a2⟩
/-! what is behind: for each that may be come to, what one move more makes of it -/
def behK (ps : List (List Nat × Addr)) : List (List Key × V) := ps.map fun p => (gk p.1, V.ref p.2)
theorem behK_len (ps : List (List Nat × Addr)) : (behK ps).length = ps.length := List.length_map ..
theorem behK_no : ∀ {ps : List (List Nat × Addr)} {g : List Nat}, g ∉ ps.map (·.1) → valV (behK ps) (gk g) = none
  | [], g, _ => rfl
  | p :: ps, g, h => by
    have e : valV (behK (p :: ps)) (gk g) = valV (behK ps) (gk g) := valV_neg (p := (gk p.1, V.ref p.2)) fun z => h (by rw [List.map_cons, ← gk_inj z]; exact List.mem_cons_self)
    rw [e]
    exact behK_no fun z => h (List.mem_cons_of_mem _ z)
theorem behK_at : ∀ {ps : List (List Nat × Addr)} {g : List Nat} {r : Addr}, (ps.map (·.1)).Nodup → (g, r) ∈ ps → valV (behK ps) (gk g) = some (.ref r)
  | p :: ps, g, r, hn, h => by
    obtain ⟨n1, n2⟩ := List.nodup_cons.mp (show (p.1 :: ps.map (·.1)).Nodup from hn)
    rcases List.mem_cons.mp h with e | e
    · rw [← e]
      exact valV_pos (p := (gk g, V.ref r)) rfl
    · have hne : ¬ gk p.1 = gk g := fun z => n1 (by rw [gk_inj z]; exact List.mem_map.mpr ⟨(g, r), e, rfl⟩)
      exact (valV_neg (p := (gk p.1, V.ref p.2)) hne).trans (behK_at n2 e)
theorem behK_in {ps : List (List Nat × Addr)} {g : List Nat} (hn : (ps.map (·.1)).Nodup) : (valV (behK ps) (gk g)).isSome = decide (g ∈ ps.map (·.1)) := by
  by_cases c : g ∈ ps.map (·.1)
  · obtain ⟨⟨g', r⟩, h1, h2⟩ := List.mem_map.mp c
    have h2 : g' = g := h2
    subst h2
    rw [behK_at hn h1, decide_eq_true c]
    rfl
  · rw [behK_no c, decide_eq_false c]
    rfl
def BehAt (H : Hp) (d : Addr) (t : Ks565.Folk) (w : Nat) (l : List (List Nat)) : Prop := ∃ ps : List (List Nat × Addr), H d = some (.dT (behK ps)) ∧ ps.map (·.1) = l ∧ l.Nodup ∧ ∀ p ∈ ps, TupsAt H p.2 (Ks567.next t w p.1)
/-- d[k] = v, told by a word of the value -/
theorem q_dputP {σ : L2.St} {H : Hp} {D : Ends} {tz : TS} {td ty tv : TE} {d b : Addr} {kvs : List (List Key × V)} {g : List Nat} {R : V → Hp → Prop} (hR : ∀ v H H', Ex H H' → R v H → R v H') (hv : EvP tv σ H R) (hd : Ev td σ H (.ref d)) (hy : Ev ty σ H (.ref b)) (hb : H b = some (.tup (nv g))) (h : H d = some (.dT kvs)) (hz : kvs.length < sizeLine) (k : ∀ v H1, Ex H H1 → R v H1 → tz D σ (upd H1 d (.dT (putK kvs (gk g) v)))) : tSeq (sDPut td ty tv) tz D σ H :=
  hv H (Ex.refl H) _ fun v H1 e1 r1 => hd H1 e1 _ fun H2 e2 => hy H2 (e1.trans e2) _ fun H3 e3 => ⟨d, _, rfl, DPut.t (k := gk g) (((e1.trans e2).trans e3) _ _ h) (by rw [gk_nv]; exact ((e1.trans e2).trans e3) _ _ hb) hz, k v H3 ((e1.trans e2).trans e3) (hR v _ _ (e2.trans e3) r1)⟩
def IsTups (b : Addr) (l : List (List Nat)) : V → Hp → Prop := fun v H => ∃ r, v = .ref r ∧ TupsAt H r l ∧ r ≠ b
theorem made_of_P {Z : Zc} {tp : Bool} {H : Hp} {a b : Addr} {o : HO} {t : Ks565.Folk} {g : List Nat} {w : Nat} (hs : StdAt Z tp H a t g) (hw : w ≤ 2) (hb : H b = some o) : SpP (sp_made_of_by_one_move Z) [.ref a, .int (w : Int)] H (IsTups b (Ks567.next t w g)) := fun H1 e Q q _ => ⟨a, tp, t, g, w, rfl, hs.ex e, hw, fun p H2 hp e2 h2 => q _ H2 e2 ⟨p, rfl, h2, fun z => by
  rw [z, e _ _ hb] at hp
  cases hp⟩⟩
abbrev s_all_come_to : Stmt := top 74
abbrev N_all_come_to : List Str := ["standing", "way", "behind", "waiting", "groups"]
abbrev P_all_come_to : List Str := ["standing", "way"]
theorem sc_all_come_to : FnScope N_all_come_to P_all_come_to (C8.fnScope s_all_come_to) := C8.fnScope_by (by decide +kernel)
def sp_all_come_to (Z : Zc) : Sp := fun vs H Q _ => ∃ (a : Addr) (t : Ks565.Folk) (g : List Nat) (w : Nat), vs = [.ref a, .int w] ∧ StdAt Z false H a t g ∧ g ∈ Ks565.all t.n ∧ w ≤ 2 ∧ ∀ p l H', Ex H H' → BehAt H' p t w l → (∀ x, x ∈ l ↔ Come t w g x) → Q (.ref p) H'
theorem cal_all_come_to {Z : Zc} {f : Addr} {fd : FuncData} (F : C8.Def K mg "all_come_to" s_all_come_to f fd) (b : Binds K fd P_all_come_to []) (B : Blt mg) (T : ZTxt K Z) (c_made_of_by_one_move : C8.Cal P w K mg base 4 "made_of_by_one_move" (sp_made_of_by_one_move Z) []) (c_Standing : C8.Mak P w K mg base 3 "Standing" Z.std (sp_Standing_init Z) []) : C8.Cal P w K mg base 5 "all_come_to" (sp_all_come_to Z) [] := by
  have sc := sc_all_come_to; have b_tuple := B.tuple; have b_len := B.len
  refine C8.cal0 F b .nil sc (fun vs H Q E h => ?_) (fun cdv A outer s H vs Q E hr h => ?_)
  · obtain ⟨_, _, _, _, rfl, _⟩ := h
    rfl
  · refine ⟨_, (pss_cons (ps_set (i := 2) sc.nd rfl (.inl rfl) pe_dnewT)
      (pss_cons (ps_set (i := 3) sc.nd rfl (.inl rfl) (pe_lst (pa_cons (pe_callTy (cTupOf K rfl) (by rfl) b_tuple (by decide +kernel) (pa_cons (peF K rfl (pv 0) rfl) pa_nil)) pa_nil)))
      (pss_cons (ps_while PassesOwn.never (pt_cmpR op_gt (pe_callB (cLen K rfl) (by rfl) b_len (by decide +kernel) (pa_cons (pv 3) pa_nil)) pe_int (nomark _)) (pss_cons (ps_set (i := 4) sc.nd rfl (.inl rfl) (pe_bm0 PySem.F.plainAttrs_list PySem.F.slot_list_pop PySem.F.type_list_pop mt_pop (pv 3)))
      (pss_one (ps_if (pt_cmp (pc_dnotin (hu_of hr) (pv 4) (pv 2))) (pss_cons (ps_dput (hu_of hr) (pv 2) (pv 4) (C8.pe_c c_made_of_by_one_move hr (by decide) (by rfl) (pa_cons (C8.pe_mk c_Standing hr (by decide) (by rfl) (pa_cons (peF K rfl (pv 0) rfl) (pa_cons (pv 4) pa_nil))) (pa_cons (pv 1) pa_nil))) rfl)
      (pss_one (ps_expr (pe_bm PySem.F.plainAttrs_list PySem.F.slot_list_extend PySem.F.type_list_extend (mt_extend) (pv 3) (pa_cons (pe_dget (hu_of hr) (pv 2) (pv 4) (fun _ _ => rfl)) pa_nil))))) pss_nil))))
      (pss_one (ps_ret (pv 2)))))), ?_⟩
    obtain ⟨a, t, g0, w, rfl, hs, hga, hw, q⟩ := h
    have h5 := hs.le5
    have h0 := hs.pos
    obtain ⟨ag, hag, evg⟩ := ev_groups T hs
    have hag : H ag = some (.lst (nv g0)) := hag
    intro d hd
    refine q_asg ev_c fun H1 e1 => ?_
    have x01 : Ex H H1 := (Ex.new hd).trans e1
    have d1 : H1 d = some (.dT []) := e1 _ _ upd_same
    -- waiting = [tuple(..)]
    refine (eu_tupOf (K := K) (evg x01 (ev_var (i := 0) rfl)) (x01 _ _ hag)) H1 (Ex.refl H1) _ fun pt H2 hpt e2 h2 => ⟨by show 1 ≤ sizeLine; decide, fun wl hwl => ?_⟩
    have x02 : Ex H (upd H2 wl (.lst [.ref pt])) := (x01.trans e2).trans (Ex.new hwl)
    have d2 : upd H2 wl (.lst [.ref pt]) d = some (.dT []) := (Ex.new hwl) _ _ (e2 _ _ d1)
    have w2 : TupsAt (upd H2 wl (.lst [.ref pt])) wl [g0] := ⟨[pt], upd_same, rfl, fun j x hj => by
      cases j with
      | zero =>
        cases hj
        exact ⟨g0, rfl, (Ex.new hwl) _ _ h2⟩
      | succ j => cases hj⟩
    have nwl : H wl = none := fresh_back (x01.trans e2) hwl
    have ndw : d ≠ wl := fun z => by rw [← z, e2 _ _ d1] at hwl; cases hwl
    generalize upd H2 wl (.lst [.ref pt]) = H2' at x02 d2 w2
    refine q_while (σ := [some (.ref a), some (.int (w : Int)), some (.ref d), some (.ref wl), none]) (fun m σ' H' => ∃ (v4 : Option V) (ps : List (List Nat × Addr)) (ws : List (List Nat)), m = (52 - ps.length) * 31 + ws.length ∧ m ≤ 1613 ∧ σ' = [some (.ref a), some (.int (w : Int)), some (.ref d), some (.ref wl), v4] ∧ Ex H H' ∧ H' d = some (.dT (behK ps)) ∧ (ps.map (·.1)).Nodup ∧ (∀ p ∈ ps, p.2 ≠ wl ∧ TupsAt H' p.2 (Ks567.next t w p.1)) ∧ TupsAt H' wl ws ∧
      (g0 ∈ ps.map (·.1) ∨ g0 ∈ ws) ∧ (∀ x ∈ ps.map (·.1), ∀ y ∈ Ks567.next t w x, y ∈ ps.map (·.1) ∨ y ∈ ws) ∧ (∀ x ∈ ps.map (·.1), Come t w g0 x) ∧ ∀ x ∈ ws, Come t w g0 x) 1613
      ⟨none, [], [g0], rfl, Nat.le_refl _, rfl, x02, d2, List.nodup_nil, (fun p hp => by cases hp), w2, .inr (List.mem_singleton.mpr rfl), (fun x hx => by cases hx), (fun x hx => by cases hx), fun x hx => by rw [List.mem_singleton.mp hx]; exact .here⟩ ?_
    rintro m _ H' ⟨v4, ps, ws, hm, hm2, rfl, eH, dH, nH, bH, wH, i1, i2, i3, i4⟩
    obtain ⟨xs, hxs, hxl⟩ := wH.lst
    refine ⟨decide (0 < (xs.length : Int)), et_test (ev_op (ev_len (ev_var rfl) (sq_of hxs)) ev_c rv_I0), fun c H3 e3 => ?_, fun c H3 e3 => ?_⟩
    · have hpos : 0 < xs.length := by have := of_decide_eq_true c; omega
      obtain ⟨qx, x, hq1, hq2, hws⟩ := wH.last hxs hpos
      have hwl' : ws.length = ws.dropLast.length + 1 := by
        have z := congrArg List.length hws
        rw [List.length_append] at z
        exact z
      have hxc : Come t w g0 x := i4 x (by rw [hws]; exact List.mem_append.mpr (.inr (List.mem_singleton.mpr rfl)))
      have hxa := come_all hga hxc
      have hmem : ∀ y, y ∈ ws → y ∈ ws.dropLast ∨ y = x := fun y hy => by
        rw [hws] at hy
        exact (List.mem_append.mp hy).imp_right List.mem_singleton.mp
      have hdrop : ∀ y, y ∈ ws.dropLast → y ∈ ws := fun y hy => List.dropLast_subset ws hy
      refine ⟨fun σ2 H2 => ∃ m', m' < m ∧ ∃ (v4 : Option V) (ps : List (List Nat × Addr)) (ws : List (List Nat)), m' = (52 - ps.length) * 31 + ws.length ∧ m' ≤ 1613 ∧ σ2 = [some (.ref a), some (.int (w : Int)), some (.ref d), some (.ref wl), v4] ∧ Ex H H2 ∧ H2 d = some (.dT (behK ps)) ∧ (ps.map (·.1)).Nodup ∧ (∀ p ∈ ps, p.2 ≠ wl ∧ TupsAt H2 p.2 (Ks567.next t w p.1)) ∧ TupsAt H2 wl ws ∧
        (g0 ∈ ps.map (·.1) ∨ g0 ∈ ws) ∧ (∀ x ∈ ps.map (·.1), ∀ y ∈ Ks567.next t w x, y ∈ ps.map (·.1) ∨ y ∈ ws) ∧ (∀ x ∈ ps.map (·.1), Come t w g0 x) ∧ ∀ x ∈ ws, Come t w g0 x, fun _ _ h => h, ?_⟩
      -- groups = waiting.pop()
      refine ⟨_, rfl, .inl ⟨rfl, xs, sq_of (e3 _ _ hxs)⟩, wl, xs, .ref qx, rfl, rfl, e3 _ _ hxs, hq1, ?_⟩
      have eH3 := eH.trans e3
      have e4 : Ex H (upd H3 wl (.lst xs.dropLast)) := eH3.mut nwl
      have d4 : upd H3 wl (.lst xs.dropLast) d = some (.dT (behK ps)) := (upd_ne ndw).trans (e3 _ _ dH)
      have wt4 := (wH.ex e3).dropLast (e3 _ _ hxs)
      have std4 : ∀ r, r ≠ wl → ∀ l, TupsAt H3 r l → TupsAt (upd H3 wl (.lst xs.dropLast)) r l := fun r nr l ht => by
        obtain ⟨qs, k1, k2, k3⟩ := ht
        refine ⟨qs, (upd_ne nr).trans k1, k2, fun j y hj => ?_⟩
        obtain ⟨g', k4, k5⟩ := k3 j y hj
        exact ⟨g', k4, (upd_ne (tup_ne (e3 _ _ hxs) k5)).trans k5⟩
      have b4 : ∀ p ∈ ps, p.2 ≠ wl ∧ TupsAt (upd H3 wl (.lst xs.dropLast)) p.2 (Ks567.next t w p.1) := fun p hp => ⟨(bH p hp).1, std4 _ (bH p hp).1 _ ((bH p hp).2.ex e3)⟩
      have q4 : upd H3 wl (.lst xs.dropLast) qx = some (.tup (nv x)) := (upd_ne (tup_ne (e3 _ _ hxs) (e3 _ _ hq2))).trans (e3 _ _ hq2)
      generalize upd H3 wl (.lst xs.dropLast) = H4 at e4 d4 wt4 b4 q4
      have tni : EvT (tB (tDNotIn (tVar 4) (tVar 2))) [some (.ref a), some (.int (w : Int)), some (.ref d), some (.ref wl), some (.ref qx)] H4 (!(valV (behK ps) (gk x)).isSome) := et_B fun H5 e5 Q' q' => ⟨_, rfl, _, rfl, d, _, rfl, DGet.t (k := gk x) (e5 _ _ d4) (by rw [gk_nv]; exact e5 _ _ q4), q' H5 (Ex.refl H5)⟩
      rw [behK_in nH] at tni
      refine s_when tni (fun c2 H5 e5 => ?_) (fun c2 H5 e5 => ?_)
      · have hxn : x ∉ ps.map (·.1) := by
          rw [Bool.not_eq_true', decide_eq_false_iff_not] at c2
          exact c2
        have nd2 : ((ps.map (·.1)) ++ [x]).Nodup := List.nodup_append.mpr ⟨nH, List.nodup_cons.mpr ⟨(fun z => (by cases z)), List.nodup_nil⟩, fun y hy z hz e => hxn (by rw [← List.mem_singleton.mp hz, ← e]; exact hy)⟩
        have le2 : ps.length + 1 ≤ 52 := by
          have z := ways_few h5 nd2 fun y hy => (List.mem_append.mp hy).elim (fun z => come_all hga (i3 y z)) fun z => by rw [List.mem_singleton.mp z]; exact hxa
          rw [List.length_append, List.length_map] at z
          exact z
        -- behind[groups] = ..
        obtain ⟨al, hl, evl⟩ := ev_liking T (hs.ex (e4.trans e5))
        have evM : EvP (tMake Z.std (sp_Standing_init Z) [] C8.E0 (tCons (tFld K (tVar 0) "liking") (tCons (tVar 4) tNil))) [some (.ref a), some (.int (w : Int)), some (.ref d), some (.ref wl), some (.ref qx)] H5 (IsStd Z true t x) := ep_mkStd (tp := true) (ea_cons (evl (Ex.refl H5) (ev_var rfl)) (ea_cons (ev_var rfl) ea_nil)) hl (e5 _ _ q4) (all_length hxa) (all_few hxa)
        obtain ⟨yw, hyw, _⟩ := wt4.lst
        refine q_dputP (R := IsTups wl (Ks567.next t w x)) (fun v Ha Hb e ⟨r, h1, h2, h3⟩ => ⟨r, h1, h2.ex e, h3⟩) (ep_callP evM (ea_cons (ev_var rfl) ea_nil) fun v H6 e6 hv => by
          obtain ⟨pn, rfl, sn⟩ := hv
          exact made_of_P sn hw (e6 _ _ (e5 _ _ hyw))) (ev_var rfl) (ev_var rfl) (e5 _ _ q4) (e5 _ _ d4) (by rw [behK_len]; exact small1000 (by omega)) fun v H7 e57 hv => ?_
        obtain ⟨r, rfl, t7, rwl⟩ := hv
        rw [putK_new _ (behK_no hxn)]
        have eb : behK ps ++ [(gk x, V.ref r)] = behK (ps ++ [(x, r)]) := by
          unfold behK
          rw [List.map_append]
          rfl
        rw [eb]
        have st8 : Stn H7 (upd H7 d (.dT (behK (ps ++ [(x, r)])))) := Stn.putT (e57 _ _ (e5 _ _ d4))
        have e8 : Ex H (upd H7 d (.dT (behK (ps ++ [(x, r)])))) := ((e4.trans e5).trans e57).mut hd
        have d8 : upd H7 d (.dT (behK (ps ++ [(x, r)]))) d = some (.dT (behK (ps ++ [(x, r)]))) := upd_same
        have w8 := (((wt4.ex e5).ex e57)).std st8.s
        have b8 : ∀ p ∈ ps ++ [(x, r)], p.2 ≠ wl ∧ TupsAt (upd H7 d (.dT (behK (ps ++ [(x, r)])))) p.2 (Ks567.next t w p.1) := fun p hp => by
          rcases List.mem_append.mp hp with z | z
          · exact ⟨(b4 p z).1, (((b4 p z).2.ex e5).ex e57).std st8.s⟩
          · rw [List.mem_singleton.mp z]
            exact ⟨rwl, t7.std st8.s⟩
        have q8 := st8.s.t _ _ (e57 _ _ (e5 _ _ q4))
        generalize upd H7 d (.dT (behK (ps ++ [(x, r)]))) = H8 at e8 d8 w8 b8 q8
        have hnd8 : ((ps ++ [(x, r)]).map (·.1)).Nodup := by rw [List.map_append]; exact nd2
        -- waiting.extend(behind[groups])
        obtain ⟨ys, hys, hyl⟩ := w8.lst
        have tr := (b8 (x, r) (List.mem_append.mpr (.inr (List.mem_singleton.mpr rfl)))).2
        obtain ⟨zs, hzs, hzl⟩ := tr.lst
        have hzl : zs.length = (Ks567.next t w x).length := hzl
        have hnl := next_len (w := w) h5 h0 (all_few hxa)
        refine ⟨_, rfl, .inl ⟨rfl, ys, sq_of hys⟩, _, rfl, _, rfl, d, .ref r, rfl, ?_, wl, r, ys, zs, rfl, rfl, hys, hzs, ?_, ?_⟩
        · have z := DGet.t (k := gk x) d8 (b := qx) (by rw [gk_nv]; exact q8)
          rw [behK_at hnd8 (List.mem_append.mpr (.inr (List.mem_singleton.mpr rfl)))] at z
          exact z
        · rw [hyl, hzl]
          exact Nat.le_trans (by omega : _ ≤ 10000) (sz_of (by decide))
        · have hmap : (ps ++ [(x, r)]).map (·.1) = ps.map (·.1) ++ [x] := by rw [List.map_append]; rfl
          refine ⟨(52 - (ps ++ [(x, r)]).length) * 31 + (ws.dropLast ++ Ks567.next t w x).length, ?_, some (.ref qx), ps ++ [(x, r)], ws.dropLast ++ Ks567.next t w x, rfl, ?_, rfl, e8.mut nwl, (upd_ne ndw).trans d8, hnd8, fun p hp => ⟨(b8 p hp).1, ?_⟩, w8.app tr hys hzs, ?_, fun y hy z hz => ?_, fun y hy => ?_, fun y hy => ?_⟩
          · rw [List.length_append, List.length_append, List.length_singleton]
            omega
          · rw [List.length_append, List.length_append, List.length_singleton]
            omega
          · obtain ⟨qs, k1, k2, k3⟩ := (b8 p hp).2
            refine ⟨qs, (upd_ne (b8 p hp).1).trans k1, k2, fun j y hj => ?_⟩
            obtain ⟨g', k4, k5⟩ := k3 j y hj
            exact ⟨g', k4, (upd_ne (tup_ne hys k5)).trans k5⟩
          · rw [hmap]
            rcases i1 with z | z
            · exact .inl (List.mem_append.mpr (.inl z))
            · rcases hmem g0 z with y | y
              · exact .inr (List.mem_append.mpr (.inl y))
              · exact .inl (List.mem_append.mpr (.inr (List.mem_singleton.mpr y)))
          · rw [hmap] at hy ⊢
            rcases List.mem_append.mp hy with u | u
            · rcases i2 y u z hz with v | v
              · exact .inl (List.mem_append.mpr (.inl v))
              · rcases hmem z v with y2 | y2
                · exact .inr (List.mem_append.mpr (.inl y2))
                · exact .inl (List.mem_append.mpr (.inr (List.mem_singleton.mpr y2)))
            · rw [List.mem_singleton.mp u] at hz
              exact .inr (List.mem_append.mpr (.inr hz))
          · rw [hmap] at hy
            rcases List.mem_append.mp hy with u | u
            · exact i3 y u
            · rw [List.mem_singleton.mp u]
              exact hxc
          · rcases List.mem_append.mp hy with u | u
            · exact i4 y (hdrop y u)
            · exact .on hxc u
      · have hxi : x ∈ ps.map (·.1) := by
          rw [Bool.not_eq_false', decide_eq_true_eq] at c2
          exact c2
        refine ⟨(52 - ps.length) * 31 + ws.dropLast.length, by omega, some (.ref qx), ps, ws.dropLast, rfl, by omega, rfl, e4.trans e5, e5 _ _ d4, nH, fun p hp => ⟨(b4 p hp).1, (b4 p hp).2.ex e5⟩, wt4.ex e5, ?_, fun y hy z hz => ?_, i3, fun y hy => i4 y (hdrop y hy)⟩
        · rcases i1 with z | z
          · exact .inl z
          · rcases hmem g0 z with y | y
            · exact .inr y
            · exact .inl (by rw [y]; exact hxi)
        · rcases i2 y hy z hz with v | v
          · exact .inl v
          · rcases hmem z v with y2 | y2
            · exact .inr y2
            · exact .inl (by rw [y2]; exact hxi)
    · have hz : ws = [] := List.length_eq_zero_iff.mp (by have := of_decide_eq_false c; omega)
      subst hz
      refine s_ret (ev_var rfl) fun H4 e4 => q d (ps.map (·.1)) H4 ((eH.trans e3).trans e4) ⟨ps, (e3.trans e4) _ _ dH, rfl, nH, fun p hp => (bH p hp).2.ex (e3.trans e4)⟩ fun x => ⟨i3 x, fun hx => ?_⟩
      have h0m : g0 ∈ ps.map (·.1) := i1.resolve_right fun z => by cases z
      exact closed_come (l := ps.map (·.1)) (fun y hy z hz => (i2 y hy z hz).resolve_right fun u => by cases u) h0m hx
end Rg

set_option Elab.async false
set_option maxRecDepth 100000
set_option maxHeartbeats 2000000
set_option linter.unusedVariables false
/-! running.py: whether something rests, whether it may go round -/
namespace Rg
open PySem PySem.Spec PyProof.Rows L2 Evl LamX
variable {P : Program} {w : World} {K : PySem.W.Frag} {mg : Str → Option Value} {base : Heap}
theorem cw_turn2 {H H' : Hp} {f : Nat → Bool} {v : Nat → V} {Dl : Addr} {i : Nat} {σ2 : L2.St} {t : TT} {te : TE} (p : Cw H f v Dl i H') (hi : i < 50000) (ht : EvT t σ2 H' (f i)) (he : f i = true → Ev te σ2 H' (v i)) :
    t σ2 H' fun c Hc => if c = true then te σ2 Hc fun y Hy => ∃ ys, Hy Dl = some (.lst ys) ∧ ys.length < sizeLine ∧ Cw H f v Dl (i + 1) (upd Hy Dl (.lst (ys ++ [y]))) else Cw H f v Dl (i + 1) Hc := by
  obtain ⟨p1, p2, p3⟩ := p
  refine ht H' (Ex.refl H') _ fun H3 e3 => ?_
  cases hf : f i with
  | true =>
    show te σ2 H3 fun y Hy => ∃ ys, Hy Dl = some (.lst ys) ∧ ys.length < sizeLine ∧ Cw H f v Dl (i + 1) (upd Hy Dl (.lst (ys ++ [y])))
    refine he hf H3 e3 _ fun H4 e4 => ⟨given i f v, e4 Dl _ (e3 Dl _ p3), sz_lt (by have := given_len i f v; omega), p1, Ex.mut ((p2.trans e3).trans e4) p1, ?_⟩
    rw [given_yes hf]
    exact upd_same
  | false =>
    show Cw H f v Dl (i + 1) H3
    refine ⟨p1, p2.trans e3, ?_⟩
    rw [given_no hf]
    exact e3 Dl _ p3
/-- a comprehension over a dict that is held still, its keys tuples -/
theorem el_lcK {σ : L2.St} {H : Hp} {td te : TE} {t : TT} {j : Nat} {vs : List Nat} {d : Addr} {o : Obj} {kvs : List (List Key × V)} (f : Nat → Bool) (v : Nat → V) (h : Ev td σ H (.ref d)) (hd : H d = some (.frz o (.dT kvs))) (hz : kvs.length ≤ 40000) (hw : ∀ x, wipe ((wipe σ vs).set j (some x)) vs = wipe σ vs)
    (ht : ∀ (i : Nat) (k : List Key) (x : V) (q : Addr) H1, Ex H H1 → kvs[i]? = some (k, x) → H1 q = some (.tup (k.map kV)) → EvT t ((wipe σ vs).set j (some (.ref q))) H1 (f i)) (he : ∀ (i : Nat) (k : List Key) (x : V) (q : Addr) H1, Ex H H1 → kvs[i]? = some (k, x) → H1 q = some (.tup (k.map kV)) → f i = true → Ev te ((wipe σ vs).set j (some (.ref q))) H1 (v i)) :
    EvL (tLc (iKeys td) (gName j) t te vs) σ H (given kvs.length f v) := fun H0 e Q q => h H0 e _ fun H1 e1 => ⟨d, o, rfl, .inr ⟨kvs, (e.trans e1) _ _ hd, fun Dl hD =>
  lc_it walk_keysT (Cw H1 f v Dl) ⟨hD, Ex.new hD, upd_same⟩ (fun i H' _ p => ((e.trans e1).trans p.2.1) _ _ hd) (fun i x H' H'' hi p hY => by
    obtain ⟨rfl, k, y, qq, g1, rfl, g2⟩ := hY
    have eH := (e.trans e1).trans p.2.1
    exact ⟨hw _, cw_turn2 p (by omega) (ht i k y qq H'' eH g1 g2) fun hf => he i k y qq H'' eH g1 g2 hf⟩) (fun H' p => q Dl H' (fresh_back e1 p.1) (e1.trans p.2.1) p.2.2)⟩⟩
/-- .. locked for the while -/
theorem el_lock {σ : L2.St} {H : Hp} {t : TE} {d : Addr} {u : HO} {xs : List V} (hd : H d = some u) (mu : Mut (some u)) (h : ∀ od H1, Ex H H1 → EvL t σ (upd H1 d (.frz od u)) xs) : EvL (tLockE t) σ H xs := fun H1 e Q q => ⟨d, u, e _ _ hd, mu, fun od => h od H1 e _ (Ex.refl _) _ fun p H2 hp e2 h2 => by
  have npd : p ≠ d := fun z => by
    rw [z, upd_same] at hp
    cases hp
  refine ⟨e2 _ _ upd_same, q p _ (by rw [upd_ne npd] at hp; exact hp) (fun b o hb => ?_) ((upd_ne npd).trans h2)⟩
  by_cases c : b = d
  · rw [c] at hb ⊢
    rw [e _ _ hd] at hb
    cases hb
    exact upd_same
  · rw [upd_ne c]
    exact e2 _ _ (by rw [upd_ne c]; exact hb)⟩
theorem ev_dgetF {σ : L2.St} {H : Hp} {td ty : TE} {d b : Addr} {o : Obj} {kvs : List (List Key × V)} {k : List Key} {v : V} (hd : Ev td σ H (.ref d)) (hy : Ev ty σ H (.ref b)) (h : H d = some (.frz o (.dT kvs))) (hb : H b = some (.tup (k.map kV))) (hv : valV kvs k = some v) : Ev (tDGet td ty) σ H v := fun H1 e Q q =>
  hd H1 e _ fun H2 e2 => hy H2 (e.trans e2) _ fun H3 e3 => ⟨d, v, rfl, .inr ⟨kvs, k, b, .inr ⟨o, ((e.trans e2).trans e3) _ _ h⟩, rfl, ((e.trans e2).trans e3) _ _ hb, hv.symm⟩, q H3 (e2.trans e3)⟩
theorem rc_any {K : PySem.W.Frag} {H : Hp} {p : Addr} {bs : List Bool} (h : H p = some (.lst (bs.map V.bl))) : RC (rAny K) [.ref p] H (.bl (bs.any id)) := fun H1 e Q q => ⟨p, bs, rfl, sq_of (e _ _ h), q H1 (Ex.refl H1)⟩
theorem behK_get {ps : List (List Nat × Addr)} {i : Nat} {k : List Key} {x : V} (h : (behK ps)[i]? = some (k, x)) : ∃ p, ps[i]? = some p ∧ k = gk p.1 ∧ x = .ref p.2 := by
  unfold behK at h
  rw [List.getElem?_map] at h
  cases e : ps[i]? with
  | none => rw [e] at h; cases h
  | some p =>
    rw [e] at h
    cases h
    exact ⟨p, rfl, rfl, rfl⟩
/-! rests_somewhere -/
abbrev s_rests_somewhere : Stmt := top 75
abbrev N_rests_somewhere : List Str := ["behind", "groups"]
abbrev P_rests_somewhere : List Str := ["behind"]
theorem sc_rests_somewhere : FnScope N_rests_somewhere P_rests_somewhere (C8.fnScope s_rests_somewhere) := C8.fnScope_by (by decide +kernel)
def sp_rests_somewhere : Sp := fun vs H Q _ => ∃ (d : Addr) (t : Ks565.Folk) (w : Nat) (l : List (List Nat)), vs = [.ref d] ∧ BehAt H d t w l ∧ l.length ≤ 1000 ∧ RetV H Q (.bl (l.any (Ks565.rests t w)))
theorem rests_len (t : Ks565.Folk) (w : Nat) (g : List Nat) : decide (V.int (((Ks567.next t w g).length : Nat) : Int) = V.int 0) = Ks565.rests t w g := by
  unfold Ks567.next Ks565.rests
  rw [List.length_map]
  cases Ks565.moves t w g with
  | nil => rfl
  | cons p l => rfl
theorem cal_rests_somewhere {f : Addr} {fd : FuncData} (F : C8.Def K mg "rests_somewhere" s_rests_somewhere f fd) (b : Binds K fd P_rests_somewhere []) (B : Blt mg) : C8.Cal P w K mg base 1 "rests_somewhere" sp_rests_somewhere [] := by
  have sc := sc_rests_somewhere; have b_any := B.any; have b_len := B.len
  refine C8.cal0 F b .nil sc (fun vs H Q E h => ?_) (fun cdv A outer s H vs Q E hr h => ?_)
  · obtain ⟨_, _, _, _, rfl, _⟩ := h
    rfl
  · refine ⟨_, (pss_one (ps_ret (pe_callB (cAny K rfl rfl) (by rfl) b_any (by decide +kernel) (pa_cons (pe_lock (pe_lc (own := [("groups", 1)]) rfl sc.nd (pi_keys (pv 0)) (blkOk_by (own := [("groups", 1)]) (N := N_rests_somewhere) (sc := C8.fnScope s_rests_somewhere) (by decide +kernel)) (fun _ _ _ _ _ => (pg_name (i := 1) sc.nd rfl (Or.inl rfl))) (fun _ _ _ _ _ => pts_nil) (fun _ _ _ _ _ => (pe_cmpR op_eq (pe_callB (cLen K rfl) (by rfl) b_len (by decide +kernel) (pa_cons (pe_dget (hu_of hr) (pv 0) (pv 1) (fun _ _ => rfl)) pa_nil)) pe_int (nomark _))))) pa_nil)))), ?_⟩
    obtain ⟨d, t, w, l, rfl, ⟨ps, hd, hl, hn, hb⟩, hz, q⟩ := h
    have hpl : ps.length = l.length := by rw [← hl, List.length_map]
    refine s_ret (ev_cbL (xs := (l.map (Ks565.rests t w)).map V.bl) (el_lock hd True.intro fun od H1 e1 => ?_) fun p H1 h1 e1 => ?_) q
    · have dH : upd H1 d (.frz od (.dT (behK ps))) d = some (.frz od (.dT (behK ps))) := upd_same
      have z := el_lcK (σ := L2.start N_rests_somewhere [.ref d]) (td := tVar 0) (te := tOp rEq (tCB (rLenS K) (tCons (tDGet (tVar 0) (tVar 1)) tNil)) (tC (.int 0))) (t := tYes) (j := 1) (vs := [1]) (kvs := behK ps) (fun _ => true) (fun i => V.bl (Ks565.rests t w (l.getD i []))) (ev_var rfl) dH (by rw [behK_len]; omega) (fun x => rfl) (fun i k x qq H2 e2 hi hq => et_yes) fun i k x qq H2 e2 hi hq _ => ?_
      · rw [given_all, behK_len, hpl] at z
        have em : (List.range l.length).map (fun i => V.bl (Ks565.rests t w (l.getD i []))) = (l.map (Ks565.rests t w)).map V.bl := by
          rw [List.map_map]
          apply List.ext_getElem?
          intro j
          rw [List.getElem?_map, List.getElem?_map]
          by_cases hj : j < l.length
          · rw [List.getElem?_range hj, List.getElem?_eq_getElem hj]
            simp [List.getD_eq_getElem?_getD, List.getElem?_eq_getElem hj]
          · rw [List.getElem?_eq_none (by rw [List.length_range]; omega), List.getElem?_eq_none (by omega)]
            rfl
        rw [em] at z
        exact z
      · obtain ⟨p, hp, rfl, rfl⟩ := behK_get hi
        have hpm := List.mem_of_getElem? hp
        have hgi : l.getD i [] = p.1 := by
          rw [List.getD_eq_getElem?_getD, ← hl, List.getElem?_map, hp]
          rfl
        have tH : TupsAt H2 p.2 (Ks567.next t w p.1) := by
          have z := (hb p hpm).ex e1
          obtain ⟨qs, k1, k2, k3⟩ := z
          have nd : ∀ {b : Addr} {u : HO}, H1 b = some u → u ≠ .dT (behK ps) → H2 b = some u := fun {b u} hb hne => e2 _ _ (by
            rw [upd_ne fun z => by
              rw [z, e1 _ _ hd] at hb
              cases hb
              exact hne rfl]
            exact hb)
          refine ⟨qs, nd k1 (fun z => by cases z), k2, fun j y hj => ?_⟩
          obtain ⟨g', k4, k5⟩ := k3 j y hj
          exact ⟨g', k4, nd k5 fun z => by cases z⟩
        obtain ⟨xs, hxs, hxl⟩ := tH.lst
        rw [hgi, ← rests_len, ← hxl]
        exact ev_op (ev_len (ev_dgetF (ev_var rfl) (ev_var rfl) (e2 _ _ dH) hq (behK_at (by rw [hl]; exact hn) hpm)) (sq_of hxs)) ev_c (rv_eq rfl)
    · have z := rc_any (K := K) h1
      rw [List.any_map] at z
      exact z
theorem rests_somewhere_V {H : Hp} {d : Addr} {t : Ks565.Folk} {w : Nat} {l : List (List Nat)} (hb : ∀ H1, Ex H H1 → BehAt H1 d t w l) (hz : l.length ≤ 1000) : SpV sp_rests_somewhere [.ref d] H (.bl (l.any (Ks565.rests t w))) := fun H1 e Q q _ => ⟨d, t, w, l, rfl, hb H1 e, hz, fun H2 e2 => q H2 e2⟩
theorem BehAt.ex {H H' : Hp} {d : Addr} {t : Ks565.Folk} {w : Nat} {l : List (List Nat)} (x : BehAt H d t w l) (e : Ex H H') : BehAt H' d t w l := by
  obtain ⟨ps, h1, h2, h3, h4⟩ := x
  exact ⟨ps, e _ _ h1, h2, h3, fun p hp => (h4 p hp).ex e⟩
/-! goes_round -/
/-- a comprehension over tuples -/
theorem el_tups {σ : L2.St} {H : Hp} {tl te : TE} {j : Nat} {vs : List Nat} {a : Addr} {l : List (List Nat)} (f : List Nat → V) (h : Ev tl σ H (.ref a)) (ht : TupsAt H a l) (hz : l.length ≤ 1000) (hw : ∀ x, wipe ((wipe σ vs).set j (some x)) vs = wipe σ vs)
    (he : ∀ (g : List Nat) (q : Addr) H1, Ex H H1 → H q = some (.tup (nv g)) → g ∈ l → Ev te ((wipe σ vs).set j (some (.ref q))) H1 (f g)) : EvL (tLc (iList K tl) (gName j) tYes te vs) σ H (l.map f) := by
  obtain ⟨ps, h1, h2, h3⟩ := ht
  have q := el_lcL (K := K) (te := te) (t := tYes) (j := j) (vs := vs) (fun _ => true) (fun m => f (l.getD m [])) h (sq_of h1) (by rw [List.length_map]; omega) hw (fun m x H1 e hx => et_yes) (fun m x H1 e hx _ => by
    obtain ⟨r, hr, rfl⟩ := ref_at hx
    obtain ⟨g, k1, k2⟩ := h3 m r hr
    rw [show l.getD m [] = g by rw [List.getD_eq_getElem?_getD, k1]; rfl]
    exact he g r H1 e k2 (List.mem_of_getElem? k1))
  rw [given_all, List.length_map, h2] at q
  have em : (List.range l.length).map (fun m => f (l.getD m [])) = l.map f := by
    apply List.ext_getElem?
    intro j
    rw [List.getElem?_map, List.getElem?_map]
    by_cases hj : j < l.length
    · rw [List.getElem?_range hj, List.getElem?_eq_getElem hj]
      simp [List.getD_eq_getElem?_getD, List.getElem?_eq_getElem hj]
    · rw [List.getElem?_eq_none (by rw [List.length_range]; omega), List.getElem?_eq_none (by omega)]
      rfl
  rw [em] at q
  exact q
/-- what ends, as far as it is known -/
structure EndW (t : Ks565.Folk) (w : Nat) (l el : List (List Nat)) : Prop where
  nd : el.Nodup
  sub : ∀ x ∈ el, x ∈ l
  ends : EndsIn t w el
theorem EndW.le {t : Ks565.Folk} {w : Nat} {l el : List (List Nat)} (e : EndW t w l el) : el.length ≤ l.length := nodup_le el l e.nd e.sub
theorem rc_lenT {H : Hp} {d : Addr} {kvs : List (List Key × V)} (h : H d = some (.dT kvs)) : RC rLenT [.ref d] H (.int ((kvs.length : Nat) : Int)) := fun H1 e Q q => ⟨d, kvs, rfl, e _ _ h, q H1 (Ex.refl H1)⟩
abbrev s_goes_round : Stmt := top 76
abbrev N_goes_round : List Str := ["behind", "ended", "known", "groups", "later"]
abbrev P_goes_round : List Str := ["behind"]
theorem sc_goes_round : FnScope N_goes_round P_goes_round (C8.fnScope s_goes_round) := C8.fnScope_by (by decide +kernel)
def sp_goes_round : Sp := fun vs H Q _ => ∃ (d : Addr) (t : Ks565.Folk) (w n : Nat) (g : List Nat) (l : List (List Nat)), vs = [.ref d] ∧ BehAt H d t w l ∧ n ≤ 5 ∧ g ∈ Ks565.all n ∧ 0 < t.n ∧ t.n ≤ 5 ∧ t.n = n ∧ (∀ x, x ∈ l ↔ Come t w g x) ∧ RetV H Q (.bl (Ks567.round t w g))
theorem cal_goes_round {f : Addr} {fd : FuncData} (F : C8.Def K mg "goes_round" s_goes_round f fd) (b : Binds K fd P_goes_round []) (B : Blt mg) : C8.Cal P w K mg base 1 "goes_round" sp_goes_round [] := by
  have sc := sc_goes_round; have b_len := B.len; have b_all := B.all
  refine C8.cal0 F b .nil sc (fun vs H Q E h => ?_) (fun cdv A outer s H vs Q E hr h => ?_)
  · obtain ⟨_, _, _, _, _, _, rfl, _⟩ := h
    rfl
  · refine ⟨_, (pss_cons (ps_set (i := 1) sc.nd rfl (.inr rfl) pe_dnewT)
      (pss_cons (ps_set (i := 2) sc.nd rfl (.inl rfl) (pe_un un_neg pe_int))
      (pss_cons (ps_while PassesOwn.never (pt_cmpR op_lt (pv 2) (pe_callB call_len_dT (by rfl) b_len (by decide +kernel) (pa_cons (pv 1) pa_nil)) (nomark _)) (pss_cons (ps_set (i := 2) sc.nd rfl (.inl rfl) (pe_callB call_len_dT (by rfl) b_len (by decide +kernel) (pa_cons (pv 1) pa_nil)))
      (pss_one (ps_lock (ps_for PassesOwn.never rfl (pi_keys (pv 0)) (pg_name (i := 3) sc.nd rfl (.inl rfl)) (pss_one (ps_if (pt_val (pe_callB (cAll K rfl rfl) (by rfl) b_all (by decide +kernel) (pa_cons (pe_lc (own := [("later", 4)]) rfl sc.nd (piL K rfl (pe_dget (hu_of hr) (pv 0) (pv 3) (fun _ _ => rfl))) (blkOk_by (own := [("later", 4)]) (N := N_goes_round) (sc := C8.fnScope s_goes_round) (by decide +kernel)) (fun _ _ _ _ _ => (pg_name (i := 4) sc.nd rfl (Or.inl rfl))) (fun _ _ _ _ _ => pts_nil) (fun _ _ _ _ _ => (pe_cmp (pc_din (hu_of hr) (pv 4) (pv 1))))) pa_nil))) (pss_one (ps_dput (hu_of hr) (pv 1) (pv 3) pe_bl rfl)) pss_nil)))))))
      (pss_one (ps_ret (pe_cmpR op_lt (pv 2) (pe_callB call_len_dT (by rfl) b_len (by decide +kernel) (pa_cons (pv 0) pa_nil)) (nomark _))))))), ?_⟩
    obtain ⟨d, t, w, n, g, l, rfl, ⟨ps, hd, hl, hn, hb⟩, hn5, hga, h0, h5, htn, hcome, q⟩ := h
    have hpl : ps.length = l.length := by rw [← hl, List.length_map]
    have hll : l.length ≤ 52 := ways_few hn5 hn fun x hx => come_all hga ((hcome x).mp hx)
    intro e he
    refine q_asg ev_c fun H1 e1 => ?_
    refine q_asg (ev_un ev_c ru_neg) fun H2 e2 => ?_
    have x02 : Ex H H2 := ((Ex.new he).trans e1).trans e2
    have d2 : H2 e = some (.dT (metK [])) := (e1.trans e2) _ _ upd_same
    refine q_while (fun m σ' H' => ∃ (kn : Int) (v3 : Option V) (el : List (List Nat)), m = l.length + 1 - (kn + 1).toNat ∧ -1 ≤ kn ∧ kn ≤ el.length ∧ σ' = [some (.ref d), some (.ref e), some (.int kn), v3, none] ∧ Ex H H' ∧ H' e = some (.dT (metK el)) ∧ EndW t w l el ∧ (kn = el.length → ∀ x ∈ l, (∀ y ∈ Ks567.next t w x, y ∈ el) → x ∈ el)) (l.length + 1)
      ⟨-1, none, [], by simp, by omega, by show (-1 : Int) ≤ 0; omega, rfl, x02, d2, ⟨List.nodup_nil, (fun x hx => by cases hx), (fun a b x hab => by simp at hab)⟩, fun z => by simp at z⟩ ?_
    rintro m _ H' ⟨kn, v3, el, hm, hk1, hk2, rfl, eH, dH, ew, hfix⟩
    have hle := ew.le
    refine ⟨decide (kn < ((metK el).length : Int)), et_test (ev_op (ev_var rfl) (ev_cb (ea_cons (ev_var rfl) ea_nil) (rc_lenT dH)) rv_I0), fun c H3 e3 => ?_, fun c H3 e3 => ?_⟩
    · have hlt : kn < (el.length : Int) := by have := of_decide_eq_true c; rw [metK_len] at this; exact this
      refine ⟨fun σ2 H2 => ∃ (v3 : Option V) (el' : List (List Nat)), σ2 = [some (.ref d), some (.ref e), some (.int ((el.length : Nat) : Int)), v3, none] ∧ Ex H H2 ∧ H2 e = some (.dT (metK el')) ∧ EndW t w l el' ∧ (∃ more, el' = el ++ more) ∧ ∀ x ∈ l, (∀ y ∈ Ks567.next t w x, y ∈ el) → x ∈ el', ?_, ?_⟩
      · rintro σ2 H2 ⟨v3', el', h1, h2, h3, h4, ⟨more, hmore⟩, h6⟩
        have hl' : el'.length = el.length + more.length := by rw [hmore, List.length_append]
        refine ⟨l.length + 1 - (((el.length : Nat) : Int) + 1).toNat, by omega, _, v3', el', rfl, by omega, by omega, h1, h2, h3, h4, fun z => ?_⟩
        have hm0 : more = [] := List.length_eq_zero_iff.mp (by omega)
        rw [hm0, List.append_nil] at hmore
        rw [hmore] at h6 ⊢
        exact h6
      · refine q_asg (ev_cb (ea_cons (ev_var rfl) ea_nil) (rc_lenT (e3 _ _ dH))) fun H4 e4 => ?_
        rw [metK_len]
        have eH4 := (eH.trans e3).trans e4
        have dH4 := (e3.trans e4) _ _ dH
        -- the pass over behind, which is locked
        have hd4 := eH4 _ _ hd
        have nde : d ≠ e := fun z => by rw [z, he] at hd; cases hd
        refine ⟨d, _, hd4, True.intro, fun od => ?_⟩
        have df : upd H4 d (.frz od (.dT (behK ps))) d = some (.frz od (.dT (behK ps))) := upd_same
        have ef : upd H4 d (.frz od (.dT (behK ps))) e = some (.dT (metK el)) := (upd_ne nde.symm).trans dH4
        have keep : ∀ b o, H b = some o → b ≠ d → upd H4 d (.frz od (.dT (behK ps))) b = some o := fun b o hb nb => (upd_ne nb).trans (eH4 _ _ hb)
        refine ⟨_, rfl, d, od, rfl, .inr ⟨behK ps, df, ?_⟩⟩
        refine for_it walk_keysT (fun i σ' H' => ∃ (v3 : Option V) (el' : List (List Nat)), σ' = [some (.ref d), some (.ref e), some (.int ((el.length : Nat) : Int)), v3, none] ∧ H' d = some (.frz od (.dT (behK ps))) ∧ (∀ b o, H b = some o → b ≠ d → H' b = some o) ∧ H' e = some (.dT (metK el')) ∧ EndW t w l el' ∧ (∃ more, el' = el ++ more) ∧ ∀ x ∈ l.take i, (∀ y ∈ Ks567.next t w x, y ∈ el) → x ∈ el')
          ⟨_, el, rfl, df, keep, ef, ew, ⟨[], by rw [List.append_nil]⟩, fun x hx => by rw [List.take_zero] at hx; cases hx⟩ (fun i σ' H' _ ⟨_, _, _, h, _⟩ => h) ?_ ?_
        · rintro i _ _ H5 H6 hi ⟨v3', el', rfl, d5, k5, e5, ew5, ⟨more, hmore⟩, u5⟩ ⟨rfl, k, y, qq, g1, rfl, g2⟩
          obtain ⟨p, hp, rfl, rfl⟩ := behK_get g1
          have hpm := List.mem_of_getElem? hp
          have hgi : l[i]? = some p.1 := by rw [← hl, List.getElem?_map, hp]; rfl
          have hgl : p.1 ∈ l := List.mem_of_getElem? hgi
          have nk : ∀ {b : Addr} {u : HO}, H b = some u → u ≠ .dT (behK ps) → H6 b = some u := fun {b u} hb hne => k5 _ _ hb fun z => by
            rw [z, hd] at hb
            cases hb
            exact hne rfl
          have tH : TupsAt H6 p.2 (Ks567.next t w p.1) := by
            obtain ⟨qs, c1, c2, c3⟩ := hb p hpm
            refine ⟨qs, nk c1 (fun z => by cases z), c2, fun j y hj => ?_⟩
            obtain ⟨g', c4, c5⟩ := c3 j y hj
            exact ⟨g', c4, nk c5 fun z => by cases z⟩
          have hpa := come_all hga ((hcome p.1).mp hgl)
          have hnl : (Ks567.next t w p.1).length ≤ 30 := next_len h5 h0 (by rw [← htn] at hpa; exact all_few hpa)
          have tall : EvT (tB (tCB (rAll K) (tCons (tLc (iList K (tDGet (tVar 0) (tVar 3))) (gName 4) tYes (tDIn (tVar 4) (tVar 1)) [4]) tNil))) [some (.ref d), some (.ref e), some (.int ((el.length : Nat) : Int)), some (.ref qq), none] H6 (((Ks567.next t w p.1).map fun y => decide (y ∈ el')).all id) := by
            refine et_B (ev_cbL (el_tups (fun y => V.bl (decide (y ∈ el'))) (ev_dgetF (ev_var rfl) (ev_var rfl) d5 g2 (behK_at (by rw [hl]; exact hn) hpm)) tH (by omega) (fun x => rfl) fun y r H7 e7 hr hy => ?_) fun pl H7 h7 e7 => rc_all (by rw [h7, List.map_map]; rfl))
            refine fun H8 e8 Q' q' => ⟨_, rfl, _, rfl, e, _, rfl, DGet.t (k := gk y) (e8 _ _ (e7 _ _ e5)) (by rw [gk_nv]; exact e8 _ _ (e7 _ _ hr)), ?_⟩
            have z : (valV (metK el') (gk y)).isSome = decide (y ∈ el') := by
              rw [metK_val]
              by_cases cy : y ∈ el'
              · rw [if_pos cy, decide_eq_true cy]
                rfl
              · rw [if_neg cy, decide_eq_false cy]
                rfl
            rw [z]
            exact q' H8 (Ex.refl H8)
          rw [all_map] at tall
          have hall : ((Ks567.next t w p.1).all fun y => decide (y ∈ el')) = true ↔ ∀ y ∈ Ks567.next t w p.1, y ∈ el' := by
            rw [List.all_eq_true]
            exact ⟨fun h y hy => of_decide_eq_true (h y hy), fun h y hy => decide_eq_true (h y hy)⟩
          have htk : l.take (i + 1) = l.take i ++ [p.1] := by rw [List.take_add_one, hgi]; rfl
          have hsub : ∀ y ∈ el, y ∈ el' := fun y hy => by rw [hmore]; exact List.mem_append.mpr (.inl hy)
          refine s_when tall (fun c2 H7 e7 => ?_) (fun c2 H7 e7 => ?_)
          · have hsucc := hall.mp c2
            refine ⟨_, rfl, _, rfl, e, _, rfl, DPut.t (k := gk p.1) (e7 _ _ e5) (e7 _ _ g2) (by rw [metK_len]; exact small1000 (by have := ew5.le; omega)), ?_⟩
            have kd : ∀ o : HO, upd H7 e o d = some (.frz od (.dT (behK ps))) := fun o => (upd_ne nde).trans (e7 _ _ d5)
            have kk : ∀ o : HO, ∀ b u, H b = some u → b ≠ d → upd H7 e o b = some u := fun o b u hb nb => by
              rw [upd_ne (ne_of_none hb he)]
              exact e7 _ _ (k5 b u hb nb)
            by_cases cin : p.1 ∈ el'
            · rw [metK_old cin]
              refine ⟨_, el', rfl, kd _, kk _, upd_same, ew5, ⟨more, hmore⟩, fun x hx hxx => ?_⟩
              rw [htk] at hx
              rcases List.mem_append.mp hx with z | z
              · exact u5 x z hxx
              · rw [List.mem_singleton.mp z]
                exact cin
            · rw [metK_new cin]
              refine ⟨_, el' ++ [p.1], rfl, kd _, kk _, upd_same, ⟨?_, fun x hx => ?_, ew5.ends.snoc hsucc⟩, ⟨more ++ [p.1], by rw [hmore, List.append_assoc]⟩, fun x hx hxx => ?_⟩
              · exact List.nodup_append.mpr ⟨ew5.nd, List.nodup_cons.mpr ⟨(fun z => (by cases z)), List.nodup_nil⟩, fun y hy z hz e => cin (by rw [← List.mem_singleton.mp hz, ← e]; exact hy)⟩
              · rcases List.mem_append.mp hx with z | z
                · exact ew5.sub x z
                · rw [List.mem_singleton.mp z]
                  exact hgl
              · rw [htk] at hx
                rcases List.mem_append.mp hx with z | z
                · exact List.mem_append.mpr (.inl (u5 x z hxx))
                · rw [List.mem_singleton.mp z]
                  exact List.mem_append.mpr (.inr (List.mem_singleton.mpr rfl))
          · refine ⟨_, el', rfl, e7 _ _ d5, fun b o hb nb => e7 _ _ (k5 b o hb nb), e7 _ _ e5, ew5, ⟨more, hmore⟩, fun x hx hxx => ?_⟩
            rw [htk] at hx
            rcases List.mem_append.mp hx with z | z
            · exact u5 x z hxx
            · rw [List.mem_singleton.mp z] at hxx
              rw [hall.mpr fun y hy => hsub y (hxx y hy)] at c2
              cases c2
        · rintro _ H5 ⟨v3', el', rfl, d5, k5, e5, ew5, hmore, u5⟩
          rw [behK_len, hpl, List.take_length] at u5
          refine ⟨d5, _, el', rfl, fun b o hb => ?_, (upd_ne nde.symm).trans e5, ew5, hmore, u5⟩
          by_cases cb : b = d
          · rw [cb] at hb ⊢
            rw [hd] at hb
            cases hb
            exact upd_same
          · rw [upd_ne cb]
            exact k5 b o hb cb
    · have hkn : kn = el.length := by have := of_decide_eq_false c; rw [metK_len] at this; omega
      have hf := hfix hkn
      have hre := round_ends hn5 hga hcome ew.ends ew.nd ew.sub hf
      have hd3 := (eH.trans e3) _ _ hd
      have hdec : decide (kn < ((behK ps).length : Int)) = Ks567.round t w g := by
        rw [Bool.eq_iff_iff, decide_eq_true_eq, hre, behK_len, hpl]
        constructor
        · intro hlt
          apply Classical.byContradiction
          intro hc
          have hall : ∀ x ∈ l, x ∈ el := fun x hx => by
            apply Classical.byContradiction
            intro hxe
            exact hc ⟨x, hx, hxe⟩
          have := nodup_le l el hn hall
          omega
        · rintro ⟨x, hx, hxe⟩
          have := nodup_le (x :: el) l (List.nodup_cons.mpr ⟨hxe, ew.nd⟩) fun y hy => (List.mem_cons.mp hy).elim (fun z => by rw [z]; exact hx) (ew.sub y)
          rw [List.length_cons] at this
          omega
      refine s_ret (ev_op (ev_var rfl) (ev_cb (ea_cons (ev_var rfl) ea_nil) (rc_lenT hd3)) rv_I0) fun H4 e4 => ?_
      rw [hdec]
      exact q H4 ((eH.trans e3).trans e4)
end Rg

set_option Elab.async false
set_option maxRecDepth 100000
set_option maxHeartbeats 2000000
set_option linter.unusedVariables false
/-! what an answer promises; asking.py's helps and the answers that ask, first part -/
namespace Rg
open PySem PySem.Spec PyProof.Rows L2 Evl LamX
variable {P : Program} {w : World} {K : PySem.W.Frag} {mg : Str → Option Value} {base : Heap}
/-! what stands behind a call on the object at a -/
structure After (T : List (Addr × Str)) (a : Addr) (H H' : Hp) : Prop where
  but : ∀ b o, H b = some o → b ≠ a → (∀ ps, o ≠ .tbl ps) → H' b = some o
  tab : Tabs T H'
theorem After.ex {T : List (Addr × Str)} {a : Addr} {H H' : Hp} (t : Tabs T H) (e : Ex H H') : After T a H H' := ⟨fun b o h _ _ => e b o h, t.ext e⟩
theorem After.gr {T : List (Addr × Str)} {a : Addr} {H H' : Hp} (t : Tabs T H') (e : ExtN H H') : After T a H H' := ⟨fun b o h _ n => e b o h n, t⟩
theorem After.trans {T : List (Addr × Str)} {a : Addr} {H H1 H2 : Hp} (x : After T a H H1) (y : After T a H1 H2) : After T a H H2 := ⟨fun b o h n1 n2 => y.but b o (x.but b o h n1 n2) n1 n2, y.tab⟩
theorem After.put {T : List (Addr × Str)} {a C dx : Addr} {fs : List (Str × V)} {H H' : Hp} (t : Tabs T H) (ha : H a = some (.ins C dx fs)) (x : But a H H') : After T a H H' := by
  refine ⟨fun b o h n _ => x b o h n, fun p hp => ?_⟩
  obtain ⟨ps, h1, h2, h3⟩ := t p hp
  refine ⟨ps, x _ _ h1 fun z => ?_, h2, fun pos cv hc => ?_⟩
  · rw [z, ha] at h1
    cases h1
  · obtain ⟨c, e1, e2⟩ := h3 pos cv hc
    refine ⟨c, e1, x _ _ e2 fun z => ?_⟩
    rw [z, ha] at e2
    unfold CodeO at e2
    cases e2
/-- what an answer gives back: the specification's state and numbers -/
def Ret (C : Addr) (T : List (Addr × Str)) (a : Addr) (H : Hp) (Q : VK) (r : Ks570.State × Ks570.Ans) : Prop :=
  ∀ p H', After T a H H' → KeptAt C H' a r.1 → H' p = some (.lst ((r.2.ret :: r.2.out).map V.int)) → Q (.ref p) H'
def spC (Z : Zc) (T : List (Addr × Str)) (call : List Int → Ks570.Call → Prop) : Sp := fun vs H Q _ => ∃ (a b : Addr) (s : Ks570.State) (told : List Int) (c : Ks570.Call), vs = [.ref a, .ref b] ∧ KeptAt Z.kept H a s ∧ Ok s ∧ Tabs T H ∧ H b = some (.lst (told.map V.int)) ∧ call told c ∧ Ret Z.kept T a H Q (Ks570.does1 s c)
theorem spC_len {Z : Zc} {T : List (Addr × Str)} {call : List Int → Ks570.Call → Prop} {ps : List Str} (h2 : ps.length = 2) : ∀ (vs : List V) (H : Hp) (Q : VK) (E : XK), spC Z T call vs H Q E → vs.length = ps.length := fun vs H Q E h => by
  obtain ⟨_, _, _, _, _, rfl, _⟩ := h
  exact h2.symm
/-- asking, and a refusal: nothing is changed -/
theorem Ret.ask {C : Addr} {T : List (Addr × Str)} {a : Addr} {H H1 : Hp} {Q : VK} {s : Ks570.State} {ans : Ks570.Ans} (r : Ret C T a H Q (s, ans)) (hk : KeptAt C H a s) (t : Tabs T H) (e : Ex H H1) {l : List V} (hl : l = (ans.ret :: ans.out).map V.int) :
    ∀ p H2, H1 p = none → Ex H1 H2 → H2 p = some (.lst l) → Q (.ref p) H2 := fun p H2 hp e2 h2 => r p H2 (.ex t (e.trans e2)) (hk.ex (e.trans e2)) (by rw [h2, hl])
theorem Ret.askA {C : Addr} {T : List (Addr × Str)} {a : Addr} {H H1 : Hp} {Q : VK} {s : Ks570.State} {ans : Ks570.Ans} (q : Ret C T a H Q (s, ans)) (hk : KeptAt C H a s) (e : ExtN H H1) (t1 : Tabs T H1) {l : List V} (hl : l = (ans.ret :: ans.out).map V.int) :
    ∀ p H3, H1 p = none → Ex H1 H3 → H3 p = some (.lst l) → Q (.ref p) H3 := fun p H3 hp e3 h3 => q p H3 (.gr (t1.ext e3) (e.trans (ExtN.of e3))) ((hk.gr e).ex e3) (by rw [h3, hl])
theorem ev_nth {K : PySem.W.Frag} {σ : L2.St} {H : Hp} {ta : TE} {b : Addr} {told : List Int} {x : Int} (j : Nat) (h : Ev ta σ H (.ref b)) (hb : H b = some (.lst (told.map V.int))) (hx : told[j]? = some x) : Ev (tOp (rIxL K) ta (tC (.int (j : Int)))) σ H (.int x) :=
  ev_op h ev_c (rv_ixL (sq_of hb) (atI_nat (iv_at hx)))
theorem el_catL {σ : L2.St} {H : Hp} {ta tb : TE} {b : Addr} {xs ys : List V} (ha : EvL ta σ H xs) (hb : Ev tb σ H (.ref b)) (hy : H b = some (.lst ys)) (hz : xs.length + ys.length ≤ 100000) : EvL (tOp rCat ta tb) σ H (xs ++ ys) := fun H1 e Q q =>
  ha H1 e _ fun p H2 hp e2 h2 => hb H2 (e.trans e2) _ fun H3 e3 => ⟨p, b, xs, ys, rfl, rfl, e3 _ _ h2, ((e.trans e2).trans e3) _ _ hy, sz_of hz, fun p4 hp4 => q p4 _ (fresh_back (e2.trans e3) hp4) ((e2.trans e3).trans (Ex.new hp4)) upd_same⟩
/-- a def's call whose first argument is told by a word -/
theorem q_asgCallP {σ : L2.St} {H : Hp} {D : Ends} {sp : Sp} {E : XK} {te : TE} {ta : TA} {vs : List V} {i : Nat} {tz : TS} {R : V → Hp → Prop} (hR : ∀ v H H', Ex H H' → R v H → R v H') (h : EvP te σ H R) (ha : EvA ta σ H vs) (k : ∀ x H1, Ex H H1 → R x H1 → sp ((x :: vs) ++ []) H1 (fun v H2 => tz D (σ.set i (some v)) H2) E) : tSeq (tAsg (tCall sp [] E (tCons te ta)) (gName i)) tz D σ H :=
  h H (Ex.refl H) _ fun x H1 e1 r1 => ha H1 e1 _ fun H2 e2 => k x H2 (e1.trans e2) (hR x H1 H2 e2 r1)
theorem std_mono {Z : Zc} {tp : Bool} {t : Ks565.Folk} {g : List Nat} : ∀ v H H', Ex H H' → IsStd Z tp t g v H → IsStd Z tp t g v H' := fun v H H' e ⟨p, h1, h2⟩ => ⟨p, h1, h2.ex e⟩
theorem sts_mono {Z : Zc} {t : Ks565.Folk} {l : List (List Nat)} : ∀ v H H', Ex H H' → IsSts Z t l v H → IsSts Z t l v H' := fun v H H' e ⟨p, h1, h2⟩ => ⟨p, h1, h2.ex e⟩
/-! as_number, counted, counted_pairs, told_groups, told_if_any -/
abbrev s_as_number : Stmt := top 78
abbrev N_as_number : List Str := ["is_so"]
abbrev P_as_number : List Str := ["is_so"]
theorem sc_as_number : FnScope N_as_number P_as_number (C8.fnScope s_as_number) := C8.fnScope_by (by decide +kernel)
def numB (c : Bool) : Int := if c then 1 else 0
def sp_as_number : Sp := fun vs H Q _ => ∃ (c : Bool), vs = [.bl c] ∧ RetV H Q (.int (numB c))
theorem cal_as_number {f : Addr} {fd : FuncData} (F : C8.Def K mg "as_number" s_as_number f fd) (b : Binds K fd P_as_number []) : C8.Cal P w K mg base 1 "as_number" sp_as_number [] := by
  have sc := sc_as_number
  refine C8.cal0 F b .nil sc (fun vs H Q E h => ?_) (fun cdv A outer s H vs Q E hr h => ?_)
  · obtain ⟨_, rfl, _⟩ := h
    rfl
  · refine ⟨_, (pss_one (ps_ret (pe_ifExp (pt_val (pv 0)) pe_int pe_int))), ?_⟩
    obtain ⟨c, rfl, q⟩ := h
    refine s_ret (v := .int (numB c)) (ev_if (et_B (ev_var rfl)) (fun z => ?_) (fun z => ?_)) q
    · rw [z]
      exact ev_c
    · rw [z]
      exact ev_c
theorem as_number_V {H : Hp} {c : Bool} : SpV sp_as_number [.bl c] H (.int (numB c)) := fun H1 e Q q _ => ⟨c, rfl, fun H2 e2 => q H2 e2⟩
abbrev s_counted : Stmt := top 79
abbrev N_counted : List Str := ["found"]
abbrev P_counted : List Str := ["found"]
theorem sc_counted : FnScope N_counted P_counted (C8.fnScope s_counted) := C8.fnScope_by (by decide +kernel)
def sp_counted : Sp := fun vs H Q _ => ∃ (a : Addr) (xs : List V), vs = [.ref a] ∧ H a = some (.lst xs) ∧ xs.length ≤ 1000 ∧ RetL H Q (.int ((xs.length : Nat) : Int) :: xs)
theorem cal_counted {f : Addr} {fd : FuncData} (F : C8.Def K mg "counted" s_counted f fd) (b : Binds K fd P_counted []) (B : Blt mg) : C8.Cal P w K mg base 1 "counted" sp_counted [] := by
  have sc := sc_counted; have b_len := B.len
  refine C8.cal0 F b .nil sc (fun vs H Q E h => ?_) (fun cdv A outer s H vs Q E hr h => ?_)
  · obtain ⟨_, _, rfl, _⟩ := h
    rfl
  · refine ⟨_, (pss_one (ps_ret (pe_op op_cat (pe_lst (pa_cons (pe_callB (cLen K rfl) (by rfl) b_len (by decide +kernel) (pa_cons (pv 0) pa_nil)) pa_nil)) (pv 0)))), ?_⟩
    obtain ⟨a, xs, rfl, ha, hz, q⟩ := h
    exact s_retL (el_catL (el_lst (ea_cons (ev_len (ev_var rfl) (sq_of ha)) ea_nil) (by show 1 ≤ 100000; decide)) (ev_var rfl) ha (by show 1 + _ ≤ 100000; omega)) q
theorem counted_L {H : Hp} {a : Addr} {xs : List V} (ha : H a = some (.lst xs)) (hz : xs.length ≤ 1000) : SpL sp_counted [.ref a] H (.int ((xs.length : Nat) : Int) :: xs) := fun H1 e Q q _ => ⟨a, xs, rfl, e _ _ ha, hz, fun p H2 hp e2 h2 => q p H2 hp e2 h2⟩
def flatP (l : List (Nat × Nat)) : List Int := l.flatMap fun p => [(p.1 : Int), (p.2 : Int)]
theorem flatP_len (l : List (Nat × Nat)) : (flatP l).length = 2 * l.length := by
  unfold flatP
  induction l with
  | nil => rfl
  | cons x r ih =>
    rw [List.flatMap_cons, List.length_append, ih]
    show 2 + 2 * r.length = 2 * (r.length + 1)
    omega
theorem flatP_take {l : List (Nat × Nat)} {i : Nat} {x : Nat × Nat} (h : l[i]? = some x) : flatP (l.take (i + 1)) = flatP (l.take i) ++ [(x.1 : Int), (x.2 : Int)] := by
  unfold flatP
  rw [List.take_add_one, h, List.flatMap_append]
  rfl
abbrev s_counted_pairs : Stmt := top 80
abbrev N_counted_pairs : List Str := ["pairs", "given", "pair"]
abbrev P_counted_pairs : List Str := ["pairs"]
theorem sc_counted_pairs : FnScope N_counted_pairs P_counted_pairs (C8.fnScope s_counted_pairs) := C8.fnScope_by (by decide +kernel)
def sp_counted_pairs : Sp := fun vs H Q _ => ∃ (a : Addr) (l : List (Nat × Nat)), vs = [.ref a] ∧ PairsAt H a l ∧ l.length ≤ 100 ∧ RetL H Q (.int ((l.length : Nat) : Int) :: (flatP l).map V.int)
theorem cal_counted_pairs {f : Addr} {fd : FuncData} (F : C8.Def K mg "counted_pairs" s_counted_pairs f fd) (b : Binds K fd P_counted_pairs []) (B : Blt mg) : C8.Cal P w K mg base 1 "counted_pairs" sp_counted_pairs [] := by
  have sc := sc_counted_pairs; have b_len := B.len
  refine C8.cal0 F b .nil sc (fun vs H Q E h => ?_) (fun cdv A outer s H vs Q E hr h => ?_)
  · obtain ⟨_, _, rfl, _⟩ := h
    rfl
  · refine ⟨_, (pss_cons (ps_set (i := 1) sc.nd rfl (.inl rfl) (pe_lst (pa_cons (pe_callB (cLen K rfl) (by rfl) b_len (by decide +kernel) (pa_cons (pv 0) pa_nil)) pa_nil)))
      (pss_cons (ps_for PassesOwn.never rfl (piL K rfl (pv 0)) (pg_name (i := 2) sc.nd rfl (.inl rfl)) (pss_one (ps_expr (pe_bm PySem.F.plainAttrs_list PySem.F.slot_list_extend PySem.F.type_list_extend (mt_extendT K rfl) (pv 1) (pa_cons (pv 2) pa_nil)))))
      (pss_one (ps_ret (pv 1))))), ?_⟩
    obtain ⟨a, l, rfl, hp, hz, q⟩ := h
    obtain ⟨xs, hxs, hxl⟩ := hp.lst
    refine q_asgL (el_lst (ea_cons (ev_len (ev_var rfl) (sq_of hxs)) ea_nil) (by show 1 ≤ 100000; decide)) fun D H1 hD e1 h1 => ?_
    refine q_forLn (xs := xs) (ev_var rfl) (sq_of (e1 _ _ hxs)) (fun i σ' H' => ∃ v2, σ' = [some (.ref a), some (.ref D), v2] ∧ Ex H H' ∧ H' D = some (.lst (V.int (xs.length : Int) :: (flatP (l.take i)).map V.int)))
      (fun H2 e2 => ⟨none, rfl, e1.trans e2, e2 _ _ h1⟩) (fun i σ' H' _ ⟨_, _, e, _⟩ => sq_of (e _ _ hxs)) ?_ ?_
    · rintro i v _ H2 hv ⟨v2, rfl, e2, d2⟩
      obtain ⟨pj, yj, rfl, hyj, htj⟩ := (hp.ex e2).at_ (e2 _ _ hxs) hv
      refine ⟨_, rfl, .inl ⟨rfl, _, sq_of d2⟩, _, rfl, D, pj, _, _, rfl, rfl, d2, st_of htj, ?_, ?_⟩
      · show ((flatP (l.take i)).map V.int).length + 1 + 2 ≤ sizeLine
        rw [List.length_map, flatP_len, List.length_take]
        exact Nat.le_trans (by omega : _ ≤ 1000) (Nat.le_of_lt (small1000 (Nat.le_refl 1000)))
      · refine ⟨_, rfl, e2.mut hD, ?_⟩
        rw [upd_same, flatP_take hyj, List.map_append]
        rfl
    · rintro _ H2 ⟨v2, rfl, e2, d2⟩
      rw [hxl, List.take_length] at d2
      exact s_ret (ev_var rfl) fun H3 e3 => q D H3 hD (e2.trans e3) (e3 _ _ d2)
theorem counted_pairs_L {H : Hp} {a : Addr} {l : List (Nat × Nat)} (hp : PairsAt H a l) (hz : l.length ≤ 100) : SpL sp_counted_pairs [.ref a] H (.int ((l.length : Nat) : Int) :: (flatP l).map V.int) := fun H1 e Q q _ => ⟨a, l, rfl, hp.ex e, hz, fun p H2 hp e2 h2 => q p H2 hp e2 h2⟩
abbrev s_told_groups : Stmt := top 81
abbrev N_told_groups : List Str := ["groups"]
abbrev P_told_groups : List Str := ["groups"]
theorem sc_told_groups : FnScope N_told_groups P_told_groups (C8.fnScope s_told_groups) := C8.fnScope_by (by decide +kernel)
def sp_told_groups : Sp := fun vs H Q _ => ∃ (a : Addr) (g : List Nat), vs = [.ref a] ∧ H a = some (.lst (nv g)) ∧ 0 < g.length ∧ g.length ≤ 1000 ∧ RetL H Q (.int ((Ks565.groups g : Nat) : Int) :: nv g)
theorem cal_told_groups {f : Addr} {fd : FuncData} (F : C8.Def K mg "told_groups" s_told_groups f fd) (b : Binds K fd P_told_groups []) (c_how_many : C8.Cal P w K mg base 1 "how_many" sp_how_many []) : C8.Cal P w K mg base 2 "told_groups" sp_told_groups [] := by
  have sc := sc_told_groups
  refine C8.cal0 F b .nil sc (fun vs H Q E h => ?_) (fun cdv A outer s H vs Q E hr h => ?_)
  · obtain ⟨_, _, rfl, _⟩ := h
    rfl
  · refine ⟨_, (pss_one (ps_ret (pe_op op_cat (pe_lst (pa_cons (C8.pe_c c_how_many hr (by decide) (by rfl) (pa_cons (pv 0) pa_nil)) pa_nil)) (pv 0)))), ?_⟩
    obtain ⟨a, g, rfl, ha, h0, hz, q⟩ := h
    exact s_retL (el_catL (el_lst (ea_cons (ev_call (ea_cons (ev_var rfl) ea_nil) (how_many_V (.inl ha) h0)) ea_nil) (by show 1 ≤ 100000; decide)) (ev_var rfl) ha (by rw [nv_len]; show 1 + _ ≤ 100000; omega)) q
theorem told_groups_L {H : Hp} {a : Addr} {g : List Nat} (ha : H a = some (.lst (nv g))) (h0 : 0 < g.length) (hz : g.length ≤ 1000) : SpL sp_told_groups [.ref a] H (.int ((Ks565.groups g : Nat) : Int) :: nv g) := fun H1 e Q q _ => ⟨a, g, rfl, e _ _ ha, h0, hz, fun p H2 hp e2 h2 => q p H2 hp e2 h2⟩
/-- a standing, or None -/
def IsOpt (Z : Zc) (t : Ks565.Folk) (o : Option (List Nat)) : V → Hp → Prop := fun v H => (o = none ∧ v = .non) ∨ ∃ p g, o = some g ∧ v = .ref p ∧ StdAt Z false H p t g
def optL : Option (List Nat) → List Int
  | none => [-33]
  | some g => (Ks565.groups g : Int) :: Ks565.ints g
abbrev s_told_if_any : Stmt := top 82
abbrev N_told_if_any : List Str := ["standing"]
abbrev P_told_if_any : List Str := ["standing"]
theorem sc_told_if_any : FnScope N_told_if_any P_told_if_any (C8.fnScope s_told_if_any) := C8.fnScope_by (by decide +kernel)
def sp_told_if_any (Z : Zc) : Sp := fun vs H Q _ => ∃ (v : V) (t : Ks565.Folk) (o : Option (List Nat)), vs = [v] ∧ IsOpt Z t o v H ∧ RetL H Q ((optL o).map V.int)
theorem ints_nv (g : List Nat) : (Ks565.ints g).map V.int = nv g := (nv_ints g).symm
theorem cal_told_if_any {Z : Zc} {f : Addr} {fd : FuncData} (F : C8.Def K mg "told_if_any" s_told_if_any f fd) (b : Binds K fd P_told_if_any []) (Cs : Cst K mg) (ZT : ZTxt K Z) (c_told_groups : C8.Cal P w K mg base 2 "told_groups" sp_told_groups []) : C8.Cal P w K mg base 3 "told_if_any" (sp_told_if_any Z) [] := by
  have sc := sc_told_if_any; obtain ⟨_, m_NONE_SUCH⟩ := Cs.NONE_SUCH
  refine C8.cal0 F b .nil sc (fun vs H Q E h => ?_) (fun cdv A outer s H vs Q E hr h => ?_)
  · obtain ⟨_, _, _, rfl, _⟩ := h
    rfl
  · refine ⟨_, (pss_one (ps_ret (pe_ifExp (pt_cmpR op_isN (pv 0) pe_non (nomark _)) (pe_lst (pa_cons (pe_glob (v := .int (-33)) (by rfl) m_NONE_SUCH ⟨_, rfl⟩) pa_nil)) (C8.pe_c c_told_groups hr (by decide) (by rfl) (pa_cons (peF K rfl (pv 0) rfl) pa_nil))))), ?_⟩
    obtain ⟨v, t, o, rfl, ho, q⟩ := h
    rcases ho with ⟨rfl, rfl⟩ | ⟨p, g, rfl, rfl, hs⟩
    · refine s_retL (xs := (optL none).map V.int) (fun H1 e1 Q1 q1 => ?_) q
      refine (et_test (b := true) (te := tOp (fun x y H Q => y = V.non ∧ Q (V.bl (decide (x = V.non))) H) (tVar 0) (tC .non)) (σ := L2.start N_told_if_any [.non]) (H := H1) fun H2 e2 Q' q' => ⟨_, rfl, rfl, q' H2 (Ex.refl H2)⟩) H1 (Ex.refl H1) _ fun H2 e2 => ?_
      exact el_lst (ea_cons ev_c ea_nil) (by show 1 ≤ 100000; decide) H2 (Ex.refl H2) _ fun p H3 hp e3 h3 => q1 p H3 (fresh_back e2 hp) (e2.trans e3) h3
    · obtain ⟨ag, hag, evg⟩ := ev_groups ZT hs
      have hag : H ag = some (.lst (nv g)) := hag
      refine s_retL (xs := (optL (some g)).map V.int) (fun H1 e1 Q1 q1 => ?_) q
      refine (et_test (b := false) (te := tOp (fun x y H Q => y = V.non ∧ Q (V.bl (decide (x = V.non))) H) (tVar 0) (tC .non)) (σ := L2.start N_told_if_any [.ref p]) (H := H1) fun H2 e2 Q' q' => ⟨_, rfl, rfl, q' H2 (Ex.refl H2)⟩) H1 (Ex.refl H1) _ fun H2 e2 => ?_
      have e12 := e1.trans e2
      refine el_call (ea_cons (evg e12 (ev_var rfl)) ea_nil) (told_groups_L (e12 _ _ hag) (by rw [hs.len]; exact hs.pos) (by rw [hs.len]; have := hs.le5; omega)) H2 (Ex.refl H2) _ fun p3 H3 hp e3 h3 => q1 p3 H3 (fresh_back e2 hp) (e2.trans e3) ?_
      rw [h3]
      show some (HO.lst (V.int _ :: nv g)) = some (HO.lst (V.int _ :: (Ks565.ints g).map V.int))
      rw [ints_nv]
theorem told_if_any_L {Z : Zc} {H : Hp} {v : V} {t : Ks565.Folk} {o : Option (List Nat)} (h : ∀ H1, Ex H H1 → IsOpt Z t o v H1) : SpL (sp_told_if_any Z) [v] H ((optL o).map V.int) := fun H1 e Q q _ => ⟨v, t, o, rfl, h H1 e, fun p H2 hp e2 h2 => q p H2 hp e2 h2⟩
theorem opt_mono {Z : Zc} {t : Ks565.Folk} {o : Option (List Nat)} {v : V} {H H' : Hp} (e : Ex H H') (h : IsOpt Z t o v H) : IsOpt Z t o v H' := h.imp id fun ⟨p, g, h1, h2, h3⟩ => ⟨p, g, h1, h2, h3.ex e⟩
end Rg

set_option Elab.async false
set_option maxRecDepth 100000
set_option maxHeartbeats 2000000
set_option linter.unusedVariables false
/-! the answers that ask -/
namespace Rg
open PySem PySem.Spec PyProof.Rows L2 Evl LamX
variable {P : Program} {w : World} {K : PySem.W.Frag} {mg : Str → Option Value} {base : Heap}
theorem noB {c : Bool} : (if c then (1 : Int) else 0) = numB c := rfl
/-! worths -/
def cWorths (told : List Int) (c : Ks570.Call) : Prop := told = [] ∧ c = .worths
theorem does_worths {s : Ks570.State} : Ks570.does1 s .worths = (s, { ret := 0, out := Ks568.worths s.game.t s.game.g ++ [Ks567.total s.game.t s.game.g] }) := rfl
abbrev s_answer_worths : Stmt := top 83
abbrev N_answer_worths : List Str := ["kept", "told", "has"]
abbrev P_answer_worths : List Str := ["kept", "told"]
theorem sc_answer_worths : FnScope N_answer_worths P_answer_worths (C8.fnScope s_answer_worths) := C8.fnScope_by (by decide +kernel)
theorem cal_answer_worths {Z : Zc} {f : Addr} {fd : FuncData} {T : List (Addr × Str)} (F : C8.Def K mg "answer_worths" s_answer_worths f fd) (b : Binds K fd P_answer_worths []) (B : Blt mg) (ZT : ZTxt K Z) (c_standing_of : C8.Cal P w K mg base 5 "standing_of" (sp_standing_of Z) []) : C8.Cal P w K mg base 6 "answer_worths" (spC Z T cWorths) [] := by
  have sc := sc_answer_worths; have b_sum := B.sum
  refine C8.cal0 F b .nil sc (spC_len rfl) (fun cdv A outer s H vs Q E hr h => ?_)
  refine ⟨_, (pss_cons (ps_set (i := 2) sc.nd rfl (.inl rfl) (peF K rfl (C8.pe_c c_standing_of hr (by decide) (by rfl) (pa_cons (pv 0) pa_nil)) rfl))
      (pss_one (ps_ret (pe_op op_cat (pe_op op_cat (pe_lst (pa_cons pe_int pa_nil)) (pv 2)) (pe_lst (pa_cons (pe_callB (cSum K rfl rfl) (by rfl) b_sum (by decide +kernel) (pa_cons (pv 2) pa_nil)) pa_nil)))))), ?_⟩
  obtain ⟨a, b, st, told, c, rfl, hk, ok, ht, hb, ⟨rfl, rfl⟩, q⟩ := h
  rw [does_worths] at q
  have h5 := ok.le
  refine q_asgP (R := fun v H' => ∃ ah, v = .ref ah ∧ H' ah = some (.lst ((Ks568.worths st.game.t st.game.g).map V.int))) (ep_fld ZT.sc ZT.sH (ep_call (ea_cons (ev_var rfl) ea_nil) (standing_of_P hk ok)) fun x H1 e1 hx => ?_) fun x H1 e1 hx => ?_
  · obtain ⟨p, rfl, h0, hf, dx, al, ag, ar, ah, g1, g2, g3, g4, g6⟩ := hx
    exact ⟨p, dx, _, _, rfl, g1, sF_has _ _ _ _, ah, rfl, g6⟩
  · obtain ⟨ah, rfl, h1⟩ := hx
    have hl : ((Ks568.worths st.game.t st.game.g).map V.int).length ≤ 1000 := by
      rw [List.length_map, worths_len]
      omega
    refine s_retL (el_cat (el_catL (el_lst (ea_cons ev_c ea_nil) (by show 1 ≤ 100000; decide)) (ev_var rfl) h1 (by show 1 + _ ≤ 100000; omega)) (el_lst (ea_cons (ev_cb (ea_cons (ev_var rfl) ea_nil) (rc_sum h1)) ea_nil) (by show 1 ≤ 100000; decide)) ?_) (q.ask hk ht e1 ?_)
    · rw [List.length_append]
      show 1 + _ + 1 ≤ 100000
      omega
    · rw [← total_sum]
      show [V.int 0] ++ (Ks568.worths st.game.t st.game.g).map V.int ++ [V.int (Ks567.total st.game.t st.game.g)] = V.int 0 :: (Ks568.worths st.game.t st.game.g ++ [Ks567.total st.game.t st.game.g]).map V.int
      rw [List.map_append]
      rfl
/-! moves -/
def cMoves (told : List Int) (c : Ks570.Call) : Prop := ∃ (x : Nat), told = [(x : Int)] ∧ c = .moves x
theorem does_moves {s : Ks570.State} {x : Nat} : Ks570.does1 s (.moves x) = if 2 < x then (s, Ks570.no (-22)) else (s, { ret := ((Ks565.moves s.game.t x s.game.g).length : Nat), out := flatP (Ks565.moves s.game.t x s.game.g) }) := rfl
abbrev s_answer_moves : Stmt := top 84
abbrev N_answer_moves : List Str := ["kept", "told", "way"]
abbrev P_answer_moves : List Str := ["kept", "told"]
theorem sc_answer_moves : FnScope N_answer_moves P_answer_moves (C8.fnScope s_answer_moves) := C8.fnScope_by (by decide +kernel)
theorem cal_answer_moves {Z : Zc} {f : Addr} {fd : FuncData} {T : List (Addr × Str)} (F : C8.Def K mg "answer_moves" s_answer_moves f fd) (b : Binds K fd P_answer_moves []) (Cs : Cst K mg) (c_counted_pairs : C8.Cal P w K mg base 1 "counted_pairs" sp_counted_pairs []) (c_moves_by : C8.Cal P w K mg base 3 "moves_by" (sp_moves_by Z) []) (c_standing_of : C8.Cal P w K mg base 5 "standing_of" (sp_standing_of Z) []) : C8.Cal P w K mg base 6 "answer_moves" (spC Z T cMoves) [] := by
  have sc := sc_answer_moves; obtain ⟨_, m_LAST_WAY⟩ := Cs.LAST_WAY; obtain ⟨_, m_WRONG⟩ := Cs.WRONG
  refine C8.cal0 F b .nil sc (spC_len rfl) (fun cdv A outer s H vs Q E hr h => ?_)
  refine ⟨_, (pss_cons (ps_set (i := 2) sc.nd rfl (.inl rfl) (pe_ix (ixl K rfl) (pv 1) pe_int (fun _ _ => rfl)))
      (pss_cons (ps_if (pt_cmpR op_gt (pv 2) (pe_glob (v := .int (2)) (by rfl) m_LAST_WAY ⟨_, rfl⟩) (nomark _)) (pss_one (ps_ret (pe_lst (pa_cons (pe_glob (v := .int (-22)) (by rfl) m_WRONG ⟨_, rfl⟩) pa_nil)))) pss_nil)
      (pss_one (ps_ret (C8.pe_c c_counted_pairs hr (by decide) (by rfl) (pa_cons (C8.pe_c c_moves_by hr (by decide) (by rfl) (pa_cons (C8.pe_c c_standing_of hr (by decide) (by rfl) (pa_cons (pv 0) pa_nil)) (pa_cons (pv 2) pa_nil))) pa_nil)))))), ?_⟩
  obtain ⟨a, b, st, told, c, rfl, hk, ok, ht, hb, ⟨x, rfl, rfl⟩, q⟩ := h
  rw [does_moves] at q
  refine q_asg (ev_nth 0 (ev_var rfl) hb rfl) fun H1 e1 => ?_
  refine q_when (et_test (ev_op (ev_var rfl) ev_c rv_I0)) (fun c H2 e2 => ?_) (fun c H2 e2 => ?_)
  · have z : 2 < x := by have := of_decide_eq_true c; omega
    rw [if_pos z] at q
    exact s_retL (el_lst (ea_cons ev_c ea_nil) (by show 1 ≤ 100000; decide)) (q.ask hk ht (e1.trans e2) rfl)
  · have z : ¬ 2 < x := by have := of_decide_eq_false c; omega
    rw [if_neg z] at q
    have e12 := e1.trans e2
    have k2 := hk.ex e12
    have hml := moves_len (x := x) ok.le ok.pos ok.few
    refine s_retL (el_callP (R1 := IsPairs (Ks565.moves st.game.t x st.game.g)) (ep_callP (ep_call (ea_cons (ev_var rfl) ea_nil) (standing_of_P k2 ok)) (ea_cons (ev_var rfl) ea_nil) fun v H3 e3 hv => ?_) ea_nil fun v H3 e3 hv => ?_) (q.ask hk ht e12 rfl)
    · obtain ⟨p, rfl, hs⟩ := hv
      exact moves_by_P hs (by omega)
    · obtain ⟨p, rfl, hp⟩ := hv
      exact counted_pairs_L hp (by omega)
/-! best -/
theorem bestFold_mem (v : Nat → Int) : ∀ (l : List Nat) (k : Nat), bestFold v k l ∈ k :: l
  | [], k => List.mem_cons_self
  | x :: l, k => by
    unfold bestFold
    rw [List.foldl_cons]
    by_cases c : v k < v x
    · rw [if_pos c]
      exact List.mem_cons_of_mem _ (bestFold_mem v l x)
    · rw [if_neg c]
      rcases List.mem_cons.mp (bestFold_mem v l k) with z | z
      · show bestFold v k l ∈ _
        rw [z]
        exact List.mem_cons_self
      · exact List.mem_cons_of_mem _ (List.mem_cons_of_mem _ z)
theorem best_le {t : Ks565.Folk} {g : List Nat} {i : Nat} (hi : i < g.length) : Ks565.best t g i ≤ Ks565.groups g := by
  rw [best_is]
  rcases List.mem_cons.mp (bestFold_mem (fun k => Ks565.with_ t i (Ks565.members g k)) (List.range (Ks565.groups g + 1)) (g.getD i 0)) with z | z
  · rw [z]
    exact Nat.le_of_lt (getD_lt_groups hi)
  · exact Nat.le_of_lt_succ (List.mem_range.mp z)
def cBest (told : List Int) (c : Ks570.Call) : Prop := ∃ (x : Nat), told = [(x : Int)] ∧ c = .best x
theorem does_best {s : Ks570.State} {i : Nat} : Ks570.does1 s (.best i) = if s.game.t.n ≤ i then (s, Ks570.no (-2)) else (s, { ret := ((Ks565.best s.game.t s.game.g i : Nat) : Int), out := [Ks565.with_ s.game.t i (Ks565.members s.game.g (Ks565.best s.game.t s.game.g i))] }) := rfl
abbrev s_answer_best : Stmt := top 85
abbrev N_answer_best : List Str := ["kept", "told", "i", "standing", "k"]
abbrev P_answer_best : List Str := ["kept", "told"]
theorem sc_answer_best : FnScope N_answer_best P_answer_best (C8.fnScope s_answer_best) := C8.fnScope_by (by decide +kernel)
theorem cal_answer_best {Z : Zc} {f : Addr} {fd : FuncData} {T : List (Addr × Str)} (F : C8.Def K mg "answer_best" s_answer_best f fd) (b : Binds K fd P_answer_best []) (Cs : Cst K mg) (c_standing_of : C8.Cal P w K mg base 5 "standing_of" (sp_standing_of Z) []) (c_best_place : C8.Cal P w K mg base 5 "best_place" (sp_best_place Z T) []) (c_has_in : C8.Cal P w K mg base 1 "has_in" (sp_has_in Z) []) (c_is_person : C8.Met P w K mg base 1 Z.kept "is_person" (sp_Kept_is_person Z.kept) []) : C8.Cal P w K mg base 6 "answer_best" (spC Z T cBest) [] := by
  have sc := sc_answer_best; obtain ⟨_, m_NOT_THERE⟩ := Cs.NOT_THERE
  refine C8.cal0 F b .nil sc (spC_len rfl) (fun cdv A outer s H vs Q E hr h => ?_)
  refine ⟨_, (pss_cons (ps_set (i := 2) sc.nd rfl (.inl rfl) (pe_ix (ixl K rfl) (pv 1) pe_int (fun _ _ => rfl)))
      (pss_cons (ps_if (pt_not (pt_val (C8.pe_mt c_is_person hr (by decide) (pv 0) (pa_cons (pv 2) pa_nil)))) (pss_one (ps_ret (pe_lst (pa_cons (pe_glob (v := .int (-2)) (by rfl) m_NOT_THERE ⟨_, rfl⟩) pa_nil)))) pss_nil)
      (pss_cons (ps_set (i := 3) sc.nd rfl (.inl rfl) (C8.pe_c c_standing_of hr (by decide) (by rfl) (pa_cons (pv 0) pa_nil)))
      (pss_cons (ps_set (i := 4) sc.nd rfl (.inl rfl) (C8.pe_c c_best_place hr (by decide) (by rfl) (pa_cons (pv 3) (pa_cons (pv 2) pa_nil))))
      (pss_one (ps_ret (pe_lst (pa_cons (pv 4) (pa_cons (C8.pe_c c_has_in hr (by decide) (by rfl) (pa_cons (pv 3) (pa_cons (pv 2) (pa_cons (pv 4) pa_nil)))) pa_nil))))))))), ?_⟩
  obtain ⟨a, b, st, told, c, rfl, hk, ok, ht, hb, ⟨i, rfl, rfl⟩, q⟩ := h
  rw [does_best] at q
  have hlen := ok.game.len
  refine q_asg (ev_nth 0 (ev_var rfl) hb rfl) fun H1 e1 => ?_
  refine q_when (et_not (et_B (ev_isP (hk.ex e1) (ev_var rfl) (ev_var rfl)))) (fun c H2 e2 => ?_) (fun c H2 e2 => ?_)
  · rw [Bool.not_eq_true', decide_eq_false_iff_not] at c
    rw [if_pos (by omega)] at q
    exact s_retL (el_lst (ea_cons ev_c ea_nil) (by show 1 ≤ 100000; decide)) (q.ask hk ht (e1.trans e2) rfl)
  · rw [Bool.not_eq_false', decide_eq_true_eq] at c
    have hi : i < st.game.t.n := by omega
    rw [if_neg (by omega)] at q
    have e12 := e1.trans e2
    refine q_asgP (ep_call (ea_cons (ev_var rfl) ea_nil) (standing_of_P (hk.ex e12) ok)) fun v H3 e3 hv => ?_
    obtain ⟨p, rfl, hs⟩ := hv
    refine q_asgCall (ea_cons (ev_var rfl) (ea_cons (ev_var rfl) ea_nil)) fun H4 e4 => ⟨p, false, st.game.t, st.game.g, i, rfl, hs.ex e4, hi, ht.ext ((e12.trans e3).trans e4), fun H5 e5 t5 => ?_⟩
    have eN : ExtN H H5 := (ExtN.of ((e12.trans e3).trans e4)).trans e5
    exact s_retL (el_lst (ea_cons (ev_var rfl) (ea_cons (ev_call (ea_cons (ev_var rfl) (ea_cons (ev_var rfl) (ea_cons (ev_var rfl) ea_nil))) (has_in_V ((hs.ex e4).gr e5) hi (best_le (by omega)))) ea_nil)) (by show 2 ≤ 100000; decide)) (q.askA hk eN t5 rfl)
/-! leavers -/
def cLeavers (told : List Int) (c : Ks570.Call) : Prop := ∃ (x : Nat), told = [(x : Int)] ∧ c = .by_ x
theorem does_leavers {s : Ks570.State} {x : Nat} : Ks570.does1 s (.by_ x) = if 1 < x then (s, Ks570.no (-22)) else (s, Ks570.told (Ks566.by_ s.game.t x s.game.g)) := rfl
theorem by_len (t : Ks565.Folk) (x : Nat) (g : List Nat) (h5 : t.n ≤ 5) : (Ks566.by_ t x g).length ≤ 32 := by
  unfold Ks566.by_
  refine Nat.le_trans (List.length_filter_le _ _) ?_
  rw [List.length_range]
  exact Nat.le_trans (Nat.pow_le_pow_right (by decide : 0 < 2) h5) (by decide)
abbrev s_answer_leavers : Stmt := top 86
abbrev N_answer_leavers : List Str := ["kept", "told", "w"]
abbrev P_answer_leavers : List Str := ["kept", "told"]
theorem sc_answer_leavers : FnScope N_answer_leavers P_answer_leavers (C8.fnScope s_answer_leavers) := C8.fnScope_by (by decide +kernel)
theorem cal_answer_leavers {Z : Zc} {f : Addr} {fd : FuncData} {T : List (Addr × Str)} (F : C8.Def K mg "answer_leavers" s_answer_leavers f fd) (b : Binds K fd P_answer_leavers []) (Cs : Cst K mg) (c_counted : C8.Cal P w K mg base 1 "counted" sp_counted []) (c_leavers_by : C8.Cal P w K mg base 2 "leavers_by" (sp_leavers_by Z) []) (c_standing_of : C8.Cal P w K mg base 5 "standing_of" (sp_standing_of Z) []) : C8.Cal P w K mg base 6 "answer_leavers" (spC Z T cLeavers) [] := by
  have sc := sc_answer_leavers; obtain ⟨_, m_LAST_LEAVING⟩ := Cs.LAST_LEAVING; obtain ⟨_, m_WRONG⟩ := Cs.WRONG
  refine C8.cal0 F b .nil sc (spC_len rfl) (fun cdv A outer s H vs Q E hr h => ?_)
  refine ⟨_, (pss_cons (ps_set (i := 2) sc.nd rfl (.inl rfl) (pe_ix (ixl K rfl) (pv 1) pe_int (fun _ _ => rfl)))
      (pss_cons (ps_if (pt_cmpR op_gt (pv 2) (pe_glob (v := .int (1)) (by rfl) m_LAST_LEAVING ⟨_, rfl⟩) (nomark _)) (pss_one (ps_ret (pe_lst (pa_cons (pe_glob (v := .int (-22)) (by rfl) m_WRONG ⟨_, rfl⟩) pa_nil)))) pss_nil)
      (pss_one (ps_ret (C8.pe_c c_counted hr (by decide) (by rfl) (pa_cons (C8.pe_c c_leavers_by hr (by decide) (by rfl) (pa_cons (C8.pe_c c_standing_of hr (by decide) (by rfl) (pa_cons (pv 0) pa_nil)) (pa_cons (pv 2) pa_nil))) pa_nil)))))), ?_⟩
  obtain ⟨a, b, st, told, c, rfl, hk, ok, ht, hb, ⟨x, rfl, rfl⟩, q⟩ := h
  rw [does_leavers] at q
  refine q_asg (ev_nth 0 (ev_var rfl) hb rfl) fun H1 e1 => ?_
  refine q_when (et_test (ev_op (ev_var rfl) ev_c rv_I0)) (fun c H2 e2 => ?_) (fun c H2 e2 => ?_)
  · have z : 1 < x := by have := of_decide_eq_true c; omega
    rw [if_pos z] at q
    exact s_retL (el_lst (ea_cons ev_c ea_nil) (by show 1 ≤ 100000; decide)) (q.ask hk ht (e1.trans e2) rfl)
  · have z : ¬ 1 < x := by have := of_decide_eq_false c; omega
    rw [if_neg z] at q
    have e12 := e1.trans e2
    have k2 := hk.ex e12
    have hbl := by_len st.game.t x st.game.g ok.le
    refine s_retL (el_call1 (el_callP (xs := nv (Ks566.by_ st.game.t x st.game.g)) (ep_call (ea_cons (ev_var rfl) ea_nil) (standing_of_P k2 ok)) (ea_cons (ev_var rfl) ea_nil) fun v H3 e3 hv => ?_) fun p H3 h3 e3 => counted_L h3 ?_) (q.ask hk ht e12 ?_)
    · obtain ⟨p, rfl, hs⟩ := hv
      exact leavers_by_L hs (by omega)
    · rw [nv_len]
      omega
    · rw [nv_len, nv_ints]
      rfl
/-! rests -/
def cRests (told : List Int) (c : Ks570.Call) : Prop := ∃ (x : Nat), told = [(x : Int)] ∧ c = .rests x
theorem does_rests {s : Ks570.State} {x : Nat} : Ks570.does1 s (.rests x) = if 2 < x then (s, Ks570.no (-22)) else (s, Ks570.no (numB (Ks565.rests s.game.t x s.game.g))) := rfl
abbrev s_answer_rests : Stmt := top 87
abbrev N_answer_rests : List Str := ["kept", "told", "way"]
abbrev P_answer_rests : List Str := ["kept", "told"]
theorem sc_answer_rests : FnScope N_answer_rests P_answer_rests (C8.fnScope s_answer_rests) := C8.fnScope_by (by decide +kernel)
theorem cal_answer_rests {Z : Zc} {f : Addr} {fd : FuncData} {T : List (Addr × Str)} (F : C8.Def K mg "answer_rests" s_answer_rests f fd) (b : Binds K fd P_answer_rests []) (Cs : Cst K mg) (c_as_number : C8.Cal P w K mg base 1 "as_number" sp_as_number []) (c_is_at_rest : C8.Cal P w K mg base 4 "is_at_rest" (sp_is_at_rest Z) []) (c_standing_of : C8.Cal P w K mg base 5 "standing_of" (sp_standing_of Z) []) : C8.Cal P w K mg base 6 "answer_rests" (spC Z T cRests) [] := by
  have sc := sc_answer_rests; obtain ⟨_, m_LAST_WAY⟩ := Cs.LAST_WAY; obtain ⟨_, m_WRONG⟩ := Cs.WRONG
  refine C8.cal0 F b .nil sc (spC_len rfl) (fun cdv A outer s H vs Q E hr h => ?_)
  refine ⟨_, (pss_cons (ps_set (i := 2) sc.nd rfl (.inl rfl) (pe_ix (ixl K rfl) (pv 1) pe_int (fun _ _ => rfl)))
      (pss_cons (ps_if (pt_cmpR op_gt (pv 2) (pe_glob (v := .int (2)) (by rfl) m_LAST_WAY ⟨_, rfl⟩) (nomark _)) (pss_one (ps_ret (pe_lst (pa_cons (pe_glob (v := .int (-22)) (by rfl) m_WRONG ⟨_, rfl⟩) pa_nil)))) pss_nil)
      (pss_one (ps_ret (pe_lst (pa_cons (C8.pe_c c_as_number hr (by decide) (by rfl) (pa_cons (C8.pe_c c_is_at_rest hr (by decide) (by rfl) (pa_cons (C8.pe_c c_standing_of hr (by decide) (by rfl) (pa_cons (pv 0) pa_nil)) (pa_cons (pv 2) pa_nil))) pa_nil)) pa_nil)))))), ?_⟩
  obtain ⟨a, b, st, told, c, rfl, hk, ok, ht, hb, ⟨x, rfl, rfl⟩, q⟩ := h
  rw [does_rests] at q
  refine q_asg (ev_nth 0 (ev_var rfl) hb rfl) fun H1 e1 => ?_
  refine q_when (et_test (ev_op (ev_var rfl) ev_c rv_I0)) (fun c H2 e2 => ?_) (fun c H2 e2 => ?_)
  · have z : 2 < x := by have := of_decide_eq_true c; omega
    rw [if_pos z] at q
    exact s_retL (el_lst (ea_cons ev_c ea_nil) (by show 1 ≤ 100000; decide)) (q.ask hk ht (e1.trans e2) rfl)
  · have z : ¬ 2 < x := by have := of_decide_eq_false c; omega
    rw [if_neg z] at q
    have e12 := e1.trans e2
    have k2 := hk.ex e12
    exact s_retL (el_lst (ea_cons (ev_callP (ep_ev (ev_callP (ep_call (ea_cons (ev_var rfl) ea_nil) (standing_of_P k2 ok)) (ea_cons (ev_var rfl) ea_nil) fun v H3 e3 hv => (by
      obtain ⟨p, rfl, hs⟩ := hv
      exact is_at_rest_V hs (by omega) : SpV _ _ _ (.bl (Ks565.rests st.game.t x st.game.g))))) ea_nil fun v H3 e3 hv => (by
      subst hv
      exact as_number_V)) ea_nil) (by show 1 ≤ 100000; decide)) (q.ask hk ht e12 rfl)
/-! holds -/
def cHolds (told : List Int) (c : Ks570.Call) : Prop := ∃ (x : Nat), told = [(x : Int)] ∧ c = .holds x
theorem does_holds {s : Ks570.State} {x : Nat} : Ks570.does1 s (.holds x) = if 1 < x then (s, Ks570.no (-22)) else (s, Ks570.no (numB (Ks566.holds s.game.t x s.game.g))) := rfl
abbrev s_answer_holds : Stmt := top 88
abbrev N_answer_holds : List Str := ["kept", "told", "w"]
abbrev P_answer_holds : List Str := ["kept", "told"]
theorem sc_answer_holds : FnScope N_answer_holds P_answer_holds (C8.fnScope s_answer_holds) := C8.fnScope_by (by decide +kernel)
theorem cal_answer_holds {Z : Zc} {f : Addr} {fd : FuncData} {T : List (Addr × Str)} (F : C8.Def K mg "answer_holds" s_answer_holds f fd) (b : Binds K fd P_answer_holds []) (Cs : Cst K mg) (c_as_number : C8.Cal P w K mg base 1 "as_number" sp_as_number []) (c_is_holding : C8.Cal P w K mg base 3 "is_holding" (sp_is_holding Z) []) (c_standing_of : C8.Cal P w K mg base 5 "standing_of" (sp_standing_of Z) []) : C8.Cal P w K mg base 6 "answer_holds" (spC Z T cHolds) [] := by
  have sc := sc_answer_holds; obtain ⟨_, m_LAST_LEAVING⟩ := Cs.LAST_LEAVING; obtain ⟨_, m_WRONG⟩ := Cs.WRONG
  refine C8.cal0 F b .nil sc (spC_len rfl) (fun cdv A outer s H vs Q E hr h => ?_)
  refine ⟨_, (pss_cons (ps_set (i := 2) sc.nd rfl (.inl rfl) (pe_ix (ixl K rfl) (pv 1) pe_int (fun _ _ => rfl)))
      (pss_cons (ps_if (pt_cmpR op_gt (pv 2) (pe_glob (v := .int (1)) (by rfl) m_LAST_LEAVING ⟨_, rfl⟩) (nomark _)) (pss_one (ps_ret (pe_lst (pa_cons (pe_glob (v := .int (-22)) (by rfl) m_WRONG ⟨_, rfl⟩) pa_nil)))) pss_nil)
      (pss_one (ps_ret (pe_lst (pa_cons (C8.pe_c c_as_number hr (by decide) (by rfl) (pa_cons (C8.pe_c c_is_holding hr (by decide) (by rfl) (pa_cons (C8.pe_c c_standing_of hr (by decide) (by rfl) (pa_cons (pv 0) pa_nil)) (pa_cons (pv 2) pa_nil))) pa_nil)) pa_nil)))))), ?_⟩
  obtain ⟨a, b, st, told, c, rfl, hk, ok, ht, hb, ⟨x, rfl, rfl⟩, q⟩ := h
  rw [does_holds] at q
  refine q_asg (ev_nth 0 (ev_var rfl) hb rfl) fun H1 e1 => ?_
  refine q_when (et_test (ev_op (ev_var rfl) ev_c rv_I0)) (fun c H2 e2 => ?_) (fun c H2 e2 => ?_)
  · have z : 1 < x := by have := of_decide_eq_true c; omega
    rw [if_pos z] at q
    exact s_retL (el_lst (ea_cons ev_c ea_nil) (by show 1 ≤ 100000; decide)) (q.ask hk ht (e1.trans e2) rfl)
  · have z : ¬ 1 < x := by have := of_decide_eq_false c; omega
    rw [if_neg z] at q
    have e12 := e1.trans e2
    have k2 := hk.ex e12
    exact s_retL (el_lst (ea_cons (ev_callP (ep_ev (ev_callP (ep_call (ea_cons (ev_var rfl) ea_nil) (standing_of_P k2 ok)) (ea_cons (ev_var rfl) ea_nil) fun v H3 e3 hv => (by
      obtain ⟨p, rfl, hs⟩ := hv
      exact is_holding_V hs (by omega) : SpV _ _ _ (.bl (Ks566.holds st.game.t x st.game.g))))) ea_nil fun v H3 e3 hv => (by
      subst hv
      exact as_number_V)) ea_nil) (by show 1 ≤ 100000; decide)) (q.ask hk ht e12 rfl)
/-! kinds -/
def cKinds (told : List Int) (c : Ks570.Call) : Prop := told = [] ∧ c = .kinds
theorem does_kinds {s : Ks570.State} : Ks570.does1 s .kinds = (s, { ret := ((Ks565.all s.game.t.n).length : Nat), out := kindsTo s.game.t (Ks565.all s.game.t.n) }) := by
  show (s, ({ ret := ((Ks565.all s.game.t.n).length : Nat), out := (List.range 5).map fun w => ((Ks568.kind s.game.t w).length : Int) } : Ks570.Ans)) = _
  have e : ((List.range 5).map fun w => ((Ks568.kind s.game.t w).length : Int)) = kindsTo s.game.t (Ks565.all s.game.t.n) := by
    unfold kindsTo
    apply List.map_congr_left
    intro w _
    rw [kind_is]
  rw [e]
abbrev s_answer_kinds : Stmt := top 89
abbrev N_answer_kinds : List Str := ["kept", "told", "standings"]
abbrev P_answer_kinds : List Str := ["kept", "told"]
theorem sc_answer_kinds : FnScope N_answer_kinds P_answer_kinds (C8.fnScope s_answer_kinds) := C8.fnScope_by (by decide +kernel)
theorem cal_answer_kinds {Z : Zc} {f : Addr} {fd : FuncData} {T : List (Addr × Str)} (F : C8.Def K mg "answer_kinds" s_answer_kinds f fd) (b : Binds K fd P_answer_kinds []) (B : Blt mg) (c_all_standings : C8.Cal P w K mg base 5 "all_standings" (sp_all_standings Z) []) (c_liking_of : C8.Cal P w K mg base 4 "liking_of" (sp_liking_of Z) []) (c_count_kinds : C8.Cal P w K mg base 5 "count_kinds" (sp_count_kinds Z) []) : C8.Cal P w K mg base 6 "answer_kinds" (spC Z T cKinds) [] := by
  have sc := sc_answer_kinds; have b_len := B.len
  refine C8.cal0 F b .nil sc (spC_len rfl) (fun cdv A outer s H vs Q E hr h => ?_)
  refine ⟨_, (pss_cons (ps_set (i := 2) sc.nd rfl (.inl rfl) (C8.pe_c c_all_standings hr (by decide) (by rfl) (pa_cons (C8.pe_c c_liking_of hr (by decide) (by rfl) (pa_cons (pv 0) pa_nil)) pa_nil)))
      (pss_one (ps_ret (pe_op op_cat (pe_lst (pa_cons (pe_callB (cLen K rfl) (by rfl) b_len (by decide +kernel) (pa_cons (pv 2) pa_nil)) pa_nil)) (C8.pe_c c_count_kinds hr (by decide) (by rfl) (pa_cons (pv 2) pa_nil)))))), ?_⟩
  obtain ⟨a, b, st, told, c, rfl, hk, ok, ht, hb, ⟨rfl, rfl⟩, q⟩ := h
  rw [does_kinds] at q
  refine q_asgP (ep_callP (ep_call (ea_cons (ev_var rfl) ea_nil) (liking_of_P hk ok)) ea_nil fun v H1 e1 hv => (by
    obtain ⟨p, rfl, hl⟩ := hv
    exact all_standings_P hl : SpP _ _ _ (IsSts Z st.game.t (Ks565.all st.game.t.n)))) fun v H1 e1 hv => ?_
  obtain ⟨p, rfl, hS⟩ := hv
  obtain ⟨ps, h1, h2, h3⟩ := id hS
  refine s_retL (el_cat (el_lst (ea_cons (ev_len (ev_var rfl) (sq_of h1)) ea_nil) (by show 1 ≤ 100000; decide)) (el_call (ea_cons (ev_var rfl) ea_nil) (count_kinds_L hS)) (by
    show 1 + ((kindsTo st.game.t (Ks565.all st.game.t.n)).map V.int).length ≤ 100000
    unfold kindsTo
    rw [List.length_map, List.length_map, List.length_range]
    decide)) (q.ask hk ht e1 ?_)
  rw [List.length_map, h2]
  rfl
/-! run -/
def cRun (told : List Int) (c : Ks570.Call) : Prop := ∃ (x : Nat), told = [(x : Int)] ∧ c = .run x
theorem does_run {s : Ks570.State} {x : Nat} : Ks570.does1 s (.run x) = if 2 < x then (s, Ks570.no (-22)) else (s, { ret := ((Ks567.run s.game.t x Ks567.STEPS s.game.g []).1 : Nat), out := numB (Ks567.run s.game.t x Ks567.STEPS s.game.g []).2.1 :: Ks565.ints (Ks567.run s.game.t x Ks567.STEPS s.game.g []).2.2 }) := rfl
theorem Ok.all {s : Ks570.State} (o : Ok s) : s.game.g ∈ Ks565.all s.game.t.n := by
  obtain ⟨l, hl⟩ := o.game.tid
  have z := tidy_all l
  rw [← hl] at z
  have e : l.length = s.game.t.n := by rw [← o.game.len, hl, tidy_len]
  rw [e] at z
  exact z
/-- a run stays among all ways -/
theorem run_all {t : Ks565.Folk} {w n : Nat} : ∀ (f : Nat) (g : List Nat) (past : List (List Nat)), g ∈ Ks565.all n → (Ks567.run t w f g past).2.2 ∈ Ks565.all n
  | 0, g, past, h => h
  | f + 1, g, past, h => by
    cases hst : Ks567.step t w g with
    | none =>
      rw [run_rest hst]
      exact h
    | some p =>
      obtain ⟨i, k, x⟩ := p
      have hx : x ∈ Ks565.all n := by
        rw [step_go hst]
        exact go_all (all_length h)
      by_cases c : x ∈ past ++ [g]
      · rw [run_again hst c]
        exact hx
      · rw [run_on hst c]
        exact run_all f x (past ++ [g]) hx
abbrev s_answer_run : Stmt := top 90
abbrev N_answer_run : List Str := ["kept", "told", "way", "ended"]
abbrev P_answer_run : List Str := ["kept", "told"]
theorem sc_answer_run : FnScope N_answer_run P_answer_run (C8.fnScope s_answer_run) := C8.fnScope_by (by decide +kernel)
theorem cal_answer_run {Z : Zc} {f : Addr} {fd : FuncData} {T : List (Addr × Str)} (F : C8.Def K mg "answer_run" s_answer_run f fd) (b : Binds K fd P_answer_run []) (Cs : Cst K mg) (c_run_from : C8.Cal P w K mg base 6 "run_from" (sp_run_from Z T) []) (c_standing_of : C8.Cal P w K mg base 5 "standing_of" (sp_standing_of Z) []) (c_as_number : C8.Cal P w K mg base 1 "as_number" sp_as_number []) : C8.Cal P w K mg base 7 "answer_run" (spC Z T cRun) [] := by
  have sc := sc_answer_run; obtain ⟨_, m_LAST_WAY⟩ := Cs.LAST_WAY; obtain ⟨_, m_WRONG⟩ := Cs.WRONG
  refine C8.cal0 F b .nil sc (spC_len rfl) (fun cdv A outer s H vs Q E hr h => ?_)
  refine ⟨_, (pss_cons (ps_set (i := 2) sc.nd rfl (.inl rfl) (pe_ix (ixl K rfl) (pv 1) pe_int (fun _ _ => rfl)))
      (pss_cons (ps_if (pt_cmpR op_gt (pv 2) (pe_glob (v := .int (2)) (by rfl) m_LAST_WAY ⟨_, rfl⟩) (nomark _)) (pss_one (ps_ret (pe_lst (pa_cons (pe_glob (v := .int (-22)) (by rfl) m_WRONG ⟨_, rfl⟩) pa_nil)))) pss_nil)
      (pss_cons (ps_set (i := 3) sc.nd rfl (.inl rfl) (C8.pe_c c_run_from hr (by decide) (by rfl) (pa_cons (C8.pe_c c_standing_of hr (by decide) (by rfl) (pa_cons (pv 0) pa_nil)) (pa_cons (pv 2) pa_nil))))
      (pss_one (ps_ret (pe_op op_cat (pe_lst (pa_cons (pe_ix (ixt K rfl) (pv 3) pe_int (fun _ _ => rfl)) (pa_cons (C8.pe_c c_as_number hr (by decide) (by rfl) (pa_cons (pe_ix (ixt K rfl) (pv 3) pe_int (fun _ _ => rfl)) pa_nil)) pa_nil))) (pe_ix (ixt K rfl) (pv 3) pe_int (fun _ _ => rfl)))))))), ?_⟩
  obtain ⟨a, b, st, told, c, rfl, hk, ok, ht, hb, ⟨x, rfl, rfl⟩, q⟩ := h
  rw [does_run] at q
  refine q_asg (ev_nth 0 (ev_var rfl) hb rfl) fun H1 e1 => ?_
  refine q_when (et_test (ev_op (ev_var rfl) ev_c rv_I0)) (fun c H2 e2 => ?_) (fun c H2 e2 => ?_)
  · have z : 2 < x := by have := of_decide_eq_true c; omega
    rw [if_pos z] at q
    exact s_retL (el_lst (ea_cons ev_c ea_nil) (by show 1 ≤ 100000; decide)) (q.ask hk ht (e1.trans e2) rfl)
  · have z : ¬ 2 < x := by have := of_decide_eq_false c; omega
    rw [if_neg z] at q
    have e12 := e1.trans e2
    have k2 := hk.ex e12
    refine q_asgCallP std_mono (ep_call (ea_cons (ev_var rfl) ea_nil) (standing_of_P k2 ok)) (ea_cons (ev_var rfl) ea_nil) fun v H3 e3 hv => ?_
    obtain ⟨p, rfl, hs⟩ := hv
    refine ⟨p, st.game.t, st.game.g, x, rfl, hs, ok.all, by omega, ht.ext (e12.trans e3), fun pr ag H4 e4 t4 h4 hag => ?_⟩
    have hrl := all_length (run_all (t := st.game.t) (w := x) Ks567.STEPS st.game.g [] ok.all)
    have eN : ExtN H H4 := (ExtN.of (e12.trans e3)).trans e4
    refine s_retL (el_catL (el_lst (ea_cons (ev_op (ev_var rfl) ev_c (rv_ixT (st_of h4) (atI_nat (j := 0) rfl))) (ea_cons (ev_callP (ep_ev (ev_op (ev_var rfl) ev_c (rv_ixT (st_of h4) (atI_nat (j := 1) rfl)))) ea_nil fun v H5 e5 hv => (by
      subst hv
      exact as_number_V)) ea_nil)) (by show 2 ≤ 100000; decide)) (ev_op (ev_var rfl) ev_c (rv_ixT (st_of h4) (atI_nat (j := 2) rfl))) hag (by
      rw [nv_len, hrl]
      show 2 + _ ≤ 100000
      have := ok.le
      omega)) (q.askA hk eN t4 ?_)
    show V.int _ :: V.int _ :: nv _ = V.int _ :: V.int _ :: (Ks565.ints _).map V.int
    rw [ints_nv]
/-! round -/
def cRound (told : List Int) (c : Ks570.Call) : Prop := ∃ (x : Nat), told = [(x : Int)] ∧ c = .round x
theorem does_round {s : Ks570.State} {x : Nat} : Ks570.does1 s (.round x) = if 2 < x then (s, Ks570.no (-22)) else (s, { ret := ((Ks567.all s.game.t x s.game.g).length : Nat), out := [numB (Ks567.ends s.game.t x s.game.g), numB (Ks567.round s.game.t x s.game.g)] }) := rfl
theorem all_come_to_P {Z : Zc} {H : Hp} {a : Addr} {t : Ks565.Folk} {g : List Nat} {w : Nat} (hs : StdAt Z false H a t g) (hg : g ∈ Ks565.all t.n) (hw : w ≤ 2) : SpP (sp_all_come_to Z) [.ref a, .int (w : Int)] H (fun v H' => ∃ p l, v = .ref p ∧ BehAt H' p t w l ∧ ∀ x, x ∈ l ↔ Come t w g x) := fun H1 e Q q _ => ⟨a, t, g, w, rfl, hs.ex e, hg, hw, fun p l H2 e2 h2 h3 => q _ H2 e2 ⟨p, l, rfl, h2, h3⟩⟩
theorem goes_round_V {H : Hp} {d : Addr} {t : Ks565.Folk} {w : Nat} {g : List Nat} {l : List (List Nat)} (hb : BehAt H d t w l) (h0 : 0 < t.n) (h5 : t.n ≤ 5) (hg : g ∈ Ks565.all t.n) (hc : ∀ x, x ∈ l ↔ Come t w g x) : SpV sp_goes_round [.ref d] H (.bl (Ks567.round t w g)) := fun H1 e Q q _ => ⟨d, t, w, t.n, g, l, rfl, hb.ex e, h5, hg, h0, h5, rfl, hc, fun H2 e2 => q H2 e2⟩
abbrev s_answer_round : Stmt := top 91
abbrev N_answer_round : List Str := ["kept", "told", "way", "behind"]
abbrev P_answer_round : List Str := ["kept", "told"]
theorem sc_answer_round : FnScope N_answer_round P_answer_round (C8.fnScope s_answer_round) := C8.fnScope_by (by decide +kernel)
theorem cal_answer_round {Z : Zc} {f : Addr} {fd : FuncData} {T : List (Addr × Str)} (F : C8.Def K mg "answer_round" s_answer_round f fd) (b : Binds K fd P_answer_round []) (B : Blt mg) (Cs : Cst K mg) (c_all_come_to : C8.Cal P w K mg base 5 "all_come_to" (sp_all_come_to Z) []) (c_standing_of : C8.Cal P w K mg base 5 "standing_of" (sp_standing_of Z) []) (c_as_number : C8.Cal P w K mg base 1 "as_number" sp_as_number []) (c_goes_round : C8.Cal P w K mg base 1 "goes_round" sp_goes_round []) (c_rests_somewhere : C8.Cal P w K mg base 1 "rests_somewhere" sp_rests_somewhere []) : C8.Cal P w K mg base 6 "answer_round" (spC Z T cRound) [] := by
  have sc := sc_answer_round; have b_len := B.len; obtain ⟨_, m_LAST_WAY⟩ := Cs.LAST_WAY; obtain ⟨_, m_WRONG⟩ := Cs.WRONG
  refine C8.cal0 F b .nil sc (spC_len rfl) (fun cdv A outer s H vs Q E hr h => ?_)
  refine ⟨_, (pss_cons (ps_set (i := 2) sc.nd rfl (.inl rfl) (pe_ix (ixl K rfl) (pv 1) pe_int (fun _ _ => rfl)))
      (pss_cons (ps_if (pt_cmpR op_gt (pv 2) (pe_glob (v := .int (2)) (by rfl) m_LAST_WAY ⟨_, rfl⟩) (nomark _)) (pss_one (ps_ret (pe_lst (pa_cons (pe_glob (v := .int (-22)) (by rfl) m_WRONG ⟨_, rfl⟩) pa_nil)))) pss_nil)
      (pss_cons (ps_set (i := 3) sc.nd rfl (.inl rfl) (C8.pe_c c_all_come_to hr (by decide) (by rfl) (pa_cons (C8.pe_c c_standing_of hr (by decide) (by rfl) (pa_cons (pv 0) pa_nil)) (pa_cons (pv 2) pa_nil))))
      (pss_one (ps_ret (pe_lst (pa_cons (pe_callB call_len_dT (by rfl) b_len (by decide +kernel) (pa_cons (pv 3) pa_nil)) (pa_cons (C8.pe_c c_as_number hr (by decide) (by rfl) (pa_cons (C8.pe_c c_rests_somewhere hr (by decide) (by rfl) (pa_cons (pv 3) pa_nil)) pa_nil)) (pa_cons (C8.pe_c c_as_number hr (by decide) (by rfl) (pa_cons (C8.pe_c c_goes_round hr (by decide) (by rfl) (pa_cons (pv 3) pa_nil)) pa_nil)) pa_nil))))))))), ?_⟩
  obtain ⟨a, b, st, told, c, rfl, hk, ok, ht, hb, ⟨x, rfl, rfl⟩, q⟩ := h
  rw [does_round] at q
  refine q_asg (ev_nth 0 (ev_var rfl) hb rfl) fun H1 e1 => ?_
  refine q_when (et_test (ev_op (ev_var rfl) ev_c rv_I0)) (fun c H2 e2 => ?_) (fun c H2 e2 => ?_)
  · have z : 2 < x := by have := of_decide_eq_true c; omega
    rw [if_pos z] at q
    exact s_retL (el_lst (ea_cons ev_c ea_nil) (by show 1 ≤ 100000; decide)) (q.ask hk ht (e1.trans e2) rfl)
  · have z : ¬ 2 < x := by have := of_decide_eq_false c; omega
    rw [if_neg z] at q
    have e12 := e1.trans e2
    have k2 := hk.ex e12
    refine q_asgP (ep_callP (ep_call (ea_cons (ev_var rfl) ea_nil) (standing_of_P k2 ok)) (ea_cons (ev_var rfl) ea_nil) fun v H3 e3 hv => (by
      obtain ⟨p, rfl, hs⟩ := hv
      exact all_come_to_P hs ok.all (by omega) : SpP _ _ _ (fun v H' => ∃ p l, v = .ref p ∧ BehAt H' p st.game.t x l ∧ ∀ y, y ∈ l ↔ Come st.game.t x st.game.g y))) fun v H3 e3 hv => ?_
    obtain ⟨p, l, rfl, hB, hc⟩ := hv
    obtain ⟨ps, hd, hl, hn, hbb⟩ := id hB
    have hpl : ps.length = l.length := by rw [← hl, List.length_map]
    have hll : l.length ≤ 52 := ways_few ok.le hn fun y hy => come_all ok.all ((hc y).mp hy)
    have h1 := reach_len ok.le ok.all hn hc
    have h2 : l.any (Ks565.rests st.game.t x) = Ks567.ends st.game.t x st.game.g := by
      unfold Ks567.ends
      exact any_same _ fun y => (hc y).trans ((reach_all ok.le ok.all).2 y).symm
    refine s_retL (el_lst (ea_cons (ev_cb (ea_cons (ev_var rfl) ea_nil) (rc_lenT hd)) (ea_cons (ev_callP (ep_ev (ev_call (ea_cons (ev_var rfl) ea_nil) (rests_somewhere_V (fun H4 e4 => hB.ex e4) (by omega)))) ea_nil fun v H4 e4 hv => (by
      subst hv
      exact as_number_V)) (ea_cons (ev_callP (ep_ev (ev_call (ea_cons (ev_var rfl) ea_nil) (goes_round_V hB ok.pos ok.le ok.all hc))) ea_nil fun v H4 e4 hv => (by
      subst hv
      exact as_number_V)) ea_nil))) (by show 3 ≤ 100000; decide)) (q.ask hk ht (e12.trans e3) ?_)
    rw [behK_len, hpl, ← h1, h2]
    rfl
end Rg

set_option Elab.async false
set_option maxRecDepth 100000
set_option maxHeartbeats 2000000
set_option linter.unusedVariables false
/-! the answers that ask, the rest -/
namespace Rg
open PySem PySem.Spec PyProof.Rows L2 Evl LamX
variable {P : Program} {w : World} {K : PySem.W.Frag} {mg : Str → Option Value} {base : Heap}
/-- the best, told: how many groups, each person's, how good -/
def bestL (t : Ks565.Folk) (k : Nat) (g : List Nat) : List Int := ((Ks565.groups g : Nat) : Int) :: (Ks565.ints g ++ [Ks568.value t k g])
theorem bestL_map (t : Ks565.Folk) (k : Nat) (g : List Nat) : (V.int ((Ks565.groups g : Nat) : Int) :: nv g) ++ [V.int (Ks568.value t k g)] = (bestL t k g).map V.int := by
  unfold bestL
  rw [List.map_cons, List.map_append, ints_nv]
  rfl
/-! most -/
def cMost (told : List Int) (c : Ks570.Call) : Prop := ∃ (x : Nat), told = [(x : Int)] ∧ c = .most x
theorem does_most {s : Ks570.State} {x : Nat} : Ks570.does1 s (.most x) = if 1 < x then (s, Ks570.no (-22)) else match Ks568.best s.game.t x (Ks565.all s.game.t.n) with
    | none => (s, Ks570.no (-33))
    | some g => (s, { ret := ((Ks565.groups g : Nat) : Int), out := Ks565.ints g ++ [Ks568.value s.game.t x g] }) := rfl
theorem all_pos (n : Nat) : Ks565.all n ≠ [] := by
  have z := tidy_all (List.replicate n 0)
  rw [List.length_replicate] at z
  exact fun e => by rw [e] at z; cases z
abbrev s_answer_most : Stmt := top 92
abbrev N_answer_most : List Str := ["kept", "told", "k", "found"]
abbrev P_answer_most : List Str := ["kept", "told"]
theorem sc_answer_most : FnScope N_answer_most P_answer_most (C8.fnScope s_answer_most) := C8.fnScope_by (by decide +kernel)
theorem cal_answer_most {Z : Zc} {f : Addr} {fd : FuncData} {T : List (Addr × Str)} (F : C8.Def K mg "answer_most" s_answer_most f fd) (b : Binds K fd P_answer_most []) (Cs : Cst K mg) (ZT : ZTxt K Z) (c_best_by : C8.Cal P w K mg base 4 "best_by" (sp_best_by Z T) []) (c_all_standings : C8.Cal P w K mg base 5 "all_standings" (sp_all_standings Z) []) (c_liking_of : C8.Cal P w K mg base 4 "liking_of" (sp_liking_of Z) []) (c_told_groups : C8.Cal P w K mg base 2 "told_groups" sp_told_groups []) (c_goodness : C8.Cal P w K mg base 1 "goodness" (sp_goodness Z) []) : C8.Cal P w K mg base 6 "answer_most" (spC Z T cMost) [] := by
  have sc := sc_answer_most; obtain ⟨_, m_LAST_BEST⟩ := Cs.LAST_BEST; obtain ⟨_, m_WRONG⟩ := Cs.WRONG
  refine C8.cal0 F b .nil sc (spC_len rfl) (fun cdv A outer s H vs Q E hr h => ?_)
  refine ⟨_, (pss_cons (ps_set (i := 2) sc.nd rfl (.inl rfl) (pe_ix (ixl K rfl) (pv 1) pe_int (fun _ _ => rfl)))
      (pss_cons (ps_if (pt_cmpR op_gt (pv 2) (pe_glob (v := .int (1)) (by rfl) m_LAST_BEST ⟨_, rfl⟩) (nomark _)) (pss_one (ps_ret (pe_lst (pa_cons (pe_glob (v := .int (-22)) (by rfl) m_WRONG ⟨_, rfl⟩) pa_nil)))) pss_nil)
      (pss_cons (ps_set (i := 3) sc.nd rfl (.inl rfl) (C8.pe_c c_best_by hr (by decide) (by rfl) (pa_cons (C8.pe_c c_all_standings hr (by decide) (by rfl) (pa_cons (C8.pe_c c_liking_of hr (by decide) (by rfl) (pa_cons (pv 0) pa_nil)) pa_nil)) (pa_cons (pv 2) pa_nil))))
      (pss_one (ps_ret (pe_op op_cat (C8.pe_c c_told_groups hr (by decide) (by rfl) (pa_cons (peF K rfl (pv 3) rfl) pa_nil)) (pe_lst (pa_cons (C8.pe_c c_goodness hr (by decide) (by rfl) (pa_cons (pv 3) (pa_cons (pv 2) pa_nil))) pa_nil)))))))), ?_⟩
  obtain ⟨a, b, st, told, c, rfl, hk, ok, ht, hb, ⟨x, rfl, rfl⟩, q⟩ := h
  rw [does_most] at q
  refine q_asg (ev_nth 0 (ev_var rfl) hb rfl) fun H1 e1 => ?_
  refine q_when (et_test (ev_op (ev_var rfl) ev_c rv_I0)) (fun c H2 e2 => ?_) (fun c H2 e2 => ?_)
  · have z : 1 < x := by have := of_decide_eq_true c; omega
    rw [if_pos z] at q
    exact s_retL (el_lst (ea_cons ev_c ea_nil) (by show 1 ≤ 100000; decide)) (q.ask hk ht (e1.trans e2) rfl)
  · have z : ¬ 1 < x := by have := of_decide_eq_false c; omega
    rw [if_neg z] at q
    have e12 := e1.trans e2
    have k2 := hk.ex e12
    refine q_asgCallP sts_mono (ep_callP (ep_call (ea_cons (ev_var rfl) ea_nil) (liking_of_P k2 ok)) ea_nil fun v H3 e3 hv => (by
      obtain ⟨p, rfl, hl⟩ := hv
      exact all_standings_P hl : SpP _ _ _ (IsSts Z st.game.t (Ks565.all st.game.t.n)))) (ea_cons (ev_var rfl) ea_nil) fun v H3 e3 hv => ?_
    obtain ⟨p, rfl, hS⟩ := hv
    refine ⟨p, st.game.t, _, x, rfl, hS, by omega, ht.ext (e12.trans e3), fun hbn H4 e4 t4 => ?_, fun g hbs pf H4 e4 t4 hs => ?_⟩
    · exfalso
      cases hz : Ks565.all st.game.t.n with
      | nil => exact all_pos _ hz
      | cons g l =>
        rw [hz, best_cons] at hbn
        cases hbn
    · rw [hbs] at q
      obtain ⟨ag, hag, evg⟩ := ev_groups ZT hs
      have hag : H4 ag = some (.lst (nv g)) := hag
      have eN : ExtN H H4 := (ExtN.of (e12.trans e3)).trans e4
      refine s_retL (el_cat (el_call (ea_cons (evg (Ex.refl H4) (ev_var rfl)) ea_nil) (told_groups_L hag (by rw [hs.len]; exact hs.pos) (by rw [hs.len]; have := hs.le5; omega))) (el_lst (ea_cons (ev_call (ea_cons (ev_var rfl) (ea_cons (ev_var rfl) ea_nil)) (goodness_V hs (by omega))) ea_nil) (by show 1 ≤ 100000; decide)) ?_) (q.askA hk eN t4 (bestL_map _ _ _))
      show (nv g).length + 1 + 1 ≤ 100000
      rw [nv_len, hs.len]
      have := hs.le5
      omega
/-! among -/
/-- those of the standings that are kept -/
theorem sts_given {Z : Zc} {H : Hp} {p : Addr} {t : Ks565.Folk} {l : List (List Nat)} {ps : List Addr} (f : List Nat → Bool) (h2 : ps.length = l.length) (h3 : ∀ (j : Nat) (q : Addr), ps[j]? = some q → ∃ g, l[j]? = some g ∧ StdAt Z false H q t g)
    (hp : H p = some (.lst (given ps.length (fun i => f (l.getD i [])) (fun i => V.ref (ps.getD i 0))))) : StsAt Z H p t (l.filter f) := by
  refine ⟨((List.range ps.length).filter fun i => f (l.getD i [])).map fun i => ps.getD i 0, ?_, ?_, fun j q hj => ?_⟩
  · rw [hp]
    unfold given
    rw [List.map_map]
    rfl
  · have e : l.filter f = ((List.range ps.length).filter fun i => f (l.getD i [])).map fun i => l.getD i [] := by
      have key : ∀ n, n ≤ l.length → (l.take n).filter f = ((List.range n).filter fun i => f (l.getD i [])).map fun i => l.getD i [] := by
        intro n
        induction n with
        | zero => intro _; rfl
        | succ n ih =>
          intro hn
          have ht : l.take (n + 1) = l.take n ++ [l.getD n []] := by
            rw [List.take_add_one, List.getD_eq_getElem?_getD, List.getElem?_eq_getElem (by omega)]
            rfl
          rw [ht, List.filter_append, ih (by omega), List.range_succ, List.filter_append, List.map_append]
          congr 1
          rw [List.filter_cons, List.filter_cons]
          by_cases c : f (l.getD n []) = true
          · rw [if_pos c, if_pos c]
            rfl
          · rw [if_neg c, if_neg c]
            rfl
      have z := key l.length (Nat.le_refl _)
      rw [List.take_length] at z
      rw [h2]
      exact z
    rw [e, List.length_map, List.length_map]
  · have e : l.filter f = ((List.range ps.length).filter fun i => f (l.getD i [])).map fun i => l.getD i [] := by
      have key : ∀ n, n ≤ l.length → (l.take n).filter f = ((List.range n).filter fun i => f (l.getD i [])).map fun i => l.getD i [] := by
        intro n
        induction n with
        | zero => intro _; rfl
        | succ n ih =>
          intro hn
          have ht : l.take (n + 1) = l.take n ++ [l.getD n []] := by
            rw [List.take_add_one, List.getD_eq_getElem?_getD, List.getElem?_eq_getElem (by omega)]
            rfl
          rw [ht, List.filter_append, ih (by omega), List.range_succ, List.filter_append, List.map_append]
          congr 1
          rw [List.filter_cons, List.filter_cons]
          by_cases c : f (l.getD n []) = true
          · rw [if_pos c, if_pos c]
            rfl
          · rw [if_neg c, if_neg c]
            rfl
      have z := key l.length (Nat.le_refl _)
      rw [List.take_length] at z
      rw [h2]
      exact z
    rw [List.getElem?_map] at hj
    cases hx : ((List.range ps.length).filter fun i => f (l.getD i []))[j]? with
    | none => rw [hx] at hj; cases hj
    | some i =>
      rw [hx] at hj
      have hj : ps.getD i 0 = q := Option.some.inj hj
      have hi : i < ps.length := List.mem_range.mp (List.mem_filter.mp (List.mem_of_getElem? hx)).1
      have hpi : ps[i]? = some q := by rw [← hj, List.getD_eq_getElem?_getD, List.getElem?_eq_getElem hi]; rfl
      obtain ⟨g, k1, k2⟩ := h3 i q hpi
      refine ⟨g, ?_, k2⟩
      rw [e, List.getElem?_map, hx]
      show some (l.getD i []) = some g
      rw [List.getD_eq_getElem?_getD, k1]
      rfl
def cAmong (told : List Int) (c : Ks570.Call) : Prop := ∃ (k x : Nat), told = [(k : Int), (x : Int)] ∧ c = .among k x
theorem does_among {s : Ks570.State} {k x : Nat} : Ks570.does1 s (.among k x) = if 1 < k ∨ 4 < x then (s, Ks570.no (-22)) else match Ks568.best s.game.t k (Ks568.kind s.game.t x) with
    | none => (s, Ks570.no (-33))
    | some g => (s, { ret := ((Ks565.groups g : Nat) : Int), out := Ks565.ints g ++ [Ks568.value s.game.t k g] }) := rfl
abbrev s_answer_among : Stmt := top 93
abbrev N_answer_among : List Str := ["kept", "told", "k", "w", "standings", "found", "standing"]
abbrev P_answer_among : List Str := ["kept", "told"]
theorem sc_answer_among : FnScope N_answer_among P_answer_among (C8.fnScope s_answer_among) := C8.fnScope_by (by decide +kernel)
theorem cal_answer_among {Z : Zc} {f : Addr} {fd : FuncData} {T : List (Addr × Str)} (F : C8.Def K mg "answer_among" s_answer_among f fd) (b : Binds K fd P_answer_among []) (Cs : Cst K mg) (ZT : ZTxt K Z) (c_all_standings : C8.Cal P w K mg base 5 "all_standings" (sp_all_standings Z) []) (c_liking_of : C8.Cal P w K mg base 4 "liking_of" (sp_liking_of Z) []) (c_best_by : C8.Cal P w K mg base 4 "best_by" (sp_best_by Z T) []) (c_kinds_of : C8.Cal P w K mg base 4 "kinds_of" (sp_kinds_of Z) []) (c_told_groups : C8.Cal P w K mg base 2 "told_groups" sp_told_groups []) (c_goodness : C8.Cal P w K mg base 1 "goodness" (sp_goodness Z) []) : C8.Cal P w K mg base 6 "answer_among" (spC Z T cAmong) [] := by
  have sc := sc_answer_among; obtain ⟨_, m_LAST_KIND⟩ := Cs.LAST_KIND; obtain ⟨_, m_LAST_BEST⟩ := Cs.LAST_BEST; obtain ⟨_, m_WRONG⟩ := Cs.WRONG; obtain ⟨_, m_NONE_SUCH⟩ := Cs.NONE_SUCH
  refine C8.cal0 F b .nil sc (spC_len rfl) (fun cdv A outer s H vs Q E hr h => ?_)
  refine ⟨_, (pss_cons (ps_set (i := 2) sc.nd rfl (.inl rfl) (pe_ix (ixl K rfl) (pv 1) pe_int (fun _ _ => rfl)))
      (pss_cons (ps_set (i := 3) sc.nd rfl (.inr rfl) (pe_ix (ixl K rfl) (pv 1) pe_int (fun _ _ => rfl)))
      (pss_cons (ps_if (PW.pt (pw_or (pt_cmpR op_gt (pv 2) (pe_glob (v := .int (1)) (by rfl) m_LAST_BEST ⟨_, rfl⟩) (nomark _)) (pw_or1 (pt_cmpR op_gt (pv 3) (pe_glob (v := .int (4)) (by rfl) m_LAST_KIND ⟨_, rfl⟩) (nomark _))))) (pss_one (ps_ret (pe_lst (pa_cons (pe_glob (v := .int (-22)) (by rfl) m_WRONG ⟨_, rfl⟩) pa_nil)))) pss_nil)
      (pss_cons (ps_set (i := 4) sc.nd rfl (.inl rfl) (C8.pe_c c_all_standings hr (by decide) (by rfl) (pa_cons (C8.pe_c c_liking_of hr (by decide) (by rfl) (pa_cons (pv 0) pa_nil)) pa_nil)))
      (pss_cons (ps_set (i := 5) sc.nd rfl (.inl rfl) (C8.pe_c c_best_by hr (by decide) (by rfl) (pa_cons (pe_lc (own := [("standing", 6)]) rfl sc.nd (piL K rfl (pv 4)) (blkOk_by (own := [("standing", 6)]) (N := N_answer_among) (sc := C8.fnScope s_answer_among) (by decide +kernel)) (fun _ _ _ _ _ => (pg_name (i := 6) sc.nd rfl (Or.inl rfl))) (fun _ _ _ _ _ => (pts_one (pt_val (pe_ix (ixl K rfl) (C8.pe_c c_kinds_of hr (by decide) (by rfl) (pa_cons (pv 6) pa_nil)) (pv 3) (fun _ _ => rfl))))) (fun _ _ _ _ _ => (pv 6))) (pa_cons (pv 2) pa_nil))))
      (pss_cons (ps_if (pt_cmpR op_isN (pv 5) pe_non (nomark _)) (pss_one (ps_ret (pe_lst (pa_cons (pe_glob (v := .int (-33)) (by rfl) m_NONE_SUCH ⟨_, rfl⟩) pa_nil)))) pss_nil)
      (pss_one (ps_ret (pe_op op_cat (C8.pe_c c_told_groups hr (by decide) (by rfl) (pa_cons (peF K rfl (pv 5) rfl) pa_nil)) (pe_lst (pa_cons (C8.pe_c c_goodness hr (by decide) (by rfl) (pa_cons (pv 5) (pa_cons (pv 2) pa_nil))) pa_nil))))))))))), ?_⟩
  obtain ⟨a, b, st, told, c, rfl, hk, ok, ht, hb, ⟨k, x, rfl, rfl⟩, q⟩ := h
  rw [does_among] at q
  refine q_asg (ev_nth 0 (ev_var rfl) hb rfl) fun H1 e1 => ?_
  refine q_asg (ev_nth 1 (ev_var rfl) (e1 _ _ hb) rfl) fun H2 e2 => ?_
  have e12 := e1.trans e2
  refine q_when (et_or (et_test (ev_op (ev_var rfl) ev_c rv_I0)) fun _ => et_test (ev_op (ev_var rfl) ev_c rv_I0)) (fun c H3 e3 => ?_) (fun c H3 e3 => ?_)
  · have hbad : 1 < k ∨ 4 < x := by
      rw [Bool.or_eq_true, decide_eq_true_eq, decide_eq_true_eq] at c
      omega
    rw [if_pos hbad] at q
    exact s_retL (el_lst (ea_cons ev_c ea_nil) (by show 1 ≤ 100000; decide)) (q.ask hk ht (e12.trans e3) rfl)
  · have hgood : ¬ (1 < k ∨ 4 < x) := by
      rw [Bool.or_eq_false_iff, decide_eq_false_iff_not, decide_eq_false_iff_not] at c
      omega
    rw [if_neg hgood, kind_is] at q
    have e13 := e12.trans e3
    refine q_asgP (ep_callP (ep_call (ea_cons (ev_var rfl) ea_nil) (liking_of_P (hk.ex e13) ok)) ea_nil fun v H4 e4 hv => (by
      obtain ⟨p, rfl, hl⟩ := hv
      exact all_standings_P hl : SpP _ _ _ (IsSts Z st.game.t (Ks565.all st.game.t.n)))) fun v H4 e4 hv => ?_
    obtain ⟨pS, rfl, hS⟩ := hv
    obtain ⟨ps, h1, h2, h3⟩ := id hS
    have hcount := all_count st.game.t.n (by have := ok.le; omega)
    have e14 := e13.trans e4
    have evF : EvP (tLc (iList K (tVar 4)) (gName 6) (tB (tOp (rIxL K) (tCall (sp_kinds_of Z) [] C8.E0 (tCons (tVar 6) tNil)) (tVar 3))) (tVar 6) [6]) [some (.ref a), some (.ref b), some (.int (k : Int)), some (.int (x : Int)), some (.ref pS), none, none] H4 (IsSts Z st.game.t ((Ks565.all st.game.t.n).filter fun g => kindB st.game.t g x)) := by
      have z := el_lcL (K := K) (σ := [some (.ref a), some (.ref b), some (.int (k : Int)), some (.int (x : Int)), some (.ref pS), none, none]) (H := H4) (tl := tVar 4) (te := tVar 6) (t := tB (tOp (rIxL K) (tCall (sp_kinds_of Z) [] C8.E0 (tCons (tVar 6) tNil)) (tVar 3))) (j := 6) (vs := [6]) (fun i => kindB st.game.t ((Ks565.all st.game.t.n).getD i []) x) (fun i => V.ref (ps.getD i 0)) (ev_var rfl) (sq_of h1) (by rw [List.length_map]; omega) (fun y => rfl) (fun i y H5 e5 hy => ?_) (fun i y H5 e5 hy _ => ?_)
      · intro H5 e5 Q5 q5
        refine z H5 e5 Q5 fun p H6 hp e6 h6 => q5 _ H6 e6 ⟨p, rfl, ?_⟩
        rw [List.length_map] at h6
        refine sts_given (fun g => kindB st.game.t g x) h2 (fun j qq hj => ?_) h6
        obtain ⟨g, k1, k2⟩ := h3 j qq hj
        exact ⟨g, k1, k2.ex (e5.trans e6)⟩
      · obtain ⟨r, hr, rfl⟩ := ref_at hy
        obtain ⟨g, k1, k2⟩ := h3 i r hr
        rw [show (Ks565.all st.game.t.n).getD i [] = g by rw [List.getD_eq_getElem?_getD, k1]; rfl]
        exact et_B (ev_opL1 (el_call (ea_cons (ev_var rfl) ea_nil) (kinds_of_L (k2.ex e5))) (fun H6 e6 => ev_var rfl) fun p H6 h6 e6 => rv_ixL (sq_of h6) (atI_nat (kinds_at (by omega))))
      · obtain ⟨r, hr, rfl⟩ := ref_at hy
        rw [show ps.getD i 0 = r by rw [List.getD_eq_getElem?_getD, hr]; rfl]
        exact ev_var rfl
    refine q_asgCallP sts_mono evF (ea_cons (ev_var rfl) ea_nil) fun v H5 e5 hv => ?_
    obtain ⟨pf, rfl, hF⟩ := hv
    refine ⟨pf, st.game.t, _, k, rfl, hF, by omega, ht.ext (e14.trans e5), fun hbn H6 e6 t6 => ?_, fun g hbs pr H6 e6 t6 hs => ?_⟩
    · rw [hbn] at q
      have eN : ExtN H H6 := (ExtN.of (e14.trans e5)).trans e6
      refine q_when (et_test (b := true) (fun H7 e7 Q' q' => ⟨_, rfl, rfl, q' H7 (Ex.refl H7)⟩)) (fun c H7 e7 => ?_) (fun c H7 e7 => Bool.noConfusion c)
      exact s_retL (el_lst (ea_cons ev_c ea_nil) (by show 1 ≤ 100000; decide)) (q.askA hk (eN.trans (ExtN.of e7)) (t6.ext e7) rfl)
    · rw [hbs] at q
      have eN : ExtN H H6 := (ExtN.of (e14.trans e5)).trans e6
      refine q_when (et_test (b := false) (fun H7 e7 Q' q' => ⟨_, rfl, rfl, q' H7 (Ex.refl H7)⟩)) (fun c H7 e7 => Bool.noConfusion c) (fun c H7 e7 => ?_)
      have s7 := hs.ex e7
      obtain ⟨ag, hag, evg⟩ := ev_groups ZT s7
      have hag : H7 ag = some (.lst (nv g)) := hag
      refine s_retL (el_cat (el_call (ea_cons (evg (Ex.refl H7) (ev_var rfl)) ea_nil) (told_groups_L hag (by rw [hs.len]; exact hs.pos) (by rw [hs.len]; have := hs.le5; omega))) (el_lst (ea_cons (ev_call (ea_cons (ev_var rfl) (ea_cons (ev_var rfl) ea_nil)) (goodness_V s7 (by omega))) ea_nil) (by show 1 ≤ 100000; decide)) ?_) (q.askA hk (eN.trans (ExtN.of e7)) (t6.ext e7) (bestL_map _ _ _))
      show (nv g).length + 1 + 1 ≤ 100000
      rw [nv_len, hs.len]
      have := hs.le5
      omega
/-! beaten, perfect -/
theorem first_beating_P {Z : Zc} {tp : Bool} {H : Hp} {a : Addr} {t : Ks565.Folk} {g : List Nat} (hs : StdAt Z tp H a t g) : SpP (sp_first_beating Z) [.ref a] H (IsOpt Z t (Ks568.beaten t g)) := fun H1 e Q q _ => ⟨a, tp, t, g, rfl, hs.ex e, fun hn H2 e2 => q _ H2 e2 (.inl ⟨hn, rfl⟩), fun h hh p H2 e2 h2 => q _ H2 e2 (.inr ⟨p, h, hh, rfl, h2⟩)⟩
theorem first_perfect_P {Z : Zc} {H : Hp} {a : Addr} {t : Ks565.Folk} (hl : LikAt Z H a t) : SpP (sp_first_perfect Z) [.ref a] H (IsOpt Z t ((Ks565.all t.n).find? (Ks566.perfect t))) := fun H1 e Q q _ => ⟨a, t, rfl, hl.ex e, fun hn H2 e2 => q _ H2 e2 (.inl ⟨hn, rfl⟩), fun h hh p H2 e2 h2 => q _ H2 e2 (.inr ⟨p, h, hh, rfl, h2⟩)⟩
def ansO (s : Ks570.State) : Option (List Nat) → Ks570.State × Ks570.Ans
  | none => (s, Ks570.no (-33))
  | some h => (s, { ret := ((Ks565.groups h : Nat) : Int), out := Ks565.ints h })
theorem ansO_is (s : Ks570.State) (o : Option (List Nat)) : ∃ an : Ks570.Ans, ansO s o = (s, an) ∧ an.ret :: an.out = optL o := by
  cases o with
  | none => exact ⟨_, rfl, rfl⟩
  | some h => exact ⟨_, rfl, rfl⟩
def cBeaten (told : List Int) (c : Ks570.Call) : Prop := told = [] ∧ c = .beaten
theorem does_beaten {s : Ks570.State} : Ks570.does1 s .beaten = ansO s (Ks568.beaten s.game.t s.game.g) := by
  show (match Ks568.beaten s.game.t s.game.g with
    | none => (s, Ks570.no (-33))
    | some h => (s, ({ ret := Ks565.groups h, out := Ks565.ints h } : Ks570.Ans))) = _
  cases Ks568.beaten s.game.t s.game.g <;> rfl
abbrev s_answer_beaten : Stmt := top 94
abbrev N_answer_beaten : List Str := ["kept", "told"]
abbrev P_answer_beaten : List Str := ["kept", "told"]
theorem sc_answer_beaten : FnScope N_answer_beaten P_answer_beaten (C8.fnScope s_answer_beaten) := C8.fnScope_by (by decide +kernel)
theorem cal_answer_beaten {Z : Zc} {f : Addr} {fd : FuncData} {T : List (Addr × Str)} (F : C8.Def K mg "answer_beaten" s_answer_beaten f fd) (b : Binds K fd P_answer_beaten [])  (c_told_if_any : C8.Cal P w K mg base 3 "told_if_any" (sp_told_if_any Z) []) (c_first_beating : C8.Cal P w K mg base 6 "first_beating" (sp_first_beating Z) []) (c_standing_of : C8.Cal P w K mg base 5 "standing_of" (sp_standing_of Z) []) : C8.Cal P w K mg base 7 "answer_beaten" (spC Z T cBeaten) [] := by
  have sc := sc_answer_beaten
  refine C8.cal0 F b .nil sc (spC_len rfl) (fun cdv A outer s H vs Q E hr h => ?_)
  refine ⟨_, (pss_one (ps_ret (C8.pe_c c_told_if_any hr (by decide) (by rfl) (pa_cons (C8.pe_c c_first_beating hr (by decide) (by rfl) (pa_cons (C8.pe_c c_standing_of hr (by decide) (by rfl) (pa_cons (pv 0) pa_nil)) pa_nil)) pa_nil)))), ?_⟩
  obtain ⟨a, b, st, told, c, rfl, hk, ok, ht, hb, ⟨rfl, rfl⟩, q⟩ := h
  rw [does_beaten] at q
  obtain ⟨an, e1, e2⟩ := ansO_is st (Ks568.beaten st.game.t st.game.g)
  rw [e1] at q
  refine s_retL (el_callP (R1 := IsOpt Z st.game.t (Ks568.beaten st.game.t st.game.g)) (ep_callP (ep_call (ea_cons (ev_var rfl) ea_nil) (standing_of_P hk ok)) ea_nil fun v H1 e1 hv => ?_) ea_nil fun v H1 e1 hv => told_if_any_L fun H2 e2 => opt_mono e2 hv) (q.ask hk ht (Ex.refl H) (by rw [e2]))
  obtain ⟨p, rfl, hs⟩ := hv
  exact first_beating_P hs
def cPerfect (told : List Int) (c : Ks570.Call) : Prop := told = [] ∧ c = .perfect
theorem does_perfect {s : Ks570.State} : Ks570.does1 s .perfect = ansO s ((Ks565.all s.game.t.n).find? (Ks566.perfect s.game.t)) := by
  show (match (Ks565.all s.game.t.n).find? (Ks566.perfect s.game.t) with
    | none => (s, Ks570.no (-33))
    | some g => (s, ({ ret := Ks565.groups g, out := Ks565.ints g } : Ks570.Ans))) = _
  cases (Ks565.all s.game.t.n).find? (Ks566.perfect s.game.t) <;> rfl
abbrev s_answer_perfect : Stmt := top 97
abbrev N_answer_perfect : List Str := ["kept", "told"]
abbrev P_answer_perfect : List Str := ["kept", "told"]
theorem sc_answer_perfect : FnScope N_answer_perfect P_answer_perfect (C8.fnScope s_answer_perfect) := C8.fnScope_by (by decide +kernel)
theorem cal_answer_perfect {Z : Zc} {f : Addr} {fd : FuncData} {T : List (Addr × Str)} (F : C8.Def K mg "answer_perfect" s_answer_perfect f fd) (b : Binds K fd P_answer_perfect [])  (c_told_if_any : C8.Cal P w K mg base 3 "told_if_any" (sp_told_if_any Z) []) (c_first_perfect : C8.Cal P w K mg base 6 "first_perfect" (sp_first_perfect Z) []) (c_liking_of : C8.Cal P w K mg base 4 "liking_of" (sp_liking_of Z) []) : C8.Cal P w K mg base 7 "answer_perfect" (spC Z T cPerfect) [] := by
  have sc := sc_answer_perfect
  refine C8.cal0 F b .nil sc (spC_len rfl) (fun cdv A outer s H vs Q E hr h => ?_)
  refine ⟨_, (pss_one (ps_ret (C8.pe_c c_told_if_any hr (by decide) (by rfl) (pa_cons (C8.pe_c c_first_perfect hr (by decide) (by rfl) (pa_cons (C8.pe_c c_liking_of hr (by decide) (by rfl) (pa_cons (pv 0) pa_nil)) pa_nil)) pa_nil)))), ?_⟩
  obtain ⟨a, b, st, told, c, rfl, hk, ok, ht, hb, ⟨rfl, rfl⟩, q⟩ := h
  rw [does_perfect] at q
  obtain ⟨an, e1, e2⟩ := ansO_is st ((Ks565.all st.game.t.n).find? (Ks566.perfect st.game.t))
  rw [e1] at q
  refine s_retL (el_callP (R1 := IsOpt Z st.game.t ((Ks565.all st.game.t.n).find? (Ks566.perfect st.game.t))) (ep_callP (ep_call (ea_cons (ev_var rfl) ea_nil) (liking_of_P hk ok)) ea_nil fun v H1 e1 hv => ?_) ea_nil fun v H1 e1 hv => told_if_any_L fun H2 e2 => opt_mono e2 hv) (q.ask hk ht (Ex.refl H) (by rw [e2]))
  obtain ⟨p, rfl, hs⟩ := hv
  exact first_perfect_P hs
/-! envies -/
def cEnvies (told : List Int) (c : Ks570.Call) : Prop := told = [] ∧ c = .envies
theorem does_envies {s : Ks570.State} : Ks570.does1 s .envies = (s, { ret := ((Ks568.envies s.game.t s.game.g).length : Nat), out := flatP (Ks568.envies s.game.t s.game.g) }) := rfl
abbrev s_answer_envies : Stmt := top 95
abbrev N_answer_envies : List Str := ["kept", "told"]
abbrev P_answer_envies : List Str := ["kept", "told"]
theorem sc_answer_envies : FnScope N_answer_envies P_answer_envies (C8.fnScope s_answer_envies) := C8.fnScope_by (by decide +kernel)
theorem cal_answer_envies {Z : Zc} {f : Addr} {fd : FuncData} {T : List (Addr × Str)} (F : C8.Def K mg "answer_envies" s_answer_envies f fd) (b : Binds K fd P_answer_envies [])  (c_counted_pairs : C8.Cal P w K mg base 1 "counted_pairs" sp_counted_pairs []) (c_envious_pairs : C8.Cal P w K mg base 2 "envious_pairs" (sp_envious_pairs Z) []) (c_standing_of : C8.Cal P w K mg base 5 "standing_of" (sp_standing_of Z) []) : C8.Cal P w K mg base 6 "answer_envies" (spC Z T cEnvies) [] := by
  have sc := sc_answer_envies
  refine C8.cal0 F b .nil sc (spC_len rfl) (fun cdv A outer s H vs Q E hr h => ?_)
  refine ⟨_, (pss_one (ps_ret (C8.pe_c c_counted_pairs hr (by decide) (by rfl) (pa_cons (C8.pe_c c_envious_pairs hr (by decide) (by rfl) (pa_cons (C8.pe_c c_standing_of hr (by decide) (by rfl) (pa_cons (pv 0) pa_nil)) pa_nil)) pa_nil)))), ?_⟩
  obtain ⟨a, b, st, told, c, rfl, hk, ok, ht, hb, ⟨rfl, rfl⟩, q⟩ := h
  rw [does_envies] at q
  have hml : (Ks568.envies st.game.t st.game.g).length ≤ 25 := by
    have z := envTo_len st.game.t st.game.g st.game.t.n
    rw [env_all] at z
    exact Nat.le_trans z (Nat.mul_le_mul ok.le ok.le)
  refine s_retL (el_callP (R1 := IsPairs (Ks568.envies st.game.t st.game.g)) (ep_callP (ep_call (ea_cons (ev_var rfl) ea_nil) (standing_of_P hk ok)) ea_nil fun v H3 e3 hv => ?_) ea_nil fun v H3 e3 hv => ?_) (q.ask hk ht (Ex.refl H) rfl)
  · obtain ⟨p, rfl, hs⟩ := hv
    exact envious_pairs_P hs
  · obtain ⟨p, rfl, hp⟩ := hv
    exact counted_pairs_L hp (by omega)
/-! firm -/
def cFirm (told : List Int) (c : Ks570.Call) : Prop := told = [] ∧ c = .firm
theorem does_firm {s : Ks570.State} : Ks570.does1 s .firm = (s, Ks570.told ((List.range (2 ^ s.game.t.n)).filter (Ks566.firm s.game.t))) := rfl
abbrev s_answer_firm : Stmt := top 96
abbrev N_answer_firm : List Str := ["kept", "told"]
abbrev P_answer_firm : List Str := ["kept", "told"]
theorem sc_answer_firm : FnScope N_answer_firm P_answer_firm (C8.fnScope s_answer_firm) := C8.fnScope_by (by decide +kernel)
theorem cal_answer_firm {Z : Zc} {f : Addr} {fd : FuncData} {T : List (Addr × Str)} (F : C8.Def K mg "answer_firm" s_answer_firm f fd) (b : Binds K fd P_answer_firm [])  (c_counted : C8.Cal P w K mg base 1 "counted" sp_counted []) (c_firm_sets : C8.Cal P w K mg base 3 "firm_sets" (sp_firm_sets Z) []) (c_liking_of : C8.Cal P w K mg base 4 "liking_of" (sp_liking_of Z) []) : C8.Cal P w K mg base 5 "answer_firm" (spC Z T cFirm) [] := by
  have sc := sc_answer_firm
  refine C8.cal0 F b .nil sc (spC_len rfl) (fun cdv A outer s H vs Q E hr h => ?_)
  refine ⟨_, (pss_one (ps_ret (C8.pe_c c_counted hr (by decide) (by rfl) (pa_cons (C8.pe_c c_firm_sets hr (by decide) (by rfl) (pa_cons (C8.pe_c c_liking_of hr (by decide) (by rfl) (pa_cons (pv 0) pa_nil)) pa_nil)) pa_nil)))), ?_⟩
  obtain ⟨a, b, st, told, c, rfl, hk, ok, ht, hb, ⟨rfl, rfl⟩, q⟩ := h
  rw [does_firm] at q
  have hfl : ((List.range (2 ^ st.game.t.n)).filter (Ks566.firm st.game.t)).length ≤ 32 := by
    refine Nat.le_trans (List.length_filter_le _ _) ?_
    rw [List.length_range]
    exact pow_le32 ok.le
  refine s_retL (el_call1 (el_callP (xs := nv ((List.range (2 ^ st.game.t.n)).filter (Ks566.firm st.game.t))) (ep_call (ea_cons (ev_var rfl) ea_nil) (liking_of_P hk ok)) ea_nil fun v H3 e3 hv => ?_) fun p H3 h3 e3 => counted_L h3 ?_) (q.ask hk ht (Ex.refl H) ?_)
  · obtain ⟨p, rfl, hl⟩ := hv
    exact firm_sets_L hl
  · rw [nv_len]
    omega
  · rw [nv_len, nv_ints]
    rfl
/-! likes -/
def cLikes (told : List Int) (c : Ks570.Call) : Prop := ∃ (x : Nat), told = [(x : Int)] ∧ c = .likes x
theorem does_likes {s : Ks570.State} {i : Nat} : Ks570.does1 s (.likes i) = if s.game.t.n ≤ i then (s, Ks570.no (-2)) else (s, { ret := (s.game.t.n : Int), out := (List.range s.game.t.n).map (Ks565.likes s.game.t i) }) := rfl
abbrev s_answer_likes : Stmt := top 98
abbrev N_answer_likes : List Str := ["kept", "told", "i"]
abbrev P_answer_likes : List Str := ["kept", "told"]
theorem sc_answer_likes : FnScope N_answer_likes P_answer_likes (C8.fnScope s_answer_likes) := C8.fnScope_by (by decide +kernel)
theorem cal_answer_likes {Z : Zc} {f : Addr} {fd : FuncData} {T : List (Addr × Str)} (F : C8.Def K mg "answer_likes" s_answer_likes f fd) (b : Binds K fd P_answer_likes []) (Cs : Cst K mg) (ZT : ZTxt K Z) (c_counted : C8.Cal P w K mg base 1 "counted" sp_counted []) (c_is_person : C8.Met P w K mg base 1 Z.kept "is_person" (sp_Kept_is_person Z.kept) []) : C8.Cal P w K mg base 2 "answer_likes" (spC Z T cLikes) [] := by
  have sc := sc_answer_likes; obtain ⟨_, m_NOT_THERE⟩ := Cs.NOT_THERE
  refine C8.cal0 F b .nil sc (spC_len rfl) (fun cdv A outer s H vs Q E hr h => ?_)
  refine ⟨_, (pss_cons (ps_set (i := 2) sc.nd rfl (.inl rfl) (pe_ix (ixl K rfl) (pv 1) pe_int (fun _ _ => rfl)))
      (pss_cons (ps_if (pt_not (pt_val (C8.pe_mt c_is_person hr (by decide) (pv 0) (pa_cons (pv 2) pa_nil)))) (pss_one (ps_ret (pe_lst (pa_cons (pe_glob (v := .int (-2)) (by rfl) m_NOT_THERE ⟨_, rfl⟩) pa_nil)))) pss_nil)
      (pss_one (ps_ret (C8.pe_c c_counted hr (by decide) (by rfl) (pa_cons (pe_ix (ixl K rfl) (peF K rfl (pv 0) rfl) (pv 2) (fun _ _ => rfl)) pa_nil)))))), ?_⟩
  obtain ⟨a, b, st, told, c, rfl, hk, ok, ht, hb, ⟨i, rfl, rfl⟩, q⟩ := h
  rw [does_likes] at q
  have hlen := ok.game.len
  obtain ⟨dx, aw, ag, ap, ha, hgm, hpa, h10⟩ := id hk
  refine q_asg (ev_nth 0 (ev_var rfl) hb rfl) fun H1 e1 => ?_
  refine q_when (et_not (et_B (ev_isP (hk.ex e1) (ev_var rfl) (ev_var rfl)))) (fun c H2 e2 => ?_) (fun c H2 e2 => ?_)
  · rw [Bool.not_eq_true', decide_eq_false_iff_not] at c
    rw [if_pos (by omega)] at q
    exact s_retL (el_lst (ea_cons ev_c ea_nil) (by show 1 ≤ 100000; decide)) (q.ask hk ht (e1.trans e2) rfl)
  · rw [Bool.not_eq_false', decide_eq_true_eq] at c
    have hi : i < st.game.t.n := by omega
    rw [if_neg (by omega)] at q
    have e12 := e1.trans e2
    obtain ⟨xs, r, g1, g2, _, g4⟩ := (hgm.1.ex e12).row (rowsOf_at hi)
    refine s_retL (el_call (ea_cons (ev_op (ev_fW ZT.k (ev_var rfl) (e12 _ _ ha)) (ev_var rfl) (rv_ixL (sq_of g1) (atI_nat g2))) ea_nil) (counted_L g4 ?_)) (q.ask hk ht e12 ?_)
    · rw [List.length_map, List.length_map, List.length_range]
      have := ok.le
      omega
    · rw [List.length_map, List.length_map, List.length_range]
      rfl
/-! groups -/
def cGroups (told : List Int) (c : Ks570.Call) : Prop := told = [] ∧ c = .groups
theorem does_groups {s : Ks570.State} : Ks570.does1 s .groups = (s, { ret := ((Ks565.groups s.game.g : Nat) : Int), out := Ks565.ints s.game.g }) := rfl
abbrev s_answer_groups : Stmt := top 99
abbrev N_answer_groups : List Str := ["kept", "told"]
abbrev P_answer_groups : List Str := ["kept", "told"]
theorem sc_answer_groups : FnScope N_answer_groups P_answer_groups (C8.fnScope s_answer_groups) := C8.fnScope_by (by decide +kernel)
theorem cal_answer_groups {Z : Zc} {f : Addr} {fd : FuncData} {T : List (Addr × Str)} (F : C8.Def K mg "answer_groups" s_answer_groups f fd) (b : Binds K fd P_answer_groups []) (ZT : ZTxt K Z) (c_told_groups : C8.Cal P w K mg base 2 "told_groups" sp_told_groups []) : C8.Cal P w K mg base 3 "answer_groups" (spC Z T cGroups) [] := by
  have sc := sc_answer_groups
  refine C8.cal0 F b .nil sc (spC_len rfl) (fun cdv A outer s H vs Q E hr h => ?_)
  refine ⟨_, (pss_one (ps_ret (C8.pe_c c_told_groups hr (by decide) (by rfl) (pa_cons (peF K rfl (pv 0) rfl) pa_nil)))), ?_⟩
  obtain ⟨a, b, st, told, c, rfl, hk, ok, ht, hb, ⟨rfl, rfl⟩, q⟩ := h
  rw [does_groups] at q
  obtain ⟨dx, aw, ag, ap, ha, hgm, hpa, h10⟩ := id hk
  refine s_retL (el_call (ea_cons (ev_fG ZT.k (ev_var rfl) ha) ea_nil) (told_groups_L hgm.2 (by rw [ok.game.len]; exact ok.pos) (by rw [ok.game.len]; have := ok.le; omega))) (q.ask hk ht (Ex.refl H) ?_)
  show V.int _ :: nv _ = V.int _ :: (Ks565.ints _).map V.int
  rw [ints_nv]
/-! state -/
def cState (told : List Int) (c : Ks570.Call) : Prop := told = [] ∧ c = .state
theorem does_state {s : Ks570.State} : Ks570.does1 s .state = (s, { ret := (s.game.t.n : Int), out := [(s.game.m : Int), numB (Ks567.even s.game.t), (s.was.length : Int)] }) := rfl
abbrev s_answer_state : Stmt := top 100
abbrev N_answer_state : List Str := ["kept", "told"]
abbrev P_answer_state : List Str := ["kept", "told"]
theorem sc_answer_state : FnScope N_answer_state P_answer_state (C8.fnScope s_answer_state) := C8.fnScope_by (by decide +kernel)
theorem cal_answer_state {Z : Zc} {f : Addr} {fd : FuncData} {T : List (Addr × Str)} (F : C8.Def K mg "answer_state" s_answer_state f fd) (b : Binds K fd P_answer_state []) (B : Blt mg) (ZT : ZTxt K Z) (c_as_number : C8.Cal P w K mg base 1 "as_number" sp_as_number []) (c_is_even : C8.Cal P w K mg base 2 "is_even" sp_is_even []) : C8.Cal P w K mg base 3 "answer_state" (spC Z T cState) [] := by
  have sc := sc_answer_state; have b_len := B.len
  refine C8.cal0 F b .nil sc (spC_len rfl) (fun cdv A outer s H vs Q E hr h => ?_)
  refine ⟨_, (pss_one (ps_ret (pe_lst (pa_cons (pe_callB (cLen K rfl) (by rfl) b_len (by decide +kernel) (pa_cons (peF K rfl (pv 0) rfl) pa_nil)) (pa_cons (peF K rfl (pv 0) rfl) (pa_cons (C8.pe_c c_as_number hr (by decide) (by rfl) (pa_cons (C8.pe_c c_is_even hr (by decide) (by rfl) (pa_cons (peF K rfl (pv 0) rfl) pa_nil)) pa_nil)) (pa_cons (pe_callB (cLen K rfl) (by rfl) b_len (by decide +kernel) (pa_cons (peF K rfl (pv 0) rfl) pa_nil)) pa_nil))))))), ?_⟩
  obtain ⟨a, b, st, told, c, rfl, hk, ok, ht, hb, ⟨rfl, rfl⟩, q⟩ := h
  rw [does_state] at q
  obtain ⟨dx, aw, ag, ap, ha, hgm, hpa, h10⟩ := id hk
  obtain ⟨xs, hxs, hxl⟩ : ∃ xs, H ap = some (.lst xs) ∧ xs.length = st.was.length := by
    obtain ⟨ps, h1, h2, _⟩ := hpa
    exact ⟨_, h1, by rw [List.length_map, h2, List.length_reverse]⟩
  refine s_retL (el_lst (ea_cons (ev_len (ev_fG ZT.k (ev_var rfl) ha) (sq_of hgm.2)) (ea_cons (ev_fM ZT.k (ev_var rfl) ha) (ea_cons (ev_callP (ep_ev (ev_call (ea_cons (ev_fW ZT.k (ev_var rfl) ha) ea_nil) (is_even_V hgm.1 (by have := ok.le; omega)))) ea_nil fun v H4 e4 hv => (by
      subst hv
      exact as_number_V)) (ea_cons (ev_len (ev_fP ZT.k (ev_var rfl) ha) (sq_of hxs)) ea_nil)))) (by show 4 ≤ 100000; decide)) (q.ask hk ht (Ex.refl H) ?_)
  rw [nv_len, ok.game.len, hxl]
  rfl
end Rg

set_option Elab.async false
set_option maxRecDepth 100000
set_option maxHeartbeats 2000000
set_option linter.unusedVariables false
/-! changing.py: the answers that change -/
namespace Rg
open PySem PySem.Spec PyProof.Rows L2 Evl LamX
variable {P : Program} {w : World} {K : PySem.W.Frag} {mg : Str → Option Value} {base : Heap}
/-! is_worth, with_row -/
abbrev s_is_worth : Stmt := top 104
abbrev N_is_worth : List Str := ["x"]
abbrev P_is_worth : List Str := ["x"]
theorem sc_is_worth : FnScope N_is_worth P_is_worth (C8.fnScope s_is_worth) := C8.fnScope_by (by decide +kernel)
def sp_is_worth : Sp := fun vs H Q _ => ∃ (x : Int), vs = [.int x] ∧ RetV H Q (.bl (decide (¬ 20 < x.natAbs)))
theorem cal_is_worth {f : Addr} {fd : FuncData} (F : C8.Def K mg "is_worth" s_is_worth f fd) (b : Binds K fd P_is_worth []) (B : Blt mg) (Cs : Cst K mg) : C8.Cal P w K mg base 1 "is_worth" sp_is_worth [] := by
  have sc := sc_is_worth; have b_abs := B.abs; obtain ⟨_, m_MOST_WORTH⟩ := Cs.MOST_WORTH
  refine C8.cal0 F b .nil sc (fun vs H Q E h => ?_) (fun cdv A outer s H vs Q E hr h => ?_)
  · obtain ⟨_, rfl, _⟩ := h
    rfl
  · refine ⟨_, (pss_one (ps_ret (pe_cmpR op_le (pe_callB call_abs (by rfl) b_abs (by decide +kernel) (pa_cons (pv 0) pa_nil)) (pe_glob (v := .int (20)) (by rfl) m_MOST_WORTH ⟨_, rfl⟩) (nomark _)))), ?_⟩
    obtain ⟨x, rfl, q⟩ := h
    have e : decide ((if x < 0 then -x else x) ≤ 20) = decide (¬ 20 < x.natAbs) := by
      apply decide_eq_decide.mpr
      split <;> omega
    refine s_ret (ev_op (ev_cb (ea_cons (ev_var rfl) ea_nil) (fun H1 _ Q' q' => ⟨x, rfl, q' H1 (Ex.refl H1)⟩)) ev_c rv_I0) ?_
    rw [e]
    exact q
theorem is_worth_V {H : Hp} {x : Int} : SpV sp_is_worth [.int x] H (.bl (decide (¬ 20 < x.natAbs))) := fun H1 e Q q _ => ⟨x, rfl, fun H2 e2 => q H2 e2⟩
abbrev s_with_row : Stmt := top 105
abbrev N_with_row : List Str := ["worths", "i", "row", "m"]
abbrev P_with_row : List Str := ["worths", "i", "row"]
theorem sc_with_row : FnScope N_with_row P_with_row (C8.fnScope s_with_row) := C8.fnScope_by (by decide +kernel)
def sp_with_row : Sp := fun vs H Q _ => ∃ (a r : Addr) (i : Nat) (rows : List (List Int)) (row : List Int), vs = [.ref a, .int i, .ref r] ∧ RowsAt H a rows ∧ rows.length ≤ 1000 ∧ H r = some (.lst (row.map V.int)) ∧ ∀ p H', H p = none → Ex H H' → RowsAt H' p (rows.set i row) → Q (.ref p) H'
theorem cal_with_row {f : Addr} {fd : FuncData} (F : C8.Def K mg "with_row" s_with_row f fd) (b : Binds K fd P_with_row []) (B : Blt mg) : C8.Cal P w K mg base 1 "with_row" sp_with_row [] := by
  have sc := sc_with_row; have b_range := B.range; have b_len := B.len
  refine C8.cal0 F b .nil sc (fun vs H Q E h => ?_) (fun cdv A outer s H vs Q E hr h => ?_)
  · obtain ⟨_, _, _, _, _, rfl, _⟩ := h
    rfl
  · refine ⟨_, (pss_one (ps_ret (pe_lc (own := [("m", 3)]) rfl sc.nd (pi_range1 rfl b_range (pa_cons (pe_callB (cLen K rfl) (by rfl) b_len (by decide +kernel) (pa_cons (pv 0) pa_nil)) pa_nil)) (blkOk_by (own := [("m", 3)]) (N := N_with_row) (sc := C8.fnScope s_with_row) (by decide +kernel)) (fun _ _ _ _ _ => (pg_name (i := 3) sc.nd rfl (Or.inl rfl))) (fun _ _ _ _ _ => pts_nil) (fun _ _ _ _ _ => (pe_ifExp (pt_cmpR op_eq (pv 3) (pv 1) (nomark _)) (pv 2) (pe_ix (ixl K rfl) (pv 0) (pv 3) (fun _ _ => rfl))))))), ?_⟩
    obtain ⟨a, r, i, rows, row, rfl, ⟨rs, h1, h2, h3⟩, hz, hr2, q⟩ := h
    have hn : (rs.map V.ref).length = rows.length := by rw [List.length_map]; exact h2
    refine s_retL (el_rng (n := (rs.map V.ref).length) (fun m => V.ref (if m = i then r else rs.getD m 0)) (ea_cons (ev_len (ev_var rfl) (sq_of h1)) ea_nil) (by omega) (fun x => rfl) fun m H1 e hm => ?_) fun p H1 hp e hl => ?_
    · refine ev_if (et_test (ev_op (ev_var rfl) (ev_var rfl) (rv_eq rfl))) (fun c => ?_) (fun c => ?_)
      · have c' : m = i := by have := of_decide_eq_true c; injection this with z; omega
        rw [if_pos c']
        exact ev_var rfl
      · have c' : ¬ m = i := fun z => of_decide_eq_false c (by rw [z])
        rw [if_neg c']
        refine ev_op (ev_var rfl) (ev_var rfl) (rv_ixL (ex_l e (sq_of h1)) (atI_nat ?_))
        rw [List.length_map] at hm
        rw [List.getElem?_map, List.getD_eq_getElem?_getD, List.getElem?_eq_getElem hm]
        rfl
    · refine q p H1 hp e ⟨(List.range rows.length).map fun m => if m = i then r else rs.getD m 0, ?_, ?_, fun j x hj => ?_⟩
      · rw [hl, hn, List.map_map]
        rfl
      · rw [List.length_map, List.length_range, List.length_set]
      · rw [List.getElem?_map] at hj
        have hlt : j < rows.length := by
          apply Classical.byContradiction
          intro hc
          rw [List.getElem?_eq_none (by rw [List.length_range]; omega)] at hj
          cases hj
        rw [List.getElem?_range hlt] at hj
        have hx : (if j = i then r else rs.getD j 0) = x := Option.some.inj hj
        rw [List.getElem?_set]
        by_cases c : i = j
        · rw [if_pos c.symm] at hx
          rw [if_pos c, if_pos (by omega)]
          exact ⟨row, rfl, by rw [← hx]; exact e _ _ hr2⟩
        · rw [if_neg fun z => c z.symm, List.getD_eq_getElem?_getD, List.getElem?_eq_getElem (by omega)] at hx
          obtain ⟨y, a1, a2⟩ := h3 j x (by rw [← hx]; exact List.getElem?_eq_getElem (by omega))
          exact ⟨y, by rw [if_neg c]; exact a1, e _ _ a2⟩
theorem q_meth {C a dx aw ag ap : Addr} {m : Int} {H : Hp} {σ : L2.St} {D : Ends} {sp : Sp} {nm : Str} {tz : TS} {ta : TE} {t : TA} {vs : List V} (h : Ev ta σ H (.ref a)) (ha : H a = some (.ins C dx (kF aw ag m ap))) (hm : (kF aw ag m ap).lookup nm = none) (hv : EvA t σ H vs)
    (k : ∀ H1, Ex H H1 → sp (.ref a :: (vs ++ [])) H1 (fun _ H2 => tz D σ H2) C8.E0) : tSeq (tDrop (tMeth C nm sp [] C8.E0 ta t)) tz D σ H :=
  h H (Ex.refl H) _ fun H1 e1 => ⟨a, dx, _, rfl, e1 _ _ ha, hm, hv H1 e1 _ fun H2 e2 => k H2 (e1.trans e2)⟩
theorem q_methL {C a dx aw ag ap : Addr} {m : Int} {H : Hp} {σ : L2.St} {D : Ends} {sp : Sp} {nm : Str} {tz : TS} {ta te : TE} {xs : List V} (h : Ev ta σ H (.ref a)) (ha : H a = some (.ins C dx (kF aw ag m ap))) (hm : (kF aw ag m ap).lookup nm = none) (hv : EvL te σ H xs)
    (k : ∀ p H1, Ex H H1 → H1 p = some (.lst xs) → sp [.ref a, .ref p] H1 (fun _ H2 => tz D σ H2) C8.E0) : tSeq (tDrop (tMeth C nm sp [] C8.E0 ta (tCons te tNil))) tz D σ H :=
  h H (Ex.refl H) _ fun H1 e1 => ⟨a, dx, _, rfl, e1 _ _ ha, hm, hv H1 e1 _ fun p H2 hp e2 h2 => k p H2 (e1.trans e2) h2⟩
theorem q_methR {C a dx aw ag ap : Addr} {m : Int} {H : Hp} {σ : L2.St} {D : Ends} {sp : Sp} {nm : Str} {tz : TS} {ta te : TE} {rows : List (List Int)} (h : Ev ta σ H (.ref a)) (ha : H a = some (.ins C dx (kF aw ag m ap))) (hm : (kF aw ag m ap).lookup nm = none) (hv : EvRows te σ H rows)
    (k : ∀ p H1, Ex H H1 → RowsAt H1 p rows → sp [.ref a, .ref p] H1 (fun _ H2 => tz D σ H2) C8.E0) : tSeq (tDrop (tMeth C nm sp [] C8.E0 ta (tCons te tNil))) tz D σ H :=
  h H (Ex.refl H) _ fun H1 e1 => ⟨a, dx, _, rfl, e1 _ _ ha, hm, hv H1 e1 _ fun p H2 hp e2 h2 => k p H2 (e1.trans e2) h2⟩
theorem no_m {nm : Str} (h1 : (nm == ("worths" : Str)) = false := by decide +kernel) (h2 : (nm == ("groups" : Str)) = false := by decide +kernel) (h3 : (nm == ("made" : Str)) = false := by decide +kernel) (h4 : (nm == ("past" : Str)) = false := by decide +kernel) {aw ag ap : Addr} {m : Int} : (kF aw ag m ap).lookup nm = none := kF_no _ _ _ _ h1 h2 h3 h4
theorem KeptAt.ins {C : Addr} {H : Hp} {a : Addr} {s : Ks570.State} (h : KeptAt C H a s) : ∃ dx fs, H a = some (.ins C dx fs) := by
  obtain ⟨dx, aw, ag, ap, h1, _⟩ := h
  exact ⟨dx, _, h1⟩
/-- a changed state, and a short answer -/
theorem Ret.put {C : Addr} {T : List (Addr × Str)} {a : Addr} {H H1 H2 : Hp} {Q : VK} {s : Ks570.State} {r : Ks570.State × Ks570.Ans} (q : Ret C T a H Q r) (hk : KeptAt C H a s) (t : Tabs T H) (e : Ex H H1) (b : But a H1 H2) (k2 : KeptAt C H2 a r.1) {l : List V} (hl : l = (r.2.ret :: r.2.out).map V.int) :
    ∀ p H3, H2 p = none → Ex H2 H3 → H3 p = some (.lst l) → Q (.ref p) H3 := fun p H3 hp e3 h3 => by
  obtain ⟨dx, fs, ha⟩ := hk.ins
  have a1 : After T a H1 H2 := .put (t.ext e) (e _ _ ha) b
  exact q p H3 (((After.ex t e).trans a1).trans (.ex a1.tab e3)) (k2.ex e3) (by rw [h3, hl])
theorem Ret.putN {C : Addr} {T : List (Addr × Str)} {a : Addr} {H H1 H2 : Hp} {Q : VK} {s : Ks570.State} {r : Ks570.State × Ks570.Ans} (q : Ret C T a H Q r) (e : ExtN H H1) (t1 : Tabs T H1) (hk : KeptAt C H1 a s) (b : But a H1 H2) (k2 : KeptAt C H2 a r.1) {l : List V} (hl : l = (r.2.ret :: r.2.out).map V.int) :
    ∀ p H3, H2 p = none → Ex H2 H3 → H3 p = some (.lst l) → Q (.ref p) H3 := fun p H3 hp e3 h3 => by
  obtain ⟨dx, fs, ha⟩ := hk.ins
  have a1 : After T a H1 H2 := .put t1 ha b
  exact q p H3 (((After.gr t1 e).trans a1).trans (.ex a1.tab e3)) (k2.ex e3) (by rw [h3, hl])
/-! begin -/
abbrev s_answer_begin : Stmt := top 106
abbrev N_answer_begin : List Str := ["kept", "told", "n"]
abbrev P_answer_begin : List Str := ["kept", "told"]
theorem sc_answer_begin : FnScope N_answer_begin P_answer_begin (C8.fnScope s_answer_begin) := C8.fnScope_by (by decide +kernel)
def spBegin (Z : Zc) (T : List (Addr × Str)) : Sp := fun vs H Q _ => ∃ (a b : Addr) (o : Option Ks570.State) (n : Nat), vs = [.ref a, .ref b] ∧ KAt Z.kept H a o ∧ Tabs T H ∧ H b = some (.lst [.int (n : Int)]) ∧
  ∀ p H', After T a H H' → KAt Z.kept H' a (Ks570.act o (.begin_ n)).1 → H' p = some (.lst (((Ks570.act o (.begin_ n)).2.ret :: (Ks570.act o (.begin_ n)).2.out).map V.int)) → Q (.ref p) H'
theorem act_bad {o : Option Ks570.State} {n : Nat} (h : n < 1 ∨ 5 < n) : Ks570.act o (.begin_ n) = (o, Ks570.no (-22)) := by
  have h : n < 1 ∨ Ks565.PEOPLE < n := h
  cases o with
  | none =>
    show (if n < 1 ∨ Ks565.PEOPLE < n then _ else _) = _
    rw [if_pos h]
  | some s =>
    show (some (if n < 1 ∨ Ks565.PEOPLE < n then _ else _ : Ks570.State × Ks570.Ans).1, (if n < 1 ∨ Ks565.PEOPLE < n then _ else _ : Ks570.State × Ks570.Ans).2) = _
    rw [if_pos h]
theorem act_good {o : Option Ks570.State} {n : Nat} (h : ¬ (n < 1 ∨ 5 < n)) : Ks570.act o (.begin_ n) = (some (Ks570.fresh n), Ks570.no 0) := by
  have h : ¬ (n < 1 ∨ Ks565.PEOPLE < n) := h
  cases o with
  | none =>
    show (if n < 1 ∨ Ks565.PEOPLE < n then _ else _) = _
    rw [if_neg h]
  | some s =>
    show (some (if n < 1 ∨ Ks565.PEOPLE < n then _ else _ : Ks570.State × Ks570.Ans).1, (if n < 1 ∨ Ks565.PEOPLE < n then _ else _ : Ks570.State × Ks570.Ans).2) = _
    rw [if_neg h]
theorem KAt.ins {C : Addr} {H : Hp} {a : Addr} {o : Option Ks570.State} (h : KAt C H a o) : ∃ dx aw ag ap m, H a = some (.ins C dx (kF aw ag m ap)) := by
  cases o with
  | none =>
    obtain ⟨dx, aw, ag, ap, h1, _⟩ := h
    exact ⟨dx, aw, ag, ap, _, h1⟩
  | some s =>
    obtain ⟨dx, aw, ag, ap, h1, _⟩ := h
    exact ⟨dx, aw, ag, ap, _, h1⟩
theorem KAt.ex {C : Addr} {H H' : Hp} {a : Addr} {o : Option Ks570.State} (h : KAt C H a o) (e : Ex H H') : KAt C H' a o := by
  cases o with
  | none =>
    obtain ⟨dx, aw, ag, ap, h1, h2, h3, h4⟩ := h
    exact ⟨dx, aw, ag, ap, e _ _ h1, e _ _ h2, e _ _ h3, e _ _ h4⟩
  | some s => exact KeptAt.ex h e
theorem cal_answer_begin {Z : Zc} {f : Addr} {fd : FuncData} {T : List (Addr × Str)} (F : C8.Def K mg "answer_begin" s_answer_begin f fd) (b : Binds K fd P_answer_begin []) (Cs : Cst K mg) (c_begin_anew : C8.Met P w K mg base 1 Z.kept "begin_anew" (sp_Kept_begin_anew Z.kept) []) : C8.Cal P w K mg base 2 "answer_begin" (spBegin Z T) [] := by
  have sc := sc_answer_begin; obtain ⟨_, m_MOST_PEOPLE⟩ := Cs.MOST_PEOPLE; obtain ⟨_, m_WRONG⟩ := Cs.WRONG
  refine C8.cal0 F b .nil sc (fun vs H Q E h => ?_) (fun cdv A outer s H vs Q E hr h => ?_)
  · obtain ⟨_, _, _, _, rfl, _⟩ := h
    rfl
  · refine ⟨_, (pss_cons (ps_set (i := 2) sc.nd rfl (.inl rfl) (pe_ix (ixl K rfl) (pv 1) pe_int (fun _ _ => rfl)))
      (pss_cons (ps_if (PW.pt (pw_or (pt_cmpR op_lt (pv 2) pe_int (nomark _)) (pw_or1 (pt_cmpR op_gt (pv 2) (pe_glob (v := .int (5)) (by rfl) m_MOST_PEOPLE ⟨_, rfl⟩) (nomark _))))) (pss_one (ps_ret (pe_lst (pa_cons (pe_glob (v := .int (-22)) (by rfl) m_WRONG ⟨_, rfl⟩) pa_nil)))) pss_nil)
      (pss_cons (ps_expr (C8.pe_mt c_begin_anew hr (by decide) (pv 0) (pa_cons (pv 2) pa_nil)))
      (pss_one (ps_ret (pe_lst (pa_cons pe_int pa_nil))))))), ?_⟩
    obtain ⟨a, b, o, n, rfl, hk, ht, hb, q⟩ := h
    refine q_asg (ev_op (ev_var rfl) ev_c (rv_ixL (sq_of hb) (atI_nat (j := 0) rfl))) fun H1 e1 => ?_
    refine q_when (et_or (et_test (ev_op (ev_var rfl) ev_c rv_I0)) fun _ => et_test (ev_op (ev_var rfl) ev_c rv_I0)) (fun c H2 e2 => ?_) (fun c H2 e2 => ?_)
    · have hbad : n < 1 ∨ 5 < n := by
        rw [Bool.or_eq_true, decide_eq_true_eq, decide_eq_true_eq] at c
        omega
      rw [act_bad hbad] at q
      have e12 := e1.trans e2
      exact s_retL (el_lst (ea_cons ev_c ea_nil) (by show 1 ≤ 100000; decide)) fun p H3 hp e3 h3 => q p H3 (.ex ht (e12.trans e3)) (hk.ex (e12.trans e3)) h3
    · have hgood : ¬ (n < 1 ∨ 5 < n) := by
        rw [Bool.or_eq_false_iff, decide_eq_false_iff_not, decide_eq_false_iff_not] at c
        omega
      rw [act_good hgood] at q
      have e12 := e1.trans e2
      obtain ⟨dx, aw, ag, ap, m, ha⟩ := hk.ins
      refine q_meth (ev_var rfl) (e12 _ _ ha) no_m (ea_cons (ev_var rfl) ea_nil) fun H3 e3 => ⟨a, o, n, rfl, hk.ex (e12.trans e3), by omega, fun H4 b4 k4 => ?_⟩
      have e13 := e12.trans e3
      have a1 : After T a H3 H4 := .put (ht.ext e13) (e13 _ _ ha) b4
      have s14 : Std H H4 := (Std.ex e13).trans (b4.std (e13 _ _ ha))
      exact s_retL (el_lst (ea_cons ev_c ea_nil) (by show 1 ≤ 100000; decide)) fun p H5 hp e5 h5 => q p H5 (((After.ex ht e13).trans a1).trans (.ex a1.tab e5)) (KeptAt.ex k4 e5) h5
/-! like -/
def cLike (told : List Int) (c : Ks570.Call) : Prop := ∃ (i j : Nat) (x : Int), told = [(i : Int), (j : Int), x] ∧ c = .like i j x
theorem er_row {σ : L2.St} {H : Hp} {ta : TA} {E : XK} {a r : Addr} {i : Nat} {rows : List (List Int)} {row : List Int} (h : EvA ta σ H [.ref a, .int (i : Int), .ref r]) (hw : RowsAt H a rows) (hz : rows.length ≤ 1000) (hr : H r = some (.lst (row.map V.int))) : EvRows (tCall sp_with_row [] E ta) σ H (rows.set i row) := fun H1 e Q q =>
  h H1 e _ fun H2 e2 => ⟨a, r, i, rows, row, rfl, hw.ex (e.trans e2), hz, (e.trans e2) _ _ hr, fun p H3 hp e3 h3 => q p H3 (fresh_back e2 hp) (e2.trans e3) h3⟩
theorem does_like {s : Ks570.State} {i j : Nat} {x : Int} : Ks570.does1 s (.like i j x) = if s.game.t.n ≤ i then (s, Ks570.no (-2)) else if s.game.t.n ≤ j then (s, Ks570.no (-2)) else if i = j ∨ 20 < x.natAbs then (s, Ks570.no (-22)) else (Ks570.change s { s.game with t := Ks570.set_ s.game.t i j x }, { ret := 0, out := [Ks565.likes s.game.t i j] }) := rfl
abbrev s_answer_like : Stmt := top 107
abbrev N_answer_like : List Str := ["kept", "told", "i", "j", "x", "row", "was"]
abbrev P_answer_like : List Str := ["kept", "told"]
theorem sc_answer_like : FnScope N_answer_like P_answer_like (C8.fnScope s_answer_like) := C8.fnScope_by (by decide +kernel)
theorem cal_answer_like {Z : Zc} {f : Addr} {fd : FuncData} {T : List (Addr × Str)} (F : C8.Def K mg "answer_like" s_answer_like f fd) (b : Binds K fd P_answer_like []) (B : Blt mg) (Cs : Cst K mg) (ZT : ZTxt K Z) (c_is_worth : C8.Cal P w K mg base 1 "is_worth" sp_is_worth []) (c_with_row : C8.Cal P w K mg base 1 "with_row" sp_with_row []) (c_is_person : C8.Met P w K mg base 1 Z.kept "is_person" (sp_Kept_is_person Z.kept) []) (c_change_worths : C8.Met P w K mg base 2 Z.kept "change_worths" (sp_Kept_change_worths Z.kept) []) : C8.Cal P w K mg base 3 "answer_like" (spC Z T cLike) [] := by
  have sc := sc_answer_like; have b_list := B.list; obtain ⟨_, m_NOT_THERE⟩ := Cs.NOT_THERE; obtain ⟨_, m_WRONG⟩ := Cs.WRONG
  refine C8.cal0 F b .nil sc (spC_len rfl) (fun cdv A outer s H vs Q E hr h => ?_)
  refine ⟨_, (pss_cons (ps_set (i := 2) sc.nd rfl (.inl rfl) (pe_ix (ixl K rfl) (pv 1) pe_int (fun _ _ => rfl)))
      (pss_cons (ps_set (i := 3) sc.nd rfl (.inl rfl) (pe_ix (ixl K rfl) (pv 1) pe_int (fun _ _ => rfl)))
      (pss_cons (ps_set (i := 4) sc.nd rfl (.inl rfl) (pe_ix (ixl K rfl) (pv 1) pe_int (fun _ _ => rfl)))
      (pss_cons (ps_if (PW.pt (pw_or (pt_not (pt_val (C8.pe_mt c_is_person hr (by decide) (pv 0) (pa_cons (pv 2) pa_nil)))) (pw_or1 (pt_not (pt_val (C8.pe_mt c_is_person hr (by decide) (pv 0) (pa_cons (pv 3) pa_nil))))))) (pss_one (ps_ret (pe_lst (pa_cons (pe_glob (v := .int (-2)) (by rfl) m_NOT_THERE ⟨_, rfl⟩) pa_nil)))) pss_nil)
      (pss_cons (ps_if (PW.pt (pw_or (pt_cmpR op_eq (pv 2) (pv 3) (nomark _)) (pw_or1 (pt_not (pt_val (C8.pe_c c_is_worth hr (by decide) (by rfl) (pa_cons (pv 4) pa_nil))))))) (pss_one (ps_ret (pe_lst (pa_cons (pe_glob (v := .int (-22)) (by rfl) m_WRONG ⟨_, rfl⟩) pa_nil)))) pss_nil)
      (pss_cons (ps_set (i := 5) sc.nd rfl (.inl rfl) (pe_callTy (cListOf K rfl) (by rfl) b_list (by decide +kernel) (pa_cons (pe_ix (ixl K rfl) (peF K rfl (pv 0) rfl) (pv 2) (fun _ _ => rfl)) pa_nil)))
      (pss_cons (ps_set (i := 6) sc.nd rfl (.inl rfl) (pe_ix (ixl K rfl) (pv 5) (pv 3) (fun _ _ => rfl)))
      (pss_cons (ps_asg (pv 4) (pg_sub (pv 5) (pv 3) set_list))
      (pss_cons (ps_expr (C8.pe_mt c_change_worths hr (by decide) (pv 0) (pa_cons (C8.pe_c c_with_row hr (by decide) (by rfl) (pa_cons (peF K rfl (pv 0) rfl) (pa_cons (pv 2) (pa_cons (pv 5) pa_nil)))) pa_nil)))
      (pss_one (ps_ret (pe_lst (pa_cons pe_int (pa_cons (pv 6) pa_nil)))))))))))))), ?_⟩
  obtain ⟨a, b, st, told, c, rfl, hk, ok, ht, hb, ⟨i, j, x, rfl, rfl⟩, q⟩ := h
  rw [does_like] at q
  have hlen := ok.game.len
  refine q_asg (ev_nth 0 (ev_var rfl) hb rfl) fun H1 e1 => ?_
  refine q_asg (ev_nth 1 (ev_var rfl) (e1 _ _ hb) rfl) fun H2 e2 => ?_
  refine q_asg (ev_nth 2 (ev_var rfl) (e2 _ _ (e1 _ _ hb)) rfl) fun H3 e3 => ?_
  have e13 := (e1.trans e2).trans e3
  have k3 := hk.ex e13
  refine q_when (et_or (et_not (et_B (ev_isP k3 (ev_var rfl) (ev_var rfl)))) fun _ => et_not (et_B (ev_isP k3 (ev_var rfl) (ev_var rfl)))) (fun c H4 e4 => ?_) (fun c H4 e4 => ?_)
  · have hbad : st.game.t.n ≤ i ∨ st.game.t.n ≤ j := by
      rw [Bool.or_eq_true, Bool.not_eq_true', Bool.not_eq_true', decide_eq_false_iff_not, decide_eq_false_iff_not] at c
      omega
    have q' : Ret Z.kept T a H Q (st, Ks570.no (-2)) := by
      rcases hbad with z | z
      · rw [if_pos z] at q
        exact q
      · by_cases z2 : st.game.t.n ≤ i
        · rw [if_pos z2] at q
          exact q
        · rw [if_neg z2, if_pos z] at q
          exact q
    exact s_retL (el_lst (ea_cons ev_c ea_nil) (by show 1 ≤ 100000; decide)) (q'.ask hk ht (e13.trans e4) rfl)
  · rw [Bool.or_eq_false_iff, Bool.not_eq_false', Bool.not_eq_false', decide_eq_true_eq, decide_eq_true_eq] at c
    have hi : i < st.game.t.n := by omega
    have hj : j < st.game.t.n := by omega
    rw [if_neg (by omega), if_neg (by omega)] at q
    have e14 := e13.trans e4
    refine q_when (et_or (et_test (ev_op (ev_var rfl) (ev_var rfl) (rv_eq rfl))) fun _ => et_not (et_B (ev_call (ea_cons (ev_var rfl) ea_nil) is_worth_V))) (fun c2 H5 e5 => ?_) (fun c2 H5 e5 => ?_)
    · have hbad : i = j ∨ 20 < x.natAbs := by
        rw [Bool.or_eq_true, Bool.not_eq_true', decide_eq_true_eq, decide_eq_false_iff_not, Decidable.not_not] at c2
        rcases c2 with z | z
        · exact .inl (by injection z with z; omega)
        · exact .inr z
      rw [if_pos hbad] at q
      exact s_retL (el_lst (ea_cons ev_c ea_nil) (by show 1 ≤ 100000; decide)) (q.ask hk ht (e14.trans e5) rfl)
    · have hgood : ¬ (i = j ∨ 20 < x.natAbs) := by
        rw [Bool.or_eq_false_iff, Bool.not_eq_false', decide_eq_true_eq, decide_eq_false_iff_not] at c2
        rintro (z | z)
        · exact c2.1 (by rw [z])
        · exact c2.2 z
      rw [if_neg hgood] at q
      have e15 := e14.trans e5
      obtain ⟨dx, aw, ag, ap, ha, hgm, hpa, h10⟩ := id hk
      obtain ⟨ws, r0, hw1, hw2, hw3, hw4⟩ := (hgm.1.ex e15).row (rowsOf_at hi)
      have ha5 := e15 _ _ ha
      refine q_asgL (el_list (ev_op (ev_fW ZT.k (ev_var rfl) ha5) (ev_var rfl) (rv_ixL (sq_of hw1) (atI_nat hw2))) (sq_of hw4)) fun pr H6 hpr e6 h6 => ?_
      have e16 := e15.trans e6
      refine q_asg (ev_op (ev_var rfl) (ev_var rfl) (rv_ixL (sq_of h6) (atI_nat (iv_at (likes_at hj))))) fun H7 e7 => ?_
      refine q_setL (j := j) (e7 _ _ h6) (ev_var rfl) (ev_var rfl) (ev_var rfl) (by rw [List.length_map, List.length_map, List.length_range]; exact hj) fun H8 e8 => ?_
      have e18 : Ex H (upd H8 pr (.lst ((((List.range st.game.t.n).map (Ks565.likes st.game.t i)).map V.int).set j (.int x)))) := ((e16.trans e7).trans e8).mut (fresh_back e15 hpr)
      have hset : (((List.range st.game.t.n).map (Ks565.likes st.game.t i)).map V.int).set j (.int x) = (((List.range st.game.t.n).map (Ks565.likes st.game.t i)).set j x).map V.int := by rw [List.map_set]
      have ha8 := e18 _ _ ha
      refine q_methR (ev_var rfl) ha8 no_m (er_row (row := ((List.range st.game.t.n).map (Ks565.likes st.game.t i)).set j x) (ea_cons (ev_fW ZT.k (ev_var rfl) ha8) (ea_cons (ev_var rfl) (ea_cons (ev_var rfl) ea_nil))) (hgm.1.ex e18) (by rw [rowsOf_len]; have := ok.le; omega) (by rw [upd_same, hset])) fun p9 H9 e9 h9 => ?_
      rw [rowsOf_set ok.game.wf hi hj fun z => hgood (.inl z)] at h9
      refine ⟨a, p9, st, _, rfl, hk.ex (e18.trans e9), h9, fun H10 b10 k10 => ?_⟩
      exact s_retL (el_lst (ea_cons ev_c (ea_cons (ev_var rfl) ea_nil)) (by show 2 ≤ 100000; decide)) (q.put hk ht (e18.trans e9) b10 k10 rfl)
/-! row -/
theorem cut_from1 (x : V) (xs : List V) : cutV (x :: xs) (some 1) none = xs := by
  unfold cutV
  have e : HT.sIx (x :: xs).length 0 (some 1) = 1 := by
    have z := HT.sIx_nat (x :: xs).length 0 1
    rw [List.length_cons] at z
    rw [List.length_cons]
    rw [show (some 1 : Option Int) = some ((1 : Nat) : Int) from rfl, z]
    omega
  rw [e, HT.sIx_none]
  show xs.take (xs.length + 1 - 1) = xs
  rw [Nat.add_sub_cancel, List.take_length]
def cRow (told : List Int) (c : Ks570.Call) : Prop := ∃ (i : Nat) (l : List Int), told = (i : Int) :: l ∧ l.length ≤ 12 ∧ c = .row i l
theorem does_row {s : Ks570.State} {i : Nat} {l : List Int} : Ks570.does1 s (.row i l) = if s.game.t.n ≤ i then (s, Ks570.no (-2)) else if l.length ≠ s.game.t.n ∨ (l.any fun x => decide (20 < x.natAbs)) = true ∨ l.getD i 0 ≠ 0 then (s, Ks570.no (-22)) else (Ks570.change s { s.game with t := rowT s.game.t i l }, Ks570.no 0) := rfl
abbrev s_answer_row : Stmt := top 108
abbrev N_answer_row : List Str := ["kept", "told", "i", "row", "x"]
abbrev P_answer_row : List Str := ["kept", "told"]
theorem sc_answer_row : FnScope N_answer_row P_answer_row (C8.fnScope s_answer_row) := C8.fnScope_by (by decide +kernel)
theorem cal_answer_row {Z : Zc} {f : Addr} {fd : FuncData} {T : List (Addr × Str)} (F : C8.Def K mg "answer_row" s_answer_row f fd) (b : Binds K fd P_answer_row []) (B : Blt mg) (Cs : Cst K mg) (ZT : ZTxt K Z) (c_is_worth : C8.Cal P w K mg base 1 "is_worth" sp_is_worth []) (c_with_row : C8.Cal P w K mg base 1 "with_row" sp_with_row []) (c_is_person : C8.Met P w K mg base 1 Z.kept "is_person" (sp_Kept_is_person Z.kept) []) (c_change_worths : C8.Met P w K mg base 2 Z.kept "change_worths" (sp_Kept_change_worths Z.kept) []) : C8.Cal P w K mg base 3 "answer_row" (spC Z T cRow) [] := by
  have sc := sc_answer_row; have b_all := B.all; have b_len := B.len; obtain ⟨_, m_NOT_THERE⟩ := Cs.NOT_THERE; obtain ⟨_, m_WRONG⟩ := Cs.WRONG
  refine C8.cal0 F b .nil sc (spC_len rfl) (fun cdv A outer s H vs Q E hr h => ?_)
  refine ⟨_, (pss_cons (ps_set (i := 2) sc.nd rfl (.inl rfl) (pe_ix (ixl K rfl) (pv 1) pe_int (fun _ _ => rfl)))
      (pss_cons (ps_set (i := 3) sc.nd rfl (.inl rfl) (pe_slice (slL K rfl) (pv 1) (po_some pe_int) po_none))
      (pss_cons (ps_if (pt_not (pt_val (C8.pe_mt c_is_person hr (by decide) (pv 0) (pa_cons (pv 2) pa_nil)))) (pss_one (ps_ret (pe_lst (pa_cons (pe_glob (v := .int (-2)) (by rfl) m_NOT_THERE ⟨_, rfl⟩) pa_nil)))) pss_nil)
      (pss_cons (ps_if (PW.pt (pw_or (pt_cmpR op_ne (pe_callB (cLen K rfl) (by rfl) b_len (by decide +kernel) (pa_cons (pv 3) pa_nil)) (pe_callB (cLen K rfl) (by rfl) b_len (by decide +kernel) (pa_cons (peF K rfl (pv 0) rfl) pa_nil)) (nomark _)) (pw_or (pt_not (pt_val (pe_callB (cAll K rfl rfl) (by rfl) b_all (by decide +kernel) (pa_cons (pe_lc (own := [("x", 4)]) rfl sc.nd (piL K rfl (pv 3)) (blkOk_by (own := [("x", 4)]) (N := N_answer_row) (sc := C8.fnScope s_answer_row) (by decide +kernel)) (fun _ _ _ _ _ => (pg_name (i := 4) sc.nd rfl (Or.inl rfl))) (fun _ _ _ _ _ => pts_nil) (fun _ _ _ _ _ => (C8.pe_c c_is_worth hr (by decide) (by rfl) (pa_cons (pv 4) pa_nil)))) pa_nil)))) (pw_or1 (pt_cmpR op_ne (pe_ix (ixl K rfl) (pv 3) (pv 2) (fun _ _ => rfl)) pe_int (nomark _)))))) (pss_one (ps_ret (pe_lst (pa_cons (pe_glob (v := .int (-22)) (by rfl) m_WRONG ⟨_, rfl⟩) pa_nil)))) pss_nil)
      (pss_cons (ps_expr (C8.pe_mt c_change_worths hr (by decide) (pv 0) (pa_cons (C8.pe_c c_with_row hr (by decide) (by rfl) (pa_cons (peF K rfl (pv 0) rfl) (pa_cons (pv 2) (pa_cons (pv 3) pa_nil)))) pa_nil)))
      (pss_one (ps_ret (pe_lst (pa_cons pe_int pa_nil))))))))), ?_⟩
  obtain ⟨a, b, st, told, c, rfl, hk, ok, ht, hb, ⟨i, l, rfl, hl12, rfl⟩, q⟩ := h
  rw [does_row] at q
  have hlen := ok.game.len
  obtain ⟨dx, aw, ag, ap, ha, hgm, hpa, h10⟩ := id hk
  refine q_asg (ev_nth 0 (ev_var rfl) hb rfl) fun H1 e1 => ?_
  refine q_asgL (el_sl (ev_var rfl) (eo_some ev_c) eo_none (sq_of (e1 _ _ hb))) fun pr H2 hpr e2 h2 => ?_
  have h2 : H2 pr = some (.lst (l.map V.int)) := by rw [h2, List.map_cons, cut_from1]
  have e12 := e1.trans e2
  refine q_when (et_not (et_B (ev_isP (hk.ex e12) (ev_var rfl) (ev_var rfl)))) (fun c H3 e3 => ?_) (fun c H3 e3 => ?_)
  · rw [Bool.not_eq_true', decide_eq_false_iff_not] at c
    rw [if_pos (by omega)] at q
    exact s_retL (el_lst (ea_cons ev_c ea_nil) (by show 1 ≤ 100000; decide)) (q.ask hk ht (e12.trans e3) rfl)
  · rw [Bool.not_eq_false', decide_eq_true_eq] at c
    have hi : i < st.game.t.n := by omega
    rw [if_neg (by omega)] at q
    have e13 := e12.trans e3
    have h3 := e3 _ _ h2
    have ev1 : EvT (tTest (tOp rNe (tCB (rLenS K) (tCons (tVar 3) tNil)) (tCB (rLenS K) (tCons (tFld K (tVar 0) "groups") tNil)))) ((((L2.start N_answer_row [.ref a, .ref b]).set 2 (some (.int (i : Int)))).set 3 (some (.ref pr)))) H3 (!decide (V.int ((l.map V.int).length : Int) = V.int ((nv st.game.g).length : Int))) :=
      et_test (ev_op (ev_len (ev_var rfl) (sq_of h3)) (ev_len (ev_fG ZT.k (ev_var rfl) (e13 _ _ ha)) (sq_of (e13 _ _ hgm.2))) (rv_ne rfl))
    have el1 : (!decide (V.int ((l.map V.int).length : Int) = V.int ((nv st.game.g).length : Int))) = decide (l.length ≠ st.game.t.n) := by
      rw [List.length_map, nv_len, hlen]
      by_cases z : l.length = st.game.t.n
      · rw [z]; simp
      · have z2 : ¬ (V.int (l.length : Int) = V.int (st.game.t.n : Int)) := fun q => z (by injection q with q; omega)
        rw [decide_eq_false z2, decide_eq_true z]; rfl
    have ev2 : EvT (tNot (tB (tCB (rAll K) (tCons (tLc (iList K (tVar 3)) (gName 4) tYes (tCall sp_is_worth [] C8.E0 (tCons (tVar 4) tNil)) [4]) tNil)))) ((((L2.start N_answer_row [.ref a, .ref b]).set 2 (some (.int (i : Int)))).set 3 (some (.ref pr)))) H3 (!(l.map fun x => decide (¬ 20 < x.natAbs)).all id) := by
      refine et_not (et_B (ev_cbL (el_ints (fun x => V.bl (decide (¬ 20 < x.natAbs))) (ev_var rfl) h3 (by omega) (fun x => rfl) fun k H4 e4 hkm => ev_call (ea_cons (ev_var rfl) ea_nil) is_worth_V) fun p H4 h4 e4 => rc_all ?_))
      rw [h4, List.map_map]
      rfl
    have el2 : (!(l.map fun x => decide (¬ 20 < x.natAbs)).all id) = l.any fun x => decide (20 < x.natAbs) := by
      rw [all_map, List.not_all_eq_any_not]
      congr 1
      funext x
      by_cases z : 20 < x.natAbs
      · simp [z]
      · simp [z]
    rw [el1] at ev1
    rw [el2] at ev2
    have ev3 : decide (l.length ≠ st.game.t.n) = false → EvT (tTest (tOp rNe (tOp (rIxL K) (tVar 3) (tVar 2)) (tC (.int 0)))) ((((L2.start N_answer_row [.ref a, .ref b]).set 2 (some (.int (i : Int)))).set 3 (some (.ref pr)))) H3 (decide (l.getD i 0 ≠ 0)) := fun z => by
      rw [decide_eq_false_iff_not, ne_eq, Decidable.not_not] at z
      have hx : l[i]? = some (l.getD i 0) := by rw [List.getD_eq_getElem?_getD, List.getElem?_eq_getElem (by omega)]; rfl
      refine et_is (et_test (ev_op (ev_op (ev_var rfl) (ev_var rfl) (rv_ixL (sq_of h3) (atI_nat (iv_at hx)))) ev_c (rv_ne rfl))) ?_
      by_cases z2 : l.getD i 0 = 0
      · rw [z2]; rfl
      · have z3 : ¬ (V.int (l.getD i 0) = V.int 0) := fun q => z2 (by injection q)
        rw [decide_eq_false z3, decide_eq_true z2]; rfl
    refine q_when (et_or ev1 fun z => et_or ev2 fun _ => ev3 z) (fun c2 H4 e4 => ?_) (fun c2 H4 e4 => ?_)
    · have hbad : l.length ≠ st.game.t.n ∨ (l.any fun x => decide (20 < x.natAbs)) = true ∨ l.getD i 0 ≠ 0 := by
        rw [Bool.or_eq_true, Bool.or_eq_true, decide_eq_true_eq, decide_eq_true_eq] at c2
        exact c2
      rw [if_pos hbad] at q
      exact s_retL (el_lst (ea_cons ev_c ea_nil) (by show 1 ≤ 100000; decide)) (q.ask hk ht (e13.trans e4) rfl)
    · have hgood : ¬ (l.length ≠ st.game.t.n ∨ (l.any fun x => decide (20 < x.natAbs)) = true ∨ l.getD i 0 ≠ 0) := fun z => by
        rw [← decide_eq_true_eq (p := l.length ≠ st.game.t.n), ← decide_eq_true_eq (p := l.getD i 0 ≠ 0), ← Bool.or_eq_true, ← Bool.or_eq_true, c2] at z
        cases z
      rw [if_neg hgood] at q
      have e14 := e13.trans e4
      have hl : l.length = st.game.t.n := Decidable.not_not.mp fun z => hgood (.inl z)
      have h0 : l.getD i 0 = 0 := Decidable.not_not.mp fun z => hgood (.inr (.inr z))
      have ha4 := e14 _ _ ha
      refine q_methR (ev_var rfl) ha4 no_m (er_row (row := l) (ea_cons (ev_fW ZT.k (ev_var rfl) ha4) (ea_cons (ev_var rfl) (ea_cons (ev_var rfl) ea_nil))) (hgm.1.ex e14) (by rw [rowsOf_len]; have := ok.le; omega) (e4 _ _ h3)) fun p5 H5 e5 h5 => ?_
      rw [rowsOf_row ok.game.wf hi hl h0] at h5
      refine ⟨a, p5, st, _, rfl, hk.ex (e14.trans e5), h5, fun H6 b6 k6 => ?_⟩
      exact s_retL (el_lst (ea_cons ev_c ea_nil) (by show 1 ≤ 100000; decide)) (q.put hk ht (e14.trans e5) b6 k6 rfl)
/-! even -/
def cEven (told : List Int) (c : Ks570.Call) : Prop := told = [] ∧ c = .even
theorem does_even {s : Ks570.State} : Ks570.does1 s .even = (Ks570.change s { s.game with t := evenT s.game.t }, Ks570.no (numB (Ks567.even s.game.t))) := rfl
abbrev s_answer_even : Stmt := top 109
abbrev N_answer_even : List Str := ["kept", "told", "was_even"]
abbrev P_answer_even : List Str := ["kept", "told"]
theorem sc_answer_even : FnScope N_answer_even P_answer_even (C8.fnScope s_answer_even) := C8.fnScope_by (by decide +kernel)
theorem cal_answer_even {Z : Zc} {f : Addr} {fd : FuncData} {T : List (Addr × Str)} (F : C8.Def K mg "answer_even" s_answer_even f fd) (b : Binds K fd P_answer_even []) (ZT : ZTxt K Z) (c_is_even : C8.Cal P w K mg base 2 "is_even" sp_is_even []) (c_evened : C8.Cal P w K mg base 1 "evened" sp_evened []) (c_change_worths : C8.Met P w K mg base 2 Z.kept "change_worths" (sp_Kept_change_worths Z.kept) []) : C8.Cal P w K mg base 3 "answer_even" (spC Z T cEven) [] := by
  have sc := sc_answer_even
  refine C8.cal0 F b .nil sc (spC_len rfl) (fun cdv A outer s H vs Q E hr h => ?_)
  refine ⟨_, (pss_cons (ps_set (i := 2) sc.nd rfl (.inl rfl) (C8.pe_c c_is_even hr (by decide) (by rfl) (pa_cons (peF K rfl (pv 0) rfl) pa_nil)))
      (pss_cons (ps_expr (C8.pe_mt c_change_worths hr (by decide) (pv 0) (pa_cons (C8.pe_c c_evened hr (by decide) (by rfl) (pa_cons (peF K rfl (pv 0) rfl) pa_nil)) pa_nil)))
      (pss_one (ps_ret (pe_lst (pa_cons (pe_ifExp (pt_val (pv 2)) pe_int pe_int) pa_nil)))))), ?_⟩
  obtain ⟨a, b, st, told, c, rfl, hk, ok, ht, hb, ⟨rfl, rfl⟩, q⟩ := h
  rw [does_even] at q
  obtain ⟨dx, aw, ag, ap, ha, hgm, hpa, h10⟩ := id hk
  have h5 := ok.le
  refine q_asg (ev_call (ea_cons (ev_fW ZT.k (ev_var rfl) ha) ea_nil) (is_even_V hgm.1 (by omega))) fun H1 e1 => ?_
  refine q_methR (ev_var rfl) (e1 _ _ ha) no_m (er_call (ea_cons (ev_fW ZT.k (ev_var rfl) (e1 _ _ ha)) ea_nil) (evened_R (hgm.1.ex e1) (by omega))) fun p2 H2 e2 h2 => ⟨a, p2, st, _, rfl, hk.ex (e1.trans e2), h2, fun H3 b3 k3 => ?_⟩
  refine s_retL (el_lst (ea_cons (x := .int (numB (Ks567.even st.game.t))) (ev_if (et_B (ev_var rfl)) (fun z => ?_) (fun z => ?_)) ea_nil) (by show 1 ≤ 100000; decide)) (q.put hk ht (e1.trans e2) b3 k3 rfl)
  · rw [z]
    exact ev_c
  · rw [z]
    exact ev_c
/-! be -/
def cBe (told : List Int) (c : Ks570.Call) : Prop := ∃ l : List Nat, told = l.map (fun (k : Nat) => (k : Int)) ∧ l.length ≤ 12 ∧ c = .be l
theorem does_be {s : Ks570.State} {l : List Nat} : Ks570.does1 s (.be l) = if Ks565.okGroups s.game.t l = false then (s, Ks570.no (-22)) else (Ks570.change s { s.game with g := Ks565.tidy l, m := 0 }, Ks570.no (Ks565.groups (Ks565.tidy l))) := rfl
abbrev s_answer_be : Stmt := top 110
abbrev N_answer_be : List Str := ["kept", "told", "n", "group"]
abbrev P_answer_be : List Str := ["kept", "told"]
theorem sc_answer_be : FnScope N_answer_be P_answer_be (C8.fnScope s_answer_be) := C8.fnScope_by (by decide +kernel)
theorem cal_answer_be {Z : Zc} {f : Addr} {fd : FuncData} {T : List (Addr × Str)} (F : C8.Def K mg "answer_be" s_answer_be f fd) (b : Binds K fd P_answer_be []) (B : Blt mg) (Cs : Cst K mg) (ZT : ZTxt K Z) (c_numbered : C8.Cal P w K mg base 1 "numbered" sp_numbered []) (c_how_many : C8.Cal P w K mg base 1 "how_many" sp_how_many []) (c_lay_groups : C8.Met P w K mg base 2 Z.kept "lay_groups" (sp_Kept_lay_groups Z.kept) []) : C8.Cal P w K mg base 3 "answer_be" (spC Z T cBe) [] := by
  have sc := sc_answer_be; have b_len := B.len; have b_all := B.all; obtain ⟨_, m_WRONG⟩ := Cs.WRONG
  refine C8.cal0 F b .nil sc (spC_len rfl) (fun cdv A outer s H vs Q E hr h => ?_)
  refine ⟨_, (pss_cons (ps_set (i := 2) sc.nd rfl (.inr rfl) (pe_callB (cLen K rfl) (by rfl) b_len (by decide +kernel) (pa_cons (peF K rfl (pv 0) rfl) pa_nil)))
      (pss_cons (ps_if (PW.pt (pw_or (pt_cmpR op_ne (pe_callB (cLen K rfl) (by rfl) b_len (by decide +kernel) (pa_cons (pv 1) pa_nil)) (pv 2) (nomark _)) (pw_or1 (pt_not (pt_val (pe_callB (cAll K rfl rfl) (by rfl) b_all (by decide +kernel) (pa_cons (pe_lc (own := [("group", 3)]) rfl sc.nd (piL K rfl (pv 1)) (blkOk_by (own := [("group", 3)]) (N := N_answer_be) (sc := C8.fnScope s_answer_be) (by decide +kernel)) (fun _ _ _ _ _ => (pg_name (i := 3) sc.nd rfl (Or.inl rfl))) (fun _ _ _ _ _ => pts_nil) (fun _ _ _ _ _ => (pe_cmpR op_lt (pv 3) (pv 2) (nomark _)))) pa_nil))))))) (pss_one (ps_ret (pe_lst (pa_cons (pe_glob (v := .int (-22)) (by rfl) m_WRONG ⟨_, rfl⟩) pa_nil)))) pss_nil)
      (pss_cons (ps_expr (C8.pe_mt c_lay_groups hr (by decide) (pv 0) (pa_cons (C8.pe_c c_numbered hr (by decide) (by rfl) (pa_cons (pv 1) pa_nil)) pa_nil)))
      (pss_one (ps_ret (pe_lst (pa_cons (C8.pe_c c_how_many hr (by decide) (by rfl) (pa_cons (peF K rfl (pv 0) rfl) pa_nil)) pa_nil))))))), ?_⟩
  obtain ⟨a, b, st, told, c, rfl, hk, ok, ht, hb, ⟨l, rfl, hl12, rfl⟩, q⟩ := h
  rw [← nv_ints] at hb
  rw [does_be] at q
  have hlen := ok.game.len
  obtain ⟨dx, aw, ag, ap, ha, hgm, hpa, h10⟩ := id hk
  refine q_asg (ev_len (ev_fG ZT.k (ev_var rfl) ha) (sq_of hgm.2)) fun H1 e1 => ?_
  have hn : ((nv st.game.g).length : Int) = (st.game.t.n : Int) := by rw [nv_len, hlen]
  rw [hn]
  have ok2 : (decide (l.length ≠ st.game.t.n) || !(l.map fun (x : Nat) => decide ((x : Int) < (st.game.t.n : Int))).all id) = !Ks565.okGroups st.game.t l := by
    unfold Ks565.okGroups
    rw [all_map, Bool.not_and]
    congr 1
    · by_cases z : l.length = st.game.t.n
      · rw [z]; simp
      · rw [decide_eq_true z, beq_eq_false_iff_ne.mpr z]; rfl
    · congr 2
      funext x
      exact decide_eq_decide.mpr Int.ofNat_lt
  have hlist := e1 _ _ hb
  refine q_when (et_is (et_or (et_is (b := decide (l.length ≠ st.game.t.n)) (et_test (ev_op (ev_len (ev_var rfl) (sq_of hlist)) (ev_var rfl) (rv_ne rfl))) ?_) fun _ => et_not (et_B (ev_cbL (el_nums (l := l) (fun (x : Nat) => V.bl (decide ((x : Int) < (st.game.t.n : Int)))) (ev_var rfl) hlist (by omega) (fun x => rfl) fun k H4 e4 hkm => ev_op (ev_var rfl) (ev_var rfl) rv_I0) fun p H4 h4 e4 => rc_all (by rw [h4, List.map_map]; rfl)))) ok2) (fun c H2 e2 => ?_) (fun c H2 e2 => ?_)
  · rw [nv_len]
    by_cases z : l.length = st.game.t.n
    · rw [z]; simp
    · have z2 : ¬ (V.int (l.length : Int) = V.int (st.game.t.n : Int)) := fun q => z (by injection q with q; omega)
      rw [decide_eq_false z2, decide_eq_true z]; rfl
  · rw [if_pos (by rw [Bool.not_eq_true'] at c; exact c)] at q
    exact s_retL (el_lst (ea_cons ev_c ea_nil) (by show 1 ≤ 100000; decide)) (q.ask hk ht (e1.trans e2) rfl)
  · rw [Bool.not_eq_false'] at c
    rw [if_neg (by rw [c]; exact Bool.noConfusion)] at q
    have e12 := e1.trans e2
    refine q_methL (ev_var rfl) (e12 _ _ ha) no_m (el_call (ea_cons (ev_var rfl) ea_nil) (numbered_L (e2 _ _ hlist) (by omega))) fun p3 H3 e3 h3 => ⟨a, p3, st, _, rfl, hk.ex (e12.trans e3), h3, fun H4 b4 k4 => ?_⟩
    obtain ⟨dx4, aw4, ag4, ap4, ha4, hgm4, _⟩ := id k4
    have hl0 : 0 < (Ks565.tidy l).length := by
      unfold Ks565.okGroups at c
      rw [Bool.and_eq_true] at c
      have := eq_of_beq c.1
      have := ok.pos
      rw [tidy_len]
      omega
    exact s_retL (el_lst (ea_cons (ev_call (ea_cons (ev_fG ZT.k (ev_var rfl) ha4) ea_nil) (how_many_V (.inl hgm4.2) hl0)) ea_nil) (by show 1 ≤ 100000; decide)) (q.put hk ht (e12.trans e3) b4 k4 rfl)
/-! go -/
def cGo (told : List Int) (c : Ks570.Call) : Prop := ∃ (i k : Nat), told = [(i : Int), (k : Int)] ∧ c = .go i k
theorem ways_ret {t : Ks565.Folk} {g : List Nat} {i k : Nat} (hk : k ≤ Ks565.groups g) : (if Ks565.may t 2 g i k then (3 : Int) else if Ks565.may t 1 g i k then 2 else if Ks565.may t 0 g i k then 1 else 0) = ((ways t g i k : Nat) : Int) := by
  rw [may_is hk (by decide), may_is hk (by decide), may_is hk (by decide)]
  have h3 : ways t g i k ≤ 3 := by
    unfold ways
    split
    · omega
    · split
      · omega
      · split <;> omega
  generalize ways t g i k = v at h3
  have : v = 0 ∨ v = 1 ∨ v = 2 ∨ v = 3 := by omega
  rcases this with rfl | rfl | rfl | rfl <;> rfl
theorem does_go {s : Ks570.State} {i k : Nat} : Ks570.does1 s (.go i k) = if s.game.t.n ≤ i then (s, Ks570.no (-2)) else if Ks565.groups s.game.g < k then (s, Ks570.no (-2)) else if s.game.g.getD i 0 = k then (s, Ks570.no (-17)) else
    (Ks570.change s { s.game with g := Ks565.go s.game.g i k, m := s.game.m + 1 }, { ret := if Ks565.may s.game.t 2 s.game.g i k then 3 else if Ks565.may s.game.t 1 s.game.g i k then 2 else if Ks565.may s.game.t 0 s.game.g i k then 1 else 0, out := [Ks565.with_ s.game.t i (Ks565.members s.game.g k) - Ks565.worth s.game.t s.game.g i] }) := rfl
abbrev s_answer_go : Stmt := top 111
abbrev N_answer_go : List Str := ["kept", "told", "i", "k", "standing"]
abbrev P_answer_go : List Str := ["kept", "told"]
theorem sc_answer_go : FnScope N_answer_go P_answer_go (C8.fnScope s_answer_go) := C8.fnScope_by (by decide +kernel)
theorem cal_answer_go {Z : Zc} {f : Addr} {fd : FuncData} {T : List (Addr × Str)} (F : C8.Def K mg "answer_go" s_answer_go f fd) (b : Binds K fd P_answer_go []) (Cs : Cst K mg) (ZT : ZTxt K Z) (c_how_many : C8.Cal P w K mg base 1 "how_many" sp_how_many []) (c_standing_of : C8.Cal P w K mg base 5 "standing_of" (sp_standing_of Z) []) (c_gone : C8.Cal P w K mg base 2 "gone" sp_gone []) (c_has_in : C8.Cal P w K mg base 1 "has_in" (sp_has_in Z) []) (c_ways_there : C8.Cal P w K mg base 2 "ways_there" (sp_ways_there Z) []) (c_is_person : C8.Met P w K mg base 1 Z.kept "is_person" (sp_Kept_is_person Z.kept) []) (c_move_to : C8.Met P w K mg base 2 Z.kept "move_to" (sp_Kept_move_to Z.kept) []) : C8.Cal P w K mg base 6 "answer_go" (spC Z T cGo) [] := by
  have sc := sc_answer_go; obtain ⟨_, m_NOT_THERE⟩ := Cs.NOT_THERE; obtain ⟨_, m_OWN_GROUP⟩ := Cs.OWN_GROUP
  refine C8.cal0 F b .nil sc (spC_len rfl) (fun cdv A outer s H vs Q E hr h => ?_)
  refine ⟨_, (pss_cons (ps_set (i := 2) sc.nd rfl (.inl rfl) (pe_ix (ixl K rfl) (pv 1) pe_int (fun _ _ => rfl)))
      (pss_cons (ps_set (i := 3) sc.nd rfl (.inl rfl) (pe_ix (ixl K rfl) (pv 1) pe_int (fun _ _ => rfl)))
      (pss_cons (ps_if (PW.pt (pw_or (pt_not (pt_val (C8.pe_mt c_is_person hr (by decide) (pv 0) (pa_cons (pv 2) pa_nil)))) (pw_or1 (pt_cmpR op_gt (pv 3) (C8.pe_c c_how_many hr (by decide) (by rfl) (pa_cons (peF K rfl (pv 0) rfl) pa_nil)) (nomark _))))) (pss_one (ps_ret (pe_lst (pa_cons (pe_glob (v := .int (-2)) (by rfl) m_NOT_THERE ⟨_, rfl⟩) pa_nil)))) pss_nil)
      (pss_cons (ps_if (pt_cmpR op_eq (pv 3) (pe_ix (ixs K rfl) (peF K rfl (pv 0) rfl) (pv 2) (fun _ _ => rfl)) (nomark _)) (pss_one (ps_ret (pe_lst (pa_cons (pe_glob (v := .int (-17)) (by rfl) m_OWN_GROUP ⟨_, rfl⟩) pa_nil)))) pss_nil)
      (pss_cons (ps_set (i := 4) sc.nd rfl (.inl rfl) (C8.pe_c c_standing_of hr (by decide) (by rfl) (pa_cons (pv 0) pa_nil)))
      (pss_cons (ps_expr (C8.pe_mt c_move_to hr (by decide) (pv 0) (pa_cons (C8.pe_c c_gone hr (by decide) (by rfl) (pa_cons (peF K rfl (pv 0) rfl) (pa_cons (pv 2) (pa_cons (pv 3) pa_nil)))) pa_nil)))
      (pss_one (ps_ret (pe_lst (pa_cons (C8.pe_c c_ways_there hr (by decide) (by rfl) (pa_cons (pv 4) (pa_cons (pv 2) (pa_cons (pv 3) pa_nil)))) (pa_cons (pe_op op_sub (C8.pe_c c_has_in hr (by decide) (by rfl) (pa_cons (pv 4) (pa_cons (pv 2) (pa_cons (pv 3) pa_nil)))) (pe_ix (ixl K rfl) (peF K rfl (pv 4) rfl) (pv 2) (fun _ _ => rfl))) pa_nil))))))))))), ?_⟩
  obtain ⟨a, b, st, told, c, rfl, hk, ok, ht, hb, ⟨i, k, rfl, rfl⟩, q⟩ := h
  rw [does_go] at q
  have hlen := ok.game.len
  obtain ⟨dx, aw, ag, ap, ha, hgm, hpa, h10⟩ := id hk
  refine q_asg (ev_nth 0 (ev_var rfl) hb rfl) fun H1 e1 => ?_
  refine q_asg (ev_nth 1 (ev_var rfl) (e1 _ _ hb) rfl) fun H2 e2 => ?_
  have e12 := e1.trans e2
  refine q_when (et_or (et_not (et_B (ev_isP (hk.ex e12) (ev_var rfl) (ev_var rfl)))) fun _ => et_test (ev_op (ev_var rfl) (ev_call (ea_cons (ev_fG ZT.k (ev_var rfl) (e12 _ _ ha)) ea_nil) (how_many_V (.inl (e12 _ _ hgm.2)) (by rw [hlen]; exact ok.pos))) rv_I0)) (fun c H3 e3 => ?_) (fun c H3 e3 => ?_)
  · have q' : Ret Z.kept T a H Q (st, Ks570.no (-2)) := by
      rw [Bool.or_eq_true, Bool.not_eq_true', decide_eq_false_iff_not, decide_eq_true_eq] at c
      by_cases z : st.game.t.n ≤ i
      · rw [if_pos z] at q
        exact q
      · rw [if_neg z, if_pos (by omega)] at q
        exact q
    exact s_retL (el_lst (ea_cons ev_c ea_nil) (by show 1 ≤ 100000; decide)) (q'.ask hk ht (e12.trans e3) rfl)
  · rw [Bool.or_eq_false_iff, Bool.not_eq_false', decide_eq_true_eq, decide_eq_false_iff_not] at c
    have hi : i < st.game.t.n := by omega
    have hkk : k ≤ Ks565.groups st.game.g := by omega
    rw [if_neg (by omega), if_neg (by omega)] at q
    have e13 := e12.trans e3
    have hgi : Ev (tOp (rIxG K) (tFld K (tVar 0) "groups") (tVar 2)) [some (.ref a), some (.ref b), some (.int (i : Int)), some (.int (k : Int)), none] H3 (.int ((st.game.g.getD i 0 : Nat) : Int)) := ev_op (ev_fG ZT.k (ev_var rfl) (e13 _ _ ha)) (ev_var rfl) (rv_ixG (.inl (sq_of (e13 _ _ hgm.2))) (atI_nat (nv_get (by omega))))
    refine q_when (et_test (ev_op (ev_var rfl) hgi (rv_eq rfl))) (fun c2 H4 e4 => ?_) (fun c2 H4 e4 => ?_)
    · have z : st.game.g.getD i 0 = k := by have := of_decide_eq_true c2; injection this with z; omega
      rw [if_pos z] at q
      exact s_retL (el_lst (ea_cons ev_c ea_nil) (by show 1 ≤ 100000; decide)) (q.ask hk ht (e13.trans e4) rfl)
    · have z : ¬ st.game.g.getD i 0 = k := fun z => of_decide_eq_false c2 (by rw [z])
      rw [if_neg z, ways_ret hkk] at q
      have e14 := e13.trans e4
      refine q_asgP (ep_call (ea_cons (ev_var rfl) ea_nil) (standing_of_P (hk.ex e14) ok)) fun v H5 e5 hv => ?_
      obtain ⟨p, rfl, hs⟩ := hv
      have e15 := e14.trans e5
      refine q_methL (ev_var rfl) (e15 _ _ ha) no_m (el_call (ea_cons (ev_fG ZT.k (ev_var rfl) (e15 _ _ ha)) (ea_cons (ev_var rfl) (ea_cons (ev_var rfl) ea_nil))) (gone_L (.inl (e15 _ _ hgm.2)) (by have := ok.le; omega))) fun p7 H7 e7 h7 => ⟨a, p7, st, _, rfl, hk.ex (e15.trans e7), h7, fun H8 b8 k8 => ?_⟩
      have s8 := (hs.ex e7).stn (b8.stn ((e15.trans e7) _ _ ha) ⟨_, _, _, _, rfl⟩)
      exact s_retL (el_lst (ea_cons (ev_call (ea_cons (ev_var rfl) (ea_cons (ev_var rfl) (ea_cons (ev_var rfl) ea_nil))) (ways_there_V s8 hi hkk)) (ea_cons (ev_op (ev_call (ea_cons (ev_var rfl) (ea_cons (ev_var rfl) (ea_cons (ev_var rfl) ea_nil))) (has_in_V s8 hi hkk)) (ev_has ZT s8 hi (ev_var rfl) (ev_var rfl)) rv_I0) ea_nil)) (by show 2 ≤ 100000; decide)) (q.put hk ht (e15.trans e7) b8 k8 rfl)
/-! leave -/
def cLeave (told : List Int) (c : Ks570.Call) : Prop := ∃ (x : Nat), told = [(x : Int)] ∧ c = .leave x
theorem does_leave {s : Ks570.State} {x : Nat} : Ks570.does1 s (.leave x) = if x = 0 ∨ 2 ^ s.game.t.n ≤ x then (s, Ks570.no (-22)) else (Ks570.change s { s.game with g := Ks566.leave s.game.t s.game.g x, m := s.game.m + 1 }, Ks570.no (if Ks566.leaves s.game.t s.game.g x then 2 else if Ks566.leavesWeak s.game.t s.game.g x then 1 else 0)) := rfl
theorem how_int {t : Ks565.Folk} {g : List Nat} {x : Nat} : (if Ks566.leaves t g x then (2 : Int) else if Ks566.leavesWeak t g x then 1 else 0) = ((how t g x : Nat) : Int) := by
  unfold how
  split
  · rfl
  · split <;> rfl
abbrev s_answer_leave : Stmt := top 112
abbrev N_answer_leave : List Str := ["kept", "told", "s", "standing"]
abbrev P_answer_leave : List Str := ["kept", "told"]
theorem sc_answer_leave : FnScope N_answer_leave P_answer_leave (C8.fnScope s_answer_leave) := C8.fnScope_by (by decide +kernel)
theorem cal_answer_leave {Z : Zc} {f : Addr} {fd : FuncData} {T : List (Addr × Str)} (F : C8.Def K mg "answer_leave" s_answer_leave f fd) (b : Binds K fd P_answer_leave []) (B : Blt mg) (Cs : Cst K mg) (ZT : ZTxt K Z) (c_is_set : C8.Cal P w K mg base 1 "is_set" sp_is_set []) (c_standing_of : C8.Cal P w K mg base 5 "standing_of" (sp_standing_of Z) []) (c_left_by : C8.Cal P w K mg base 2 "left_by" (sp_left_by Z) []) (c_how_they_leave : C8.Cal P w K mg base 1 "how_they_leave" (sp_how_they_leave Z) []) (c_move_to : C8.Met P w K mg base 2 Z.kept "move_to" (sp_Kept_move_to Z.kept) []) : C8.Cal P w K mg base 6 "answer_leave" (spC Z T cLeave) [] := by
  have sc := sc_answer_leave; have b_len := B.len; obtain ⟨_, m_WRONG⟩ := Cs.WRONG
  refine C8.cal0 F b .nil sc (spC_len rfl) (fun cdv A outer s H vs Q E hr h => ?_)
  refine ⟨_, (pss_cons (ps_set (i := 2) sc.nd rfl (.inl rfl) (pe_ix (ixl K rfl) (pv 1) pe_int (fun _ _ => rfl)))
      (pss_cons (ps_if (pt_not (pt_val (C8.pe_c c_is_set hr (by decide) (by rfl) (pa_cons (pv 2) (pa_cons (pe_callB (cLen K rfl) (by rfl) b_len (by decide +kernel) (pa_cons (peF K rfl (pv 0) rfl) pa_nil)) pa_nil))))) (pss_one (ps_ret (pe_lst (pa_cons (pe_glob (v := .int (-22)) (by rfl) m_WRONG ⟨_, rfl⟩) pa_nil)))) pss_nil)
      (pss_cons (ps_set (i := 3) sc.nd rfl (.inl rfl) (C8.pe_c c_standing_of hr (by decide) (by rfl) (pa_cons (pv 0) pa_nil)))
      (pss_cons (ps_expr (C8.pe_mt c_move_to hr (by decide) (pv 0) (pa_cons (C8.pe_c c_left_by hr (by decide) (by rfl) (pa_cons (pv 3) (pa_cons (pv 2) pa_nil))) pa_nil)))
      (pss_one (ps_ret (pe_lst (pa_cons (C8.pe_c c_how_they_leave hr (by decide) (by rfl) (pa_cons (pv 3) (pa_cons (pv 2) pa_nil))) pa_nil)))))))), ?_⟩
  obtain ⟨a, b, st, told, c, rfl, hk, ok, ht, hb, ⟨x, rfl, rfl⟩, q⟩ := h
  rw [does_leave, how_int] at q
  have hlen := ok.game.len
  obtain ⟨dx, aw, ag, ap, ha, hgm, hpa, h10⟩ := id hk
  refine q_asg (ev_nth 0 (ev_var rfl) hb rfl) fun H1 e1 => ?_
  have hn : ((nv st.game.g).length : Int) = (st.game.t.n : Int) := by rw [nv_len, hlen]
  refine q_when (et_not (et_B (ev_call (ea_cons (ev_var rfl) (ea_cons (ev_is (ev_len (ev_fG ZT.k (ev_var rfl) (e1 _ _ ha)) (sq_of (e1 _ _ hgm.2))) (congrArg V.int hn)) ea_nil)) is_set_V))) (fun c H2 e2 => ?_) (fun c H2 e2 => ?_)
  · rw [Bool.not_eq_true', decide_eq_false_iff_not, Decidable.not_not] at c
    rw [if_pos c] at q
    exact s_retL (el_lst (ea_cons ev_c ea_nil) (by show 1 ≤ 100000; decide)) (q.ask hk ht (e1.trans e2) rfl)
  · rw [Bool.not_eq_false', decide_eq_true_eq] at c
    rw [if_neg c] at q
    have hx0 : x ≠ 0 := fun z => c (.inl z)
    have hx1 : x < 2 ^ st.game.t.n := Nat.not_le.mp fun z => c (.inr z)
    have e12 := e1.trans e2
    refine q_asgP (ep_call (ea_cons (ev_var rfl) ea_nil) (standing_of_P (hk.ex e12) ok)) fun v H3 e3 hv => ?_
    obtain ⟨p, rfl, hs⟩ := hv
    have e13 := e12.trans e3
    refine q_methL (ev_var rfl) (e13 _ _ ha) no_m (el_call (ea_cons (ev_var rfl) (ea_cons (ev_var rfl) ea_nil)) (left_by_L hs hx1)) fun p4 H4 e4 h4 => ⟨a, p4, st, _, rfl, hk.ex (e13.trans e4), h4, fun H5 b5 k5 => ?_⟩
    have s5 := (hs.ex e4).stn (b5.stn ((e13.trans e4) _ _ ha) ⟨_, _, _, _, rfl⟩)
    exact s_retL (el_lst (ea_cons (ev_call (ea_cons (ev_var rfl) (ea_cons (ev_var rfl) ea_nil)) (how_they_leave_V s5 hx0 hx1)) ea_nil) (by show 1 ≤ 100000; decide)) (q.put hk ht (e13.trans e4) b5 k5 rfl)
/-! back -/
def cBack (told : List Int) (c : Ks570.Call) : Prop := told = [] ∧ c = .back
abbrev s_answer_back : Stmt := top 114
abbrev N_answer_back : List Str := ["kept", "told"]
abbrev P_answer_back : List Str := ["kept", "told"]
theorem sc_answer_back : FnScope N_answer_back P_answer_back (C8.fnScope s_answer_back) := C8.fnScope_by (by decide +kernel)
theorem cal_answer_back {Z : Zc} {f : Addr} {fd : FuncData} {T : List (Addr × Str)} (F : C8.Def K mg "answer_back" s_answer_back f fd) (b : Binds K fd P_answer_back []) (B : Blt mg) (Cs : Cst K mg) (ZT : ZTxt K Z) (c_take_back : C8.Met P w K mg base 1 Z.kept "take_back" (sp_Kept_take_back Z.kept) []) : C8.Cal P w K mg base 2 "answer_back" (spC Z T cBack) [] := by
  have sc := sc_answer_back; have b_len := B.len; obtain ⟨_, m_NOTHING_TO_DO⟩ := Cs.NOTHING_TO_DO
  refine C8.cal0 F b .nil sc (spC_len rfl) (fun cdv A outer s H vs Q E hr h => ?_)
  refine ⟨_, (pss_cons (ps_if (pt_cmpR op_eq (pe_callB (cLen K rfl) (by rfl) b_len (by decide +kernel) (pa_cons (peF K rfl (pv 0) rfl) pa_nil)) pe_int (nomark _)) (pss_one (ps_ret (pe_lst (pa_cons (pe_glob (v := .int (-6)) (by rfl) m_NOTHING_TO_DO ⟨_, rfl⟩) pa_nil)))) pss_nil)
      (pss_cons (ps_expr (C8.pe_mt0 c_take_back hr (by decide) (pv 0)))
      (pss_one (ps_ret (pe_lst (pa_cons (pe_callB (cLen K rfl) (by rfl) b_len (by decide +kernel) (pa_cons (peF K rfl (pv 0) rfl) pa_nil)) pa_nil)))))), ?_⟩
  obtain ⟨a, b, st, told, c, rfl, hk, ok, ht, hb, ⟨rfl, rfl⟩, q⟩ := h
  obtain ⟨dx, aw, ag, ap, ha, hgm, hpa, h10⟩ := id hk
  obtain ⟨xs, hxs, hxl⟩ : ∃ xs, H ap = some (.lst xs) ∧ xs.length = st.was.length := by
    obtain ⟨ps, h1, h2, _⟩ := hpa
    exact ⟨_, h1, by rw [List.length_map, h2, List.length_reverse]⟩
  refine q_when (et_test (ev_op (ev_len (ev_fP ZT.k (ev_var rfl) ha) (sq_of hxs)) ev_c (rv_eq rfl))) (fun c H1 e1 => ?_) (fun c H1 e1 => ?_)
  · have z : st.was = [] := List.length_eq_zero_iff.mp (by have := of_decide_eq_true c; injection this with z; omega)
    have q' : Ret Z.kept T a H Q (st, Ks570.no (-6)) := by
      have e : Ks570.does1 st .back = (st, Ks570.no (-6)) := by
        show (match st.was with | [] => (st, Ks570.no (-6)) | g :: l => ({ game := g, was := l }, Ks570.no l.length)) = _
        rw [z]
      rw [e] at q
      exact q
    exact s_retL (el_lst (ea_cons ev_c ea_nil) (by show 1 ≤ 100000; decide)) (q'.ask hk ht e1 rfl)
  · obtain ⟨gm, l, hwas⟩ : ∃ gm l, st.was = gm :: l := by
      cases z : st.was with
      | nil =>
        refine absurd ?_ (of_decide_eq_false c)
        rw [hxl, z]
        rfl
      | cons gm l => exact ⟨gm, l, rfl⟩
    have e : Ks570.does1 st .back = (⟨gm, l⟩, Ks570.no l.length) := by
      show (match st.was with | [] => (st, Ks570.no (-6)) | g :: l => ({ game := g, was := l }, Ks570.no l.length)) = _
      rw [hwas]
    rw [e] at q
    refine q_meth (ev_var rfl) (e1 _ _ ha) no_m ea_nil fun H2 e2 => ⟨a, st, gm, l, rfl, hk.ex (e1.trans e2), hwas, fun H3 b3 k3 => ?_⟩
    obtain ⟨dx3, aw3, ag3, ap3, ha3, _, hpa3, _⟩ := id k3
    obtain ⟨ys, hys, hyl⟩ : ∃ ys, H3 ap3 = some (.lst ys) ∧ ys.length = l.length := by
      obtain ⟨ps, h1, h2, _⟩ := hpa3
      exact ⟨_, h1, by rw [List.length_map, h2, List.length_reverse]⟩
    refine s_retL (el_lst (ea_cons (ev_len (ev_fP ZT.k (ev_var rfl) ha3) (sq_of hys)) ea_nil) (by show 1 ≤ 100000; decide)) (q.put hk ht (e1.trans e2) b3 k3 ?_)
    rw [hyl]
    rfl
/-! step -/
def cStep (told : List Int) (c : Ks570.Call) : Prop := ∃ (x : Nat), told = [(x : Int)] ∧ c = .step x
theorem does_step {s : Ks570.State} {x : Nat} : Ks570.does1 s (.step x) = if 2 < x then (s, Ks570.no (-22)) else match Ks567.step s.game.t x s.game.g with
    | none => (s, Ks570.no (-6))
    | some (i, k, h) => (Ks570.change s { s.game with g := h, m := s.game.m + 1 }, { ret := i, out := [(k : Int)] }) := rfl
abbrev s_answer_step : Stmt := top 113
abbrev N_answer_step : List Str := ["kept", "told", "way", "move"]
abbrev P_answer_step : List Str := ["kept", "told"]
theorem sc_answer_step : FnScope N_answer_step P_answer_step (C8.fnScope s_answer_step) := C8.fnScope_by (by decide +kernel)
theorem cal_answer_step {Z : Zc} {f : Addr} {fd : FuncData} {T : List (Addr × Str)} (F : C8.Def K mg "answer_step" s_answer_step f fd) (b : Binds K fd P_answer_step []) (Cs : Cst K mg) (ZT : ZTxt K Z) (c_step_by : C8.Cal P w K mg base 5 "step_by" (sp_step_by Z T) []) (c_standing_of : C8.Cal P w K mg base 5 "standing_of" (sp_standing_of Z) []) (c_gone : C8.Cal P w K mg base 2 "gone" sp_gone []) (c_move_to : C8.Met P w K mg base 2 Z.kept "move_to" (sp_Kept_move_to Z.kept) []) : C8.Cal P w K mg base 6 "answer_step" (spC Z T cStep) [] := by
  have sc := sc_answer_step; obtain ⟨_, m_LAST_WAY⟩ := Cs.LAST_WAY; obtain ⟨_, m_WRONG⟩ := Cs.WRONG; obtain ⟨_, m_NOTHING_TO_DO⟩ := Cs.NOTHING_TO_DO
  refine C8.cal0 F b .nil sc (spC_len rfl) (fun cdv A outer s H vs Q E hr h => ?_)
  refine ⟨_, (pss_cons (ps_set (i := 2) sc.nd rfl (.inl rfl) (pe_ix (ixl K rfl) (pv 1) pe_int (fun _ _ => rfl)))
      (pss_cons (ps_if (pt_cmpR op_gt (pv 2) (pe_glob (v := .int (2)) (by rfl) m_LAST_WAY ⟨_, rfl⟩) (nomark _)) (pss_one (ps_ret (pe_lst (pa_cons (pe_glob (v := .int (-22)) (by rfl) m_WRONG ⟨_, rfl⟩) pa_nil)))) pss_nil)
      (pss_cons (ps_set (i := 3) sc.nd rfl (.inl rfl) (C8.pe_c c_step_by hr (by decide) (by rfl) (pa_cons (C8.pe_c c_standing_of hr (by decide) (by rfl) (pa_cons (pv 0) pa_nil)) (pa_cons (pv 2) pa_nil))))
      (pss_cons (ps_if (pt_cmpR op_isN (pv 3) pe_non (nomark _)) (pss_one (ps_ret (pe_lst (pa_cons (pe_glob (v := .int (-6)) (by rfl) m_NOTHING_TO_DO ⟨_, rfl⟩) pa_nil)))) pss_nil)
      (pss_cons (ps_expr (C8.pe_mt c_move_to hr (by decide) (pv 0) (pa_cons (C8.pe_c c_gone hr (by decide) (by rfl) (pa_cons (peF K rfl (pv 0) rfl) (pa_cons (pe_ix (ixt K rfl) (pv 3) pe_int (fun _ _ => rfl)) (pa_cons (pe_ix (ixt K rfl) (pv 3) pe_int (fun _ _ => rfl)) pa_nil)))) pa_nil)))
      (pss_one (ps_ret (pe_lst (pa_cons (pe_ix (ixt K rfl) (pv 3) pe_int (fun _ _ => rfl)) (pa_cons (pe_ix (ixt K rfl) (pv 3) pe_int (fun _ _ => rfl)) pa_nil)))))))))), ?_⟩
  obtain ⟨a, b, st, told, c, rfl, hk, ok, ht, hb, ⟨x, rfl, rfl⟩, q⟩ := h
  rw [does_step] at q
  refine q_asg (ev_nth 0 (ev_var rfl) hb rfl) fun H1 e1 => ?_
  refine q_when (et_test (ev_op (ev_var rfl) ev_c rv_I0)) (fun c H2 e2 => ?_) (fun c H2 e2 => ?_)
  · have z : 2 < x := by have := of_decide_eq_true c; omega
    rw [if_pos z] at q
    exact s_retL (el_lst (ea_cons ev_c ea_nil) (by show 1 ≤ 100000; decide)) (q.ask hk ht (e1.trans e2) rfl)
  · have z : ¬ 2 < x := by have := of_decide_eq_false c; omega
    rw [if_neg z] at q
    have e12 := e1.trans e2
    have k2 := hk.ex e12
    refine q_asgCallP std_mono (ep_call (ea_cons (ev_var rfl) ea_nil) (standing_of_P k2 ok)) (ea_cons (ev_var rfl) ea_nil) fun v H3 e3 hv => ?_
    obtain ⟨ps, rfl, hs⟩ := hv
    have e13 := e12.trans e3
    refine ⟨ps, false, st.game.t, st.game.g, x, rfl, hs, by omega, ht.ext e13, fun hst H4 e4 t4 => ?_, fun i k hh hst p H4 e4 t4 h4 => ?_⟩
    · rw [hst] at q
      have eN : ExtN H H4 := (ExtN.of e13).trans e4
      refine q_when (et_test (b := true) (fun H5 e5 Q' q' => ⟨_, rfl, rfl, q' H5 (Ex.refl H5)⟩)) (fun c H5 e5 => ?_) (fun c H5 e5 => Bool.noConfusion c)
      exact s_retL (el_lst (ea_cons ev_c ea_nil) (by show 1 ≤ 100000; decide)) (q.askA hk (eN.trans (ExtN.of e5)) (t4.ext e5) rfl)
    · rw [hst] at q
      have hgo := step_go hst
      subst hgo
      have eN : ExtN H H4 := (ExtN.of e13).trans e4
      refine q_when (et_test (b := false) (fun H5 e5 Q' q' => ⟨_, rfl, rfl, q' H5 (Ex.refl H5)⟩)) (fun c H5 e5 => Bool.noConfusion c) (fun c H5 e5 => ?_)
      have k5 := (hk.gr eN).ex e5
      have t5 := e5 _ _ h4
      obtain ⟨dx5, aw5, ag5, ap5, ha5, hgm5, _⟩ := id k5
      refine q_methL (ev_var rfl) ha5 no_m (el_call (ea_cons (ev_fG ZT.k (ev_var rfl) ha5) (ea_cons (ev_op (ev_var rfl) ev_c (rv_ixT (st_of t5) (atI_nat (j := 0) rfl))) (ea_cons (ev_op (ev_var rfl) ev_c (rv_ixT (st_of t5) (atI_nat (j := 1) rfl))) ea_nil))) (gone_L (.inl hgm5.2) (by have := ok.le; have := ok.game.len; omega))) fun p6 H6 e6 h6 => ⟨a, p6, st, _, rfl, k5.ex e6, h6, fun H7 b7 k7 => ?_⟩
      have t7 : H7 p = some (.tup [.int (i : Int), .int (k : Int)]) := (b7.std (e6 _ _ ha5)).t _ _ (e6 _ _ t5)
      exact s_retL (el_lst (ea_cons (ev_op (ev_var rfl) ev_c (rv_ixT (st_of t7) (atI_nat (j := 0) rfl))) (ea_cons (ev_op (ev_var rfl) ev_c (rv_ixT (st_of t7) (atI_nat (j := 1) rfl))) ea_nil)) (by show 2 ≤ 100000; decide)) (q.putN (eN.trans (ExtN.of (e5.trans e6))) (t4.ext (e5.trans e6)) (k5.ex e6) b7 k7 rfl)
end Rg

set_option Elab.async false
set_option maxRecDepth 100000
set_option maxHeartbeats 2000000
set_option linter.unusedVariables false
/-! the line is split into calls -/
namespace Rg
open PySem PySem.Spec PyProof.Rows L2 Evl LamX
variable {P : Program} {w : World} {K : PySem.W.Frag} {mg : Str → Option Value} {base : Heap}
/-- a call's number, and all that is told with it -/
def numOf (c : List (List Int)) : Int := (c.headD []).headD 0
def argOf (c : List (List Int)) : List Int := (c.headD []).drop 1 ++ (c.drop 1).flatten
theorem shape_in : ∀ m < 27, PyKs570.shape ((m : Nat) : Int) = some (plain.getD m 0, if m = 2 ∨ m = 4 then 1 else 0) := by decide
theorem shape_out {p : Int} (h : ¬ (0 ≤ p ∧ p < 27)) : PyKs570.shape p = none := by
  unfold PyKs570.shape
  repeat rw [if_neg (by omega)]
theorem shape_is {p : Int} {n k : Nat} (h : PyKs570.shape p = some (n, k)) : ∃ m : Nat, p = (m : Int) ∧ m < 27 ∧ plain[m]? = some n ∧ k = if m = 2 ∨ m = 4 then 1 else 0 := by
  by_cases hp : 0 ≤ p ∧ p < 27
  · have e : p = ((p.toNat : Nat) : Int) := by omega
    have hm : p.toNat < 27 := by omega
    rw [e, shape_in _ hm] at h
    obtain ⟨e1, e2⟩ := Prod.mk.inj (Option.some.inj h)
    refine ⟨p.toNat, e, hm, ?_, e2.symm⟩
    have hl : p.toNat < plain.length := hm
    rw [← e1, List.getD_eq_getElem?_getD, List.getElem?_eq_getElem hl]
    rfl
  · rw [shape_out hp] at h
    cases h
theorem put_app : ∀ xs ys : List (List (List Int)), PyFlat.put (xs ++ ys) = PyFlat.put xs ++ PyFlat.put ys
  | [], _ => rfl
  | x :: xs, ys => by
    show PyFlat.put1 x ++ PyFlat.put (xs ++ ys) = (PyFlat.put1 x ++ PyFlat.put xs) ++ PyFlat.put ys
    rw [put_app xs ys, List.append_assoc]
theorem put_at {raw : List (List (List Int))} {j : Nat} {c : List (List Int)} (h : raw[j]? = some c) : PyFlat.put raw = PyFlat.put (raw.take j) ++ (PyFlat.put1 c ++ PyFlat.put (raw.drop (j + 1))) := by
  obtain ⟨hj, e⟩ := List.getElem?_eq_some_iff.mp h
  have z : raw = raw.take j ++ (c :: raw.drop (j + 1)) := by
    rw [← e, List.getElem_cons_drop, List.take_append_drop]
  conv => lhs; rw [z, put_app]
  rfl
theorem put_next {raw : List (List (List Int))} {j : Nat} {c : List (List Int)} (h : raw[j]? = some c) : (PyFlat.put (raw.take (j + 1))).length = (PyFlat.put (raw.take j)).length + (PyFlat.put1 c).length := by
  rw [List.take_add_one, h, put_app, List.length_append]
  show _ + (PyFlat.put1 c ++ []).length = _
  rw [List.append_nil]
theorem mid_at (A B : List Int) (x : Int) : (A ++ x :: B)[A.length]? = some x := by
  rw [List.getElem?_append_right (Nat.le_refl _), Nat.sub_self]
  rfl
theorem cut_mid (A M B : List Int) (m : Nat) (hm : m = A.length + M.length) : cutV ((A ++ (M ++ B)).map V.int) (some ((A.length : Nat) : Int)) (some ((m : Nat) : Int)) = M.map V.int := by
  unfold cutV
  rw [HT.sIx_nat, HT.sIx_nat, List.length_map, List.length_append, List.length_append, hm]
  rw [Nat.min_eq_left (by omega), Nat.min_eq_left (by omega)]
  have e : A.length + M.length - A.length = M.length := by omega
  rw [e, ← List.map_drop, ← List.map_take, List.drop_left, List.take_left]
/-- the calls found: at D a list of pairs -/
def FoundAt (H0 H : Hp) (D : Addr) (cs : List (List (List Int))) : Prop := ∃ ps : List Addr, H D = some (.lst (ps.map V.ref)) ∧ ps.length = cs.length ∧
  ∀ (i : Nat) (p : Addr), ps[i]? = some p → ∃ (c : List (List Int)) (t : Addr), cs[i]? = some c ∧ H p = some (.tup [.int (numOf c), .ref t]) ∧ H t = some (.lst ((argOf c).map V.int)) ∧ H0 t = none
theorem FoundAt.nil {H0 H : Hp} {D : Addr} (h : H D = some (.lst [])) : FoundAt H0 H D [] := ⟨[], h, rfl, fun i p hi => by cases hi⟩
theorem FoundAt.ex {H0 H H' : Hp} {D : Addr} {cs : List (List (List Int))} (x : FoundAt H0 H D cs) (e : Ex H H') : FoundAt H0 H' D cs := by
  obtain ⟨ps, h1, h2, h3⟩ := x
  refine ⟨ps, e _ _ h1, h2, fun i p hi => ?_⟩
  obtain ⟨c, t, a1, a2, a3, a4⟩ := h3 i p hi
  exact ⟨c, t, a1, e _ _ a2, e _ _ a3, a4⟩
theorem FoundAt.lst {H0 H : Hp} {D : Addr} {cs : List (List (List Int))} (x : FoundAt H0 H D cs) : ∃ xs, H D = some (.lst xs) ∧ xs.length = cs.length := by
  obtain ⟨ps, h1, h2, _⟩ := x
  exact ⟨_, h1, (List.length_map ..).trans h2⟩
theorem FoundAt.snoc {H0 H H' : Hp} {D p t : Addr} {cs : List (List (List Int))} {c : List (List Int)} {xs : List V} (x : FoundAt H0 H D cs) (hx : H D = some (.lst xs)) (e : Ex H H') (hp : H' p = some (.tup [.int (numOf c), .ref t])) (ht : H' t = some (.lst ((argOf c).map V.int))) (ntD : t ≠ D) (tnew : H0 t = none) :
    FoundAt H0 (upd H' D (.lst (xs ++ [.ref p]))) D (cs ++ [c]) := by
  obtain ⟨ps, h1, h2, h3⟩ := x
  rw [h1] at hx
  cases hx
  have hD := e _ _ h1
  refine ⟨ps ++ [p], by rw [upd_same, List.map_append]; rfl, by rw [List.length_append, List.length_append, h2]; rfl, fun i q hi => ?_⟩
  rw [List.getElem?_append] at hi
  split at hi
  · obtain ⟨c', t', a1, a2, a3, tn⟩ := h3 i q hi
    refine ⟨c', t', ?_, ?_, ?_, tn⟩
    · rw [List.getElem?_append_left (by omega)]
      exact a1
    · rw [upd_ne (fun z => by rw [z, h1] at a2; cases a2)]
      exact e _ _ a2
    · by_cases z : t' = D
      · rw [z, h1] at a3
        have a4 : ps.map V.ref = (argOf c').map V.int := by injection a3 with a5; injection a5
        exfalso
        cases ps with
        | nil => simp at hi
        | cons y ys =>
          cases hw : argOf c' with
          | nil => rw [hw] at a4; cases a4
          | cons u us => rw [hw] at a4; cases a4
      · rw [upd_ne z]
        exact e _ _ a3
  · have hi' : i - ps.length = 0 := by
      apply Classical.byContradiction
      intro z
      rw [List.getElem?_eq_none (by show 1 ≤ _; omega)] at hi
      cases hi
    rw [hi'] at hi
    have hq : p = q := Option.some.inj hi
    refine ⟨c, t, ?_, ?_, ?_, tnew⟩
    · rw [List.getElem?_append_right (by omega), show i - cs.length = 0 by omega]
      rfl
    · rw [← hq, upd_ne (fun z => by rw [z, hD] at hp; cases hp)]
      exact hp
    · rw [upd_ne ntD]
      exact ht
theorem FoundAt.at_ {H0 H : Hp} {D : Addr} {cs : List (List (List Int))} {xs : List V} {i : Nat} {x : V} (f : FoundAt H0 H D cs) (hx : H D = some (.lst xs)) (hi : xs[i]? = some x) : ∃ (p t : Addr) (c : List (List Int)), x = .ref p ∧ cs[i]? = some c ∧ H p = some (.tup [.int (numOf c), .ref t]) ∧ H t = some (.lst ((argOf c).map V.int)) := by
  obtain ⟨ps, h1, h2, h3⟩ := f
  rw [h1] at hx
  cases hx
  rw [List.getElem?_map] at hi
  cases e : ps[i]? with
  | none => rw [e] at hi; cases hi
  | some p =>
    rw [e] at hi
    obtain ⟨c, t, a1, a2, a3, _⟩ := h3 i p e
    exact ⟨p, t, c, (Option.some.inj hi).symm, a1, a2, a3⟩
theorem FoundAt.put {H0 H H' : Hp} {D : Addr} {cs : List (List (List Int))} (x : FoundAt H0 H D cs) (e : ∀ b xs, H b = some (.lst xs) → (b = D ∨ H0 b = none) → H' b = some (.lst xs)) (e2 : ∀ b xs, H b = some (.tup xs) → H' b = some (.tup xs)) : FoundAt H0 H' D cs := by
  obtain ⟨ps, h1, h2, h3⟩ := x
  refine ⟨ps, e _ _ h1 (.inl rfl), h2, fun i p hi => ?_⟩
  obtain ⟨c, t, a1, a2, a3, a4⟩ := h3 i p hi
  exact ⟨c, t, a1, e2 _ _ a2, e _ _ a3 (.inr a4), a4⟩
abbrev s_split_calls : Stmt := top 123
abbrev N_split_calls : List Str := ["calls", "found", "at", "number", "end", "told", "size"]
abbrev P_split_calls : List Str := ["calls"]
theorem sc_split_calls : FnScope N_split_calls P_split_calls (C8.fnScope s_split_calls) := C8.fnScope_by (by decide +kernel)
def sp_split_calls (K : PySem.W.Frag) : Sp := fun vs H Q _ => ∃ (a : Addr) (raw : List (List (List Int))), vs = [.ref a] ∧ SqL K H a ((PyFlat.put raw).map V.int) ∧ (∀ c ∈ raw, PyFlat.okCall PyKs570.shape c) ∧ raw.length ≤ 5000 ∧ (∀ c ∈ raw, (argOf c).length ≤ 1000) ∧
  ∀ p H', H p = none → Ex H H' → FoundAt H H' p raw → Q (.ref p) H'
theorem cal_split_calls {f : Addr} {fd : FuncData} (F : C8.Def K mg "split_calls" s_split_calls f fd) (b : Binds K fd P_split_calls []) (B : Blt mg) (Cs : Cst K mg) : C8.Cal P w K mg base 1 "split_calls" (sp_split_calls K) [] := by
  have sc := sc_split_calls; have b_len := B.len; obtain ⟨a_PLAIN_NUMBERS, m_PLAIN_NUMBERS, hT_PLAIN_NUMBERS⟩ := Cs.PLAIN_NUMBERS; obtain ⟨_, m_BE⟩ := Cs.BE; obtain ⟨_, m_ROW⟩ := Cs.ROW
  refine C8.cal0 F b .nil sc (fun vs H Q E h => ?_) (fun cdv A outer s H vs Q E hr h => ?_)
  · obtain ⟨_, _, rfl, _⟩ := h
    rfl
  · refine ⟨_, (pss_cons (ps_set (i := 1) sc.nd rfl (.inl rfl) (pe_lst pa_nil))
      (pss_cons (ps_set (i := 2) sc.nd rfl (.inl rfl) pe_int)
      (pss_cons (ps_while PassesOwn.never (pt_cmpR op_lt (pv 2) (pe_callB (cLen K rfl) (by rfl) b_len (by decide +kernel) (pa_cons (pv 0) pa_nil)) (nomark _)) (pss_cons (ps_set (i := 3) sc.nd rfl (.inl rfl) (pe_ix (ixl K rfl) (pv 0) (pv 2) (fun _ _ => rfl)))
      (pss_cons (ps_set (i := 4) sc.nd rfl (.inl rfl) (pe_op op_add (pe_op op_add (pv 2) pe_int) (pe_ix (ixt K rfl) (pe_glob (v := .ref a_PLAIN_NUMBERS) (by rfl) m_PLAIN_NUMBERS rfl) (pv 3) (fun _ _ => rfl))))
      (pss_cons (ps_set (i := 5) sc.nd rfl (.inl rfl) (pe_slice (slL K rfl) (pv 0) (po_some (pe_op op_add (pv 2) pe_int)) (po_some (pv 4))))
      (pss_cons (ps_if (PW.pt (pw_or (pt_cmpR op_eq (pv 3) (pe_glob (v := .int (2)) (by rfl) m_ROW ⟨_, rfl⟩) (nomark _)) (pw_or1 (pt_cmpR op_eq (pv 3) (pe_glob (v := .int (4)) (by rfl) m_BE ⟨_, rfl⟩) (nomark _))))) (pss_cons (ps_set (i := 6) sc.nd rfl (.inl rfl) (pe_ix (ixl K rfl) (pv 0) (pv 4) (fun _ _ => rfl)))
      (pss_cons (ps_set (i := 5) sc.nd rfl (.inl rfl) (pe_op op_cat (pv 5) (pe_slice (slL K rfl) (pv 0) (po_some (pe_op op_add (pv 4) pe_int)) (po_some (pe_op op_add (pe_op op_add (pv 4) pe_int) (pv 6))))))
      (pss_one (ps_set (i := 4) sc.nd rfl (.inl rfl) (pe_op op_add (pe_op op_add (pv 4) pe_int) (pv 6)))))) pss_nil)
      (pss_cons (ps_expr (pe_bm PySem.F.plainAttrs_list PySem.F.slot_list_append PySem.F.type_list_append (mt_append) (pv 1) (pa_cons (pe_tup (pa_cons (pv 3) (pa_cons (pv 5) pa_nil))) pa_nil)))
      (pss_one (ps_set (i := 2) sc.nd rfl (.inl rfl) (pv 4)))))))))
      (pss_one (ps_ret (pv 1)))))), ?_⟩
    obtain ⟨a, raw, rfl, hsq, hok, h5, hz, q⟩ := h
    refine q_asgL (el_lst ea_nil (by decide)) fun D H0 hD e0 d0 => ?_
    refine q_asg ev_c fun H1 e1 => ?_
    refine q_while (fun m σ' H' => ∃ (j : Nat) (v3 v4 v5 v6 : Option V), j ≤ raw.length ∧ m = raw.length - j ∧ σ' = [some (.ref a), some (.ref D), some (.int (((PyFlat.put (raw.take j)).length : Nat) : Int)), v3, v4, v5, v6] ∧ Ex H H' ∧ FoundAt H H' D (raw.take j)) raw.length ⟨0, none, none, none, none, Nat.zero_le _, rfl, rfl, e0.trans e1, FoundAt.nil (e1 _ _ d0)⟩ ?_
    rintro m _ H2 ⟨j, v3, v4, v5, v6, hj, rfl, rfl, e2, fa⟩
    refine ⟨decide (j < raw.length), et_is (et_test (ev_op (ev_var rfl) (ev_len (ev_var rfl) (ex_l e2 hsq)) rv_I0)) ?_, fun c H3 e3 => ?_, fun c H3 e3 => ?_⟩
    · apply decide_eq_decide.mpr
      rw [List.length_map]
      by_cases c : j < raw.length
      · obtain ⟨p, x, xs, ec, _⟩ := hok raw[j] (List.getElem_mem c)
        have z := put_at (List.getElem?_eq_getElem c)
        rw [z, List.length_append, List.length_append, ec]
        refine ⟨fun _ => c, fun _ => ?_⟩
        show _ < ((_ + (((p :: x) ++ PyFlat.putRows xs).length + _) : Nat) : Int)
        rw [List.length_append, List.length_cons]
        omega
      · rw [show raw.take j = raw from List.take_of_length_le (by omega)]
        omega
    · have c' : j < raw.length := of_decide_eq_true c
      have hcj := List.getElem?_eq_getElem c'
      obtain ⟨p, x, xs, ec, hs⟩ := hok raw[j] (List.getElem_mem c')
      have hzj := hz raw[j] (List.getElem_mem c')
      have hl := put_at hcj
      have hnx := put_next hcj
      have ht1 : raw.take (j + 1) = raw.take j ++ [raw[j]] := by
        rw [List.take_add_one, hcj]
        rfl
      rw [ec] at hl hzj
      obtain ⟨n, rfl, hn27, hpl, hk⟩ := shape_is hs
      generalize hA : PyFlat.put (raw.take j) = A at hl hnx ⊢
      generalize PyFlat.put (raw.drop (j + 1)) = R at hl
      have e3' := e2.trans e3
      have sq3 := ex_l e3' hsq
      have hl1 : PyFlat.put raw = A ++ ((n : Int) :: (x ++ (PyFlat.putRows xs ++ R))) := by
        rw [hl]
        show A ++ (((n : Int) :: x ++ PyFlat.putRows xs) ++ R) = _
        rw [List.append_assoc]
        rfl
      have hl2 : PyFlat.put raw = (A ++ [(n : Int)]) ++ (x ++ (PyFlat.putRows xs ++ R)) := by
        rw [hl1, List.append_assoc]
        rfl
      refine ⟨fun σ2 H' => ∃ (v3 v4 v5 v6 : Option V), σ2 = [some (.ref a), some (.ref D), some (.int (((PyFlat.put (raw.take (j + 1))).length : Nat) : Int)), v3, v4, v5, v6] ∧ Ex H H' ∧ FoundAt H H' D (raw.take (j + 1)), fun σ2 H' ⟨v3, v4, v5, v6, g1, g2, g3⟩ => ⟨raw.length - (j + 1), by omega, j + 1, v3, v4, v5, v6, by omega, rfl, g1, g2, g3⟩, ?_⟩
      refine q_asg (ev_op (ev_var rfl) (ev_var rfl) (rv_ixL (v := .int (n : Int)) sq3 (atI_nat (iv_at (by rw [hl1]; exact mid_at _ _ _))))) fun H4 e4 => ?_
      refine q_asg (v := .int ((A.length + 1 + x.length : Nat) : Int)) (ev_is (ev_op (ev_op (ev_var rfl) ev_c rv_I0) (ev_op ev_c (ev_var rfl) (rv_ixT (hT_PLAIN_NUMBERS _) (atI_nat (nv_at hpl)))) rv_I0) (congrArg V.int (by omega))) fun H5 e5 => ?_
      have e35 := (e3'.trans e4).trans e5
      refine q_asgL (xs := x.map V.int) ?_ fun p6 H6 hp6 e6 h6 => ?_
      · have z := el_sl (K := K) (te := tVar 0) (tl := tPart (tOp (rI0 fun i j => V.int (i + j)) (tVar 2) (tC (.int 1)))) (th := tPart (tVar 4)) (σ := [some (.ref a), some (.ref D), some (.int ((A.length : Nat) : Int)), some (.int (n : Int)), some (.int ((A.length + 1 + x.length : Nat) : Int)), v5, v6]) (lo := some ((A ++ [(n : Int)]).length : Nat)) (hi := some ((A.length + 1 + x.length : Nat) : Int)) (ev_var rfl) (eo_some (ev_is (ev_op (ev_var rfl) ev_c rv_I0) (congrArg V.int (by rw [List.length_append]; show _ = ((_ + 1 : Nat) : Int); omega)))) (eo_some (ev_var rfl)) (ex_l e35 hsq)
        rw [hl2, cut_mid _ _ _ _ (by rw [List.length_append]; rfl)] at z
        exact z
      have e36 := e35.trans e6
      have fin : ∀ (DD : Ends) (H7 : Hp) (te : Nat) (pt : Addr) (v6 : Option V), Ex H6 H7 → pt ≠ D → H pt = none → te = A.length + (PyFlat.put1 raw[j]).length → H7 pt = some (.lst ((argOf raw[j]).map V.int)) →
          (∀ σ2 H', (∃ (v3 v4 v5 v6 : Option V), σ2 = [some (.ref a), some (.ref D), some (.int (((PyFlat.put (raw.take (j + 1))).length : Nat) : Int)), v3, v4, v5, v6] ∧ Ex H H' ∧ FoundAt H H' D (raw.take (j + 1))) → DD.nx σ2 H') →
          tSeq (tDrop (tBM K "list" rAppend (tVar 1) (tCons (tTup (tCons (tVar 3) (tCons (tVar 5) tNil))) tNil))) (tAsg (tVar 4) (gName 2)) DD
          [some (.ref a), some (.ref D), some (.int ((A.length : Nat) : Int)), some (.int (n : Int)), some (.int (te : Int)), some (.ref pt), v6] H7 := by
        intro DD H7 te pt v6 e7 npt hnew hte hpt k
        have e27 : Ex H2 H7 := (((e3.trans e4).trans e5).trans e6).trans e7
        obtain ⟨xs0, hx0, hxl⟩ := fa.lst
        refine q_appU (e27 _ _ hx0) (ev_var rfl) (eu_tup (ea_cons (ev_var rfl) (ea_cons (ev_var rfl) ea_nil)) (by show 2 ≤ 100000; decide)) ?_ fun p8 H8 hp8 e8 h8 => ?_
        · rw [hxl, List.length_take]
          omega
        · refine s_asg (ev_var rfl) fun H9 e9 => k _ _ ⟨some (.int (n : Int)), some (.int (te : Int)), some (.ref pt), v6, ?_, ?_, ?_⟩
          · rw [hnx, ← hte]
            rfl
          · exact ((e2.trans (e27.trans e8)).mut hD).trans e9
          · rw [ht1]
            refine FoundAt.ex (FoundAt.snoc fa hx0 (e27.trans e8) (t := pt) (p := p8) ?_ (e8 _ _ hpt) npt hnew) e9
            rw [h8, ec]
            rfl
      have np6 : p6 ≠ D := fun z => by
        obtain ⟨xs0, hx0, _⟩ := fa.lst
        rw [z, ((e3.trans e4).trans e5) _ _ hx0] at hp6
        cases hp6
      refine q_if (b := decide (n = 2 ∨ n = 4)) (et_is (et_or (et_test (ev_op (ev_var rfl) ev_c (rv_eq rfl))) (fun _ => et_test (ev_op (ev_var rfl) ev_c (rv_eq rfl)))) ?_) (fun c2 H7 e7 => ?_) (fun c2 H7 e7 => ?_)
      · rw [Bool.decide_or]
        congr 1 <;> exact decide_eq_decide.mpr ⟨fun z => by injection z with z; omega, fun z => by rw [z]; rfl⟩
      · have c3 := of_decide_eq_true c2
        rw [if_pos c3] at hk
        obtain ⟨r, rfl⟩ : ∃ r, xs = [r] := by
          match xs, hk with
          | [r], _ => exact ⟨r, rfl⟩
        have hl3 : PyFlat.put raw = (A ++ (n : Int) :: x) ++ ((r.length : Int) :: (r ++ R)) := by
          rw [hl]
          show A ++ (((n : Int) :: x ++ ((r.length : Int) :: r ++ [])) ++ R) = _
          simp
        have hl4 : PyFlat.put raw = (A ++ (n : Int) :: x ++ [(r.length : Int)]) ++ (r ++ R) := by
          rw [hl3]
          simp
        have len3 : (A ++ (n : Int) :: x).length = A.length + 1 + x.length := by simp; omega
        have len4 : (A ++ (n : Int) :: x ++ [(r.length : Int)]).length = A.length + 1 + x.length + 1 := by rw [List.length_append, len3]; rfl
        have e37 := e36.trans e7
        have hrl : r.length ≤ 1000 := by
          have z : argOf ((↑n :: x) :: [r]) = x ++ (r ++ []) := rfl
          rw [z] at hzj
          simp at hzj
          omega
        have hxl2 : x.length ≤ 1000 := by
          have z : argOf ((↑n :: x) :: [r]) = x ++ (r ++ []) := rfl
          rw [z] at hzj
          simp at hzj
          omega
        refine q_asg (v := .int (r.length : Int)) (ev_op (ev_var rfl) (ev_var rfl) (rv_ixL (ex_l e37 hsq) (atI_nat (iv_at (by rw [hl3, ← len3]; exact mid_at _ _ _))))) fun H8 e8 => ?_
        refine q_asgL (xs := x.map V.int ++ r.map V.int) (el_catV (ev_var rfl) (e8 _ _ (e7 _ _ h6)) ?_ (by rw [List.length_map, List.length_map]; omega)) fun p9 H9 hp9 e9 h9 => ?_
        · have z := el_sl (K := K) (te := tVar 0) (tl := tPart (tOp (rI0 fun i j => V.int (i + j)) (tVar 4) (tC (.int 1)))) (th := tPart (tOp (rI0 fun i j => V.int (i + j)) (tOp (rI0 fun i j => V.int (i + j)) (tVar 4) (tC (.int 1))) (tVar 6))) (σ := [some (.ref a), some (.ref D), some (.int ((A.length : Nat) : Int)), some (.int (n : Int)), some (.int ((A.length + 1 + x.length : Nat) : Int)), some (.ref p6), some (.int (r.length : Int))]) (lo := some ((A ++ (n : Int) :: x ++ [(r.length : Int)]).length : Nat)) (hi := some ((A.length + 1 + x.length + 1 + r.length : Nat) : Int)) (ev_var rfl) (eo_some (ev_is (ev_op (ev_var rfl) ev_c rv_I0) (congrArg V.int (by rw [len4]; omega)))) (eo_some (ev_is (ev_op (ev_op (ev_var rfl) ev_c rv_I0) (ev_var rfl) rv_I0) (congrArg V.int (by omega)))) (ex_l (e37.trans e8) hsq)
          rw [hl4, cut_mid _ _ _ _ (by rw [len4])] at z
          exact z
        · refine s_asg (v := .int ((A.length + 1 + x.length + 1 + r.length : Nat) : Int)) (ev_is (ev_op (ev_op (ev_var rfl) ev_c rv_I0) (ev_var rfl) rv_I0) (congrArg V.int (by omega))) fun H10 e10 => ?_
          refine fin _ H10 _ p9 _ (((e7.trans e8).trans e9).trans e10) (fun z => ?_) (fresh_back (e37.trans e8) hp9) ?_ ?_ (fun _ _ z => z)
          · obtain ⟨xs0, hx0, _⟩ := fa.lst
            rw [z, (((((e3.trans e4).trans e5).trans e6).trans e7).trans e8) _ _ hx0] at hp9
            cases hp9
          · rw [ec]
            show _ = A.length + (((n : Int) :: x) ++ (((r.length : Int) :: r) ++ [])).length
            simp
            omega
          · rw [e10 _ _ h9, ec]
            show _ = some (HO.lst ((x ++ (r ++ [])).map V.int))
            rw [List.append_nil, List.map_append]
      · have c3 := of_decide_eq_false c2
        rw [if_neg c3] at hk
        obtain rfl : xs = [] := List.length_eq_zero_iff.mp hk
        refine fin _ H7 _ p6 _ e7 np6 (fresh_back e35 hp6) ?_ ?_ (fun _ _ z => z)
        · rw [ec]
          show _ = A.length + (((n : Int) :: x) ++ []).length
          simp
          omega
        · rw [e7 _ _ h6, ec]
          show _ = some (HO.lst ((x ++ []).map V.int))
          rw [List.append_nil]
    · have c' : j = raw.length := by have := of_decide_eq_false c; omega
      rw [c', List.take_length] at fa
      exact s_ret (ev_var rfl) fun H4 e4 => q D H4 hD ((e2.trans e3).trans e4) (fa.ex (e3.trans e4))
end Rg

set_option Elab.async false
set_option maxRecDepth 100000
set_option maxHeartbeats 2000000
set_option linter.unusedVariables false
/-! the calls by their numbers; the state stays in order; the line's answers -/
namespace Rg
open PySem PySem.Spec PyProof.Rows L2 Evl LamX
def cBegin (told : List Int) (c : Ks570.Call) : Prop := ∃ (x : Nat), told = [(x : Int)] ∧ c = .begin_ x
def callFor : Nat → List Int → Ks570.Call → Prop
  | 0 => cBegin
  | 1 => cLike
  | 2 => cRow
  | 3 => cEven
  | 4 => cBe
  | 5 => cGo
  | 6 => cLeave
  | 7 => cStep
  | 8 => cBack
  | 9 => cWorths
  | 10 => cMoves
  | 11 => cBest
  | 12 => cLeavers
  | 13 => cRests
  | 14 => cHolds
  | 15 => cKinds
  | 16 => cRun
  | 17 => cRound
  | 18 => cMost
  | 19 => cAmong
  | 20 => cBeaten
  | 21 => cEnvies
  | 22 => cFirm
  | 23 => cPerfect
  | 24 => cLikes
  | 25 => cGroups
  | 26 => cState
  | _ => fun _ _ => False
theorem whole_id (c : List (List Int)) : PyKs570.whole c = c := by
  unfold PyKs570.whole
  split <;> rfl
theorem len1 {α : Type} {l : List α} (h : l.length = 1) : ∃ a, l = [a] := by
  match l, h with
  | [a], _ => exact ⟨a, rfl⟩
theorem len2 {α : Type} {l : List α} (h : l.length = 2) : ∃ a b, l = [a, b] := by
  match l, h with
  | [a, b], _ => exact ⟨a, b, rfl⟩
theorem len3 {α : Type} {l : List α} (h : l.length = 3) : ∃ a b c, l = [a, b, c] := by
  match l, h with
  | [a, b, c], _ => exact ⟨a, b, c, rfl⟩
theorem within_nn {hi y : Int} (h : PyInside.within 0 hi y = true) : y = ((y.toNat : Nat) : Int) := by
  unfold PyInside.within at h
  rw [Bool.and_eq_true, decide_eq_true_eq, decide_eq_true_eq] at h
  omega
theorem each1 {hi y : Int} (h : (PyInside.each [(0, hi)] [y] && PyInside.lists [] []) = true) : y = ((y.toNat : Nat) : Int) := by
  unfold PyInside.each PyInside.each PyInside.lists at h
  rw [Bool.and_true, Bool.and_true] at h
  exact within_nn h
theorem each2 {hi hj y z : Int} (h : (PyInside.each [(0, hi), (0, hj)] [y, z] && PyInside.lists [] []) = true) : y = ((y.toNat : Nat) : Int) ∧ z = ((z.toNat : Nat) : Int) := by
  unfold PyInside.each PyInside.each PyInside.each PyInside.lists at h
  rw [Bool.and_true, Bool.and_true, Bool.and_eq_true] at h
  exact ⟨within_nn h.1, within_nn h.2⟩
def CallIs (n : Nat) (rc : List (List Int)) : Prop := ∃ c, callFor n (argOf rc) c ∧ ∀ s, Ks570Neutral.step s rc = Ks570Neutral.told (Ks570.act s c)
theorem callIs {n : Nat} {x : List Int} {xs : List (List Int)} (hn : n < 27) (h1 : plain[n]? = some x.length) (h2 : xs.length = if n = 2 ∨ n = 4 then 1 else 0) (hin : PyInside.call PyKs570.bound (((n : Int) :: x) :: xs) = true) : CallIs n (((n : Int) :: x) :: xs) := by
  match n, hn with
  | 0, _ =>
    have hl : x.length = 1 := (Option.some.inj h1).symm
    obtain rfl : xs = [] := List.length_eq_zero_iff.mp (show xs.length = 0 from h2)
    obtain ⟨y, rfl⟩ := len1 hl
    exact ⟨.begin_ y.toNat, ⟨y.toNat, congrArg (fun z => [z]) (each1 hin), rfl⟩, fun s => rfl⟩
  | 1, _ =>
    have hl : x.length = 3 := (Option.some.inj h1).symm
    obtain rfl : xs = [] := List.length_eq_zero_iff.mp (show xs.length = 0 from h2)
    obtain ⟨y, z, u, rfl⟩ := len3 hl
    have hin' : (PyInside.within 0 4294967295 y && (PyInside.within 0 4294967295 z && (PyInside.within (-2147483648) 2147483647 u && true)) && true) = true := hin
    rw [Bool.and_true, Bool.and_eq_true, Bool.and_eq_true] at hin'
    exact ⟨.like y.toNat z.toNat u, ⟨y.toNat, z.toNat, u, by show [y, z, u] = _; rw [← within_nn hin'.1, ← within_nn hin'.2.1], rfl⟩, fun s => rfl⟩
  | 2, _ =>
    have hl : x.length = 1 := (Option.some.inj h1).symm
    obtain ⟨r, rfl⟩ := len1 (show xs.length = 1 from h2)
    obtain ⟨y, rfl⟩ := len1 hl
    have hin' : ((PyInside.within 0 4294967295 y && true) && ((decide (0 ≤ r.length) && decide (r.length ≤ 12) && r.all (PyInside.within (-2147483648) 2147483647)) && true)) = true := hin
    rw [Bool.and_true, Bool.and_true, Bool.and_eq_true, Bool.and_eq_true, Bool.and_eq_true, decide_eq_true_eq, decide_eq_true_eq] at hin'
    exact ⟨.row y.toNat r, ⟨y.toNat, r, by show y :: (r ++ []) = _; rw [← within_nn hin'.1, List.append_nil], hin'.2.1.2, rfl⟩, fun s => rfl⟩
  | 3, _ =>
    have hl : x.length = 0 := (Option.some.inj h1).symm
    obtain rfl : xs = [] := List.length_eq_zero_iff.mp (show xs.length = 0 from h2)
    obtain rfl : x = [] := List.length_eq_zero_iff.mp hl
    exact ⟨.even, ⟨rfl, rfl⟩, fun s => rfl⟩
  | 4, _ =>
    have hl : x.length = 0 := (Option.some.inj h1).symm
    obtain ⟨r, rfl⟩ := len1 (show xs.length = 1 from h2)
    obtain rfl : x = [] := List.length_eq_zero_iff.mp hl
    have hin' : (true && ((decide (0 ≤ r.length) && decide (r.length ≤ 12) && r.all (PyInside.within 0 4294967295)) && true)) = true := hin
    rw [Bool.true_and, Bool.and_true, Bool.and_eq_true, Bool.and_eq_true, decide_eq_true_eq, decide_eq_true_eq] at hin'
    refine ⟨.be (r.map Int.toNat), ⟨r.map Int.toNat, ?_, by rw [List.length_map]; exact hin'.1.2, rfl⟩, fun s => rfl⟩
    show r ++ [] = _
    rw [List.append_nil, List.map_map]
    have z : ∀ l : List Int, l.all (PyInside.within 0 4294967295) = true → l = l.map ((fun (k : Nat) => (k : Int)) ∘ Int.toNat) := by
      intro l
      induction l with
      | nil => intro _; rfl
      | cons y l ih =>
        intro h
        rw [List.all_cons, Bool.and_eq_true] at h
        rw [List.map_cons, ← ih h.2]
        exact congrArg (fun u => u :: l) (within_nn h.1)
    exact z r hin'.2
  | 5, _ =>
    have hl : x.length = 2 := (Option.some.inj h1).symm
    obtain rfl : xs = [] := List.length_eq_zero_iff.mp (show xs.length = 0 from h2)
    obtain ⟨y, z, rfl⟩ := len2 hl
    exact ⟨.go y.toNat z.toNat, ⟨y.toNat, z.toNat, by show [y, z] = _; rw [← (each2 hin).1, ← (each2 hin).2], rfl⟩, fun s => rfl⟩
  | 6, _ =>
    have hl : x.length = 1 := (Option.some.inj h1).symm
    obtain rfl : xs = [] := List.length_eq_zero_iff.mp (show xs.length = 0 from h2)
    obtain ⟨y, rfl⟩ := len1 hl
    exact ⟨.leave y.toNat, ⟨y.toNat, congrArg (fun z => [z]) (each1 hin), rfl⟩, fun s => rfl⟩
  | 7, _ =>
    have hl : x.length = 1 := (Option.some.inj h1).symm
    obtain rfl : xs = [] := List.length_eq_zero_iff.mp (show xs.length = 0 from h2)
    obtain ⟨y, rfl⟩ := len1 hl
    exact ⟨.step y.toNat, ⟨y.toNat, congrArg (fun z => [z]) (each1 hin), rfl⟩, fun s => rfl⟩
  | 8, _ =>
    have hl : x.length = 0 := (Option.some.inj h1).symm
    obtain rfl : xs = [] := List.length_eq_zero_iff.mp (show xs.length = 0 from h2)
    obtain rfl : x = [] := List.length_eq_zero_iff.mp hl
    exact ⟨.back, ⟨rfl, rfl⟩, fun s => rfl⟩
  | 9, _ =>
    have hl : x.length = 0 := (Option.some.inj h1).symm
    obtain rfl : xs = [] := List.length_eq_zero_iff.mp (show xs.length = 0 from h2)
    obtain rfl : x = [] := List.length_eq_zero_iff.mp hl
    exact ⟨.worths, ⟨rfl, rfl⟩, fun s => rfl⟩
  | 10, _ =>
    have hl : x.length = 1 := (Option.some.inj h1).symm
    obtain rfl : xs = [] := List.length_eq_zero_iff.mp (show xs.length = 0 from h2)
    obtain ⟨y, rfl⟩ := len1 hl
    exact ⟨.moves y.toNat, ⟨y.toNat, congrArg (fun z => [z]) (each1 hin), rfl⟩, fun s => rfl⟩
  | 11, _ =>
    have hl : x.length = 1 := (Option.some.inj h1).symm
    obtain rfl : xs = [] := List.length_eq_zero_iff.mp (show xs.length = 0 from h2)
    obtain ⟨y, rfl⟩ := len1 hl
    exact ⟨.best y.toNat, ⟨y.toNat, congrArg (fun z => [z]) (each1 hin), rfl⟩, fun s => rfl⟩
  | 12, _ =>
    have hl : x.length = 1 := (Option.some.inj h1).symm
    obtain rfl : xs = [] := List.length_eq_zero_iff.mp (show xs.length = 0 from h2)
    obtain ⟨y, rfl⟩ := len1 hl
    exact ⟨.by_ y.toNat, ⟨y.toNat, congrArg (fun z => [z]) (each1 hin), rfl⟩, fun s => rfl⟩
  | 13, _ =>
    have hl : x.length = 1 := (Option.some.inj h1).symm
    obtain rfl : xs = [] := List.length_eq_zero_iff.mp (show xs.length = 0 from h2)
    obtain ⟨y, rfl⟩ := len1 hl
    exact ⟨.rests y.toNat, ⟨y.toNat, congrArg (fun z => [z]) (each1 hin), rfl⟩, fun s => rfl⟩
  | 14, _ =>
    have hl : x.length = 1 := (Option.some.inj h1).symm
    obtain rfl : xs = [] := List.length_eq_zero_iff.mp (show xs.length = 0 from h2)
    obtain ⟨y, rfl⟩ := len1 hl
    exact ⟨.holds y.toNat, ⟨y.toNat, congrArg (fun z => [z]) (each1 hin), rfl⟩, fun s => rfl⟩
  | 15, _ =>
    have hl : x.length = 0 := (Option.some.inj h1).symm
    obtain rfl : xs = [] := List.length_eq_zero_iff.mp (show xs.length = 0 from h2)
    obtain rfl : x = [] := List.length_eq_zero_iff.mp hl
    exact ⟨.kinds, ⟨rfl, rfl⟩, fun s => rfl⟩
  | 16, _ =>
    have hl : x.length = 1 := (Option.some.inj h1).symm
    obtain rfl : xs = [] := List.length_eq_zero_iff.mp (show xs.length = 0 from h2)
    obtain ⟨y, rfl⟩ := len1 hl
    exact ⟨.run y.toNat, ⟨y.toNat, congrArg (fun z => [z]) (each1 hin), rfl⟩, fun s => rfl⟩
  | 17, _ =>
    have hl : x.length = 1 := (Option.some.inj h1).symm
    obtain rfl : xs = [] := List.length_eq_zero_iff.mp (show xs.length = 0 from h2)
    obtain ⟨y, rfl⟩ := len1 hl
    exact ⟨.round y.toNat, ⟨y.toNat, congrArg (fun z => [z]) (each1 hin), rfl⟩, fun s => rfl⟩
  | 18, _ =>
    have hl : x.length = 1 := (Option.some.inj h1).symm
    obtain rfl : xs = [] := List.length_eq_zero_iff.mp (show xs.length = 0 from h2)
    obtain ⟨y, rfl⟩ := len1 hl
    exact ⟨.most y.toNat, ⟨y.toNat, congrArg (fun z => [z]) (each1 hin), rfl⟩, fun s => rfl⟩
  | 19, _ =>
    have hl : x.length = 2 := (Option.some.inj h1).symm
    obtain rfl : xs = [] := List.length_eq_zero_iff.mp (show xs.length = 0 from h2)
    obtain ⟨y, z, rfl⟩ := len2 hl
    exact ⟨.among y.toNat z.toNat, ⟨y.toNat, z.toNat, by show [y, z] = _; rw [← (each2 hin).1, ← (each2 hin).2], rfl⟩, fun s => rfl⟩
  | 20, _ =>
    have hl : x.length = 0 := (Option.some.inj h1).symm
    obtain rfl : xs = [] := List.length_eq_zero_iff.mp (show xs.length = 0 from h2)
    obtain rfl : x = [] := List.length_eq_zero_iff.mp hl
    exact ⟨.beaten, ⟨rfl, rfl⟩, fun s => rfl⟩
  | 21, _ =>
    have hl : x.length = 0 := (Option.some.inj h1).symm
    obtain rfl : xs = [] := List.length_eq_zero_iff.mp (show xs.length = 0 from h2)
    obtain rfl : x = [] := List.length_eq_zero_iff.mp hl
    exact ⟨.envies, ⟨rfl, rfl⟩, fun s => rfl⟩
  | 22, _ =>
    have hl : x.length = 0 := (Option.some.inj h1).symm
    obtain rfl : xs = [] := List.length_eq_zero_iff.mp (show xs.length = 0 from h2)
    obtain rfl : x = [] := List.length_eq_zero_iff.mp hl
    exact ⟨.firm, ⟨rfl, rfl⟩, fun s => rfl⟩
  | 23, _ =>
    have hl : x.length = 0 := (Option.some.inj h1).symm
    obtain rfl : xs = [] := List.length_eq_zero_iff.mp (show xs.length = 0 from h2)
    obtain rfl : x = [] := List.length_eq_zero_iff.mp hl
    exact ⟨.perfect, ⟨rfl, rfl⟩, fun s => rfl⟩
  | 24, _ =>
    have hl : x.length = 1 := (Option.some.inj h1).symm
    obtain rfl : xs = [] := List.length_eq_zero_iff.mp (show xs.length = 0 from h2)
    obtain ⟨y, rfl⟩ := len1 hl
    exact ⟨.likes y.toNat, ⟨y.toNat, congrArg (fun z => [z]) (each1 hin), rfl⟩, fun s => rfl⟩
  | 25, _ =>
    have hl : x.length = 0 := (Option.some.inj h1).symm
    obtain rfl : xs = [] := List.length_eq_zero_iff.mp (show xs.length = 0 from h2)
    obtain rfl : x = [] := List.length_eq_zero_iff.mp hl
    exact ⟨.groups, ⟨rfl, rfl⟩, fun s => rfl⟩
  | 26, _ =>
    have hl : x.length = 0 := (Option.some.inj h1).symm
    obtain rfl : xs = [] := List.length_eq_zero_iff.mp (show xs.length = 0 from h2)
    obtain rfl : x = [] := List.length_eq_zero_iff.mp hl
    exact ⟨.state, ⟨rfl, rfl⟩, fun s => rfl⟩
theorem callIs_of {rc : List (List Int)} (h : PyFlat.okCall PyKs570.shape rc) (hin : PyInside.call PyKs570.bound rc = true) : ∃ n : Nat, numOf rc = (n : Int) ∧ n < 27 ∧ CallIs n rc := by
  obtain ⟨p, x, xs, rfl, hs⟩ := h
  obtain ⟨n, rfl, hn, h1, h2⟩ := shape_is hs
  exact ⟨n, rfl, hn, callIs hn h1 h2 hin⟩
theorem arg_len {rc : List (List Int)} (h : PyFlat.okCall PyKs570.shape rc) (hin : PyInside.call PyKs570.bound rc = true) : (argOf rc).length ≤ 1000 := by
  obtain ⟨n, _, hn, c, hc, _⟩ := callIs_of h hin
  have z : (argOf rc).length ≤ 13 := by
    match n, hn, hc with
    | 0, _, hc => obtain ⟨_, e, _⟩ := hc; rw [e]; show 1 ≤ 13; decide
    | 1, _, hc => obtain ⟨_, _, _, e, _⟩ := hc; rw [e]; show 3 ≤ 13; decide
    | 2, _, hc => obtain ⟨_, l, e, hl, _⟩ := hc; rw [e]; show l.length + 1 ≤ 13; omega
    | 3, _, hc => obtain ⟨e, _⟩ := hc; rw [e]; show 0 ≤ 13; decide
    | 4, _, hc => obtain ⟨l, e, hl, _⟩ := hc; rw [e, List.length_map]; omega
    | 5, _, hc => obtain ⟨_, _, e, _⟩ := hc; rw [e]; show 2 ≤ 13; decide
    | 6, _, hc => obtain ⟨_, e, _⟩ := hc; rw [e]; show 1 ≤ 13; decide
    | 7, _, hc => obtain ⟨_, e, _⟩ := hc; rw [e]; show 1 ≤ 13; decide
    | 8, _, hc => obtain ⟨e, _⟩ := hc; rw [e]; show 0 ≤ 13; decide
    | 9, _, hc => obtain ⟨e, _⟩ := hc; rw [e]; show 0 ≤ 13; decide
    | 10, _, hc => obtain ⟨_, e, _⟩ := hc; rw [e]; show 1 ≤ 13; decide
    | 11, _, hc => obtain ⟨_, e, _⟩ := hc; rw [e]; show 1 ≤ 13; decide
    | 12, _, hc => obtain ⟨_, e, _⟩ := hc; rw [e]; show 1 ≤ 13; decide
    | 13, _, hc => obtain ⟨_, e, _⟩ := hc; rw [e]; show 1 ≤ 13; decide
    | 14, _, hc => obtain ⟨_, e, _⟩ := hc; rw [e]; show 1 ≤ 13; decide
    | 15, _, hc => obtain ⟨e, _⟩ := hc; rw [e]; show 0 ≤ 13; decide
    | 16, _, hc => obtain ⟨_, e, _⟩ := hc; rw [e]; show 1 ≤ 13; decide
    | 17, _, hc => obtain ⟨_, e, _⟩ := hc; rw [e]; show 1 ≤ 13; decide
    | 18, _, hc => obtain ⟨_, e, _⟩ := hc; rw [e]; show 1 ≤ 13; decide
    | 19, _, hc => obtain ⟨_, _, e, _⟩ := hc; rw [e]; show 2 ≤ 13; decide
    | 20, _, hc => obtain ⟨e, _⟩ := hc; rw [e]; show 0 ≤ 13; decide
    | 21, _, hc => obtain ⟨e, _⟩ := hc; rw [e]; show 0 ≤ 13; decide
    | 22, _, hc => obtain ⟨e, _⟩ := hc; rw [e]; show 0 ≤ 13; decide
    | 23, _, hc => obtain ⟨e, _⟩ := hc; rw [e]; show 0 ≤ 13; decide
    | 24, _, hc => obtain ⟨_, e, _⟩ := hc; rw [e]; show 1 ≤ 13; decide
    | 25, _, hc => obtain ⟨e, _⟩ := hc; rw [e]; show 0 ≤ 13; decide
    | 26, _, hc => obtain ⟨e, _⟩ := hc; rw [e]; show 0 ≤ 13; decide
  omega
/-! the state stays in order -/
theorem ok_change {s : Ks570.State} {g : Ks570.Game} (o : Ok s) (h : GOk s.game.t.n g) : Ok (Ks570.change s g) := by
  have e : (Ks570.change s g).game.t.n = s.game.t.n := h.nn
  refine ⟨by rw [e]; exact o.pos, by rw [e]; exact o.le, by rw [e]; exact h, fun gm hg => ?_, ?_⟩
  · rw [e]
    rcases List.mem_cons.mp (List.mem_of_mem_take hg) with z | z
    · rw [z]; exact o.game
    · exact o.was gm z
  · show ((s.game :: s.was).take 10).length ≤ 10
    rw [List.length_take]
    omega
theorem range_tidy : ∀ n < 6, List.range n = Ks565.tidy (List.range n) := by decide
theorem ok_fresh {n : Nat} (h : ¬ (n < 1 ∨ Ks565.PEOPLE < n)) : Ok (Ks570.fresh n) := by
  have h5 : n ≤ 5 := Nat.le_of_not_lt fun z => h (.inr z)
  have h1 : 0 < n := Nat.lt_of_not_le fun z => h (.inl (by omega))
  exact ⟨h1, h5, ⟨rfl, fresh_wf n, List.length_range, (fun x hx => List.mem_range.mp hx), ⟨_, range_tidy n (by omega)⟩⟩, (fun gm hg => (by cases hg)), Nat.zero_le _⟩
theorem gok_tidy {n : Nat} {t : Ks565.Folk} {l : List Nat} {m : Nat} (hn : t.n = n) (hw : Wf t) (hl : l.length = n) : GOk n ⟨t, Ks565.tidy l, m⟩ :=
  ⟨hn, hw, (tidy_len l).trans hl, fun x hx => by rw [← hl]; exact tidy_lt hx, l, rfl⟩
theorem gok_t {n : Nat} {gm : Ks570.Game} {t : Ks565.Folk} (h : GOk n gm) (hn : t.n = n) (hw : Wf t) : GOk n { gm with t := t } := ⟨hn, hw, h.len, h.few, h.tid⟩
theorem ok_person {s : Ks570.State} {i : Nat} {f : Unit → Ks570.State × Ks570.Ans} (o : Ok s) (h : i < s.game.t.n → Ok (f ()).1) : Ok (Ks570.person s i f).1 := by
  unfold Ks570.person
  split
  · exact o
  · rename_i z
    exact h (by omega)
theorem ok_if {s : Ks570.State} {p : Prop} [Decidable p] {a : Ks570.Ans} {r : Ks570.State × Ks570.Ans} (o : Ok s) (h : ¬ p → Ok r.1) : Ok (if p then (s, a) else r).1 := by
  split
  · exact o
  · rename_i z
    exact h z
theorem ok_does {s : Ks570.State} {c : Ks570.Call} (o : Ok s) : Ok (Ks570.does1 s c).1 := by
  cases c with
  | begin_ n => exact ok_if o fun z => ok_fresh z
  | like i j x => exact ok_person o fun hi => ok_person o fun hj => ok_if o fun _ => ok_change o (gok_t o.game rfl (set_wf o.game.wf))
  | row i l => exact ok_person o fun hi => ok_if o fun _ => ok_change o (gok_t o.game (rowT_n (l := l) o.game.wf hi) (rowT_wf o.game.wf hi))
  | even => exact ok_change o (gok_t o.game rfl (evenT_wf s.game.t))
  | be g =>
    refine ok_if o fun z => ok_change o (gok_tidy rfl o.game.wf ?_)
    unfold Ks565.okGroups at z
    rw [Bool.not_eq_false, Bool.and_eq_true, beq_iff_eq] at z
    exact z.1
  | go i k => exact ok_person o fun hi => ok_if o fun _ => ok_if o fun _ => ok_change o (gok_tidy rfl o.game.wf (by rw [List.length_set]; exact o.game.len))
  | leave x => exact ok_if o fun _ => ok_change o (gok_tidy rfl o.game.wf (by rw [List.length_map, List.length_range]))
  | step x =>
    refine ok_if o fun _ => ?_
    cases hm : Ks565.moves s.game.t x s.game.g with
    | nil =>
      rw [step_nil hm]
      exact o
    | cons p l =>
      rw [step_cons hm]
      exact ok_change o (gok_tidy rfl o.game.wf (by rw [List.length_set]; exact o.game.len))
  | back =>
    show Ok (match s.was with
      | [] => (s, Ks570.no (-6))
      | g :: l => (({ game := g, was := l } : Ks570.State), Ks570.no l.length)).1
    have hw := o.was
    have ht := o.ten
    revert hw ht
    cases s.was with
    | nil => exact fun _ _ => o
    | cons g l =>
      intro hw ht
      have h := hw g List.mem_cons_self
      have e : g.t.n = s.game.t.n := h.nn
      refine ⟨by show 0 < g.t.n; rw [e]; exact o.pos, by show g.t.n ≤ 5; rw [e]; exact o.le, by show GOk g.t.n g; rw [e]; exact h, fun gm hg => ?_, ?_⟩
      · show GOk g.t.n gm
        rw [e]
        exact hw gm (List.mem_cons_of_mem _ hg)
      · show l.length ≤ 10
        rw [List.length_cons] at ht
        omega
  | worths => exact o
  | moves w => exact ok_if o fun _ => o
  | best i => exact ok_person o fun _ => o
  | by_ w => exact ok_if o fun _ => o
  | rests w => exact ok_if o fun _ => o
  | holds w => exact ok_if o fun _ => o
  | kinds => exact o
  | run w => exact ok_if o fun _ => o
  | round w => exact ok_if o fun _ => o
  | most k =>
    refine ok_if o fun _ => ?_
    split <;> exact o
  | among k w =>
    refine ok_if o fun _ => ?_
    split <;> exact o
  | beaten =>
    show Ok (match Ks568.beaten s.game.t s.game.g with
      | none => (s, Ks570.no (-33))
      | some h => (s, ({ ret := Ks565.groups h, out := Ks565.ints h } : Ks570.Ans))).1
    split <;> exact o
  | envies => exact o
  | firm => exact o
  | perfect =>
    show Ok (match (Ks565.all s.game.t.n).find? (Ks566.perfect s.game.t) with
      | none => (s, Ks570.no (-33))
      | some g => (s, ({ ret := Ks565.groups g, out := Ks565.ints g } : Ks570.Ans))).1
    split <;> exact o
  | likes i => exact ok_person o fun _ => o
  | groups => exact o
  | state => exact o
def OkO (o : Option Ks570.State) : Prop := ∀ s, o = some s → Ok s
theorem ok_act {o : Option Ks570.State} {c : Ks570.Call} (h : OkO o) : OkO (Ks570.act o c).1 := by
  cases o with
  | some s => exact fun s' e => by cases e; exact ok_does (h s rfl)
  | none =>
    intro s' e
    cases c with
    | begin_ n =>
      have e' : (if n < 1 ∨ Ks565.PEOPLE < n then ((none : Option Ks570.State), Ks570.no (-22)) else (some (Ks570.fresh n), Ks570.no 0)).1 = some s' := e
      split at e'
      · cases e'
      · rename_i z
        cases e'
        exact ok_fresh z
    | _ => cases e
/-! the answers of a line -/
def stateAt (raw : List (List (List Int))) : Option Ks570.State := raw.foldl (fun s c => (Ks570Neutral.step s c).1) none
theorem played_app {S : Type} (f : S → List (List Int) → S × List Int) : ∀ (xs ys : List (List (List Int))) (s : S), PyFlat.played f s (xs ++ ys) = PyFlat.played f s xs ++ PyFlat.played f (xs.foldl (fun s c => (f s c).1) s) ys
  | [], _, _ => rfl
  | x :: xs, ys, s => congrArg ((f s x).2 :: ·) (played_app f xs ys (f s x).1)
def saidBy (raw : List (List (List Int))) : List (List Int) := PyFlat.played Ks570Neutral.step none raw
theorem saidBy_snoc (xs : List (List (List Int))) (c : List (List Int)) : saidBy (xs ++ [c]) = saidBy xs ++ [(Ks570Neutral.step (stateAt xs) c).2] := played_app _ xs [c] none
theorem stateAt_snoc (xs : List (List (List Int))) (c : List (List Int)) : stateAt (xs ++ [c]) = (Ks570Neutral.step (stateAt xs) c).1 := by
  unfold stateAt
  rw [List.foldl_append]
  rfl
theorem told_snoc (l : List (List Int)) (a : List Int) : PyFlat.told (l ++ [a]) = PyFlat.told l ++ ((a.length : Int) :: a) := by
  unfold PyFlat.told
  rw [List.flatMap_append]
  simp
theorem f_is : ∀ (l : List (List (List Int))) (s : Option Ks570.State), Ks570Neutral.runs s l = PyFlat.played Ks570Neutral.step s l
  | [], _ => rfl
  | c :: l, s => congrArg ((Ks570Neutral.step s c).2 :: ·) (f_is l (Ks570Neutral.step s c).1)
theorem foldl_addN : ∀ (l : List Nat) (a : Nat), l.foldl (· + ·) a = a + l.sum
  | [], a => rfl
  | x :: l, a => by rw [List.foldl_cons, foldl_addN l, List.sum_cons]; omega
theorem told_len (l : List (List Int)) : (PyFlat.told l).length = (l.map List.length).sum + l.length := by
  unfold PyFlat.told
  induction l with
  | nil => rfl
  | cons a l ih => rw [List.flatMap_cons, List.length_append, ih, List.map_cons, List.sum_cons, List.length_cons, List.length_cons]; omega
theorem played_len (s : Option Ks570.State) (l : List (List (List Int))) : (PyFlat.played Ks570Neutral.step s l).length = l.length := by
  induction l generalizing s with
  | nil => rfl
  | cons c l ih => exact congrArg (· + 1) (ih _)
/-- what a line that may be handed in is -/
structure Line (l : List Int) (raw : List (List (List Int))) : Prop where
  put : l = PyFlat.put raw
  ok : ∀ c ∈ raw, PyFlat.okCall PyKs570.shape c
  few : raw.length ≤ 5000
  ins : ∀ c ∈ raw, PyInside.call PyKs570.bound c = true
  short : (PyFlat.told (saidBy raw)).length ≤ 1005000
  ans : PyKs570.answers l = PyFlat.told (saidBy raw)
theorem line_of {l : List Int} (h : PyKs570.answers_asked l = true) : ∃ raw, Line l raw := by
  unfold PyKs570.answers_asked at h
  cases e : PyFlat.calls PyKs570.shape l.length l with
  | none => rw [e] at h; cases h
  | some raw =>
    rw [e] at h
    have h' : (!raw.isEmpty && PyFlat.atMost 5000 raw && PyInside.calls PyKs570.bound raw && Ks570Neutral.asked (raw.map PyKs570.whole) && PyFlat.short 10000000 (PyKs570.answers l)) = true := h
    have ew : raw.map PyKs570.whole = raw := by
      rw [show PyKs570.whole = id from funext whole_id, List.map_id]
    rw [ew, Bool.and_eq_true, Bool.and_eq_true, Bool.and_eq_true, Bool.and_eq_true] at h'
    obtain ⟨⟨⟨⟨_, h1⟩, h2⟩, h3⟩, _⟩ := h'
    obtain ⟨p1, p2⟩ := PyFlat.put_calls _ _ _ e
    refine ⟨raw, p1, p2, of_decide_eq_true h1, fun c hc => List.all_eq_true.mp h2 c hc, ?_, ?_⟩
    · unfold Ks570Neutral.asked at h3
      rw [Bool.and_eq_true, decide_eq_true_eq] at h3
      have h4 := h3.2
      have h5 : raw.length ≤ 5000 := of_decide_eq_true h1
      unfold Ks570Neutral.f at h4
      rw [f_is, foldl_addN] at h4
      unfold saidBy
      rw [told_len, played_len]
      have h6 : ((PyFlat.played Ks570Neutral.step none raw).map List.length).sum < 1000000 := by
        have z : Ks570Neutral.start = (none : Option Ks570.State) := rfl
        rw [z] at h4
        omega
      omega
    · unfold PyKs570.answers PyKs570.calls
      rw [e]
      show PyFlat.told (PyFlat.played Ks570Neutral.step Ks570Neutral.start (raw.map PyKs570.whole)) = _
      rw [ew]
      rfl
end Rg

set_option Elab.async false
set_option maxRecDepth 100000
set_option maxHeartbeats 2000000
set_option linter.unusedVariables false
/-! one call answered; all calls answered -/
namespace Rg
open PySem PySem.Spec PyProof.Rows L2 Evl LamX
variable {P : Program} {w : World} {K : PySem.W.Frag} {mg : Str → Option Value} {base : Heap}
def spFor (Z : Zc) (T : List (Addr × Str)) (n : Nat) : Sp := if n = 0 then spBegin Z T else spC Z T (callFor n)
/-- a table of those who answer: cnt of them, from the number off on -/
def AnsT (P : Program) (w : World) (K : PySem.W.Frag) (mg : Str → Option Value) (base : Heap) (Z : Zc) (T : List (Addr × Str)) (nm : Str) (off cnt k : Nat) : Prop :=
  ∃ a : Addr, mg nm = some (.ref a) ∧ ∃ fs : List Addr, (∀ H, SqT K H a (fs.map V.ref)) ∧ ∀ n < cnt, ∃ (f : Addr) (j : Nat), fs[n]? = some f ∧ j ≤ k ∧ C8.CalAt P w K mg base j f (spFor Z T (off + n))
theorem not_begin {n : Nat} {told : List Int} {c : Ks570.Call} (hn : n < 27) (h0 : n ≠ 0) (h : callFor n told c) : Ks570.act none c = (none, Ks570.no (-61)) := by
  match n, hn, h with
  | 0, _, _ => exact absurd rfl h0
  | 1, _, h => obtain ⟨_, _, _, _, rfl⟩ := h; rfl
  | 2, _, h => obtain ⟨_, _, _, _, rfl⟩ := h; rfl
  | 3, _, h => obtain ⟨_, rfl⟩ := h; rfl
  | 4, _, h => obtain ⟨_, _, _, rfl⟩ := h; rfl
  | 5, _, h => obtain ⟨_, _, _, rfl⟩ := h; rfl
  | 6, _, h => obtain ⟨_, _, rfl⟩ := h; rfl
  | 7, _, h => obtain ⟨_, _, rfl⟩ := h; rfl
  | 8, _, h => obtain ⟨_, rfl⟩ := h; rfl
  | 9, _, h => obtain ⟨_, rfl⟩ := h; rfl
  | 10, _, h => obtain ⟨_, _, rfl⟩ := h; rfl
  | 11, _, h => obtain ⟨_, _, rfl⟩ := h; rfl
  | 12, _, h => obtain ⟨_, _, rfl⟩ := h; rfl
  | 13, _, h => obtain ⟨_, _, rfl⟩ := h; rfl
  | 14, _, h => obtain ⟨_, _, rfl⟩ := h; rfl
  | 15, _, h => obtain ⟨_, rfl⟩ := h; rfl
  | 16, _, h => obtain ⟨_, _, rfl⟩ := h; rfl
  | 17, _, h => obtain ⟨_, _, rfl⟩ := h; rfl
  | 18, _, h => obtain ⟨_, _, rfl⟩ := h; rfl
  | 19, _, h => obtain ⟨_, _, _, rfl⟩ := h; rfl
  | 20, _, h => obtain ⟨_, rfl⟩ := h; rfl
  | 21, _, h => obtain ⟨_, rfl⟩ := h; rfl
  | 22, _, h => obtain ⟨_, rfl⟩ := h; rfl
  | 23, _, h => obtain ⟨_, rfl⟩ := h; rfl
  | 24, _, h => obtain ⟨_, _, rfl⟩ := h; rfl
  | 25, _, h => obtain ⟨_, rfl⟩ := h; rfl
  | 26, _, h => obtain ⟨_, rfl⟩ := h; rfl
/-! answer_changing -/
abbrev s_answer_changing : Stmt := top 116
abbrev N_answer_changing : List Str := ["kept", "number", "told"]
abbrev P_answer_changing : List Str := ["kept", "number", "told"]
theorem sc_answer_changing : FnScope N_answer_changing P_answer_changing (C8.fnScope s_answer_changing) := C8.fnScope_by (by decide +kernel)
def sp_answer_changing (Z : Zc) (T : List (Addr × Str)) : Sp := fun vs H Q _ => ∃ (a b : Addr) (o : Option Ks570.State) (n : Nat) (told : List Int) (c : Ks570.Call), vs = [.ref a, .int (n : Int), .ref b] ∧ n < 9 ∧ (n ≠ 0 → o.isSome = true) ∧ KAt Z.kept H a o ∧ OkO o ∧ Tabs T H ∧ H b = some (.lst (told.map V.int)) ∧ callFor n told c ∧
  ∀ p H', After T a H H' → KAt Z.kept H' a (Ks570.act o c).1 → H' p = some (.lst (((Ks570.act o c).2.ret :: (Ks570.act o c).2.out).map V.int)) → Q (.ref p) H'
theorem cal_answer_changing {Z : Zc} {f : Addr} {fd : FuncData} {T : List (Addr × Str)} (F : C8.Def K mg "answer_changing" s_answer_changing f fd) (b : Binds K fd P_answer_changing []) (t_CHANGERS : AnsT P w K mg base Z T "CHANGERS" 0 9 6)  : C8.Cal P w K mg base 7 "answer_changing" (sp_answer_changing Z T) [] := by
  have sc := sc_answer_changing; obtain ⟨a_CHANGERS, m_CHANGERS, hT_CHANGERS⟩ := t_CHANGERS
  refine C8.cal0 F b .nil sc (fun vs H Q E h => ?_) (fun cdv A outer s H vs Q E hr h => ?_)
  · obtain ⟨_, _, _, _, _, _, rfl, _⟩ := h
    rfl
  · refine ⟨_, (pss_one (ps_ret (pe_callE (pe_ix (ixt K rfl) (pe_glob (v := .ref a_CHANGERS) (by rfl) m_CHANGERS rfl) (pv 1) (fun _ _ => rfl)) hr (pa_cons (pv 0) (pa_cons (pv 2) pa_nil))))), ?_⟩
    obtain ⟨a, b, o, n, told, c, rfl, hn, hon, hk, ok, ht, hb, hc, q⟩ := h
    obtain ⟨fs, hfs, hcal⟩ := hT_CHANGERS
    obtain ⟨fn, j, hfn, hj, cf⟩ := hcal n hn
    have hx : (fs.map V.ref)[n]? = some (V.ref fn) := by rw [List.getElem?_map, hfn]; rfl
    rw [Nat.zero_add] at cf
    refine (ev_op ev_c (ev_var rfl) (rv_ixT (hfs H) (atI_nat hx))) H (Ex.refl H) _ fun H2 e2 => ⟨fn, spFor Z T n, j, rfl, hj, cf, ?_⟩
    refine (ea_cons (ev_var rfl) (ea_cons (ev_var rfl) ea_nil)) H2 (Ex.refl H2) _ fun H3 e3 => ?_
    have e := e2.trans e3
    have q' : ∀ p H', After T a H3 H' → KAt Z.kept H' a (Ks570.act o c).1 → H' p = some (.lst (((Ks570.act o c).2.ret :: (Ks570.act o c).2.out).map V.int)) → Q (.ref p) H' := fun p H' g2 => q p H' ((After.ex ht e).trans g2)
    unfold spFor
    by_cases c0 : n = 0
    · rw [if_pos c0]
      rw [c0] at hc
      obtain ⟨x, rfl, rfl⟩ := hc
      exact ⟨a, b, o, x, rfl, hk.ex e, ht.ext e, e _ _ hb, q'⟩
    · rw [if_neg c0]
      cases o with
      | none => cases hon c0
      | some s => exact ⟨a, b, s, told, c, rfl, hk.ex e, ok s rfl, ht.ext e, e _ _ hb, hc, q'⟩
/-! answer_asking -/
abbrev s_answer_asking : Stmt := top 102
abbrev N_answer_asking : List Str := ["kept", "number", "told"]
abbrev P_answer_asking : List Str := ["kept", "number", "told"]
theorem sc_answer_asking : FnScope N_answer_asking P_answer_asking (C8.fnScope s_answer_asking) := C8.fnScope_by (by decide +kernel)
def sp_answer_asking (Z : Zc) (T : List (Addr × Str)) : Sp := fun vs H Q _ => ∃ (a b : Addr) (s : Ks570.State) (n : Nat) (told : List Int) (c : Ks570.Call), vs = [.ref a, .int (n : Int), .ref b] ∧ n < 18 ∧ KeptAt Z.kept H a s ∧ Ok s ∧ Tabs T H ∧ H b = some (.lst (told.map V.int)) ∧ callFor (9 + n) told c ∧ Ret Z.kept T a H Q (Ks570.does1 s c)
theorem cal_answer_asking {Z : Zc} {f : Addr} {fd : FuncData} {T : List (Addr × Str)} (F : C8.Def K mg "answer_asking" s_answer_asking f fd) (b : Binds K fd P_answer_asking []) (t_ASKERS : AnsT P w K mg base Z T "ASKERS" 9 18 7)  : C8.Cal P w K mg base 8 "answer_asking" (sp_answer_asking Z T) [] := by
  have sc := sc_answer_asking; obtain ⟨a_ASKERS, m_ASKERS, hT_ASKERS⟩ := t_ASKERS
  refine C8.cal0 F b .nil sc (fun vs H Q E h => ?_) (fun cdv A outer s H vs Q E hr h => ?_)
  · obtain ⟨_, _, _, _, _, _, rfl, _⟩ := h
    rfl
  · refine ⟨_, (pss_one (ps_ret (pe_callE (pe_ix (ixt K rfl) (pe_glob (v := .ref a_ASKERS) (by rfl) m_ASKERS rfl) (pv 1) (fun _ _ => rfl)) hr (pa_cons (pv 0) (pa_cons (pv 2) pa_nil))))), ?_⟩
    obtain ⟨a, b, st, n, told, c, rfl, hn, hk, ok, ht, hb, hc, q⟩ := h
    obtain ⟨fs, hfs, hcal⟩ := hT_ASKERS
    obtain ⟨fn, j, hfn, hj, cf⟩ := hcal n hn
    have hx : (fs.map V.ref)[n]? = some (V.ref fn) := by rw [List.getElem?_map, hfn]; rfl
    refine (ev_op ev_c (ev_var rfl) (rv_ixT (hfs H) (atI_nat hx))) H (Ex.refl H) _ fun H2 e2 => ⟨fn, spFor Z T (9 + n), j, rfl, hj, cf, ?_⟩
    refine (ea_cons (ev_var rfl) (ea_cons (ev_var rfl) ea_nil)) H2 (Ex.refl H2) _ fun H3 e3 => ?_
    have e := e2.trans e3
    unfold spFor
    rw [if_neg (by omega)]
    exact ⟨a, b, st, told, c, rfl, hk.ex e, ok, ht.ext e, e _ _ hb, hc, fun p H' g2 => q p H' ((After.ex ht e).trans g2)⟩
/-! answer_call -/
abbrev s_answer_call : Stmt := top 124
abbrev N_answer_call : List Str := ["kept", "number", "told"]
abbrev P_answer_call : List Str := ["kept", "number", "told"]
theorem sc_answer_call : FnScope N_answer_call P_answer_call (C8.fnScope s_answer_call) := C8.fnScope_by (by decide +kernel)
def sp_answer_call (Z : Zc) (T : List (Addr × Str)) : Sp := fun vs H Q _ => ∃ (a b : Addr) (o : Option Ks570.State) (n : Nat) (told : List Int) (c : Ks570.Call), vs = [.ref a, .int (n : Int), .ref b] ∧ n < 27 ∧ KAt Z.kept H a o ∧ OkO o ∧ Tabs T H ∧ H b = some (.lst (told.map V.int)) ∧ callFor n told c ∧
  ∀ p H', After T a H H' → KAt Z.kept H' a (Ks570.act o c).1 → H' p = some (.lst (((Ks570.act o c).2.ret :: (Ks570.act o c).2.out).map V.int)) → Q (.ref p) H'
theorem cal_answer_call {Z : Zc} {f : Addr} {fd : FuncData} {T : List (Addr × Str)} (F : C8.Def K mg "answer_call" s_answer_call f fd) (b : Binds K fd P_answer_call []) (Cs : Cst K mg) (c_answer_changing : C8.Cal P w K mg base 7 "answer_changing" (sp_answer_changing Z T) []) (c_answer_asking : C8.Cal P w K mg base 8 "answer_asking" (sp_answer_asking Z T) []) (c_is_begun : C8.Met P w K mg base 1 Z.kept "is_begun" (sp_Kept_is_begun Z.kept) []) : C8.Cal P w K mg base 9 "answer_call" (sp_answer_call Z T) [] := by
  have sc := sc_answer_call; obtain ⟨_, m_BEGIN⟩ := Cs.BEGIN; obtain ⟨_, m_NOT_BEGUN⟩ := Cs.NOT_BEGUN; obtain ⟨_, m_FIRST_ASKING⟩ := Cs.FIRST_ASKING
  refine C8.cal0 F b .nil sc (fun vs H Q E h => ?_) (fun cdv A outer s H vs Q E hr h => ?_)
  · obtain ⟨_, _, _, _, _, _, rfl, _⟩ := h
    rfl
  · refine ⟨_, (pss_cons (ps_if (PW.pt (pw_and (pt_cmpR op_ne (pv 1) (pe_glob (v := .int (0)) (by rfl) m_BEGIN ⟨_, rfl⟩) (nomark _)) (pw_and1 (pt_not (pt_val (C8.pe_mt0 c_is_begun hr (by decide) (pv 0))))))) (pss_one (ps_ret (pe_lst (pa_cons (pe_glob (v := .int (-61)) (by rfl) m_NOT_BEGUN ⟨_, rfl⟩) pa_nil)))) pss_nil)
      (pss_cons (ps_if (pt_cmpR op_lt (pv 1) (pe_glob (v := .int (9)) (by rfl) m_FIRST_ASKING ⟨_, rfl⟩) (nomark _)) (pss_one (ps_ret (C8.pe_c c_answer_changing hr (by decide) (by rfl) (pa_cons (pv 0) (pa_cons (pv 1) (pa_cons (pv 2) pa_nil)))))) pss_nil)
      (pss_one (ps_ret (C8.pe_c c_answer_asking hr (by decide) (by rfl) (pa_cons (pv 0) (pa_cons (pe_op op_sub (pv 1) (pe_glob (v := .int (9)) (by rfl) m_FIRST_ASKING ⟨_, rfl⟩)) (pa_cons (pv 2) pa_nil)))))))), ?_⟩
    obtain ⟨a, b, o, n, told, c, rfl, hn, hk, ok, ht, hb, hc, q⟩ := h
    obtain ⟨dx, aw, ag, ap, m, ha⟩ := hk.ins
    have hbeg : Ev (tMeth Z.kept "is_begun" (sp_Kept_is_begun Z.kept) [] C8.E0 (tVar 0) tNil) (L2.start N_answer_call [.ref a, .int (n : Int), .ref b]) H (.bl o.isSome) := fun H1 e Q q1 =>
      ⟨.ref a, rfl, a, dx, _, rfl, e _ _ ha, kF_no aw ag ap m (by decide +kernel) (by decide +kernel) (by decide +kernel) (by decide +kernel), a, o, rfl, hk.ex e, fun s es => by rw [(ok s es).game.len]; exact (ok s es).pos, fun H2 e2 => q1 H2 e2⟩
    refine q_when (b := decide (n ≠ 0) && !o.isSome) (et_is (et_and (et_test (ev_op (ev_var rfl) ev_c (rv_ne rfl))) (fun _ => et_not (et_B hbeg))) ?_) (fun c1 H1 e1 => ?_) (fun c1 H1 e1 => ?_)
    · have z : (!decide (V.int (n : Int) = V.int 0)) = decide (n ≠ 0) := by
        by_cases c0 : n = 0
        · rw [c0]; rfl
        · rw [decide_eq_true c0, decide_eq_false fun z => c0 (by injection z with z; omega)]; rfl
      rw [z]
    · rw [Bool.and_eq_true, decide_eq_true_eq] at c1
      cases o with
      | some s => cases c1.2
      | none =>
        rw [not_begin hn c1.1 hc] at q
        exact s_retL (el_lst (ea_cons ev_c ea_nil) (by show 1 ≤ 100000; decide)) fun p H2 hp e2 h2 => q p H2 (.ex ht (e1.trans e2)) (hk.ex (e1.trans e2)) h2
    · have hon : n ≠ 0 → o.isSome = true := fun c0 => by
        rw [decide_eq_true c0, Bool.true_and, Bool.not_eq_false'] at c1
        exact c1
      refine q_when (et_test (ev_op (ev_var rfl) ev_c rv_I0)) (fun c2 H2 e2 => ?_) (fun c2 H2 e2 => ?_)
      · have h9 : n < 9 := by have := of_decide_eq_true c2; omega
        have e12 := e1.trans e2
        exact s_retCall (ea_cons (ev_var rfl) (ea_cons (ev_var rfl) (ea_cons (ev_var rfl) ea_nil))) fun H3 e3 => ⟨a, b, o, n, told, c, rfl, h9, hon, hk.ex (e12.trans e3), ok, ht.ext (e12.trans e3), (e12.trans e3) _ _ hb, hc, fun p H' g2 => q p H' ((After.ex ht (e12.trans e3)).trans g2)⟩
      · have h9 : ¬ n < 9 := by have := of_decide_eq_false c2; omega
        have e12 := e1.trans e2
        have en : (n : Int) - 9 = ((n - 9 : Nat) : Int) := by omega
        cases o with
        | none => cases hon (by omega)
        | some st => exact s_retCall (ea_cons (ev_var rfl) (ea_cons (ev_is (ev_op (ev_var rfl) ev_c rv_I0) (congrArg V.int en)) (ea_cons (ev_var rfl) ea_nil))) fun H3 e3 => ⟨a, b, st, n - 9, told, c, rfl, by omega, KeptAt.ex hk (e12.trans e3), ok st rfl, ht.ext (e12.trans e3), (e12.trans e3) _ _ hb, by rw [show 9 + (n - 9) = n by omega]; exact hc, fun p H' g2 => q p H' ((After.ex ht (e12.trans e3)).trans g2)⟩
/-! a list that is held apart from all other lists for a while -/
def LX (b : Addr) (xs : List V) : HO := .ext fun h => xs.length ≤ sizeLine ∧ ∃ (its : List Value) (n : Nat), Vals xs its ∧ h.get? b = some { cls := .type "list", data := .seq its.toArray n }
def Conv (H H' : Hp) : Prop := ∃ (b : Addr) (xs : List V), (H b = some (.lst xs) ∧ H' = upd H b (LX b xs)) ∨ (H b = some (LX b xs) ∧ H' = upd H b (.lst xs))
theorem inv_conv {X : Cx} {pins : List (Addr × Obj)} {σ : L2.St} {H H' : Hp} {s : Shared} (I : Inv X pins σ H s) (c : Conv H H') : Inv X pins σ H' s := by
  obtain ⟨b, xs, ⟨h, rfl⟩ | ⟨h, rfl⟩⟩ := c
  · obtain ⟨hz, its, n, hv, e⟩ := I.hok b _ h
    exact I.write (h' := s.heap) (t' := s.toks) (by rw [h]; exact True.intro) (.inl rfl) (fun b u _ q => q) ⟨_, e⟩ ⟨⟨hz, its, n, hv, e⟩, ⟨_, e⟩, fun h1 h2 ⟨g1, its, n, g2, g3⟩ g4 => ⟨g1, its, n, g2, g4 _ g3⟩⟩
  · obtain ⟨⟨hz, its, n, hv, e⟩, _⟩ := I.hok b _ h
    exact I.write (h' := s.heap) (t' := s.toks) (by rw [h]; exact True.intro) (.inl rfl) (fun b u _ q => q) ⟨_, e⟩ ⟨hz, its, n, hv, e⟩
def tConv (te : TE) : TE := fun σ H Q => te σ H fun x H1 => ∃ H2, Conv H1 H2 ∧ Q x H2
theorem pe_conv {X : Cx} {e : Expr} {te : TE} (h : PE X e te) : PE X e (tConv te) := by
  refine ⟨fun pins s σ H Q I q => thn (h.run pins s σ H _ I q) fun u s1 ⟨x, H1, I1, r1, H2, c, q2⟩ => ?_⟩
  exact ⟨x, H2, inv_conv I1 c, r1, q2⟩
/-- all but what stands at b -/
def ButX (b : Addr) (H H' : Hp) : Prop := ∀ c o, H c = some o → c ≠ b → H' c = some o
theorem kat_off {C : Addr} {H H' : Hp} {a b : Addr} {ys : List V} {o : Option Ks570.State} (k : KAt C H a o) (h : H b = some (LX b ys)) (e : ButX b H H') : KAt C H' a o := by
  have l : ∀ c xs, H c = some (.lst xs) → H' c = some (.lst xs) := fun c xs hc => e c _ hc fun z => by rw [z, h] at hc; cases hc
  have t : ∀ c xs, H c = some (.tup xs) → H' c = some (.tup xs) := fun c xs hc => e c _ hc fun z => by rw [z, h] at hc; cases hc
  have i : ∀ D dx fs, H a = some (.ins D dx fs) → H' a = some (.ins D dx fs) := fun D dx fs hc => e a _ hc fun z => by rw [z, h] at hc; cases hc
  cases o with
  | none =>
    obtain ⟨dx, aw, ag, ap, g1, g2, g3, g4⟩ := k
    exact ⟨dx, aw, ag, ap, i _ _ _ g1, l _ _ g2, l _ _ g3, l _ _ g4⟩
  | some s => exact KeptAt.std (show KeptAt C H a s from k) ⟨l, t⟩ fun dx fs => i _ dx fs
theorem lx_code {b : Addr} {ys : List V} {c : Addr} {q : Str} (e : LX b ys = CodeO c q) : False := by
  have e1 : (fun h : Heap => ys.length ≤ sizeLine ∧ ∃ (its : List Value) (n : Nat), Vals ys its ∧ h.get? b = some { cls := .type "list", data := .seq its.toArray n }) = fun h : Heap => ∃ (oc : Obj) (vs : Array Value) (t : Tok), h.get? c = some oc ∧ oc.data = .fields vs ∧ vs[1]? = some (.str q t) := by
    unfold LX CodeO at e
    injection e
  have g : ∀ a : Addr, a < (b + c + 1) → ({ objs := Array.replicate (b + c + 1) { cls := .none, data := .fields #[.none, .str q 0] } } : Heap).get? a = some { cls := .none, data := .fields #[.none, .str q 0] } := fun a ha => by
    unfold Heap.get?
    simp [ha]
  have e2 := congrFun e1 { objs := Array.replicate (b + c + 1) { cls := .none, data := .fields #[.none, .str q 0] } }
  have e3 : ∃ (oc : Obj) (vs : Array Value) (t : Tok), ({ objs := Array.replicate (b + c + 1) { cls := .none, data := .fields #[.none, .str q 0] } } : Heap).get? c = some oc ∧ oc.data = .fields vs ∧ vs[1]? = some (.str q t) := ⟨_, _, 0, g c (Nat.lt_succ_of_le (Nat.le_add_left c b)), rfl, rfl⟩
  rw [← e2] at e3
  obtain ⟨_, its, n, _, e4⟩ := e3
  rw [g b (Nat.lt_succ_of_le (Nat.le_add_right b c))] at e4
  cases e4
theorem tabs_off {T : List (Addr × Str)} {H H' : Hp} {b : Addr} {ys : List V} (t : Tabs T H) (h : H b = some (LX b ys)) (e : ButX b H H') : Tabs T H' := fun p hp => by
  obtain ⟨ps, h1, h2, h3⟩ := t p hp
  refine ⟨ps, e _ _ h1 fun z => ?_, h2, fun pos cv hc => ?_⟩
  · rw [z, h] at h1
    cases h1
  · obtain ⟨c, e1, e2⟩ := h3 pos cv hc
    refine ⟨c, e1, e _ _ e2 fun z => ?_⟩
    rw [z, h] at e2
    exact lx_code (Option.some.inj e2)
/-! answers -/
abbrev s_answers : Stmt := top 125
abbrev N_answers : List Str := ["calls", "kept", "given", "number", "told", "numbers"]
abbrev P_answers : List Str := ["calls"]
theorem sc_answers : FnScope N_answers P_answers (C8.fnScope s_answers) := C8.fnScope_by (by decide +kernel)
def sp_answers (K : PySem.W.Frag) (T : List (Addr × Str)) : Sp := fun vs H Q _ => ∃ (a : Addr) (l : List Int) (raw : List (List (List Int))), vs = [.ref a] ∧ SqL K H a (l.map V.int) ∧ Line l raw ∧ Tabs T H ∧ ∀ p H', H' p = some (.lst ((PyKs570.answers l).map V.int)) → Q (.ref p) H'
theorem told_pre (raw : List (List (List Int))) (i : Nat) : (PyFlat.told (saidBy (raw.take i))).length ≤ (PyFlat.told (saidBy raw)).length := by
  have z : saidBy raw = saidBy (raw.take i) ++ PyFlat.played Ks570Neutral.step (stateAt (raw.take i)) (raw.drop i) := by
    have := played_app Ks570Neutral.step (raw.take i) (raw.drop i) none
    rw [List.take_append_drop] at this
    exact this
  rw [z]
  unfold PyFlat.told
  rw [List.flatMap_append, List.length_append]
  omega
theorem sz_big {n : Nat} (h : n ≤ 2000000) : n < sizeLine := Nat.lt_of_le_of_lt h (by rw [PySem.sizeLine_eq]; decide)
/-- a loop over the list that a def gives back -/
def ForAt (K : PySem.W.Frag) (a : Addr) (g : TG) (tb : TS) (D : Ends) (σ : L2.St) (H : Hp) : Prop := ∃ W : Nat → Nat → L2.St → Hp → Prop, (∃ m, W 0 m σ H) ∧ ∀ i m σ1 H1, W i m σ1 H1 →
  ((Itl K a).stop i H1 ∧ D.nx σ1 H1) ∨ ((Itl K a).go i H1 ∧ ∃ N : L2.St → Hp → Prop, (∀ σ' H', N σ' H' → ∃ m', m' < m ∧ W (i + 1) m' σ' H') ∧ ∀ x H', (Itl K a).yld i H1 x H' → g x σ1 H' fun σ2 H2 => tb { D with nx := N, ct := N, bk := D.nx } σ2 H2)
theorem q_forCall {σ : L2.St} {H : Hp} {D : Ends} {sp : Sp} {E : XK} {ta : TA} {vs : List V} {g : TG} {tu tz : TS} (h : EvA ta σ H vs) (k : ∀ H1, Ex H H1 → sp (vs ++ []) H1 (fun x H2 => ∃ a, x = .ref a ∧ (∃ xs, SqL K H2 a xs) ∧ ForAt K a g tu { D with nx := tz D } σ H2) E) :
    tSeq (tFor (iList K (tCall sp [] E ta)) g tu) tz D σ H := h H (Ex.refl H) _ k
theorem q_appB {σ : L2.St} {H : Hp} {D : Ends} {ta te : TE} {tz : TS} {b : Addr} {xs : List V} {v : V} (hb : H b = some (.lst xs)) (h1 : Ev ta σ H (.ref b)) (h2 : Ev te σ H v) (hz : xs.length < sizeLine) (k : ∀ H1, Ex H H1 → tz D σ (upd H1 b (.lst (xs ++ [v])))) :
    tSeq (tDrop (tBM K "list" rAppend ta (tCons te tNil))) tz D σ H := h1 H (Ex.refl H) _ fun H1 f1 =>
  ⟨Or.inl ⟨rfl, xs, sq_of (f1 _ _ hb)⟩, h2 H1 f1 _ fun H2 f2 => ⟨b, xs, v, rfl, rfl, f2 _ _ (f1 _ _ hb), hz, k H2 (f1.trans f2)⟩⟩
theorem q_asgConv {σ : L2.St} {H : Hp} {D : Ends} {sp : Sp} {E : XK} {ta : TA} {vs : List V} {i : Nat} {tz : TS} (h : EvA ta σ H vs) (k : ∀ H1, Ex H H1 → sp (vs ++ []) H1 (fun v H2 => ∃ H3, Conv H2 H3 ∧ tz D (σ.set i (some v)) H3) E) : tSeq (tAsg (tConv (tCall sp [] E ta)) (gName i)) tz D σ H := h H (Ex.refl H) _ k
theorem q_asgConvL {σ : L2.St} {H : Hp} {D : Ends} {te : TE} {xs : List V} {i : Nat} {tz : TS} (h : EvL te σ H xs) (k : ∀ p H1, H p = none → Ex H H1 → H1 p = some (.lst xs) → ∃ H3, Conv H1 H3 ∧ tz D (σ.set i (some (.ref p))) H3) : tSeq (tAsg (tConv te) (gName i)) tz D σ H := h H (Ex.refl H) _ k
theorem step_told {s : Option Ks570.State} {rc : List (List Int)} {c : Ks570.Call} (h : Ks570Neutral.step s rc = Ks570Neutral.told (Ks570.act s c)) : (Ks570Neutral.step s rc).1 = (Ks570.act s c).1 ∧ (Ks570Neutral.step s rc).2 = (Ks570.act s c).2.ret :: (Ks570.act s c).2.out := by
  rw [h]
  exact ⟨rfl, rfl⟩
theorem fn_answers {Z : Zc} {f : Addr} {fd : FuncData} {T : List (Addr × Str)} (F : C8.Def K mg "answers" s_answers f fd) (B : Blt mg) (c_Kept : C8.Mak P w K mg base 1 "Kept" Z.kept (sp_Kept_init Z.kept) []) (c_split_calls : C8.Cal P w K mg base 1 "split_calls" (sp_split_calls K) []) (c_answer_call : C8.Cal P w K mg base 9 "answer_call" (sp_answer_call Z T) []) : FnOk P w K mg base C8.CX0 10 f fd P_answers (sp_answers K T) := by
  have sc := sc_answers; have b_len := B.len
  refine C8.fn0 F.fn sc (fun vs H Q E h => ?_) (fun cdv A outer s H vs Q E hr h => ?_)
  · obtain ⟨_, _, _, rfl, _⟩ := h
    rfl
  · refine ⟨_, (pss_cons (ps_set (i := 1) sc.nd rfl (.inl rfl) (pe_mk0 c_Kept hr (by decide) (by rfl)))
      (pss_cons (ps_set (i := 2) sc.nd rfl (.inl rfl) (pe_conv (pe_lst pa_nil)))
      (pss_cons (ps_for PassesOwn.never rfl (piL K rfl (C8.pe_c c_split_calls hr (by decide) (by rfl) (pa_cons (pv 0) pa_nil))) (pg_tup rfl (pgs_cons (pg_name (i := 3) sc.nd rfl (.inl rfl)) (pgs_cons (pg_name (i := 4) sc.nd rfl (.inl rfl)) pgs_nil))) (pss_cons (ps_set (i := 5) sc.nd rfl (.inl rfl) (pe_conv (C8.pe_c c_answer_call hr (by decide) (by rfl) (pa_cons (pv 1) (pa_cons (pv 3) (pa_cons (pv 4) pa_nil))))))
      (pss_cons (ps_expr (pe_bm PySem.F.plainAttrs_list PySem.F.slot_list_append PySem.F.type_list_append (mt_append) (pv 2) (pa_cons (pe_callB (cLen K rfl) (by rfl) b_len (by decide +kernel) (pa_cons (pv 5) pa_nil)) pa_nil)))
      (pss_one (ps_expr (pe_conv (pe_bm PySem.F.plainAttrs_list PySem.F.slot_list_extend PySem.F.type_list_extend (mt_extend) (pv 2) (pa_cons (pv 5) pa_nil))))))))
      (pss_one (ps_ret (pe_conv (pv 2))))))), ?_⟩
    obtain ⟨a, l, raw, rfl, hsq, ln, ht, q⟩ := h
    refine fun k dx hk hdx hne => ⟨k, dx, rfl, upd_same, fun H1 but nk => ⟨rfl, ?_⟩⟩
    have e1 : Ex H H1 := fun bb o hb => by
      have n1 : bb ≠ k := fun z => by rw [z, hk] at hb; cases hb
      have n2 : bb ≠ dx := fun z => by rw [z, hdx] at hb; cases hb
      exact but bb o (by rw [upd_ne n1, upd_ne n2]; exact hb) n1
    refine q_asgConvL (el_lst ea_nil (by decide)) fun D H2 hD e20 d20 => ⟨_, ⟨D, [], .inl ⟨d20, rfl⟩⟩, ?_⟩
    have e2 : Ex H1 (upd H2 D (LX D [])) := e20.mut hD
    have d2 : upd H2 D (LX D []) D = some (LX D []) := upd_same
    generalize upd H2 D (LX D []) = H2 at e2 d2
    refine q_forCall (ea_cons (ev_var rfl) ea_nil) fun H3 e3 => ⟨a, raw, rfl, ?_, ln.ok, ln.few, fun c hc => arg_len (ln.ok c hc) (ln.ins c hc), fun p H4 hp e4 fa => ?_⟩
    · rw [← ln.put]
      exact ex_l ((e1.trans e2).trans e3) hsq
    obtain ⟨xs, hxs, hxl⟩ := fa.lst
    have pD : p ≠ D := fun z => by rw [z, e3 _ _ d2] at hp; cases hp
    have h3D := e3 _ _ d2
    refine ⟨p, rfl, ⟨xs, sq_of hxs⟩, for_list (fun i σ' H' => ∃ v3 v4 v5, σ' = [some (.ref a), some (.ref k), some (.ref D), v3, v4, v5] ∧ KAt Z.kept H' k (stateAt (raw.take i)) ∧ OkO (stateAt (raw.take i)) ∧ Tabs T H' ∧ FoundAt H3 H' p raw ∧ H' p = some (.lst xs) ∧ H' D = some (LX D ((PyFlat.told (saidBy (raw.take i))).map V.int)))
      ⟨none, none, none, rfl, (show KAt Z.kept H1 k none from nk).ex ((e2.trans e3).trans e4), (fun s z => (by cases z)), ht.ext (((e1.trans e2).trans e3).trans e4), fa, hxs, (e3.trans e4) _ _ d2⟩ (fun i σ' H' _ ⟨_, _, _, _, _, _, _, _, hx, _⟩ => sq_of hx) ?_ ?_⟩
    · rintro i v _ H5 hv ⟨v3, v4, v5, rfl, k5, ok5, t5, f5, x5, d5⟩
      obtain ⟨pt, tt, rc, rfl, hrc, hpt, htt⟩ := f5.at_ x5 hv
      have hmem : rc ∈ raw := List.mem_of_getElem? hrc
      obtain ⟨n, hnum, hn, c, hc, hst⟩ := callIs_of (ln.ok rc hmem) (ln.ins rc hmem)
      rw [hnum] at hpt
      have htk : raw.take (i + 1) = raw.take i ++ [rc] := by
        rw [List.take_add_one, hrc]
        rfl
      refine ⟨pt, _, rfl, st_of hpt, rfl, _, _, rfl, _, _, rfl, rfl, ?_⟩
      obtain ⟨g1, g2⟩ := step_told (hst (stateAt (raw.take i)))
      refine q_asgConv (ea_cons (ev_var rfl) (ea_cons (ev_var rfl) (ea_cons (ev_var rfl) ea_nil))) fun H6 e6 => ⟨k, tt, stateAt (raw.take i), n, argOf rc, c, rfl, hn, k5.ex e6, ok5, t5.ext e6, e6 _ _ htt, hc, fun pn H7 af k7 h7 => ?_⟩
      have dk : D ≠ k := fun z => by
        obtain ⟨_, _, _, _, _, ha⟩ := k5.ins
        rw [← z, d5] at ha
        cases ha
      have d7 : H7 D = some (LX D ((PyFlat.told (saidBy (raw.take i))).map V.int)) := af.but _ _ (e6 _ _ d5) dk fun ps z => by cases z
      have nD : pn ≠ D := fun z => by rw [z, d7] at h7; cases h7
      rw [← g1, ← stateAt_snoc, ← htk] at k7
      rw [← g2] at h7
      have ok7 : OkO (stateAt (raw.take (i + 1))) := by
        rw [htk, stateAt_snoc, g1]
        exact ok_act ok5
      have hsz := Nat.le_trans (told_pre raw (i + 1)) ln.short
      rw [htk, saidBy_snoc, told_snoc, List.length_append, List.length_cons] at hsz
      refine ⟨_, ⟨D, _, .inr ⟨d7, rfl⟩⟩, ?_⟩
      have h7' : upd H7 D (.lst ((PyFlat.told (saidBy (raw.take i))).map V.int)) pn = some (.lst ((Ks570Neutral.step (stateAt (raw.take i)) rc).2.map V.int)) := by
        rw [upd_ne nD]
        exact h7
      refine q_appB upd_same (ev_var rfl) (ev_len (ev_var rfl) (sq_of h7')) (sz_big (by rw [List.length_map]; omega)) fun H8 e8 => ?_
      refine ⟨_, rfl, .inl ⟨rfl, _, sq_of upd_same⟩, _, rfl, D, pn, _, _, rfl, rfl, upd_same, (upd_ne nD).trans (e8 _ _ h7'), Nat.le_of_lt (sz_big ?_), ?_⟩
      · rw [List.length_append, List.length_map, List.length_map]
        show _ + 1 + _ ≤ _
        omega
      · refine ⟨_, ⟨D, _, .inl ⟨upd_same, rfl⟩⟩, ?_⟩
        obtain ⟨_, _, _, _, _, ik⟩ := k5.ins
        have hx : ∀ (o1 o2 o3 : HO), ButX D H7 (upd (upd (upd H8 D o1) D o2) D o3) := fun o1 o2 o3 c o hc nc => by
          rw [upd_ne nc, upd_ne nc, upd_ne nc]
          exact e8 _ _ (by rw [upd_ne nc]; exact hc)
        have pk : ∀ c o, H5 c = some o → c ≠ k → c ≠ D → (∀ ps, o ≠ .tbl ps) → ∀ (o1 o2 o3 : HO), upd (upd (upd H8 D o1) D o2) D o3 c = some o := fun c o hc n1 n2 n3 o1 o2 o3 => hx o1 o2 o3 c o (af.but _ _ (e6 _ _ hc) n1 n3) n2
        refine ⟨_, _, _, rfl, kat_off k7 d7 (hx _ _ _), ok7, tabs_off af.tab d7 (hx _ _ _), f5.put (fun c ys hc _ => pk c _ hc ?_ ?_ (fun ps z => by cases z) _ _ _) (fun c ys hc => pk c _ hc ?_ ?_ (fun ps z => by cases z) _ _ _), pk p _ x5 ?_ ?_ (fun ps z => by cases z) _ _ _, ?_⟩
        rotate_right
        · rw [upd_same, htk, saidBy_snoc, told_snoc, List.map_append, List.map_cons, List.length_map, List.append_assoc]
          rfl
        · exact fun z => by rw [z, ik] at hc; cases hc
        · exact fun z => by rw [z, d5] at hc; cases hc
        · exact fun z => by rw [z, ik] at hc; cases hc
        · exact fun z => by rw [z, d5] at hc; cases hc
        · exact fun z => by rw [z, ik] at x5; cases x5
        · exact fun z => by rw [z, d5] at x5; cases x5
    · rintro _ H5 ⟨v3, v4, v5, rfl, k5, ok5, t5, f5, x5, d5⟩
      rw [hxl, List.take_length] at d5
      exact ⟨.ref D, rfl, _, ⟨D, _, .inr ⟨d5, rfl⟩⟩, q D _ (by rw [ln.ans]; exact upd_same)⟩
end Rg

set_option Elab.async false
set_option maxRecDepth 100000
set_option maxHeartbeats 2000000
set_option linter.unusedVariables false
/-! the end: one list of numbers handed in, tables of code objects beside it -/
namespace Rg
open PySem PySem.Spec PyProof.Rows L2 Evl LamX
open PySem.W (WData Codec OpenSpec Well WellAll ReadsW ReadsAllW)
/-- what stands at the start: what is handed in, held as it is, and the empty tables -/
def startH (K : PySem.W.Frag) (h : Heap) (A : List Addr) (cs : List (Addr × Addr)) : Hp := fun b => if b ∈ cs.map (·.2) then some (.tbl #[]) else argH K h A b
/-- the tables of a heap -/
structure TabsOf (K : PySem.W.Frag) (h : Heap) (cs : List (Addr × Addr)) : Prop where
  empty : ∀ p ∈ cs, h.get? p.2 = some { cls := .none, data := .fields #[] }
  out : ∀ p ∈ cs, K.lookup p.2 = none
  code : ∀ p ∈ cs, PySem.W.CodeHd h p.1 p.2
section
variable {P : Program} {w : World} {K : PySem.W.Frag} {h : Heap} {A : List Addr} {cs : List (Addr × Addr)}
theorem TabsOf.at_ (t : TabsOf K h cs) {b : Addr} (hb : b ∈ cs.map (·.2)) : h.get? b = some { cls := .none, data := .fields #[] } := by
  obtain ⟨p, hp, rfl⟩ := List.mem_map.mp hb
  exact t.empty p hp
theorem TabsOf.outK (t : TabsOf K h cs) {b : Addr} (hb : b ∈ cs.map (·.2)) : K.lookup b = none := by
  obtain ⟨p, hp, rfl⟩ := List.mem_map.mp hb
  exact t.out p hp
theorem startH_tab {p : Addr × Addr} (hp : p ∈ cs) : startH K h A cs p.2 = some (.tbl #[]) := if_pos (List.mem_map.mpr ⟨p, hp, rfl⟩)
/-- what is tracked at the start -/
theorem startH_is (t : TabsOf K h cs) (ar : ∀ a ∈ A, ArgOb h A a) {b : Addr} {u : HO} (q : startH K h A cs b = some u) : K.lookup b = none ∧ ((b ∈ cs.map (·.2) ∧ u = .tbl #[]) ∨ (b ∉ cs.map (·.2) ∧ argH K h A b = some u)) := by
  by_cases hb : b ∈ cs.map (·.2)
  · have q1 := (if_pos hb).symm.trans q
    exact ⟨t.outK hb, .inl ⟨hb, (Option.some.inj q1).symm⟩⟩
  · have q1 : argH K h A b = some u := (if_neg hb).symm.trans q
    exact ⟨(argH_is ar q1).1, .inr ⟨hb, q1⟩⟩
theorem startH_ex (t : TabsOf K h cs) (ar : ∀ a ∈ A, ArgOb h A a) : Ex (argH K h A) (startH K h A cs) := fun b u q => by
  refine (if_neg fun hb => ?_).trans q
  have z := t.at_ hb
  obtain ⟨_, vs, _, _, ⟨e, _⟩ | ⟨e, _⟩⟩ := argH_is ar q
  · rw [e] at z
    cases z
  · rw [e] at z
    cases z
theorem startH_ok (t : TabsOf K h cs) (ar : ∀ a ∈ A, ArgOb h A a) : HOk P w (startH K h A cs) h := fun b u q => by
  rcases (startH_is t ar q).2 with ⟨hb, rfl⟩ | ⟨_, q1⟩
  · exact t.at_ hb
  · obtain ⟨_, vs, g1, g2, ⟨e, rfl⟩ | ⟨e, rfl⟩⟩ := argH_is ar q1
    · exact ⟨e, (by rw [List.length_map]; exact g1), vs, _, vals_toV g2, e⟩
    · exact ⟨e, (by rw [List.length_map]; exact g1), vs, vals_toV g2, _, e, rfl, _, rfl⟩
/-- an object of another kind is not tracked at the start -/
theorem startH_no (t : TabsOf K h cs) (ar : ∀ a ∈ A, ArgOb h A a) {b : Addr} {o : Obj} (e : h.get? b = some o) (n1 : ∀ vs n, o.data ≠ .seq vs n) (n2 : o.data ≠ .fields #[]) : startH K h A cs b = none := by
  cases q : startH K h A cs b with
  | none => rfl
  | some u =>
    exfalso
    rcases (startH_is t ar q).2 with ⟨hb, _⟩ | ⟨_, q1⟩
    · have z := t.at_ hb
      rw [e] at z
      cases z
      exact n2 rfl
    · obtain ⟨_, vs, _, _, ⟨z, _⟩ | ⟨z, _⟩⟩ := argH_is ar q1
      · rw [e] at z
        cases z
        exact n1 _ _ rfl
      · rw [e] at z
        cases z
        exact n1 _ _ rfl
end
/-- what is known of the heap in which the def is called -/
structure Ready (K : PySem.W.Frag) (mg mb : Str → Option Value) (h : Heap) : Prop where
  inK : K.In h
  g : h.Ns mainGlobals mg
  b : h.Ns builtinsNs mb
  bb : ∀ x : Str, x ≠ "__name__" → mb x = bootBuiltins x
  lim : h.NoLimit
  bm : ∃ (bm : Addr) (ob : Obj), mg "__builtins__" = some (.ref bm) ∧ bm ≠ builtinsNs ∧ h.get? bm = some ob ∧ ob.cls = .type "module" ∧ ob.dict = some builtinsNs ∧ ob.data = .plain
section
variable {P : Program} {w : World} {K : PySem.W.Frag} {mg mb : Str → Option Value} {h : Heap} {A : List Addr} {cs : List (Addr × Addr)}
theorem Ready.get (t : TabsOf K h cs) (ar : ∀ a ∈ A, ArgOb h A a) {b : Addr} {o : Obj} (e : h.get? b = some o) (n1 : ∀ vs n, o.data ≠ .seq vs n) (n2 : o.data ≠ .fields #[]) : (hidT h (startH K h A cs)).get? b = some o := hidT_get e (startH_no t ar e n1 n2)
theorem Ready.ns (t : TabsOf K h cs) (ar : ∀ a ∈ A, ArgOb h A a) {b : Addr} {m : Str → Option Value} (x : h.Ns b m) : (hidT h (startH K h A cs)).Ns b m := by
  obtain ⟨o, es, ep, e, d, r⟩ := x
  exact ⟨o, es, ep, Ready.get t ar e (fun vs n z => by rw [d] at z; cases z) (fun z => by rw [d] at z; cases z), d, r⟩
theorem Ready.kin (r : Ready K mg mb h) (t : TabsOf K h cs) (ar : ∀ a ∈ A, ArgOb h A a) : K.In (hidT h (startH K h A cs)) := fun b o e => by
  refine hidT_get (r.inK b o e) ?_
  cases q : startH K h A cs b with
  | none => rfl
  | some u =>
    rw [(startH_is t ar q).1] at e
    cases e
theorem Ready.mod (r : Ready K mg mb h) (t : TabsOf K h cs) (ar : ∀ a ∈ A, ArgOb h A a) : L2.Mod K mg (hidT h (startH K h A cs)) := by
  obtain ⟨mc, l1, l2⟩ := r.lim
  exact ⟨r.kin t ar, Ready.ns t ar r.g, ⟨mb, Ready.ns t ar r.b, r.bb⟩, ⟨mc, Ready.ns t ar l1, l2⟩⟩
theorem Ready.tabs (r : Ready K mg mb h) (t : TabsOf K h cs) (ar : ∀ a ∈ A, ArgOb h A a) : ∀ p ∈ cs, TabB (hidT h (startH K h A cs)) mg p.1 p.2 := fun p hp => by
  have eP := t.empty p hp
  refine ⟨?_, ?_, fun z => ?_⟩
  · obtain ⟨o, us, file, tf, flags, tg, inF, text, tt, e1, r1, r2, r3, rr⟩ := t.code p hp
    refine ⟨o, us, file, tf, flags, tg, inF, text, tt, Ready.get t ar e1 (fun vs n z => ?_) (fun z => ?_), r1, r2, r3, rr⟩
    · rw [r2] at z
      cases z
    · rw [r2] at z
      cases z
      simp at r3
  · obtain ⟨bm, ob, b1, b2, b3, b4, b5, b6⟩ := r.bm
    refine ⟨bm, ob, b1, b2, fun z => ?_, fun z => ?_, Ready.get t ar b3 (fun vs n z => by rw [b6] at z; cases z) (fun z => by rw [b6] at z; cases z), b4, b5, b6⟩
    · obtain ⟨o, es, ep, e, d, _⟩ := r.g
      rw [z, e] at b3
      cases b3
      rw [d] at b6
      cases b6
    · rw [z, eP] at b3
      cases b3
      cases b6
  · obtain ⟨o, es, ep, e, d, _⟩ := r.g
    rw [z, eP] at e
    cases e
    cases d
end
theorem end_call {P : Program} {w : World} {K : PySem.W.Frag} {mg mb : Str → Option Value} {CX : CXT} {k : Nat} {fa : Addr} {fd : FuncData} {x : Str} {sp : Sp} {s : Shared} {vals : List Value} {ns : List Int} {R : PySem.W.WRecords} {cl : Str → Option Addr} {d0 : WData} {cs : List (Addr × Addr)}
    (rd : Ready K mg mb s.heap) (t : TabsOf K s.heap cs) (hg : s.gens = #[]) (hwl : WellAll w.params s.heap vals [.list (ns.map WData.int)]) (hwt : ∀ d ∈ [WData.list (ns.map WData.int)], d.weight ≤ 1048576) (hr : Room k callerA)
    (F : ∀ g : Heap, K.In g → g.Ns mainGlobals mg → (∀ q ∈ cs, TabB g mg q.1 q.2) → FnOk P w K mg g CX k fa fd [x] sp) (hbind : ∀ (s : Shared) (u : Value), BindsTo s fd ⟨[u], []⟩ [(x, u)])
    (hsp : ∀ (H : Hp) (a : Addr), (∀ p ∈ cs, H p.2 = some (.tbl #[])) → SqL K H a (ns.map V.int) → sp [.ref a] H (fun v H' => Dw K H' v d0) fun _ _ _ => False)
    (hCX : ∀ H e s', CX [] H s (fun _ _ _ => False) e s' → False) :
    codeAny (model P w) callerA (.call (.ref fa) ⟨vals, []⟩) (fun r s' => ∃ u as, r = .ok (.ret u) ∧ ReadsW R cl s'.heap u d0 as ∧ OldK s.heap s'.heap ∧ s'.os = s.os ∧ AllBare s'.gens) s := by
  have pl : plWs [WData.list (ns.map WData.int)] = true := by
    show (plWs (ns.map WData.int) && true) = true
    rw [plWs_map (fun _ => rfl) ns]
    rfl
  obtain ⟨A, ho, ar⟩ := area_all _ vals hwl pl hwt
  have hS := dw_all rd.inK ar _ vals hwl pl ho
  have hV := vals_toV ho
  have hlen : vals.length = 1 := wellAll_len hwl
  obtain ⟨u0, rfl⟩ := len1 hlen
  have hok : HOk P w (startH K s.heap A cs) s.heap := startH_ok t ar
  have hex := startH_ex t ar
  obtain ⟨a, eu, sq⟩ : ∃ a, toV u0 = .ref a ∧ SqL K (startH K s.heap A cs) a (ns.map V.int) := by
    have hS' : DwAll K (argH K s.heap A) [toV u0] [.list (ns.map WData.int)] := hS
    cases hS' with
    | cons q1 _ =>
      generalize toV u0 = v at q1
      cases q1 with
      | lst q2 q3 => exact ⟨_, rfl, by rw [← ints_dw ns _ q3]; exact ex_l hex q2⟩
  have ha : ∀ p ∈ cs, startH K s.heap A cs p.2 = some (.tbl #[]) := fun p hp => startH_tab hp
  have env : Env0 P w K mg (hidT s.heap (startH K s.heap A cs)) callerA [] s (startH K s.heap A cs) := ⟨rfl, rd.mod t ar, fun b o e => of_hidT e, Nat.le_of_eq (hidT_size _ _), trivial, (fun b hb => (by cases hb)), hok, .of_eq hg⟩
  have hV' : Vals [.ref a] [u0] := by
    have z : Vals [toV u0] [u0] := hV
    rw [eu] at z
    exact z
  refine codeAny_mono ((F _ (rd.kin t ar) (Ready.ns t ar rd.g) (rd.tabs t ar)).run callerA [] s (startH K s.heap A cs) ⟨[u0], []⟩ [u0] [.ref a] _ _ hr env (hbind s u0) hV' (hsp _ a ha sq)) fun res s' got => ?_
  cases res with
  | error e => exact (hCX _ e s' got).elim
  | ok fl =>
    cases fl with
    | next => cases got
    | brk => cases got
    | cont => cases got
    | ret u =>
      obtain ⟨v, H', os, bare, un, hok', rv, dw⟩ := got
      have key : ∀ b o, b ∉ cs.map (·.2) → s.heap.get? b = some o → s'.heap.get? b = some o := fun b o nb e => by
        cases q : startH K s.heap A cs b with
        | none => exact un.keep b o e q (fun z => by cases z) (by simp)
        | some u1 =>
          rcases (startH_is t ar q).2 with ⟨hb, _⟩ | ⟨_, q1⟩
          · exact absurd hb nb
          · rcases argH_only ar b with z | ⟨o1, u2, z⟩
            · rw [q1] at z
              cases z
            · rw [q1] at z
              cases z
              have g1 := (hok b _ q).1
              have g2 := (hok' b _ (un.frzs b _ _ q)).1
              rw [e] at g1
              cases g1
              exact g2
      have longer : ∀ q ∈ cs, ∃ us : Array Value, s'.heap.get? q.2 = some { cls := .none, data := .fields us } := fun q hq => let ⟨_, z⟩ := un.tbls q.2 #[] (ha q hq); ⟨_, hok' q.2 _ z⟩
      have kin' : K.In s'.heap := fun b o e => by
        refine key b o (fun z => ?_) (rd.inK b o e)
        rw [t.outK z] at e
        cases e
      obtain ⟨as, hrd⟩ := Dw.reads (R := R) (cl := cl) hok' kin' d0 v u dw rv
      refine ⟨u, as, rfl, hrd, ⟨fun b o e => ?_, fun b o e => ?_⟩, os, bare⟩
      · by_cases tb : b ∈ cs.map (·.2)
        · obtain ⟨q, hq, rfl⟩ := List.mem_map.mp tb
          obtain ⟨us, hu⟩ := longer q hq
          rw [t.empty q hq] at e
          cases e
          exact .inr (.inl ⟨((t.code q hq).tab (t.empty q hq)).isCodeTable, rfl, #[], us, rfl, by rw [Array.empty_append]; exact hu⟩)
        · exact .inl (key b o tb e)
      · by_cases tb : b ∈ cs.map (·.2)
        · obtain ⟨q, hq, rfl⟩ := List.mem_map.mp tb
          exact let ⟨_, hu⟩ := longer q hq; ⟨_, hu⟩
        · exact ⟨o, key b o tb e⟩
/-- what the def answers keeps, at the heap in which it is called -/
def EndAt (w : World) (K : PySem.W.Frag) (CX : CXT) (k : Nat) (x : Str) (mg : Str → Option Value) (fa : Addr) (h : Heap) : Prop :=
  ∃ (fd : FuncData) (cs : List (Addr × Addr)) (sp : Sp), TabsOf K h cs ∧ (∀ (s : Shared) (u : Value), BindsTo s fd ⟨[u], []⟩ [(x, u)]) ∧
    (∀ (H : Hp) (a : Addr) (l : List Int), PyKs570.answers_asked l = true → (∀ p ∈ cs, H p.2 = some (.tbl #[])) → SqL K H a (l.map V.int) → sp [.ref a] H (fun v H' => Dw K H' v (.list ((PyKs570.answers l).map WData.int))) fun _ _ _ => False) ∧
    ∀ base : Heap, K.In base → base.Ns mainGlobals mg → (∀ p ∈ cs, TabB base mg p.1 p.2) → FnOk PySem.Challenge.pw_restgroups_s01_answers w K mg base CX k fa fd [x] sp
theorem end_walk {k : Nat} {q : Program} {loose : List Str} {XP : (Str → Option Value) → Heap → Prop} {YP : World → Heap → Prop} {d : DefRec} {K : Params → PySem.W.Frag} {CX : CXT} {x : Str}
    (hwell : PySem.Challenge.rw_restgroups_s01_answers.wellSaid = true) (hdf : d.params.defaults = []) (hr : Room k callerA) (hY : ∀ (w : World) (h : Heap), YP w h → (K w.params).In h)
    (F : ∀ (w : World) (mean : ExcName → Option Value) (mg mb : Str → Option Value) (fa : Addr) (h : Heap), Top q (PySem.W.looseW q loose) mean mg mb h → (K w.params).In h → mg d.name = some (.ref fa) → EndAt w (K w.params) CX k x mg fa h)
    (hCX : ∀ (H : Hp) (s0 : Shared) (ex : Value) (s1 : Shared), CX [] H s0 (fun _ _ _ => False) ex s1 → False) : PySem.W.WalkOS q loose XP YP PySem.Challenge.rw_restgroups_s01_answers d [] (fun f vs => PySem.call f vs) := by
  intro w s0 s1 mg mb G Y fa o pm cd doc dV kV _ _ _ _ hmg hg args vals as hpre hlay _ hwl _
  obtain ⟨a, g1, g2⟩ := PySem.W.os_pre_some hpre
  obtain ⟨g3, hwi⟩ := Codec.encAll_of_decAll PySem.Challenge.rw_restgroups_s01_answers.args args a g1
  subst g3
  have inK := hY w _ Y
  obtain ⟨fd, cs, sp, tabs, hb, hsp, hF⟩ := F w _ mg mb fa _ G.T inK hmg
  have rd : Ready (K w.params) mg mb s1.heap := ⟨inK, G.T.g, G.T.b, G.T.builtins, G.T.nolimit, G.T.bmain⟩
  refine PySem.W.enter_call (codeAny_mono (end_call (ns := a.1) (R := []) (cl := classAt s0.heap) (d0 := PySem.Challenge.rw_restgroups_s01_answers.ret.enc (Codec.app PySem.Challenge.rw_restgroups_s01_answers.args PySem.Challenge.rw_restgroups_s01_answers.f a)) rd tabs hg hwl (layable_weight hlay) hr hF hb (fun H b hH hS => hsp H b a.1 g2 hH hS) fun H e s' => hCX H s1 e s') fun r s' got => ?_)
  obtain ⟨u, bs, rfl, z1, z2, z3, z4⟩ := got
  exact ⟨.inl ⟨u, _, bs, rfl, fun _ => rfl, z1, (OpenSpec.post_iff hwell hwi _ _).mpr rfl, fun z => by cases z⟩, z2, z3, z4⟩
/-! from what the top has written to what is promised -/
theorem rel_abs {u : Value} {x : V} (h : absV u = some x) : RelV x u := by
  cases u <;> first
    | (cases h; rfl)
    | (cases h; exact ⟨_, rfl⟩)
    | cases h
theorem vals_abs : ∀ {us : List Value} {xs : List V}, us.map absV = xs.map some → Vals xs us
  | [], [], _ => .nil
  | [], _ :: _, h => by cases h
  | _ :: _, [], h => by cases h
  | u :: us, x :: xs, h => by
    obtain ⟨h1, h2⟩ := List.cons.inj (show absV u :: us.map absV = some x :: xs.map some from h)
    exact .cons (rel_abs h1) (vals_abs h2)
theorem sqT_of {K : PySem.W.Frag} {a : Addr} {od : Option Addr} {its : Array Value} {n : Nat} {sl : Array (Option Value)} {xs : List V} (l : K.lookup a = some ⟨.type "tuple", od, .seq its n, sl⟩) (hv : its.toList.map absV = xs.map some) (hz : its.size ≤ sizeLine) : ∀ H, SqT K H a xs := fun H =>
  .inr ⟨_, its, n, l, rfl, rfl, hz, vals_abs hv⟩
theorem calAt_of {P : Program} {w : World} {K : PySem.W.Frag} {mg : Str → Option Value} {base : Heap} {k : Nat} {x : Str} {sp : Sp} {f : Addr} (c : C8.Cal P w K mg base k x sp []) (hm : mg x = some (.ref f)) : C8.CalAt P w K mg base k f sp := by
  obtain ⟨f', fd, ps, ds, F, g, kp, b, v⟩ := c.ex
  rw [hm] at g
  cases g
  cases v
  exact ⟨fd, ps, F, kp, b⟩
section
variable {K : PySem.W.Frag} {h : Heap} {mg : Str → Option Value} {x q : Str} {st : Stmt} {f c C : Addr} {oc kV dc pm cd ct : Value} {od an : Option Addr} {sl : Array (Option Value)}
theorem fun_of_top (l : K.lookup f = some ⟨oc, od, .func (PySem.W.fnOf x q (C8.fnArgs st) (C8.fnBody st) (C8.fnScope st) .none kV dc pm an cd ct), sl⟩) (cc : PySem.W.codeIn K cd q = true) : C8.Fun K x q st f (PySem.W.fnOf x q (C8.fnArgs st) (C8.fnBody st) (C8.fnScope st) .none kV dc pm an cd ct) :=
  ⟨oc, od, .none, kV, dc, pm, an, cd, ct, sl, rfl, l, cc⟩
theorem def_of_top (KX : K.In h) (G : h.Ns mainGlobals mg) (a : PySem.W.nsIn K mainGlobals x = some (some (.ref f))) (l : K.lookup f = some ⟨oc, od, .func (PySem.W.fnOf x x (C8.fnArgs st) (C8.fnBody st) (C8.fnScope st) .none kV dc pm an cd ct), sl⟩) (cc : PySem.W.codeIn K cd x = true) (k : PySem.W.keepIn K (.ref f) = true) :
    C8.Def K mg x st f (PySem.W.fnOf x x (C8.fnArgs st) (C8.fnBody st) (C8.fnScope st) .none kV dc pm an cd ct) := ⟨fun_of_top l cc, PySem.W.mg_of KX G a, k⟩
theorem defC_of_top (KX : K.In h) (G : h.Ns mainGlobals mg) (a : PySem.W.nsIn K mainGlobals x = some (some (.ref f))) (l : K.lookup f = some ⟨oc, od, .func (PySem.W.fnOf x x (C8.fnArgs st) (C8.fnBody st) (C8.fnScope st) .none kV dc pm an (.ref c) ct), sl⟩) (cc : PySem.W.codeIn K (.ref c) x = true) (k : PySem.W.keepIn K (.ref f) = true) :
    DefC K mg x st f c (PySem.W.fnOf x x (C8.fnArgs st) (C8.fnBody st) (C8.fnScope st) .none kV dc pm an (.ref c) ct) := ⟨⟨oc, od, kV, dc, pm, an, ct, sl, rfl, l, cc⟩, PySem.W.mg_of KX G a, k⟩
end
theorem tabIn_of {K : PySem.W.Frag} {x : Str} {f c Pt : Addr} {oc occ : Value} {od odc : Option Addr} {fd : FuncData} {sl slc : Array (Option Value)} {us : Array Value} (a : PySem.W.nsIn K mainGlobals x = some (some (.ref f))) (l : K.lookup f = some ⟨oc, od, .func fd, sl⟩) (e : fd.code = .ref c) (lc : K.lookup c = some ⟨occ, odc, .fields us, slc⟩) (h : us[11]? = some (.ref Pt)) : PySem.W.tabIn K x = some (c, Pt) := by
  unfold PySem.W.tabIn
  rw [a]
  show (match K.lookup f with
    | some ⟨_, _, .func fd, _⟩ => _
    | _ => none) = _
  rw [l]
  show (match fd.code with
    | .ref c => _
    | _ => none) = _
  rw [e]
  show (match K.lookup c with
    | some ⟨_, _, .fields vs, _⟩ => _
    | _ => none) = _
  rw [lc]
  show (match us[11]? with
    | some (.ref P) => some (c, P)
    | _ => none) = _
  rw [h]
theorem all27 {p : Nat → Prop} (h0 : p 0) (h1 : p 1) (h2 : p 2) (h3 : p 3) (h4 : p 4) (h5 : p 5) (h6 : p 6) (h7 : p 7) (h8 : p 8) (h9 : p 9) (h10 : p 10) (h11 : p 11) (h12 : p 12) (h13 : p 13) (h14 : p 14) (h15 : p 15) (h16 : p 16) (h17 : p 17) (h18 : p 18) (h19 : p 19) (h20 : p 20) (h21 : p 21) (h22 : p 22) (h23 : p 23) (h24 : p 24) (h25 : p 25) (h26 : p 26) : ∀ n < 27, p n := fun n hn => by
  match n, hn with
  | 0, _ => exact h0
  | 1, _ => exact h1
  | 2, _ => exact h2
  | 3, _ => exact h3
  | 4, _ => exact h4
  | 5, _ => exact h5
  | 6, _ => exact h6
  | 7, _ => exact h7
  | 8, _ => exact h8
  | 9, _ => exact h9
  | 10, _ => exact h10
  | 11, _ => exact h11
  | 12, _ => exact h12
  | 13, _ => exact h13
  | 14, _ => exact h14
  | 15, _ => exact h15
  | 16, _ => exact h16
  | 17, _ => exact h17
  | 18, _ => exact h18
  | 19, _ => exact h19
  | 20, _ => exact h20
  | 21, _ => exact h21
  | 22, _ => exact h22
  | 23, _ => exact h23
  | 24, _ => exact h24
  | 25, _ => exact h25
  | 26, _ => exact h26
  | m + 27, hm => exact absurd hm (by omega)
theorem tabs_start {T : List (Addr × Str)} {H : Hp} (h : ∀ p ∈ T, H p.1 = some (.tbl #[])) : Tabs T H := fun p hp => ⟨#[], h p hp, by simp [TriplesOk], fun pos cv hc => by simp [codeAmong] at hc⟩
end Rg

set_option Elab.async false
set_option maxRecDepth 100000
set_option maxHeartbeats 8000000
set_option linter.unusedVariables false
/-! all together -/
namespace Rg
open PySem PySem.Spec PyProof.Rows L2 Evl LamX
theorem all_mk {w : World} {p : Program} {loose : List Str} {mean : ExcName → Option Value} {K : PySem.W.Frag} {h : Heap} {mg mb : Str → Option Value} {fa : Addr} (KX : K.In h) (T : Top p loose mean mg mb h) (hfa : mg "answers" = some (.ref fa))
    {f_numbered : Addr}
    {f_how_many : Addr}
    {f_evened : Addr}
    {f_is_even : Addr}
    {f_people_by_set : Addr}
    {f_sums_by_set : Addr}
    {f_places_in : Addr}
    {f_Liking___init__ : Addr}
    {f_Standing___init__ : Addr}
    {f_has_in : Addr}
    {f_is_welcome : Addr}
    {f_is_let_go : Addr}
    {f_ways_there : Addr}
    {f_wished_by : Addr}
    {f_moves_by : Addr}
    {f_ways_anywhere : Addr}
    {f_is_at_rest : Addr}
    {f_most_among : Addr}
    {f_best_place : Addr}
    {f_step_by : Addr}
    {f_gone : Addr}
    {f_is_set : Addr}
    {f_how_they_leave : Addr}
    {f_least_leaving : Addr}
    {f_leavers_by : Addr}
    {f_leaving_at_most : Addr}
    {f_is_holding : Addr}
    {f_left_by : Addr}
    {f_is_lesser_within : Addr}
    {f_is_better_apart : Addr}
    {f_is_firm : Addr}
    {f_firm_sets : Addr}
    {f_with_one_more : Addr}
    {f_all_ways : Addr}
    {f_all_standings : Addr}
    {f_kinds_of : Addr}
    {f_count_kinds : Addr}
    {f_goodness : Addr}
    {f_best_by : Addr}
    {f_is_beaten_by : Addr}
    {f_first_beating : Addr}
    {f_wanted_by : Addr}
    {f_first_perfect : Addr}
    {f_is_envious : Addr}
    {f_envious_pairs : Addr}
    {f_Kept___init__ : Addr}
    {f_Kept_begin_anew : Addr}
    {f_Kept_is_begun : Addr}
    {f_Kept_is_person : Addr}
    {f_Kept_remember : Addr}
    {f_Kept_change_worths : Addr}
    {f_Kept_lay_groups : Addr}
    {f_Kept_move_to : Addr}
    {f_Kept_take_back : Addr}
    {f_liking_of : Addr}
    {f_standing_of : Addr}
    {f_run_from : Addr}
    {f_made_of_by_one_move : Addr}
    {f_all_come_to : Addr}
    {f_rests_somewhere : Addr}
    {f_goes_round : Addr}
    {f_as_number : Addr}
    {f_counted : Addr}
    {f_counted_pairs : Addr}
    {f_told_groups : Addr}
    {f_told_if_any : Addr}
    {f_answer_worths : Addr}
    {f_answer_moves : Addr}
    {f_answer_best : Addr}
    {f_answer_leavers : Addr}
    {f_answer_rests : Addr}
    {f_answer_holds : Addr}
    {f_answer_kinds : Addr}
    {f_answer_run : Addr}
    {f_answer_round : Addr}
    {f_answer_most : Addr}
    {f_answer_among : Addr}
    {f_answer_beaten : Addr}
    {f_answer_envies : Addr}
    {f_answer_firm : Addr}
    {f_answer_perfect : Addr}
    {f_answer_likes : Addr}
    {f_answer_groups : Addr}
    {f_answer_state : Addr}
    {f_answer_asking : Addr}
    {f_is_worth : Addr}
    {f_with_row : Addr}
    {f_answer_begin : Addr}
    {f_answer_like : Addr}
    {f_answer_row : Addr}
    {f_answer_even : Addr}
    {f_answer_be : Addr}
    {f_answer_go : Addr}
    {f_answer_leave : Addr}
    {f_answer_step : Addr}
    {f_answer_back : Addr}
    {f_answer_changing : Addr}
    {f_split_calls : Addr}
    {f_answer_call : Addr}
    {f_answers : Addr}
    {CK CL CS : Addr}
    {oc_numbered kV_numbered dc_numbered pm_numbered ct_numbered : Value} {od_numbered an_numbered : Option Addr} {sl_numbered : Array (Option Value)}
    {cd_numbered : Value}
    {oc_how_many kV_how_many dc_how_many pm_how_many ct_how_many : Value} {od_how_many an_how_many : Option Addr} {sl_how_many : Array (Option Value)}
    {cd_how_many : Value}
    {oc_evened kV_evened dc_evened pm_evened ct_evened : Value} {od_evened an_evened : Option Addr} {sl_evened : Array (Option Value)}
    {cd_evened : Value}
    {oc_is_even kV_is_even dc_is_even pm_is_even ct_is_even : Value} {od_is_even an_is_even : Option Addr} {sl_is_even : Array (Option Value)}
    {cd_is_even : Value}
    {oc_people_by_set kV_people_by_set dc_people_by_set pm_people_by_set ct_people_by_set : Value} {od_people_by_set an_people_by_set : Option Addr} {sl_people_by_set : Array (Option Value)}
    {cd_people_by_set : Value}
    {oc_sums_by_set kV_sums_by_set dc_sums_by_set pm_sums_by_set ct_sums_by_set : Value} {od_sums_by_set an_sums_by_set : Option Addr} {sl_sums_by_set : Array (Option Value)}
    {cd_sums_by_set : Value}
    {oc_places_in kV_places_in dc_places_in pm_places_in ct_places_in : Value} {od_places_in an_places_in : Option Addr} {sl_places_in : Array (Option Value)}
    {cd_places_in : Value}
    {oc_Liking___init__ kV_Liking___init__ dc_Liking___init__ pm_Liking___init__ ct_Liking___init__ : Value} {od_Liking___init__ an_Liking___init__ : Option Addr} {sl_Liking___init__ : Array (Option Value)}
    {cd_Liking___init__ : Value}
    {oc_Standing___init__ kV_Standing___init__ dc_Standing___init__ pm_Standing___init__ ct_Standing___init__ : Value} {od_Standing___init__ an_Standing___init__ : Option Addr} {sl_Standing___init__ : Array (Option Value)}
    {cd_Standing___init__ : Value}
    {oc_has_in kV_has_in dc_has_in pm_has_in ct_has_in : Value} {od_has_in an_has_in : Option Addr} {sl_has_in : Array (Option Value)}
    {cd_has_in : Value}
    {oc_is_welcome kV_is_welcome dc_is_welcome pm_is_welcome ct_is_welcome : Value} {od_is_welcome an_is_welcome : Option Addr} {sl_is_welcome : Array (Option Value)}
    {cd_is_welcome : Value}
    {oc_is_let_go kV_is_let_go dc_is_let_go pm_is_let_go ct_is_let_go : Value} {od_is_let_go an_is_let_go : Option Addr} {sl_is_let_go : Array (Option Value)}
    {cd_is_let_go : Value}
    {oc_ways_there kV_ways_there dc_ways_there pm_ways_there ct_ways_there : Value} {od_ways_there an_ways_there : Option Addr} {sl_ways_there : Array (Option Value)}
    {cd_ways_there : Value}
    {oc_wished_by kV_wished_by dc_wished_by pm_wished_by ct_wished_by : Value} {od_wished_by an_wished_by : Option Addr} {sl_wished_by : Array (Option Value)}
    {cd_wished_by : Value}
    {oc_moves_by kV_moves_by dc_moves_by pm_moves_by ct_moves_by : Value} {od_moves_by an_moves_by : Option Addr} {sl_moves_by : Array (Option Value)}
    {cd_moves_by : Value}
    {oc_ways_anywhere kV_ways_anywhere dc_ways_anywhere pm_ways_anywhere ct_ways_anywhere : Value} {od_ways_anywhere an_ways_anywhere : Option Addr} {sl_ways_anywhere : Array (Option Value)}
    {cd_ways_anywhere : Value}
    {oc_is_at_rest kV_is_at_rest dc_is_at_rest pm_is_at_rest ct_is_at_rest : Value} {od_is_at_rest an_is_at_rest : Option Addr} {sl_is_at_rest : Array (Option Value)}
    {cd_is_at_rest : Value}
    {oc_most_among kV_most_among dc_most_among pm_most_among ct_most_among : Value} {od_most_among an_most_among : Option Addr} {sl_most_among : Array (Option Value)}
    {co_most_among tb_most_among : Addr}
    {oc_best_place kV_best_place dc_best_place pm_best_place ct_best_place : Value} {od_best_place an_best_place : Option Addr} {sl_best_place : Array (Option Value)}
    {cd_best_place : Value}
    {oc_step_by kV_step_by dc_step_by pm_step_by ct_step_by : Value} {od_step_by an_step_by : Option Addr} {sl_step_by : Array (Option Value)}
    {cd_step_by : Value}
    {oc_gone kV_gone dc_gone pm_gone ct_gone : Value} {od_gone an_gone : Option Addr} {sl_gone : Array (Option Value)}
    {cd_gone : Value}
    {oc_is_set kV_is_set dc_is_set pm_is_set ct_is_set : Value} {od_is_set an_is_set : Option Addr} {sl_is_set : Array (Option Value)}
    {cd_is_set : Value}
    {oc_how_they_leave kV_how_they_leave dc_how_they_leave pm_how_they_leave ct_how_they_leave : Value} {od_how_they_leave an_how_they_leave : Option Addr} {sl_how_they_leave : Array (Option Value)}
    {cd_how_they_leave : Value}
    {oc_least_leaving kV_least_leaving dc_least_leaving pm_least_leaving ct_least_leaving : Value} {od_least_leaving an_least_leaving : Option Addr} {sl_least_leaving : Array (Option Value)}
    {cd_least_leaving : Value}
    {oc_leavers_by kV_leavers_by dc_leavers_by pm_leavers_by ct_leavers_by : Value} {od_leavers_by an_leavers_by : Option Addr} {sl_leavers_by : Array (Option Value)}
    {cd_leavers_by : Value}
    {oc_leaving_at_most kV_leaving_at_most dc_leaving_at_most pm_leaving_at_most ct_leaving_at_most : Value} {od_leaving_at_most an_leaving_at_most : Option Addr} {sl_leaving_at_most : Array (Option Value)}
    {cd_leaving_at_most : Value}
    {oc_is_holding kV_is_holding dc_is_holding pm_is_holding ct_is_holding : Value} {od_is_holding an_is_holding : Option Addr} {sl_is_holding : Array (Option Value)}
    {cd_is_holding : Value}
    {oc_left_by kV_left_by dc_left_by pm_left_by ct_left_by : Value} {od_left_by an_left_by : Option Addr} {sl_left_by : Array (Option Value)}
    {cd_left_by : Value}
    {oc_is_lesser_within kV_is_lesser_within dc_is_lesser_within pm_is_lesser_within ct_is_lesser_within : Value} {od_is_lesser_within an_is_lesser_within : Option Addr} {sl_is_lesser_within : Array (Option Value)}
    {cd_is_lesser_within : Value}
    {oc_is_better_apart kV_is_better_apart dc_is_better_apart pm_is_better_apart ct_is_better_apart : Value} {od_is_better_apart an_is_better_apart : Option Addr} {sl_is_better_apart : Array (Option Value)}
    {cd_is_better_apart : Value}
    {oc_is_firm kV_is_firm dc_is_firm pm_is_firm ct_is_firm : Value} {od_is_firm an_is_firm : Option Addr} {sl_is_firm : Array (Option Value)}
    {cd_is_firm : Value}
    {oc_firm_sets kV_firm_sets dc_firm_sets pm_firm_sets ct_firm_sets : Value} {od_firm_sets an_firm_sets : Option Addr} {sl_firm_sets : Array (Option Value)}
    {cd_firm_sets : Value}
    {oc_with_one_more kV_with_one_more dc_with_one_more pm_with_one_more ct_with_one_more : Value} {od_with_one_more an_with_one_more : Option Addr} {sl_with_one_more : Array (Option Value)}
    {cd_with_one_more : Value}
    {oc_all_ways kV_all_ways dc_all_ways pm_all_ways ct_all_ways : Value} {od_all_ways an_all_ways : Option Addr} {sl_all_ways : Array (Option Value)}
    {cd_all_ways : Value}
    {oc_all_standings kV_all_standings dc_all_standings pm_all_standings ct_all_standings : Value} {od_all_standings an_all_standings : Option Addr} {sl_all_standings : Array (Option Value)}
    {cd_all_standings : Value}
    {oc_kinds_of kV_kinds_of dc_kinds_of pm_kinds_of ct_kinds_of : Value} {od_kinds_of an_kinds_of : Option Addr} {sl_kinds_of : Array (Option Value)}
    {cd_kinds_of : Value}
    {oc_count_kinds kV_count_kinds dc_count_kinds pm_count_kinds ct_count_kinds : Value} {od_count_kinds an_count_kinds : Option Addr} {sl_count_kinds : Array (Option Value)}
    {cd_count_kinds : Value}
    {oc_goodness kV_goodness dc_goodness pm_goodness ct_goodness : Value} {od_goodness an_goodness : Option Addr} {sl_goodness : Array (Option Value)}
    {cd_goodness : Value}
    {oc_best_by kV_best_by dc_best_by pm_best_by ct_best_by : Value} {od_best_by an_best_by : Option Addr} {sl_best_by : Array (Option Value)}
    {co_best_by tb_best_by : Addr}
    {oc_is_beaten_by kV_is_beaten_by dc_is_beaten_by pm_is_beaten_by ct_is_beaten_by : Value} {od_is_beaten_by an_is_beaten_by : Option Addr} {sl_is_beaten_by : Array (Option Value)}
    {cd_is_beaten_by : Value}
    {oc_first_beating kV_first_beating dc_first_beating pm_first_beating ct_first_beating : Value} {od_first_beating an_first_beating : Option Addr} {sl_first_beating : Array (Option Value)}
    {cd_first_beating : Value}
    {oc_wanted_by kV_wanted_by dc_wanted_by pm_wanted_by ct_wanted_by : Value} {od_wanted_by an_wanted_by : Option Addr} {sl_wanted_by : Array (Option Value)}
    {cd_wanted_by : Value}
    {oc_first_perfect kV_first_perfect dc_first_perfect pm_first_perfect ct_first_perfect : Value} {od_first_perfect an_first_perfect : Option Addr} {sl_first_perfect : Array (Option Value)}
    {cd_first_perfect : Value}
    {oc_is_envious kV_is_envious dc_is_envious pm_is_envious ct_is_envious : Value} {od_is_envious an_is_envious : Option Addr} {sl_is_envious : Array (Option Value)}
    {cd_is_envious : Value}
    {oc_envious_pairs kV_envious_pairs dc_envious_pairs pm_envious_pairs ct_envious_pairs : Value} {od_envious_pairs an_envious_pairs : Option Addr} {sl_envious_pairs : Array (Option Value)}
    {cd_envious_pairs : Value}
    {oc_Kept___init__ kV_Kept___init__ dc_Kept___init__ pm_Kept___init__ ct_Kept___init__ : Value} {od_Kept___init__ an_Kept___init__ : Option Addr} {sl_Kept___init__ : Array (Option Value)}
    {cd_Kept___init__ : Value}
    {oc_Kept_begin_anew kV_Kept_begin_anew dc_Kept_begin_anew pm_Kept_begin_anew ct_Kept_begin_anew : Value} {od_Kept_begin_anew an_Kept_begin_anew : Option Addr} {sl_Kept_begin_anew : Array (Option Value)}
    {cd_Kept_begin_anew : Value}
    {oc_Kept_is_begun kV_Kept_is_begun dc_Kept_is_begun pm_Kept_is_begun ct_Kept_is_begun : Value} {od_Kept_is_begun an_Kept_is_begun : Option Addr} {sl_Kept_is_begun : Array (Option Value)}
    {cd_Kept_is_begun : Value}
    {oc_Kept_is_person kV_Kept_is_person dc_Kept_is_person pm_Kept_is_person ct_Kept_is_person : Value} {od_Kept_is_person an_Kept_is_person : Option Addr} {sl_Kept_is_person : Array (Option Value)}
    {cd_Kept_is_person : Value}
    {oc_Kept_remember kV_Kept_remember dc_Kept_remember pm_Kept_remember ct_Kept_remember : Value} {od_Kept_remember an_Kept_remember : Option Addr} {sl_Kept_remember : Array (Option Value)}
    {cd_Kept_remember : Value}
    {oc_Kept_change_worths kV_Kept_change_worths dc_Kept_change_worths pm_Kept_change_worths ct_Kept_change_worths : Value} {od_Kept_change_worths an_Kept_change_worths : Option Addr} {sl_Kept_change_worths : Array (Option Value)}
    {cd_Kept_change_worths : Value}
    {oc_Kept_lay_groups kV_Kept_lay_groups dc_Kept_lay_groups pm_Kept_lay_groups ct_Kept_lay_groups : Value} {od_Kept_lay_groups an_Kept_lay_groups : Option Addr} {sl_Kept_lay_groups : Array (Option Value)}
    {cd_Kept_lay_groups : Value}
    {oc_Kept_move_to kV_Kept_move_to dc_Kept_move_to pm_Kept_move_to ct_Kept_move_to : Value} {od_Kept_move_to an_Kept_move_to : Option Addr} {sl_Kept_move_to : Array (Option Value)}
    {cd_Kept_move_to : Value}
    {oc_Kept_take_back kV_Kept_take_back dc_Kept_take_back pm_Kept_take_back ct_Kept_take_back : Value} {od_Kept_take_back an_Kept_take_back : Option Addr} {sl_Kept_take_back : Array (Option Value)}
    {cd_Kept_take_back : Value}
    {oc_liking_of kV_liking_of dc_liking_of pm_liking_of ct_liking_of : Value} {od_liking_of an_liking_of : Option Addr} {sl_liking_of : Array (Option Value)}
    {cd_liking_of : Value}
    {oc_standing_of kV_standing_of dc_standing_of pm_standing_of ct_standing_of : Value} {od_standing_of an_standing_of : Option Addr} {sl_standing_of : Array (Option Value)}
    {cd_standing_of : Value}
    {oc_run_from kV_run_from dc_run_from pm_run_from ct_run_from : Value} {od_run_from an_run_from : Option Addr} {sl_run_from : Array (Option Value)}
    {cd_run_from : Value}
    {oc_made_of_by_one_move kV_made_of_by_one_move dc_made_of_by_one_move pm_made_of_by_one_move ct_made_of_by_one_move : Value} {od_made_of_by_one_move an_made_of_by_one_move : Option Addr} {sl_made_of_by_one_move : Array (Option Value)}
    {cd_made_of_by_one_move : Value}
    {oc_all_come_to kV_all_come_to dc_all_come_to pm_all_come_to ct_all_come_to : Value} {od_all_come_to an_all_come_to : Option Addr} {sl_all_come_to : Array (Option Value)}
    {cd_all_come_to : Value}
    {oc_rests_somewhere kV_rests_somewhere dc_rests_somewhere pm_rests_somewhere ct_rests_somewhere : Value} {od_rests_somewhere an_rests_somewhere : Option Addr} {sl_rests_somewhere : Array (Option Value)}
    {cd_rests_somewhere : Value}
    {oc_goes_round kV_goes_round dc_goes_round pm_goes_round ct_goes_round : Value} {od_goes_round an_goes_round : Option Addr} {sl_goes_round : Array (Option Value)}
    {cd_goes_round : Value}
    {oc_as_number kV_as_number dc_as_number pm_as_number ct_as_number : Value} {od_as_number an_as_number : Option Addr} {sl_as_number : Array (Option Value)}
    {cd_as_number : Value}
    {oc_counted kV_counted dc_counted pm_counted ct_counted : Value} {od_counted an_counted : Option Addr} {sl_counted : Array (Option Value)}
    {cd_counted : Value}
    {oc_counted_pairs kV_counted_pairs dc_counted_pairs pm_counted_pairs ct_counted_pairs : Value} {od_counted_pairs an_counted_pairs : Option Addr} {sl_counted_pairs : Array (Option Value)}
    {cd_counted_pairs : Value}
    {oc_told_groups kV_told_groups dc_told_groups pm_told_groups ct_told_groups : Value} {od_told_groups an_told_groups : Option Addr} {sl_told_groups : Array (Option Value)}
    {cd_told_groups : Value}
    {oc_told_if_any kV_told_if_any dc_told_if_any pm_told_if_any ct_told_if_any : Value} {od_told_if_any an_told_if_any : Option Addr} {sl_told_if_any : Array (Option Value)}
    {cd_told_if_any : Value}
    {oc_answer_worths kV_answer_worths dc_answer_worths pm_answer_worths ct_answer_worths : Value} {od_answer_worths an_answer_worths : Option Addr} {sl_answer_worths : Array (Option Value)}
    {cd_answer_worths : Value}
    {oc_answer_moves kV_answer_moves dc_answer_moves pm_answer_moves ct_answer_moves : Value} {od_answer_moves an_answer_moves : Option Addr} {sl_answer_moves : Array (Option Value)}
    {cd_answer_moves : Value}
    {oc_answer_best kV_answer_best dc_answer_best pm_answer_best ct_answer_best : Value} {od_answer_best an_answer_best : Option Addr} {sl_answer_best : Array (Option Value)}
    {cd_answer_best : Value}
    {oc_answer_leavers kV_answer_leavers dc_answer_leavers pm_answer_leavers ct_answer_leavers : Value} {od_answer_leavers an_answer_leavers : Option Addr} {sl_answer_leavers : Array (Option Value)}
    {cd_answer_leavers : Value}
    {oc_answer_rests kV_answer_rests dc_answer_rests pm_answer_rests ct_answer_rests : Value} {od_answer_rests an_answer_rests : Option Addr} {sl_answer_rests : Array (Option Value)}
    {cd_answer_rests : Value}
    {oc_answer_holds kV_answer_holds dc_answer_holds pm_answer_holds ct_answer_holds : Value} {od_answer_holds an_answer_holds : Option Addr} {sl_answer_holds : Array (Option Value)}
    {cd_answer_holds : Value}
    {oc_answer_kinds kV_answer_kinds dc_answer_kinds pm_answer_kinds ct_answer_kinds : Value} {od_answer_kinds an_answer_kinds : Option Addr} {sl_answer_kinds : Array (Option Value)}
    {cd_answer_kinds : Value}
    {oc_answer_run kV_answer_run dc_answer_run pm_answer_run ct_answer_run : Value} {od_answer_run an_answer_run : Option Addr} {sl_answer_run : Array (Option Value)}
    {cd_answer_run : Value}
    {oc_answer_round kV_answer_round dc_answer_round pm_answer_round ct_answer_round : Value} {od_answer_round an_answer_round : Option Addr} {sl_answer_round : Array (Option Value)}
    {cd_answer_round : Value}
    {oc_answer_most kV_answer_most dc_answer_most pm_answer_most ct_answer_most : Value} {od_answer_most an_answer_most : Option Addr} {sl_answer_most : Array (Option Value)}
    {cd_answer_most : Value}
    {oc_answer_among kV_answer_among dc_answer_among pm_answer_among ct_answer_among : Value} {od_answer_among an_answer_among : Option Addr} {sl_answer_among : Array (Option Value)}
    {cd_answer_among : Value}
    {oc_answer_beaten kV_answer_beaten dc_answer_beaten pm_answer_beaten ct_answer_beaten : Value} {od_answer_beaten an_answer_beaten : Option Addr} {sl_answer_beaten : Array (Option Value)}
    {cd_answer_beaten : Value}
    {oc_answer_envies kV_answer_envies dc_answer_envies pm_answer_envies ct_answer_envies : Value} {od_answer_envies an_answer_envies : Option Addr} {sl_answer_envies : Array (Option Value)}
    {cd_answer_envies : Value}
    {oc_answer_firm kV_answer_firm dc_answer_firm pm_answer_firm ct_answer_firm : Value} {od_answer_firm an_answer_firm : Option Addr} {sl_answer_firm : Array (Option Value)}
    {cd_answer_firm : Value}
    {oc_answer_perfect kV_answer_perfect dc_answer_perfect pm_answer_perfect ct_answer_perfect : Value} {od_answer_perfect an_answer_perfect : Option Addr} {sl_answer_perfect : Array (Option Value)}
    {cd_answer_perfect : Value}
    {oc_answer_likes kV_answer_likes dc_answer_likes pm_answer_likes ct_answer_likes : Value} {od_answer_likes an_answer_likes : Option Addr} {sl_answer_likes : Array (Option Value)}
    {cd_answer_likes : Value}
    {oc_answer_groups kV_answer_groups dc_answer_groups pm_answer_groups ct_answer_groups : Value} {od_answer_groups an_answer_groups : Option Addr} {sl_answer_groups : Array (Option Value)}
    {cd_answer_groups : Value}
    {oc_answer_state kV_answer_state dc_answer_state pm_answer_state ct_answer_state : Value} {od_answer_state an_answer_state : Option Addr} {sl_answer_state : Array (Option Value)}
    {cd_answer_state : Value}
    {oc_answer_asking kV_answer_asking dc_answer_asking pm_answer_asking ct_answer_asking : Value} {od_answer_asking an_answer_asking : Option Addr} {sl_answer_asking : Array (Option Value)}
    {cd_answer_asking : Value}
    {oc_is_worth kV_is_worth dc_is_worth pm_is_worth ct_is_worth : Value} {od_is_worth an_is_worth : Option Addr} {sl_is_worth : Array (Option Value)}
    {cd_is_worth : Value}
    {oc_with_row kV_with_row dc_with_row pm_with_row ct_with_row : Value} {od_with_row an_with_row : Option Addr} {sl_with_row : Array (Option Value)}
    {cd_with_row : Value}
    {oc_answer_begin kV_answer_begin dc_answer_begin pm_answer_begin ct_answer_begin : Value} {od_answer_begin an_answer_begin : Option Addr} {sl_answer_begin : Array (Option Value)}
    {cd_answer_begin : Value}
    {oc_answer_like kV_answer_like dc_answer_like pm_answer_like ct_answer_like : Value} {od_answer_like an_answer_like : Option Addr} {sl_answer_like : Array (Option Value)}
    {cd_answer_like : Value}
    {oc_answer_row kV_answer_row dc_answer_row pm_answer_row ct_answer_row : Value} {od_answer_row an_answer_row : Option Addr} {sl_answer_row : Array (Option Value)}
    {cd_answer_row : Value}
    {oc_answer_even kV_answer_even dc_answer_even pm_answer_even ct_answer_even : Value} {od_answer_even an_answer_even : Option Addr} {sl_answer_even : Array (Option Value)}
    {cd_answer_even : Value}
    {oc_answer_be kV_answer_be dc_answer_be pm_answer_be ct_answer_be : Value} {od_answer_be an_answer_be : Option Addr} {sl_answer_be : Array (Option Value)}
    {cd_answer_be : Value}
    {oc_answer_go kV_answer_go dc_answer_go pm_answer_go ct_answer_go : Value} {od_answer_go an_answer_go : Option Addr} {sl_answer_go : Array (Option Value)}
    {cd_answer_go : Value}
    {oc_answer_leave kV_answer_leave dc_answer_leave pm_answer_leave ct_answer_leave : Value} {od_answer_leave an_answer_leave : Option Addr} {sl_answer_leave : Array (Option Value)}
    {cd_answer_leave : Value}
    {oc_answer_step kV_answer_step dc_answer_step pm_answer_step ct_answer_step : Value} {od_answer_step an_answer_step : Option Addr} {sl_answer_step : Array (Option Value)}
    {cd_answer_step : Value}
    {oc_answer_back kV_answer_back dc_answer_back pm_answer_back ct_answer_back : Value} {od_answer_back an_answer_back : Option Addr} {sl_answer_back : Array (Option Value)}
    {cd_answer_back : Value}
    {oc_answer_changing kV_answer_changing dc_answer_changing pm_answer_changing ct_answer_changing : Value} {od_answer_changing an_answer_changing : Option Addr} {sl_answer_changing : Array (Option Value)}
    {cd_answer_changing : Value}
    {oc_split_calls kV_split_calls dc_split_calls pm_split_calls ct_split_calls : Value} {od_split_calls an_split_calls : Option Addr} {sl_split_calls : Array (Option Value)}
    {cd_split_calls : Value}
    {oc_answer_call kV_answer_call dc_answer_call pm_answer_call ct_answer_call : Value} {od_answer_call an_answer_call : Option Addr} {sl_answer_call : Array (Option Value)}
    {cd_answer_call : Value}
    {oc_answers kV_answers dc_answers pm_answers ct_answers : Value} {od_answers an_answers : Option Addr} {sl_answers : Array (Option Value)}
    {cd_answers : Value}
    {t_EVERY_WAY : Tok}
    {t_NOT_AT_ALL : Tok}
    {t_WEAKLY : Tok}
    {t_WHOLLY : Tok}
    {t_KINDS_OF_REST : Tok}
    {t_MOST_TAKEN_BACK : Tok}
    {t_NOT_BEGUN : Tok}
    {t_NOT_THERE : Tok}
    {t_WRONG : Tok}
    {t_OWN_GROUP : Tok}
    {t_NOTHING_TO_DO : Tok}
    {t_NONE_SUCH : Tok}
    {t_MOST_PEOPLE : Tok}
    {t_MOST_WORTH : Tok}
    {t_LAST_WAY : Tok}
    {t_LAST_LEAVING : Tok}
    {t_LAST_BEST : Tok}
    {t_LAST_KIND : Tok}
    {t_BEGIN : Tok}
    {t_ROW : Tok}
    {t_BE : Tok}
    {t_FIRST_ASKING : Tok}
    {A_ASKERS : Addr} {oD_ASKERS : Option Addr} {its_ASKERS : Array Value} {nn_ASKERS : Nat} {sL_ASKERS : Array (Option Value)}
    {A_CHANGERS : Addr} {oD_CHANGERS : Option Addr} {its_CHANGERS : Array Value} {nn_CHANGERS : Nat} {sL_CHANGERS : Array (Option Value)}
    {A_PLAIN_NUMBERS : Addr} {oD_PLAIN_NUMBERS : Option Addr} {its_PLAIN_NUMBERS : Array Value} {nn_PLAIN_NUMBERS : Nat} {sL_PLAIN_NUMBERS : Array (Option Value)}
    {oX_most_among : Value} {oY_most_among : Option Addr} {us_most_among : Array Value} {oZ_most_among : Array (Option Value)}
    {oX_best_by : Value} {oY_best_by : Option Addr} {us_best_by : Array Value} {oZ_best_by : Array (Option Value)}
    (aCK : PySem.W.nsIn K mainGlobals "Kept" = some (some (.ref CK)))
    (aCL : PySem.W.nsIn K mainGlobals "Liking" = some (some (.ref CL)))
    (aCS : PySem.W.nsIn K mainGlobals "Standing" = some (some (.ref CS)))
    (a_numbered : PySem.W.nsIn K mainGlobals "numbered" = some (some (.ref f_numbered)))
    (l_numbered : K.lookup f_numbered = some ⟨oc_numbered, od_numbered, .func (PySem.W.fnOf "numbered" "numbered" (C8.fnArgs s_numbered) (C8.fnBody s_numbered) (C8.fnScope s_numbered) .none kV_numbered dc_numbered pm_numbered an_numbered cd_numbered ct_numbered), sl_numbered⟩)
    (c_numbered : PySem.W.codeIn K cd_numbered "numbered" = true)
    (k_numbered : PySem.W.keepIn K (.ref f_numbered) = true)
    (a_how_many : PySem.W.nsIn K mainGlobals "how_many" = some (some (.ref f_how_many)))
    (l_how_many : K.lookup f_how_many = some ⟨oc_how_many, od_how_many, .func (PySem.W.fnOf "how_many" "how_many" (C8.fnArgs s_how_many) (C8.fnBody s_how_many) (C8.fnScope s_how_many) .none kV_how_many dc_how_many pm_how_many an_how_many cd_how_many ct_how_many), sl_how_many⟩)
    (c_how_many : PySem.W.codeIn K cd_how_many "how_many" = true)
    (k_how_many : PySem.W.keepIn K (.ref f_how_many) = true)
    (a_evened : PySem.W.nsIn K mainGlobals "evened" = some (some (.ref f_evened)))
    (l_evened : K.lookup f_evened = some ⟨oc_evened, od_evened, .func (PySem.W.fnOf "evened" "evened" (C8.fnArgs s_evened) (C8.fnBody s_evened) (C8.fnScope s_evened) .none kV_evened dc_evened pm_evened an_evened cd_evened ct_evened), sl_evened⟩)
    (c_evened : PySem.W.codeIn K cd_evened "evened" = true)
    (k_evened : PySem.W.keepIn K (.ref f_evened) = true)
    (a_is_even : PySem.W.nsIn K mainGlobals "is_even" = some (some (.ref f_is_even)))
    (l_is_even : K.lookup f_is_even = some ⟨oc_is_even, od_is_even, .func (PySem.W.fnOf "is_even" "is_even" (C8.fnArgs s_is_even) (C8.fnBody s_is_even) (C8.fnScope s_is_even) .none kV_is_even dc_is_even pm_is_even an_is_even cd_is_even ct_is_even), sl_is_even⟩)
    (c_is_even : PySem.W.codeIn K cd_is_even "is_even" = true)
    (k_is_even : PySem.W.keepIn K (.ref f_is_even) = true)
    (a_people_by_set : PySem.W.nsIn K mainGlobals "people_by_set" = some (some (.ref f_people_by_set)))
    (l_people_by_set : K.lookup f_people_by_set = some ⟨oc_people_by_set, od_people_by_set, .func (PySem.W.fnOf "people_by_set" "people_by_set" (C8.fnArgs s_people_by_set) (C8.fnBody s_people_by_set) (C8.fnScope s_people_by_set) .none kV_people_by_set dc_people_by_set pm_people_by_set an_people_by_set cd_people_by_set ct_people_by_set), sl_people_by_set⟩)
    (c_people_by_set : PySem.W.codeIn K cd_people_by_set "people_by_set" = true)
    (k_people_by_set : PySem.W.keepIn K (.ref f_people_by_set) = true)
    (a_sums_by_set : PySem.W.nsIn K mainGlobals "sums_by_set" = some (some (.ref f_sums_by_set)))
    (l_sums_by_set : K.lookup f_sums_by_set = some ⟨oc_sums_by_set, od_sums_by_set, .func (PySem.W.fnOf "sums_by_set" "sums_by_set" (C8.fnArgs s_sums_by_set) (C8.fnBody s_sums_by_set) (C8.fnScope s_sums_by_set) .none kV_sums_by_set dc_sums_by_set pm_sums_by_set an_sums_by_set cd_sums_by_set ct_sums_by_set), sl_sums_by_set⟩)
    (c_sums_by_set : PySem.W.codeIn K cd_sums_by_set "sums_by_set" = true)
    (k_sums_by_set : PySem.W.keepIn K (.ref f_sums_by_set) = true)
    (a_places_in : PySem.W.nsIn K mainGlobals "places_in" = some (some (.ref f_places_in)))
    (l_places_in : K.lookup f_places_in = some ⟨oc_places_in, od_places_in, .func (PySem.W.fnOf "places_in" "places_in" (C8.fnArgs s_places_in) (C8.fnBody s_places_in) (C8.fnScope s_places_in) .none kV_places_in dc_places_in pm_places_in an_places_in cd_places_in ct_places_in), sl_places_in⟩)
    (c_places_in : PySem.W.codeIn K cd_places_in "places_in" = true)
    (k_places_in : PySem.W.keepIn K (.ref f_places_in) = true)
    (a_Liking___init__ : PySem.W.findIn K (.ref CL) "__init__" = some (some (.ref f_Liking___init__)))
    (i_Liking___init__ : PySem.W.isFn K (.ref f_Liking___init__) = true)
    (l_Liking___init__ : K.lookup f_Liking___init__ = some ⟨oc_Liking___init__, od_Liking___init__, .func (PySem.W.fnOf "__init__" "Liking.__init__" (C8.fnArgs s_Liking___init__) (C8.fnBody s_Liking___init__) (C8.fnScope s_Liking___init__) .none kV_Liking___init__ dc_Liking___init__ pm_Liking___init__ an_Liking___init__ cd_Liking___init__ ct_Liking___init__), sl_Liking___init__⟩)
    (c_Liking___init__ : PySem.W.codeIn K cd_Liking___init__ "Liking.__init__" = true)
    (k_Liking___init__ : PySem.W.keepIn K (.ref f_Liking___init__) = true)
    (a_Standing___init__ : PySem.W.findIn K (.ref CS) "__init__" = some (some (.ref f_Standing___init__)))
    (i_Standing___init__ : PySem.W.isFn K (.ref f_Standing___init__) = true)
    (l_Standing___init__ : K.lookup f_Standing___init__ = some ⟨oc_Standing___init__, od_Standing___init__, .func (PySem.W.fnOf "__init__" "Standing.__init__" (C8.fnArgs s_Standing___init__) (C8.fnBody s_Standing___init__) (C8.fnScope s_Standing___init__) .none kV_Standing___init__ dc_Standing___init__ pm_Standing___init__ an_Standing___init__ cd_Standing___init__ ct_Standing___init__), sl_Standing___init__⟩)
    (c_Standing___init__ : PySem.W.codeIn K cd_Standing___init__ "Standing.__init__" = true)
    (k_Standing___init__ : PySem.W.keepIn K (.ref f_Standing___init__) = true)
    (a_has_in : PySem.W.nsIn K mainGlobals "has_in" = some (some (.ref f_has_in)))
    (l_has_in : K.lookup f_has_in = some ⟨oc_has_in, od_has_in, .func (PySem.W.fnOf "has_in" "has_in" (C8.fnArgs s_has_in) (C8.fnBody s_has_in) (C8.fnScope s_has_in) .none kV_has_in dc_has_in pm_has_in an_has_in cd_has_in ct_has_in), sl_has_in⟩)
    (c_has_in : PySem.W.codeIn K cd_has_in "has_in" = true)
    (k_has_in : PySem.W.keepIn K (.ref f_has_in) = true)
    (a_is_welcome : PySem.W.nsIn K mainGlobals "is_welcome" = some (some (.ref f_is_welcome)))
    (l_is_welcome : K.lookup f_is_welcome = some ⟨oc_is_welcome, od_is_welcome, .func (PySem.W.fnOf "is_welcome" "is_welcome" (C8.fnArgs s_is_welcome) (C8.fnBody s_is_welcome) (C8.fnScope s_is_welcome) .none kV_is_welcome dc_is_welcome pm_is_welcome an_is_welcome cd_is_welcome ct_is_welcome), sl_is_welcome⟩)
    (c_is_welcome : PySem.W.codeIn K cd_is_welcome "is_welcome" = true)
    (k_is_welcome : PySem.W.keepIn K (.ref f_is_welcome) = true)
    (a_is_let_go : PySem.W.nsIn K mainGlobals "is_let_go" = some (some (.ref f_is_let_go)))
    (l_is_let_go : K.lookup f_is_let_go = some ⟨oc_is_let_go, od_is_let_go, .func (PySem.W.fnOf "is_let_go" "is_let_go" (C8.fnArgs s_is_let_go) (C8.fnBody s_is_let_go) (C8.fnScope s_is_let_go) .none kV_is_let_go dc_is_let_go pm_is_let_go an_is_let_go cd_is_let_go ct_is_let_go), sl_is_let_go⟩)
    (c_is_let_go : PySem.W.codeIn K cd_is_let_go "is_let_go" = true)
    (k_is_let_go : PySem.W.keepIn K (.ref f_is_let_go) = true)
    (a_ways_there : PySem.W.nsIn K mainGlobals "ways_there" = some (some (.ref f_ways_there)))
    (l_ways_there : K.lookup f_ways_there = some ⟨oc_ways_there, od_ways_there, .func (PySem.W.fnOf "ways_there" "ways_there" (C8.fnArgs s_ways_there) (C8.fnBody s_ways_there) (C8.fnScope s_ways_there) .none kV_ways_there dc_ways_there pm_ways_there an_ways_there cd_ways_there ct_ways_there), sl_ways_there⟩)
    (c_ways_there : PySem.W.codeIn K cd_ways_there "ways_there" = true)
    (k_ways_there : PySem.W.keepIn K (.ref f_ways_there) = true)
    (a_wished_by : PySem.W.nsIn K mainGlobals "wished_by" = some (some (.ref f_wished_by)))
    (l_wished_by : K.lookup f_wished_by = some ⟨oc_wished_by, od_wished_by, .func (PySem.W.fnOf "wished_by" "wished_by" (C8.fnArgs s_wished_by) (C8.fnBody s_wished_by) (C8.fnScope s_wished_by) .none kV_wished_by dc_wished_by pm_wished_by an_wished_by cd_wished_by ct_wished_by), sl_wished_by⟩)
    (c_wished_by : PySem.W.codeIn K cd_wished_by "wished_by" = true)
    (k_wished_by : PySem.W.keepIn K (.ref f_wished_by) = true)
    (a_moves_by : PySem.W.nsIn K mainGlobals "moves_by" = some (some (.ref f_moves_by)))
    (l_moves_by : K.lookup f_moves_by = some ⟨oc_moves_by, od_moves_by, .func (PySem.W.fnOf "moves_by" "moves_by" (C8.fnArgs s_moves_by) (C8.fnBody s_moves_by) (C8.fnScope s_moves_by) .none kV_moves_by dc_moves_by pm_moves_by an_moves_by cd_moves_by ct_moves_by), sl_moves_by⟩)
    (c_moves_by : PySem.W.codeIn K cd_moves_by "moves_by" = true)
    (k_moves_by : PySem.W.keepIn K (.ref f_moves_by) = true)
    (a_ways_anywhere : PySem.W.nsIn K mainGlobals "ways_anywhere" = some (some (.ref f_ways_anywhere)))
    (l_ways_anywhere : K.lookup f_ways_anywhere = some ⟨oc_ways_anywhere, od_ways_anywhere, .func (PySem.W.fnOf "ways_anywhere" "ways_anywhere" (C8.fnArgs s_ways_anywhere) (C8.fnBody s_ways_anywhere) (C8.fnScope s_ways_anywhere) .none kV_ways_anywhere dc_ways_anywhere pm_ways_anywhere an_ways_anywhere cd_ways_anywhere ct_ways_anywhere), sl_ways_anywhere⟩)
    (c_ways_anywhere : PySem.W.codeIn K cd_ways_anywhere "ways_anywhere" = true)
    (k_ways_anywhere : PySem.W.keepIn K (.ref f_ways_anywhere) = true)
    (a_is_at_rest : PySem.W.nsIn K mainGlobals "is_at_rest" = some (some (.ref f_is_at_rest)))
    (l_is_at_rest : K.lookup f_is_at_rest = some ⟨oc_is_at_rest, od_is_at_rest, .func (PySem.W.fnOf "is_at_rest" "is_at_rest" (C8.fnArgs s_is_at_rest) (C8.fnBody s_is_at_rest) (C8.fnScope s_is_at_rest) .none kV_is_at_rest dc_is_at_rest pm_is_at_rest an_is_at_rest cd_is_at_rest ct_is_at_rest), sl_is_at_rest⟩)
    (c_is_at_rest : PySem.W.codeIn K cd_is_at_rest "is_at_rest" = true)
    (k_is_at_rest : PySem.W.keepIn K (.ref f_is_at_rest) = true)
    (a_most_among : PySem.W.nsIn K mainGlobals "most_among" = some (some (.ref f_most_among)))
    (l_most_among : K.lookup f_most_among = some ⟨oc_most_among, od_most_among, .func (PySem.W.fnOf "most_among" "most_among" (C8.fnArgs s_most_among) (C8.fnBody s_most_among) (C8.fnScope s_most_among) .none kV_most_among dc_most_among pm_most_among an_most_among (.ref co_most_among) ct_most_among), sl_most_among⟩)
    (c_most_among : PySem.W.codeIn K (.ref co_most_among) "most_among" = true)
    (k_most_among : PySem.W.keepIn K (.ref f_most_among) = true)
    (a_best_place : PySem.W.nsIn K mainGlobals "best_place" = some (some (.ref f_best_place)))
    (l_best_place : K.lookup f_best_place = some ⟨oc_best_place, od_best_place, .func (PySem.W.fnOf "best_place" "best_place" (C8.fnArgs s_best_place) (C8.fnBody s_best_place) (C8.fnScope s_best_place) .none kV_best_place dc_best_place pm_best_place an_best_place cd_best_place ct_best_place), sl_best_place⟩)
    (c_best_place : PySem.W.codeIn K cd_best_place "best_place" = true)
    (k_best_place : PySem.W.keepIn K (.ref f_best_place) = true)
    (a_step_by : PySem.W.nsIn K mainGlobals "step_by" = some (some (.ref f_step_by)))
    (l_step_by : K.lookup f_step_by = some ⟨oc_step_by, od_step_by, .func (PySem.W.fnOf "step_by" "step_by" (C8.fnArgs s_step_by) (C8.fnBody s_step_by) (C8.fnScope s_step_by) .none kV_step_by dc_step_by pm_step_by an_step_by cd_step_by ct_step_by), sl_step_by⟩)
    (c_step_by : PySem.W.codeIn K cd_step_by "step_by" = true)
    (k_step_by : PySem.W.keepIn K (.ref f_step_by) = true)
    (a_gone : PySem.W.nsIn K mainGlobals "gone" = some (some (.ref f_gone)))
    (l_gone : K.lookup f_gone = some ⟨oc_gone, od_gone, .func (PySem.W.fnOf "gone" "gone" (C8.fnArgs s_gone) (C8.fnBody s_gone) (C8.fnScope s_gone) .none kV_gone dc_gone pm_gone an_gone cd_gone ct_gone), sl_gone⟩)
    (c_gone : PySem.W.codeIn K cd_gone "gone" = true)
    (k_gone : PySem.W.keepIn K (.ref f_gone) = true)
    (a_is_set : PySem.W.nsIn K mainGlobals "is_set" = some (some (.ref f_is_set)))
    (l_is_set : K.lookup f_is_set = some ⟨oc_is_set, od_is_set, .func (PySem.W.fnOf "is_set" "is_set" (C8.fnArgs s_is_set) (C8.fnBody s_is_set) (C8.fnScope s_is_set) .none kV_is_set dc_is_set pm_is_set an_is_set cd_is_set ct_is_set), sl_is_set⟩)
    (c_is_set : PySem.W.codeIn K cd_is_set "is_set" = true)
    (k_is_set : PySem.W.keepIn K (.ref f_is_set) = true)
    (a_how_they_leave : PySem.W.nsIn K mainGlobals "how_they_leave" = some (some (.ref f_how_they_leave)))
    (l_how_they_leave : K.lookup f_how_they_leave = some ⟨oc_how_they_leave, od_how_they_leave, .func (PySem.W.fnOf "how_they_leave" "how_they_leave" (C8.fnArgs s_how_they_leave) (C8.fnBody s_how_they_leave) (C8.fnScope s_how_they_leave) .none kV_how_they_leave dc_how_they_leave pm_how_they_leave an_how_they_leave cd_how_they_leave ct_how_they_leave), sl_how_they_leave⟩)
    (c_how_they_leave : PySem.W.codeIn K cd_how_they_leave "how_they_leave" = true)
    (k_how_they_leave : PySem.W.keepIn K (.ref f_how_they_leave) = true)
    (a_least_leaving : PySem.W.nsIn K mainGlobals "least_leaving" = some (some (.ref f_least_leaving)))
    (l_least_leaving : K.lookup f_least_leaving = some ⟨oc_least_leaving, od_least_leaving, .func (PySem.W.fnOf "least_leaving" "least_leaving" (C8.fnArgs s_least_leaving) (C8.fnBody s_least_leaving) (C8.fnScope s_least_leaving) .none kV_least_leaving dc_least_leaving pm_least_leaving an_least_leaving cd_least_leaving ct_least_leaving), sl_least_leaving⟩)
    (c_least_leaving : PySem.W.codeIn K cd_least_leaving "least_leaving" = true)
    (k_least_leaving : PySem.W.keepIn K (.ref f_least_leaving) = true)
    (a_leavers_by : PySem.W.nsIn K mainGlobals "leavers_by" = some (some (.ref f_leavers_by)))
    (l_leavers_by : K.lookup f_leavers_by = some ⟨oc_leavers_by, od_leavers_by, .func (PySem.W.fnOf "leavers_by" "leavers_by" (C8.fnArgs s_leavers_by) (C8.fnBody s_leavers_by) (C8.fnScope s_leavers_by) .none kV_leavers_by dc_leavers_by pm_leavers_by an_leavers_by cd_leavers_by ct_leavers_by), sl_leavers_by⟩)
    (c_leavers_by : PySem.W.codeIn K cd_leavers_by "leavers_by" = true)
    (k_leavers_by : PySem.W.keepIn K (.ref f_leavers_by) = true)
    (a_leaving_at_most : PySem.W.nsIn K mainGlobals "leaving_at_most" = some (some (.ref f_leaving_at_most)))
    (l_leaving_at_most : K.lookup f_leaving_at_most = some ⟨oc_leaving_at_most, od_leaving_at_most, .func (PySem.W.fnOf "leaving_at_most" "leaving_at_most" (C8.fnArgs s_leaving_at_most) (C8.fnBody s_leaving_at_most) (C8.fnScope s_leaving_at_most) .none kV_leaving_at_most dc_leaving_at_most pm_leaving_at_most an_leaving_at_most cd_leaving_at_most ct_leaving_at_most), sl_leaving_at_most⟩)
    (c_leaving_at_most : PySem.W.codeIn K cd_leaving_at_most "leaving_at_most" = true)
    (k_leaving_at_most : PySem.W.keepIn K (.ref f_leaving_at_most) = true)
    (a_is_holding : PySem.W.nsIn K mainGlobals "is_holding" = some (some (.ref f_is_holding)))
    (l_is_holding : K.lookup f_is_holding = some ⟨oc_is_holding, od_is_holding, .func (PySem.W.fnOf "is_holding" "is_holding" (C8.fnArgs s_is_holding) (C8.fnBody s_is_holding) (C8.fnScope s_is_holding) .none kV_is_holding dc_is_holding pm_is_holding an_is_holding cd_is_holding ct_is_holding), sl_is_holding⟩)
    (c_is_holding : PySem.W.codeIn K cd_is_holding "is_holding" = true)
    (k_is_holding : PySem.W.keepIn K (.ref f_is_holding) = true)
    (a_left_by : PySem.W.nsIn K mainGlobals "left_by" = some (some (.ref f_left_by)))
    (l_left_by : K.lookup f_left_by = some ⟨oc_left_by, od_left_by, .func (PySem.W.fnOf "left_by" "left_by" (C8.fnArgs s_left_by) (C8.fnBody s_left_by) (C8.fnScope s_left_by) .none kV_left_by dc_left_by pm_left_by an_left_by cd_left_by ct_left_by), sl_left_by⟩)
    (c_left_by : PySem.W.codeIn K cd_left_by "left_by" = true)
    (k_left_by : PySem.W.keepIn K (.ref f_left_by) = true)
    (a_is_lesser_within : PySem.W.nsIn K mainGlobals "is_lesser_within" = some (some (.ref f_is_lesser_within)))
    (l_is_lesser_within : K.lookup f_is_lesser_within = some ⟨oc_is_lesser_within, od_is_lesser_within, .func (PySem.W.fnOf "is_lesser_within" "is_lesser_within" (C8.fnArgs s_is_lesser_within) (C8.fnBody s_is_lesser_within) (C8.fnScope s_is_lesser_within) .none kV_is_lesser_within dc_is_lesser_within pm_is_lesser_within an_is_lesser_within cd_is_lesser_within ct_is_lesser_within), sl_is_lesser_within⟩)
    (c_is_lesser_within : PySem.W.codeIn K cd_is_lesser_within "is_lesser_within" = true)
    (k_is_lesser_within : PySem.W.keepIn K (.ref f_is_lesser_within) = true)
    (a_is_better_apart : PySem.W.nsIn K mainGlobals "is_better_apart" = some (some (.ref f_is_better_apart)))
    (l_is_better_apart : K.lookup f_is_better_apart = some ⟨oc_is_better_apart, od_is_better_apart, .func (PySem.W.fnOf "is_better_apart" "is_better_apart" (C8.fnArgs s_is_better_apart) (C8.fnBody s_is_better_apart) (C8.fnScope s_is_better_apart) .none kV_is_better_apart dc_is_better_apart pm_is_better_apart an_is_better_apart cd_is_better_apart ct_is_better_apart), sl_is_better_apart⟩)
    (c_is_better_apart : PySem.W.codeIn K cd_is_better_apart "is_better_apart" = true)
    (k_is_better_apart : PySem.W.keepIn K (.ref f_is_better_apart) = true)
    (a_is_firm : PySem.W.nsIn K mainGlobals "is_firm" = some (some (.ref f_is_firm)))
    (l_is_firm : K.lookup f_is_firm = some ⟨oc_is_firm, od_is_firm, .func (PySem.W.fnOf "is_firm" "is_firm" (C8.fnArgs s_is_firm) (C8.fnBody s_is_firm) (C8.fnScope s_is_firm) .none kV_is_firm dc_is_firm pm_is_firm an_is_firm cd_is_firm ct_is_firm), sl_is_firm⟩)
    (c_is_firm : PySem.W.codeIn K cd_is_firm "is_firm" = true)
    (k_is_firm : PySem.W.keepIn K (.ref f_is_firm) = true)
    (a_firm_sets : PySem.W.nsIn K mainGlobals "firm_sets" = some (some (.ref f_firm_sets)))
    (l_firm_sets : K.lookup f_firm_sets = some ⟨oc_firm_sets, od_firm_sets, .func (PySem.W.fnOf "firm_sets" "firm_sets" (C8.fnArgs s_firm_sets) (C8.fnBody s_firm_sets) (C8.fnScope s_firm_sets) .none kV_firm_sets dc_firm_sets pm_firm_sets an_firm_sets cd_firm_sets ct_firm_sets), sl_firm_sets⟩)
    (c_firm_sets : PySem.W.codeIn K cd_firm_sets "firm_sets" = true)
    (k_firm_sets : PySem.W.keepIn K (.ref f_firm_sets) = true)
    (a_with_one_more : PySem.W.nsIn K mainGlobals "with_one_more" = some (some (.ref f_with_one_more)))
    (l_with_one_more : K.lookup f_with_one_more = some ⟨oc_with_one_more, od_with_one_more, .func (PySem.W.fnOf "with_one_more" "with_one_more" (C8.fnArgs s_with_one_more) (C8.fnBody s_with_one_more) (C8.fnScope s_with_one_more) .none kV_with_one_more dc_with_one_more pm_with_one_more an_with_one_more cd_with_one_more ct_with_one_more), sl_with_one_more⟩)
    (c_with_one_more : PySem.W.codeIn K cd_with_one_more "with_one_more" = true)
    (k_with_one_more : PySem.W.keepIn K (.ref f_with_one_more) = true)
    (a_all_ways : PySem.W.nsIn K mainGlobals "all_ways" = some (some (.ref f_all_ways)))
    (l_all_ways : K.lookup f_all_ways = some ⟨oc_all_ways, od_all_ways, .func (PySem.W.fnOf "all_ways" "all_ways" (C8.fnArgs s_all_ways) (C8.fnBody s_all_ways) (C8.fnScope s_all_ways) .none kV_all_ways dc_all_ways pm_all_ways an_all_ways cd_all_ways ct_all_ways), sl_all_ways⟩)
    (c_all_ways : PySem.W.codeIn K cd_all_ways "all_ways" = true)
    (k_all_ways : PySem.W.keepIn K (.ref f_all_ways) = true)
    (a_all_standings : PySem.W.nsIn K mainGlobals "all_standings" = some (some (.ref f_all_standings)))
    (l_all_standings : K.lookup f_all_standings = some ⟨oc_all_standings, od_all_standings, .func (PySem.W.fnOf "all_standings" "all_standings" (C8.fnArgs s_all_standings) (C8.fnBody s_all_standings) (C8.fnScope s_all_standings) .none kV_all_standings dc_all_standings pm_all_standings an_all_standings cd_all_standings ct_all_standings), sl_all_standings⟩)
    (c_all_standings : PySem.W.codeIn K cd_all_standings "all_standings" = true)
    (k_all_standings : PySem.W.keepIn K (.ref f_all_standings) = true)
    (a_kinds_of : PySem.W.nsIn K mainGlobals "kinds_of" = some (some (.ref f_kinds_of)))
    (l_kinds_of : K.lookup f_kinds_of = some ⟨oc_kinds_of, od_kinds_of, .func (PySem.W.fnOf "kinds_of" "kinds_of" (C8.fnArgs s_kinds_of) (C8.fnBody s_kinds_of) (C8.fnScope s_kinds_of) .none kV_kinds_of dc_kinds_of pm_kinds_of an_kinds_of cd_kinds_of ct_kinds_of), sl_kinds_of⟩)
    (c_kinds_of : PySem.W.codeIn K cd_kinds_of "kinds_of" = true)
    (k_kinds_of : PySem.W.keepIn K (.ref f_kinds_of) = true)
    (a_count_kinds : PySem.W.nsIn K mainGlobals "count_kinds" = some (some (.ref f_count_kinds)))
    (l_count_kinds : K.lookup f_count_kinds = some ⟨oc_count_kinds, od_count_kinds, .func (PySem.W.fnOf "count_kinds" "count_kinds" (C8.fnArgs s_count_kinds) (C8.fnBody s_count_kinds) (C8.fnScope s_count_kinds) .none kV_count_kinds dc_count_kinds pm_count_kinds an_count_kinds cd_count_kinds ct_count_kinds), sl_count_kinds⟩)
    (c_count_kinds : PySem.W.codeIn K cd_count_kinds "count_kinds" = true)
    (k_count_kinds : PySem.W.keepIn K (.ref f_count_kinds) = true)
    (a_goodness : PySem.W.nsIn K mainGlobals "goodness" = some (some (.ref f_goodness)))
    (l_goodness : K.lookup f_goodness = some ⟨oc_goodness, od_goodness, .func (PySem.W.fnOf "goodness" "goodness" (C8.fnArgs s_goodness) (C8.fnBody s_goodness) (C8.fnScope s_goodness) .none kV_goodness dc_goodness pm_goodness an_goodness cd_goodness ct_goodness), sl_goodness⟩)
    (c_goodness : PySem.W.codeIn K cd_goodness "goodness" = true)
    (k_goodness : PySem.W.keepIn K (.ref f_goodness) = true)
    (a_best_by : PySem.W.nsIn K mainGlobals "best_by" = some (some (.ref f_best_by)))
    (l_best_by : K.lookup f_best_by = some ⟨oc_best_by, od_best_by, .func (PySem.W.fnOf "best_by" "best_by" (C8.fnArgs s_best_by) (C8.fnBody s_best_by) (C8.fnScope s_best_by) .none kV_best_by dc_best_by pm_best_by an_best_by (.ref co_best_by) ct_best_by), sl_best_by⟩)
    (c_best_by : PySem.W.codeIn K (.ref co_best_by) "best_by" = true)
    (k_best_by : PySem.W.keepIn K (.ref f_best_by) = true)
    (a_is_beaten_by : PySem.W.nsIn K mainGlobals "is_beaten_by" = some (some (.ref f_is_beaten_by)))
    (l_is_beaten_by : K.lookup f_is_beaten_by = some ⟨oc_is_beaten_by, od_is_beaten_by, .func (PySem.W.fnOf "is_beaten_by" "is_beaten_by" (C8.fnArgs s_is_beaten_by) (C8.fnBody s_is_beaten_by) (C8.fnScope s_is_beaten_by) .none kV_is_beaten_by dc_is_beaten_by pm_is_beaten_by an_is_beaten_by cd_is_beaten_by ct_is_beaten_by), sl_is_beaten_by⟩)
    (c_is_beaten_by : PySem.W.codeIn K cd_is_beaten_by "is_beaten_by" = true)
    (k_is_beaten_by : PySem.W.keepIn K (.ref f_is_beaten_by) = true)
    (a_first_beating : PySem.W.nsIn K mainGlobals "first_beating" = some (some (.ref f_first_beating)))
    (l_first_beating : K.lookup f_first_beating = some ⟨oc_first_beating, od_first_beating, .func (PySem.W.fnOf "first_beating" "first_beating" (C8.fnArgs s_first_beating) (C8.fnBody s_first_beating) (C8.fnScope s_first_beating) .none kV_first_beating dc_first_beating pm_first_beating an_first_beating cd_first_beating ct_first_beating), sl_first_beating⟩)
    (c_first_beating : PySem.W.codeIn K cd_first_beating "first_beating" = true)
    (k_first_beating : PySem.W.keepIn K (.ref f_first_beating) = true)
    (a_wanted_by : PySem.W.nsIn K mainGlobals "wanted_by" = some (some (.ref f_wanted_by)))
    (l_wanted_by : K.lookup f_wanted_by = some ⟨oc_wanted_by, od_wanted_by, .func (PySem.W.fnOf "wanted_by" "wanted_by" (C8.fnArgs s_wanted_by) (C8.fnBody s_wanted_by) (C8.fnScope s_wanted_by) .none kV_wanted_by dc_wanted_by pm_wanted_by an_wanted_by cd_wanted_by ct_wanted_by), sl_wanted_by⟩)
    (c_wanted_by : PySem.W.codeIn K cd_wanted_by "wanted_by" = true)
    (k_wanted_by : PySem.W.keepIn K (.ref f_wanted_by) = true)
    (a_first_perfect : PySem.W.nsIn K mainGlobals "first_perfect" = some (some (.ref f_first_perfect)))
    (l_first_perfect : K.lookup f_first_perfect = some ⟨oc_first_perfect, od_first_perfect, .func (PySem.W.fnOf "first_perfect" "first_perfect" (C8.fnArgs s_first_perfect) (C8.fnBody s_first_perfect) (C8.fnScope s_first_perfect) .none kV_first_perfect dc_first_perfect pm_first_perfect an_first_perfect cd_first_perfect ct_first_perfect), sl_first_perfect⟩)
    (c_first_perfect : PySem.W.codeIn K cd_first_perfect "first_perfect" = true)
    (k_first_perfect : PySem.W.keepIn K (.ref f_first_perfect) = true)
    (a_is_envious : PySem.W.nsIn K mainGlobals "is_envious" = some (some (.ref f_is_envious)))
    (l_is_envious : K.lookup f_is_envious = some ⟨oc_is_envious, od_is_envious, .func (PySem.W.fnOf "is_envious" "is_envious" (C8.fnArgs s_is_envious) (C8.fnBody s_is_envious) (C8.fnScope s_is_envious) .none kV_is_envious dc_is_envious pm_is_envious an_is_envious cd_is_envious ct_is_envious), sl_is_envious⟩)
    (c_is_envious : PySem.W.codeIn K cd_is_envious "is_envious" = true)
    (k_is_envious : PySem.W.keepIn K (.ref f_is_envious) = true)
    (a_envious_pairs : PySem.W.nsIn K mainGlobals "envious_pairs" = some (some (.ref f_envious_pairs)))
    (l_envious_pairs : K.lookup f_envious_pairs = some ⟨oc_envious_pairs, od_envious_pairs, .func (PySem.W.fnOf "envious_pairs" "envious_pairs" (C8.fnArgs s_envious_pairs) (C8.fnBody s_envious_pairs) (C8.fnScope s_envious_pairs) .none kV_envious_pairs dc_envious_pairs pm_envious_pairs an_envious_pairs cd_envious_pairs ct_envious_pairs), sl_envious_pairs⟩)
    (c_envious_pairs : PySem.W.codeIn K cd_envious_pairs "envious_pairs" = true)
    (k_envious_pairs : PySem.W.keepIn K (.ref f_envious_pairs) = true)
    (a_Kept___init__ : PySem.W.findIn K (.ref CK) "__init__" = some (some (.ref f_Kept___init__)))
    (i_Kept___init__ : PySem.W.isFn K (.ref f_Kept___init__) = true)
    (l_Kept___init__ : K.lookup f_Kept___init__ = some ⟨oc_Kept___init__, od_Kept___init__, .func (PySem.W.fnOf "__init__" "Kept.__init__" (C8.fnArgs s_Kept___init__) (C8.fnBody s_Kept___init__) (C8.fnScope s_Kept___init__) .none kV_Kept___init__ dc_Kept___init__ pm_Kept___init__ an_Kept___init__ cd_Kept___init__ ct_Kept___init__), sl_Kept___init__⟩)
    (c_Kept___init__ : PySem.W.codeIn K cd_Kept___init__ "Kept.__init__" = true)
    (k_Kept___init__ : PySem.W.keepIn K (.ref f_Kept___init__) = true)
    (a_Kept_begin_anew : PySem.W.findIn K (.ref CK) "begin_anew" = some (some (.ref f_Kept_begin_anew)))
    (i_Kept_begin_anew : PySem.W.isFn K (.ref f_Kept_begin_anew) = true)
    (l_Kept_begin_anew : K.lookup f_Kept_begin_anew = some ⟨oc_Kept_begin_anew, od_Kept_begin_anew, .func (PySem.W.fnOf "begin_anew" "Kept.begin_anew" (C8.fnArgs s_Kept_begin_anew) (C8.fnBody s_Kept_begin_anew) (C8.fnScope s_Kept_begin_anew) .none kV_Kept_begin_anew dc_Kept_begin_anew pm_Kept_begin_anew an_Kept_begin_anew cd_Kept_begin_anew ct_Kept_begin_anew), sl_Kept_begin_anew⟩)
    (c_Kept_begin_anew : PySem.W.codeIn K cd_Kept_begin_anew "Kept.begin_anew" = true)
    (k_Kept_begin_anew : PySem.W.keepIn K (.ref f_Kept_begin_anew) = true)
    (a_Kept_is_begun : PySem.W.findIn K (.ref CK) "is_begun" = some (some (.ref f_Kept_is_begun)))
    (i_Kept_is_begun : PySem.W.isFn K (.ref f_Kept_is_begun) = true)
    (l_Kept_is_begun : K.lookup f_Kept_is_begun = some ⟨oc_Kept_is_begun, od_Kept_is_begun, .func (PySem.W.fnOf "is_begun" "Kept.is_begun" (C8.fnArgs s_Kept_is_begun) (C8.fnBody s_Kept_is_begun) (C8.fnScope s_Kept_is_begun) .none kV_Kept_is_begun dc_Kept_is_begun pm_Kept_is_begun an_Kept_is_begun cd_Kept_is_begun ct_Kept_is_begun), sl_Kept_is_begun⟩)
    (c_Kept_is_begun : PySem.W.codeIn K cd_Kept_is_begun "Kept.is_begun" = true)
    (k_Kept_is_begun : PySem.W.keepIn K (.ref f_Kept_is_begun) = true)
    (a_Kept_is_person : PySem.W.findIn K (.ref CK) "is_person" = some (some (.ref f_Kept_is_person)))
    (i_Kept_is_person : PySem.W.isFn K (.ref f_Kept_is_person) = true)
    (l_Kept_is_person : K.lookup f_Kept_is_person = some ⟨oc_Kept_is_person, od_Kept_is_person, .func (PySem.W.fnOf "is_person" "Kept.is_person" (C8.fnArgs s_Kept_is_person) (C8.fnBody s_Kept_is_person) (C8.fnScope s_Kept_is_person) .none kV_Kept_is_person dc_Kept_is_person pm_Kept_is_person an_Kept_is_person cd_Kept_is_person ct_Kept_is_person), sl_Kept_is_person⟩)
    (c_Kept_is_person : PySem.W.codeIn K cd_Kept_is_person "Kept.is_person" = true)
    (k_Kept_is_person : PySem.W.keepIn K (.ref f_Kept_is_person) = true)
    (a_Kept_remember : PySem.W.findIn K (.ref CK) "remember" = some (some (.ref f_Kept_remember)))
    (i_Kept_remember : PySem.W.isFn K (.ref f_Kept_remember) = true)
    (l_Kept_remember : K.lookup f_Kept_remember = some ⟨oc_Kept_remember, od_Kept_remember, .func (PySem.W.fnOf "remember" "Kept.remember" (C8.fnArgs s_Kept_remember) (C8.fnBody s_Kept_remember) (C8.fnScope s_Kept_remember) .none kV_Kept_remember dc_Kept_remember pm_Kept_remember an_Kept_remember cd_Kept_remember ct_Kept_remember), sl_Kept_remember⟩)
    (c_Kept_remember : PySem.W.codeIn K cd_Kept_remember "Kept.remember" = true)
    (k_Kept_remember : PySem.W.keepIn K (.ref f_Kept_remember) = true)
    (a_Kept_change_worths : PySem.W.findIn K (.ref CK) "change_worths" = some (some (.ref f_Kept_change_worths)))
    (i_Kept_change_worths : PySem.W.isFn K (.ref f_Kept_change_worths) = true)
    (l_Kept_change_worths : K.lookup f_Kept_change_worths = some ⟨oc_Kept_change_worths, od_Kept_change_worths, .func (PySem.W.fnOf "change_worths" "Kept.change_worths" (C8.fnArgs s_Kept_change_worths) (C8.fnBody s_Kept_change_worths) (C8.fnScope s_Kept_change_worths) .none kV_Kept_change_worths dc_Kept_change_worths pm_Kept_change_worths an_Kept_change_worths cd_Kept_change_worths ct_Kept_change_worths), sl_Kept_change_worths⟩)
    (c_Kept_change_worths : PySem.W.codeIn K cd_Kept_change_worths "Kept.change_worths" = true)
    (k_Kept_change_worths : PySem.W.keepIn K (.ref f_Kept_change_worths) = true)
    (a_Kept_lay_groups : PySem.W.findIn K (.ref CK) "lay_groups" = some (some (.ref f_Kept_lay_groups)))
    (i_Kept_lay_groups : PySem.W.isFn K (.ref f_Kept_lay_groups) = true)
    (l_Kept_lay_groups : K.lookup f_Kept_lay_groups = some ⟨oc_Kept_lay_groups, od_Kept_lay_groups, .func (PySem.W.fnOf "lay_groups" "Kept.lay_groups" (C8.fnArgs s_Kept_lay_groups) (C8.fnBody s_Kept_lay_groups) (C8.fnScope s_Kept_lay_groups) .none kV_Kept_lay_groups dc_Kept_lay_groups pm_Kept_lay_groups an_Kept_lay_groups cd_Kept_lay_groups ct_Kept_lay_groups), sl_Kept_lay_groups⟩)
    (c_Kept_lay_groups : PySem.W.codeIn K cd_Kept_lay_groups "Kept.lay_groups" = true)
    (k_Kept_lay_groups : PySem.W.keepIn K (.ref f_Kept_lay_groups) = true)
    (a_Kept_move_to : PySem.W.findIn K (.ref CK) "move_to" = some (some (.ref f_Kept_move_to)))
    (i_Kept_move_to : PySem.W.isFn K (.ref f_Kept_move_to) = true)
    (l_Kept_move_to : K.lookup f_Kept_move_to = some ⟨oc_Kept_move_to, od_Kept_move_to, .func (PySem.W.fnOf "move_to" "Kept.move_to" (C8.fnArgs s_Kept_move_to) (C8.fnBody s_Kept_move_to) (C8.fnScope s_Kept_move_to) .none kV_Kept_move_to dc_Kept_move_to pm_Kept_move_to an_Kept_move_to cd_Kept_move_to ct_Kept_move_to), sl_Kept_move_to⟩)
    (c_Kept_move_to : PySem.W.codeIn K cd_Kept_move_to "Kept.move_to" = true)
    (k_Kept_move_to : PySem.W.keepIn K (.ref f_Kept_move_to) = true)
    (a_Kept_take_back : PySem.W.findIn K (.ref CK) "take_back" = some (some (.ref f_Kept_take_back)))
    (i_Kept_take_back : PySem.W.isFn K (.ref f_Kept_take_back) = true)
    (l_Kept_take_back : K.lookup f_Kept_take_back = some ⟨oc_Kept_take_back, od_Kept_take_back, .func (PySem.W.fnOf "take_back" "Kept.take_back" (C8.fnArgs s_Kept_take_back) (C8.fnBody s_Kept_take_back) (C8.fnScope s_Kept_take_back) .none kV_Kept_take_back dc_Kept_take_back pm_Kept_take_back an_Kept_take_back cd_Kept_take_back ct_Kept_take_back), sl_Kept_take_back⟩)
    (c_Kept_take_back : PySem.W.codeIn K cd_Kept_take_back "Kept.take_back" = true)
    (k_Kept_take_back : PySem.W.keepIn K (.ref f_Kept_take_back) = true)
    (a_liking_of : PySem.W.nsIn K mainGlobals "liking_of" = some (some (.ref f_liking_of)))
    (l_liking_of : K.lookup f_liking_of = some ⟨oc_liking_of, od_liking_of, .func (PySem.W.fnOf "liking_of" "liking_of" (C8.fnArgs s_liking_of) (C8.fnBody s_liking_of) (C8.fnScope s_liking_of) .none kV_liking_of dc_liking_of pm_liking_of an_liking_of cd_liking_of ct_liking_of), sl_liking_of⟩)
    (c_liking_of : PySem.W.codeIn K cd_liking_of "liking_of" = true)
    (k_liking_of : PySem.W.keepIn K (.ref f_liking_of) = true)
    (a_standing_of : PySem.W.nsIn K mainGlobals "standing_of" = some (some (.ref f_standing_of)))
    (l_standing_of : K.lookup f_standing_of = some ⟨oc_standing_of, od_standing_of, .func (PySem.W.fnOf "standing_of" "standing_of" (C8.fnArgs s_standing_of) (C8.fnBody s_standing_of) (C8.fnScope s_standing_of) .none kV_standing_of dc_standing_of pm_standing_of an_standing_of cd_standing_of ct_standing_of), sl_standing_of⟩)
    (c_standing_of : PySem.W.codeIn K cd_standing_of "standing_of" = true)
    (k_standing_of : PySem.W.keepIn K (.ref f_standing_of) = true)
    (a_run_from : PySem.W.nsIn K mainGlobals "run_from" = some (some (.ref f_run_from)))
    (l_run_from : K.lookup f_run_from = some ⟨oc_run_from, od_run_from, .func (PySem.W.fnOf "run_from" "run_from" (C8.fnArgs s_run_from) (C8.fnBody s_run_from) (C8.fnScope s_run_from) .none kV_run_from dc_run_from pm_run_from an_run_from cd_run_from ct_run_from), sl_run_from⟩)
    (c_run_from : PySem.W.codeIn K cd_run_from "run_from" = true)
    (k_run_from : PySem.W.keepIn K (.ref f_run_from) = true)
    (a_made_of_by_one_move : PySem.W.nsIn K mainGlobals "made_of_by_one_move" = some (some (.ref f_made_of_by_one_move)))
    (l_made_of_by_one_move : K.lookup f_made_of_by_one_move = some ⟨oc_made_of_by_one_move, od_made_of_by_one_move, .func (PySem.W.fnOf "made_of_by_one_move" "made_of_by_one_move" (C8.fnArgs s_made_of_by_one_move) (C8.fnBody s_made_of_by_one_move) (C8.fnScope s_made_of_by_one_move) .none kV_made_of_by_one_move dc_made_of_by_one_move pm_made_of_by_one_move an_made_of_by_one_move cd_made_of_by_one_move ct_made_of_by_one_move), sl_made_of_by_one_move⟩)
    (c_made_of_by_one_move : PySem.W.codeIn K cd_made_of_by_one_move "made_of_by_one_move" = true)
    (k_made_of_by_one_move : PySem.W.keepIn K (.ref f_made_of_by_one_move) = true)
    (a_all_come_to : PySem.W.nsIn K mainGlobals "all_come_to" = some (some (.ref f_all_come_to)))
    (l_all_come_to : K.lookup f_all_come_to = some ⟨oc_all_come_to, od_all_come_to, .func (PySem.W.fnOf "all_come_to" "all_come_to" (C8.fnArgs s_all_come_to) (C8.fnBody s_all_come_to) (C8.fnScope s_all_come_to) .none kV_all_come_to dc_all_come_to pm_all_come_to an_all_come_to cd_all_come_to ct_all_come_to), sl_all_come_to⟩)
    (c_all_come_to : PySem.W.codeIn K cd_all_come_to "all_come_to" = true)
    (k_all_come_to : PySem.W.keepIn K (.ref f_all_come_to) = true)
    (a_rests_somewhere : PySem.W.nsIn K mainGlobals "rests_somewhere" = some (some (.ref f_rests_somewhere)))
    (l_rests_somewhere : K.lookup f_rests_somewhere = some ⟨oc_rests_somewhere, od_rests_somewhere, .func (PySem.W.fnOf "rests_somewhere" "rests_somewhere" (C8.fnArgs s_rests_somewhere) (C8.fnBody s_rests_somewhere) (C8.fnScope s_rests_somewhere) .none kV_rests_somewhere dc_rests_somewhere pm_rests_somewhere an_rests_somewhere cd_rests_somewhere ct_rests_somewhere), sl_rests_somewhere⟩)
    (c_rests_somewhere : PySem.W.codeIn K cd_rests_somewhere "rests_somewhere" = true)
    (k_rests_somewhere : PySem.W.keepIn K (.ref f_rests_somewhere) = true)
    (a_goes_round : PySem.W.nsIn K mainGlobals "goes_round" = some (some (.ref f_goes_round)))
    (l_goes_round : K.lookup f_goes_round = some ⟨oc_goes_round, od_goes_round, .func (PySem.W.fnOf "goes_round" "goes_round" (C8.fnArgs s_goes_round) (C8.fnBody s_goes_round) (C8.fnScope s_goes_round) .none kV_goes_round dc_goes_round pm_goes_round an_goes_round cd_goes_round ct_goes_round), sl_goes_round⟩)
    (c_goes_round : PySem.W.codeIn K cd_goes_round "goes_round" = true)
    (k_goes_round : PySem.W.keepIn K (.ref f_goes_round) = true)
    (a_as_number : PySem.W.nsIn K mainGlobals "as_number" = some (some (.ref f_as_number)))
    (l_as_number : K.lookup f_as_number = some ⟨oc_as_number, od_as_number, .func (PySem.W.fnOf "as_number" "as_number" (C8.fnArgs s_as_number) (C8.fnBody s_as_number) (C8.fnScope s_as_number) .none kV_as_number dc_as_number pm_as_number an_as_number cd_as_number ct_as_number), sl_as_number⟩)
    (c_as_number : PySem.W.codeIn K cd_as_number "as_number" = true)
    (k_as_number : PySem.W.keepIn K (.ref f_as_number) = true)
    (a_counted : PySem.W.nsIn K mainGlobals "counted" = some (some (.ref f_counted)))
    (l_counted : K.lookup f_counted = some ⟨oc_counted, od_counted, .func (PySem.W.fnOf "counted" "counted" (C8.fnArgs s_counted) (C8.fnBody s_counted) (C8.fnScope s_counted) .none kV_counted dc_counted pm_counted an_counted cd_counted ct_counted), sl_counted⟩)
    (c_counted : PySem.W.codeIn K cd_counted "counted" = true)
    (k_counted : PySem.W.keepIn K (.ref f_counted) = true)
    (a_counted_pairs : PySem.W.nsIn K mainGlobals "counted_pairs" = some (some (.ref f_counted_pairs)))
    (l_counted_pairs : K.lookup f_counted_pairs = some ⟨oc_counted_pairs, od_counted_pairs, .func (PySem.W.fnOf "counted_pairs" "counted_pairs" (C8.fnArgs s_counted_pairs) (C8.fnBody s_counted_pairs) (C8.fnScope s_counted_pairs) .none kV_counted_pairs dc_counted_pairs pm_counted_pairs an_counted_pairs cd_counted_pairs ct_counted_pairs), sl_counted_pairs⟩)
    (c_counted_pairs : PySem.W.codeIn K cd_counted_pairs "counted_pairs" = true)
    (k_counted_pairs : PySem.W.keepIn K (.ref f_counted_pairs) = true)
    (a_told_groups : PySem.W.nsIn K mainGlobals "told_groups" = some (some (.ref f_told_groups)))
    (l_told_groups : K.lookup f_told_groups = some ⟨oc_told_groups, od_told_groups, .func (PySem.W.fnOf "told_groups" "told_groups" (C8.fnArgs s_told_groups) (C8.fnBody s_told_groups) (C8.fnScope s_told_groups) .none kV_told_groups dc_told_groups pm_told_groups an_told_groups cd_told_groups ct_told_groups), sl_told_groups⟩)
    (c_told_groups : PySem.W.codeIn K cd_told_groups "told_groups" = true)
    (k_told_groups : PySem.W.keepIn K (.ref f_told_groups) = true)
    (a_told_if_any : PySem.W.nsIn K mainGlobals "told_if_any" = some (some (.ref f_told_if_any)))
    (l_told_if_any : K.lookup f_told_if_any = some ⟨oc_told_if_any, od_told_if_any, .func (PySem.W.fnOf "told_if_any" "told_if_any" (C8.fnArgs s_told_if_any) (C8.fnBody s_told_if_any) (C8.fnScope s_told_if_any) .none kV_told_if_any dc_told_if_any pm_told_if_any an_told_if_any cd_told_if_any ct_told_if_any), sl_told_if_any⟩)
    (c_told_if_any : PySem.W.codeIn K cd_told_if_any "told_if_any" = true)
    (k_told_if_any : PySem.W.keepIn K (.ref f_told_if_any) = true)
    (a_answer_worths : PySem.W.nsIn K mainGlobals "answer_worths" = some (some (.ref f_answer_worths)))
    (l_answer_worths : K.lookup f_answer_worths = some ⟨oc_answer_worths, od_answer_worths, .func (PySem.W.fnOf "answer_worths" "answer_worths" (C8.fnArgs s_answer_worths) (C8.fnBody s_answer_worths) (C8.fnScope s_answer_worths) .none kV_answer_worths dc_answer_worths pm_answer_worths an_answer_worths cd_answer_worths ct_answer_worths), sl_answer_worths⟩)
    (c_answer_worths : PySem.W.codeIn K cd_answer_worths "answer_worths" = true)
    (k_answer_worths : PySem.W.keepIn K (.ref f_answer_worths) = true)
    (a_answer_moves : PySem.W.nsIn K mainGlobals "answer_moves" = some (some (.ref f_answer_moves)))
    (l_answer_moves : K.lookup f_answer_moves = some ⟨oc_answer_moves, od_answer_moves, .func (PySem.W.fnOf "answer_moves" "answer_moves" (C8.fnArgs s_answer_moves) (C8.fnBody s_answer_moves) (C8.fnScope s_answer_moves) .none kV_answer_moves dc_answer_moves pm_answer_moves an_answer_moves cd_answer_moves ct_answer_moves), sl_answer_moves⟩)
    (c_answer_moves : PySem.W.codeIn K cd_answer_moves "answer_moves" = true)
    (k_answer_moves : PySem.W.keepIn K (.ref f_answer_moves) = true)
    (a_answer_best : PySem.W.nsIn K mainGlobals "answer_best" = some (some (.ref f_answer_best)))
    (l_answer_best : K.lookup f_answer_best = some ⟨oc_answer_best, od_answer_best, .func (PySem.W.fnOf "answer_best" "answer_best" (C8.fnArgs s_answer_best) (C8.fnBody s_answer_best) (C8.fnScope s_answer_best) .none kV_answer_best dc_answer_best pm_answer_best an_answer_best cd_answer_best ct_answer_best), sl_answer_best⟩)
    (c_answer_best : PySem.W.codeIn K cd_answer_best "answer_best" = true)
    (k_answer_best : PySem.W.keepIn K (.ref f_answer_best) = true)
    (a_answer_leavers : PySem.W.nsIn K mainGlobals "answer_leavers" = some (some (.ref f_answer_leavers)))
    (l_answer_leavers : K.lookup f_answer_leavers = some ⟨oc_answer_leavers, od_answer_leavers, .func (PySem.W.fnOf "answer_leavers" "answer_leavers" (C8.fnArgs s_answer_leavers) (C8.fnBody s_answer_leavers) (C8.fnScope s_answer_leavers) .none kV_answer_leavers dc_answer_leavers pm_answer_leavers an_answer_leavers cd_answer_leavers ct_answer_leavers), sl_answer_leavers⟩)
    (c_answer_leavers : PySem.W.codeIn K cd_answer_leavers "answer_leavers" = true)
    (k_answer_leavers : PySem.W.keepIn K (.ref f_answer_leavers) = true)
    (a_answer_rests : PySem.W.nsIn K mainGlobals "answer_rests" = some (some (.ref f_answer_rests)))
    (l_answer_rests : K.lookup f_answer_rests = some ⟨oc_answer_rests, od_answer_rests, .func (PySem.W.fnOf "answer_rests" "answer_rests" (C8.fnArgs s_answer_rests) (C8.fnBody s_answer_rests) (C8.fnScope s_answer_rests) .none kV_answer_rests dc_answer_rests pm_answer_rests an_answer_rests cd_answer_rests ct_answer_rests), sl_answer_rests⟩)
    (c_answer_rests : PySem.W.codeIn K cd_answer_rests "answer_rests" = true)
    (k_answer_rests : PySem.W.keepIn K (.ref f_answer_rests) = true)
    (a_answer_holds : PySem.W.nsIn K mainGlobals "answer_holds" = some (some (.ref f_answer_holds)))
    (l_answer_holds : K.lookup f_answer_holds = some ⟨oc_answer_holds, od_answer_holds, .func (PySem.W.fnOf "answer_holds" "answer_holds" (C8.fnArgs s_answer_holds) (C8.fnBody s_answer_holds) (C8.fnScope s_answer_holds) .none kV_answer_holds dc_answer_holds pm_answer_holds an_answer_holds cd_answer_holds ct_answer_holds), sl_answer_holds⟩)
    (c_answer_holds : PySem.W.codeIn K cd_answer_holds "answer_holds" = true)
    (k_answer_holds : PySem.W.keepIn K (.ref f_answer_holds) = true)
    (a_answer_kinds : PySem.W.nsIn K mainGlobals "answer_kinds" = some (some (.ref f_answer_kinds)))
    (l_answer_kinds : K.lookup f_answer_kinds = some ⟨oc_answer_kinds, od_answer_kinds, .func (PySem.W.fnOf "answer_kinds" "answer_kinds" (C8.fnArgs s_answer_kinds) (C8.fnBody s_answer_kinds) (C8.fnScope s_answer_kinds) .none kV_answer_kinds dc_answer_kinds pm_answer_kinds an_answer_kinds cd_answer_kinds ct_answer_kinds), sl_answer_kinds⟩)
    (c_answer_kinds : PySem.W.codeIn K cd_answer_kinds "answer_kinds" = true)
    (k_answer_kinds : PySem.W.keepIn K (.ref f_answer_kinds) = true)
    (a_answer_run : PySem.W.nsIn K mainGlobals "answer_run" = some (some (.ref f_answer_run)))
    (l_answer_run : K.lookup f_answer_run = some ⟨oc_answer_run, od_answer_run, .func (PySem.W.fnOf "answer_run" "answer_run" (C8.fnArgs s_answer_run) (C8.fnBody s_answer_run) (C8.fnScope s_answer_run) .none kV_answer_run dc_answer_run pm_answer_run an_answer_run cd_answer_run ct_answer_run), sl_answer_run⟩)
    (c_answer_run : PySem.W.codeIn K cd_answer_run "answer_run" = true)
    (k_answer_run : PySem.W.keepIn K (.ref f_answer_run) = true)
    (a_answer_round : PySem.W.nsIn K mainGlobals "answer_round" = some (some (.ref f_answer_round)))
    (l_answer_round : K.lookup f_answer_round = some ⟨oc_answer_round, od_answer_round, .func (PySem.W.fnOf "answer_round" "answer_round" (C8.fnArgs s_answer_round) (C8.fnBody s_answer_round) (C8.fnScope s_answer_round) .none kV_answer_round dc_answer_round pm_answer_round an_answer_round cd_answer_round ct_answer_round), sl_answer_round⟩)
    (c_answer_round : PySem.W.codeIn K cd_answer_round "answer_round" = true)
    (k_answer_round : PySem.W.keepIn K (.ref f_answer_round) = true)
    (a_answer_most : PySem.W.nsIn K mainGlobals "answer_most" = some (some (.ref f_answer_most)))
    (l_answer_most : K.lookup f_answer_most = some ⟨oc_answer_most, od_answer_most, .func (PySem.W.fnOf "answer_most" "answer_most" (C8.fnArgs s_answer_most) (C8.fnBody s_answer_most) (C8.fnScope s_answer_most) .none kV_answer_most dc_answer_most pm_answer_most an_answer_most cd_answer_most ct_answer_most), sl_answer_most⟩)
    (c_answer_most : PySem.W.codeIn K cd_answer_most "answer_most" = true)
    (k_answer_most : PySem.W.keepIn K (.ref f_answer_most) = true)
    (a_answer_among : PySem.W.nsIn K mainGlobals "answer_among" = some (some (.ref f_answer_among)))
    (l_answer_among : K.lookup f_answer_among = some ⟨oc_answer_among, od_answer_among, .func (PySem.W.fnOf "answer_among" "answer_among" (C8.fnArgs s_answer_among) (C8.fnBody s_answer_among) (C8.fnScope s_answer_among) .none kV_answer_among dc_answer_among pm_answer_among an_answer_among cd_answer_among ct_answer_among), sl_answer_among⟩)
    (c_answer_among : PySem.W.codeIn K cd_answer_among "answer_among" = true)
    (k_answer_among : PySem.W.keepIn K (.ref f_answer_among) = true)
    (a_answer_beaten : PySem.W.nsIn K mainGlobals "answer_beaten" = some (some (.ref f_answer_beaten)))
    (l_answer_beaten : K.lookup f_answer_beaten = some ⟨oc_answer_beaten, od_answer_beaten, .func (PySem.W.fnOf "answer_beaten" "answer_beaten" (C8.fnArgs s_answer_beaten) (C8.fnBody s_answer_beaten) (C8.fnScope s_answer_beaten) .none kV_answer_beaten dc_answer_beaten pm_answer_beaten an_answer_beaten cd_answer_beaten ct_answer_beaten), sl_answer_beaten⟩)
    (c_answer_beaten : PySem.W.codeIn K cd_answer_beaten "answer_beaten" = true)
    (k_answer_beaten : PySem.W.keepIn K (.ref f_answer_beaten) = true)
    (a_answer_envies : PySem.W.nsIn K mainGlobals "answer_envies" = some (some (.ref f_answer_envies)))
    (l_answer_envies : K.lookup f_answer_envies = some ⟨oc_answer_envies, od_answer_envies, .func (PySem.W.fnOf "answer_envies" "answer_envies" (C8.fnArgs s_answer_envies) (C8.fnBody s_answer_envies) (C8.fnScope s_answer_envies) .none kV_answer_envies dc_answer_envies pm_answer_envies an_answer_envies cd_answer_envies ct_answer_envies), sl_answer_envies⟩)
    (c_answer_envies : PySem.W.codeIn K cd_answer_envies "answer_envies" = true)
    (k_answer_envies : PySem.W.keepIn K (.ref f_answer_envies) = true)
    (a_answer_firm : PySem.W.nsIn K mainGlobals "answer_firm" = some (some (.ref f_answer_firm)))
    (l_answer_firm : K.lookup f_answer_firm = some ⟨oc_answer_firm, od_answer_firm, .func (PySem.W.fnOf "answer_firm" "answer_firm" (C8.fnArgs s_answer_firm) (C8.fnBody s_answer_firm) (C8.fnScope s_answer_firm) .none kV_answer_firm dc_answer_firm pm_answer_firm an_answer_firm cd_answer_firm ct_answer_firm), sl_answer_firm⟩)
    (c_answer_firm : PySem.W.codeIn K cd_answer_firm "answer_firm" = true)
    (k_answer_firm : PySem.W.keepIn K (.ref f_answer_firm) = true)
    (a_answer_perfect : PySem.W.nsIn K mainGlobals "answer_perfect" = some (some (.ref f_answer_perfect)))
    (l_answer_perfect : K.lookup f_answer_perfect = some ⟨oc_answer_perfect, od_answer_perfect, .func (PySem.W.fnOf "answer_perfect" "answer_perfect" (C8.fnArgs s_answer_perfect) (C8.fnBody s_answer_perfect) (C8.fnScope s_answer_perfect) .none kV_answer_perfect dc_answer_perfect pm_answer_perfect an_answer_perfect cd_answer_perfect ct_answer_perfect), sl_answer_perfect⟩)
    (c_answer_perfect : PySem.W.codeIn K cd_answer_perfect "answer_perfect" = true)
    (k_answer_perfect : PySem.W.keepIn K (.ref f_answer_perfect) = true)
    (a_answer_likes : PySem.W.nsIn K mainGlobals "answer_likes" = some (some (.ref f_answer_likes)))
    (l_answer_likes : K.lookup f_answer_likes = some ⟨oc_answer_likes, od_answer_likes, .func (PySem.W.fnOf "answer_likes" "answer_likes" (C8.fnArgs s_answer_likes) (C8.fnBody s_answer_likes) (C8.fnScope s_answer_likes) .none kV_answer_likes dc_answer_likes pm_answer_likes an_answer_likes cd_answer_likes ct_answer_likes), sl_answer_likes⟩)
    (c_answer_likes : PySem.W.codeIn K cd_answer_likes "answer_likes" = true)
    (k_answer_likes : PySem.W.keepIn K (.ref f_answer_likes) = true)
    (a_answer_groups : PySem.W.nsIn K mainGlobals "answer_groups" = some (some (.ref f_answer_groups)))
    (l_answer_groups : K.lookup f_answer_groups = some ⟨oc_answer_groups, od_answer_groups, .func (PySem.W.fnOf "answer_groups" "answer_groups" (C8.fnArgs s_answer_groups) (C8.fnBody s_answer_groups) (C8.fnScope s_answer_groups) .none kV_answer_groups dc_answer_groups pm_answer_groups an_answer_groups cd_answer_groups ct_answer_groups), sl_answer_groups⟩)
    (c_answer_groups : PySem.W.codeIn K cd_answer_groups "answer_groups" = true)
    (k_answer_groups : PySem.W.keepIn K (.ref f_answer_groups) = true)
    (a_answer_state : PySem.W.nsIn K mainGlobals "answer_state" = some (some (.ref f_answer_state)))
    (l_answer_state : K.lookup f_answer_state = some ⟨oc_answer_state, od_answer_state, .func (PySem.W.fnOf "answer_state" "answer_state" (C8.fnArgs s_answer_state) (C8.fnBody s_answer_state) (C8.fnScope s_answer_state) .none kV_answer_state dc_answer_state pm_answer_state an_answer_state cd_answer_state ct_answer_state), sl_answer_state⟩)
    (c_answer_state : PySem.W.codeIn K cd_answer_state "answer_state" = true)
    (k_answer_state : PySem.W.keepIn K (.ref f_answer_state) = true)
    (a_answer_asking : PySem.W.nsIn K mainGlobals "answer_asking" = some (some (.ref f_answer_asking)))
    (l_answer_asking : K.lookup f_answer_asking = some ⟨oc_answer_asking, od_answer_asking, .func (PySem.W.fnOf "answer_asking" "answer_asking" (C8.fnArgs s_answer_asking) (C8.fnBody s_answer_asking) (C8.fnScope s_answer_asking) .none kV_answer_asking dc_answer_asking pm_answer_asking an_answer_asking cd_answer_asking ct_answer_asking), sl_answer_asking⟩)
    (c_answer_asking : PySem.W.codeIn K cd_answer_asking "answer_asking" = true)
    (k_answer_asking : PySem.W.keepIn K (.ref f_answer_asking) = true)
    (a_is_worth : PySem.W.nsIn K mainGlobals "is_worth" = some (some (.ref f_is_worth)))
    (l_is_worth : K.lookup f_is_worth = some ⟨oc_is_worth, od_is_worth, .func (PySem.W.fnOf "is_worth" "is_worth" (C8.fnArgs s_is_worth) (C8.fnBody s_is_worth) (C8.fnScope s_is_worth) .none kV_is_worth dc_is_worth pm_is_worth an_is_worth cd_is_worth ct_is_worth), sl_is_worth⟩)
    (c_is_worth : PySem.W.codeIn K cd_is_worth "is_worth" = true)
    (k_is_worth : PySem.W.keepIn K (.ref f_is_worth) = true)
    (a_with_row : PySem.W.nsIn K mainGlobals "with_row" = some (some (.ref f_with_row)))
    (l_with_row : K.lookup f_with_row = some ⟨oc_with_row, od_with_row, .func (PySem.W.fnOf "with_row" "with_row" (C8.fnArgs s_with_row) (C8.fnBody s_with_row) (C8.fnScope s_with_row) .none kV_with_row dc_with_row pm_with_row an_with_row cd_with_row ct_with_row), sl_with_row⟩)
    (c_with_row : PySem.W.codeIn K cd_with_row "with_row" = true)
    (k_with_row : PySem.W.keepIn K (.ref f_with_row) = true)
    (a_answer_begin : PySem.W.nsIn K mainGlobals "answer_begin" = some (some (.ref f_answer_begin)))
    (l_answer_begin : K.lookup f_answer_begin = some ⟨oc_answer_begin, od_answer_begin, .func (PySem.W.fnOf "answer_begin" "answer_begin" (C8.fnArgs s_answer_begin) (C8.fnBody s_answer_begin) (C8.fnScope s_answer_begin) .none kV_answer_begin dc_answer_begin pm_answer_begin an_answer_begin cd_answer_begin ct_answer_begin), sl_answer_begin⟩)
    (c_answer_begin : PySem.W.codeIn K cd_answer_begin "answer_begin" = true)
    (k_answer_begin : PySem.W.keepIn K (.ref f_answer_begin) = true)
    (a_answer_like : PySem.W.nsIn K mainGlobals "answer_like" = some (some (.ref f_answer_like)))
    (l_answer_like : K.lookup f_answer_like = some ⟨oc_answer_like, od_answer_like, .func (PySem.W.fnOf "answer_like" "answer_like" (C8.fnArgs s_answer_like) (C8.fnBody s_answer_like) (C8.fnScope s_answer_like) .none kV_answer_like dc_answer_like pm_answer_like an_answer_like cd_answer_like ct_answer_like), sl_answer_like⟩)
    (c_answer_like : PySem.W.codeIn K cd_answer_like "answer_like" = true)
    (k_answer_like : PySem.W.keepIn K (.ref f_answer_like) = true)
    (a_answer_row : PySem.W.nsIn K mainGlobals "answer_row" = some (some (.ref f_answer_row)))
    (l_answer_row : K.lookup f_answer_row = some ⟨oc_answer_row, od_answer_row, .func (PySem.W.fnOf "answer_row" "answer_row" (C8.fnArgs s_answer_row) (C8.fnBody s_answer_row) (C8.fnScope s_answer_row) .none kV_answer_row dc_answer_row pm_answer_row an_answer_row cd_answer_row ct_answer_row), sl_answer_row⟩)
    (c_answer_row : PySem.W.codeIn K cd_answer_row "answer_row" = true)
    (k_answer_row : PySem.W.keepIn K (.ref f_answer_row) = true)
    (a_answer_even : PySem.W.nsIn K mainGlobals "answer_even" = some (some (.ref f_answer_even)))
    (l_answer_even : K.lookup f_answer_even = some ⟨oc_answer_even, od_answer_even, .func (PySem.W.fnOf "answer_even" "answer_even" (C8.fnArgs s_answer_even) (C8.fnBody s_answer_even) (C8.fnScope s_answer_even) .none kV_answer_even dc_answer_even pm_answer_even an_answer_even cd_answer_even ct_answer_even), sl_answer_even⟩)
    (c_answer_even : PySem.W.codeIn K cd_answer_even "answer_even" = true)
    (k_answer_even : PySem.W.keepIn K (.ref f_answer_even) = true)
    (a_answer_be : PySem.W.nsIn K mainGlobals "answer_be" = some (some (.ref f_answer_be)))
    (l_answer_be : K.lookup f_answer_be = some ⟨oc_answer_be, od_answer_be, .func (PySem.W.fnOf "answer_be" "answer_be" (C8.fnArgs s_answer_be) (C8.fnBody s_answer_be) (C8.fnScope s_answer_be) .none kV_answer_be dc_answer_be pm_answer_be an_answer_be cd_answer_be ct_answer_be), sl_answer_be⟩)
    (c_answer_be : PySem.W.codeIn K cd_answer_be "answer_be" = true)
    (k_answer_be : PySem.W.keepIn K (.ref f_answer_be) = true)
    (a_answer_go : PySem.W.nsIn K mainGlobals "answer_go" = some (some (.ref f_answer_go)))
    (l_answer_go : K.lookup f_answer_go = some ⟨oc_answer_go, od_answer_go, .func (PySem.W.fnOf "answer_go" "answer_go" (C8.fnArgs s_answer_go) (C8.fnBody s_answer_go) (C8.fnScope s_answer_go) .none kV_answer_go dc_answer_go pm_answer_go an_answer_go cd_answer_go ct_answer_go), sl_answer_go⟩)
    (c_answer_go : PySem.W.codeIn K cd_answer_go "answer_go" = true)
    (k_answer_go : PySem.W.keepIn K (.ref f_answer_go) = true)
    (a_answer_leave : PySem.W.nsIn K mainGlobals "answer_leave" = some (some (.ref f_answer_leave)))
    (l_answer_leave : K.lookup f_answer_leave = some ⟨oc_answer_leave, od_answer_leave, .func (PySem.W.fnOf "answer_leave" "answer_leave" (C8.fnArgs s_answer_leave) (C8.fnBody s_answer_leave) (C8.fnScope s_answer_leave) .none kV_answer_leave dc_answer_leave pm_answer_leave an_answer_leave cd_answer_leave ct_answer_leave), sl_answer_leave⟩)
    (c_answer_leave : PySem.W.codeIn K cd_answer_leave "answer_leave" = true)
    (k_answer_leave : PySem.W.keepIn K (.ref f_answer_leave) = true)
    (a_answer_step : PySem.W.nsIn K mainGlobals "answer_step" = some (some (.ref f_answer_step)))
    (l_answer_step : K.lookup f_answer_step = some ⟨oc_answer_step, od_answer_step, .func (PySem.W.fnOf "answer_step" "answer_step" (C8.fnArgs s_answer_step) (C8.fnBody s_answer_step) (C8.fnScope s_answer_step) .none kV_answer_step dc_answer_step pm_answer_step an_answer_step cd_answer_step ct_answer_step), sl_answer_step⟩)
    (c_answer_step : PySem.W.codeIn K cd_answer_step "answer_step" = true)
    (k_answer_step : PySem.W.keepIn K (.ref f_answer_step) = true)
    (a_answer_back : PySem.W.nsIn K mainGlobals "answer_back" = some (some (.ref f_answer_back)))
    (l_answer_back : K.lookup f_answer_back = some ⟨oc_answer_back, od_answer_back, .func (PySem.W.fnOf "answer_back" "answer_back" (C8.fnArgs s_answer_back) (C8.fnBody s_answer_back) (C8.fnScope s_answer_back) .none kV_answer_back dc_answer_back pm_answer_back an_answer_back cd_answer_back ct_answer_back), sl_answer_back⟩)
    (c_answer_back : PySem.W.codeIn K cd_answer_back "answer_back" = true)
    (k_answer_back : PySem.W.keepIn K (.ref f_answer_back) = true)
    (a_answer_changing : PySem.W.nsIn K mainGlobals "answer_changing" = some (some (.ref f_answer_changing)))
    (l_answer_changing : K.lookup f_answer_changing = some ⟨oc_answer_changing, od_answer_changing, .func (PySem.W.fnOf "answer_changing" "answer_changing" (C8.fnArgs s_answer_changing) (C8.fnBody s_answer_changing) (C8.fnScope s_answer_changing) .none kV_answer_changing dc_answer_changing pm_answer_changing an_answer_changing cd_answer_changing ct_answer_changing), sl_answer_changing⟩)
    (c_answer_changing : PySem.W.codeIn K cd_answer_changing "answer_changing" = true)
    (k_answer_changing : PySem.W.keepIn K (.ref f_answer_changing) = true)
    (a_split_calls : PySem.W.nsIn K mainGlobals "split_calls" = some (some (.ref f_split_calls)))
    (l_split_calls : K.lookup f_split_calls = some ⟨oc_split_calls, od_split_calls, .func (PySem.W.fnOf "split_calls" "split_calls" (C8.fnArgs s_split_calls) (C8.fnBody s_split_calls) (C8.fnScope s_split_calls) .none kV_split_calls dc_split_calls pm_split_calls an_split_calls cd_split_calls ct_split_calls), sl_split_calls⟩)
    (c_split_calls : PySem.W.codeIn K cd_split_calls "split_calls" = true)
    (k_split_calls : PySem.W.keepIn K (.ref f_split_calls) = true)
    (a_answer_call : PySem.W.nsIn K mainGlobals "answer_call" = some (some (.ref f_answer_call)))
    (l_answer_call : K.lookup f_answer_call = some ⟨oc_answer_call, od_answer_call, .func (PySem.W.fnOf "answer_call" "answer_call" (C8.fnArgs s_answer_call) (C8.fnBody s_answer_call) (C8.fnScope s_answer_call) .none kV_answer_call dc_answer_call pm_answer_call an_answer_call cd_answer_call ct_answer_call), sl_answer_call⟩)
    (c_answer_call : PySem.W.codeIn K cd_answer_call "answer_call" = true)
    (k_answer_call : PySem.W.keepIn K (.ref f_answer_call) = true)
    (a_answers : PySem.W.nsIn K mainGlobals "answers" = some (some (.ref f_answers)))
    (l_answers : K.lookup f_answers = some ⟨oc_answers, od_answers, .func (PySem.W.fnOf "answers" "answers" (C8.fnArgs s_answers) (C8.fnBody s_answers) (C8.fnScope s_answers) .none kV_answers dc_answers pm_answers an_answers cd_answers ct_answers), sl_answers⟩)
    (c_answers : PySem.W.codeIn K cd_answers "answers" = true)
    (k_answers : PySem.W.keepIn K (.ref f_answers) = true)
    (pgCK : PySem.W.plainGet K CK Str.empty = true)
    (hdCK : PySem.W.hasDictIn K CK = true)
    (poCK : PySem.W.plainOver K CK = true)
    (saCK : PySem.W.findIn K (.ref CK) "__setattr__" = some (some (.builtin "object.__setattr__")))
    (mkCK : PySem.W.makesIn K CK = true)
    (kcCK : PySem.W.keepIn K (.ref CK) = true)
    (pgCL : PySem.W.plainGet K CL Str.empty = true)
    (hdCL : PySem.W.hasDictIn K CL = true)
    (poCL : PySem.W.plainOver K CL = true)
    (saCL : PySem.W.findIn K (.ref CL) "__setattr__" = some (some (.builtin "object.__setattr__")))
    (mkCL : PySem.W.makesIn K CL = true)
    (kcCL : PySem.W.keepIn K (.ref CL) = true)
    (pgCS : PySem.W.plainGet K CS Str.empty = true)
    (hdCS : PySem.W.hasDictIn K CS = true)
    (poCS : PySem.W.plainOver K CS = true)
    (saCS : PySem.W.findIn K (.ref CS) "__setattr__" = some (some (.builtin "object.__setattr__")))
    (mkCS : PySem.W.makesIn K CS = true)
    (kcCS : PySem.W.keepIn K (.ref CS) = true)
    (n_kW : PySem.W.findIn K (.ref CK) "worths" = some none)
    (n_kG : PySem.W.findIn K (.ref CK) "groups" = some none)
    (n_kM : PySem.W.findIn K (.ref CK) "made" = some none)
    (n_kP : PySem.W.findIn K (.ref CK) "past" = some none)
    (n_lW : PySem.W.findIn K (.ref CL) "worths" = some none)
    (n_lP : PySem.W.findIn K (.ref CL) "people" = some none)
    (n_lS : PySem.W.findIn K (.ref CL) "sums" = some none)
    (n_sL : PySem.W.findIn K (.ref CS) "liking" = some none)
    (n_sG : PySem.W.findIn K (.ref CS) "groups" = some none)
    (n_sP : PySem.W.findIn K (.ref CS) "places" = some none)
    (n_sH : PySem.W.findIn K (.ref CS) "has" = some none)
    (z_len : PySem.W.nsIn K mainGlobals "len" = some none)
    (z_range : PySem.W.nsIn K mainGlobals "range" = some none)
    (z_sum : PySem.W.nsIn K mainGlobals "sum" = some none)
    (z_all : PySem.W.nsIn K mainGlobals "all" = some none)
    (z_max : PySem.W.nsIn K mainGlobals "max" = some none)
    (z_min : PySem.W.nsIn K mainGlobals "min" = some none)
    (z_abs : PySem.W.nsIn K mainGlobals "abs" = some none)
    (z_list : PySem.W.nsIn K mainGlobals "list" = some none)
    (z_any : PySem.W.nsIn K mainGlobals "any" = some none)
    (z_enumerate : PySem.W.nsIn K mainGlobals "enumerate" = some none)
    (z_zip : PySem.W.nsIn K mainGlobals "zip" = some none)
    (z_tuple : PySem.W.nsIn K mainGlobals "tuple" = some none)
    (q_EVERY_WAY : PySem.W.nsIn K mainGlobals "EVERY_WAY" = some (some (.int (3) t_EVERY_WAY)))
    (q_NOT_AT_ALL : PySem.W.nsIn K mainGlobals "NOT_AT_ALL" = some (some (.int (0) t_NOT_AT_ALL)))
    (q_WEAKLY : PySem.W.nsIn K mainGlobals "WEAKLY" = some (some (.int (1) t_WEAKLY)))
    (q_WHOLLY : PySem.W.nsIn K mainGlobals "WHOLLY" = some (some (.int (2) t_WHOLLY)))
    (q_KINDS_OF_REST : PySem.W.nsIn K mainGlobals "KINDS_OF_REST" = some (some (.int (5) t_KINDS_OF_REST)))
    (q_MOST_TAKEN_BACK : PySem.W.nsIn K mainGlobals "MOST_TAKEN_BACK" = some (some (.int (10) t_MOST_TAKEN_BACK)))
    (q_NOT_BEGUN : PySem.W.nsIn K mainGlobals "NOT_BEGUN" = some (some (.int (-61) t_NOT_BEGUN)))
    (q_NOT_THERE : PySem.W.nsIn K mainGlobals "NOT_THERE" = some (some (.int (-2) t_NOT_THERE)))
    (q_WRONG : PySem.W.nsIn K mainGlobals "WRONG" = some (some (.int (-22) t_WRONG)))
    (q_OWN_GROUP : PySem.W.nsIn K mainGlobals "OWN_GROUP" = some (some (.int (-17) t_OWN_GROUP)))
    (q_NOTHING_TO_DO : PySem.W.nsIn K mainGlobals "NOTHING_TO_DO" = some (some (.int (-6) t_NOTHING_TO_DO)))
    (q_NONE_SUCH : PySem.W.nsIn K mainGlobals "NONE_SUCH" = some (some (.int (-33) t_NONE_SUCH)))
    (q_MOST_PEOPLE : PySem.W.nsIn K mainGlobals "MOST_PEOPLE" = some (some (.int (5) t_MOST_PEOPLE)))
    (q_MOST_WORTH : PySem.W.nsIn K mainGlobals "MOST_WORTH" = some (some (.int (20) t_MOST_WORTH)))
    (q_LAST_WAY : PySem.W.nsIn K mainGlobals "LAST_WAY" = some (some (.int (2) t_LAST_WAY)))
    (q_LAST_LEAVING : PySem.W.nsIn K mainGlobals "LAST_LEAVING" = some (some (.int (1) t_LAST_LEAVING)))
    (q_LAST_BEST : PySem.W.nsIn K mainGlobals "LAST_BEST" = some (some (.int (1) t_LAST_BEST)))
    (q_LAST_KIND : PySem.W.nsIn K mainGlobals "LAST_KIND" = some (some (.int (4) t_LAST_KIND)))
    (q_BEGIN : PySem.W.nsIn K mainGlobals "BEGIN" = some (some (.int (0) t_BEGIN)))
    (q_ROW : PySem.W.nsIn K mainGlobals "ROW" = some (some (.int (2) t_ROW)))
    (q_BE : PySem.W.nsIn K mainGlobals "BE" = some (some (.int (4) t_BE)))
    (q_FIRST_ASKING : PySem.W.nsIn K mainGlobals "FIRST_ASKING" = some (some (.int (9) t_FIRST_ASKING)))
    (q_ASKERS : PySem.W.nsIn K mainGlobals "ASKERS" = some (some (.ref A_ASKERS)))
    (l_ASKERS : K.lookup A_ASKERS = some ⟨.type "tuple", oD_ASKERS, .seq its_ASKERS nn_ASKERS, sL_ASKERS⟩)
    (v_ASKERS : its_ASKERS.toList.map absV = ([f_answer_worths, f_answer_moves, f_answer_best, f_answer_leavers, f_answer_rests, f_answer_holds, f_answer_kinds, f_answer_run, f_answer_round, f_answer_most, f_answer_among, f_answer_beaten, f_answer_envies, f_answer_firm, f_answer_perfect, f_answer_likes, f_answer_groups, f_answer_state].map V.ref).map some)
    (s_ASKERS : its_ASKERS.size ≤ sizeLine)
    (q_CHANGERS : PySem.W.nsIn K mainGlobals "CHANGERS" = some (some (.ref A_CHANGERS)))
    (l_CHANGERS : K.lookup A_CHANGERS = some ⟨.type "tuple", oD_CHANGERS, .seq its_CHANGERS nn_CHANGERS, sL_CHANGERS⟩)
    (v_CHANGERS : its_CHANGERS.toList.map absV = ([f_answer_begin, f_answer_like, f_answer_row, f_answer_even, f_answer_be, f_answer_go, f_answer_leave, f_answer_step, f_answer_back].map V.ref).map some)
    (s_CHANGERS : its_CHANGERS.size ≤ sizeLine)
    (q_PLAIN_NUMBERS : PySem.W.nsIn K mainGlobals "PLAIN_NUMBERS" = some (some (.ref A_PLAIN_NUMBERS)))
    (l_PLAIN_NUMBERS : K.lookup A_PLAIN_NUMBERS = some ⟨.type "tuple", oD_PLAIN_NUMBERS, .seq its_PLAIN_NUMBERS nn_PLAIN_NUMBERS, sL_PLAIN_NUMBERS⟩)
    (v_PLAIN_NUMBERS : its_PLAIN_NUMBERS.toList.map absV = ((nv plain)).map some)
    (s_PLAIN_NUMBERS : its_PLAIN_NUMBERS.size ≤ sizeLine)
    (r_most_among : ((recsOf p).find? fun e => e.name == ("most_among" : Str)).isSome = true)
    (b_most_among : K.lookup co_most_among = some ⟨oX_most_among, oY_most_among, .fields us_most_among, oZ_most_among⟩)
    (w_most_among : us_most_among[11]? = some (.ref tb_most_among))
    (o_most_among : K.lookup tb_most_among = none)
    (r_best_by : ((recsOf p).find? fun e => e.name == ("best_by" : Str)).isSome = true)
    (b_best_by : K.lookup co_best_by = some ⟨oX_best_by, oY_best_by, .fields us_best_by, oZ_best_by⟩)
    (w_best_by : us_best_by[11]? = some (.ref tb_best_by))
    (o_best_by : K.lookup tb_best_by = none)
    (ne_most_among_best_by : tb_most_among ≠ tb_best_by)
    : EndAt w K C8.CX0 10 "calls" mg fa h := by
  have G := T.g
  have e := hfa.symm.trans (PySem.W.mg_of KX G a_answers)
  cases e
  have B : Blt mg := ⟨PySem.W.mg_none_of KX G z_len, PySem.W.mg_none_of KX G z_range, PySem.W.mg_none_of KX G z_sum, PySem.W.mg_none_of KX G z_all, PySem.W.mg_none_of KX G z_max, PySem.W.mg_none_of KX G z_min, PySem.W.mg_none_of KX G z_abs, PySem.W.mg_none_of KX G z_list, PySem.W.mg_none_of KX G z_any, PySem.W.mg_none_of KX G z_enumerate, PySem.W.mg_none_of KX G z_zip, PySem.W.mg_none_of KX G z_tuple⟩
  have Cs : Cst K mg := ⟨⟨_, PySem.W.mg_of KX G q_EVERY_WAY⟩, ⟨_, PySem.W.mg_of KX G q_NOT_AT_ALL⟩, ⟨_, PySem.W.mg_of KX G q_WEAKLY⟩, ⟨_, PySem.W.mg_of KX G q_WHOLLY⟩, ⟨_, PySem.W.mg_of KX G q_KINDS_OF_REST⟩, ⟨_, PySem.W.mg_of KX G q_MOST_TAKEN_BACK⟩, ⟨_, PySem.W.mg_of KX G q_NOT_BEGUN⟩, ⟨_, PySem.W.mg_of KX G q_NOT_THERE⟩, ⟨_, PySem.W.mg_of KX G q_WRONG⟩, ⟨_, PySem.W.mg_of KX G q_OWN_GROUP⟩, ⟨_, PySem.W.mg_of KX G q_NOTHING_TO_DO⟩, ⟨_, PySem.W.mg_of KX G q_NONE_SUCH⟩, ⟨_, PySem.W.mg_of KX G q_MOST_PEOPLE⟩, ⟨_, PySem.W.mg_of KX G q_MOST_WORTH⟩, ⟨_, PySem.W.mg_of KX G q_LAST_WAY⟩, ⟨_, PySem.W.mg_of KX G q_LAST_LEAVING⟩, ⟨_, PySem.W.mg_of KX G q_LAST_BEST⟩, ⟨_, PySem.W.mg_of KX G q_LAST_KIND⟩, ⟨_, PySem.W.mg_of KX G q_BEGIN⟩, ⟨_, PySem.W.mg_of KX G q_ROW⟩, ⟨_, PySem.W.mg_of KX G q_BE⟩, ⟨_, PySem.W.mg_of KX G q_FIRST_ASKING⟩, ⟨_, PySem.W.mg_of KX G q_PLAIN_NUMBERS, sqT_of l_PLAIN_NUMBERS v_PLAIN_NUMBERS s_PLAIN_NUMBERS⟩⟩
  have ZT : ZTxt K ⟨CK, CL, CS⟩ := ⟨⟨pgCK, hdCK, poCK, saCK⟩, n_kW, n_kG, n_kM, n_kP, ⟨pgCL, hdCL, poCL, saCL⟩, n_lW, n_lP, n_lS, ⟨pgCS, hdCS, poCS, saCS⟩, n_sL, n_sG, n_sP, n_sH⟩
  have F_numbered := def_of_top (st := s_numbered) KX G a_numbered l_numbered c_numbered k_numbered
  have b_numbered_ : Binds K _ P_numbered [] := Binds.all (fd := PySem.W.fnOf "numbered" "numbered" (C8.fnArgs s_numbered) (C8.fnBody s_numbered) (C8.fnScope s_numbered) .none kV_numbered dc_numbered pm_numbered an_numbered cd_numbered ct_numbered) fun us hl => match us, hl with | [_], _ => rfl
  have F_how_many := def_of_top (st := s_how_many) KX G a_how_many l_how_many c_how_many k_how_many
  have b_how_many_ : Binds K _ P_how_many [] := Binds.all (fd := PySem.W.fnOf "how_many" "how_many" (C8.fnArgs s_how_many) (C8.fnBody s_how_many) (C8.fnScope s_how_many) .none kV_how_many dc_how_many pm_how_many an_how_many cd_how_many ct_how_many) fun us hl => match us, hl with | [_], _ => rfl
  have F_evened := def_of_top (st := s_evened) KX G a_evened l_evened c_evened k_evened
  have b_evened_ : Binds K _ P_evened [] := Binds.all (fd := PySem.W.fnOf "evened" "evened" (C8.fnArgs s_evened) (C8.fnBody s_evened) (C8.fnScope s_evened) .none kV_evened dc_evened pm_evened an_evened cd_evened ct_evened) fun us hl => match us, hl with | [_], _ => rfl
  have F_is_even := def_of_top (st := s_is_even) KX G a_is_even l_is_even c_is_even k_is_even
  have b_is_even_ : Binds K _ P_is_even [] := Binds.all (fd := PySem.W.fnOf "is_even" "is_even" (C8.fnArgs s_is_even) (C8.fnBody s_is_even) (C8.fnScope s_is_even) .none kV_is_even dc_is_even pm_is_even an_is_even cd_is_even ct_is_even) fun us hl => match us, hl with | [_], _ => rfl
  have F_people_by_set := def_of_top (st := s_people_by_set) KX G a_people_by_set l_people_by_set c_people_by_set k_people_by_set
  have b_people_by_set_ : Binds K _ P_people_by_set [] := Binds.all (fd := PySem.W.fnOf "people_by_set" "people_by_set" (C8.fnArgs s_people_by_set) (C8.fnBody s_people_by_set) (C8.fnScope s_people_by_set) .none kV_people_by_set dc_people_by_set pm_people_by_set an_people_by_set cd_people_by_set ct_people_by_set) fun us hl => match us, hl with | [_], _ => rfl
  have F_sums_by_set := def_of_top (st := s_sums_by_set) KX G a_sums_by_set l_sums_by_set c_sums_by_set k_sums_by_set
  have b_sums_by_set_ : Binds K _ P_sums_by_set [] := Binds.all (fd := PySem.W.fnOf "sums_by_set" "sums_by_set" (C8.fnArgs s_sums_by_set) (C8.fnBody s_sums_by_set) (C8.fnScope s_sums_by_set) .none kV_sums_by_set dc_sums_by_set pm_sums_by_set an_sums_by_set cd_sums_by_set ct_sums_by_set) fun us hl => match us, hl with | [_], _ => rfl
  have F_places_in := def_of_top (st := s_places_in) KX G a_places_in l_places_in c_places_in k_places_in
  have b_places_in_ : Binds K _ P_places_in [] := Binds.all (fd := PySem.W.fnOf "places_in" "places_in" (C8.fnArgs s_places_in) (C8.fnBody s_places_in) (C8.fnScope s_places_in) .none kV_places_in dc_places_in pm_places_in an_places_in cd_places_in ct_places_in) fun us hl => match us, hl with | [_], _ => rfl
  have F_Liking___init__ := fun_of_top (st := s_Liking___init__) l_Liking___init__ c_Liking___init__
  have b_Liking___init___ : Binds K _ P_Liking___init__ [] := Binds.all (fd := PySem.W.fnOf "__init__" "Liking.__init__" (C8.fnArgs s_Liking___init__) (C8.fnBody s_Liking___init__) (C8.fnScope s_Liking___init__) .none kV_Liking___init__ dc_Liking___init__ pm_Liking___init__ an_Liking___init__ cd_Liking___init__ ct_Liking___init__) fun us hl => match us, hl with | [_, _], _ => rfl
  have F_Standing___init__ := fun_of_top (st := s_Standing___init__) l_Standing___init__ c_Standing___init__
  have b_Standing___init___ : Binds K _ P_Standing___init__ [] := Binds.all (fd := PySem.W.fnOf "__init__" "Standing.__init__" (C8.fnArgs s_Standing___init__) (C8.fnBody s_Standing___init__) (C8.fnScope s_Standing___init__) .none kV_Standing___init__ dc_Standing___init__ pm_Standing___init__ an_Standing___init__ cd_Standing___init__ ct_Standing___init__) fun us hl => match us, hl with | [_, _, _], _ => rfl
  have F_has_in := def_of_top (st := s_has_in) KX G a_has_in l_has_in c_has_in k_has_in
  have b_has_in_ : Binds K _ P_has_in [] := Binds.all (fd := PySem.W.fnOf "has_in" "has_in" (C8.fnArgs s_has_in) (C8.fnBody s_has_in) (C8.fnScope s_has_in) .none kV_has_in dc_has_in pm_has_in an_has_in cd_has_in ct_has_in) fun us hl => match us, hl with | [_, _, _], _ => rfl
  have F_is_welcome := def_of_top (st := s_is_welcome) KX G a_is_welcome l_is_welcome c_is_welcome k_is_welcome
  have b_is_welcome_ : Binds K _ P_is_welcome [] := Binds.all (fd := PySem.W.fnOf "is_welcome" "is_welcome" (C8.fnArgs s_is_welcome) (C8.fnBody s_is_welcome) (C8.fnScope s_is_welcome) .none kV_is_welcome dc_is_welcome pm_is_welcome an_is_welcome cd_is_welcome ct_is_welcome) fun us hl => match us, hl with | [_, _, _], _ => rfl
  have F_is_let_go := def_of_top (st := s_is_let_go) KX G a_is_let_go l_is_let_go c_is_let_go k_is_let_go
  have b_is_let_go_ : Binds K _ P_is_let_go [] := Binds.all (fd := PySem.W.fnOf "is_let_go" "is_let_go" (C8.fnArgs s_is_let_go) (C8.fnBody s_is_let_go) (C8.fnScope s_is_let_go) .none kV_is_let_go dc_is_let_go pm_is_let_go an_is_let_go cd_is_let_go ct_is_let_go) fun us hl => match us, hl with | [_, _], _ => rfl
  have F_ways_there := def_of_top (st := s_ways_there) KX G a_ways_there l_ways_there c_ways_there k_ways_there
  have b_ways_there_ : Binds K _ P_ways_there [] := Binds.all (fd := PySem.W.fnOf "ways_there" "ways_there" (C8.fnArgs s_ways_there) (C8.fnBody s_ways_there) (C8.fnScope s_ways_there) .none kV_ways_there dc_ways_there pm_ways_there an_ways_there cd_ways_there ct_ways_there) fun us hl => match us, hl with | [_, _, _], _ => rfl
  have F_wished_by := def_of_top (st := s_wished_by) KX G a_wished_by l_wished_by c_wished_by k_wished_by
  have b_wished_by_ : Binds K _ P_wished_by [] := Binds.all (fd := PySem.W.fnOf "wished_by" "wished_by" (C8.fnArgs s_wished_by) (C8.fnBody s_wished_by) (C8.fnScope s_wished_by) .none kV_wished_by dc_wished_by pm_wished_by an_wished_by cd_wished_by ct_wished_by) fun us hl => match us, hl with | [_, _], _ => rfl
  have F_moves_by := def_of_top (st := s_moves_by) KX G a_moves_by l_moves_by c_moves_by k_moves_by
  have b_moves_by_ : Binds K _ P_moves_by [] := Binds.all (fd := PySem.W.fnOf "moves_by" "moves_by" (C8.fnArgs s_moves_by) (C8.fnBody s_moves_by) (C8.fnScope s_moves_by) .none kV_moves_by dc_moves_by pm_moves_by an_moves_by cd_moves_by ct_moves_by) fun us hl => match us, hl with | [_, _], _ => rfl
  have F_ways_anywhere := def_of_top (st := s_ways_anywhere) KX G a_ways_anywhere l_ways_anywhere c_ways_anywhere k_ways_anywhere
  have b_ways_anywhere_ : Binds K _ P_ways_anywhere [] := Binds.all (fd := PySem.W.fnOf "ways_anywhere" "ways_anywhere" (C8.fnArgs s_ways_anywhere) (C8.fnBody s_ways_anywhere) (C8.fnScope s_ways_anywhere) .none kV_ways_anywhere dc_ways_anywhere pm_ways_anywhere an_ways_anywhere cd_ways_anywhere ct_ways_anywhere) fun us hl => match us, hl with | [_], _ => rfl
  have F_is_at_rest := def_of_top (st := s_is_at_rest) KX G a_is_at_rest l_is_at_rest c_is_at_rest k_is_at_rest
  have b_is_at_rest_ : Binds K _ P_is_at_rest [] := Binds.all (fd := PySem.W.fnOf "is_at_rest" "is_at_rest" (C8.fnArgs s_is_at_rest) (C8.fnBody s_is_at_rest) (C8.fnScope s_is_at_rest) .none kV_is_at_rest dc_is_at_rest pm_is_at_rest an_is_at_rest cd_is_at_rest ct_is_at_rest) fun us hl => match us, hl with | [_, _], _ => rfl
  have F_most_among := defC_of_top (st := s_most_among) KX G a_most_among l_most_among c_most_among k_most_among
  have b_most_among_ : Binds K _ P_most_among [] := Binds.all (fd := PySem.W.fnOf "most_among" "most_among" (C8.fnArgs s_most_among) (C8.fnBody s_most_among) (C8.fnScope s_most_among) .none kV_most_among dc_most_among pm_most_among an_most_among (.ref co_most_among) ct_most_among) fun us hl => match us, hl with | [_, _, _], _ => rfl
  have F_best_place := def_of_top (st := s_best_place) KX G a_best_place l_best_place c_best_place k_best_place
  have b_best_place_ : Binds K _ P_best_place [] := Binds.all (fd := PySem.W.fnOf "best_place" "best_place" (C8.fnArgs s_best_place) (C8.fnBody s_best_place) (C8.fnScope s_best_place) .none kV_best_place dc_best_place pm_best_place an_best_place cd_best_place ct_best_place) fun us hl => match us, hl with | [_, _], _ => rfl
  have F_step_by := def_of_top (st := s_step_by) KX G a_step_by l_step_by c_step_by k_step_by
  have b_step_by_ : Binds K _ P_step_by [] := Binds.all (fd := PySem.W.fnOf "step_by" "step_by" (C8.fnArgs s_step_by) (C8.fnBody s_step_by) (C8.fnScope s_step_by) .none kV_step_by dc_step_by pm_step_by an_step_by cd_step_by ct_step_by) fun us hl => match us, hl with | [_, _], _ => rfl
  have F_gone := def_of_top (st := s_gone) KX G a_gone l_gone c_gone k_gone
  have b_gone_ : Binds K _ P_gone [] := Binds.all (fd := PySem.W.fnOf "gone" "gone" (C8.fnArgs s_gone) (C8.fnBody s_gone) (C8.fnScope s_gone) .none kV_gone dc_gone pm_gone an_gone cd_gone ct_gone) fun us hl => match us, hl with | [_, _, _], _ => rfl
  have F_is_set := def_of_top (st := s_is_set) KX G a_is_set l_is_set c_is_set k_is_set
  have b_is_set_ : Binds K _ P_is_set [] := Binds.all (fd := PySem.W.fnOf "is_set" "is_set" (C8.fnArgs s_is_set) (C8.fnBody s_is_set) (C8.fnScope s_is_set) .none kV_is_set dc_is_set pm_is_set an_is_set cd_is_set ct_is_set) fun us hl => match us, hl with | [_, _], _ => rfl
  have F_how_they_leave := def_of_top (st := s_how_they_leave) KX G a_how_they_leave l_how_they_leave c_how_they_leave k_how_they_leave
  have b_how_they_leave_ : Binds K _ P_how_they_leave [] := Binds.all (fd := PySem.W.fnOf "how_they_leave" "how_they_leave" (C8.fnArgs s_how_they_leave) (C8.fnBody s_how_they_leave) (C8.fnScope s_how_they_leave) .none kV_how_they_leave dc_how_they_leave pm_how_they_leave an_how_they_leave cd_how_they_leave ct_how_they_leave) fun us hl => match us, hl with | [_, _], _ => rfl
  have F_least_leaving := def_of_top (st := s_least_leaving) KX G a_least_leaving l_least_leaving c_least_leaving k_least_leaving
  have b_least_leaving_ : Binds K _ P_least_leaving [] := Binds.all (fd := PySem.W.fnOf "least_leaving" "least_leaving" (C8.fnArgs s_least_leaving) (C8.fnBody s_least_leaving) (C8.fnScope s_least_leaving) .none kV_least_leaving dc_least_leaving pm_least_leaving an_least_leaving cd_least_leaving ct_least_leaving) fun us hl => match us, hl with | [_], _ => rfl
  have F_leavers_by := def_of_top (st := s_leavers_by) KX G a_leavers_by l_leavers_by c_leavers_by k_leavers_by
  have b_leavers_by_ : Binds K _ P_leavers_by [] := Binds.all (fd := PySem.W.fnOf "leavers_by" "leavers_by" (C8.fnArgs s_leavers_by) (C8.fnBody s_leavers_by) (C8.fnScope s_leavers_by) .none kV_leavers_by dc_leavers_by pm_leavers_by an_leavers_by cd_leavers_by ct_leavers_by) fun us hl => match us, hl with | [_, _], _ => rfl
  have F_leaving_at_most := def_of_top (st := s_leaving_at_most) KX G a_leaving_at_most l_leaving_at_most c_leaving_at_most k_leaving_at_most
  have b_leaving_at_most_ : Binds K _ P_leaving_at_most [] := Binds.all (fd := PySem.W.fnOf "leaving_at_most" "leaving_at_most" (C8.fnArgs s_leaving_at_most) (C8.fnBody s_leaving_at_most) (C8.fnScope s_leaving_at_most) .none kV_leaving_at_most dc_leaving_at_most pm_leaving_at_most an_leaving_at_most cd_leaving_at_most ct_leaving_at_most) fun us hl => match us, hl with | [_], _ => rfl
  have F_is_holding := def_of_top (st := s_is_holding) KX G a_is_holding l_is_holding c_is_holding k_is_holding
  have b_is_holding_ : Binds K _ P_is_holding [] := Binds.all (fd := PySem.W.fnOf "is_holding" "is_holding" (C8.fnArgs s_is_holding) (C8.fnBody s_is_holding) (C8.fnScope s_is_holding) .none kV_is_holding dc_is_holding pm_is_holding an_is_holding cd_is_holding ct_is_holding) fun us hl => match us, hl with | [_, _], _ => rfl
  have F_left_by := def_of_top (st := s_left_by) KX G a_left_by l_left_by c_left_by k_left_by
  have b_left_by_ : Binds K _ P_left_by [] := Binds.all (fd := PySem.W.fnOf "left_by" "left_by" (C8.fnArgs s_left_by) (C8.fnBody s_left_by) (C8.fnScope s_left_by) .none kV_left_by dc_left_by pm_left_by an_left_by cd_left_by ct_left_by) fun us hl => match us, hl with | [_, _], _ => rfl
  have F_is_lesser_within := def_of_top (st := s_is_lesser_within) KX G a_is_lesser_within l_is_lesser_within c_is_lesser_within k_is_lesser_within
  have b_is_lesser_within_ : Binds K _ P_is_lesser_within [] := Binds.all (fd := PySem.W.fnOf "is_lesser_within" "is_lesser_within" (C8.fnArgs s_is_lesser_within) (C8.fnBody s_is_lesser_within) (C8.fnScope s_is_lesser_within) .none kV_is_lesser_within dc_is_lesser_within pm_is_lesser_within an_is_lesser_within cd_is_lesser_within ct_is_lesser_within) fun us hl => match us, hl with | [_, _], _ => rfl
  have F_is_better_apart := def_of_top (st := s_is_better_apart) KX G a_is_better_apart l_is_better_apart c_is_better_apart k_is_better_apart
  have b_is_better_apart_ : Binds K _ P_is_better_apart [] := Binds.all (fd := PySem.W.fnOf "is_better_apart" "is_better_apart" (C8.fnArgs s_is_better_apart) (C8.fnBody s_is_better_apart) (C8.fnScope s_is_better_apart) .none kV_is_better_apart dc_is_better_apart pm_is_better_apart an_is_better_apart cd_is_better_apart ct_is_better_apart) fun us hl => match us, hl with | [_, _, _], _ => rfl
  have F_is_firm := def_of_top (st := s_is_firm) KX G a_is_firm l_is_firm c_is_firm k_is_firm
  have b_is_firm_ : Binds K _ P_is_firm [] := Binds.all (fd := PySem.W.fnOf "is_firm" "is_firm" (C8.fnArgs s_is_firm) (C8.fnBody s_is_firm) (C8.fnScope s_is_firm) .none kV_is_firm dc_is_firm pm_is_firm an_is_firm cd_is_firm ct_is_firm) fun us hl => match us, hl with | [_, _], _ => rfl
  have F_firm_sets := def_of_top (st := s_firm_sets) KX G a_firm_sets l_firm_sets c_firm_sets k_firm_sets
  have b_firm_sets_ : Binds K _ P_firm_sets [] := Binds.all (fd := PySem.W.fnOf "firm_sets" "firm_sets" (C8.fnArgs s_firm_sets) (C8.fnBody s_firm_sets) (C8.fnScope s_firm_sets) .none kV_firm_sets dc_firm_sets pm_firm_sets an_firm_sets cd_firm_sets ct_firm_sets) fun us hl => match us, hl with | [_], _ => rfl
  have F_with_one_more := def_of_top (st := s_with_one_more) KX G a_with_one_more l_with_one_more c_with_one_more k_with_one_more
  have b_with_one_more_ : Binds K _ P_with_one_more [] := Binds.all (fd := PySem.W.fnOf "with_one_more" "with_one_more" (C8.fnArgs s_with_one_more) (C8.fnBody s_with_one_more) (C8.fnScope s_with_one_more) .none kV_with_one_more dc_with_one_more pm_with_one_more an_with_one_more cd_with_one_more ct_with_one_more) fun us hl => match us, hl with | [_], _ => rfl
  have F_all_ways := def_of_top (st := s_all_ways) KX G a_all_ways l_all_ways c_all_ways k_all_ways
  have b_all_ways_ : Binds K _ P_all_ways [] := Binds.all (fd := PySem.W.fnOf "all_ways" "all_ways" (C8.fnArgs s_all_ways) (C8.fnBody s_all_ways) (C8.fnScope s_all_ways) .none kV_all_ways dc_all_ways pm_all_ways an_all_ways cd_all_ways ct_all_ways) fun us hl => match us, hl with | [_], _ => rfl
  have F_all_standings := def_of_top (st := s_all_standings) KX G a_all_standings l_all_standings c_all_standings k_all_standings
  have b_all_standings_ : Binds K _ P_all_standings [] := Binds.all (fd := PySem.W.fnOf "all_standings" "all_standings" (C8.fnArgs s_all_standings) (C8.fnBody s_all_standings) (C8.fnScope s_all_standings) .none kV_all_standings dc_all_standings pm_all_standings an_all_standings cd_all_standings ct_all_standings) fun us hl => match us, hl with | [_], _ => rfl
  have F_kinds_of := def_of_top (st := s_kinds_of) KX G a_kinds_of l_kinds_of c_kinds_of k_kinds_of
  have b_kinds_of_ : Binds K _ P_kinds_of [] := Binds.all (fd := PySem.W.fnOf "kinds_of" "kinds_of" (C8.fnArgs s_kinds_of) (C8.fnBody s_kinds_of) (C8.fnScope s_kinds_of) .none kV_kinds_of dc_kinds_of pm_kinds_of an_kinds_of cd_kinds_of ct_kinds_of) fun us hl => match us, hl with | [_], _ => rfl
  have F_count_kinds := def_of_top (st := s_count_kinds) KX G a_count_kinds l_count_kinds c_count_kinds k_count_kinds
  have b_count_kinds_ : Binds K _ P_count_kinds [] := Binds.all (fd := PySem.W.fnOf "count_kinds" "count_kinds" (C8.fnArgs s_count_kinds) (C8.fnBody s_count_kinds) (C8.fnScope s_count_kinds) .none kV_count_kinds dc_count_kinds pm_count_kinds an_count_kinds cd_count_kinds ct_count_kinds) fun us hl => match us, hl with | [_], _ => rfl
  have F_goodness := def_of_top (st := s_goodness) KX G a_goodness l_goodness c_goodness k_goodness
  have b_goodness_ : Binds K _ P_goodness [] := Binds.all (fd := PySem.W.fnOf "goodness" "goodness" (C8.fnArgs s_goodness) (C8.fnBody s_goodness) (C8.fnScope s_goodness) .none kV_goodness dc_goodness pm_goodness an_goodness cd_goodness ct_goodness) fun us hl => match us, hl with | [_, _], _ => rfl
  have F_best_by := defC_of_top (st := s_best_by) KX G a_best_by l_best_by c_best_by k_best_by
  have b_best_by_ : Binds K _ P_best_by [] := Binds.all (fd := PySem.W.fnOf "best_by" "best_by" (C8.fnArgs s_best_by) (C8.fnBody s_best_by) (C8.fnScope s_best_by) .none kV_best_by dc_best_by pm_best_by an_best_by (.ref co_best_by) ct_best_by) fun us hl => match us, hl with | [_, _], _ => rfl
  have F_is_beaten_by := def_of_top (st := s_is_beaten_by) KX G a_is_beaten_by l_is_beaten_by c_is_beaten_by k_is_beaten_by
  have b_is_beaten_by_ : Binds K _ P_is_beaten_by [] := Binds.all (fd := PySem.W.fnOf "is_beaten_by" "is_beaten_by" (C8.fnArgs s_is_beaten_by) (C8.fnBody s_is_beaten_by) (C8.fnScope s_is_beaten_by) .none kV_is_beaten_by dc_is_beaten_by pm_is_beaten_by an_is_beaten_by cd_is_beaten_by ct_is_beaten_by) fun us hl => match us, hl with | [_, _], _ => rfl
  have F_first_beating := def_of_top (st := s_first_beating) KX G a_first_beating l_first_beating c_first_beating k_first_beating
  have b_first_beating_ : Binds K _ P_first_beating [] := Binds.all (fd := PySem.W.fnOf "first_beating" "first_beating" (C8.fnArgs s_first_beating) (C8.fnBody s_first_beating) (C8.fnScope s_first_beating) .none kV_first_beating dc_first_beating pm_first_beating an_first_beating cd_first_beating ct_first_beating) fun us hl => match us, hl with | [_], _ => rfl
  have F_wanted_by := def_of_top (st := s_wanted_by) KX G a_wanted_by l_wanted_by c_wanted_by k_wanted_by
  have b_wanted_by_ : Binds K _ P_wanted_by [] := Binds.all (fd := PySem.W.fnOf "wanted_by" "wanted_by" (C8.fnArgs s_wanted_by) (C8.fnBody s_wanted_by) (C8.fnScope s_wanted_by) .none kV_wanted_by dc_wanted_by pm_wanted_by an_wanted_by cd_wanted_by ct_wanted_by) fun us hl => match us, hl with | [_], _ => rfl
  have F_first_perfect := def_of_top (st := s_first_perfect) KX G a_first_perfect l_first_perfect c_first_perfect k_first_perfect
  have b_first_perfect_ : Binds K _ P_first_perfect [] := Binds.all (fd := PySem.W.fnOf "first_perfect" "first_perfect" (C8.fnArgs s_first_perfect) (C8.fnBody s_first_perfect) (C8.fnScope s_first_perfect) .none kV_first_perfect dc_first_perfect pm_first_perfect an_first_perfect cd_first_perfect ct_first_perfect) fun us hl => match us, hl with | [_], _ => rfl
  have F_is_envious := def_of_top (st := s_is_envious) KX G a_is_envious l_is_envious c_is_envious k_is_envious
  have b_is_envious_ : Binds K _ P_is_envious [] := Binds.all (fd := PySem.W.fnOf "is_envious" "is_envious" (C8.fnArgs s_is_envious) (C8.fnBody s_is_envious) (C8.fnScope s_is_envious) .none kV_is_envious dc_is_envious pm_is_envious an_is_envious cd_is_envious ct_is_envious) fun us hl => match us, hl with | [_, _, _], _ => rfl
  have F_envious_pairs := def_of_top (st := s_envious_pairs) KX G a_envious_pairs l_envious_pairs c_envious_pairs k_envious_pairs
  have b_envious_pairs_ : Binds K _ P_envious_pairs [] := Binds.all (fd := PySem.W.fnOf "envious_pairs" "envious_pairs" (C8.fnArgs s_envious_pairs) (C8.fnBody s_envious_pairs) (C8.fnScope s_envious_pairs) .none kV_envious_pairs dc_envious_pairs pm_envious_pairs an_envious_pairs cd_envious_pairs ct_envious_pairs) fun us hl => match us, hl with | [_], _ => rfl
  have F_Kept___init__ := fun_of_top (st := s_Kept___init__) l_Kept___init__ c_Kept___init__
  have b_Kept___init___ : Binds K _ P_Kept___init__ [] := Binds.all (fd := PySem.W.fnOf "__init__" "Kept.__init__" (C8.fnArgs s_Kept___init__) (C8.fnBody s_Kept___init__) (C8.fnScope s_Kept___init__) .none kV_Kept___init__ dc_Kept___init__ pm_Kept___init__ an_Kept___init__ cd_Kept___init__ ct_Kept___init__) fun us hl => match us, hl with | [_], _ => rfl
  have F_Kept_begin_anew := fun_of_top (st := s_Kept_begin_anew) l_Kept_begin_anew c_Kept_begin_anew
  have b_Kept_begin_anew_ : Binds K _ P_Kept_begin_anew [] := Binds.all (fd := PySem.W.fnOf "begin_anew" "Kept.begin_anew" (C8.fnArgs s_Kept_begin_anew) (C8.fnBody s_Kept_begin_anew) (C8.fnScope s_Kept_begin_anew) .none kV_Kept_begin_anew dc_Kept_begin_anew pm_Kept_begin_anew an_Kept_begin_anew cd_Kept_begin_anew ct_Kept_begin_anew) fun us hl => match us, hl with | [_, _], _ => rfl
  have F_Kept_is_begun := fun_of_top (st := s_Kept_is_begun) l_Kept_is_begun c_Kept_is_begun
  have b_Kept_is_begun_ : Binds K _ P_Kept_is_begun [] := Binds.all (fd := PySem.W.fnOf "is_begun" "Kept.is_begun" (C8.fnArgs s_Kept_is_begun) (C8.fnBody s_Kept_is_begun) (C8.fnScope s_Kept_is_begun) .none kV_Kept_is_begun dc_Kept_is_begun pm_Kept_is_begun an_Kept_is_begun cd_Kept_is_begun ct_Kept_is_begun) fun us hl => match us, hl with | [_], _ => rfl
  have F_Kept_is_person := fun_of_top (st := s_Kept_is_person) l_Kept_is_person c_Kept_is_person
  have b_Kept_is_person_ : Binds K _ P_Kept_is_person [] := Binds.all (fd := PySem.W.fnOf "is_person" "Kept.is_person" (C8.fnArgs s_Kept_is_person) (C8.fnBody s_Kept_is_person) (C8.fnScope s_Kept_is_person) .none kV_Kept_is_person dc_Kept_is_person pm_Kept_is_person an_Kept_is_person cd_Kept_is_person ct_Kept_is_person) fun us hl => match us, hl with | [_, _], _ => rfl
  have F_Kept_remember := fun_of_top (st := s_Kept_remember) l_Kept_remember c_Kept_remember
  have b_Kept_remember_ : Binds K _ P_Kept_remember [] := Binds.all (fd := PySem.W.fnOf "remember" "Kept.remember" (C8.fnArgs s_Kept_remember) (C8.fnBody s_Kept_remember) (C8.fnScope s_Kept_remember) .none kV_Kept_remember dc_Kept_remember pm_Kept_remember an_Kept_remember cd_Kept_remember ct_Kept_remember) fun us hl => match us, hl with | [_], _ => rfl
  have F_Kept_change_worths := fun_of_top (st := s_Kept_change_worths) l_Kept_change_worths c_Kept_change_worths
  have b_Kept_change_worths_ : Binds K _ P_Kept_change_worths [] := Binds.all (fd := PySem.W.fnOf "change_worths" "Kept.change_worths" (C8.fnArgs s_Kept_change_worths) (C8.fnBody s_Kept_change_worths) (C8.fnScope s_Kept_change_worths) .none kV_Kept_change_worths dc_Kept_change_worths pm_Kept_change_worths an_Kept_change_worths cd_Kept_change_worths ct_Kept_change_worths) fun us hl => match us, hl with | [_, _], _ => rfl
  have F_Kept_lay_groups := fun_of_top (st := s_Kept_lay_groups) l_Kept_lay_groups c_Kept_lay_groups
  have b_Kept_lay_groups_ : Binds K _ P_Kept_lay_groups [] := Binds.all (fd := PySem.W.fnOf "lay_groups" "Kept.lay_groups" (C8.fnArgs s_Kept_lay_groups) (C8.fnBody s_Kept_lay_groups) (C8.fnScope s_Kept_lay_groups) .none kV_Kept_lay_groups dc_Kept_lay_groups pm_Kept_lay_groups an_Kept_lay_groups cd_Kept_lay_groups ct_Kept_lay_groups) fun us hl => match us, hl with | [_, _], _ => rfl
  have F_Kept_move_to := fun_of_top (st := s_Kept_move_to) l_Kept_move_to c_Kept_move_to
  have b_Kept_move_to_ : Binds K _ P_Kept_move_to [] := Binds.all (fd := PySem.W.fnOf "move_to" "Kept.move_to" (C8.fnArgs s_Kept_move_to) (C8.fnBody s_Kept_move_to) (C8.fnScope s_Kept_move_to) .none kV_Kept_move_to dc_Kept_move_to pm_Kept_move_to an_Kept_move_to cd_Kept_move_to ct_Kept_move_to) fun us hl => match us, hl with | [_, _], _ => rfl
  have F_Kept_take_back := fun_of_top (st := s_Kept_take_back) l_Kept_take_back c_Kept_take_back
  have b_Kept_take_back_ : Binds K _ P_Kept_take_back [] := Binds.all (fd := PySem.W.fnOf "take_back" "Kept.take_back" (C8.fnArgs s_Kept_take_back) (C8.fnBody s_Kept_take_back) (C8.fnScope s_Kept_take_back) .none kV_Kept_take_back dc_Kept_take_back pm_Kept_take_back an_Kept_take_back cd_Kept_take_back ct_Kept_take_back) fun us hl => match us, hl with | [_], _ => rfl
  have F_liking_of := def_of_top (st := s_liking_of) KX G a_liking_of l_liking_of c_liking_of k_liking_of
  have b_liking_of_ : Binds K _ P_liking_of [] := Binds.all (fd := PySem.W.fnOf "liking_of" "liking_of" (C8.fnArgs s_liking_of) (C8.fnBody s_liking_of) (C8.fnScope s_liking_of) .none kV_liking_of dc_liking_of pm_liking_of an_liking_of cd_liking_of ct_liking_of) fun us hl => match us, hl with | [_], _ => rfl
  have F_standing_of := def_of_top (st := s_standing_of) KX G a_standing_of l_standing_of c_standing_of k_standing_of
  have b_standing_of_ : Binds K _ P_standing_of [] := Binds.all (fd := PySem.W.fnOf "standing_of" "standing_of" (C8.fnArgs s_standing_of) (C8.fnBody s_standing_of) (C8.fnScope s_standing_of) .none kV_standing_of dc_standing_of pm_standing_of an_standing_of cd_standing_of ct_standing_of) fun us hl => match us, hl with | [_], _ => rfl
  have F_run_from := def_of_top (st := s_run_from) KX G a_run_from l_run_from c_run_from k_run_from
  have b_run_from_ : Binds K _ P_run_from [] := Binds.all (fd := PySem.W.fnOf "run_from" "run_from" (C8.fnArgs s_run_from) (C8.fnBody s_run_from) (C8.fnScope s_run_from) .none kV_run_from dc_run_from pm_run_from an_run_from cd_run_from ct_run_from) fun us hl => match us, hl with | [_, _], _ => rfl
  have F_made_of_by_one_move := def_of_top (st := s_made_of_by_one_move) KX G a_made_of_by_one_move l_made_of_by_one_move c_made_of_by_one_move k_made_of_by_one_move
  have b_made_of_by_one_move_ : Binds K _ P_made_of_by_one_move [] := Binds.all (fd := PySem.W.fnOf "made_of_by_one_move" "made_of_by_one_move" (C8.fnArgs s_made_of_by_one_move) (C8.fnBody s_made_of_by_one_move) (C8.fnScope s_made_of_by_one_move) .none kV_made_of_by_one_move dc_made_of_by_one_move pm_made_of_by_one_move an_made_of_by_one_move cd_made_of_by_one_move ct_made_of_by_one_move) fun us hl => match us, hl with | [_, _], _ => rfl
  have F_all_come_to := def_of_top (st := s_all_come_to) KX G a_all_come_to l_all_come_to c_all_come_to k_all_come_to
  have b_all_come_to_ : Binds K _ P_all_come_to [] := Binds.all (fd := PySem.W.fnOf "all_come_to" "all_come_to" (C8.fnArgs s_all_come_to) (C8.fnBody s_all_come_to) (C8.fnScope s_all_come_to) .none kV_all_come_to dc_all_come_to pm_all_come_to an_all_come_to cd_all_come_to ct_all_come_to) fun us hl => match us, hl with | [_, _], _ => rfl
  have F_rests_somewhere := def_of_top (st := s_rests_somewhere) KX G a_rests_somewhere l_rests_somewhere c_rests_somewhere k_rests_somewhere
  have b_rests_somewhere_ : Binds K _ P_rests_somewhere [] := Binds.all (fd := PySem.W.fnOf "rests_somewhere" "rests_somewhere" (C8.fnArgs s_rests_somewhere) (C8.fnBody s_rests_somewhere) (C8.fnScope s_rests_somewhere) .none kV_rests_somewhere dc_rests_somewhere pm_rests_somewhere an_rests_somewhere cd_rests_somewhere ct_rests_somewhere) fun us hl => match us, hl with | [_], _ => rfl
  have F_goes_round := def_of_top (st := s_goes_round) KX G a_goes_round l_goes_round c_goes_round k_goes_round
  have b_goes_round_ : Binds K _ P_goes_round [] := Binds.all (fd := PySem.W.fnOf "goes_round" "goes_round" (C8.fnArgs s_goes_round) (C8.fnBody s_goes_round) (C8.fnScope s_goes_round) .none kV_goes_round dc_goes_round pm_goes_round an_goes_round cd_goes_round ct_goes_round) fun us hl => match us, hl with | [_], _ => rfl
  have F_as_number := def_of_top (st := s_as_number) KX G a_as_number l_as_number c_as_number k_as_number
  have b_as_number_ : Binds K _ P_as_number [] := Binds.all (fd := PySem.W.fnOf "as_number" "as_number" (C8.fnArgs s_as_number) (C8.fnBody s_as_number) (C8.fnScope s_as_number) .none kV_as_number dc_as_number pm_as_number an_as_number cd_as_number ct_as_number) fun us hl => match us, hl with | [_], _ => rfl
  have F_counted := def_of_top (st := s_counted) KX G a_counted l_counted c_counted k_counted
  have b_counted_ : Binds K _ P_counted [] := Binds.all (fd := PySem.W.fnOf "counted" "counted" (C8.fnArgs s_counted) (C8.fnBody s_counted) (C8.fnScope s_counted) .none kV_counted dc_counted pm_counted an_counted cd_counted ct_counted) fun us hl => match us, hl with | [_], _ => rfl
  have F_counted_pairs := def_of_top (st := s_counted_pairs) KX G a_counted_pairs l_counted_pairs c_counted_pairs k_counted_pairs
  have b_counted_pairs_ : Binds K _ P_counted_pairs [] := Binds.all (fd := PySem.W.fnOf "counted_pairs" "counted_pairs" (C8.fnArgs s_counted_pairs) (C8.fnBody s_counted_pairs) (C8.fnScope s_counted_pairs) .none kV_counted_pairs dc_counted_pairs pm_counted_pairs an_counted_pairs cd_counted_pairs ct_counted_pairs) fun us hl => match us, hl with | [_], _ => rfl
  have F_told_groups := def_of_top (st := s_told_groups) KX G a_told_groups l_told_groups c_told_groups k_told_groups
  have b_told_groups_ : Binds K _ P_told_groups [] := Binds.all (fd := PySem.W.fnOf "told_groups" "told_groups" (C8.fnArgs s_told_groups) (C8.fnBody s_told_groups) (C8.fnScope s_told_groups) .none kV_told_groups dc_told_groups pm_told_groups an_told_groups cd_told_groups ct_told_groups) fun us hl => match us, hl with | [_], _ => rfl
  have F_told_if_any := def_of_top (st := s_told_if_any) KX G a_told_if_any l_told_if_any c_told_if_any k_told_if_any
  have b_told_if_any_ : Binds K _ P_told_if_any [] := Binds.all (fd := PySem.W.fnOf "told_if_any" "told_if_any" (C8.fnArgs s_told_if_any) (C8.fnBody s_told_if_any) (C8.fnScope s_told_if_any) .none kV_told_if_any dc_told_if_any pm_told_if_any an_told_if_any cd_told_if_any ct_told_if_any) fun us hl => match us, hl with | [_], _ => rfl
  have F_answer_worths := def_of_top (st := s_answer_worths) KX G a_answer_worths l_answer_worths c_answer_worths k_answer_worths
  have b_answer_worths_ : Binds K _ P_answer_worths [] := Binds.all (fd := PySem.W.fnOf "answer_worths" "answer_worths" (C8.fnArgs s_answer_worths) (C8.fnBody s_answer_worths) (C8.fnScope s_answer_worths) .none kV_answer_worths dc_answer_worths pm_answer_worths an_answer_worths cd_answer_worths ct_answer_worths) fun us hl => match us, hl with | [_, _], _ => rfl
  have F_answer_moves := def_of_top (st := s_answer_moves) KX G a_answer_moves l_answer_moves c_answer_moves k_answer_moves
  have b_answer_moves_ : Binds K _ P_answer_moves [] := Binds.all (fd := PySem.W.fnOf "answer_moves" "answer_moves" (C8.fnArgs s_answer_moves) (C8.fnBody s_answer_moves) (C8.fnScope s_answer_moves) .none kV_answer_moves dc_answer_moves pm_answer_moves an_answer_moves cd_answer_moves ct_answer_moves) fun us hl => match us, hl with | [_, _], _ => rfl
  have F_answer_best := def_of_top (st := s_answer_best) KX G a_answer_best l_answer_best c_answer_best k_answer_best
  have b_answer_best_ : Binds K _ P_answer_best [] := Binds.all (fd := PySem.W.fnOf "answer_best" "answer_best" (C8.fnArgs s_answer_best) (C8.fnBody s_answer_best) (C8.fnScope s_answer_best) .none kV_answer_best dc_answer_best pm_answer_best an_answer_best cd_answer_best ct_answer_best) fun us hl => match us, hl with | [_, _], _ => rfl
  have F_answer_leavers := def_of_top (st := s_answer_leavers) KX G a_answer_leavers l_answer_leavers c_answer_leavers k_answer_leavers
  have b_answer_leavers_ : Binds K _ P_answer_leavers [] := Binds.all (fd := PySem.W.fnOf "answer_leavers" "answer_leavers" (C8.fnArgs s_answer_leavers) (C8.fnBody s_answer_leavers) (C8.fnScope s_answer_leavers) .none kV_answer_leavers dc_answer_leavers pm_answer_leavers an_answer_leavers cd_answer_leavers ct_answer_leavers) fun us hl => match us, hl with | [_, _], _ => rfl
  have F_answer_rests := def_of_top (st := s_answer_rests) KX G a_answer_rests l_answer_rests c_answer_rests k_answer_rests
  have b_answer_rests_ : Binds K _ P_answer_rests [] := Binds.all (fd := PySem.W.fnOf "answer_rests" "answer_rests" (C8.fnArgs s_answer_rests) (C8.fnBody s_answer_rests) (C8.fnScope s_answer_rests) .none kV_answer_rests dc_answer_rests pm_answer_rests an_answer_rests cd_answer_rests ct_answer_rests) fun us hl => match us, hl with | [_, _], _ => rfl
  have F_answer_holds := def_of_top (st := s_answer_holds) KX G a_answer_holds l_answer_holds c_answer_holds k_answer_holds
  have b_answer_holds_ : Binds K _ P_answer_holds [] := Binds.all (fd := PySem.W.fnOf "answer_holds" "answer_holds" (C8.fnArgs s_answer_holds) (C8.fnBody s_answer_holds) (C8.fnScope s_answer_holds) .none kV_answer_holds dc_answer_holds pm_answer_holds an_answer_holds cd_answer_holds ct_answer_holds) fun us hl => match us, hl with | [_, _], _ => rfl
  have F_answer_kinds := def_of_top (st := s_answer_kinds) KX G a_answer_kinds l_answer_kinds c_answer_kinds k_answer_kinds
  have b_answer_kinds_ : Binds K _ P_answer_kinds [] := Binds.all (fd := PySem.W.fnOf "answer_kinds" "answer_kinds" (C8.fnArgs s_answer_kinds) (C8.fnBody s_answer_kinds) (C8.fnScope s_answer_kinds) .none kV_answer_kinds dc_answer_kinds pm_answer_kinds an_answer_kinds cd_answer_kinds ct_answer_kinds) fun us hl => match us, hl with | [_, _], _ => rfl
  have F_answer_run := def_of_top (st := s_answer_run) KX G a_answer_run l_answer_run c_answer_run k_answer_run
  have b_answer_run_ : Binds K _ P_answer_run [] := Binds.all (fd := PySem.W.fnOf "answer_run" "answer_run" (C8.fnArgs s_answer_run) (C8.fnBody s_answer_run) (C8.fnScope s_answer_run) .none kV_answer_run dc_answer_run pm_answer_run an_answer_run cd_answer_run ct_answer_run) fun us hl => match us, hl with | [_, _], _ => rfl
  have F_answer_round := def_of_top (st := s_answer_round) KX G a_answer_round l_answer_round c_answer_round k_answer_round
  have b_answer_round_ : Binds K _ P_answer_round [] := Binds.all (fd := PySem.W.fnOf "answer_round" "answer_round" (C8.fnArgs s_answer_round) (C8.fnBody s_answer_round) (C8.fnScope s_answer_round) .none kV_answer_round dc_answer_round pm_answer_round an_answer_round cd_answer_round ct_answer_round) fun us hl => match us, hl with | [_, _], _ => rfl
  have F_answer_most := def_of_top (st := s_answer_most) KX G a_answer_most l_answer_most c_answer_most k_answer_most
  have b_answer_most_ : Binds K _ P_answer_most [] := Binds.all (fd := PySem.W.fnOf "answer_most" "answer_most" (C8.fnArgs s_answer_most) (C8.fnBody s_answer_most) (C8.fnScope s_answer_most) .none kV_answer_most dc_answer_most pm_answer_most an_answer_most cd_answer_most ct_answer_most) fun us hl => match us, hl with | [_, _], _ => rfl
  have F_answer_among := def_of_top (st := s_answer_among) KX G a_answer_among l_answer_among c_answer_among k_answer_among
  have b_answer_among_ : Binds K _ P_answer_among [] := Binds.all (fd := PySem.W.fnOf "answer_among" "answer_among" (C8.fnArgs s_answer_among) (C8.fnBody s_answer_among) (C8.fnScope s_answer_among) .none kV_answer_among dc_answer_among pm_answer_among an_answer_among cd_answer_among ct_answer_among) fun us hl => match us, hl with | [_, _], _ => rfl
  have F_answer_beaten := def_of_top (st := s_answer_beaten) KX G a_answer_beaten l_answer_beaten c_answer_beaten k_answer_beaten
  have b_answer_beaten_ : Binds K _ P_answer_beaten [] := Binds.all (fd := PySem.W.fnOf "answer_beaten" "answer_beaten" (C8.fnArgs s_answer_beaten) (C8.fnBody s_answer_beaten) (C8.fnScope s_answer_beaten) .none kV_answer_beaten dc_answer_beaten pm_answer_beaten an_answer_beaten cd_answer_beaten ct_answer_beaten) fun us hl => match us, hl with | [_, _], _ => rfl
  have F_answer_envies := def_of_top (st := s_answer_envies) KX G a_answer_envies l_answer_envies c_answer_envies k_answer_envies
  have b_answer_envies_ : Binds K _ P_answer_envies [] := Binds.all (fd := PySem.W.fnOf "answer_envies" "answer_envies" (C8.fnArgs s_answer_envies) (C8.fnBody s_answer_envies) (C8.fnScope s_answer_envies) .none kV_answer_envies dc_answer_envies pm_answer_envies an_answer_envies cd_answer_envies ct_answer_envies) fun us hl => match us, hl with | [_, _], _ => rfl
  have F_answer_firm := def_of_top (st := s_answer_firm) KX G a_answer_firm l_answer_firm c_answer_firm k_answer_firm
  have b_answer_firm_ : Binds K _ P_answer_firm [] := Binds.all (fd := PySem.W.fnOf "answer_firm" "answer_firm" (C8.fnArgs s_answer_firm) (C8.fnBody s_answer_firm) (C8.fnScope s_answer_firm) .none kV_answer_firm dc_answer_firm pm_answer_firm an_answer_firm cd_answer_firm ct_answer_firm) fun us hl => match us, hl with | [_, _], _ => rfl
  have F_answer_perfect := def_of_top (st := s_answer_perfect) KX G a_answer_perfect l_answer_perfect c_answer_perfect k_answer_perfect
  have b_answer_perfect_ : Binds K _ P_answer_perfect [] := Binds.all (fd := PySem.W.fnOf "answer_perfect" "answer_perfect" (C8.fnArgs s_answer_perfect) (C8.fnBody s_answer_perfect) (C8.fnScope s_answer_perfect) .none kV_answer_perfect dc_answer_perfect pm_answer_perfect an_answer_perfect cd_answer_perfect ct_answer_perfect) fun us hl => match us, hl with | [_, _], _ => rfl
  have F_answer_likes := def_of_top (st := s_answer_likes) KX G a_answer_likes l_answer_likes c_answer_likes k_answer_likes
  have b_answer_likes_ : Binds K _ P_answer_likes [] := Binds.all (fd := PySem.W.fnOf "answer_likes" "answer_likes" (C8.fnArgs s_answer_likes) (C8.fnBody s_answer_likes) (C8.fnScope s_answer_likes) .none kV_answer_likes dc_answer_likes pm_answer_likes an_answer_likes cd_answer_likes ct_answer_likes) fun us hl => match us, hl with | [_, _], _ => rfl
  have F_answer_groups := def_of_top (st := s_answer_groups) KX G a_answer_groups l_answer_groups c_answer_groups k_answer_groups
  have b_answer_groups_ : Binds K _ P_answer_groups [] := Binds.all (fd := PySem.W.fnOf "answer_groups" "answer_groups" (C8.fnArgs s_answer_groups) (C8.fnBody s_answer_groups) (C8.fnScope s_answer_groups) .none kV_answer_groups dc_answer_groups pm_answer_groups an_answer_groups cd_answer_groups ct_answer_groups) fun us hl => match us, hl with | [_, _], _ => rfl
  have F_answer_state := def_of_top (st := s_answer_state) KX G a_answer_state l_answer_state c_answer_state k_answer_state
  have b_answer_state_ : Binds K _ P_answer_state [] := Binds.all (fd := PySem.W.fnOf "answer_state" "answer_state" (C8.fnArgs s_answer_state) (C8.fnBody s_answer_state) (C8.fnScope s_answer_state) .none kV_answer_state dc_answer_state pm_answer_state an_answer_state cd_answer_state ct_answer_state) fun us hl => match us, hl with | [_, _], _ => rfl
  have F_answer_asking := def_of_top (st := s_answer_asking) KX G a_answer_asking l_answer_asking c_answer_asking k_answer_asking
  have b_answer_asking_ : Binds K _ P_answer_asking [] := Binds.all (fd := PySem.W.fnOf "answer_asking" "answer_asking" (C8.fnArgs s_answer_asking) (C8.fnBody s_answer_asking) (C8.fnScope s_answer_asking) .none kV_answer_asking dc_answer_asking pm_answer_asking an_answer_asking cd_answer_asking ct_answer_asking) fun us hl => match us, hl with | [_, _, _], _ => rfl
  have F_is_worth := def_of_top (st := s_is_worth) KX G a_is_worth l_is_worth c_is_worth k_is_worth
  have b_is_worth_ : Binds K _ P_is_worth [] := Binds.all (fd := PySem.W.fnOf "is_worth" "is_worth" (C8.fnArgs s_is_worth) (C8.fnBody s_is_worth) (C8.fnScope s_is_worth) .none kV_is_worth dc_is_worth pm_is_worth an_is_worth cd_is_worth ct_is_worth) fun us hl => match us, hl with | [_], _ => rfl
  have F_with_row := def_of_top (st := s_with_row) KX G a_with_row l_with_row c_with_row k_with_row
  have b_with_row_ : Binds K _ P_with_row [] := Binds.all (fd := PySem.W.fnOf "with_row" "with_row" (C8.fnArgs s_with_row) (C8.fnBody s_with_row) (C8.fnScope s_with_row) .none kV_with_row dc_with_row pm_with_row an_with_row cd_with_row ct_with_row) fun us hl => match us, hl with | [_, _, _], _ => rfl
  have F_answer_begin := def_of_top (st := s_answer_begin) KX G a_answer_begin l_answer_begin c_answer_begin k_answer_begin
  have b_answer_begin_ : Binds K _ P_answer_begin [] := Binds.all (fd := PySem.W.fnOf "answer_begin" "answer_begin" (C8.fnArgs s_answer_begin) (C8.fnBody s_answer_begin) (C8.fnScope s_answer_begin) .none kV_answer_begin dc_answer_begin pm_answer_begin an_answer_begin cd_answer_begin ct_answer_begin) fun us hl => match us, hl with | [_, _], _ => rfl
  have F_answer_like := def_of_top (st := s_answer_like) KX G a_answer_like l_answer_like c_answer_like k_answer_like
  have b_answer_like_ : Binds K _ P_answer_like [] := Binds.all (fd := PySem.W.fnOf "answer_like" "answer_like" (C8.fnArgs s_answer_like) (C8.fnBody s_answer_like) (C8.fnScope s_answer_like) .none kV_answer_like dc_answer_like pm_answer_like an_answer_like cd_answer_like ct_answer_like) fun us hl => match us, hl with | [_, _], _ => rfl
  have F_answer_row := def_of_top (st := s_answer_row) KX G a_answer_row l_answer_row c_answer_row k_answer_row
  have b_answer_row_ : Binds K _ P_answer_row [] := Binds.all (fd := PySem.W.fnOf "answer_row" "answer_row" (C8.fnArgs s_answer_row) (C8.fnBody s_answer_row) (C8.fnScope s_answer_row) .none kV_answer_row dc_answer_row pm_answer_row an_answer_row cd_answer_row ct_answer_row) fun us hl => match us, hl with | [_, _], _ => rfl
  have F_answer_even := def_of_top (st := s_answer_even) KX G a_answer_even l_answer_even c_answer_even k_answer_even
  have b_answer_even_ : Binds K _ P_answer_even [] := Binds.all (fd := PySem.W.fnOf "answer_even" "answer_even" (C8.fnArgs s_answer_even) (C8.fnBody s_answer_even) (C8.fnScope s_answer_even) .none kV_answer_even dc_answer_even pm_answer_even an_answer_even cd_answer_even ct_answer_even) fun us hl => match us, hl with | [_, _], _ => rfl
  have F_answer_be := def_of_top (st := s_answer_be) KX G a_answer_be l_answer_be c_answer_be k_answer_be
  have b_answer_be_ : Binds K _ P_answer_be [] := Binds.all (fd := PySem.W.fnOf "answer_be" "answer_be" (C8.fnArgs s_answer_be) (C8.fnBody s_answer_be) (C8.fnScope s_answer_be) .none kV_answer_be dc_answer_be pm_answer_be an_answer_be cd_answer_be ct_answer_be) fun us hl => match us, hl with | [_, _], _ => rfl
  have F_answer_go := def_of_top (st := s_answer_go) KX G a_answer_go l_answer_go c_answer_go k_answer_go
  have b_answer_go_ : Binds K _ P_answer_go [] := Binds.all (fd := PySem.W.fnOf "answer_go" "answer_go" (C8.fnArgs s_answer_go) (C8.fnBody s_answer_go) (C8.fnScope s_answer_go) .none kV_answer_go dc_answer_go pm_answer_go an_answer_go cd_answer_go ct_answer_go) fun us hl => match us, hl with | [_, _], _ => rfl
  have F_answer_leave := def_of_top (st := s_answer_leave) KX G a_answer_leave l_answer_leave c_answer_leave k_answer_leave
  have b_answer_leave_ : Binds K _ P_answer_leave [] := Binds.all (fd := PySem.W.fnOf "answer_leave" "answer_leave" (C8.fnArgs s_answer_leave) (C8.fnBody s_answer_leave) (C8.fnScope s_answer_leave) .none kV_answer_leave dc_answer_leave pm_answer_leave an_answer_leave cd_answer_leave ct_answer_leave) fun us hl => match us, hl with | [_, _], _ => rfl
  have F_answer_step := def_of_top (st := s_answer_step) KX G a_answer_step l_answer_step c_answer_step k_answer_step
  have b_answer_step_ : Binds K _ P_answer_step [] := Binds.all (fd := PySem.W.fnOf "answer_step" "answer_step" (C8.fnArgs s_answer_step) (C8.fnBody s_answer_step) (C8.fnScope s_answer_step) .none kV_answer_step dc_answer_step pm_answer_step an_answer_step cd_answer_step ct_answer_step) fun us hl => match us, hl with | [_, _], _ => rfl
  have F_answer_back := def_of_top (st := s_answer_back) KX G a_answer_back l_answer_back c_answer_back k_answer_back
  have b_answer_back_ : Binds K _ P_answer_back [] := Binds.all (fd := PySem.W.fnOf "answer_back" "answer_back" (C8.fnArgs s_answer_back) (C8.fnBody s_answer_back) (C8.fnScope s_answer_back) .none kV_answer_back dc_answer_back pm_answer_back an_answer_back cd_answer_back ct_answer_back) fun us hl => match us, hl with | [_, _], _ => rfl
  have F_answer_changing := def_of_top (st := s_answer_changing) KX G a_answer_changing l_answer_changing c_answer_changing k_answer_changing
  have b_answer_changing_ : Binds K _ P_answer_changing [] := Binds.all (fd := PySem.W.fnOf "answer_changing" "answer_changing" (C8.fnArgs s_answer_changing) (C8.fnBody s_answer_changing) (C8.fnScope s_answer_changing) .none kV_answer_changing dc_answer_changing pm_answer_changing an_answer_changing cd_answer_changing ct_answer_changing) fun us hl => match us, hl with | [_, _, _], _ => rfl
  have F_split_calls := def_of_top (st := s_split_calls) KX G a_split_calls l_split_calls c_split_calls k_split_calls
  have b_split_calls_ : Binds K _ P_split_calls [] := Binds.all (fd := PySem.W.fnOf "split_calls" "split_calls" (C8.fnArgs s_split_calls) (C8.fnBody s_split_calls) (C8.fnScope s_split_calls) .none kV_split_calls dc_split_calls pm_split_calls an_split_calls cd_split_calls ct_split_calls) fun us hl => match us, hl with | [_], _ => rfl
  have F_answer_call := def_of_top (st := s_answer_call) KX G a_answer_call l_answer_call c_answer_call k_answer_call
  have b_answer_call_ : Binds K _ P_answer_call [] := Binds.all (fd := PySem.W.fnOf "answer_call" "answer_call" (C8.fnArgs s_answer_call) (C8.fnBody s_answer_call) (C8.fnScope s_answer_call) .none kV_answer_call dc_answer_call pm_answer_call an_answer_call cd_answer_call ct_answer_call) fun us hl => match us, hl with | [_, _, _], _ => rfl
  have F_answers := def_of_top (st := s_answers) KX G a_answers l_answers c_answers k_answers
  have b_answers_ : Binds K _ P_answers [] := Binds.all (fd := PySem.W.fnOf "answers" "answers" (C8.fnArgs s_answers) (C8.fnBody s_answers) (C8.fnScope s_answers) .none kV_answers dc_answers pm_answers an_answers cd_answers ct_answers) fun us hl => match us, hl with | [_], _ => rfl
  obtain ⟨rec_most_among, r_most_among'⟩ := Option.isSome_iff_exists.mp r_most_among
  obtain ⟨hd_most_among, em_most_among⟩ := PySem.W.tab_of T KX r_most_among' (tabIn_of a_most_among l_most_among rfl b_most_among w_most_among)
  obtain ⟨rec_best_by, r_best_by'⟩ := Option.isSome_iff_exists.mp r_best_by
  obtain ⟨hd_best_by, em_best_by⟩ := PySem.W.tab_of T KX r_best_by' (tabIn_of a_best_by l_best_by rfl b_best_by w_best_by)
  have tabs : TabsOf K h [(co_most_among, tb_most_among), (co_best_by, tb_best_by)] := ⟨List.forall_mem_cons.mpr ⟨em_most_among, List.forall_mem_cons.mpr ⟨em_best_by, fun _ z => (by cases z)⟩⟩, List.forall_mem_cons.mpr ⟨o_most_among, List.forall_mem_cons.mpr ⟨o_best_by, fun _ z => (by cases z)⟩⟩, List.forall_mem_cons.mpr ⟨hd_most_among, List.forall_mem_cons.mpr ⟨hd_best_by, fun _ z => (by cases z)⟩⟩⟩
  refine ⟨PySem.W.fnOf "answers" "answers" (C8.fnArgs s_answers) (C8.fnBody s_answers) (C8.fnScope s_answers) .none kV_answers dc_answers pm_answers an_answers cd_answers ct_answers, [(co_most_among, tb_most_among), (co_best_by, tb_best_by)], sp_answers K [(tb_most_among, lamName "most_among"), (tb_best_by, lamName "best_by")], tabs, fun s u => .of_eq rfl, fun H a l hl hH hS => ?_, fun base KB GB TBs => ?_⟩
  · obtain ⟨raw, ln⟩ := line_of hl
    refine ⟨a, l, raw, rfl, hS, ln, tabs_start ?_, fun p H' hp => .lst (sq_of hp) (dw_ints _)⟩
    exact List.forall_mem_cons.mpr ⟨hH (co_most_among, tb_most_among) (List.Mem.head _), List.forall_mem_cons.mpr ⟨hH (co_best_by, tb_best_by) (List.Mem.tail _ (List.Mem.head _)), fun _ z => (by cases z)⟩⟩
  · have KB2 := KB
    have g_numbered := cal_numbered (P := PySem.Challenge.pw_restgroups_s01_answers) (w := w) (mg := mg) (base := base) F_numbered b_numbered_ B
    have g_how_many := cal_how_many (P := PySem.Challenge.pw_restgroups_s01_answers) (w := w) (mg := mg) (base := base) F_how_many b_how_many_ B
    have g_evened := cal_evened (P := PySem.Challenge.pw_restgroups_s01_answers) (w := w) (mg := mg) (base := base) F_evened b_evened_ B
    have g_people_by_set := cal_people_by_set (P := PySem.Challenge.pw_restgroups_s01_answers) (w := w) (mg := mg) (base := base) F_people_by_set b_people_by_set_ B
    have g_sums_by_set := cal_sums_by_set (P := PySem.Challenge.pw_restgroups_s01_answers) (w := w) (mg := mg) (base := base) F_sums_by_set b_sums_by_set_
    have g_has_in := cal_has_in (P := PySem.Challenge.pw_restgroups_s01_answers) (w := w) (mg := mg) (base := base) (Z := ⟨CK, CL, CS⟩) F_has_in b_has_in_ ZT
    have g_is_welcome := cal_is_welcome (P := PySem.Challenge.pw_restgroups_s01_answers) (w := w) (mg := mg) (base := base) (Z := ⟨CK, CL, CS⟩) F_is_welcome b_is_welcome_ B ZT
    have g_is_let_go := cal_is_let_go (P := PySem.Challenge.pw_restgroups_s01_answers) (w := w) (mg := mg) (base := base) (Z := ⟨CK, CL, CS⟩) F_is_let_go b_is_let_go_ B ZT
    have g_wished_by := cal_wished_by (P := PySem.Challenge.pw_restgroups_s01_answers) (w := w) (mg := mg) (base := base) (Z := ⟨CK, CL, CS⟩) F_wished_by b_wished_by_ B ZT
    have g_is_set := cal_is_set (P := PySem.Challenge.pw_restgroups_s01_answers) (w := w) (mg := mg) (base := base) F_is_set b_is_set_
    have g_how_they_leave := cal_how_they_leave (P := PySem.Challenge.pw_restgroups_s01_answers) (w := w) (mg := mg) (base := base) (Z := ⟨CK, CL, CS⟩) F_how_they_leave b_how_they_leave_ B ZT Cs
    have g_least_leaving := cal_least_leaving (P := PySem.Challenge.pw_restgroups_s01_answers) (w := w) (mg := mg) (base := base) F_least_leaving b_least_leaving_ Cs
    have g_is_lesser_within := cal_is_lesser_within (P := PySem.Challenge.pw_restgroups_s01_answers) (w := w) (mg := mg) (base := base) F_is_lesser_within b_is_lesser_within_
    have g_is_better_apart := cal_is_better_apart (P := PySem.Challenge.pw_restgroups_s01_answers) (w := w) (mg := mg) (base := base) (Z := ⟨CK, CL, CS⟩) F_is_better_apart b_is_better_apart_ B ZT
    have g_goodness := cal_goodness (P := PySem.Challenge.pw_restgroups_s01_answers) (w := w) (mg := mg) (base := base) (Z := ⟨CK, CL, CS⟩) F_goodness b_goodness_ B ZT
    have g_is_beaten_by := cal_is_beaten_by (P := PySem.Challenge.pw_restgroups_s01_answers) (w := w) (mg := mg) (base := base) (Z := ⟨CK, CL, CS⟩) F_is_beaten_by b_is_beaten_by_ B ZT
    have g_wanted_by := cal_wanted_by (P := PySem.Challenge.pw_restgroups_s01_answers) (w := w) (mg := mg) (base := base) F_wanted_by b_wanted_by_ B
    have g_is_envious := cal_is_envious (P := PySem.Challenge.pw_restgroups_s01_answers) (w := w) (mg := mg) (base := base) (Z := ⟨CK, CL, CS⟩) F_is_envious b_is_envious_ ZT
    have g_Kept := met_init (P := PySem.Challenge.pw_restgroups_s01_answers) (w := w) (mg := mg) (base := base) (Z := ⟨CK, CL, CS⟩) F_Kept___init__ ZT.k ⟨mkCK, a_Kept___init__, i_Kept___init__, kcCK⟩ (PySem.W.mg_of KX G aCK) b_Kept___init___
    have g_begin_anew := met_begin_anew (P := PySem.Challenge.pw_restgroups_s01_answers) (w := w) (mg := mg) (base := base) (Z := ⟨CK, CL, CS⟩) F_Kept_begin_anew ZT.k ⟨a_Kept_begin_anew, i_Kept_begin_anew, k_Kept_begin_anew⟩ b_Kept_begin_anew_ B
    have g_is_begun := met_is_begun (P := PySem.Challenge.pw_restgroups_s01_answers) (w := w) (mg := mg) (base := base) (Z := ⟨CK, CL, CS⟩) F_Kept_is_begun ZT.k ⟨a_Kept_is_begun, i_Kept_is_begun, k_Kept_is_begun⟩ b_Kept_is_begun_ B
    have g_is_person := met_is_person (P := PySem.Challenge.pw_restgroups_s01_answers) (w := w) (mg := mg) (base := base) (Z := ⟨CK, CL, CS⟩) F_Kept_is_person ZT.k ⟨a_Kept_is_person, i_Kept_is_person, k_Kept_is_person⟩ b_Kept_is_person_ B
    have g_remember := met_remember (P := PySem.Challenge.pw_restgroups_s01_answers) (w := w) (mg := mg) (base := base) (Z := ⟨CK, CL, CS⟩) F_Kept_remember ZT.k ⟨a_Kept_remember, i_Kept_remember, k_Kept_remember⟩ b_Kept_remember_ Cs
    have g_take_back := met_take_back (P := PySem.Challenge.pw_restgroups_s01_answers) (w := w) (mg := mg) (base := base) (Z := ⟨CK, CL, CS⟩) F_Kept_take_back ZT.k ⟨a_Kept_take_back, i_Kept_take_back, k_Kept_take_back⟩ b_Kept_take_back_
    have g_rests_somewhere := cal_rests_somewhere (P := PySem.Challenge.pw_restgroups_s01_answers) (w := w) (mg := mg) (base := base) F_rests_somewhere b_rests_somewhere_ B
    have g_goes_round := cal_goes_round (P := PySem.Challenge.pw_restgroups_s01_answers) (w := w) (mg := mg) (base := base) F_goes_round b_goes_round_ B
    have g_as_number := cal_as_number (P := PySem.Challenge.pw_restgroups_s01_answers) (w := w) (mg := mg) (base := base) F_as_number b_as_number_
    have g_counted := cal_counted (P := PySem.Challenge.pw_restgroups_s01_answers) (w := w) (mg := mg) (base := base) F_counted b_counted_ B
    have g_counted_pairs := cal_counted_pairs (P := PySem.Challenge.pw_restgroups_s01_answers) (w := w) (mg := mg) (base := base) F_counted_pairs b_counted_pairs_ B
    have g_is_worth := cal_is_worth (P := PySem.Challenge.pw_restgroups_s01_answers) (w := w) (mg := mg) (base := base) F_is_worth b_is_worth_ B Cs
    have g_with_row := cal_with_row (P := PySem.Challenge.pw_restgroups_s01_answers) (w := w) (mg := mg) (base := base) F_with_row b_with_row_ B
    have g_split_calls := cal_split_calls (P := PySem.Challenge.pw_restgroups_s01_answers) (w := w) (mg := mg) (base := base) F_split_calls b_split_calls_ B Cs
    have g_is_even := cal_is_even (P := PySem.Challenge.pw_restgroups_s01_answers) (w := w) (mg := mg) (base := base) F_is_even b_is_even_ g_evened
    have g_places_in := cal_places_in (P := PySem.Challenge.pw_restgroups_s01_answers) (w := w) (mg := mg) (base := base) F_places_in b_places_in_ B g_how_many
    have g_Liking := mak_Liking (P := PySem.Challenge.pw_restgroups_s01_answers) (w := w) (mg := mg) (base := base) (Z := ⟨CK, CL, CS⟩) F_Liking___init__ ZT ⟨mkCL, a_Liking___init__, i_Liking___init__, kcCL⟩ (PySem.W.mg_of KX G aCL) b_Liking___init___ B g_people_by_set g_sums_by_set
    have g_ways_there := cal_ways_there (P := PySem.Challenge.pw_restgroups_s01_answers) (w := w) (mg := mg) (base := base) (Z := ⟨CK, CL, CS⟩) F_ways_there b_ways_there_ ZT Cs g_has_in g_is_welcome g_is_let_go
    have g_gone := cal_gone (P := PySem.Challenge.pw_restgroups_s01_answers) (w := w) (mg := mg) (base := base) F_gone b_gone_ B g_numbered
    have g_leavers_by := cal_leavers_by (P := PySem.Challenge.pw_restgroups_s01_answers) (w := w) (mg := mg) (base := base) (Z := ⟨CK, CL, CS⟩) F_leavers_by b_leavers_by_ B ZT g_least_leaving g_how_they_leave
    have g_leaving_at_most := cal_leaving_at_most (P := PySem.Challenge.pw_restgroups_s01_answers) (w := w) (mg := mg) (base := base) (Z := ⟨CK, CL, CS⟩) F_leaving_at_most b_leaving_at_most_ B ZT Cs g_how_they_leave
    have g_left_by := cal_left_by (P := PySem.Challenge.pw_restgroups_s01_answers) (w := w) (mg := mg) (base := base) (Z := ⟨CK, CL, CS⟩) F_left_by b_left_by_ B ZT g_how_many g_numbered
    have g_is_firm := cal_is_firm (P := PySem.Challenge.pw_restgroups_s01_answers) (w := w) (mg := mg) (base := base) (Z := ⟨CK, CL, CS⟩) F_is_firm b_is_firm_ B g_is_better_apart g_is_lesser_within
    have g_with_one_more := cal_with_one_more (P := PySem.Challenge.pw_restgroups_s01_answers) (w := w) (mg := mg) (base := base) F_with_one_more b_with_one_more_ B g_how_many
    have g_envious_pairs := cal_envious_pairs (P := PySem.Challenge.pw_restgroups_s01_answers) (w := w) (mg := mg) (base := base) (Z := ⟨CK, CL, CS⟩) F_envious_pairs b_envious_pairs_ B ZT g_is_envious
    have g_change_worths := met_change_worths (P := PySem.Challenge.pw_restgroups_s01_answers) (w := w) (mg := mg) (base := base) (Z := ⟨CK, CL, CS⟩) F_Kept_change_worths ZT.k ⟨a_Kept_change_worths, i_Kept_change_worths, k_Kept_change_worths⟩ b_Kept_change_worths_ g_remember
    have g_lay_groups := met_lay_groups (P := PySem.Challenge.pw_restgroups_s01_answers) (w := w) (mg := mg) (base := base) (Z := ⟨CK, CL, CS⟩) F_Kept_lay_groups ZT.k ⟨a_Kept_lay_groups, i_Kept_lay_groups, k_Kept_lay_groups⟩ b_Kept_lay_groups_ g_remember
    have g_move_to := met_move_to (P := PySem.Challenge.pw_restgroups_s01_answers) (w := w) (mg := mg) (base := base) (Z := ⟨CK, CL, CS⟩) F_Kept_move_to ZT.k ⟨a_Kept_move_to, i_Kept_move_to, k_Kept_move_to⟩ b_Kept_move_to_ g_remember
    have g_told_groups := cal_told_groups (P := PySem.Challenge.pw_restgroups_s01_answers) (w := w) (mg := mg) (base := base) F_told_groups b_told_groups_ g_how_many
    have g_answer_likes := cal_answer_likes (P := PySem.Challenge.pw_restgroups_s01_answers) (w := w) (mg := mg) (base := base) (T := [(tb_most_among, lamName "most_among"), (tb_best_by, lamName "best_by")]) (Z := ⟨CK, CL, CS⟩) F_answer_likes b_answer_likes_ Cs ZT g_counted g_is_person
    have g_answer_begin := cal_answer_begin (P := PySem.Challenge.pw_restgroups_s01_answers) (w := w) (mg := mg) (base := base) (T := [(tb_most_among, lamName "most_among"), (tb_best_by, lamName "best_by")]) (Z := ⟨CK, CL, CS⟩) F_answer_begin b_answer_begin_ Cs g_begin_anew
    have g_answer_back := cal_answer_back (P := PySem.Challenge.pw_restgroups_s01_answers) (w := w) (mg := mg) (base := base) (T := [(tb_most_among, lamName "most_among"), (tb_best_by, lamName "best_by")]) (Z := ⟨CK, CL, CS⟩) F_answer_back b_answer_back_ B Cs ZT g_take_back
    have g_Standing := mak_Standing (P := PySem.Challenge.pw_restgroups_s01_answers) (w := w) (mg := mg) (base := base) (Z := ⟨CK, CL, CS⟩) F_Standing___init__ ZT ⟨mkCS, a_Standing___init__, i_Standing___init__, kcCS⟩ (PySem.W.mg_of KX G aCS) b_Standing___init___ B g_places_in
    have g_moves_by := cal_moves_by (P := PySem.Challenge.pw_restgroups_s01_answers) (w := w) (mg := mg) (base := base) (Z := ⟨CK, CL, CS⟩) F_moves_by b_moves_by_ B ZT g_wished_by g_ways_there
    have g_ways_anywhere := cal_ways_anywhere (P := PySem.Challenge.pw_restgroups_s01_answers) (w := w) (mg := mg) (base := base) (Z := ⟨CK, CL, CS⟩) F_ways_anywhere b_ways_anywhere_ B ZT Cs g_wished_by g_ways_there
    have g_is_holding := cal_is_holding (P := PySem.Challenge.pw_restgroups_s01_answers) (w := w) (mg := mg) (base := base) (Z := ⟨CK, CL, CS⟩) F_is_holding b_is_holding_ g_leaving_at_most g_least_leaving
    have g_firm_sets := cal_firm_sets (P := PySem.Challenge.pw_restgroups_s01_answers) (w := w) (mg := mg) (base := base) (Z := ⟨CK, CL, CS⟩) F_firm_sets b_firm_sets_ B ZT g_is_firm
    have g_all_ways := cal_all_ways (P := PySem.Challenge.pw_restgroups_s01_answers) (w := w) (mg := mg) (base := base) F_all_ways b_all_ways_ B g_with_one_more
    have g_told_if_any := cal_told_if_any (P := PySem.Challenge.pw_restgroups_s01_answers) (w := w) (mg := mg) (base := base) (Z := ⟨CK, CL, CS⟩) F_told_if_any b_told_if_any_ Cs ZT g_told_groups
    have g_answer_groups := cal_answer_groups (P := PySem.Challenge.pw_restgroups_s01_answers) (w := w) (mg := mg) (base := base) (T := [(tb_most_among, lamName "most_among"), (tb_best_by, lamName "best_by")]) (Z := ⟨CK, CL, CS⟩) F_answer_groups b_answer_groups_ ZT g_told_groups
    have g_answer_state := cal_answer_state (P := PySem.Challenge.pw_restgroups_s01_answers) (w := w) (mg := mg) (base := base) (T := [(tb_most_among, lamName "most_among"), (tb_best_by, lamName "best_by")]) (Z := ⟨CK, CL, CS⟩) F_answer_state b_answer_state_ B ZT g_as_number g_is_even
    have g_answer_like := cal_answer_like (P := PySem.Challenge.pw_restgroups_s01_answers) (w := w) (mg := mg) (base := base) (T := [(tb_most_among, lamName "most_among"), (tb_best_by, lamName "best_by")]) (Z := ⟨CK, CL, CS⟩) F_answer_like b_answer_like_ B Cs ZT g_is_worth g_with_row g_is_person g_change_worths
    have g_answer_row := cal_answer_row (P := PySem.Challenge.pw_restgroups_s01_answers) (w := w) (mg := mg) (base := base) (T := [(tb_most_among, lamName "most_among"), (tb_best_by, lamName "best_by")]) (Z := ⟨CK, CL, CS⟩) F_answer_row b_answer_row_ B Cs ZT g_is_worth g_with_row g_is_person g_change_worths
    have g_answer_even := cal_answer_even (P := PySem.Challenge.pw_restgroups_s01_answers) (w := w) (mg := mg) (base := base) (T := [(tb_most_among, lamName "most_among"), (tb_best_by, lamName "best_by")]) (Z := ⟨CK, CL, CS⟩) F_answer_even b_answer_even_ ZT g_is_even g_evened g_change_worths
    have g_answer_be := cal_answer_be (P := PySem.Challenge.pw_restgroups_s01_answers) (w := w) (mg := mg) (base := base) (T := [(tb_most_among, lamName "most_among"), (tb_best_by, lamName "best_by")]) (Z := ⟨CK, CL, CS⟩) F_answer_be b_answer_be_ B Cs ZT g_numbered g_how_many g_lay_groups
    have g_is_at_rest := cal_is_at_rest (P := PySem.Challenge.pw_restgroups_s01_answers) (w := w) (mg := mg) (base := base) (Z := ⟨CK, CL, CS⟩) F_is_at_rest b_is_at_rest_ g_ways_anywhere
    have g_most_among := cal_most_among (P := PySem.Challenge.pw_restgroups_s01_answers) (w := w) (mg := mg) (base := base) (Z := ⟨CK, CL, CS⟩) F_most_among b_most_among_ B (TBs (co_most_among, tb_most_among) (List.Mem.head _)) (T := [(tb_most_among, lamName "most_among"), (tb_best_by, lamName "best_by")]) (List.Mem.head _) (List.forall_mem_cons.mpr ⟨fun _ => rfl, List.forall_mem_cons.mpr ⟨fun z => absurd z.symm ne_most_among_best_by, fun _ z => (by cases z)⟩⟩) g_has_in
    have g_kinds_of := cal_kinds_of (P := PySem.Challenge.pw_restgroups_s01_answers) (w := w) (mg := mg) (base := base) (Z := ⟨CK, CL, CS⟩) F_kinds_of b_kinds_of_ Cs g_ways_anywhere g_leaving_at_most
    have g_best_by := cal_best_by (P := PySem.Challenge.pw_restgroups_s01_answers) (w := w) (mg := mg) (base := base) (Z := ⟨CK, CL, CS⟩) F_best_by b_best_by_ B (TBs (co_best_by, tb_best_by) (List.Mem.tail _ (List.Mem.head _))) (T := [(tb_most_among, lamName "most_among"), (tb_best_by, lamName "best_by")]) (List.Mem.tail _ (List.Mem.head _)) (List.forall_mem_cons.mpr ⟨fun z => absurd z ne_most_among_best_by, List.forall_mem_cons.mpr ⟨fun _ => rfl, fun _ z => (by cases z)⟩⟩) g_goodness
    have g_liking_of := cal_liking_of (P := PySem.Challenge.pw_restgroups_s01_answers) (w := w) (mg := mg) (base := base) (Z := ⟨CK, CL, CS⟩) F_liking_of b_liking_of_ ZT g_Liking
    have g_made_of_by_one_move := cal_made_of_by_one_move (P := PySem.Challenge.pw_restgroups_s01_answers) (w := w) (mg := mg) (base := base) (Z := ⟨CK, CL, CS⟩) F_made_of_by_one_move b_made_of_by_one_move_ B ZT g_moves_by g_gone
    have g_best_place := cal_best_place (P := PySem.Challenge.pw_restgroups_s01_answers) (w := w) (mg := mg) (base := base) (T := [(tb_most_among, lamName "most_among"), (tb_best_by, lamName "best_by")]) (Z := ⟨CK, CL, CS⟩) F_best_place b_best_place_ B ZT g_most_among
    have g_step_by := cal_step_by (P := PySem.Challenge.pw_restgroups_s01_answers) (w := w) (mg := mg) (base := base) (T := [(tb_most_among, lamName "most_among"), (tb_best_by, lamName "best_by")]) (Z := ⟨CK, CL, CS⟩) F_step_by b_step_by_ B g_moves_by g_most_among
    have g_all_standings := cal_all_standings (P := PySem.Challenge.pw_restgroups_s01_answers) (w := w) (mg := mg) (base := base) (Z := ⟨CK, CL, CS⟩) F_all_standings b_all_standings_ B ZT g_all_ways g_Standing
    have g_count_kinds := cal_count_kinds (P := PySem.Challenge.pw_restgroups_s01_answers) (w := w) (mg := mg) (base := base) (Z := ⟨CK, CL, CS⟩) F_count_kinds b_count_kinds_ B Cs g_kinds_of
    have g_standing_of := cal_standing_of (P := PySem.Challenge.pw_restgroups_s01_answers) (w := w) (mg := mg) (base := base) (Z := ⟨CK, CL, CS⟩) F_standing_of b_standing_of_ ZT g_Standing g_liking_of
    have g_all_come_to := cal_all_come_to (P := PySem.Challenge.pw_restgroups_s01_answers) (w := w) (mg := mg) (base := base) (Z := ⟨CK, CL, CS⟩) F_all_come_to b_all_come_to_ B ZT g_made_of_by_one_move g_Standing
    have g_answer_firm := cal_answer_firm (P := PySem.Challenge.pw_restgroups_s01_answers) (w := w) (mg := mg) (base := base) (T := [(tb_most_among, lamName "most_among"), (tb_best_by, lamName "best_by")]) (Z := ⟨CK, CL, CS⟩) F_answer_firm b_answer_firm_ g_counted g_firm_sets g_liking_of
    have g_first_beating := cal_first_beating (P := PySem.Challenge.pw_restgroups_s01_answers) (w := w) (mg := mg) (base := base) (Z := ⟨CK, CL, CS⟩) F_first_beating b_first_beating_ ZT g_all_standings g_is_beaten_by
    have g_first_perfect := cal_first_perfect (P := PySem.Challenge.pw_restgroups_s01_answers) (w := w) (mg := mg) (base := base) (Z := ⟨CK, CL, CS⟩) F_first_perfect b_first_perfect_ ZT g_wanted_by g_all_standings
    have g_run_from := cal_run_from (P := PySem.Challenge.pw_restgroups_s01_answers) (w := w) (mg := mg) (base := base) (T := [(tb_most_among, lamName "most_among"), (tb_best_by, lamName "best_by")]) (Z := ⟨CK, CL, CS⟩) F_run_from b_run_from_ B ZT g_step_by g_Standing g_gone
    have g_answer_worths := cal_answer_worths (P := PySem.Challenge.pw_restgroups_s01_answers) (w := w) (mg := mg) (base := base) (T := [(tb_most_among, lamName "most_among"), (tb_best_by, lamName "best_by")]) (Z := ⟨CK, CL, CS⟩) F_answer_worths b_answer_worths_ B ZT g_standing_of
    have g_answer_moves := cal_answer_moves (P := PySem.Challenge.pw_restgroups_s01_answers) (w := w) (mg := mg) (base := base) (T := [(tb_most_among, lamName "most_among"), (tb_best_by, lamName "best_by")]) (Z := ⟨CK, CL, CS⟩) F_answer_moves b_answer_moves_ Cs g_counted_pairs g_moves_by g_standing_of
    have g_answer_best := cal_answer_best (P := PySem.Challenge.pw_restgroups_s01_answers) (w := w) (mg := mg) (base := base) (T := [(tb_most_among, lamName "most_among"), (tb_best_by, lamName "best_by")]) (Z := ⟨CK, CL, CS⟩) F_answer_best b_answer_best_ Cs g_standing_of g_best_place g_has_in g_is_person
    have g_answer_leavers := cal_answer_leavers (P := PySem.Challenge.pw_restgroups_s01_answers) (w := w) (mg := mg) (base := base) (T := [(tb_most_among, lamName "most_among"), (tb_best_by, lamName "best_by")]) (Z := ⟨CK, CL, CS⟩) F_answer_leavers b_answer_leavers_ Cs g_counted g_leavers_by g_standing_of
    have g_answer_rests := cal_answer_rests (P := PySem.Challenge.pw_restgroups_s01_answers) (w := w) (mg := mg) (base := base) (T := [(tb_most_among, lamName "most_among"), (tb_best_by, lamName "best_by")]) (Z := ⟨CK, CL, CS⟩) F_answer_rests b_answer_rests_ Cs g_as_number g_is_at_rest g_standing_of
    have g_answer_holds := cal_answer_holds (P := PySem.Challenge.pw_restgroups_s01_answers) (w := w) (mg := mg) (base := base) (T := [(tb_most_among, lamName "most_among"), (tb_best_by, lamName "best_by")]) (Z := ⟨CK, CL, CS⟩) F_answer_holds b_answer_holds_ Cs g_as_number g_is_holding g_standing_of
    have g_answer_kinds := cal_answer_kinds (P := PySem.Challenge.pw_restgroups_s01_answers) (w := w) (mg := mg) (base := base) (T := [(tb_most_among, lamName "most_among"), (tb_best_by, lamName "best_by")]) (Z := ⟨CK, CL, CS⟩) F_answer_kinds b_answer_kinds_ B g_all_standings g_liking_of g_count_kinds
    have g_answer_round := cal_answer_round (P := PySem.Challenge.pw_restgroups_s01_answers) (w := w) (mg := mg) (base := base) (T := [(tb_most_among, lamName "most_among"), (tb_best_by, lamName "best_by")]) (Z := ⟨CK, CL, CS⟩) F_answer_round b_answer_round_ B Cs g_all_come_to g_standing_of g_as_number g_goes_round g_rests_somewhere
    have g_answer_most := cal_answer_most (P := PySem.Challenge.pw_restgroups_s01_answers) (w := w) (mg := mg) (base := base) (T := [(tb_most_among, lamName "most_among"), (tb_best_by, lamName "best_by")]) (Z := ⟨CK, CL, CS⟩) F_answer_most b_answer_most_ Cs ZT g_best_by g_all_standings g_liking_of g_told_groups g_goodness
    have g_answer_among := cal_answer_among (P := PySem.Challenge.pw_restgroups_s01_answers) (w := w) (mg := mg) (base := base) (T := [(tb_most_among, lamName "most_among"), (tb_best_by, lamName "best_by")]) (Z := ⟨CK, CL, CS⟩) F_answer_among b_answer_among_ Cs ZT g_all_standings g_liking_of g_best_by g_kinds_of g_told_groups g_goodness
    have g_answer_envies := cal_answer_envies (P := PySem.Challenge.pw_restgroups_s01_answers) (w := w) (mg := mg) (base := base) (T := [(tb_most_among, lamName "most_among"), (tb_best_by, lamName "best_by")]) (Z := ⟨CK, CL, CS⟩) F_answer_envies b_answer_envies_ g_counted_pairs g_envious_pairs g_standing_of
    have g_answer_go := cal_answer_go (P := PySem.Challenge.pw_restgroups_s01_answers) (w := w) (mg := mg) (base := base) (T := [(tb_most_among, lamName "most_among"), (tb_best_by, lamName "best_by")]) (Z := ⟨CK, CL, CS⟩) F_answer_go b_answer_go_ Cs ZT g_how_many g_standing_of g_gone g_has_in g_ways_there g_is_person g_move_to
    have g_answer_leave := cal_answer_leave (P := PySem.Challenge.pw_restgroups_s01_answers) (w := w) (mg := mg) (base := base) (T := [(tb_most_among, lamName "most_among"), (tb_best_by, lamName "best_by")]) (Z := ⟨CK, CL, CS⟩) F_answer_leave b_answer_leave_ B Cs ZT g_is_set g_standing_of g_left_by g_how_they_leave g_move_to
    have g_answer_step := cal_answer_step (P := PySem.Challenge.pw_restgroups_s01_answers) (w := w) (mg := mg) (base := base) (T := [(tb_most_among, lamName "most_among"), (tb_best_by, lamName "best_by")]) (Z := ⟨CK, CL, CS⟩) F_answer_step b_answer_step_ Cs ZT g_step_by g_standing_of g_gone g_move_to
    have g_answer_run := cal_answer_run (P := PySem.Challenge.pw_restgroups_s01_answers) (w := w) (mg := mg) (base := base) (T := [(tb_most_among, lamName "most_among"), (tb_best_by, lamName "best_by")]) (Z := ⟨CK, CL, CS⟩) F_answer_run b_answer_run_ Cs g_run_from g_standing_of g_as_number
    have g_answer_beaten := cal_answer_beaten (P := PySem.Challenge.pw_restgroups_s01_answers) (w := w) (mg := mg) (base := base) (T := [(tb_most_among, lamName "most_among"), (tb_best_by, lamName "best_by")]) (Z := ⟨CK, CL, CS⟩) F_answer_beaten b_answer_beaten_ g_told_if_any g_first_beating g_standing_of
    have g_answer_perfect := cal_answer_perfect (P := PySem.Challenge.pw_restgroups_s01_answers) (w := w) (mg := mg) (base := base) (T := [(tb_most_among, lamName "most_among"), (tb_best_by, lamName "best_by")]) (Z := ⟨CK, CL, CS⟩) F_answer_perfect b_answer_perfect_ g_told_if_any g_first_perfect g_liking_of
    have at_CHANGERS : AnsT PySem.Challenge.pw_restgroups_s01_answers w K mg base ⟨CK, CL, CS⟩ [(tb_most_among, lamName "most_among"), (tb_best_by, lamName "best_by")] "CHANGERS" 0 9 6 := by
      refine ⟨_, PySem.W.mg_of KX G q_CHANGERS, [f_answer_begin, f_answer_like, f_answer_row, f_answer_even, f_answer_be, f_answer_go, f_answer_leave, f_answer_step, f_answer_back], sqT_of l_CHANGERS v_CHANGERS s_CHANGERS, fun n hn => ?_⟩
      match n, hn with
      | 0, _ => exact ⟨_, 2, rfl, by decide, calAt_of g_answer_begin F_answer_begin.mgf⟩
      | 1, _ => exact ⟨_, 3, rfl, by decide, calAt_of g_answer_like F_answer_like.mgf⟩
      | 2, _ => exact ⟨_, 3, rfl, by decide, calAt_of g_answer_row F_answer_row.mgf⟩
      | 3, _ => exact ⟨_, 3, rfl, by decide, calAt_of g_answer_even F_answer_even.mgf⟩
      | 4, _ => exact ⟨_, 3, rfl, by decide, calAt_of g_answer_be F_answer_be.mgf⟩
      | 5, _ => exact ⟨_, 6, rfl, by decide, calAt_of g_answer_go F_answer_go.mgf⟩
      | 6, _ => exact ⟨_, 6, rfl, by decide, calAt_of g_answer_leave F_answer_leave.mgf⟩
      | 7, _ => exact ⟨_, 6, rfl, by decide, calAt_of g_answer_step F_answer_step.mgf⟩
      | 8, _ => exact ⟨_, 2, rfl, by decide, calAt_of g_answer_back F_answer_back.mgf⟩
      | m + 9, hm => exact absurd hm (by omega)
    have g_answer_changing := cal_answer_changing (P := PySem.Challenge.pw_restgroups_s01_answers) (w := w) (mg := mg) (base := base) (T := [(tb_most_among, lamName "most_among"), (tb_best_by, lamName "best_by")]) (Z := ⟨CK, CL, CS⟩) F_answer_changing b_answer_changing_ at_CHANGERS
    have at_ASKERS : AnsT PySem.Challenge.pw_restgroups_s01_answers w K mg base ⟨CK, CL, CS⟩ [(tb_most_among, lamName "most_among"), (tb_best_by, lamName "best_by")] "ASKERS" 9 18 7 := by
      refine ⟨_, PySem.W.mg_of KX G q_ASKERS, [f_answer_worths, f_answer_moves, f_answer_best, f_answer_leavers, f_answer_rests, f_answer_holds, f_answer_kinds, f_answer_run, f_answer_round, f_answer_most, f_answer_among, f_answer_beaten, f_answer_envies, f_answer_firm, f_answer_perfect, f_answer_likes, f_answer_groups, f_answer_state], sqT_of l_ASKERS v_ASKERS s_ASKERS, fun n hn => ?_⟩
      match n, hn with
      | 0, _ => exact ⟨_, 6, rfl, by decide, calAt_of g_answer_worths F_answer_worths.mgf⟩
      | 1, _ => exact ⟨_, 6, rfl, by decide, calAt_of g_answer_moves F_answer_moves.mgf⟩
      | 2, _ => exact ⟨_, 6, rfl, by decide, calAt_of g_answer_best F_answer_best.mgf⟩
      | 3, _ => exact ⟨_, 6, rfl, by decide, calAt_of g_answer_leavers F_answer_leavers.mgf⟩
      | 4, _ => exact ⟨_, 6, rfl, by decide, calAt_of g_answer_rests F_answer_rests.mgf⟩
      | 5, _ => exact ⟨_, 6, rfl, by decide, calAt_of g_answer_holds F_answer_holds.mgf⟩
      | 6, _ => exact ⟨_, 6, rfl, by decide, calAt_of g_answer_kinds F_answer_kinds.mgf⟩
      | 7, _ => exact ⟨_, 7, rfl, by decide, calAt_of g_answer_run F_answer_run.mgf⟩
      | 8, _ => exact ⟨_, 6, rfl, by decide, calAt_of g_answer_round F_answer_round.mgf⟩
      | 9, _ => exact ⟨_, 6, rfl, by decide, calAt_of g_answer_most F_answer_most.mgf⟩
      | 10, _ => exact ⟨_, 6, rfl, by decide, calAt_of g_answer_among F_answer_among.mgf⟩
      | 11, _ => exact ⟨_, 7, rfl, by decide, calAt_of g_answer_beaten F_answer_beaten.mgf⟩
      | 12, _ => exact ⟨_, 6, rfl, by decide, calAt_of g_answer_envies F_answer_envies.mgf⟩
      | 13, _ => exact ⟨_, 5, rfl, by decide, calAt_of g_answer_firm F_answer_firm.mgf⟩
      | 14, _ => exact ⟨_, 7, rfl, by decide, calAt_of g_answer_perfect F_answer_perfect.mgf⟩
      | 15, _ => exact ⟨_, 2, rfl, by decide, calAt_of g_answer_likes F_answer_likes.mgf⟩
      | 16, _ => exact ⟨_, 3, rfl, by decide, calAt_of g_answer_groups F_answer_groups.mgf⟩
      | 17, _ => exact ⟨_, 3, rfl, by decide, calAt_of g_answer_state F_answer_state.mgf⟩
      | m + 18, hm => exact absurd hm (by omega)
    have g_answer_asking := cal_answer_asking (P := PySem.Challenge.pw_restgroups_s01_answers) (w := w) (mg := mg) (base := base) (T := [(tb_most_among, lamName "most_among"), (tb_best_by, lamName "best_by")]) (Z := ⟨CK, CL, CS⟩) F_answer_asking b_answer_asking_ at_ASKERS
    have g_answer_call := cal_answer_call (P := PySem.Challenge.pw_restgroups_s01_answers) (w := w) (mg := mg) (base := base) (T := [(tb_most_among, lamName "most_among"), (tb_best_by, lamName "best_by")]) (Z := ⟨CK, CL, CS⟩) F_answer_call b_answer_call_ Cs g_answer_changing g_answer_asking g_is_begun
    exact fn_answers (Z := ⟨CK, CL, CS⟩) (T := [(tb_most_among, lamName "most_among"), (tb_best_by, lamName "best_by")]) F_answers B g_Kept g_split_calls g_answer_call
end Rg
open PySem PySem.W PyProof.Rows
set_option maxRecDepth 100000 in
set_option maxHeartbeats 0 in
theorem PySem.Challenge.cw_restgroups_s01_answers_holds : PySem.Challenge.rw_restgroups_s01_answers.Holds := by
  w_on; k_headS; (case hw => exact ⟨[.list [.int 3]], by decide +kernel, by decide +kernel⟩)
  k_fillS
  refine Rg.end_walk (k := 10) (CX := C8.CX0) (x := "calls") (by decide +kernel) rfl ⟨rfl, by decide, by decide⟩ (fun w h Y => PySem.W.kIn_of Y) ?F (fun _ _ _ _ z => z)
  case F =>
    intro w mean mg mb fa h T KX hmg
    refine' Rg.all_mk KX T hmg ?aCK ?aCL ?aCS ?a_numbered ?l_numbered ?c_numbered ?k_numbered ?a_how_many ?l_how_many ?c_how_many ?k_how_many ?a_evened ?l_evened ?c_evened ?k_evened ?a_is_even ?l_is_even ?c_is_even ?k_is_even ?a_people_by_set ?l_people_by_set ?c_people_by_set ?k_people_by_set ?a_sums_by_set ?l_sums_by_set ?c_sums_by_set ?k_sums_by_set ?a_places_in ?l_places_in ?c_places_in ?k_places_in ?a_Liking___init__ ?i_Liking___init__ ?l_Liking___init__ ?c_Liking___init__ ?k_Liking___init__ ?a_Standing___init__ ?i_Standing___init__ ?l_Standing___init__ ?c_Standing___init__ ?k_Standing___init__ ?a_has_in ?l_has_in ?c_has_in ?k_has_in ?a_is_welcome ?l_is_welcome ?c_is_welcome ?k_is_welcome ?a_is_let_go ?l_is_let_go ?c_is_let_go ?k_is_let_go ?a_ways_there ?l_ways_there ?c_ways_there ?k_ways_there ?a_wished_by ?l_wished_by ?c_wished_by ?k_wished_by ?a_moves_by ?l_moves_by ?c_moves_by ?k_moves_by ?a_ways_anywhere ?l_ways_anywhere ?c_ways_anywhere ?k_ways_anywhere ?a_is_at_rest ?l_is_at_rest ?c_is_at_rest ?k_is_at_rest ?a_most_among ?l_most_among ?c_most_among ?k_most_among ?a_best_place ?l_best_place ?c_best_place ?k_best_place ?a_step_by ?l_step_by ?c_step_by ?k_step_by ?a_gone ?l_gone ?c_gone ?k_gone ?a_is_set ?l_is_set ?c_is_set ?k_is_set ?a_how_they_leave ?l_how_they_leave ?c_how_they_leave ?k_how_they_leave ?a_least_leaving ?l_least_leaving ?c_least_leaving ?k_least_leaving ?a_leavers_by ?l_leavers_by ?c_leavers_by ?k_leavers_by ?a_leaving_at_most ?l_leaving_at_most ?c_leaving_at_most ?k_leaving_at_most ?a_is_holding ?l_is_holding ?c_is_holding ?k_is_holding ?a_left_by ?l_left_by ?c_left_by ?k_left_by ?a_is_lesser_within ?l_is_lesser_within ?c_is_lesser_within ?k_is_lesser_within ?a_is_better_apart ?l_is_better_apart ?c_is_better_apart ?k_is_better_apart ?a_is_firm ?l_is_firm ?c_is_firm ?k_is_firm ?a_firm_sets ?l_firm_sets ?c_firm_sets ?k_firm_sets ?a_with_one_more ?l_with_one_more ?c_with_one_more ?k_with_one_more ?a_all_ways ?l_all_ways ?c_all_ways ?k_all_ways ?a_all_standings ?l_all_standings ?c_all_standings ?k_all_standings ?a_kinds_of ?l_kinds_of ?c_kinds_of ?k_kinds_of ?a_count_kinds ?l_count_kinds ?c_count_kinds ?k_count_kinds ?a_goodness ?l_goodness ?c_goodness ?k_goodness ?a_best_by ?l_best_by ?c_best_by ?k_best_by ?a_is_beaten_by ?l_is_beaten_by ?c_is_beaten_by ?k_is_beaten_by ?a_first_beating ?l_first_beating ?c_first_beating ?k_first_beating ?a_wanted_by ?l_wanted_by ?c_wanted_by ?k_wanted_by ?a_first_perfect ?l_first_perfect ?c_first_perfect ?k_first_perfect ?a_is_envious ?l_is_envious ?c_is_envious ?k_is_envious ?a_envious_pairs ?l_envious_pairs ?c_envious_pairs ?k_envious_pairs ?a_Kept___init__ ?i_Kept___init__ ?l_Kept___init__ ?c_Kept___init__ ?k_Kept___init__ ?a_Kept_begin_anew ?i_Kept_begin_anew ?l_Kept_begin_anew ?c_Kept_begin_anew ?k_Kept_begin_anew ?a_Kept_is_begun ?i_Kept_is_begun ?l_Kept_is_begun ?c_Kept_is_begun ?k_Kept_is_begun ?a_Kept_is_person ?i_Kept_is_person ?l_Kept_is_person ?c_Kept_is_person ?k_Kept_is_person ?a_Kept_remember ?i_Kept_remember ?l_Kept_remember ?c_Kept_remember ?k_Kept_remember ?a_Kept_change_worths ?i_Kept_change_worths ?l_Kept_change_worths ?c_Kept_change_worths ?k_Kept_change_worths ?a_Kept_lay_groups ?i_Kept_lay_groups ?l_Kept_lay_groups ?c_Kept_lay_groups ?k_Kept_lay_groups ?a_Kept_move_to ?i_Kept_move_to ?l_Kept_move_to ?c_Kept_move_to ?k_Kept_move_to ?a_Kept_take_back ?i_Kept_take_back ?l_Kept_take_back ?c_Kept_take_back ?k_Kept_take_back ?a_liking_of ?l_liking_of ?c_liking_of ?k_liking_of ?a_standing_of ?l_standing_of ?c_standing_of ?k_standing_of ?a_run_from ?l_run_from ?c_run_from ?k_run_from ?a_made_of_by_one_move ?l_made_of_by_one_move ?c_made_of_by_one_move ?k_made_of_by_one_move ?a_all_come_to ?l_all_come_to ?c_all_come_to ?k_all_come_to ?a_rests_somewhere ?l_rests_somewhere ?c_rests_somewhere ?k_rests_somewhere ?a_goes_round ?l_goes_round ?c_goes_round ?k_goes_round ?a_as_number ?l_as_number ?c_as_number ?k_as_number ?a_counted ?l_counted ?c_counted ?k_counted ?a_counted_pairs ?l_counted_pairs ?c_counted_pairs ?k_counted_pairs ?a_told_groups ?l_told_groups ?c_told_groups ?k_told_groups ?a_told_if_any ?l_told_if_any ?c_told_if_any ?k_told_if_any ?a_answer_worths ?l_answer_worths ?c_answer_worths ?k_answer_worths ?a_answer_moves ?l_answer_moves ?c_answer_moves ?k_answer_moves ?a_answer_best ?l_answer_best ?c_answer_best ?k_answer_best ?a_answer_leavers ?l_answer_leavers ?c_answer_leavers ?k_answer_leavers ?a_answer_rests ?l_answer_rests ?c_answer_rests ?k_answer_rests ?a_answer_holds ?l_answer_holds ?c_answer_holds ?k_answer_holds ?a_answer_kinds ?l_answer_kinds ?c_answer_kinds ?k_answer_kinds ?a_answer_run ?l_answer_run ?c_answer_run ?k_answer_run ?a_answer_round ?l_answer_round ?c_answer_round ?k_answer_round ?a_answer_most ?l_answer_most ?c_answer_most ?k_answer_most ?a_answer_among ?l_answer_among ?c_answer_among ?k_answer_among ?a_answer_beaten ?l_answer_beaten ?c_answer_beaten ?k_answer_beaten ?a_answer_envies ?l_answer_envies ?c_answer_envies ?k_answer_envies ?a_answer_firm ?l_answer_firm ?c_answer_firm ?k_answer_firm ?a_answer_perfect ?l_answer_perfect ?c_answer_perfect ?k_answer_perfect ?a_answer_likes ?l_answer_likes ?c_answer_likes ?k_answer_likes ?a_answer_groups ?l_answer_groups ?c_answer_groups ?k_answer_groups ?a_answer_state ?l_answer_state ?c_answer_state ?k_answer_state ?a_answer_asking ?l_answer_asking ?c_answer_asking ?k_answer_asking ?a_is_worth ?l_is_worth ?c_is_worth ?k_is_worth ?a_with_row ?l_with_row ?c_with_row ?k_with_row ?a_answer_begin ?l_answer_begin ?c_answer_begin ?k_answer_begin ?a_answer_like ?l_answer_like ?c_answer_like ?k_answer_like ?a_answer_row ?l_answer_row ?c_answer_row ?k_answer_row ?a_answer_even ?l_answer_even ?c_answer_even ?k_answer_even ?a_answer_be ?l_answer_be ?c_answer_be ?k_answer_be ?a_answer_go ?l_answer_go ?c_answer_go ?k_answer_go ?a_answer_leave ?l_answer_leave ?c_answer_leave ?k_answer_leave ?a_answer_step ?l_answer_step ?c_answer_step ?k_answer_step ?a_answer_back ?l_answer_back ?c_answer_back ?k_answer_back ?a_answer_changing ?l_answer_changing ?c_answer_changing ?k_answer_changing ?a_split_calls ?l_split_calls ?c_split_calls ?k_split_calls ?a_answer_call ?l_answer_call ?c_answer_call ?k_answer_call ?a_answers ?l_answers ?c_answers ?k_answers ?pgCK ?hdCK ?poCK ?saCK ?mkCK ?kcCK ?pgCL ?hdCL ?poCL ?saCL ?mkCL ?kcCL ?pgCS ?hdCS ?poCS ?saCS ?mkCS ?kcCS ?n_kW ?n_kG ?n_kM ?n_kP ?n_lW ?n_lP ?n_lS ?n_sL ?n_sG ?n_sP ?n_sH ?z_len ?z_range ?z_sum ?z_all ?z_max ?z_min ?z_abs ?z_list ?z_any ?z_enumerate ?z_zip ?z_tuple ?q_EVERY_WAY ?q_NOT_AT_ALL ?q_WEAKLY ?q_WHOLLY ?q_KINDS_OF_REST ?q_MOST_TAKEN_BACK ?q_NOT_BEGUN ?q_NOT_THERE ?q_WRONG ?q_OWN_GROUP ?q_NOTHING_TO_DO ?q_NONE_SUCH ?q_MOST_PEOPLE ?q_MOST_WORTH ?q_LAST_WAY ?q_LAST_LEAVING ?q_LAST_BEST ?q_LAST_KIND ?q_BEGIN ?q_ROW ?q_BE ?q_FIRST_ASKING ?q_ASKERS ?l_ASKERS ?v_ASKERS ?s_ASKERS ?q_CHANGERS ?l_CHANGERS ?v_CHANGERS ?s_CHANGERS ?q_PLAIN_NUMBERS ?l_PLAIN_NUMBERS ?v_PLAIN_NUMBERS ?s_PLAIN_NUMBERS ?r_most_among ?b_most_among ?w_most_among ?o_most_among ?r_best_by ?b_best_by ?w_best_by ?o_best_by ?ne_most_among_best_by
    (case aCK => k_is)
    (case aCL => k_is)
    (case aCS => k_is)
    (case a_numbered => k_is)
    (case l_numbered => k_is)
    (case c_numbered => k_is)
    (case k_numbered => k_is)
    (case a_how_many => k_is)
    (case l_how_many => k_is)
    (case c_how_many => k_is)
    (case k_how_many => k_is)
    (case a_evened => k_is)
    (case l_evened => k_is)
    (case c_evened => k_is)
    (case k_evened => k_is)
    (case a_is_even => k_is)
    (case l_is_even => k_is)
    (case c_is_even => k_is)
    (case k_is_even => k_is)
    (case a_people_by_set => k_is)
    (case l_people_by_set => k_is)
    (case c_people_by_set => k_is)
    (case k_people_by_set => k_is)
    (case a_sums_by_set => k_is)
    (case l_sums_by_set => k_is)
    (case c_sums_by_set => k_is)
    (case k_sums_by_set => k_is)
    (case a_places_in => k_is)
    (case l_places_in => k_is)
    (case c_places_in => k_is)
    (case k_places_in => k_is)
    (case a_Liking___init__ => k_is)
    (case i_Liking___init__ => k_is)
    (case l_Liking___init__ => k_is)
    (case c_Liking___init__ => k_is)
    (case k_Liking___init__ => k_is)
    (case a_Standing___init__ => k_is)
    (case i_Standing___init__ => k_is)
    (case l_Standing___init__ => k_is)
    (case c_Standing___init__ => k_is)
    (case k_Standing___init__ => k_is)
    (case a_has_in => k_is)
    (case l_has_in => k_is)
    (case c_has_in => k_is)
    (case k_has_in => k_is)
    (case a_is_welcome => k_is)
    (case l_is_welcome => k_is)
    (case c_is_welcome => k_is)
    (case k_is_welcome => k_is)
    (case a_is_let_go => k_is)
    (case l_is_let_go => k_is)
    (case c_is_let_go => k_is)
    (case k_is_let_go => k_is)
    (case a_ways_there => k_is)
    (case l_ways_there => k_is)
    (case c_ways_there => k_is)
    (case k_ways_there => k_is)
    (case a_wished_by => k_is)
    (case l_wished_by => k_is)
    (case c_wished_by => k_is)
    (case k_wished_by => k_is)
    (case a_moves_by => k_is)
    (case l_moves_by => k_is)
    (case c_moves_by => k_is)
    (case k_moves_by => k_is)
    (case a_ways_anywhere => k_is)
    (case l_ways_anywhere => k_is)
    (case c_ways_anywhere => k_is)
    (case k_ways_anywhere => k_is)
    (case a_is_at_rest => k_is)
    (case l_is_at_rest => k_is)
    (case c_is_at_rest => k_is)
    (case k_is_at_rest => k_is)
    (case a_most_among => k_is)
    (case l_most_among => k_is)
    (case c_most_among => k_is)
    (case k_most_among => k_is)
    (case a_best_place => k_is)
    (case l_best_place => k_is)
    (case c_best_place => k_is)
    (case k_best_place => k_is)
    (case a_step_by => k_is)
    (case l_step_by => k_is)
    (case c_step_by => k_is)
    (case k_step_by => k_is)
    (case a_gone => k_is)
    (case l_gone => k_is)
    (case c_gone => k_is)
    (case k_gone => k_is)
    (case a_is_set => k_is)
    (case l_is_set => k_is)
    (case c_is_set => k_is)
    (case k_is_set => k_is)
    (case a_how_they_leave => k_is)
    (case l_how_they_leave => k_is)
    (case c_how_they_leave => k_is)
    (case k_how_they_leave => k_is)
    (case a_least_leaving => k_is)
    (case l_least_leaving => k_is)
    (case c_least_leaving => k_is)
    (case k_least_leaving => k_is)
    (case a_leavers_by => k_is)
    (case l_leavers_by => k_is)
    (case c_leavers_by => k_is)
    (case k_leavers_by => k_is)
    (case a_leaving_at_most => k_is)
    (case l_leaving_at_most => k_is)
    (case c_leaving_at_most => k_is)
    (case k_leaving_at_most => k_is)
    (case a_is_holding => k_is)
    (case l_is_holding => k_is)
    (case c_is_holding => k_is)
    (case k_is_holding => k_is)
    (case a_left_by => k_is)
    (case l_left_by => k_is)
    (case c_left_by => k_is)
    (case k_left_by => k_is)
    (case a_is_lesser_within => k_is)
    (case l_is_lesser_within => k_is)
    (case c_is_lesser_within => k_is)
    (case k_is_lesser_within => k_is)
    (case a_is_better_apart => k_is)
    (case l_is_better_apart => k_is)
    (case c_is_better_apart => k_is)
    (case k_is_better_apart => k_is)
    (case a_is_firm => k_is)
    (case l_is_firm => k_is)
    (case c_is_firm => k_is)
    (case k_is_firm => k_is)
    (case a_firm_sets => k_is)
    (case l_firm_sets => k_is)
    (case c_firm_sets => k_is)
    (case k_firm_sets => k_is)
    (case a_with_one_more => k_is)
    (case l_with_one_more => k_is)
    (case c_with_one_more => k_is)
    (case k_with_one_more => k_is)
    (case a_all_ways => k_is)
    (case l_all_ways => k_is)
    (case c_all_ways => k_is)
    (case k_all_ways => k_is)
    (case a_all_standings => k_is)
    (case l_all_standings => k_is)
    (case c_all_standings => k_is)
    (case k_all_standings => k_is)
    (case a_kinds_of => k_is)
    (case l_kinds_of => k_is)
    (case c_kinds_of => k_is)
    (case k_kinds_of => k_is)
    (case a_count_kinds => k_is)
    (case l_count_kinds => k_is)
    (case c_count_kinds => k_is)
    (case k_count_kinds => k_is)
    (case a_goodness => k_is)
    (case l_goodness => k_is)
    (case c_goodness => k_is)
    (case k_goodness => k_is)
    (case a_best_by => k_is)
    (case l_best_by => k_is)
    (case c_best_by => k_is)
    (case k_best_by => k_is)
    (case a_is_beaten_by => k_is)
    (case l_is_beaten_by => k_is)
    (case c_is_beaten_by => k_is)
    (case k_is_beaten_by => k_is)
    (case a_first_beating => k_is)
    (case l_first_beating => k_is)
    (case c_first_beating => k_is)
    (case k_first_beating => k_is)
    (case a_wanted_by => k_is)
    (case l_wanted_by => k_is)
    (case c_wanted_by => k_is)
    (case k_wanted_by => k_is)
    (case a_first_perfect => k_is)
    (case l_first_perfect => k_is)
    (case c_first_perfect => k_is)
    (case k_first_perfect => k_is)
    (case a_is_envious => k_is)
    (case l_is_envious => k_is)
    (case c_is_envious => k_is)
    (case k_is_envious => k_is)
    (case a_envious_pairs => k_is)
    (case l_envious_pairs => k_is)
    (case c_envious_pairs => k_is)
    (case k_envious_pairs => k_is)
    (case a_Kept___init__ => k_is)
    (case i_Kept___init__ => k_is)
    (case l_Kept___init__ => k_is)
    (case c_Kept___init__ => k_is)
    (case k_Kept___init__ => k_is)
    (case a_Kept_begin_anew => k_is)
    (case i_Kept_begin_anew => k_is)
    (case l_Kept_begin_anew => k_is)
    (case c_Kept_begin_anew => k_is)
    (case k_Kept_begin_anew => k_is)
    (case a_Kept_is_begun => k_is)
    (case i_Kept_is_begun => k_is)
    (case l_Kept_is_begun => k_is)
    (case c_Kept_is_begun => k_is)
    (case k_Kept_is_begun => k_is)
    (case a_Kept_is_person => k_is)
    (case i_Kept_is_person => k_is)
    (case l_Kept_is_person => k_is)
    (case c_Kept_is_person => k_is)
    (case k_Kept_is_person => k_is)
    (case a_Kept_remember => k_is)
    (case i_Kept_remember => k_is)
    (case l_Kept_remember => k_is)
    (case c_Kept_remember => k_is)
    (case k_Kept_remember => k_is)
    (case a_Kept_change_worths => k_is)
    (case i_Kept_change_worths => k_is)
    (case l_Kept_change_worths => k_is)
    (case c_Kept_change_worths => k_is)
    (case k_Kept_change_worths => k_is)
    (case a_Kept_lay_groups => k_is)
    (case i_Kept_lay_groups => k_is)
    (case l_Kept_lay_groups => k_is)
    (case c_Kept_lay_groups => k_is)
    (case k_Kept_lay_groups => k_is)
    (case a_Kept_move_to => k_is)
    (case i_Kept_move_to => k_is)
    (case l_Kept_move_to => k_is)
    (case c_Kept_move_to => k_is)
    (case k_Kept_move_to => k_is)
    (case a_Kept_take_back => k_is)
    (case i_Kept_take_back => k_is)
    (case l_Kept_take_back => k_is)
    (case c_Kept_take_back => k_is)
    (case k_Kept_take_back => k_is)
    (case a_liking_of => k_is)
    (case l_liking_of => k_is)
    (case c_liking_of => k_is)
    (case k_liking_of => k_is)
    (case a_standing_of => k_is)
    (case l_standing_of => k_is)
    (case c_standing_of => k_is)
    (case k_standing_of => k_is)
    (case a_run_from => k_is)
    (case l_run_from => k_is)
    (case c_run_from => k_is)
    (case k_run_from => k_is)
    (case a_made_of_by_one_move => k_is)
    (case l_made_of_by_one_move => k_is)
    (case c_made_of_by_one_move => k_is)
    (case k_made_of_by_one_move => k_is)
    (case a_all_come_to => k_is)
    (case l_all_come_to => k_is)
    (case c_all_come_to => k_is)
    (case k_all_come_to => k_is)
    (case a_rests_somewhere => k_is)
    (case l_rests_somewhere => k_is)
    (case c_rests_somewhere => k_is)
    (case k_rests_somewhere => k_is)
    (case a_goes_round => k_is)
    (case l_goes_round => k_is)
    (case c_goes_round => k_is)
    (case k_goes_round => k_is)
    (case a_as_number => k_is)
    (case l_as_number => k_is)
    (case c_as_number => k_is)
    (case k_as_number => k_is)
    (case a_counted => k_is)
    (case l_counted => k_is)
    (case c_counted => k_is)
    (case k_counted => k_is)
    (case a_counted_pairs => k_is)
    (case l_counted_pairs => k_is)
    (case c_counted_pairs => k_is)
    (case k_counted_pairs => k_is)
    (case a_told_groups => k_is)
    (case l_told_groups => k_is)
    (case c_told_groups => k_is)
    (case k_told_groups => k_is)
    (case a_told_if_any => k_is)
    (case l_told_if_any => k_is)
    (case c_told_if_any => k_is)
    (case k_told_if_any => k_is)
    (case a_answer_worths => k_is)
    (case l_answer_worths => k_is)
    (case c_answer_worths => k_is)
    (case k_answer_worths => k_is)
    (case a_answer_moves => k_is)
    (case l_answer_moves => k_is)
    (case c_answer_moves => k_is)
    (case k_answer_moves => k_is)
    (case a_answer_best => k_is)
    (case l_answer_best => k_is)
    (case c_answer_best => k_is)
    (case k_answer_best => k_is)
    (case a_answer_leavers => k_is)
    (case l_answer_leavers => k_is)
    (case c_answer_leavers => k_is)
    (case k_answer_leavers => k_is)
    (case a_answer_rests => k_is)
    (case l_answer_rests => k_is)
    (case c_answer_rests => k_is)
    (case k_answer_rests => k_is)
    (case a_answer_holds => k_is)
    (case l_answer_holds => k_is)
    (case c_answer_holds => k_is)
    (case k_answer_holds => k_is)
    (case a_answer_kinds => k_is)
    (case l_answer_kinds => k_is)
    (case c_answer_kinds => k_is)
    (case k_answer_kinds => k_is)
    (case a_answer_run => k_is)
    (case l_answer_run => k_is)
    (case c_answer_run => k_is)
    (case k_answer_run => k_is)
    (case a_answer_round => k_is)
    (case l_answer_round => k_is)
    (case c_answer_round => k_is)
    (case k_answer_round => k_is)
    (case a_answer_most => k_is)
    (case l_answer_most => k_is)
    (case c_answer_most => k_is)
    (case k_answer_most => k_is)
    (case a_answer_among => k_is)
    (case l_answer_among => k_is)
    (case c_answer_among => k_is)
    (case k_answer_among => k_is)
    (case a_answer_beaten => k_is)
    (case l_answer_beaten => k_is)
    (case c_answer_beaten => k_is)
    (case k_answer_beaten => k_is)
    (case a_answer_envies => k_is)
    (case l_answer_envies => k_is)
    (case c_answer_envies => k_is)
    (case k_answer_envies => k_is)
    (case a_answer_firm => k_is)
    (case l_answer_firm => k_is)
    (case c_answer_firm => k_is)
    (case k_answer_firm => k_is)
    (case a_answer_perfect => k_is)
    (case l_answer_perfect => k_is)
    (case c_answer_perfect => k_is)
    (case k_answer_perfect => k_is)
    (case a_answer_likes => k_is)
    (case l_answer_likes => k_is)
    (case c_answer_likes => k_is)
    (case k_answer_likes => k_is)
    (case a_answer_groups => k_is)
    (case l_answer_groups => k_is)
    (case c_answer_groups => k_is)
    (case k_answer_groups => k_is)
    (case a_answer_state => k_is)
    (case l_answer_state => k_is)
    (case c_answer_state => k_is)
    (case k_answer_state => k_is)
    (case a_answer_asking => k_is)
    (case l_answer_asking => k_is)
    (case c_answer_asking => k_is)
    (case k_answer_asking => k_is)
    (case a_is_worth => k_is)
    (case l_is_worth => k_is)
    (case c_is_worth => k_is)
    (case k_is_worth => k_is)
    (case a_with_row => k_is)
    (case l_with_row => k_is)
    (case c_with_row => k_is)
    (case k_with_row => k_is)
    (case a_answer_begin => k_is)
    (case l_answer_begin => k_is)
    (case c_answer_begin => k_is)
    (case k_answer_begin => k_is)
    (case a_answer_like => k_is)
    (case l_answer_like => k_is)
    (case c_answer_like => k_is)
    (case k_answer_like => k_is)
    (case a_answer_row => k_is)
    (case l_answer_row => k_is)
    (case c_answer_row => k_is)
    (case k_answer_row => k_is)
    (case a_answer_even => k_is)
    (case l_answer_even => k_is)
    (case c_answer_even => k_is)
    (case k_answer_even => k_is)
    (case a_answer_be => k_is)
    (case l_answer_be => k_is)
    (case c_answer_be => k_is)
    (case k_answer_be => k_is)
    (case a_answer_go => k_is)
    (case l_answer_go => k_is)
    (case c_answer_go => k_is)
    (case k_answer_go => k_is)
    (case a_answer_leave => k_is)
    (case l_answer_leave => k_is)
    (case c_answer_leave => k_is)
    (case k_answer_leave => k_is)
    (case a_answer_step => k_is)
    (case l_answer_step => k_is)
    (case c_answer_step => k_is)
    (case k_answer_step => k_is)
    (case a_answer_back => k_is)
    (case l_answer_back => k_is)
    (case c_answer_back => k_is)
    (case k_answer_back => k_is)
    (case a_answer_changing => k_is)
    (case l_answer_changing => k_is)
    (case c_answer_changing => k_is)
    (case k_answer_changing => k_is)
    (case a_split_calls => k_is)
    (case l_split_calls => k_is)
    (case c_split_calls => k_is)
    (case k_split_calls => k_is)
    (case a_answer_call => k_is)
    (case l_answer_call => k_is)
    (case c_answer_call => k_is)
    (case k_answer_call => k_is)
    (case a_answers => k_is)
    (case l_answers => k_is)
    (case c_answers => k_is)
    (case k_answers => k_is)
    (case pgCK => k_is)
    (case hdCK => k_is)
    (case poCK => k_is)
    (case saCK => k_is)
    (case mkCK => k_is)
    (case kcCK => k_is)
    (case pgCL => k_is)
    (case hdCL => k_is)
    (case poCL => k_is)
    (case saCL => k_is)
    (case mkCL => k_is)
    (case kcCL => k_is)
    (case pgCS => k_is)
    (case hdCS => k_is)
    (case poCS => k_is)
    (case saCS => k_is)
    (case mkCS => k_is)
    (case kcCS => k_is)
    (case n_kW => k_is)
    (case n_kG => k_is)
    (case n_kM => k_is)
    (case n_kP => k_is)
    (case n_lW => k_is)
    (case n_lP => k_is)
    (case n_lS => k_is)
    (case n_sL => k_is)
    (case n_sG => k_is)
    (case n_sP => k_is)
    (case n_sH => k_is)
    (case z_len => k_is)
    (case z_range => k_is)
    (case z_sum => k_is)
    (case z_all => k_is)
    (case z_max => k_is)
    (case z_min => k_is)
    (case z_abs => k_is)
    (case z_list => k_is)
    (case z_any => k_is)
    (case z_enumerate => k_is)
    (case z_zip => k_is)
    (case z_tuple => k_is)
    (case q_EVERY_WAY => k_is)
    (case q_NOT_AT_ALL => k_is)
    (case q_WEAKLY => k_is)
    (case q_WHOLLY => k_is)
    (case q_KINDS_OF_REST => k_is)
    (case q_MOST_TAKEN_BACK => k_is)
    (case q_NOT_BEGUN => k_is)
    (case q_NOT_THERE => k_is)
    (case q_WRONG => k_is)
    (case q_OWN_GROUP => k_is)
    (case q_NOTHING_TO_DO => k_is)
    (case q_NONE_SUCH => k_is)
    (case q_MOST_PEOPLE => k_is)
    (case q_MOST_WORTH => k_is)
    (case q_LAST_WAY => k_is)
    (case q_LAST_LEAVING => k_is)
    (case q_LAST_BEST => k_is)
    (case q_LAST_KIND => k_is)
    (case q_BEGIN => k_is)
    (case q_ROW => k_is)
    (case q_BE => k_is)
    (case q_FIRST_ASKING => k_is)
    (case q_ASKERS => k_is)
    (case l_ASKERS => k_is)
    (case v_ASKERS => rfl)
    (case s_ASKERS => decide +kernel)
    (case q_CHANGERS => k_is)
    (case l_CHANGERS => k_is)
    (case v_CHANGERS => rfl)
    (case s_CHANGERS => decide +kernel)
    (case q_PLAIN_NUMBERS => k_is)
    (case l_PLAIN_NUMBERS => k_is)
    (case v_PLAIN_NUMBERS => rfl)
    (case s_PLAIN_NUMBERS => decide +kernel)
    (case r_most_among => decide +kernel)
    (case b_most_among => k_is)
    (case w_most_among => rfl)
    (case o_most_among => first | rfl | kernel_rfl | decide +kernel)
    (case r_best_by => decide +kernel)
    (case b_best_by => k_is)
    (case w_best_by => rfl)
    (case o_best_by => first | rfl | kernel_rfl | decide +kernel)
    (case ne_most_among_best_by => first | decide | decide +kernel | (intro z; cases z))
#print axioms PySem.Challenge.cw_restgroups_s01_answers_holds
