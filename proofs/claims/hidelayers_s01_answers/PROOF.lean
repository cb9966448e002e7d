import PyProof.Rows.All
import Wide.All
import OpenK.AllK
import Wide.FinOn
import Open.SpecLaws
import KE.OsGo
import HandS.ForSpec
import HandS.ForMost
import HandS.More
import HandS.Conv
import HandS.ExcField
import HandS.SortKw
import HandS.SortInts
import HandS.SetFor
import HandS.Nested
import HandS.EndTab
import HandS.Flow
import HandS.WrittenGet
import HandS.CallLocal
import KE.KNestM
import KE.DataMinKey
import HandS.Walk
import PySem.Challenge.RW_hidelayers_s01_answers
set_option Elab.async false
/-! # Hides and layers, part 1: the mathematics. The plain mirror of the plans' search, and that it is the specification's. -/
namespace Hl
open Kp397

/-! ### lists -/
theorem flatMap_len_le {α β : Type} (f : α → List β) (b : Nat) : ∀ l : List α, (∀ x ∈ l, (f x).length ≤ b) → (l.flatMap f).length ≤ l.length * b
  | [], _ => by simp
  | x :: r, h => by
    have h1 := h x (List.mem_cons_self ..)
    have h2 := flatMap_len_le f b r fun y hy => h y (List.mem_cons_of_mem _ hy)
    rw [List.flatMap_cons, List.length_append, List.length_cons, Nat.succ_mul]
    omega
theorem len_le_flatMap {α β : Type} (f : α → List β) : ∀ l : List α, (∀ x ∈ l, 1 ≤ (f x).length) → l.length ≤ (l.flatMap f).length
  | [], _ => by simp
  | x :: r, h => by
    have h1 := h x (List.mem_cons_self ..)
    have h2 := len_le_flatMap f r fun y hy => h y (List.mem_cons_of_mem _ hy)
    rw [List.flatMap_cons, List.length_append, List.length_cons]
    omega
theorem filter_flatMap {α β : Type} (p : β → Bool) (f : α → List β) : ∀ l : List α, (l.flatMap f).filter p = l.flatMap fun x => (f x).filter p
  | [] => rfl
  | x :: r => by
    rw [List.flatMap_cons, List.flatMap_cons, List.filter_append, filter_flatMap p f r]
theorem flatMap_congr' {α β : Type} {f g : α → List β} : ∀ {l : List α}, (∀ x ∈ l, f x = g x) → l.flatMap f = l.flatMap g
  | [], _ => rfl
  | x :: r, h => by
    rw [List.flatMap_cons, List.flatMap_cons, h x (List.mem_cons_self ..), flatMap_congr' fun y hy => h y (List.mem_cons_of_mem _ hy)]

/-! ### one plan -/
/-- may t follow the plan p -/
def ok (p : List Nat) (t : Nat) : Bool := match p.getLast? with
  | none => true
  | some y => decide (t ≤ y)
def used (c : Nat) (p : List Nat) : Nat := p.sum + c * (p.length - 1)
def cuts (c h : Nat) (p : List Nat) : Nat := if p = [] then 0 else if used c p < h then p.length else p.length - 1
def fitsB (c m h : Nat) (p : List Nat) : Bool := decide (used c p ≤ h) && decide (cuts c h p ≤ m)
theorem used_is (s : Splitter) (p : List Nat) : usedThickness s p = used s.cutLoss p := rfl
theorem cuts_is (s : Splitter) (h : Nat) (p : List Nat) : cutCount s h p = cuts s.cutLoss h p := by
  unfold cutCount cuts
  cases p with
  | nil => rfl
  | cons x r =>
    show (x :: r).length - 1 + (if used s.cutLoss (x :: r) < h then 1 else 0) = if used s.cutLoss (x :: r) < h then (x :: r).length else (x :: r).length - 1
    by_cases q : used s.cutLoss (x :: r) < h
    · rw [if_pos q, if_pos q]
      simp
    · rw [if_neg q, if_neg q]
      rfl
theorem fits_is (s : Splitter) (h : Nat) (p : List Nat) : fits s h p = fitsB s.cutLoss s.maxCuts h p := by
  unfold fits fitsB
  rw [cuts_is, used_is]
theorem used_nil (c : Nat) : used c [] = 0 := by simp [used]
theorem cuts_nil (c h : Nat) : cuts c h [] = 0 := if_pos rfl
theorem fits_nil (c m h : Nat) : fitsB c m h [] = true := by
  unfold fitsB
  rw [used_nil, cuts_nil]
  simp
theorem used_snoc (c : Nat) (p : List Nat) (x : Nat) : used c (p ++ [x]) = if p = [] then x else used c p + c + x := by
  unfold used
  cases p with
  | nil => simp
  | cons y r =>
    rw [if_neg (by simp), List.sum_append, List.length_append]
    simp only [List.sum_cons, List.sum_nil, List.length_cons, List.length_nil]
    have e : r.length + 1 + (0 + 1) - 1 = r.length + 1 := by omega
    have e2 : r.length + 1 - 1 = r.length := by omega
    rw [e, e2, Nat.mul_succ]
    omega
theorem used_pos {c : Nat} : ∀ {p : List Nat}, p ≠ [] → (∀ y ∈ p, 0 < y) → 0 < used c p
  | [], h, _ => absurd rfl h
  | x :: r, _, h => by
    have h1 := h x (List.mem_cons_self ..)
    unfold used
    rw [List.sum_cons]
    omega
theorem used_le_append (c : Nat) (p : List Nat) : ∀ q : List Nat, used c p ≤ used c (p ++ q)
  | [] => by simp
  | x :: r => by
    have h1 : used c p ≤ used c (p ++ [x]) := by
      rw [used_snoc]
      by_cases e : p = []
      · subst e
        rw [used_nil]
        omega
      · rw [if_neg e]
        omega
    have h2 := used_le_append c (p ++ [x]) r
    rw [List.append_assoc] at h2
    exact Nat.le_trans h1 h2
theorem ok_nil (t : Nat) : ok [] t = true := rfl
theorem ok_snoc (p : List Nat) (x t : Nat) : ok (p ++ [x]) t = decide (t ≤ x) := by
  unfold ok
  rw [List.getLast?_concat]

/-! ### the search -/
def kids (asc : List Nat) (p : List Nat) : List (List Nat) := if p.length = 6 then [] else (asc.filter (ok p)).map fun t => p ++ [t]
def goods (asc : List Nat) (c h : Nat) (p : List Nat) : List (List Nat) := (kids asc p).filter fun q => decide (used c q ≤ h)
def dig (asc : List Nat) (c h : Nat) : Nat → List Nat → List (List Nat)
  | 0, p => [p]
  | n + 1, p => p :: (goods asc c h p).reverse.flatMap (dig asc c h n)
def W (asc : List Nat) (c h : Nat) (p : List Nat) : List (List Nat) := dig asc c h (6 - p.length) p
theorem kids_len {asc : List Nat} {p q : List Nat} (hq : q ∈ kids asc p) : q.length = p.length + 1 ∧ p.length ≠ 6 ∧ ∃ t ∈ asc, ok p t = true ∧ q = p ++ [t] := by
  unfold kids at hq
  by_cases e : p.length = 6
  · rw [if_pos e] at hq
    cases hq
  · rw [if_neg e] at hq
    obtain ⟨t, ht, rfl⟩ := List.mem_map.mp hq
    obtain ⟨h1, h2⟩ := List.mem_filter.mp ht
    exact ⟨by simp, e, t, h1, h2, rfl⟩
theorem goods_mem {asc : List Nat} {c h : Nat} {p q : List Nat} (hq : q ∈ goods asc c h p) : q ∈ kids asc p ∧ used c q ≤ h := by
  obtain ⟨h1, h2⟩ := List.mem_filter.mp hq
  exact ⟨h1, of_decide_eq_true h2⟩
/-- a longer plan is in turn what W begins with -/
theorem W_eq (asc : List Nat) (c h : Nat) {p : List Nat} (hp : p.length ≤ 6) : W asc c h p = p :: (goods asc c h p).reverse.flatMap (W asc c h) := by
  unfold W
  cases e : 6 - p.length with
  | zero =>
    have e6 : p.length = 6 := by omega
    have g : goods asc c h p = [] := by
      unfold goods kids
      rw [if_pos e6]
      rfl
    rw [g]
    rfl
  | succ n =>
    show p :: (goods asc c h p).reverse.flatMap (dig asc c h n) = _
    refine congrArg (p :: ·) (flatMap_congr' fun q hq => ?_)
    have hk := (kids_len (goods_mem (List.mem_reverse.mp hq)).1).1
    have e2 : 6 - q.length = n := by omega
    rw [e2]
def bound : Nat → Nat
  | 0 => 1
  | n + 1 => 1 + 7 * bound n
theorem dig_len (asc : List Nat) (c h : Nat) (ha : asc.length ≤ 7) : ∀ (n : Nat) (p : List Nat), (dig asc c h n p).length ≤ bound n
  | 0, p => Nat.le_refl 1
  | n + 1, p => by
    have h1 := flatMap_len_le (dig asc c h n) (bound n) (goods asc c h p).reverse fun q _ => dig_len asc c h ha n q
    have h2 : (goods asc c h p).reverse.length ≤ 7 := by
      rw [List.length_reverse]
      refine Nat.le_trans (List.length_filter_le ..) ?_
      unfold kids
      by_cases e : p.length = 6
      · rw [if_pos e]
        simp
      · rw [if_neg e, List.length_map]
        exact Nat.le_trans (List.length_filter_le ..) ha
    show ((goods asc c h p).reverse.flatMap (dig asc c h n)).length + 1 ≤ 1 + 7 * bound n
    have h3 := Nat.mul_le_mul_right (bound n) h2
    omega
theorem bound_mono : ∀ {a b : Nat}, a ≤ b → bound a ≤ bound b := by
  intro a b hab
  induction b with
  | zero =>
    have : a = 0 := by omega
    subst this
    exact Nat.le_refl _
  | succ n ih =>
    by_cases e : a = n + 1
    · rw [e]
      exact Nat.le_refl _
    · have := ih (by omega)
      show bound a ≤ 1 + 7 * bound n
      omega
theorem W_len (asc : List Nat) (c h : Nat) (ha : asc.length ≤ 7) (p : List Nat) : (W asc c h p).length ≤ 137257 := by
  have h1 := dig_len asc c h ha (6 - p.length) p
  have h2 : bound (6 - p.length) ≤ bound 6 := bound_mono (by omega)
  have h3 : bound 6 = 137257 := rfl
  unfold W
  omega
theorem dig_pos (asc : List Nat) (c h : Nat) : ∀ (n : Nat) (p : List Nat), 1 ≤ (dig asc c h n p).length
  | 0, p => Nat.le_refl 1
  | n + 1, p => by
    show 1 ≤ (_ :: _).length
    simp
theorem W_pos (asc : List Nat) (c h : Nat) (p : List Nat) : 1 ≤ (W asc c h p).length := dig_pos asc c h _ p
/-- what the search has still before it, the stack being w (its last one comes first) -/
def todo (asc : List Nat) (c h : Nat) (w : List (List Nat)) : List (List Nat) := w.reverse.flatMap (W asc c h)
theorem todo_snoc (asc : List Nat) (c h : Nat) (w : List (List Nat)) {p : List Nat} (hp : p.length ≤ 6) : todo asc c h (w ++ [p]) = p :: todo asc c h (w ++ goods asc c h p) := by
  unfold todo
  rw [List.reverse_append, List.reverse_append, List.flatMap_append, List.flatMap_append]
  show (List.flatMap (W asc c h) [p]) ++ _ = _
  rw [List.flatMap_cons, List.flatMap_nil, List.append_nil, W_eq asc c h hp]
  rfl
theorem todo_nil (asc : List Nat) (c h : Nat) : todo asc c h [] = [] := rfl
theorem len_le_todo (asc : List Nat) (c h : Nat) (w : List (List Nat)) : w.length ≤ (todo asc c h w).length := by
  have z := len_le_flatMap (W asc c h) w.reverse fun q _ => W_pos asc c h q
  rw [List.length_reverse] at z
  exact z
/-- all plans that use at most the hide -/
def within (asc : List Nat) (c h : Nat) : List (List Nat) := W asc c h []
theorem todo_start (asc : List Nat) (c h : Nat) : todo asc c h [[]] = within asc c h := by
  unfold todo within
  show List.flatMap (W asc c h) [[]] = _
  rw [List.flatMap_cons, List.flatMap_nil, List.append_nil]

/-! ### what is found -/
/-- every found plan goes on from p by thicknesses of the list -/
theorem dig_ext (asc : List Nat) (c h : Nat) : ∀ (n : Nat) (p q : List Nat), q ∈ dig asc c h n p → ∃ r, q = p ++ r ∧ r.length ≤ n ∧ ∀ t ∈ r, t ∈ asc
  | 0, p, q, hq => by
    have e : q = p := by simpa [dig] using hq
    exact ⟨[], by simp [e], Nat.le_refl _, fun t ht => by cases ht⟩
  | n + 1, p, q, hq => by
    have hq' : q ∈ p :: (goods asc c h p).reverse.flatMap (dig asc c h n) := hq
    rcases List.mem_cons.mp hq' with e | hm
    · exact ⟨[], by simp [e], Nat.zero_le _, fun t ht => by cases ht⟩
    · obtain ⟨k, hk, hq2⟩ := List.mem_flatMap.mp hm
      obtain ⟨_, _, t, ht, _, rfl⟩ := kids_len (goods_mem (List.mem_reverse.mp hk)).1
      obtain ⟨r, e, hl, hr⟩ := dig_ext asc c h n _ q hq2
      refine ⟨t :: r, by rw [e, List.append_assoc]; rfl, by simp; omega, fun y hy => ?_⟩
      rcases List.mem_cons.mp hy with e2 | hy
      · rw [e2]
        exact ht
      · exact hr y hy
theorem dig_used (asc : List Nat) (c h : Nat) (n : Nat) (p q : List Nat) (hq : q ∈ dig asc c h n p) : used c p ≤ used c q ∧ p.length ≤ q.length := by
  obtain ⟨r, e, _⟩ := dig_ext asc c h n p q hq
  rw [e]
  exact ⟨used_le_append c p r, by simp⟩
/-- a plan that is found for one hide is found for each that it uses no more than -/
theorem dig_mono (asc : List Nat) (c h h' : Nat) : ∀ (n : Nat) (p q : List Nat), q ∈ dig asc c h n p → used c q ≤ h' → q ∈ dig asc c h' n p
  | 0, p, q, hq, _ => hq
  | n + 1, p, q, hq, hu => by
    have hq' : q ∈ p :: (goods asc c h p).reverse.flatMap (dig asc c h n) := hq
    show q ∈ p :: (goods asc c h' p).reverse.flatMap (dig asc c h' n)
    rcases List.mem_cons.mp hq' with e | hm
    · rw [e]
      exact List.mem_cons_self ..
    · obtain ⟨k, hk, hq2⟩ := List.mem_flatMap.mp hm
      refine List.mem_cons_of_mem _ (List.mem_flatMap.mpr ⟨k, ?_, dig_mono asc c h h' n k q hq2 hu⟩)
      refine List.mem_reverse.mpr (List.mem_filter.mpr ⟨(goods_mem (List.mem_reverse.mp hk)).1, decide_eq_true ?_⟩)
      exact Nat.le_trans (dig_used asc c h n k q hq2).1 hu
theorem within_mono {asc : List Nat} {c h h' : Nat} {q : List Nat} (hq : q ∈ within asc c h) (hu : used c q ≤ h') : q ∈ within asc c h' := dig_mono asc c h h' 6 [] q hq hu
theorem within_ext {asc : List Nat} {c h : Nat} {q : List Nat} (hq : q ∈ within asc c h) : q.length ≤ 6 ∧ ∀ t ∈ q, t ∈ asc := by
  obtain ⟨r, e, h1, h2⟩ := dig_ext asc c h 6 [] q hq
  have e : q = r := e
  rw [e]
  exact ⟨h1, h2⟩
theorem nil_within (asc : List Nat) (c h : Nat) : [] ∈ within asc c h := by
  unfold within
  rw [W_eq asc c h (by simp)]
  exact List.mem_cons_self ..

/-! ### the depth that max_cuts lets -/
theorem fits_len {c m h : Nat} {q : List Nat} (hq : fitsB c m h q = true) : q.length ≤ m + 1 := by
  unfold fitsB at hq
  obtain ⟨_, h2⟩ := Bool.and_eq_true_iff.mp hq
  have h2 := of_decide_eq_true h2
  unfold cuts at h2
  by_cases e : q = []
  · rw [e]
    simp
  · rw [if_neg e] at h2
    by_cases u : used c q < h
    · rw [if_pos u] at h2
      omega
    · rw [if_neg u] at h2
      omega
theorem trunc (asc : List Nat) (c m h : Nat) : ∀ (n n' : Nat) (p : List Nat), n ≤ n' → p.length + n = m + 1 → (dig asc c h n' p).filter (fitsB c m h) = (dig asc c h n p).filter (fitsB c m h)
  | 0, 0, p, _, _ => rfl
  | 0, n' + 1, p, _, hl => by
    show (p :: (goods asc c h p).reverse.flatMap (dig asc c h n')).filter (fitsB c m h) = [p].filter (fitsB c m h)
    have z : ((goods asc c h p).reverse.flatMap (dig asc c h n')).filter (fitsB c m h) = [] := by
      refine List.filter_eq_nil_iff.mpr fun q hq hf => ?_
      obtain ⟨k, hk, hq2⟩ := List.mem_flatMap.mp hq
      have h1 := (kids_len (goods_mem (List.mem_reverse.mp hk)).1).1
      have h2 := (dig_used asc c h n' k q hq2).2
      have h3 := fits_len hf
      omega
    rw [List.filter_cons, z, List.filter_cons]
    rfl
  | n + 1, 0, p, h, _ => absurd h (by omega)
  | n + 1, n' + 1, p, hn, hl => by
    show (p :: (goods asc c h p).reverse.flatMap (dig asc c h n')).filter (fitsB c m h) = (p :: (goods asc c h p).reverse.flatMap (dig asc c h n)).filter (fitsB c m h)
    have z : ((goods asc c h p).reverse.flatMap (dig asc c h n')).filter (fitsB c m h) = ((goods asc c h p).reverse.flatMap (dig asc c h n)).filter (fitsB c m h) := by
      rw [filter_flatMap, filter_flatMap]
      refine flatMap_congr' fun k hk => ?_
      have h1 := (kids_len (goods_mem (List.mem_reverse.mp hk)).1).1
      exact trunc asc c m h n n' k (by omega) (by omega)
    rw [List.filter_cons, List.filter_cons, z]

/-! ### the specification's search is this one -/
theorem filter_and (p q : Nat → Bool) (l : List Nat) (h : ∀ y, q y = true → p y = true) : (l.filter p).filter q = l.filter q := by
  rw [List.filter_filter]
  refine List.filter_congr fun y _ => ?_
  cases e : q y with
  | false => rfl
  | true => rw [h y e, Bool.true_and]
theorem ok_trans {p : List Nat} {x y : Nat} (h : ok p x = true) (hy : y ≤ x) : ok p y = true := by
  unfold ok at h ⊢
  cases e : p.getLast? with
  | none => rfl
  | some z =>
    rw [e] at h
    exact decide_eq_true (Nat.le_trans hy (of_decide_eq_true h))
theorem map_flatMap' {α β γ : Type} (g : β → γ) (f : α → List β) (l : List α) : (l.flatMap f).map g = l.flatMap fun x => (f x).map g := List.map_flatMap ..
/-- from the plan p on: rest by rest -/
theorem spec_dig (s : Splitter) (asc : List Nat) (h : Nat) (hpos : ∀ t ∈ asc, 0 < t) : ∀ (n : Nat) (p : List Nat), p.length + n ≤ 6 → (∀ t ∈ p, 0 < t) →
    (plansFrom s h n (asc.reverse.filter (ok p)) (used s.cutLoss p)).map (p ++ ·) = dig asc s.cutLoss h n p
  | 0, p, _, _ => by
    show [p ++ []] = [p]
    rw [List.append_nil]
  | n + 1, p, hl, hp => by
    have hne : ¬ p.length = 6 := by omega
    have eg : (goods asc s.cutLoss h p).reverse = (asc.reverse.filter (ok p)).flatMap fun t => if used s.cutLoss (p ++ [t]) ≤ h then [p ++ [t]] else [] := by
      unfold goods kids
      rw [if_neg hne, ← List.filter_reverse, ← List.map_reverse, ← List.filter_reverse]
      generalize asc.reverse.filter (ok p) = l
      induction l with
      | nil => rfl
      | cons t r ih =>
        rw [List.map_cons, List.filter_cons, List.flatMap_cons, ih]
        by_cases u : used s.cutLoss (p ++ [t]) ≤ h
        · rw [if_pos (decide_eq_true u), if_pos u]
          rfl
        · rw [if_neg (by simpa using u), if_neg u]
          rfl
    show (([] : List Nat) :: (asc.reverse.filter (ok p)).flatMap fun x => if h < (if used s.cutLoss p = 0 then x else used s.cutLoss p + s.cutLoss + x) then [] else
      (plansFrom s h n ((asc.reverse.filter (ok p)).filter fun y => decide (y ≤ x)) (if used s.cutLoss p = 0 then x else used s.cutLoss p + s.cutLoss + x)).map fun rest => x :: rest).map (p ++ ·) = p :: (goods asc s.cutLoss h p).reverse.flatMap (dig asc s.cutLoss h n)
    rw [List.map_cons, List.append_nil, map_flatMap', eg, List.flatMap_assoc]
    refine congrArg (p :: ·) (flatMap_congr' fun x hx => ?_)
    obtain ⟨hx1, hx2⟩ := List.mem_filter.mp hx
    have hx0 : 0 < x := hpos x (List.mem_reverse.mp hx1)
    have et : (if used s.cutLoss p = 0 then x else used s.cutLoss p + s.cutLoss + x) = used s.cutLoss (p ++ [x]) := by
      rw [used_snoc]
      by_cases e : p = []
      · rw [if_pos e, e, used_nil, if_pos rfl]
      · have := used_pos (c := s.cutLoss) e hp
        rw [if_neg e, if_neg (by omega)]
    rw [et]
    by_cases u : used s.cutLoss (p ++ [x]) ≤ h
    · rw [if_neg (by omega), if_pos u, List.flatMap_cons, List.flatMap_nil, List.append_nil]
      have ef : (asc.reverse.filter (ok p)).filter (fun y => decide (y ≤ x)) = asc.reverse.filter (ok (p ++ [x])) := by
        rw [filter_and _ _ _ fun y hy => ok_trans hx2 (of_decide_eq_true hy)]
        refine List.filter_congr fun y _ => ?_
        rw [ok_snoc]
      rw [ef, ← spec_dig s asc h hpos n (p ++ [x]) (by simp; omega) (fun t ht => by
        rcases List.mem_append.mp ht with q | q
        · exact hp t q
        · have : t = x := by simpa using q
          rw [this]
          exact hx0), List.map_map]
      refine List.map_congr_left fun r _ => ?_
      show p ++ x :: r = (p ++ [x]) ++ r
      rw [List.append_assoc]
      rfl
    · rw [if_pos (by omega), if_neg u]
      rfl
theorem plans_is (s : Splitter) (asc : List Nat) (h : Nat) (hpos : ∀ t ∈ asc, 0 < t) (hm : s.maxCuts ≤ 5) (ht : asc.reverse = thicknesses s) : plans s h = (within asc s.cutLoss h).filter (fitsB s.cutLoss s.maxCuts h) := by
  unfold plans
  have e := spec_dig s asc h hpos (s.maxCuts + 1) [] (by simp; omega) (fun t ht => by cases ht)
  have ef : asc.reverse.filter (ok []) = asc.reverse := List.filter_eq_self.mpr fun _ _ => rfl
  rw [ef, used_nil, ht] at e
  have e2 : (plansFrom s h (s.maxCuts + 1) (thicknesses s) 0).map (fun x => [] ++ x) = plansFrom s h (s.maxCuts + 1) (thicknesses s) 0 := by
    have : (fun x : List Nat => [] ++ x) = id := by
      funext x
      rfl
    rw [this, List.map_id]
  rw [e2] at e
  rw [e]
  have ef2 : fits s h = fitsB s.cutLoss s.maxCuts h := by
    funext p
    exact fits_is s h p
  rw [ef2]
  exact (trunc asc s.cutLoss s.maxCuts h (s.maxCuts + 1) 6 [] (by omega) (by simp)).symm

/-! ### the best plan -/
section
variable (v k : List Nat → Nat)
def better (best p : List Nat) : Prop := v best < v p ∨ (v p = v best ∧ k p < k best)
instance (best p : List Nat) : Decidable (better v k best p) := by unfold better; infer_instance
def pick (best p : List Nat) : List Nat := if better v k best p then p else best
theorem pick_self (p : List Nat) : pick v k p p = p := by
  unfold pick
  split <;> rfl
theorem fold_pick_mem : ∀ (l : List (List Nat)) (b : List Nat), l.foldl (pick v k) b = b ∨ l.foldl (pick v k) b ∈ l
  | [], b => .inl rfl
  | p :: r, b => by
    rw [List.foldl_cons]
    rcases fold_pick_mem r (pick v k b p) with e | e
    · rw [e]
      unfold pick
      split
      · exact .inr (List.mem_cons_self ..)
      · exact .inl rfl
    · exact .inr (List.mem_cons_of_mem _ e)
theorem fold_pick_ge : ∀ (l : List (List Nat)) (b : List Nat), v b ≤ v (l.foldl (pick v k) b) ∧ ∀ p ∈ l, v p ≤ v (l.foldl (pick v k) b)
  | [], b => ⟨Nat.le_refl _, fun p hp => by cases hp⟩
  | q :: r, b => by
    rw [List.foldl_cons]
    obtain ⟨h1, h2⟩ := fold_pick_ge r (pick v k b q)
    have hb : v b ≤ v (pick v k b q) ∧ v q ≤ v (pick v k b q) := by
      unfold pick
      by_cases hc : better v k b q
      · rw [if_pos hc]
        refine ⟨?_, Nat.le_refl _⟩
        rcases hc with z | ⟨z, _⟩ <;> omega
      · rw [if_neg hc]
        refine ⟨Nat.le_refl _, ?_⟩
        unfold better at hc
        omega
    refine ⟨Nat.le_trans hb.1 h1, fun p hp => ?_⟩
    rcases List.mem_cons.mp hp with e | hp
    · rw [e]
      exact Nat.le_trans hb.2 h1
    · exact h2 p hp
end
theorem bestPlan_is (s : Splitter) (h : Nat) : bestPlan s h = (plans s h).foldl (pick (planValue s) (cutCount s h)) [] := rfl
theorem nil_plans (s : Splitter) (h : Nat) : ∃ r, plans s h = [] :: r := by
  unfold plans
  show ∃ r, (([] : List Nat) :: _).filter (fits s h) = [] :: r
  rw [List.filter_cons, if_pos (by rw [fits_is]; exact fits_nil ..)]
  exact ⟨_, rfl⟩
theorem best_mem (s : Splitter) (h : Nat) : bestPlan s h ∈ plans s h := by
  rw [bestPlan_is]
  rcases fold_pick_mem (planValue s) (cutCount s h) (plans s h) [] with e | e
  · rw [e]
    obtain ⟨r, er⟩ := nil_plans s h
    rw [er]
    exact List.mem_cons_self ..
  · exact e
theorem best_ge (s : Splitter) (h : Nat) {p : List Nat} (hp : p ∈ plans s h) : planValue s p ≤ bestValue s h := by
  unfold bestValue
  rw [bestPlan_is]
  exact (fold_pick_ge (planValue s) (cutCount s h) (plans s h) []).2 p hp
theorem value_max {s : Splitter} {h M : Nat} (hm : M ∈ (plans s h).map (planValue s)) (hle : ∀ y ∈ (plans s h).map (planValue s), y ≤ M) : M = bestValue s h := by
  obtain ⟨p, hp, e⟩ := List.mem_map.mp hm
  have h1 := best_ge s h hp
  have h2 := hle _ (List.mem_map_of_mem (best_mem s h))
  have h2 : bestValue s h ≤ M := h2
  omega
/-- the first of the best, by places -/
def argB (bt : Nat → Nat → Bool) : Nat → Nat
  | 0 => 0
  | j + 1 => if bt (j + 1) (argB bt j) = true then j + 1 else argB bt j
theorem argB_le (bt : Nat → Nat → Bool) : ∀ j, argB bt j ≤ j
  | 0 => Nat.le_refl _
  | j + 1 => by
    have z := argB_le bt j
    show (if bt (j + 1) (argB bt j) = true then j + 1 else argB bt j) ≤ j + 1
    by_cases c : bt (j + 1) (argB bt j) = true
    · rw [if_pos c]
      exact Nat.le_refl _
    · rw [if_neg c]
      omega
theorem foldl_take_succ {v k : List Nat → Nat} {l : List (List Nat)} {j : Nat} (hj : j < l.length) (b : List Nat) : (l.take (j + 1)).foldl (pick v k) b = pick v k ((l.take j).foldl (pick v k) b) (l.getD j []) := by
  have e : l.take (j + 1) = l.take j ++ [l.getD j []] := by
    rw [List.take_add_one, List.getElem?_eq_getElem hj, List.getD_eq_getElem?_getD, List.getElem?_eq_getElem hj]
    rfl
  rw [e, List.foldl_append]
  rfl
theorem argB_fold (v k : List Nat → Nat) (l : List (List Nat)) (h0 : ∃ r, l = [] :: r) : ∀ j, j < l.length →
    l.getD (argB (fun a b => decide (better v k (l.getD b []) (l.getD a []))) j) [] = (l.take (j + 1)).foldl (pick v k) []
  | 0, hj => by
    obtain ⟨r, rfl⟩ := h0
    show [] = ([[]] : List (List Nat)).foldl (pick v k) []
    exact (pick_self v k []).symm
  | j + 1, hj => by
    have ih := argB_fold v k l h0 j (by omega)
    rw [foldl_take_succ hj, ← ih]
    show l.getD (if decide _ = true then j + 1 else _) [] = _
    unfold pick
    by_cases hb : better v k (l.getD (argB (fun a b => decide (better v k (l.getD b []) (l.getD a []))) j) []) (l.getD (j + 1) [])
    · rw [if_pos (decide_eq_true hb), if_pos hb]
    · rw [if_neg (by simpa using hb), if_neg hb]
theorem best_arg (s : Splitter) (h : Nat) (bt : Nat → Nat → Bool) (hbt : ∀ a b, bt a b = decide (better (planValue s) (cutCount s h) ((plans s h).getD b []) ((plans s h).getD a []))) :
    (plans s h).getD (argB bt ((plans s h).length - 1)) [] = bestPlan s h := by
  have e : bt = fun a b => decide (better (planValue s) (cutCount s h) ((plans s h).getD b []) ((plans s h).getD a [])) := by
    funext a b
    exact hbt a b
  have hl : 0 < (plans s h).length := by
    obtain ⟨r, er⟩ := nil_plans s h
    rw [er]
    simp
  rw [e, argB_fold _ _ _ (nil_plans s h) _ (by omega), bestPlan_is, List.take_of_length_le (by omega)]
theorem count_best (s : Splitter) (h : Nat) : ((plans s h).map (planValue s)).count (bestValue s h) = ((plans s h).filter fun l => planValue s l == bestValue s h).length := by
  rw [List.count_eq_countP, List.countP_map, List.countP_eq_length_filter]
  rfl

/-! ### the least thickness -/
/-- the hides that plans of this value use up -/
def thin (s : Splitter) (asc : List Nat) (v : Nat) : List Nat :=
  ((within asc s.cutLoss 60).filter fun p => fitsB s.cutLoss s.maxCuts (used s.cutLoss p) p && decide (v ≤ planValue s p)).map (used s.cutLoss)
theorem fits_used {c m h : Nat} {p : List Nat} (hf : fitsB c m h p = true) : fitsB c m (used c p) p = true ∧ used c p ≤ h := by
  unfold fitsB at hf ⊢
  obtain ⟨h1, h2⟩ := Bool.and_eq_true_iff.mp hf
  have h1 := of_decide_eq_true h1
  have h2 := of_decide_eq_true h2
  refine ⟨Bool.and_eq_true_iff.mpr ⟨decide_eq_true (Nat.le_refl _), decide_eq_true ?_⟩, h1⟩
  refine Nat.le_trans ?_ h2
  unfold cuts
  by_cases e : p = []
  · rw [if_pos e, if_pos e]
    exact Nat.le_refl _
  · rw [if_neg e, if_neg e, if_neg (Nat.lt_irrefl _)]
    split <;> omega
theorem thin_sound {s : Splitter} {asc : List Nat} {v u : Nat} (hpos : ∀ t ∈ asc, 0 < t) (hm : s.maxCuts ≤ 5) (ht : asc.reverse = thicknesses s) (hu : u ∈ thin s asc v) : u ≤ 60 ∧ v ≤ bestValue s u := by
  obtain ⟨p, hp, rfl⟩ := List.mem_map.mp hu
  obtain ⟨h1, h2⟩ := List.mem_filter.mp hp
  obtain ⟨h3, h4⟩ := Bool.and_eq_true_iff.mp h2
  have h4 := of_decide_eq_true h4
  have h60 : used s.cutLoss p ≤ 60 := by
    by_cases e : p = []
    · rw [e, used_nil]
      omega
    · unfold within at h1
      rw [W_eq asc s.cutLoss 60 (by simp)] at h1
      rcases List.mem_cons.mp h1 with q | q
      · exact absurd q e
      · -- the last step of the plan was tested
        have key : ∀ (n : Nat) (p q : List Nat), used s.cutLoss p ≤ 60 → q ∈ dig asc s.cutLoss 60 n p → used s.cutLoss q ≤ 60 := by
          intro n
          induction n with
          | zero =>
            intro p q hp hq
            have : q = p := by simpa [dig] using hq
            rw [this]
            exact hp
          | succ n ih =>
            intro p q hp hq
            have hq' : q ∈ p :: (goods asc s.cutLoss 60 p).reverse.flatMap (dig asc s.cutLoss 60 n) := hq
            rcases List.mem_cons.mp hq' with z | z
            · rw [z]
              exact hp
            · obtain ⟨k, hk, hq2⟩ := List.mem_flatMap.mp z
              exact ih k q (goods_mem (List.mem_reverse.mp hk)).2 hq2
        obtain ⟨k, hk, hq2⟩ := List.mem_flatMap.mp q
        exact key _ k p (goods_mem (List.mem_reverse.mp hk)).2 hq2
  refine ⟨h60, ?_⟩
  refine Nat.le_trans h4 (best_ge s _ ?_)
  rw [plans_is s asc _ hpos hm ht]
  exact List.mem_filter.mpr ⟨within_mono h1 (Nat.le_refl _), h3⟩
theorem thin_complete {s : Splitter} {asc : List Nat} {v t : Nat} (hpos : ∀ t ∈ asc, 0 < t) (hm : s.maxCuts ≤ 5) (ht : asc.reverse = thicknesses s) (h60 : t ≤ 60) (hv : v ≤ bestValue s t) : ∃ u ∈ thin s asc v, u ≤ t := by
  have hb := best_mem s t
  rw [plans_is s asc _ hpos hm ht] at hb
  obtain ⟨h1, h2⟩ := List.mem_filter.mp hb
  obtain ⟨h3, h4⟩ := fits_used h2
  refine ⟨used s.cutLoss (bestPlan s t), List.mem_map.mpr ⟨bestPlan s t, List.mem_filter.mpr ⟨within_mono h1 (Nat.le_trans h4 h60), ?_⟩, rfl⟩, h4⟩
  exact Bool.and_eq_true_iff.mpr ⟨h3, decide_eq_true hv⟩
theorem find_range {p : Nat → Bool} {n m : Nat} (hm : m < n) (hp : p m = true) (hl : ∀ i, i < m → p i = false) : (List.range n).find? p = some m := by
  have e : List.range n = List.range m ++ m :: (List.range' (m + 1) (n - m - 1)) := by
    rw [List.range_eq_range', List.range_eq_range']
    have e1 : n = m + ((n - m - 1) + 1) := by omega
    conv => lhs; rw [e1]
    rw [← List.range'_append_1, List.range'_succ, Nat.zero_add]
  rw [e, List.find?_append, List.find?_eq_none.mpr (fun i hi => by rw [hl i (List.mem_range.mp hi)]; simp), List.find?_cons, hp]
  rfl
theorem least_some {s : Splitter} {asc : List Nat} {v u : Nat} (hpos : ∀ t ∈ asc, 0 < t) (hm : s.maxCuts ≤ 5) (ht : asc.reverse = thicknesses s) (hu : u ∈ thin s asc v) (hmin : ∀ y ∈ thin s asc v, u ≤ y) : leastThickness s v = some u := by
  obtain ⟨h1, h2⟩ := thin_sound hpos hm ht hu
  refine find_range (show u < maxThickness + 1 from Nat.lt_succ_of_le h1) (decide_eq_true h2) fun i hi => decide_eq_false fun q => ?_
  obtain ⟨y, hy, hle⟩ := thin_complete (v := v) hpos hm ht (show i ≤ 60 by omega) q
  have := hmin y hy
  omega
theorem least_none {s : Splitter} {asc : List Nat} {v : Nat} (hpos : ∀ t ∈ asc, 0 < t) (hm : s.maxCuts ≤ 5) (ht : asc.reverse = thicknesses s) (hu : thin s asc v = []) : leastThickness s v = none := by
  refine List.find?_eq_none.mpr fun i hi q => ?_
  have hi : i < 61 := List.mem_range.mp hi
  obtain ⟨y, hy, _⟩ := thin_complete (v := v) hpos hm ht (show i ≤ 60 by omega) (of_decide_eq_true q)
  rw [hu] at hy
  cases hy
end Hl

set_option Elab.async false
/-! # Hides and layers, part 2: the products in their order, the calls' list. -/
namespace Hl
open Kp397

/-! ### what is true of a splitter -/
structure Good (n : Nat) (s : Splitter) : Prop where
  nd : (s.products.map Product.thickness).Nodup
  th : ∀ p ∈ s.products, 3 ≤ p.thickness ∧ p.thickness ≤ 60
  pr : ∀ p ∈ s.products, p.price ≤ 99
  len : s.products.length ≤ n
  cut : s.cutLoss ≤ 9
  mx : s.maxCuts ≤ 5
theorem Good.mono {n m : Nat} {s : Splitter} (g : Good n s) (h : n ≤ m) : Good m s := ⟨g.nd, g.th, g.pr, Nat.le_trans g.len h, g.cut, g.mx⟩
def keys (s : Splitter) : List Nat := s.products.map Product.thickness
theorem isProduct_iff {s : Splitter} {t : Nat} : isProduct s t = true ↔ t ∈ keys s := by
  unfold isProduct keys
  rw [List.any_eq_true, List.mem_map]
  constructor
  · rintro ⟨p, hp, e⟩
    exact ⟨p, hp, by simpa using e⟩
  · rintro ⟨p, hp, e⟩
    exact ⟨p, hp, by simpa using e⟩
theorem keys_len {s : Splitter} : (keys s).length = s.products.length := List.length_map ..
theorem keys_range {n : Nat} {s : Splitter} (g : Good n s) {t : Nat} (h : t ∈ keys s) : 3 ≤ t ∧ t ≤ 60 := by
  obtain ⟨p, hp, rfl⟩ := List.mem_map.mp h
  exact g.th p hp
theorem price_mem {s : Splitter} {t : Nat} (h : t ∈ keys s) : ∃ p ∈ s.products, p.thickness = t ∧ priceOf s t = p.price := by
  unfold priceOf
  cases e : s.products.find? (fun p => p.thickness == t) with
  | none =>
    obtain ⟨p, hp, rfl⟩ := List.mem_map.mp h
    have := List.find?_eq_none.mp e p hp
    simp at this
  | some p => exact ⟨p, List.mem_of_find?_eq_some e, by simpa using List.find?_some e, rfl⟩
theorem price_le {n : Nat} {s : Splitter} (g : Good n s) {t : Nat} (h : t ∈ keys s) : priceOf s t ≤ 99 := by
  obtain ⟨p, hp, _, e⟩ := price_mem h
  rw [e]
  exact g.pr p hp

/-! ### sorted keys -/
theorem desc_unique : ∀ {l m : List Nat}, l.Pairwise (· > ·) → m.Pairwise (· > ·) → (∀ x, x ∈ l ↔ x ∈ m) → l = m
  | [], [], _, _, _ => rfl
  | [], y :: m, _, _, h => by
    have := (h y).mpr (List.mem_cons_self ..)
    cases this
  | x :: l, [], _, _, h => by
    have := (h x).mp (List.mem_cons_self ..)
    cases this
  | x :: l, y :: m, hl, hm, h => by
    obtain ⟨h1, h2⟩ := List.pairwise_cons.mp hl
    obtain ⟨h3, h4⟩ := List.pairwise_cons.mp hm
    have e : x = y := by
      rcases List.mem_cons.mp ((h x).mp (List.mem_cons_self ..)) with e | e
      · exact e
      · rcases List.mem_cons.mp ((h y).mpr (List.mem_cons_self ..)) with e2 | e2
        · exact e2.symm
        · have a := h3 x e
          have b := h1 y e2
          omega
    subst e
    refine congrArg (x :: ·) (desc_unique h2 h4 fun z => ⟨fun hz => ?_, fun hz => ?_⟩)
    · rcases List.mem_cons.mp ((h z).mp (List.mem_cons_of_mem _ hz)) with e | e
      · have := h1 z hz
        omega
      · exact e
    · rcases List.mem_cons.mp ((h z).mpr (List.mem_cons_of_mem _ hz)) with e | e
      · have := h3 z hz
        omega
      · exact e
theorem thick_desc (s : Splitter) : (thicknesses s).Pairwise (· > ·) := by
  unfold thicknesses
  exact List.Pairwise.filter _ (List.pairwise_reverse.mpr List.pairwise_lt_range)
theorem thick_mem {n : Nat} {s : Splitter} (g : Good n s) (x : Nat) : x ∈ thicknesses s ↔ x ∈ keys s := by
  unfold thicknesses
  rw [List.mem_filter, List.mem_reverse, List.mem_range, isProduct_iff]
  constructor
  · exact fun h => h.2
  · intro h
    have := keys_range g h
    exact ⟨by show x < 60 + 1; omega, h⟩
theorem strict_of {l : List Nat} (h : l.Pairwise (· ≥ ·)) (nd : l.Nodup) : l.Pairwise (· > ·) := by
  have h2 := List.Pairwise.and h nd
  refine h2.imp fun {a b} z => ?_
  have z1 : b ≤ a := z.1
  have z2 : a ≠ b := z.2
  show b < a
  omega
theorem desc_is {n : Nat} {s : Splitter} (g : Good n s) {l : List Nat} (hp : l.Perm (keys s)) (h : l.Pairwise (· ≥ ·)) : l = thicknesses s :=
  desc_unique (strict_of h (hp.nodup_iff.mpr g.nd)) (thick_desc s) fun x => hp.mem_iff.trans (thick_mem g x).symm
theorem asc_is {n : Nat} {s : Splitter} (g : Good n s) {l : List Nat} (hp : l.Perm (keys s)) (h : l.Pairwise (· ≤ ·)) : l.reverse = thicknesses s :=
  desc_is g ((List.reverse_perm l).trans hp) (List.pairwise_reverse.mpr h)
/-- the same from Python's whole numbers -/
theorem cast_perm {ns : List Int} {l : List Nat} (h : ns.Perm (l.map fun n : Nat => (n : Int))) : ∃ m : List Nat, ns = m.map (fun n : Nat => (n : Int)) ∧ m.Perm l := by
  refine ⟨ns.map Int.toNat, ?_, ?_⟩
  · rw [List.map_map]
    have : ∀ x ∈ ns, ((fun n : Nat => (n : Int)) ∘ Int.toNat) x = x := by
      intro x hx
      obtain ⟨n, _, rfl⟩ := List.mem_map.mp (h.mem_iff.mp hx)
      rfl
    exact (List.map_congr_left this |>.trans (List.map_id' ns)).symm
  · have z := h.map Int.toNat
    rw [List.map_map] at z
    have e : (Int.toNat ∘ fun n : Nat => (n : Int)) = id := by
      funext n
      rfl
    rw [e, List.map_id] at z
    exact z
theorem cast_pairwise {l : List Nat} {R : Int → Int → Prop} {S : Nat → Nat → Prop} (hRS : ∀ a b : Nat, R a b → S a b) (h : (l.map fun n : Nat => (n : Int)).Pairwise R) : l.Pairwise S := by
  rw [List.pairwise_map] at h
  exact h.imp fun {a b} z => hRS a b z
theorem asc_cast {n : Nat} {s : Splitter} (g : Good n s) {ns : List Int} (hp : ns.Perm ((keys s).map fun n : Nat => (n : Int))) (h : ns.Pairwise (· ≤ ·)) :
    ∃ asc : List Nat, ns = asc.map (fun n : Nat => (n : Int)) ∧ asc.reverse = thicknesses s ∧ asc.length = s.products.length ∧ (∀ t ∈ asc, 3 ≤ t ∧ t ≤ 60) ∧ ∀ t ∈ asc, t ∈ keys s := by
  obtain ⟨m, e, hm⟩ := cast_perm hp
  subst e
  refine ⟨m, rfl, asc_is g hm (cast_pairwise (fun a b z => Int.ofNat_le.mp z) h), ?_, fun t ht => keys_range g (hm.mem_iff.mp ht), fun t ht => hm.mem_iff.mp ht⟩
  rw [hm.length_eq, keys_len]
theorem desc_cast {n : Nat} {s : Splitter} (g : Good n s) {ns : List Int} (hp : ns.Perm ((keys s).map fun n : Nat => (n : Int))) (h : ns.Pairwise (· ≥ ·)) :
    ns = (thicknesses s).map (fun n : Nat => (n : Int)) := by
  obtain ⟨m, e, hm⟩ := cast_perm hp
  subst e
  rw [desc_is g hm (cast_pairwise (fun a b z => Int.ofNat_le.mp z) h)]

/-! ### the products change -/
theorem good_new {k n : Nat} (h : validMachine k n = true) : Good 6 ⟨[], k, n⟩ := by
  obtain ⟨h1, h2⟩ := Bool.and_eq_true_iff.mp h
  exact ⟨List.nodup_nil, fun p hp => (by cases hp), fun p hp => (by cases hp), Nat.zero_le _, of_decide_eq_true h1, of_decide_eq_true h2⟩
theorem good_add {m : Nat} {s : Splitter} (g : Good m s) {x v : Nat} (hx : 3 ≤ x ∧ x ≤ 60) (hv : v ≤ 99) (hn : isProduct s x = false) : Good (m + 1) { s with products := s.products ++ [⟨x, v⟩] } := by
  refine ⟨?_, fun p hp => ?_, fun p hp => ?_, ?_, g.cut, g.mx⟩
  · show ((s.products ++ [(⟨x, v⟩ : Product)]).map Product.thickness).Nodup
    rw [List.map_append]
    refine List.nodup_append.mpr ⟨g.nd, by simp, fun a ha b hb e => ?_⟩
    have hb : b = x := by simpa using hb
    have : isProduct s x = true := isProduct_iff.mpr (by rw [← hb, ← e]; exact ha)
    rw [hn] at this
    cases this
  · rcases List.mem_append.mp hp with q | q
    · exact g.th p q
    · have : p = ⟨x, v⟩ := by simpa using q
      rw [this]
      exact hx
  · rcases List.mem_append.mp hp with q | q
    · exact g.pr p q
    · have : p = ⟨x, v⟩ := by simpa using q
      rw [this]
      exact hv
  · show (s.products ++ [(⟨x, v⟩ : Product)]).length ≤ m + 1
    have := g.len
    rw [List.length_append]
    simp
    exact this
theorem good_del {m : Nat} {s : Splitter} (g : Good m s) (x : Nat) : Good m { s with products := s.products.filter fun p => p.thickness != x } := by
  refine ⟨?_, fun p hp => g.th p (List.mem_filter.mp hp).1, fun p hp => g.pr p (List.mem_filter.mp hp).1, Nat.le_trans (List.length_filter_le ..) g.len, g.cut, g.mx⟩
  exact g.nd.sublist (List.Sublist.map _ List.filter_sublist)
theorem set_keys (l : List Product) (x v : Nat) : (l.map fun p => if p.thickness = x then { p with price := v } else p).map Product.thickness = l.map Product.thickness := by
  rw [List.map_map]
  refine List.map_congr_left fun p _ => ?_
  show (if p.thickness = x then { p with price := v } else p : Product).thickness = p.thickness
  by_cases e : p.thickness = x
  · rw [if_pos e]
  · rw [if_neg e]
theorem good_set {m : Nat} {s : Splitter} (g : Good m s) (x : Nat) {v : Nat} (hv : v ≤ 99) : Good m { s with products := s.products.map fun p => if p.thickness = x then { p with price := v } else p } := by
  refine ⟨?_, fun p hp => ?_, fun p hp => ?_, ?_, g.cut, g.mx⟩
  · show ((s.products.map fun p => if p.thickness = x then { p with price := v } else p).map Product.thickness).Nodup
    rw [set_keys]
    exact g.nd
  · obtain ⟨q, hq, rfl⟩ := List.mem_map.mp hp
    by_cases e : q.thickness = x
    · rw [if_pos e]
      exact g.th q hq
    · rw [if_neg e]
      exact g.th q hq
  · obtain ⟨q, hq, rfl⟩ := List.mem_map.mp hp
    by_cases e : q.thickness = x
    · rw [if_pos e]
      exact hv
    · rw [if_neg e]
      exact g.pr q hq
  · rw [List.length_map]
    exact g.len
theorem good_machine {m : Nat} {s : Splitter} (g : Good m s) {k n : Nat} (h : validMachine k n = true) : Good m { s with cutLoss := k, maxCuts := n } := by
  obtain ⟨h1, h2⟩ := Bool.and_eq_true_iff.mp h
  exact ⟨g.nd, g.th, g.pr, g.len, of_decide_eq_true h1, of_decide_eq_true h2⟩
theorem del_len {m : Nat} {s : Splitter} (g : Good m s) {x : Nat} (h : isProduct s x = true) : (s.products.filter fun p => p.thickness != x).length = s.products.length - 1 := by
  have key : ∀ l : List Product, (l.map Product.thickness).Nodup → x ∈ l.map Product.thickness → (l.filter fun p => p.thickness != x).length = l.length - 1 := by
    intro l
    induction l with
    | nil =>
      intro _ h
      cases h
    | cons p r ih =>
      intro nd h
      rw [List.map_cons, List.nodup_cons] at nd
      by_cases e : p.thickness = x
      · have z : r.filter (fun p => p.thickness != x) = r := List.filter_eq_self.mpr fun q hq => by
          have : q.thickness ≠ x := fun e2 => nd.1 (by rw [e, ← e2]; exact List.mem_map_of_mem hq)
          simpa using this
        rw [List.filter_cons, if_neg (by simp [e]), z]
        rfl
      · rw [List.filter_cons, if_pos (by simpa using e), List.length_cons]
        rw [List.map_cons] at h
        rcases List.mem_cons.mp h with e2 | h2
        · exact absurd e2.symm e
        · rw [ih nd.2 h2]
          have : r.length ≠ 0 := by
            intro z
            have : r = [] := List.eq_nil_of_length_eq_zero z
            rw [this] at h2
            cases h2
          show _ + 1 = r.length + 1 - 1
          omega
  exact key s.products g.nd (isProduct_iff.mp h)

/-! ### plans of products -/
/-- each layer at most as thick as the one before -/
def chain (l : List Nat) : Bool := (List.range (l.length - 1)).all fun i => decide (l.getD (i + 1) 0 ≤ l.getD i 0)
theorem validPlan_iff {s : Splitter} {l : List Nat} : validPlan s l = true ↔ l.length ≤ 6 ∧ (∀ t ∈ l, isProduct s t = true) ∧ ∀ i, i + 1 < l.length → l.getD (i + 1) 0 ≤ l.getD i 0 := by
  unfold validPlan
  rw [Bool.and_eq_true_iff, Bool.and_eq_true_iff, List.all_eq_true, List.all_eq_true]
  constructor
  · rintro ⟨⟨h1, h2⟩, h3⟩
    exact ⟨of_decide_eq_true h1, h2, fun i hi => of_decide_eq_true (h3 i (List.mem_range.mpr (by omega)))⟩
  · rintro ⟨h1, h2, h3⟩
    exact ⟨⟨decide_eq_true h1, h2⟩, fun i hi => decide_eq_true (h3 i (by have := List.mem_range.mp hi; omega))⟩
theorem plans_sub {s : Splitter} {asc : List Nat} (hk : ∀ t ∈ asc, t ∈ keys s) {c h : Nat} {p : List Nat} (hp : p ∈ within asc c h) : p.length ≤ 6 ∧ ∀ t ∈ p, t ∈ keys s := by
  obtain ⟨h1, h2⟩ := within_ext hp
  exact ⟨h1, fun t ht => hk t (h2 t ht)⟩

/-! ### the list of calls -/
/-- a call as it is told: its number, how many numbers it has, these, no list -/
def enc (p : Int × List Int) : List Int := p.1 :: (p.2.length : Int) :: (p.2 ++ [0])
theorem asked_one {c : List (List Int)} (h : Kp397Neutral.asked1 c = true) : ∃ p : Int × List Int, c = [p.1 :: p.2] := by
  unfold Kp397Neutral.asked1 at h
  split at h <;> first | exact ⟨(_, _), rfl⟩ | cases h
theorem row_some {r a b : List Int} (h : PyFlat.row r = some (a, b)) : ∃ n, r = n :: (a ++ b) ∧ n = (a.length : Int) := by
  cases r with
  | nil => cases h
  | cons n r =>
    have h : (if 0 ≤ n ∧ n.toNat ≤ r.length then some (r.take n.toNat, r.drop n.toNat) else none) = some (a, b) := h
    by_cases q : 0 ≤ n ∧ n.toNat ≤ r.length
    · rw [if_pos q] at h
      cases h
      refine ⟨n, by rw [List.take_append_drop], ?_⟩
      rw [List.length_take]
      have : min n.toNat r.length = n.toNat := by omega
      rw [this]
      omega
    · rw [if_neg q] at h
      cases h
theorem call_some {l t : List Int} {c : List (List Int)} (h : PyWide.call l = some (c, t)) (ha : Kp397Neutral.asked1 c = true) : ∃ p : Int × List Int, c = [p.1 :: p.2] ∧ l = enc p ++ t := by
  cases l with
  | nil => cases h
  | cons p r =>
    unfold PyWide.call at h
    dsimp only at h
    cases e : PyFlat.row r with
    | none =>
      rw [e] at h
      cases h
    | some ab =>
      obtain ⟨ns, b⟩ := ab
      rw [e] at h
      cases b with
      | nil => cases h
      | cons k u =>
        dsimp only at h
        by_cases hk : 0 ≤ k
        · rw [if_pos hk] at h
          cases er : PyFlat.rows k.toNat u with
          | none =>
            rw [er] at h
            cases h
          | some xu =>
            obtain ⟨xs, w⟩ := xu
            rw [er] at h
            cases h
            obtain ⟨n, e1, e2⟩ := row_some e
            obtain ⟨q, hq⟩ := asked_one ha
            have hxs : xs = [] := by
              have := congrArg List.tail hq
              simpa using this
            have hk0 : k.toNat = 0 := by
              cases ek : k.toNat with
              | zero => rfl
              | succ m =>
                rw [ek] at er
                unfold PyFlat.rows at er
                split at er
                · cases er
                · split at er
                  · cases er
                  · cases er
                    cases hxs
            rw [hk0] at er
            have er : some (([] : List (List Int)), u) = some (xs, t) := er
            cases er
            have hk1 : k = 0 := by omega
            refine ⟨(p, ns), rfl, ?_⟩
            rw [e1, e2, hk1]
            unfold enc
            simp
        · rw [if_neg hk] at h
          cases h
theorem calls_some : ∀ (f : Nat) (l : List Int) (cs : List (List (List Int))), PyWide.calls f l = some cs → cs.all Kp397Neutral.asked1 = true → ∃ ps : List (Int × List Int), cs = ps.map (fun p => [p.1 :: p.2]) ∧ l = ps.flatMap enc
  | f, [], cs, h, _ => by
    have h : some ([] : List (List (List Int))) = some cs := by
      cases f <;> exact h
    cases h
    exact ⟨[], rfl, rfl⟩
  | 0, p :: r, cs, h, _ => by cases h
  | f + 1, p :: r, cs, h, ha => by
    unfold PyWide.calls at h
    cases e : PyWide.call (p :: r) with
    | none =>
      rw [e] at h
      cases h
    | some ct =>
      obtain ⟨c, t⟩ := ct
      rw [e] at h
      dsimp only at h
      cases e2 : PyWide.calls f t with
      | none =>
        rw [e2] at h
        cases h
      | some cs' =>
        rw [e2] at h
        cases h
        rw [List.all_cons, Bool.and_eq_true_iff] at ha
        obtain ⟨q, h1, h2⟩ := call_some e ha.1
        obtain ⟨qs, h3, h4⟩ := calls_some f t cs' e2 ha.2
        exact ⟨q :: qs, by rw [h1, h3]; rfl, by rw [h2, h4]; rfl⟩
/-- one call asked for -/
def askP (p : Int × List Int) : Bool := Kp397Neutral.asked1 [p.1 :: p.2]
/-- what the request is -/
theorem asked_is {l : List Int} (h : PyKp397.answers_asked l = true) : ∃ ps : List (Int × List Int), ps.length ≤ 60 ∧ (∀ p ∈ ps, askP p = true) ∧ l = ps.flatMap enc ∧
    PyKp397.answers l = PyFlat.told (PyFlat.played Kp397Neutral.step Kp397Neutral.start (ps.map fun p => [p.1 :: p.2])) ∧ (PyKp397.answers l).length ≤ 10000000 := by
  unfold PyKp397.answers_asked at h
  cases e : PyKp397.calls l with
  | none =>
    rw [e] at h
    cases h
  | some cs =>
    rw [e] at h
    dsimp only at h
    rw [Bool.and_eq_true_iff, Bool.and_eq_true_iff] at h
    obtain ⟨⟨h1, h2⟩, h3⟩ := h
    unfold Kp397Neutral.asked at h2
    rw [Bool.and_eq_true_iff, Bool.and_eq_true_iff] at h2
    obtain ⟨_, _, h4⟩ := h2
    obtain ⟨ps, e1, e2⟩ := calls_some _ _ _ e h4
    subst e1
    have hl : ps.length ≤ 60 := by
      have := of_decide_eq_true h1
      rw [List.length_map] at this
      exact this
    refine ⟨ps, hl, fun p hp => ?_, e2, ?_, of_decide_eq_true h3⟩
    · exact List.all_eq_true.mp h4 _ (List.mem_map_of_mem hp)
    · unfold PyKp397.answers
      rw [e]
/-- the state and the answers behind some calls -/
def after (ps : List (Int × List Int)) : State × List Int := ps.foldl (fun a p => ((Kp397Neutral.step a.1 [p.1 :: p.2]).1, a.2 ++ (((Kp397Neutral.step a.1 [p.1 :: p.2]).2.length : Int) :: (Kp397Neutral.step a.1 [p.1 :: p.2]).2))) (Kp397.start, [])
theorem told_cons (a : List Int) (l : List (List Int)) : PyFlat.told (a :: l) = ((a.length : Int) :: a) ++ PyFlat.told l := List.flatMap_cons ..
theorem played_fold : ∀ (ps : List (Int × List Int)) (st : State) (acc : List Int),
    (ps.foldl (fun a p => ((Kp397Neutral.step a.1 [p.1 :: p.2]).1, a.2 ++ (((Kp397Neutral.step a.1 [p.1 :: p.2]).2.length : Int) :: (Kp397Neutral.step a.1 [p.1 :: p.2]).2))) (st, acc)).2 = acc ++ PyFlat.told (PyFlat.played Kp397Neutral.step st (ps.map fun p => [p.1 :: p.2]))
  | [], st, acc => by
    show acc = acc ++ []
    rw [List.append_nil]
  | p :: r, st, acc => by
    rw [List.foldl_cons, played_fold r, List.map_cons]
    show _ = acc ++ PyFlat.told ((Kp397Neutral.step st [p.1 :: p.2]).2 :: PyFlat.played Kp397Neutral.step (Kp397Neutral.step st [p.1 :: p.2]).1 (r.map fun p => [p.1 :: p.2]))
    rw [told_cons, List.append_assoc]
theorem after_is (ps : List (Int × List Int)) : (after ps).2 = PyFlat.told (PyFlat.played Kp397Neutral.step Kp397Neutral.start (ps.map fun p => [p.1 :: p.2])) := played_fold ps _ _
theorem after_snoc (ps : List (Int × List Int)) (p : Int × List Int) : after (ps ++ [p]) = ((Kp397Neutral.step (after ps).1 [p.1 :: p.2]).1, (after ps).2 ++ (((Kp397Neutral.step (after ps).1 [p.1 :: p.2]).2.length : Int) :: (Kp397Neutral.step (after ps).1 [p.1 :: p.2]).2)) := by
  unfold after
  rw [List.foldl_append]
  rfl
theorem take_more {α : Type} : ∀ {l : List α} {i : Nat} {x : α}, l[i]? = some x → l.take (i + 1) = l.take i ++ [x]
  | [], i, x, h => by simp at h
  | a :: l, 0, x, h => by
    have e : a = x := Option.some.inj h
    subst e
    rfl
  | a :: l, i + 1, x, h => by
    have ih := take_more (l := l) (i := i) (x := x) h
    show a :: l.take (i + 1) = a :: l.take i ++ [x]
    rw [ih]
    rfl
/-- the numbers of a call are as asked -/
theorem asked_shape {p : Int × List Int} (h : askP p = true) : p.2.length ≤ 9 ∧ (∀ z ∈ p.2, 0 ≤ z ∧ z < 4294967296) ∧ 0 ≤ p.1 ∧ p.1 ≤ 19 := by
  obtain ⟨n, l⟩ := p
  have nat : ∀ {z : Int}, Kp397Neutral.natural z = true → 0 ≤ z ∧ z < 4294967296 := fun {z} h => by
    obtain ⟨h1, h2⟩ := Bool.and_eq_true_iff.mp h
    exact ⟨of_decide_eq_true h1, of_decide_eq_true h2⟩
  have all : ∀ {m : List Int}, m.all Kp397Neutral.natural = true → ∀ z ∈ m, 0 ≤ z ∧ z < 4294967296 := fun {m} h z hz => nat (List.all_eq_true.mp h z hz)
  unfold askP at h
  dsimp only at h
  unfold Kp397Neutral.asked1 at h
  split at h <;> (try rename_i e; simp only [List.cons.injEq, and_true] at e; obtain ⟨e1, e2⟩ := e; subst e1; subst e2)
  all_goals (try (simp only [Bool.and_eq_true] at h))
  all_goals first
    | (cases h; done)
    | (refine ⟨by simp, fun z hz => ?_, by simp, by simp⟩
       simp only [List.mem_cons, List.not_mem_nil, or_false] at hz
       rcases hz with e | e | e <;> subst e <;> first | exact nat h.1 | exact nat h.2.1 | exact nat h.2.2)
    | (refine ⟨by simp, fun z hz => ?_, by simp, by simp⟩
       simp only [List.mem_cons, List.not_mem_nil, or_false] at hz
       rcases hz with e | e <;> subst e <;> first | exact nat h.1 | exact nat h.2)
    | (refine ⟨by simp, fun z hz => ?_, by simp, by simp⟩
       simp only [List.mem_cons, List.not_mem_nil, or_false] at hz
       subst hz; exact nat h)
    | exact ⟨Nat.le_succ_of_le (of_decide_eq_true h.2), all h.1, by simp, by simp⟩
    | exact ⟨Nat.succ_le_succ (of_decide_eq_true h.2.2), fun z hz => (by
        rcases List.mem_cons.mp hz with e | e
        · subst e
          exact nat h.1
        · exact all h.2.1 z e), by simp, by simp⟩
    | exact ⟨by simp, fun z hz => (by cases hz), by simp, by simp⟩
end Hl

set_option Elab.async false
set_option linter.all false
set_option maxRecDepth 100000
set_option maxHeartbeats 2000000
/-! # Hides and layers, part 3: the text by its places, the heap's words. -/
namespace Hl
open PySem PySem.Spec PyProof.Rows L2
open Kp397 (Splitter Product)

/-! ### the text -/
def top (i : Nat) : Stmt := PySem.Challenge.pw_hidelayers_s01_answers.main.body.getD i (.Pass ⟨0, 0, 0, 0⟩)
/-- a def of the top as it stands behind the top -/
structure Df (K : PySem.W.Frag) (mg : Str → Option Value) (x : Str) (st : Stmt) (ps : List Str) (f : Addr) (fd : FuncData) : Prop where
  F : Fun K x x st f fd
  g : mg x = some (.ref f)
  k : PySem.W.keepIn K (.ref f) = true
  b : Binds K fd ps []
/-- a method -/
structure Mt (K : PySem.W.Frag) (C : Addr) (x q : Str) (st : Stmt) (ps : List Str) (f : Addr) (fd : FuncData) : Prop where
  F : Fun K x q st f fd
  m : Meth K C x f
  b : Binds K fd ps []

/-! ### lists of whole numbers, lists of plans -/
abbrev iN (l : List Nat) : List Int := l.map fun n : Nat => (n : Int)
abbrev vN (l : List Nat) : List V := (iN l).map V.int
theorem vN_len (l : List Nat) : (vN l).length = l.length := by
  rw [List.length_map, List.length_map]
theorem vN_get {l : List Nat} {i : Nat} {v : V} (h : (vN l)[i]? = some v) : ∃ t, l[i]? = some t ∧ v = .int (t : Int) := by
  rw [List.getElem?_map, List.getElem?_map] at h
  cases e : l[i]? with
  | none =>
    rw [e] at h
    cases h
  | some t =>
    rw [e] at h
    exact ⟨t, rfl, (Option.some.inj h).symm⟩
theorem vN_at {l : List Nat} {i t : Nat} (h : l[i]? = some t) : (vN l)[i]? = some (.int (t : Int)) := by
  rw [List.getElem?_map, List.getElem?_map, h]
  rfl
theorem vN_snoc (l : List Nat) (t : Nat) : vN (l ++ [t]) = vN l ++ [.int (t : Int)] := by
  unfold vN iN
  rw [List.map_append, List.map_append]
  rfl
theorem iN_sum : ∀ l : List Nat, (iN l).sum = ((l.sum : Nat) : Int)
  | [] => rfl
  | x :: r => by
    have ih := iN_sum r
    unfold iN at ih ⊢
    rw [List.map_cons, List.sum_cons, List.sum_cons, ih]
    omega
theorem vN_int {ns : List Int} {l : List Nat} (h : ns = iN l) : ns.map V.int = vN l := by rw [h]
/-- the lists at these places are these plans -/
inductive Pls (H : Hp) : List Addr → List (List Nat) → Prop
  | nil : Pls H [] []
  | cons {a : Addr} {p : List Nat} {as : List Addr} {ps : List (List Nat)} : H a = some (.lst (vN p)) → Pls H as ps → Pls H (a :: as) (p :: ps)
theorem Pls.same {H H' : Hp} (e : Same H H') {as : List Addr} {ps : List (List Nat)} (h : Pls H as ps) : Pls H' as ps := by
  induction h with
  | nil => exact .nil
  | cons ha _ ih => exact .cons (e _ _ ha) ih
theorem Pls.append {H : Hp} {as bs : List Addr} {ps qs : List (List Nat)} (h : Pls H as ps) (k : Pls H bs qs) : Pls H (as ++ bs) (ps ++ qs) := by
  induction h with
  | nil => exact k
  | cons ha _ ih => exact .cons ha ih
theorem Pls.one {H : Hp} {a : Addr} {p : List Nat} (h : H a = some (.lst (vN p))) : Pls H [a] [p] := .cons h .nil
theorem Pls.len {H : Hp} {as : List Addr} {ps : List (List Nat)} (h : Pls H as ps) : as.length = ps.length := by
  induction h with
  | nil => rfl
  | cons _ _ ih => rw [List.length_cons, List.length_cons, ih]
theorem Pls.at {H : Hp} {as : List Addr} {ps : List (List Nat)} (h : Pls H as ps) : ∀ {i : Nat} {a : Addr}, as[i]? = some a → ∃ p, ps[i]? = some p ∧ H a = some (.lst (vN p)) := by
  induction h with
  | nil =>
    intro i a e
    simp at e
  | cons ha _ ih =>
    intro i a e
    cases i with
    | zero =>
      simp at e
      subst e
      exact ⟨_, rfl, ha⟩
    | succ i => exact ih (by simpa using e)
/-- the last one, and the ones before -/
theorem Pls.last {H : Hp} : ∀ {as : List Addr} {ps : List (List Nat)}, Pls H as ps → as ≠ [] → ∃ bs b qs q, as = bs ++ [b] ∧ ps = qs ++ [q] ∧ Pls H bs qs ∧ H b = some (.lst (vN q))
  | _, _, .nil, h => absurd rfl h
  | _, _, .cons (a := a) (p := p) (as := []) ha hr, _ => by
    cases hr
    exact ⟨[], a, [], p, rfl, rfl, .nil, ha⟩
  | _, _, .cons (a := a) (p := p) (as := b :: as) ha hr, _ => by
    obtain ⟨bs, b', qs, q, e1, e2, h1, h2⟩ := hr.last (by simp)
    refine ⟨a :: bs, b', p :: qs, q, ?_, ?_, .cons ha h1, h2⟩
    · rw [e1]
      rfl
    · rw [e2]
      rfl
theorem ref_get {as : List Addr} {i : Nat} {v : V} (h : (as.map V.ref)[i]? = some v) : ∃ a, as[i]? = some a ∧ v = .ref a := by
  rw [List.getElem?_map] at h
  cases e : as[i]? with
  | none =>
    rw [e] at h
    cases h
  | some t =>
    rw [e] at h
    exact ⟨t, rfl, (Option.some.inj h).symm⟩

/-! ### new objects -/
theorem same_upd {H H' : Hp} {a : Addr} {o : HO} (e : Same H H') (h : H a = none) : Same H (upd H' a o) := fun b u q => by
  rw [upd_ne (ne_of_none q h)]
  exact e b u q
theorem same_upd' {H H' : Hp} {a : Addr} {o : HO} (e : Same H H') (h : H' a = none) : Same H (upd H' a o) := same_upd e (e.free h)
theorem same_new {H : Hp} {a : Addr} {o : HO} (h : H a = none) : Same H (upd H a o) := same_upd (Same.refl H) h

/-! ### the dict of prices -/
def kvs (s : Splitter) : List (Key × V) := s.products.map fun p => (Sum.inl (p.thickness : Int), V.int (p.price : Int))
def DictAt (H : Hp) (d : Addr) (s : Splitter) : Prop := H d = some (.dK (kvs s))
theorem kvs_len (s : Splitter) : (kvs s).length = s.products.length := List.length_map ..
theorem kvs_keys (s : Splitter) : (kvs s).map (·.1) = (iN (keys s)).map Sum.inl := by
  unfold kvs keys iN
  rw [List.map_map, List.map_map, List.map_map]
  rfl
theorem kvs_kV (s : Splitter) : (kvs s).map (fun kv => kV kv.1) = vN (keys s) := by
  unfold kvs keys vN iN
  rw [List.map_map, List.map_map, List.map_map]
  rfl
theorem valV_find (l : List Product) (t : Nat) : valV (l.map fun p => ((Sum.inl (p.thickness : Int) : Key), V.int (p.price : Int))) (Sum.inl (t : Int)) = (l.find? fun p => p.thickness == t).map fun p => V.int (p.price : Int) := by
  induction l with
  | nil => rfl
  | cons p r ih =>
    rw [List.map_cons, List.find?_cons]
    by_cases e : p.thickness = t
    · rw [valV_pos (by rw [e]), beq_iff_eq.mpr e]
      rfl
    · rw [valV_neg (fun q => e (by have := Sum.inl.inj q; omega)), ih, beq_eq_false_iff_ne.mpr e]
theorem valV_in' {s : Splitter} {t : Nat} (h : Kp397.isProduct s t = true) : valV (kvs s) (Sum.inl (t : Int)) = some (.int (Kp397.priceOf s t : Nat)) := by
  unfold kvs
  rw [valV_find]
  unfold Kp397.priceOf
  cases e : s.products.find? (fun p => p.thickness == t) with
  | none =>
    obtain ⟨p, hp, q⟩ := List.any_eq_true.mp h
    have := List.find?_eq_none.mp e p hp
    exact absurd q this
  | some p => rfl
theorem valV_out {s : Splitter} {t : Nat} (h : Kp397.isProduct s t = false) : valV (kvs s) (Sum.inl (t : Int)) = none := by
  unfold kvs
  rw [valV_find]
  have : s.products.find? (fun p => p.thickness == t) = none := by
    refine List.find?_eq_none.mpr fun p hp q => ?_
    have : Kp397.isProduct s t = true := List.any_eq_true.mpr ⟨p, hp, q⟩
    rw [h] at this
    cases this
  rw [this]
  rfl
theorem isP {s : Splitter} {t : Nat} (h : t ∈ keys s) : Kp397.isProduct s t = true := isProduct_iff.mpr h

theorem dget_in {H : Hp} {d : Addr} {s : Splitter} (hd : DictAt H d s) {t : Nat} (h : Kp397.isProduct s t = true) : DGet H d (.int (t : Int)) (some (.int (Kp397.priceOf s t : Nat))) := by
  rw [← valV_in' h]
  exact DGet.k (k := Sum.inl (t : Int)) hd
/-! ### the limits that the top has written -/
structure Lim (mg : Str → Option Value) : Prop where
  minT : ∃ t, mg "MIN_THICKNESS" = some (.int 3 t)
  maxT : ∃ t, mg "MAX_THICKNESS" = some (.int 60 t)
  minP : ∃ t, mg "MIN_PRICE" = some (.int 1 t)
  maxP : ∃ t, mg "MAX_PRICE" = some (.int 99 t)
  loss : ∃ t, mg "MAX_CUT_LOSS" = some (.int 9 t)
  cuts : ∃ t, mg "MAX_CUTS" = some (.int 5 t)
  hide : ∃ t, mg "MAX_HIDE" = some (.int 60 t)
  value : ∃ t, mg "MAX_VALUE" = some (.int 999 t)
  prods : ∃ t, mg "MAX_PRODUCTS" = some (.int 6 t)
  layers : ∃ t, mg "MAX_LAYERS" = some (.int 6 t)
  step : ∃ t, mg "TABLE_STEP" = some (.int 5 t)
  create : ∃ t, mg "CREATE" = some (.int 0 t)
/-- the built-in names that no name of the top hides -/
structure Blt (mg : Str → Option Value) : Prop where
  len : mg "len" = none
  sum : mg "sum" = none
  max : mg "max" = none
  min : mg "min" = none
  sorted : mg "sorted" = none
  list : mg "list" = none
  dict : mg "dict" = none
  range : mg "range" = none
  enumerate : mg "enumerate" = none
/-! ### tests whose outcome is known -/
theorem ifT {c : Bool} {A B : Prop} (hc : c = true) (h : A) : if c = true then A else B := by
  rw [if_pos hc]
  exact h
theorem ifF {c : Bool} {A B : Prop} (hc : c = false) (h : B) : if c = true then A else B := by
  rw [hc, if_neg Bool.false_ne_true]
  exact h
end Hl

set_option Elab.async false
set_option linter.all false
set_option maxRecDepth 100000
set_option maxHeartbeats 2000000
/-! # Hides and layers, part 4: the defs of plans. -/
namespace Hl
open PySem PySem.Spec PyProof.Rows L2
open Kp397 (Splitter Product)
section
variable {P : Program} {w : World} {K : PySem.W.Frag} {mg : Str → Option Value} {base : Heap}

/-! ### used_thickness -/
def spUsed (K : PySem.W.Frag) : Sp := fun vs H Q _ => ∃ (a : Addr) (p : List Nat) (c : Nat), vs = [.ref a, .int (c : Int)] ∧ SqL K H a (vN p) ∧ p.length ≤ 1000 ∧ c ≤ 9 ∧ Q (.int (used c p : Nat)) H
theorem scUsed : FnScope ["plan", "cut_loss"] ["plan", "cut_loss"] (defScope (top 28)) := ⟨rfl, rfl, rfl, by decide +kernel, rfl, by decide +kernel, by decide +kernel⟩
theorem okUsed {f : Addr} {fd : FuncData} (D : Df K mg "used_thickness" (top 28) ["plan", "cut_loss"] f fd) (B : Blt mg) : FnOk P w K mg base CX0 1 f fd ["plan", "cut_loss"] (spUsed K) := by
  refine D.F.ok scUsed (fun vs H Q E h => ?_) (fun cdv A outer s H vs Q E hr h => ⟨_, pss_cons (ps_if (pt_not (pt_truth (pv 0) (by intro _; rfl))) (pss_one (ps_ret pe_int)) pss_nil)
    (pss_one (ps_ret (pe_op op_add (pe_callB (cr_sum rfl) (by rfl) B.sum (by decide +kernel) (pa_cons (pv 0) pa_nil)) (pe_op op_mul (pv 1) (pe_op op_sub (pe_callB call_len_seq (by rfl) B.len PySem.boot_len (pa_cons (pv 0) pa_nil)) pe_int))))), ?_⟩)
  · obtain ⟨a, p, c, rfl, _⟩ := h
    rfl
  · obtain ⟨a, p, c, rfl, hS, hl, hc, q⟩ := h
    refine ⟨_, rfl, !(vN p).isEmpty, .inl ⟨_, hS, rfl⟩, ?_⟩
    cases p with
    | nil =>
      have e : used c [] = 0 := used_nil c
      rw [e] at q
      exact iteT q
    | cons x r =>
      refine iteF ?_
      refine ⟨_, rfl, a, iN (x :: r), rfl, hS, _, rfl, _, rfl, a, _, rfl, .inl hS, _, _, rfl, rfl, _, _, rfl, rfl, .inl ⟨?_, ?_⟩, _, _, rfl, rfl, ?_⟩
      · omega
      · omega
      · rw [iN_sum, vN_len]
        have e : ((used c (x :: r) : Nat) : Int) = (((x :: r).sum : Nat) : Int) + (c : Int) * ((((x :: r).length : Nat) : Int) - 1) := by
          unfold used
          rw [Int.natCast_add, Int.natCast_mul, List.length_cons]
          have : (((r.length + 1 - 1 : Nat)) : Int) = (((r.length + 1 : Nat)) : Int) - 1 := by omega
          rw [this]
        rw [e] at q
        exact q

/-! ### number_of_cuts -/
def spCuts (K : PySem.W.Frag) : Sp := fun vs H Q _ => ∃ (a : Addr) (p : List Nat) (c h : Nat), vs = [.ref a, .int (c : Int), .int (h : Int)] ∧ SqL K H a (vN p) ∧ p.length ≤ 1000 ∧ c ≤ 9 ∧ Q (.int (cuts c h p : Nat)) H
theorem scCuts : FnScope ["plan", "cut_loss", "hide"] ["plan", "cut_loss", "hide"] (defScope (top 29)) := ⟨rfl, rfl, rfl, by decide +kernel, rfl, by decide +kernel, by decide +kernel⟩
theorem okCuts {f fU : Addr} {fd dU : FuncData} (D : Df K mg "number_of_cuts" (top 29) ["plan", "cut_loss", "hide"] f fd) (U : Df K mg "used_thickness" (top 28) ["plan", "cut_loss"] fU dU) (B : Blt mg) :
    FnOk P w K mg base CX0 2 f fd ["plan", "cut_loss", "hide"] (spCuts K) := by
  have GU : FnOk P w K mg base CX0 1 fU dU ["plan", "cut_loss"] (spUsed K) := okUsed U B
  refine D.F.ok scCuts (fun vs H Q E h => ?_) (fun cdv A outer s H vs Q E hr h => ⟨_, pss_cons (ps_if (pt_not (pt_truth (pv 0) (by intro _; rfl))) (pss_one (ps_ret pe_int)) pss_nil)
    (pss_cons (ps_if (pt_cmpR op_lt (pe_call GU hr rfl U.g U.k U.b .nil pass0 (pa_cons (pv 0) (pa_cons (pv 1) pa_nil))) (pv 2) (nomark _)) (pss_one (ps_ret (pe_callB call_len_seq (by rfl) B.len PySem.boot_len (pa_cons (pv 0) pa_nil)))) pss_nil)
    (pss_one (ps_ret (pe_op op_sub (pe_callB call_len_seq (by rfl) B.len PySem.boot_len (pa_cons (pv 0) pa_nil)) pe_int)))), ?_⟩)
  · obtain ⟨a, p, c, h, rfl, _⟩ := h
    rfl
  · obtain ⟨a, p, c, h, rfl, hS, hl, hc, q⟩ := h
    refine ⟨_, rfl, !(vN p).isEmpty, .inl ⟨_, hS, rfl⟩, ?_⟩
    cases p with
    | nil =>
      rw [cuts_nil] at q
      exact iteT q
    | cons x r =>
      refine iteF ?_
      refine ⟨_, rfl, _, rfl, a, x :: r, c, rfl, hS, hl, hc, _, rfl, _, _, rfl, rfl, _, rfl, ?_⟩
      have e : cuts c h (x :: r) = if used c (x :: r) < h then (x :: r).length else (x :: r).length - 1 := if_neg (by simp)
      by_cases u : used c (x :: r) < h
      · refine ifT (decide_eq_true (by omega)) ?_
        rw [e, if_pos u] at q
        refine ⟨_, rfl, a, _, rfl, .inl hS, ?_⟩
        rw [vN_len]
        exact q
      · refine ifF (decide_eq_false (by omega)) ?_
        rw [e, if_neg u] at q
        refine ⟨_, rfl, a, _, rfl, .inl hS, _, _, rfl, rfl, ?_⟩
        rw [vN_len]
        have e2 : (((x :: r).length - 1 : Nat) : Int) = (((x :: r).length : Nat) : Int) - 1 := by
          rw [List.length_cons]
          omega
        rw [e2] at q
        exact q

/-! ### plan_fits -/
def spFit (K : PySem.W.Frag) : Sp := fun vs H Q _ => ∃ (a : Addr) (p : List Nat) (c m h : Nat), vs = [.ref a, .int (c : Int), .int (m : Int), .int (h : Int)] ∧ SqL K H a (vN p) ∧ p.length ≤ 1000 ∧ c ≤ 9 ∧ Q (.bl (fitsB c m h p)) H
theorem scFit : FnScope ["plan", "cut_loss", "max_cuts", "hide"] ["plan", "cut_loss", "max_cuts", "hide"] (defScope (top 30)) := ⟨rfl, rfl, rfl, by decide +kernel, rfl, by decide +kernel, by decide +kernel⟩
theorem okFit {f fU fC : Addr} {fd dU dC : FuncData} (D : Df K mg "plan_fits" (top 30) ["plan", "cut_loss", "max_cuts", "hide"] f fd) (U : Df K mg "used_thickness" (top 28) ["plan", "cut_loss"] fU dU) (C : Df K mg "number_of_cuts" (top 29) ["plan", "cut_loss", "hide"] fC dC) (B : Blt mg) :
    FnOk P w K mg base CX0 3 f fd ["plan", "cut_loss", "max_cuts", "hide"] (spFit K) := by
  have GU : FnOk P w K mg base CX0 1 fU dU ["plan", "cut_loss"] (spUsed K) := okUsed U B
  have GC : FnOk P w K mg base CX0 2 fC dC ["plan", "cut_loss", "hide"] (spCuts K) := okCuts C U B
  refine D.F.ok scFit (fun vs H Q E h => ?_) (fun cdv A outer s H vs Q E hr h => ⟨_, pss_cons (ps_if (pt_cmpR op_gt (pe_call GU (hr.mono (by decide)) rfl U.g U.k U.b .nil pass0 (pa_cons (pv 0) (pa_cons (pv 1) pa_nil))) (pv 3) (nomark _)) (pss_one (ps_ret pe_bl)) pss_nil)
    (pss_one (ps_ret (pe_cmpR op_le (pe_call GC hr rfl C.g C.k C.b .nil pass0 (pa_cons (pv 0) (pa_cons (pv 1) (pa_cons (pv 3) pa_nil)))) (pv 2) (nomark _)))), ?_⟩)
  · obtain ⟨a, p, c, m, h, rfl, _⟩ := h
    rfl
  · obtain ⟨a, p, c, m, h, rfl, hS, hl, hc, q⟩ := h
    refine ⟨_, rfl, _, rfl, a, p, c, rfl, hS, hl, hc, _, rfl, _, _, rfl, rfl, _, rfl, ?_⟩
    by_cases u : used c p ≤ h
    · refine ifF (decide_eq_false (by omega)) ?_
      refine ⟨_, rfl, _, rfl, _, rfl, a, p, c, h, rfl, hS, hl, hc, _, rfl, _, _, rfl, rfl, ?_⟩
      have e : fitsB c m h p = decide ((cuts c h p : Int) ≤ (m : Int)) := by
        unfold fitsB
        rw [decide_eq_true u, Bool.true_and]
        exact decide_eq_decide.mpr Int.ofNat_le.symm
      rw [e] at q
      exact q
    · refine ifT (decide_eq_true (by omega)) ?_
      have e : fitsB c m h p = false := by
        unfold fitsB
        rw [decide_eq_false u]
        rfl
      rw [e] at q
      exact q

/-! ### sum_of_prices -/
def spSum (K : PySem.W.Frag) : Sp := fun vs H Q _ => ∃ (a d : Addr) (p : List Nat) (s : Splitter), vs = [.ref a, .ref d] ∧ SqL K H a (vN p) ∧ DictAt H d s ∧ (∀ t ∈ p, t ∈ keys s) ∧ p.length ≤ 1000 ∧ ∀ H', Same H H' → Q (.int (Kp397.planValue s p : Nat)) H'
theorem scSum : FnScope ["plan", "prices", "layer"] ["plan", "prices"] (defScope (top 27)) := ⟨rfl, rfl, rfl, by decide +kernel, rfl, by decide +kernel, by decide +kernel⟩
theorem okSum {f : Addr} {fd : FuncData} (D : Df K mg "sum_of_prices" (top 27) ["plan", "prices"] f fd) (B : Blt mg) : FnOk P w K mg base CX0 1 f fd ["plan", "prices"] (spSum K) := by
  refine D.F.ok scSum (fun vs H Q E h => ?_) (fun cdv A outer s H vs Q E hr h => ⟨_, pss_one (ps_ret (pe_callB (cr_sum rfl) (by rfl) B.sum (by decide +kernel) (pa_cons
    (pe_lc (own := [("layer", 2)]) (g := gName 2) (tt := tYes) rfl scSum.nd (pi_list (pv 0)) (blkOk_by (N := ["plan", "prices", "layer"]) (sc := defScope (top 27)) (by decide +kernel)) (fun _ _ _ _ _ => pg_name (i := 2) scSum.nd rfl (Or.inl rfl)) (fun _ _ _ _ _ => pts_nil)
      (fun _ _ _ _ _ => pe_dget (hu_of hr) (pv 1) (pv 2) (fun _ _ => rfl))) pa_nil))), ?_⟩)
  · obtain ⟨a, d, p, s, rfl, _⟩ := h
    rfl
  · obtain ⟨a, d, p, s, rfl, hS, hd, hk, hl, q⟩ := h
    refine ⟨_, rfl, a, rfl, ⟨_, hS⟩, fun D hD => lc_list (K := K) (a := a) (xs := vN p) (fun i H' => Same H H' ∧ H' D = some (.lst (vN ((p.take i).map (Kp397.priceOf s))))) ⟨same_new hD, upd_same⟩ (fun i H' _ z => z.1.seq hS) (fun i v H' hv z => ?_) (fun H' z => ?_)⟩
    · obtain ⟨t, ht, rfl⟩ := vN_get hv
      have hp := List.mem_of_getElem? ht
      refine ⟨rfl, ?_⟩
      refine ⟨_, rfl, _, rfl, d, _, rfl, dget_in (z.1 _ _ hd) (isP (hk t hp)), vN ((p.take i).map (Kp397.priceOf s)), z.2, ?_, same_upd z.1 hD, ?_⟩
      · rw [vN_len, List.length_map, List.length_take]
        exact small1000 (by omega)
      · rw [take_more ht, List.map_append, upd_same]
        refine congrArg (fun l => some (HO.lst l)) ?_
        exact (vN_snoc _ _).symm
    · rw [vN_len, List.take_length] at z
      refine ⟨D, iN (p.map (Kp397.priceOf s)), rfl, SqL.of z.2, ?_⟩
      rw [iN_sum]
      exact q _ z.1
end
end Hl

set_option Elab.async false
set_option linter.all false
set_option maxRecDepth 100000
set_option maxHeartbeats 2000000
/-! # Hides and layers, part 5: the search. -/
namespace Hl
open PySem PySem.Spec PyProof.Rows L2
open Kp397 (Splitter Product)
section
variable {P : Program} {w : World} {K : PySem.W.Frag} {mg : Str → Option Value} {base : Heap}
theorem line_of' {n : Nat} (h : n ≤ 1000000) : n < sizeLine := Nat.lt_of_le_of_lt h (by decide)
theorem line_le {n : Nat} (h : n ≤ 1000000) : n ≤ sizeLine := Nat.le_of_lt (line_of' h)
theorem snoc_of_last {p : List Nat} (h : p ≠ []) : ∃ q y, p = q ++ [y] ∧ p.getLast? = some y := by
  refine ⟨p.dropLast, p.getLast h, (List.dropLast_concat_getLast h).symm, List.getLast?_eq_some_getLast h⟩

/-! ### longer_plans -/
def spLonger (K : PySem.W.Frag) : Sp := fun vs H Q _ => ∃ (a b : Addr) (p asc : List Nat), vs = [.ref a, .ref b] ∧ H a = some (.lst (vN p)) ∧ SqL K H b (vN asc) ∧ p.length ≤ 6 ∧ asc.length ≤ 1000 ∧
  ∀ (H' : Hp) (d : Addr) (as : List Addr), Same H H' → H' d = some (.lst (as.map V.ref)) → H d = none → (∀ x ∈ as, H x = none) → Pls H' as (kids asc p) → Q (.ref d) H'
theorem scLonger : FnScope ["plan", "thicknesses", "thickness"] ["plan", "thicknesses"] (defScope (top 31)) := ⟨rfl, rfl, rfl, by decide +kernel, rfl, by decide +kernel, by decide +kernel⟩
def ttLonger (K : PySem.W.Frag) : TT := tOr (tNot (fun σ H Q => tVar 0 σ H fun x H' => ∃ k, TruV K x H' k ∧ Q k H')) (tTest (tOp (rI0 fun i j => .bl (decide (i ≤ j))) (tVar 2) (tOp (rIxL K) (tVar 0) (tUn (rU fun i => .int (-i)) (tC (.int 1))))))
def teLonger : TE := tOp rCat (tVar 0) (tLst (tCons (tVar 2) tNil))
theorem okLonger {f : Addr} {fd : FuncData} (D : Df K mg "longer_plans" (top 31) ["plan", "thicknesses"] f fd) (B : Blt mg) (L : Lim mg) : FnOk P w K mg base CX0 1 f fd ["plan", "thicknesses"] (spLonger K) := by
  obtain ⟨tl, hL⟩ := L.layers
  refine D.F.ok scLonger (fun vs H Q E h => ?_) (fun cdv A outer s H vs Q E hr h => ⟨_, pss_cons (ps_if (pt_cmpR op_eq (pe_callB call_len_seq (by rfl) B.len PySem.boot_len (pa_cons (pv 0) pa_nil)) (pe_glob (v := .int 6) rfl hL ⟨_, rfl⟩) (nomark _)) (pss_one (ps_ret (pe_lst pa_nil))) pss_nil)
    (pss_one (ps_ret (pe_lc (own := [("thickness", 2)]) (g := gName 2) (tt := ttLonger K) (te := teLonger) rfl scLonger.nd (pi_list (pv 1)) (blkOk_by (N := ["plan", "thicknesses", "thickness"]) (sc := defScope (top 31)) (by decide +kernel)) (fun _ _ _ _ _ => pg_name (i := 2) scLonger.nd rfl (Or.inl rfl))
      (fun _ _ _ _ _ => pts_one (PW.pt (pw_or (pt_not (pt_truth (pv 0) (by intro _; rfl))) (pw_or1 (pt_cmpR op_le (pv 2) (pe_ix ix_list (pv 0) (pe_un un_neg pe_int) (fun _ _ => rfl)) (nomark _))))))
      (fun _ _ _ _ _ => pe_op op_cat (pv 0) (pe_lst (pa_cons (pv 2) pa_nil)))))), ?_⟩)
  · obtain ⟨a, b, p, asc, rfl, _⟩ := h
    rfl
  · obtain ⟨a, b, p, asc, rfl, ha, hb, hp, hl, q⟩ := h
    refine ⟨_, rfl, a, _, rfl, .inl (SqL.of ha), rfl, _, rfl, ?_⟩
    rw [vN_len]
    by_cases e6 : p.length = 6
    · refine ifT (decide_eq_true (congrArg (fun n : Nat => V.int (n : Int)) e6)) ?_
      refine ⟨by show 0 ≤ sizeLine; exact Nat.zero_le _, fun d hd => ?_⟩
      refine q _ d [] (same_new hd) upd_same hd (fun x hx => by cases hx) ?_
      unfold kids
      rw [if_pos e6]
      exact .nil
    · refine ifF (decide_eq_false fun z => e6 (by have := V.int.inj z; omega)) ?_
      have ek : kids asc p = (asc.filter (ok p)).map fun t => p ++ [t] := if_neg e6
      refine ⟨_, rfl, b, rfl, ⟨_, hb⟩, fun D hD => lc_list (K := K) (a := b) (xs := vN asc) (fun i H' => ∃ as : List Addr, Same H H' ∧ H' D = some (.lst (as.map V.ref)) ∧ (∀ x ∈ as, H x = none ∧ x ≠ D) ∧ Pls H' as (((asc.take i).filter (ok p)).map fun t => p ++ [t]))
        ⟨[], same_new hD, upd_same, fun x hx => (by cases hx), .nil⟩ (fun i H' _ z => ?_) (fun i v H' hv z => ?_) (fun H' z => ?_)⟩
      · obtain ⟨as, z1, _⟩ := z
        exact z1.seq hb
      · obtain ⟨t, ht, rfl⟩ := vN_get hv
        obtain ⟨as, z1, z2, z3, z4⟩ := z
        have ha' := z1 _ _ ha
        have hi : i < asc.length := (List.getElem?_eq_some_iff.mp ht).1
        have alen : as.length ≤ 1000 := by
          have e1 := z4.len
          rw [List.length_map] at e1
          have e2 := List.length_filter_le (ok p) (asc.take i)
          rw [List.length_take] at e2
          omega
        refine ⟨rfl, ?_⟩
        -- the way of a kept one, the way of another
        have keep : ok p t = true → ∀ (H3 : Hp), H3 = H' → tOp rCat (tVar 0) (tLst (tCons (tVar 2) tNil)) [some (.ref a), some (.ref b), some (.int (t : Int))] H3 fun y H4 => ∃ acc, H4 D = some (.lst acc) ∧ acc.length < sizeLine ∧
            ∃ as : List Addr, Same H (upd H4 D (.lst (acc ++ [y]))) ∧ (upd H4 D (.lst (acc ++ [y]))) D = some (.lst (as.map V.ref)) ∧ (∀ x ∈ as, H x = none ∧ x ≠ D) ∧ Pls (upd H4 D (.lst (acc ++ [y]))) as (((asc.take (i + 1)).filter (ok p)).map fun t => p ++ [t]) := by
          intro hk H3 e3
          subst e3
          refine ⟨_, rfl, _, rfl, (by show 1 ≤ sizeLine; decide), fun u hu => ?_⟩
          have hua : a ≠ u := ne_of_none ha' hu
          refine ⟨a, u, _, _, rfl, rfl, (by rw [upd_ne hua]; exact ha'), upd_same, ?_, fun y hy => ?_⟩
          · rw [vN_len]
            exact line_le (by simp; omega)
          have hyu : y ≠ u := fun e => by
            rw [e, upd_same] at hy
            cases hy
          have hyn : H3 y = none := by
            rw [upd_ne hyu] at hy
            exact hy
          have hDu : D ≠ u := ne_of_none z2 hu
          have hDy : D ≠ y := ne_of_none z2 hyn
          refine ⟨as.map V.ref, ?_, ?_, as ++ [y], ?_, ?_, ?_, ?_⟩
          · rw [upd_ne hDy, upd_ne hDu]
            exact z2
          · rw [List.length_map]
            exact small1000 alen
          · exact same_upd (same_upd (same_upd z1 (z1.free hu)) (z1.free hyn)) hD
          · rw [upd_same, List.map_append]
            rfl
          · intro x hx
            rcases List.mem_append.mp hx with e | e
            · exact z3 x e
            · have : x = y := by simpa using e
              rw [this]
              exact ⟨z1.free hyn, hDy.symm⟩
          · rw [take_more ht, List.filter_append, List.map_append]
            have e1 : ([t].filter (ok p)).map (fun t => p ++ [t]) = [p ++ [t]] := by
              rw [List.filter_cons, if_pos hk]
              rfl
            rw [e1]
            have same3 : ∀ x, x ≠ D → x ≠ y → x ≠ u → upd (upd (upd H3 u (.lst [V.int (t : Int)])) y (.lst (vN p ++ [V.int (t : Int)]))) D (.lst (as.map V.ref ++ [V.ref y])) x = H3 x := fun x h1 h2 h3 => by
              rw [upd_ne h1, upd_ne h2, upd_ne h3]
            have zz : ∀ {as : List Addr} {ps : List (List Nat)}, (∀ x ∈ as, x ≠ D) → Pls H3 as ps → Pls (upd (upd (upd H3 u (.lst [V.int (t : Int)])) y (.lst (vN p ++ [V.int (t : Int)]))) D (.lst (List.map V.ref as ++ [V.ref y]))) as ps → True := fun _ _ _ => trivial
            have pls : ∀ {l : HO} {bs : List Addr} {ps : List (List Nat)}, (∀ x ∈ bs, x ≠ D) → Pls H3 bs ps → Pls (upd (upd (upd H3 u (.lst [V.int (t : Int)])) y (.lst (vN p ++ [V.int (t : Int)]))) D l) bs ps := by
              intro l bs ps hne hp
              induction hp with
              | nil => exact .nil
              | @cons a0 p0 as0 ps0 h0 _ ih =>
                refine .cons ?_ (ih fun x hx => hne x (List.mem_cons_of_mem _ hx))
                rw [upd_ne (hne a0 (List.mem_cons_self ..)), upd_ne (ne_of_none h0 hyn), upd_ne (ne_of_none h0 hu)]
                exact h0
            refine (pls (fun x hx => (z3 x hx).2) z4).append (.one ?_)
            rw [upd_ne hDy.symm, upd_same, vN_snoc]
        have skip : ok p t = false → ∀ (H3 : Hp), H3 = H' → ∃ as : List Addr, Same H H3 ∧ H3 D = some (.lst (as.map V.ref)) ∧ (∀ x ∈ as, H x = none ∧ x ≠ D) ∧ Pls H3 as (((asc.take (i + 1)).filter (ok p)).map fun t => p ++ [t]) := by
          intro hk H3 e3
          subst e3
          refine ⟨as, z1, z2, z3, ?_⟩
          have e1 : ([t].filter (ok p)).map (fun t => p ++ [t]) = [] := by
            rw [List.filter_cons, if_neg (by rw [hk]; simp)]
            rfl
          rw [take_more ht, List.filter_append, List.map_append, e1, List.append_nil]
          exact z4
        refine ⟨_, rfl, !(vN p).isEmpty, .inl ⟨_, SqL.of ha', rfl⟩, ?_⟩
        by_cases ep : p = []
        · have ko : ok p t = true := by rw [ep]; rfl
          refine ifT (by rw [ep]; rfl) ?_
          exact keep ko _ rfl
        · refine ifF (by cases p with | nil => exact absurd rfl ep | cons x r => rfl) ?_
          obtain ⟨r, y, er, el⟩ := snoc_of_last ep
          refine ⟨_, rfl, _, rfl, _, rfl, a, vN p, _, .int (y : Int), rfl, rfl, SqL.of ha', ?_, _, _, rfl, rfl, _, rfl, ?_⟩
          · rw [er, vN_snoc]
            exact atI_last _ _
          · have eok : ok p t = decide (t ≤ y) := by
              unfold ok
              rw [el]
            by_cases hty : t ≤ y
            · refine ifT (decide_eq_true (by omega)) ?_
              exact keep (by rw [eok]; exact decide_eq_true hty) _ rfl
            · refine ifF (decide_eq_false (by omega)) ?_
              exact skip (by rw [eok]; exact decide_eq_false hty) _ rfl
      · obtain ⟨as, z1, z2, z3, z4⟩ := z
        rw [vN_len, List.take_length] at z4
        refine q H' D as z1 z2 hD (fun x hx => (z3 x hx).1) ?_
        rw [ek]
        exact z4
end
end Hl

set_option Elab.async false
set_option linter.all false
set_option maxRecDepth 100000
set_option maxHeartbeats 2000000
/-! # Hides and layers, part 6: the search's loop, what fits, the greatest value. -/
namespace Hl
open PySem PySem.Spec PyProof.Rows L2
open Kp397 (Splitter Product)
theorem Pls.upd_of {H : Hp} {x : Addr} {o : HO} {as : List Addr} {ps : List (List Nat)} (h : Pls H as ps) (hn : x ∉ as) : Pls (upd H x o) as ps := by
  induction h with
  | nil => exact .nil
  | @cons a0 p0 as0 ps0 h0 _ ih =>
    refine .cons ?_ (ih fun z => hn (List.mem_cons_of_mem _ z))
    rw [upd_ne (fun z => hn (by rw [← z]; exact List.mem_cons_self ..))]
    exact h0
theorem Pls.mem {H : Hp} {as : List Addr} {ps : List (List Nat)} (h : Pls H as ps) {a : Addr} (ha : a ∈ as) : ∃ p, H a = some (.lst (vN p)) := by
  obtain ⟨i, hi⟩ := List.mem_iff_getElem?.mp ha
  obtain ⟨p, _, e⟩ := h.at hi
  exact ⟨p, e⟩
theorem Pls.of {H H' : Hp} {as : List Addr} {ps : List (List Nat)} (h : Pls H as ps) (e : ∀ a ∈ as, ∀ o, H a = some o → H' a = some o) : Pls H' as ps := by
  induction h with
  | nil => exact .nil
  | @cons a0 p0 as0 ps0 h0 _ ih => exact .cons (e a0 (List.mem_cons_self ..) _ h0) (ih fun a ha => e a (List.mem_cons_of_mem _ ha))
theorem asg_nx {i : Nat} {v : V} {σ : L2.St} {H : Hp} {D : Ends} (h : D.nx (σ.set i (some v)) H) : gName i v σ H D.nx := h
theorem seq_while {c : TT} {tb u : TS} {D : Ends} {σ : L2.St} {H : Hp} (h : tWhile c tb { D with nx := u D } σ H) : tSeq (tWhile c tb) u D σ H := h
section
variable {P : Program} {w : World} {K : PySem.W.Frag} {mg : Str → Option Value} {base : Heap}

/-! ### plans_within -/
def spWithin (K : PySem.W.Frag) : Sp := fun vs H Q _ => ∃ (a : Addr) (l : List Nat) (c h : Nat), vs = [.ref a, .int (c : Int), .int (h : Int)] ∧ SqL K H a (vN l) ∧ l.length ≤ 7 ∧ c ≤ 9 ∧
  ∀ asc : List Nat, asc.Perm l → asc.Pairwise (· ≤ ·) → ∀ (H' : Hp) (d : Addr) (as : List Addr), Same H H' → H' d = some (.lst (as.map V.ref)) → H d = none → (∀ x ∈ as, H x = none) → Pls H' as (within asc c h) → Q (.ref d) H'
abbrev nWithin : List Str := ["thicknesses", "cut_loss", "hide", "thinnest_first", "plans", "waiting", "plan", "longer"]
theorem scWithin : FnScope nWithin ["thicknesses", "cut_loss", "hide"] (defScope (top 32)) := ⟨rfl, rfl, rfl, by decide +kernel, rfl, by decide +kernel, by decide +kernel⟩
/-- the search's state: the list of plans at pl, the stack at wl -/
structure Wst (K : PySem.W.Frag) (asc : List Nat) (c h : Nat) (H0 : Hp) (ts pl wl : Addr) (bs ws : List Addr) (done rest : List (List Nat)) (H : Hp) : Prop where
  same : Same H0 H
  fts : H ts = some (.lst (vN asc))
  fpl : H pl = some (.lst (bs.map V.ref))
  fwl : H wl = some (.lst (ws.map V.ref))
  pb : Pls H bs done
  pw : Pls H ws rest
  nb : pl ∉ bs ∧ wl ∉ bs ∧ ts ∉ bs
  nw : pl ∉ ws ∧ wl ∉ ws ∧ ts ∉ ws
  newb : ∀ x ∈ bs, H0 x = none
  neww : ∀ x ∈ ws, H0 x = none
  short : ∀ q ∈ rest, q.length ≤ 6
  all : done ++ todo asc c h rest = within asc c h
theorem okWithin {f fU fL : Addr} {fd dU dL : FuncData} (D : Df K mg "plans_within" (top 32) ["thicknesses", "cut_loss", "hide"] f fd) (U : Df K mg "used_thickness" (top 28) ["plan", "cut_loss"] fU dU) (G : Df K mg "longer_plans" (top 31) ["plan", "thicknesses"] fL dL)
    (B : Blt mg) (L : Lim mg) : FnOk P w K mg base CX0 2 f fd ["thicknesses", "cut_loss", "hide"] (spWithin K) := by
  have GU : FnOk P w K mg base CX0 1 fU dU ["plan", "cut_loss"] (spUsed K) := okUsed U B
  have GL : FnOk P w K mg base CX0 1 fL dL ["plan", "thicknesses"] (spLonger K) := okLonger G B L
  refine D.F.ok scWithin (fun vs H Q E h => ?_) (fun cdv A outer s H vs Q E hr h => ⟨_,
    pss_cons (ps_set (i := 3) scWithin.nd rfl (.inl rfl) (pe_callB cr_sorted (by rfl) B.sorted (by decide +kernel) (pa_cons (pv 0) pa_nil)))
    (pss_cons (ps_set (i := 4) scWithin.nd rfl (.inl rfl) (pe_lst pa_nil))
    (pss_cons (ps_set (i := 5) scWithin.nd rfl (.inl rfl) (pe_lst (pa_cons (pe_lst pa_nil) pa_nil)))
    (pss_cons (ps_while PassesOwn.never (pt_truth (pv 5) (by intro _; rfl))
      (pss_cons (ps_set (i := 6) scWithin.nd rfl (.inl rfl) (pe_bm0 PySem.F.plainAttrs_list PySem.F.slot_list_pop PySem.F.type_list_pop mt_pop (pv 5)))
      (pss_cons (ps_expr (pe_bm PySem.F.plainAttrs_list PySem.F.slot_list_append PySem.F.type_list_append mt_append (pv 4) (pa_cons (pv 6) pa_nil)))
      (pss_one (ps_for PassesOwn.never rfl (pi_list (pe_call GL hr rfl G.g G.k G.b .nil pass0 (pa_cons (pv 6) (pa_cons (pv 3) pa_nil)))) (pg_name (i := 7) scWithin.nd rfl (.inl rfl))
        (pss_one (ps_if (pt_cmpR op_le (pe_call GU hr rfl U.g U.k U.b .nil pass0 (pa_cons (pv 7) (pa_cons (pv 1) pa_nil))) (pv 2) (nomark _))
          (pss_one (ps_expr (pe_bm PySem.F.plainAttrs_list PySem.F.slot_list_append PySem.F.type_list_append mt_append (pv 5) (pa_cons (pv 7) pa_nil)))) pss_nil)))))))
    (pss_one (ps_ret (pv 4)))))), ?_⟩)
  · obtain ⟨a, l, c, h, rfl, _⟩ := h
    rfl
  · obtain ⟨a, l, c, h, rfl, hS, hl, hc, q⟩ := h
    refine ⟨_, rfl, a, iN l, rfl, hS, by rw [List.length_map]; omega, fun ns' ts perm rising hts => ?_⟩
    obtain ⟨asc, rfl, hperm⟩ := cast_perm perm
    have hasc : asc.Pairwise (· ≤ ·) := cast_pairwise (fun a b z => Int.ofNat_le.mp z) rising
    have ha7 : asc.length ≤ 7 := by rw [hperm.length_eq]; exact hl
    refine ⟨by show 0 ≤ sizeLine; exact Nat.zero_le _, fun pl hpl => ?_⟩
    refine ⟨by show 0 ≤ sizeLine; exact Nat.zero_le _, fun e0 he0 => ?_⟩
    refine ⟨by show 1 ≤ sizeLine; decide, fun wl hwl => ?_⟩
    have n1 : ts ≠ pl := fun z => by
      rw [← z, upd_same] at hpl
      cases hpl
    have hpl' : H pl = none := by
      rw [upd_ne n1.symm] at hpl
      exact hpl
    have n2 : ts ≠ e0 := fun z => by
      rw [← z, upd_ne n1, upd_same] at he0
      cases he0
    have n3 : pl ≠ e0 := fun z => by
      rw [← z, upd_same] at he0
      cases he0
    have he0' : H e0 = none := by
      rw [upd_ne n3.symm, upd_ne n2.symm] at he0
      exact he0
    have n4 : e0 ≠ wl := fun z => by
      rw [← z, upd_same] at hwl
      cases hwl
    have n5 : pl ≠ wl := fun z => by
      rw [← z, upd_ne n3, upd_same] at hwl
      cases hwl
    have n6 : ts ≠ wl := fun z => by
      rw [← z, upd_ne n2, upd_ne n1, upd_same] at hwl
      cases hwl
    have hwl' : H wl = none := by
      rw [upd_ne n4.symm, upd_ne n5.symm, upd_ne n6.symm] at hwl
      exact hwl
    -- the loop
    refine asg_nx ?_
    dsimp only
    refine seq_while ?_
    refine while_by (fun σ H' => ∃ bs ws done rest v6 v7, σ = [some (.ref a), some (.int (c : Int)), some (.int (h : Int)), some (.ref ts), some (.ref pl), some (.ref wl), v6, v7] ∧ Wst K asc c h H ts pl wl bs ws done rest H')
      (fun σ H' => match H' pl with
        | some (.lst ys) => (within asc c h).length - ys.length
        | _ => 0) ?_ ?_ ?_
    · refine ⟨[], [e0], [], [[]], none, none, rfl, ?_⟩
      refine ⟨same_upd (same_upd (same_upd (same_new hts) hpl') he0') hwl', ?_, ?_, upd_same, .nil, .one ?_, ⟨by simp, by simp, by simp⟩, ⟨by simpa using n3, by simpa using n4.symm, by simpa using n2⟩, fun x hx => (by cases hx), fun x hx => (by rw [List.mem_singleton.mp hx]; exact he0'), fun q hq => ?_, ?_⟩
      · rw [upd_ne n6, upd_ne n2, upd_ne n1, upd_same]
      · rw [upd_ne n5, upd_ne n3, upd_same]
        rfl
      · rw [upd_ne n4, upd_same]
        rfl
      · have : q = [] := by simpa using hq
        rw [this]
        simp
      · rw [todo_start]
        rfl
    · rintro σ H' ⟨bs, ws, done, rest, v6, v7, rfl, S⟩
      refine ⟨_, rfl, !(ws.map V.ref).isEmpty, .inl ⟨_, SqL.of S.fwl, rfl⟩, ?_⟩
      by_cases ew : ws = []
      · refine ifF (by rw [ew]; rfl) ?_
        refine ⟨_, rfl, ?_⟩
        have er : rest = [] := by
          have := S.pw.len
          rw [ew] at this
          exact List.eq_nil_of_length_eq_zero this.symm
        have e2 := S.all
        rw [er, todo_nil, List.append_nil] at e2
        have hb := S.pb
        rw [e2] at hb
        exact q asc hperm hasc H' pl bs S.same S.fpl hpl' S.newb hb
      · refine ifT (by cases ws with | nil => exact absurd rfl ew | cons x r => rfl) ?_
        obtain ⟨us, b, qs, p, e1, e2, hus, hb⟩ := S.pw.last ew
        subst e1
        subst e2
        have hp6 : p.length ≤ 6 := S.short p (by simp)
        have eall := S.all
        rw [todo_snoc asc c h qs hp6] at eall
        have hlen : done.length + 1 + (todo asc c h (qs ++ goods asc c h p)).length ≤ 137257 := by
          have z := W_len asc c h ha7 []
          have z2 := congrArg List.length eall
          rw [List.length_append, List.length_cons] at z2
          unfold within at z2
          omega
        have hqg := len_le_todo asc c h (qs ++ goods asc c h p)
        rw [List.length_append] at hqg
        have hbl := S.pb.len
        have hul := hus.len
        -- plan = waiting.pop()
        refine ⟨_, rfl, .inl ⟨rfl, _, SqL.of S.fwl⟩, wl, (us ++ [b]).map V.ref, .ref b, rfl, rfl, S.fwl, ?_, ?_⟩
        · rw [List.length_map, List.length_append, List.map_append]
          show ((us.map V.ref) ++ [V.ref b])[us.length + 1 - 1]? = _
          rw [Nat.add_sub_cancel, List.getElem?_append_right (by rw [List.length_map]; exact Nat.le_refl _), List.length_map, Nat.sub_self]
          rfl
        have edl : ((us ++ [b]).map V.ref).dropLast = us.map V.ref := by
          rw [List.map_append]
          exact List.dropLast_concat
        rw [edl]
        -- plans.append(plan)
        have nbw : b ≠ wl := fun z => S.nw.2.1 (by rw [← z]; simp)
        have nbp : b ≠ pl := fun z => S.nw.1 (by rw [← z]; simp)
        have nbt : b ≠ ts := fun z => S.nw.2.2 (by rw [← z]; simp)
        refine ⟨_, rfl, .inl ⟨rfl, _, SqL.of (H := upd H' wl _) (by rw [upd_ne n5]; exact S.fpl)⟩, _, rfl, pl, bs.map V.ref, .ref b, rfl, rfl, (by rw [upd_ne n5]; exact S.fpl), ?_, ?_⟩
        · rw [List.length_map]
          exact line_of' (by omega)
        -- for longer in longer_plans(plan, thinnest_first)
        have H2ts : (upd (upd H' wl (.lst (us.map V.ref))) pl (.lst (bs.map V.ref ++ [V.ref b]))) ts = some (.lst (vN asc)) := by
          rw [upd_ne n1, upd_ne n6]
          exact S.fts
        have H2b : (upd (upd H' wl (.lst (us.map V.ref))) pl (.lst (bs.map V.ref ++ [V.ref b]))) b = some (.lst (vN p)) := by
          rw [upd_ne nbp, upd_ne nbw]
          exact hb
        have H2wl : (upd (upd H' wl (.lst (us.map V.ref))) pl (.lst (bs.map V.ref ++ [V.ref b]))) wl = some (.lst (us.map V.ref)) := by
          rw [upd_ne n5.symm, upd_same]
        have H2pl : (upd (upd H' wl (.lst (us.map V.ref))) pl (.lst (bs.map V.ref ++ [V.ref b]))) pl = some (.lst ((bs ++ [b]).map V.ref)) := by
          rw [upd_same, List.map_append]
          rfl
        have H2bs : Pls (upd (upd H' wl (.lst (us.map V.ref))) pl (.lst (bs.map V.ref ++ [V.ref b]))) bs done := (S.pb.upd_of S.nb.2.1).upd_of S.nb.1
        have H2us : Pls (upd (upd H' wl (.lst (us.map V.ref))) pl (.lst (bs.map V.ref ++ [V.ref b]))) us qs := (hus.upd_of (fun z => S.nw.2.1 (List.mem_append_left _ z))).upd_of (fun z => S.nw.1 (List.mem_append_left _ z))
        have H2same : Same H (upd (upd H' wl (.lst (us.map V.ref))) pl (.lst (bs.map V.ref ++ [V.ref b]))) := same_upd (same_upd S.same hwl') hpl'
        generalize upd (upd H' wl (.lst (us.map V.ref))) pl (.lst (bs.map V.ref ++ [V.ref b])) = H2 at H2ts H2b H2wl H2pl H2bs H2us H2same
        refine ⟨_, rfl, _, rfl, b, ts, p, asc, rfl, H2b, SqL.of H2ts, hp6, by omega, fun H3 d as s3 hd nd nas pas => ?_⟩
        have H3of : ∀ {x : Addr} {o : HO}, H2 x = some o → H3 x = some o := fun {x o} e => s3 x o e
        have nasx : ∀ {x : Addr} {o : HO}, H2 x = some o → x ∉ as := fun {x o} e z => by
          rw [nas x z] at e
          cases e
        refine ⟨d, rfl, ⟨_, SqL.of hd⟩, for_list (K := K) (a := d) (xs := as.map V.ref) (fun i σ H4 => ∃ xs ys v7, σ = [some (.ref a), some (.int (c : Int)), some (.int (h : Int)), some (.ref ts), some (.ref pl), some (.ref wl), some (.ref b), v7] ∧
            (∀ x o, H3 x = some o → x ≠ wl → H4 x = some o) ∧ H4 wl = some (.lst ((us ++ xs).map V.ref)) ∧ (∀ x ∈ xs, x ∈ as) ∧ ys = ((kids asc p).take i).filter (fun q => decide (used c q ≤ h)) ∧ Pls H4 xs ys)
          ?_ ?_ ?_ ?_⟩
        · refine ⟨[], [], v7, rfl, fun x o e _ => e, ?_, fun x hx => (by cases hx), rfl, .nil⟩
          rw [List.append_nil]
          exact H3of H2wl
        · rintro i σ H4 _ ⟨xs, ys, v7, _, k4, _⟩
          exact SqL.of (k4 _ _ hd (fun z => by
            rw [z, H2wl] at nd
            cases nd))
        · rintro i v σ H4 hv ⟨xs, ys, v7, rfl, k4, w4, sub, eys, pys⟩
          obtain ⟨x, hx, rfl⟩ := ref_get hv
          obtain ⟨kq, hkq, hHx⟩ := pas.at hx
          have hxas : x ∈ as := List.mem_of_getElem? hx
          have nxw : x ≠ wl := fun z => nasx H2wl (by rw [← z]; exact hxas)
          have hx4 := k4 _ _ hHx nxw
          have hkm := kids_len (List.mem_of_getElem? hkq)
          refine ⟨_, rfl, _, rfl, x, kq, c, rfl, SqL.of hx4, by omega, hc, _, rfl, _, _, rfl, rfl, _, rfl, ?_⟩
          have ilt : i < (kids asc p).length := (List.getElem?_eq_some_iff.mp hkq).1
          by_cases hu : used c kq ≤ h
          · refine ifT (decide_eq_true (by omega)) ?_
            have xsl : xs.length ≤ 7 := by
              have e1 := pys.len
              rw [eys] at e1
              have e2 := List.length_filter_le (fun q => decide (used c q ≤ h)) ((kids asc p).take i)
              have e3 : (kids asc p).length ≤ 7 := by
                unfold kids
                by_cases e6 : p.length = 6
                · rw [if_pos e6]
                  simp
                · rw [if_neg e6, List.length_map]
                  exact Nat.le_trans (List.length_filter_le ..) ha7
              rw [List.length_take] at e2
              omega
            refine ⟨_, rfl, .inl ⟨rfl, _, SqL.of w4⟩, _, rfl, wl, (us ++ xs).map V.ref, .ref x, rfl, rfl, w4, ?_, ?_⟩
            · rw [List.length_map, List.length_append]
              exact line_of' (by omega)
            refine ⟨xs ++ [x], ys ++ [kq], _, rfl, fun y o e n => ?_, ?_, ?_, ?_, ?_⟩
            · rw [upd_ne n]
              exact k4 y o e n
            · rw [upd_same, ← List.append_assoc, List.map_append (l₁ := us ++ xs)]
              rfl
            · intro y hy
              rcases List.mem_append.mp hy with z | z
              · exact sub y z
              · have : y = x := by simpa using z
                rw [this]
                exact hxas
            · rw [take_more hkq, List.filter_append, ← eys, List.filter_cons, if_pos (decide_eq_true hu)]
              rfl
            · have nx : wl ∉ xs := fun z => nasx H2wl (sub _ z)
              refine (pys.upd_of nx).append (.one ?_)
              rw [upd_ne nxw]
              exact hx4
          · refine ifF (decide_eq_false (by omega)) ?_
            refine ⟨xs, ys, _, rfl, k4, w4, sub, ?_, pys⟩
            rw [take_more hkq, List.filter_append, ← eys, List.filter_cons, if_neg (by simpa using hu)]
            simp
        · rintro σ H4 ⟨xs, ys, v7, rfl, k4, w4, sub, eys, pys⟩
          have eys2 : ys = goods asc c h p := by
            rw [eys, List.length_map, pas.len, List.take_length]
            rfl
          have k2 : ∀ {x : Addr} {o : HO}, H2 x = some o → x ≠ wl → H4 x = some o := fun {x o} e n => k4 x o (H3of e) n
          have hpl4 : H4 pl = some (.lst ((bs ++ [b]).map V.ref)) := k2 H2pl n5
          refine ⟨⟨bs ++ [b], us ++ xs, done ++ [p], qs ++ goods asc c h p, some (.ref b), v7, rfl, ?_⟩, ?_⟩
          · refine ⟨fun x o e => ?_, k2 H2ts n6, hpl4, w4, ?_, ?_, ⟨?_, ?_, ?_⟩, ⟨?_, ?_, ?_⟩, fun x hx => ?_, fun x hx => ?_, fun r hr => ?_, ?_⟩
            · refine k2 (H2same x o e) (fun z => ?_)
              rw [z, hwl'] at e
              cases e
            · exact (H2bs.of fun x hx o e => k2 e fun z => S.nb.2.1 (by rw [← z]; exact hx)).append (.one (k2 H2b nbw))
            · rw [← eys2]
              exact (H2us.of fun x hx o e => k2 e fun z => S.nw.2.1 (by rw [← z]; exact List.mem_append_left _ hx)).append pys
            · intro z
              rcases List.mem_append.mp z with z | z
              · exact S.nb.1 z
              · exact nbp (List.mem_singleton.mp z).symm
            · intro z
              rcases List.mem_append.mp z with z | z
              · exact S.nb.2.1 z
              · exact nbw (List.mem_singleton.mp z).symm
            · intro z
              rcases List.mem_append.mp z with z | z
              · exact S.nb.2.2 z
              · exact nbt (List.mem_singleton.mp z).symm
            · intro z
              rcases List.mem_append.mp z with z | z
              · exact S.nw.1 (List.mem_append_left _ z)
              · exact nasx H2pl (sub _ z)
            · intro z
              rcases List.mem_append.mp z with z | z
              · exact S.nw.2.1 (List.mem_append_left _ z)
              · exact nasx H2wl (sub _ z)
            · intro z
              rcases List.mem_append.mp z with z | z
              · exact S.nw.2.2 (List.mem_append_left _ z)
              · exact nasx H2ts (sub _ z)
            · rcases List.mem_append.mp hx with z | z
              · exact S.newb x z
              · rw [List.mem_singleton.mp z]
                exact S.neww b (by simp)
            · rcases List.mem_append.mp hx with z | z
              · exact S.neww x (List.mem_append_left _ z)
              · exact H2same.free (nas x (sub x z))
            · rcases List.mem_append.mp hr with z | z
              · exact S.short r (List.mem_append_left _ z)
              · have := kids_len (goods_mem z).1
                omega
            · rw [List.append_assoc]
              exact eall
          · rw [hpl4, S.fpl]
            show (within asc c h).length - ((bs ++ [b]).map V.ref).length < (within asc c h).length - (bs.map V.ref).length
            have z2 := congrArg List.length eall
            rw [List.length_append, List.length_cons] at z2
            rw [List.length_map, List.length_map, List.length_append]
            simp only [List.length_cons, List.length_nil]
            omega
    · intro σ H' Q1 Q2 hq hh
      obtain ⟨v, e, k, tr, z⟩ := hh
      exact ⟨v, e, k, tr, hq _ _ z⟩
end
end Hl

set_option Elab.async false
set_option linter.all false
set_option maxRecDepth 100000
set_option maxHeartbeats 2000000
/-! # Hides and layers, part 7: what fits, the greatest value, the thinnest hides. -/
namespace Hl
open PySem PySem.Spec PyProof.Rows L2
open Kp397 (Splitter Product)
theorem within_len {asc : List Nat} (h7 : asc.length ≤ 7) (c h : Nat) : (within asc c h).length ≤ 137257 := W_len asc c h h7 []
/-- those kept of the lists of plans -/
theorem pls_mem {H : Hp} {as : List Addr} {ps : List (List Nat)} (h : Pls H as ps) {i : Nat} {v : V} (hv : (as.map V.ref)[i]? = some v) : ∃ a p, v = .ref a ∧ as[i]? = some a ∧ ps[i]? = some p ∧ H a = some (.lst (vN p)) := by
  obtain ⟨a, ha, e⟩ := ref_get hv
  obtain ⟨p, hp, q⟩ := h.at ha
  exact ⟨a, p, e, ha, hp, q⟩
section
variable {P : Program} {w : World} {K : PySem.W.Frag} {mg : Str → Option Value} {base : Heap}

/-! ### fitting_plans -/
def spFitting (K : PySem.W.Frag) : Sp := fun vs H Q _ => ∃ (a : Addr) (l : List Nat) (c m h : Nat), vs = [.ref a, .int (c : Int), .int (m : Int), .int (h : Int)] ∧ SqL K H a (vN l) ∧ l.length ≤ 7 ∧ c ≤ 9 ∧
  ∀ asc : List Nat, asc.Perm l → asc.Pairwise (· ≤ ·) → ∀ (H' : Hp) (d : Addr) (as : List Addr), Same H H' → H' d = some (.lst (as.map V.ref)) → Pls H' as ((within asc c h).filter (fitsB c m h)) → Q (.ref d) H'
abbrev nFitting : List Str := ["thicknesses", "cut_loss", "max_cuts", "hide", "plans", "plan"]
theorem scFitting : FnScope nFitting ["thicknesses", "cut_loss", "max_cuts", "hide"] (defScope (top 33)) := ⟨rfl, rfl, rfl, by decide +kernel, rfl, by decide +kernel, by decide +kernel⟩
theorem okFitting {f fW fF : Addr} {fd dW dF : FuncData} (D : Df K mg "fitting_plans" (top 33) ["thicknesses", "cut_loss", "max_cuts", "hide"] f fd) (W : Df K mg "plans_within" (top 32) ["thicknesses", "cut_loss", "hide"] fW dW)
    (F : Df K mg "plan_fits" (top 30) ["plan", "cut_loss", "max_cuts", "hide"] fF dF) (GW : FnOk P w K mg base CX0 2 fW dW ["thicknesses", "cut_loss", "hide"] (spWithin K)) (GF : FnOk P w K mg base CX0 3 fF dF ["plan", "cut_loss", "max_cuts", "hide"] (spFit K)) :
    FnOk P w K mg base CX0 4 f fd ["thicknesses", "cut_loss", "max_cuts", "hide"] (spFitting K) := by
  refine D.F.ok scFitting (fun vs H Q E h => ?_) (fun cdv A outer s H vs Q E hr h => ⟨_,
    pss_cons (ps_set (i := 4) scFitting.nd rfl (.inl rfl) (pe_call GW (hr.mono (by decide)) rfl W.g W.k W.b .nil pass0 (pa_cons (pv 0) (pa_cons (pv 1) (pa_cons (pv 3) pa_nil)))))
    (pss_one (ps_ret (pe_lc (own := [("plan", 5)]) (g := gName 5) (tt := tB (tCall (spFit K) [] E0 (tCons (tVar 5) (tCons (tVar 1) (tCons (tVar 2) (tCons (tVar 3) tNil)))))) (te := tVar 5) rfl scFitting.nd (pi_list (pv 4)) (blkOk_by (N := nFitting) (sc := defScope (top 33)) (by decide +kernel))
      (fun _ _ _ _ _ => pg_name (i := 5) scFitting.nd rfl (Or.inl rfl))
      (fun _ _ _ _ _ => pts_one (pt_val (pe_call GF hr rfl F.g F.k F.b .nil pass0 (pa_cons (pv 5) (pa_cons (pv 1) (pa_cons (pv 2) (pa_cons (pv 3) pa_nil)))))))
      (fun _ _ _ _ _ => pv 5)))), ?_⟩)
  · obtain ⟨a, l, c, m, h, rfl, _⟩ := h
    rfl
  · obtain ⟨a, l, c, m, h, rfl, hS, hl, hc, q⟩ := h
    refine ⟨_, rfl, _, rfl, _, rfl, a, l, c, h, rfl, hS, hl, hc, fun asc hp hr H1 d as s1 hd _ _ pas => ?_⟩
    have h7 : asc.length ≤ 7 := by rw [hp.length_eq]; exact hl
    have wl := within_len h7 c h
    have al := pas.len
    refine ⟨_, rfl, d, rfl, ⟨_, SqL.of hd⟩, fun D hD => lc_list (K := K) (a := d) (xs := as.map V.ref) (fun i H' => ∃ bs : List Addr, Same H1 H' ∧ H' D = some (.lst (bs.map V.ref)) ∧ D ∉ bs ∧ bs.length ≤ i ∧ Pls H' bs (((within asc c h).take i).filter (fitsB c m h)))
      ⟨[], same_new hD, upd_same, by simp, Nat.le_refl _, .nil⟩ (fun i H' _ z => ?_) (fun i v H' hv z => ?_) (fun H' z => ?_)⟩
    · obtain ⟨_, z1, _⟩ := z
      exact z1.seq (SqL.of hd)
    · obtain ⟨b, p, rfl, hb, hp', hH⟩ := pls_mem pas hv
      obtain ⟨bs, z1, z2, z3, z4, z5⟩ := z
      have hHb := z1 _ _ hH
      have hp6 := (within_ext (List.mem_of_getElem? hp')).1
      have nbD : b ≠ D := ne_of_none hH hD
      have ilt : i < as.length := (List.getElem?_eq_some_iff.mp hb).1
      refine ⟨rfl, _, rfl, _, rfl, _, rfl, _, rfl, b, p, c, m, h, rfl, SqL.of hHb, by omega, hc, _, rfl, ?_⟩
      by_cases hf : fitsB c m h p = true
      · refine ifT hf ?_
        refine ⟨_, rfl, _, z2, by rw [List.length_map]; exact line_of' (by omega), bs ++ [b], same_upd z1 hD, ?_, ?_, ?_, ?_⟩
        · rw [upd_same, List.map_append]
          rfl
        · intro z
          rcases List.mem_append.mp z with z | z
          · exact z3 z
          · exact nbD (List.mem_singleton.mp z).symm
        · rw [List.length_append]
          simp
          exact z4
        · rw [take_more hp', List.filter_append, List.filter_cons, if_pos hf]
          refine (z5.upd_of z3).append (.one ?_)
          rw [upd_ne nbD]
          exact hHb
      · refine ifF (by simpa using hf) ?_
        refine ⟨bs, z1, z2, z3, by omega, ?_⟩
        rw [take_more hp', List.filter_append, List.filter_cons, if_neg hf]
        simpa using z5
    · obtain ⟨bs, z1, z2, z3, z4, z5⟩ := z
      rw [List.length_map, al, List.take_length] at z5
      exact q asc hp hr H' D bs (s1.trans z1) z2 z5

/-! ### greatest_value -/
def spGreat (K : PySem.W.Frag) : Sp := fun vs H Q _ => ∃ (d : Addr) (s : Splitter) (h : Nat), vs = [.ref d, .int (s.cutLoss : Int), .int (s.maxCuts : Int), .int (h : Int)] ∧ DictAt H d s ∧ Good 7 s ∧ ∀ H', Same H H' → Q (.int (Kp397.bestValue s h : Nat)) H'
abbrev nGreat : List Str := ["prices", "cut_loss", "max_cuts", "hide", "plan"]
theorem scGreat : FnScope nGreat ["prices", "cut_loss", "max_cuts", "hide"] (defScope (top 34)) := ⟨rfl, rfl, rfl, by decide +kernel, rfl, by decide +kernel, by decide +kernel⟩
/-- the plans that fit, told of the splitter -/
theorem fitting_is {s : Splitter} (g : Good 7 s) {asc : List Nat} (hp : asc.Perm (keys s)) (hr : asc.Pairwise (· ≤ ·)) (h : Nat) : (within asc s.cutLoss h).filter (fitsB s.cutLoss s.maxCuts h) = Kp397.plans s h ∧ (∀ t ∈ asc, t ∈ keys s) ∧ asc.reverse = Kp397.thicknesses s ∧ (∀ t ∈ asc, 0 < t) ∧ asc.length ≤ 7 := by
  have h1 : ∀ t ∈ asc, t ∈ keys s := fun t ht => hp.mem_iff.mp ht
  have h2 : ∀ t ∈ asc, 0 < t := fun t ht => by have := keys_range g (h1 t ht); omega
  have h3 := asc_is g hp hr
  refine ⟨(plans_is s asc h h2 g.mx h3).symm, h1, h3, h2, ?_⟩
  rw [hp.length_eq, keys_len]
  exact g.len
theorem plans_keys {s : Splitter} (g : Good 7 s) {asc : List Nat} (hp : asc.Perm (keys s)) (hr : asc.Pairwise (· ≤ ·)) {h : Nat} {p : List Nat} (hm : p ∈ Kp397.plans s h) : p.length ≤ 6 ∧ ∀ t ∈ p, t ∈ keys s := by
  obtain ⟨e, h1, _⟩ := fitting_is g hp hr h
  rw [← e] at hm
  exact plans_sub h1 (List.mem_filter.mp hm).1
theorem plans_len {s : Splitter} (g : Good 7 s) {asc : List Nat} (hp : asc.Perm (keys s)) (hr : asc.Pairwise (· ≤ ·)) (h : Nat) : (Kp397.plans s h).length ≤ 137257 := by
  obtain ⟨e, _, _, _, h7⟩ := fitting_is g hp hr h
  rw [← e]
  exact Nat.le_trans (List.length_filter_le ..) (within_len h7 _ _)
theorem okGreat {f fG fS : Addr} {fd dG dS : FuncData} (D : Df K mg "greatest_value" (top 34) ["prices", "cut_loss", "max_cuts", "hide"] f fd) (G : Df K mg "fitting_plans" (top 33) ["thicknesses", "cut_loss", "max_cuts", "hide"] fG dG)
    (S : Df K mg "sum_of_prices" (top 27) ["plan", "prices"] fS dS) (B : Blt mg) (GG : FnOk P w K mg base CX0 4 fG dG ["thicknesses", "cut_loss", "max_cuts", "hide"] (spFitting K)) (GS : FnOk P w K mg base CX0 1 fS dS ["plan", "prices"] (spSum K)) :
    FnOk P w K mg base CX0 5 f fd ["prices", "cut_loss", "max_cuts", "hide"] (spGreat K) := by
  refine D.F.ok scGreat (fun vs H Q E h => ?_) (fun cdv A outer s H vs Q E hr h => ⟨_,
    pss_one (ps_ret (pe_callB (cr_max rfl) (by rfl) B.max (by decide +kernel) (pa_cons
      (pe_lc (own := [("plan", 4)]) (g := gName 4) (tt := tYes) (te := tCall (spSum K) [] E0 (tCons (tVar 4) (tCons (tVar 0) tNil))) rfl scGreat.nd
        (pi_list (pe_call GG hr rfl G.g G.k G.b .nil pass0 (pa_cons (pe_callTy (call_listD rfl) (by rfl) B.list (by decide +kernel) (pa_cons (pv 0) pa_nil)) (pa_cons (pv 1) (pa_cons (pv 2) (pa_cons (pv 3) pa_nil))))))
        (blkOk_by (N := nGreat) (sc := defScope (top 34)) (by decide +kernel)) (fun _ _ _ _ _ => pg_name (i := 4) scGreat.nd rfl (Or.inl rfl)) (fun _ _ _ _ _ => pts_nil)
        (fun _ _ _ _ _ => pe_call GS (hr.mono (by decide)) rfl S.g S.k S.b .nil pass0 (pa_cons (pv 4) (pa_cons (pv 0) pa_nil)))) pa_nil))), ?_⟩)
  · obtain ⟨d, s, h, rfl, _⟩ := h
    rfl
  · obtain ⟨d, s, h, rfl, hd, g, q⟩ := h
    refine ⟨_, rfl, d, kvs s, rfl, .inl hd, fun kl hkl => ?_⟩
    have hd1 : DictAt (upd H kl (.lst ((kvs s).map fun kv => kV kv.1))) d s := same_new hkl _ _ hd
    have hkl1 : (upd H kl (.lst ((kvs s).map fun kv => kV kv.1))) kl = some (.lst (vN (keys s))) := by
      rw [upd_same, kvs_kV]
    have s1 : Same H (upd H kl (.lst ((kvs s).map fun kv => kV kv.1))) := same_new hkl
    generalize upd H kl (.lst ((kvs s).map fun kv => kV kv.1)) = H1 at hd1 hkl1 s1
    refine ⟨_, rfl, _, rfl, _, rfl, kl, keys s, s.cutLoss, s.maxCuts, h, rfl, SqL.of hkl1, by rw [keys_len]; exact g.len, g.cut, fun asc hp hr H2 L as s2 hL pas => ?_⟩
    obtain ⟨e, hk, _⟩ := fitting_is g hp hr h
    rw [e] at pas
    have al := pas.len
    have pl := plans_len g hp hr h
    have hd2 : DictAt H2 d s := s2 _ _ hd1
    refine ⟨L, rfl, ⟨_, SqL.of hL⟩, fun D hD => lc_list (K := K) (a := L) (xs := as.map V.ref) (fun i H' => Same H2 H' ∧ H' D = some (.lst (vN (((Kp397.plans s h).take i).map (Kp397.planValue s)))))
      ⟨same_new hD, upd_same⟩ (fun i H' _ z => z.1.seq (SqL.of hL)) (fun i v H' hv z => ?_) (fun H' z => ?_)⟩
    · obtain ⟨b, p, rfl, hb, hp', hH⟩ := pls_mem pas hv
      obtain ⟨hp6, hpk⟩ := plans_keys g hp hr (List.mem_of_getElem? hp')
      have ilt : i < as.length := (List.getElem?_eq_some_iff.mp hb).1
      refine ⟨rfl, ?_⟩
      refine ⟨_, rfl, _, rfl, b, d, p, s, rfl, SqL.of (z.1 _ _ hH), z.1 _ _ hd2, hpk, by omega, fun H3 s3 => ?_⟩
      refine ⟨vN (((Kp397.plans s h).take i).map (Kp397.planValue s)), s3 _ _ z.2, ?_, same_upd (z.1.trans s3) hD, ?_⟩
      · rw [vN_len, List.length_map, List.length_take]
        exact line_of' (by omega)
      · rw [take_more hp', List.map_append, upd_same]
        refine congrArg (fun l => some (HO.lst l)) ?_
        exact (vN_snoc _ _).symm
    · obtain ⟨z1, z2⟩ := z
      rw [List.length_map, al, List.take_length] at z2
      refine ⟨D, iN ((Kp397.plans s h).map (Kp397.planValue s)), rfl, SqL.of z2, ?_, fun M hM hle => ?_⟩
      · rw [List.length_map, List.length_map]
        obtain ⟨r, er⟩ := nil_plans s h
        rw [er]
        simp
      · obtain ⟨M', hM', rfl⟩ := List.mem_map.mp hM
        have eM : M' = Kp397.bestValue s h := value_max hM' fun y hy => by
          have := hle _ (List.mem_map_of_mem hy)
          exact Int.ofNat_le.mp this
        rw [eM]
        exact q H' ((s1.trans s2).trans z1)

/-! ### thinnest_hides -/
def spThin (K : PySem.W.Frag) : Sp := fun vs H Q _ => ∃ (d : Addr) (s : Splitter) (v : Nat), vs = [.ref d, .int (s.cutLoss : Int), .int (s.maxCuts : Int), .int (v : Int)] ∧ DictAt H d s ∧ Good 7 s ∧
  ∀ asc : List Nat, asc.Perm (keys s) → asc.Pairwise (· ≤ ·) → ∀ (H' : Hp) (r : Addr), Same H H' → H' r = some (.lst (vN (thin s asc v))) → Q (.ref r) H'
abbrev nThin : List Str := ["prices", "cut_loss", "max_cuts", "value", "hides", "plan", "hide"]
theorem scThin : FnScope nThin ["prices", "cut_loss", "max_cuts", "value"] (defScope (top 35)) := ⟨rfl, rfl, rfl, by decide +kernel, rfl, by decide +kernel, by decide +kernel⟩
/-- thin, plan by plan -/
def thinTake (s : Splitter) (v : Nat) (l : List (List Nat)) : List Nat := (l.filter fun p => fitsB s.cutLoss s.maxCuts (used s.cutLoss p) p && decide (v ≤ Kp397.planValue s p)).map (used s.cutLoss)
theorem thinTake_snoc (s : Splitter) (v : Nat) (l : List (List Nat)) (p : List Nat) : thinTake s v (l ++ [p]) = if (fitsB s.cutLoss s.maxCuts (used s.cutLoss p) p && decide (v ≤ Kp397.planValue s p)) = true then thinTake s v l ++ [used s.cutLoss p] else thinTake s v l := by
  unfold thinTake
  rw [List.filter_append, List.map_append, List.filter_cons]
  by_cases e : (fitsB s.cutLoss s.maxCuts (used s.cutLoss p) p && decide (v ≤ Kp397.planValue s p)) = true
  · rw [if_pos e, if_pos e]
    rfl
  · rw [if_neg e, if_neg e]
    simp
theorem okThin {f fW fU fF fS : Addr} {fd dW dU dF dS : FuncData} (D : Df K mg "thinnest_hides" (top 35) ["prices", "cut_loss", "max_cuts", "value"] f fd) (W : Df K mg "plans_within" (top 32) ["thicknesses", "cut_loss", "hide"] fW dW)
    (U : Df K mg "used_thickness" (top 28) ["plan", "cut_loss"] fU dU) (F : Df K mg "plan_fits" (top 30) ["plan", "cut_loss", "max_cuts", "hide"] fF dF) (S : Df K mg "sum_of_prices" (top 27) ["plan", "prices"] fS dS) (B : Blt mg) (L : Lim mg)
    (GW : FnOk P w K mg base CX0 2 fW dW ["thicknesses", "cut_loss", "hide"] (spWithin K)) (GU : FnOk P w K mg base CX0 1 fU dU ["plan", "cut_loss"] (spUsed K)) (GF : FnOk P w K mg base CX0 3 fF dF ["plan", "cut_loss", "max_cuts", "hide"] (spFit K)) (GS : FnOk P w K mg base CX0 1 fS dS ["plan", "prices"] (spSum K)) :
    FnOk P w K mg base CX0 4 f fd ["prices", "cut_loss", "max_cuts", "value"] (spThin K) := by
  obtain ⟨th, hH60⟩ := L.hide
  refine D.F.ok scThin (fun vs H Q E h => ?_) (fun cdv A outer s H vs Q E hr h => ⟨_,
    pss_cons (ps_set (i := 4) scThin.nd rfl (.inl rfl) (pe_lst pa_nil))
    (pss_cons (ps_for PassesOwn.never rfl (pi_list (pe_call GW (hr.mono (by decide)) rfl W.g W.k W.b .nil pass0 (pa_cons (pe_callTy (call_listD rfl) (by rfl) B.list (by decide +kernel) (pa_cons (pv 0) pa_nil)) (pa_cons (pv 1) (pa_cons (pe_glob (v := .int 60) rfl hH60 ⟨_, rfl⟩) pa_nil))))) (pg_name (i := 5) scThin.nd rfl (.inl rfl))
      (pss_cons (ps_set (i := 6) scThin.nd rfl (.inl rfl) (pe_call GU (hr.mono (by decide)) rfl U.g U.k U.b .nil pass0 (pa_cons (pv 5) (pa_cons (pv 1) pa_nil))))
      (pss_one (ps_if (PW.pt (pw_and (pt_val (pe_call GF hr rfl F.g F.k F.b .nil pass0 (pa_cons (pv 5) (pa_cons (pv 1) (pa_cons (pv 2) (pa_cons (pv 6) pa_nil)))))) (pw_and1 (pt_cmpR op_ge (pe_call GS (hr.mono (by decide)) rfl S.g S.k S.b .nil pass0 (pa_cons (pv 5) (pa_cons (pv 0) pa_nil))) (pv 3) (nomark _)))))
        (pss_one (ps_expr (pe_bm PySem.F.plainAttrs_list PySem.F.slot_list_append PySem.F.type_list_append mt_append (pv 4) (pa_cons (pv 6) pa_nil)))) pss_nil))))
    (pss_one (ps_ret (pv 4)))), ?_⟩)
  · obtain ⟨d, s, v, rfl, _⟩ := h
    rfl
  · obtain ⟨d, s, v, rfl, hd, g, q⟩ := h
    refine ⟨by show 0 ≤ sizeLine; exact Nat.zero_le _, fun hl hhl => ?_⟩
    have ndh : d ≠ hl := ne_of_none hd hhl
    refine ⟨_, rfl, d, kvs s, rfl, .inl (by rw [upd_ne ndh]; exact hd), fun kl hkl => ?_⟩
    have nhk : hl ≠ kl := ne_of_none upd_same hkl
    have hkl0 : H kl = none := by
      rw [upd_ne nhk.symm] at hkl
      exact hkl
    have s1 : Same H (upd (upd H hl (.lst [])) kl (.lst ((kvs s).map fun kv => kV kv.1))) := same_upd (same_new hhl) hkl0
    have hd1 : DictAt (upd (upd H hl (.lst [])) kl (.lst ((kvs s).map fun kv => kV kv.1))) d s := s1 _ _ hd
    have hkl1 : (upd (upd H hl (.lst [])) kl (.lst ((kvs s).map fun kv => kV kv.1))) kl = some (.lst (vN (keys s))) := by
      rw [upd_same, kvs_kV]
    have hhl1 : (upd (upd H hl (.lst [])) kl (.lst ((kvs s).map fun kv => kV kv.1))) hl = some (.lst []) := by
      rw [upd_ne nhk, upd_same]
    generalize upd (upd H hl (.lst [])) kl (.lst ((kvs s).map fun kv => kV kv.1)) = H1 at hd1 hkl1 s1 hhl1
    refine ⟨_, rfl, kl, keys s, s.cutLoss, 60, rfl, SqL.of hkl1, by rw [keys_len]; exact g.len, g.cut, fun asc hp hr H2 PL as s2 hPL nPL nas pas => ?_⟩
    obtain ⟨_, hk, _, _, h7⟩ := fitting_is g hp hr 60
    have wl := within_len h7 s.cutLoss 60
    have al := pas.len
    have hd2 : DictAt H2 d s := s2 _ _ hd1
    have hhl2 := s2 _ _ hhl1
    have nPh : PL ≠ hl := fun z => by
      rw [z, hhl1] at nPL
      cases nPL
    have nah : ∀ x ∈ as, x ≠ hl := fun x hx z => by
      have e := nas x hx
      rw [z, hhl1] at e
      cases e
    refine ⟨PL, rfl, ⟨_, SqL.of hPL⟩, for_list (K := K) (a := PL) (xs := as.map V.ref) (fun i σ H' => ∃ v5 v6, σ = [some (.ref d), some (.int (s.cutLoss : Int)), some (.int (s.maxCuts : Int)), some (.int (v : Int)), some (.ref hl), v5, v6] ∧
        (∀ x o, H2 x = some o → x ≠ hl → H' x = some o) ∧ Same H H' ∧ (thinTake s v ((within asc s.cutLoss 60).take i)).length ≤ i ∧ H' hl = some (.lst (vN (thinTake s v ((within asc s.cutLoss 60).take i))))) ?_ ?_ ?_ ?_⟩
    · exact ⟨none, none, rfl, fun x o e _ => e, s1.trans s2, Nat.le_refl _, hhl2⟩
    · rintro i σ H' _ ⟨v5, v6, _, z, _⟩
      exact SqL.of (z _ _ hPL nPh)
    · rintro i x σ H' hx ⟨v5, v6, rfl, z1, z2, z3, z4⟩
      obtain ⟨b, p, rfl, hb, hp', hH⟩ := pls_mem pas hx
      have nbh := nah b (List.mem_of_getElem? hb)
      have hHb := z1 _ _ hH nbh
      obtain ⟨hp6, hpk⟩ := plans_sub hk (List.mem_of_getElem? hp')
      have ilt : i < as.length := (List.getElem?_eq_some_iff.mp hb).1
      refine ⟨_, rfl, _, rfl, b, p, s.cutLoss, rfl, SqL.of hHb, by omega, g.cut, ?_⟩
      refine ⟨_, rfl, _, rfl, _, rfl, _, rfl, b, p, s.cutLoss, s.maxCuts, used s.cutLoss p, rfl, SqL.of hHb, by omega, g.cut, _, rfl, ?_⟩
      have et : (within asc s.cutLoss 60).take (i + 1) = (within asc s.cutLoss 60).take i ++ [p] := take_more hp'
      by_cases hf : fitsB s.cutLoss s.maxCuts (used s.cutLoss p) p = true
      · refine ifT hf ?_
        refine ⟨_, rfl, _, rfl, b, d, p, s, rfl, SqL.of hHb, z1 _ _ hd2 ndh, hpk, by omega, fun H3 s3 => ⟨_, rfl, _, _, rfl, rfl, _, rfl, ?_⟩⟩
        by_cases hv : v ≤ Kp397.planValue s p
        · refine ifT (decide_eq_true (by omega)) ?_
          have ec : (fitsB s.cutLoss s.maxCuts (used s.cutLoss p) p && decide (v ≤ Kp397.planValue s p)) = true := by
            rw [hf, decide_eq_true hv]
            rfl
          refine ⟨_, rfl, .inl ⟨rfl, _, SqL.of (s3 _ _ z4)⟩, _, rfl, hl, _, _, rfl, rfl, s3 _ _ z4, ?_, ?_⟩
          · rw [vN_len]
            exact line_of' (by omega)
          · refine ⟨_, _, rfl, fun x o e n => ?_, same_upd (z2.trans s3) hhl, ?_, ?_⟩
            · rw [upd_ne n]
              exact s3 _ _ (z1 x o e n)
            · rw [et, thinTake_snoc, if_pos ec, List.length_append]
              simp
              exact z3
            · rw [upd_same, et, thinTake_snoc, if_pos ec, vN_snoc]
        · refine ifF (decide_eq_false (by omega)) ?_
          have ec : ¬ (fitsB s.cutLoss s.maxCuts (used s.cutLoss p) p && decide (v ≤ Kp397.planValue s p)) = true := by
            rw [hf, decide_eq_false hv]
            simp
          refine ⟨_, _, rfl, fun x o e n => s3 _ _ (z1 x o e n), z2.trans s3, ?_, ?_⟩
          · rw [et, thinTake_snoc, if_neg ec]
            omega
          · rw [et, thinTake_snoc, if_neg ec]
            exact s3 _ _ z4
      · refine ifF (by simpa using hf) ?_
        have ec : ¬ (fitsB s.cutLoss s.maxCuts (used s.cutLoss p) p && decide (v ≤ Kp397.planValue s p)) = true := by
          intro z
          exact hf (Bool.and_eq_true_iff.mp z).1
        refine ifF rfl ?_
        refine ⟨_, _, rfl, z1, z2, ?_, ?_⟩
        · rw [et, thinTake_snoc, if_neg ec]
          omega
        · rw [et, thinTake_snoc, if_neg ec]
          exact z4
    · rintro σ H' ⟨v5, v6, rfl, z1, z2, z3, z4⟩
      rw [List.length_map, al, List.take_length] at z4
      exact ⟨_, rfl, q asc hp hr H' hl z2 z4⟩
end
end Hl

set_option Elab.async false
set_option linter.all false
set_option maxRecDepth 100000
set_option maxHeartbeats 2000000
/-! # Hides and layers, part 8: the refusals: classes over an own class over Exception, whose __init__ stores a code. After the page's own-error block, for another base and a constant. -/
namespace HlX
open PySem PySem.W PySem.Calls PyProof.Rows PySem.HandSPX
open PySem.Builtin PySem.Builtin.ObjectAttr
/-- the mro behind the class: Refusal at R, then Exception's -/
abbrev exTail (R : Addr) : List Value := [.ref R, .type "Exception", .type "BaseException", .type "object"]
theorem ex_pass (self : Value) (C R : Addr) : refuseLoop self "__setattr__" (.ref C :: exTail R) = pure () := by
  rw [refuseLoop_ref, refuseLoop_ref]
  exact F.store_Exception.passes self
theorem ex_has (R : Addr) (X : String) : (exTail R).contains (.type X) = ([.type "Exception", .type "BaseException", .type "object"] : List Value).contains (.type X) := by
  show List.contains (Value.ref R :: [.type "Exception", .type "BaseException", .type "object"]) (Value.type X) = _
  rw [List.contains_cons]
  rfl
section
variable {prog : Program} {w : World} {A : Around} {R : Result → Shared → Prop} {hp : Heap} {g : Array GenState} {d : Drawn} {t : Nat} {os : OsState}
/-- object.__setattr__ on such an exception that has no dict yet -/
theorem osa_any {K : W.Frag} {nm : Str} {tk : Tok} {v : Value} {x C : Addr} {fv : Array Value} {cd : ClassData} (hK : K.In hp) (hobj : hp.get? x = some { cls := .ref C, data := .fields fv }) (hcls : W.clsIn K C = some cd)
    (hne : cd.mro.isEmpty = false) (hobject : cd.mro.contains (.type "object") = true) (hpass : refuseLoop (.ref x) "__setattr__" cd.mro = pure ()) (hdict : cd.hasDict = true) (hno : W.findIn K (.ref C) nm = some none)
    (goal : ∀ h' tk' dx, (∀ b o, b ≠ x → hp.get? b = some o → h'.get? b = some o) → hp.objs.size ≤ dx → dx ≠ x → h'.get? x = some { cls := .ref C, dict := some dx, data := .fields fv } →
      h'.Ns1 dx (fun y => if y = nm then some v else none) → R (.ok (.ret .none)) ⟨h', g, d, tk', os⟩) :
    codeAny (model prog w) A (.call (.builtin "object.__setattr__") ⟨[.ref x, .str nm tk, v], []⟩) R ⟨hp, g, d, t, os⟩ := by
  have inst : W.InstAt hp x { cls := .ref C, data := .fields fv } C none := ⟨hobj, rfl, rfl, trivial⟩
  have xs : x ≠ hp.objs.size := Nat.ne_of_lt (Heap.lt_size hobj)
  have isObject : W.Looks (model prog w) hp (isInstance (.ref x) (.type "object")) true := inst.type.andThen (W.looks_mroIn hK (by unfold W.mroIn; rw [hcls, Option.bind_some, if_neg (by rw [hne]; decide), hobject]))
  refine codeAny_call_builtin F.store_object.slot.plain F.store_object.entry (@W.check_slot (model prog w) _ _ ⟨hp, g, d, t, os⟩ "object.__setattr__" "object" "__setattr__" (.ref x) [.str nm tk, v] [] _ F.store_object.kind F.store_object.split isObject (F.store_object.args (.ref x) (.str nm tk) v) ?_)
  have mro : W.Looks (model prog w) hp (mroOf (.ref C)) cd.mro := (W.looks_clsIn hK hcls).andThen .now
  have taker : W.Looks (model prog w) hp (storeTaker? none) none := .now
  have clsd : W.Looks (model prog w) hp (classData C) cd := W.looks_clsIn hK hcls
  rw [W.osa_eq, refuse_eq]
  refine wpAny_bind (wpAny_bind (inst.type.at (wpAny_bind (mro.at ?_))))
  rw [hpass]
  refine wpAny_pure (wpAny_bind (inst.type.at (wpAny_bind ((W.looks_findIn hK hno).at (wpAny_bind (taker.at ?_))))))
  show wpAny _ _ (storeInOwnDict (.ref x) (.ref C) (.str nm tk) nm v false) _ _ _
  obtain ⟨_, _, _, _, _, dictFlag, _, _, _, _, _⟩ := cd
  dsimp only at hdict
  subst hdict
  unfold storeInOwnDict ownDictForStores
  repeat (first | with_reducible refine store_in_new ?_ ?_ | with_reducible refine wpAny_loadPart_at hobj ?_ | with_reducible refine clsd.at ?_ | wp_step)
  · exact ⟨_, #[], _, (Heap.get?_update_ne _ _ _ _ xs.symm).trans (Heap.get?_push_at rfl rfl), rfl, fun e he => absurd he (by simp), fun _ => rfl⟩
  · intro h' tk' hnew hsame
    have still : (hp.push { cls := .type "dict", data := .dict #[] }).get? x = some { cls := .ref C, data := .fields fv } := Heap.get?_push_of_some _ hobj
    refine goal h' tk' hp.objs.size (fun b o hb ho => ?_) (Nat.le_refl _) xs.symm ?_ hnew
    · exact (hsame.2 b (Nat.ne_of_lt (Heap.lt_size ho))).trans ((Heap.get?_update_ne _ _ _ _ hb).trans (Heap.get?_push_of_some _ ho))
    · exact (hsame.2 x xs).trans (Heap.get?_update_self _ still rfl)
end
/-! ### the text of __init__ -/
def iA (p : Pos) : Arguments := { posonlyargs := [], args := [{ arg := "self", annotation := none, pos := p }], vararg := none, kwonlyargs := [], kw_defaults := [], kwarg := none, defaults := [] }
def iB (n : Int) (j : Nat) (q1 q2 q3 q4 q5 : Pos) : List Stmt := [.Assign [.Attribute (.Name "self" q1) "code" q2] (.UnaryOp .USub (.Constant (.int n) j q3) q4) q5]
def iS : Scope := { kind := .function, names := [(PySem.Str.ofString "self", .local)], isGenerator := false, isCoroutine := false, more := [] }
/-- what the written part says of such a class, named x, at C, and of its __init__, at fI; its code is -n -/
structure ErrTxt (K : Frag) (mg : Str → Option Value) (x : Str) (n : Int) (C fI R : Addr) : Prop where
  gC : mg x = some (.ref C)
  cls : ∃ nm q N bs sn sub ab col dd k0 k1 k2 k3 k5, K.lookup C = some (excClassObj nm q C N bs (exTail R) true sn sub ab col dd k0 k1 k2 k3 k5 "Exception.__new__")
  sa : findIn K (.ref C) "__setattr__" = some (some (.builtin "object.__setattr__"))
  ga : findIn K (.ref C) "__getattribute__" = some (some (.builtin "BaseException.__getattribute__"))
  gg : findIn K (.ref C) "__getattr__" = some none
  noN : findIn K (.ref C) "code" = some none
  iC : findIn K (.ref C) "__init__" = some (some (.ref fI))
  tC : typeIn K (.ref fI) = some (.type "function")
  kC : keepIn K (.ref C) = true
  exC : subIn K (.ref C) (.type "BaseException") = some true
  tyC : typeIn K (.ref C) = some (.type "type")
  hdC : hasDictIn K C = true
  te : exmOne K (.ref C) (.ref R) = some true
  fn : ∃ (oc : Value) (od : Option Addr) (doc pm : Value) (an : Option Addr) (cdv ct : Value) (osl : Array (Option Value)) (j : Nat) (p q1 q2 q3 q4 q5 : Pos) (qual : Str),
    K.lookup fI = some ⟨oc, od, .func (fnOf "__init__" qual (iA p) (iB n j q1 q2 q3 q4 q5) iS .none .none doc pm an cdv ct), osl⟩ ∧ codeIn K cdv qual = true
theorem loadSelf {M : Model} {s : Shared} {name : Str} {scope : Scope} {L a : Addr} {cd : Value} {m : Str → Option Value} {x : Str} {pos : Pos} {v : Value} {Q : Value → Shared → Prop} {A : Around} {E : Value → Shared → Prop} (hn : s.heap.Ns L m) (hv : m x = some v) (h : Q v s)
    (hk : scope.kind = .function := by rfl) (hl : (envOfC name scope L a cd).kindOf x = some .local := by rfl) (hd : (x == ("__debug__" : Str)) = false := by decide) :
    wpAny M A (eval (.Name x pos) (envOfC name scope L a cd)) Q E s := wpAny_Name (wpAny_loadName_local hk hl hn hv h) hd
/-- what __init__ leaves of a fresh exception at x -/
structure InitEnd (h h' : Heap) (x C dx t1 : Addr) (n : Int) : Prop where
  keep : ∀ b o, b ≠ x → h.get? b = some o → h'.get? b = some o
  obj : h'.get? x = some { cls := .ref C, dict := some dx, data := .fields #[.ref t1, .none, .none, .none, .bool false, .none] }
  dbig : h.objs.size ≤ dx
  dne : dx ≠ x
  ns : ∃ tk : Tok, h'.Ns1 dx (fun y => if y = "code" then some (.int (-n) tk) else none)
/-- a made one -/
structure OwnMade (h h' : Heap) (e C d : Addr) (n : Int) : Prop where
  keep : ∀ b o, h.get? b = some o → h'.get? b = some o
  new : h.objs.size ≤ e
  obj : ∃ oe vs, h'.get? e = some oe ∧ oe.cls = .ref C ∧ oe.dict = some d ∧ oe.data = .fields vs ∧ vs[1]? = some .none
  dbig : h.objs.size ≤ d
  dne : d ≠ e
  ns : ∃ tk : Tok, h'.Ns1 d (fun y => if y = "code" then some (.int (-n) tk) else none)
section
variable {prog : Program} {w : World} {A : Around} {E : Value → Shared → Prop} {R : Result → Shared → Prop} {s : Shared} {K : Frag} {mg : Str → Option Value} {nam : Str} {n : Int} {C fI RC : Addr}
theorem err_init (T : ErrTxt K mg nam n C fI RC) {x t0 : Addr} (X : K.In s.heap) (hlim : s.heap.NoLimit) (hx : s.heap.get? x = some (excO C t0)) (hnx : K.lookup x = none) (hroom : A.depth < recursionLimit)
    (hq : ∀ h' tk dx, InitEnd s.heap h' x C dx t0 n → R (.ok (.ret .none)) { s with heap := h', toks := tk }) :
    codeAny (model prog w) A (.call (.ref fI) ⟨[.ref x], []⟩) R s := by
  obtain ⟨oc, od, doc, pm, an, cdv, ct, osl, j, p, q1, q2, q3, q4, q5, qual, ho, hcd⟩ := T.fn
  obtain ⟨nm, q, N, bs, sn, sub, ab, col, dd, k0, k1, k2, k3, k5, hC⟩ := T.cls
  have hcl : clsIn K C = some { name := nm, bases := bs, mro := .ref C :: exTail RC, ns := N, qualname := q, hasDict := true, slotNames := sn, subclasses := sub, abstract := ab, collection := col, hasDel := false } := by unfold clsIn; rw [hC] <;> rfl
  refine Att.call_fn (binds := [("self", .ref x)]) X hlim ho hcd hroom (BindsTo.of_eq (by first | rfl | with_unfolding_all rfl)) (by first | rfl | decide | with_unfolding_all rfl) (fun s₁ IC => ?_) rfl rfl rfl
  obtain ⟨h₁, tk₁, rfl⟩ := IC.toInCall.same
  have k : ∀ b o, s.heap.get? b = some o → h₁.get? b = some o := IC.toInCall.keep
  have hn := IC.toInCall.ns
  have X₁ : K.In h₁ := X.keeps k
  have hx₁ := k _ _ hx
  show wpAny _ _ (execs _ _) _ _ _
  refine wpAny_execs_cons (plainObj_wpAny_Assign_Attribute ?_)
  refine wpAny_UnaryOp (wpAny_Constant_int (neg_int ?_))
  refine loadSelf (v := .ref x) hn (by first | rfl | with_unfolding_all rfl | kernel_rfl) ?_
  refine set_plain X₁ (ox := excO C t0) (od := none) ⟨hx₁, rfl, rfl, trivial⟩ T.sa ?_
  refine osa_any X₁ hx₁ hcl rfl ?_ (ex_pass _ _ _) rfl T.noN (fun h₃ tk₃ dx k₃ dn dne hx₃ hn₃ => ?_)
  · show List.contains (Value.ref C :: exTail RC) (Value.type "object") = true
    rw [List.contains_cons, ex_has, Bool.or_eq_true]
    exact .inr (by decide +kernel)
  show wpAny _ _ (execs _ _) _ _ _
  have z : s.heap.objs.size < h₁.objs.size := hn.lt
  exact wpAny_execs_nil (hq h₃ tk₃ dx ⟨fun b o hb e => k₃ b o hb (k b o e), hx₃, Nat.le_of_lt (Nat.lt_of_lt_of_le z dn), dne, ⟨_, hn₃⟩⟩)
theorem err_made (T : ErrTxt K mg nam n C fI RC) (X : K.In s.heap) (hlim : s.heap.NoLimit) (hroom : A.depth + 1 < recursionLimit)
    (hq : ∀ h' tk e d, OwnMade s.heap h' e C d n → R (.ok (.ret (.ref e))) { s with heap := h', toks := tk }) :
    codeAny (model prog w) A (.call (.ref C) ⟨[], []⟩) R s := by
  obtain ⟨nm, q, N, bs, sn, sub, ab, col, dd, k0, k1, k2, k3, k5, hC⟩ := T.cls
  obtain ⟨hp, g, dr, tk, os⟩ := s
  have k : ∀ b o, hp.get? b = some o → ((hp.push (kdv_tup [])).push (excO C hp.objs.size)).get? b = some o := fun b o e => Heap.get?_push_of_some _ (Heap.get?_push_of_some _ e)
  have hget : ((hp.push (kdv_tup [])).push (excO C hp.objs.size)).get? (hp.objs.size + 1) = some (excO C hp.objs.size) := by heap_get
  have hnx : K.lookup (hp.objs.size + 1) = none := by
    cases e : K.lookup (hp.objs.size + 1) with
    | none => rfl
    | some o =>
      have z : hp.get? (hp.objs.size + 1) = some o := X _ _ e
      exact absurd (Nat.lt_of_succ_lt (Heap.lt_size z)) (Nat.lt_irrefl _)
  refine call_own F.excBase_Exception (fun X => ex_has RC X) (X _ _ hC) (looks_findIn X T.iC) (fun self => bind_fn X self T.tC) (Nat.zero_le _) ?_
  refine err_init (s := ⟨(hp.push (kdv_tup [])).push (excO C hp.objs.size), g, dr, tk, os⟩) T (X.keeps k) (hlim.keeps k) hget hnx ?_ fun h' tk' dx ⟨k', hx, dn, dne, hns⟩ => ?_
  · show A.depth + 1 < recursionLimit
    exact hroom
  · have old : ∀ b o, hp.get? b = some o → h'.get? b = some o := fun b o e => k' b o (Nat.ne_of_lt (Nat.lt_succ_of_lt (Heap.lt_size e))) (k b o e)
    have z : hp.objs.size + 1 + 1 ≤ dx := by
      first
        | (simpa only [Heap.size_push] using dn)
        | exact dn
        | (have q := dn; rw [Heap.size_push, Heap.size_push] at q; exact q)
    exact ⟨rfl, hq h' tk' (hp.objs.size + 1) dx ⟨old, Nat.le_succ _, ⟨_, _, hx, rfl, rfl, rfl, rfl⟩, Nat.le_trans (Nat.le_trans (Nat.le_succ _) (Nat.le_succ _)) z, dne, hns⟩⟩
end
end HlX
namespace Hl
open PySem PySem.Spec PyProof.Rows L2
theorem relO_code {v : V} {v' : Value} (r : RelV v v') (f : Str) : RelO (List.lookup f [(("code" : Str), v)]) (if f = "code" then some v' else none) := by
  by_cases hw : f = "code"
  · subst hw
    rw [if_pos rfl]
    have q : List.lookup ("code" : Str) [(("code" : Str), v)] = some v := by simp [List.lookup]
    rw [q]
    exact r
  · rw [if_neg hw]
    have qw : (f == ("code" : Str)) = false := by simpa using hw
    have q2 : List.lookup f [(("code" : Str), v)] = none := by simp [List.lookup, qw]
    rw [q2]
    trivial
section
variable {X : Cx} {nam : Str} {n : Int} {C fI RC : Addr}
/-- what a refusal's making leaves: its class, its own dict, new, that holds the code -/
def tErr (C : Addr) (n : Int) : L2.St → Hp → XK → Prop := fun σ H Q => ∀ d, H d = none → Q (.ref C) (some d) (upd H d (.xd [(("code" : Str), .int (-n))]))
theorem pmk_err {p pos : Pos} {k : Nat} (T : HlX.ErrTxt X.K X.mg nam n C fI RC) (hr : Room (k + 1) X.A) (hg : Gl X nam := by rfl) (hdb : (nam == ("__debug__" : Str)) = false := by decide) :
    PMk X (.Call (.Name nam p) [] [] pos) (tErr C n) := by
  intro pins s σ H Q I h
  refine wpAny_Call_Name_kw (ld_glob I hg T.gC ?_ hdb)
  refine PySem.W.callWith_K0 I.kIn T.kC ?_
  show wpAny _ _ (call (.ref C) []) _ _ _
  have hlim := I.nolimit
  obtain ⟨hp, g, dr, tk, os⟩ := s
  refine wpAny_call (HlX.err_made T I.kIn hlim (by have := hr.dp; omega) fun h' tk' e d M => ?_)
  show MkP X pins σ Q (.ref e) ⟨h', g, dr, tk', os⟩
  obtain ⟨oe, fv, hoe, hc, hd, hdat, h1⟩ := M.obj
  obtain ⟨tkk, hns⟩ := M.ns
  obtain ⟨G', g1, g2⟩ := restrict h' fun b => decide (b ≠ e)
  have gk : ∀ b, b ≠ e → G'.get? b = h'.get? b := fun b hb => g1 b (decide_eq_true hb)
  have ge : G'.get? e = none := g2 e (by simp)
  have old : ∀ b o, hp.get? b = some o → G'.get? b = some o := fun b o q => (gk b (Nat.ne_of_lt (Nat.lt_of_lt_of_le (Heap.lt_size q) M.new))).trans (M.keep b o q)
  have ob : ObjOk X.prog X.w (upd H d (.xd [(("code" : Str), .int (-n))])) G' d (.xd [(("code" : Str), .int (-n))]) :=
    ⟨_, hns.at (fun o q => (gk d M.dne).trans q), fun f => relO_code (v := .int (-n)) (v' := .int (-n) tkk) ⟨_, rfl⟩ f⟩
  have J : Inv X pins σ (upd H d (.xd [(("code" : Str), .int (-n))])) ⟨G', g, dr, tk', os⟩ := I.laid (t' := tk') old M.dbig ob
  refine ⟨e, oe, fv, ⟨G', g, dr, tk', os⟩, _, .ref C, some d, rfl, J, fun b o q => ?_, ge, hoe, ⟨hc, hd⟩, hdat, h1, ?_, rfl, I.bare, raises_own T.exC T.tyC, h d (I.hok.fresh M.dbig)⟩
  · by_cases hb : b = e
    · have q' : G'.get? b = some o := q
      rw [hb, ge] at q'
      cases q'
    · exact (gk b hb).symm.trans q
  · rw [upd_ne (Ne.symm M.dne)]
    exact I.hok.fresh M.new
/-- raise Class() -/
theorem ps_err {W : WX} {p pos pos2 : Pos} {k : Nat} (hc : X.calm = true) (T : HlX.ErrTxt X.K X.mg nam n C fI RC) (hr : Room (k + 1) X.A) (tk : Takes X W) (hg : Gl X nam := by rfl) (hdb : (nam == ("__debug__" : Str)) = false := by decide) :
    PS X (.Raise (some (.Call (.Name nam p) [] [] pos)) none pos2) (fun _ σ H => tErr C n σ H fun cls d H' => W cls d σ H') := ps_raise hc tk (pmk_err T hr hg hdb)
end
end Hl

set_option Elab.async false
set_option linter.all false
set_option maxRecDepth 100000
set_option maxHeartbeats 2000000
/-! # Hides and layers, part 9: the checks. -/
namespace Hl
open PySem PySem.Spec PyProof.Rows L2
open Kp397 (Splitter Product)
/-- the refusals that the top has written -/
structure Er (K : PySem.W.Frag) (mg : Str → Option Value) (RC : Addr) : Prop where
  gR : mg "Refusal" = some (.ref RC)
  none_ : ∃ C fI, HlX.ErrTxt K mg "NoSplitter" 11 C fI RC
  noProd : ∃ C fI, HlX.ErrTxt K mg "NoSuchProduct" 2 C fI RC
  lim : ∃ C fI, HlX.ErrTxt K mg "OutsideLimits" 22 C fI RC
  exists_ : ∃ C fI, HlX.ErrTxt K mg "ProductExists" 17 C fI RC
  many : ∃ C fI, HlX.ErrTxt K mg "TooManyProducts" 28 C fI RC
  thin : ∃ C fI, HlX.ErrTxt K mg "HideTooThin" 33 C fI RC
  noThick : ∃ C fI, HlX.ErrTxt K mg "NoThickness" 33 C fI RC
/-- an error (class, own dict) that a clause of Refusal takes, its code z -/
def RefErr (K : PySem.W.Frag) (RC : Addr) (cls : Value) (d : Option Addr) (z : Int) (H : Hp) : Prop :=
  ∃ C dd : Addr, cls = .ref C ∧ d = some dd ∧ H dd = some (.xd [(("code" : Str), .int z)]) ∧ XfC K C ∧ PySem.W.findIn K (.ref C) "code" = some none ∧ PySem.W.exmOne K (.ref C) (.ref RC) = some true
theorem RefErr.mk {K : PySem.W.Frag} {mg : Str → Option Value} {nam : Str} {n : Int} {C fI RC d : Addr} {H : Hp} (T : HlX.ErrTxt K mg nam n C fI RC) : RefErr K RC (.ref C) (some d) (-n) (upd H d (.xd [(("code" : Str), .int (-n))])) :=
  ⟨C, d, rfl, rfl, upd_same, ⟨T.ga, T.gg, T.exC, T.hdC⟩, T.noN, T.te⟩
/-- what a def that refuses is asked: on every such error with the code z, all that was tracked being as it was -/
def Ref (K : PySem.W.Frag) (RC : Addr) (H : Hp) (E : XK) (z : Int) : Prop := ∀ cls d H', RefErr K RC cls d z H' → Same H H' → E cls d H'
theorem Ref.go {K : PySem.W.Frag} {mg : Str → Option Value} {nam : Str} {n : Int} {C fI RC : Addr} {H H1 : Hp} {E : XK} (T : HlX.ErrTxt K mg nam n C fI RC) (h : Ref K RC H E (-n)) (s : Same H H1) : ∀ d, H1 d = none → E (.ref C) (some d) (upd H1 d (.xd [(("code" : Str), .int (-n))])) :=
  fun d hd => h _ _ _ (RefErr.mk T) (same_upd' s hd)
theorem Ref.imp {K : PySem.W.Frag} {RC : Addr} {H H1 : Hp} {E : XK} {z : Int} (h : Ref K RC H E z) (s : Same H H1) : Ref K RC H1 E z := fun cls d H' e s' => h cls d H' e (s.trans s')
section
variable {P : Program} {w : World} {K : PySem.W.Frag} {mg : Str → Option Value} {base : Heap} {RC : Addr}
def okT (t : Nat) : Bool := decide (3 ≤ t) && decide (t ≤ 60)

def spMachine (K : PySem.W.Frag) (RC : Addr) : Sp := fun vs H Q E => ∃ a b : Nat, vs = [.int (a : Int), .int (b : Int)] ∧ (Kp397.validMachine a b = false → Ref K RC H E (-22)) ∧ (Kp397.validMachine a b = true → Q .non H)
theorem scMachine : FnScope ["cut_loss", "max_cuts"] ["cut_loss", "max_cuts"] (defScope (top 20)) := ⟨rfl, rfl, rfl, by decide +kernel, rfl, by decide +kernel, by decide +kernel⟩
theorem okMachine {f : Addr} {fd : FuncData} (D : Df K mg "check_machine" (top 20) ["cut_loss", "max_cuts"] f fd) (L : Lim mg) (Er : Er K mg RC) : FnOk P w K mg base (L2.CX P w) 2 f fd ["cut_loss", "max_cuts"] (spMachine K RC) := by
  obtain ⟨t1, h1⟩ := L.loss
  obtain ⟨t2, h2⟩ := L.cuts
  obtain ⟨C, fI, T⟩ := Er.lim
  refine D.F.okX scMachine (fun vs H Q E h => ?_) (fun cdv A outer s H vs Q E hr h => ⟨_,
    pss_one (ps_if (PW.pt (pw_or (pt_cmpR op_gt (pv 0) (pe_glob (v := .int 9) rfl h1 ⟨_, rfl⟩) (nomark _)) (pw_or1 (pt_cmpR op_gt (pv 1) (pe_glob (v := .int 5) rfl h2 ⟨_, rfl⟩) (nomark _)))))
      (pss_one (ps_err (W := fun cls d _ H => E cls d H) rfl T hr (takes_of rfl rfl rfl rfl))) pss_nil), ?_⟩)
  · obtain ⟨a, b, rfl, _⟩ := h
    rfl
  · obtain ⟨a, b, rfl, kE, kQ⟩ := h
    refine ⟨_, rfl, _, _, rfl, rfl, _, rfl, ?_⟩
    by_cases ha : a ≤ 9
    · refine ifF (decide_eq_false (by omega)) ?_
      refine ⟨_, rfl, _, _, rfl, rfl, _, rfl, ?_⟩
      by_cases hb : b ≤ 5
      · refine ifF (decide_eq_false (by omega)) ?_
        exact kQ (by unfold Kp397.validMachine; rw [decide_eq_true ha, decide_eq_true hb]; rfl)
      · refine ifT (decide_eq_true (by omega)) ?_
        exact Ref.go T (kE (by unfold Kp397.validMachine; rw [decide_eq_true ha, decide_eq_false hb]; rfl)) (Same.refl _)
    · refine ifT (decide_eq_true (by omega)) ?_
      refine ifT rfl ?_
      exact Ref.go T (kE (by unfold Kp397.validMachine; rw [decide_eq_false ha]; rfl)) (Same.refl _)

def spThick (K : PySem.W.Frag) (RC : Addr) : Sp := fun vs H Q E => ∃ a : Nat, vs = [.int (a : Int)] ∧ (okT a = false → Ref K RC H E (-22)) ∧ (okT a = true → Q .non H)
theorem scThick : FnScope ["thickness"] ["thickness"] (defScope (top 21)) := ⟨rfl, rfl, rfl, by decide +kernel, rfl, by decide +kernel, by decide +kernel⟩
theorem okThick {f : Addr} {fd : FuncData} (D : Df K mg "check_thickness" (top 21) ["thickness"] f fd) (L : Lim mg) (Er : Er K mg RC) : FnOk P w K mg base (L2.CX P w) 2 f fd ["thickness"] (spThick K RC) := by
  obtain ⟨t1, h1⟩ := L.minT
  obtain ⟨t2, h2⟩ := L.maxT
  obtain ⟨C, fI, T⟩ := Er.lim
  refine D.F.okX scThick (fun vs H Q E h => ?_) (fun cdv A outer s H vs Q E hr h => ⟨_,
    pss_one (ps_if (PW.pt (pw_or (pt_cmpR op_lt (pv 0) (pe_glob (v := .int 3) rfl h1 ⟨_, rfl⟩) (nomark _)) (pw_or1 (pt_cmpR op_gt (pv 0) (pe_glob (v := .int 60) rfl h2 ⟨_, rfl⟩) (nomark _)))))
      (pss_one (ps_err (W := fun cls d _ H => E cls d H) rfl T hr (takes_of rfl rfl rfl rfl))) pss_nil), ?_⟩)
  · obtain ⟨a, rfl, _⟩ := h
    rfl
  · obtain ⟨a, rfl, kE, kQ⟩ := h
    refine ⟨_, rfl, _, _, rfl, rfl, _, rfl, ?_⟩
    by_cases ha : 3 ≤ a
    · refine ifF (decide_eq_false (by omega)) ?_
      refine ⟨_, rfl, _, _, rfl, rfl, _, rfl, ?_⟩
      by_cases hb : a ≤ 60
      · refine ifF (decide_eq_false (by omega)) ?_
        exact kQ (by unfold okT; rw [decide_eq_true ha, decide_eq_true hb]; rfl)
      · refine ifT (decide_eq_true (by omega)) ?_
        exact Ref.go T (kE (by unfold okT; rw [decide_eq_true ha, decide_eq_false hb]; rfl)) (Same.refl _)
    · refine ifT (decide_eq_true (by omega)) ?_
      refine ifT rfl ?_
      exact Ref.go T (kE (by unfold okT; rw [decide_eq_false ha]; rfl)) (Same.refl _)

def spPrice (K : PySem.W.Frag) (RC : Addr) : Sp := fun vs H Q E => ∃ a : Nat, vs = [.int (a : Int)] ∧ (Kp397.validPrice a = false → Ref K RC H E (-22)) ∧ (Kp397.validPrice a = true → Q .non H)
theorem scPrice : FnScope ["price"] ["price"] (defScope (top 22)) := ⟨rfl, rfl, rfl, by decide +kernel, rfl, by decide +kernel, by decide +kernel⟩
theorem okPrice {f : Addr} {fd : FuncData} (D : Df K mg "check_price" (top 22) ["price"] f fd) (L : Lim mg) (Er : Er K mg RC) : FnOk P w K mg base (L2.CX P w) 2 f fd ["price"] (spPrice K RC) := by
  obtain ⟨t1, h1⟩ := L.minP
  obtain ⟨t2, h2⟩ := L.maxP
  obtain ⟨C, fI, T⟩ := Er.lim
  refine D.F.okX scPrice (fun vs H Q E h => ?_) (fun cdv A outer s H vs Q E hr h => ⟨_,
    pss_one (ps_if (PW.pt (pw_or (pt_cmpR op_lt (pv 0) (pe_glob (v := .int 1) rfl h1 ⟨_, rfl⟩) (nomark _)) (pw_or1 (pt_cmpR op_gt (pv 0) (pe_glob (v := .int 99) rfl h2 ⟨_, rfl⟩) (nomark _)))))
      (pss_one (ps_err (W := fun cls d _ H => E cls d H) rfl T hr (takes_of rfl rfl rfl rfl))) pss_nil), ?_⟩)
  · obtain ⟨a, rfl, _⟩ := h
    rfl
  · obtain ⟨a, rfl, kE, kQ⟩ := h
    refine ⟨_, rfl, _, _, rfl, rfl, _, rfl, ?_⟩
    by_cases ha : 1 ≤ a
    · refine ifF (decide_eq_false (by omega)) ?_
      refine ⟨_, rfl, _, _, rfl, rfl, _, rfl, ?_⟩
      by_cases hb : a ≤ 99
      · refine ifF (decide_eq_false (by omega)) ?_
        exact kQ (by unfold Kp397.validPrice; rw [decide_eq_true ha, decide_eq_true hb]; rfl)
      · refine ifT (decide_eq_true (by omega)) ?_
        exact Ref.go T (kE (by unfold Kp397.validPrice; rw [decide_eq_true ha, decide_eq_false hb]; rfl)) (Same.refl _)
    · refine ifT (decide_eq_true (by omega)) ?_
      refine ifT rfl ?_
      exact Ref.go T (kE (by unfold Kp397.validPrice; rw [decide_eq_false ha]; rfl)) (Same.refl _)

def spHide (K : PySem.W.Frag) (RC : Addr) : Sp := fun vs H Q E => ∃ a : Nat, vs = [.int (a : Int)] ∧ (Kp397.validHide a = false → Ref K RC H E (-22)) ∧ (Kp397.validHide a = true → Q .non H)
theorem scHide : FnScope ["hide"] ["hide"] (defScope (top 23)) := ⟨rfl, rfl, rfl, by decide +kernel, rfl, by decide +kernel, by decide +kernel⟩
theorem okHide {f : Addr} {fd : FuncData} (D : Df K mg "check_hide" (top 23) ["hide"] f fd) (L : Lim mg) (Er : Er K mg RC) : FnOk P w K mg base (L2.CX P w) 2 f fd ["hide"] (spHide K RC) := by
  obtain ⟨t1, h1⟩ := L.hide
  obtain ⟨C, fI, T⟩ := Er.lim
  refine D.F.okX scHide (fun vs H Q E h => ?_) (fun cdv A outer s H vs Q E hr h => ⟨_,
    pss_one (ps_if (pt_cmpR op_gt (pv 0) (pe_glob (v := .int 60) rfl h1 ⟨_, rfl⟩) (nomark _)) (pss_one (ps_err (W := fun cls d _ H => E cls d H) rfl T hr (takes_of rfl rfl rfl rfl))) pss_nil), ?_⟩)
  · obtain ⟨a, rfl, _⟩ := h
    rfl
  · obtain ⟨a, rfl, kE, kQ⟩ := h
    refine ⟨_, rfl, _, _, rfl, rfl, _, rfl, ?_⟩
    by_cases hb : a ≤ 60
    · refine ifF (decide_eq_false (by omega)) ?_
      exact kQ (decide_eq_true hb)
    · refine ifT (decide_eq_true (by omega)) ?_
      exact Ref.go T (kE (decide_eq_false hb)) (Same.refl _)

def spValue (K : PySem.W.Frag) (RC : Addr) : Sp := fun vs H Q E => ∃ a : Nat, vs = [.int (a : Int)] ∧ (999 < a → Ref K RC H E (-22)) ∧ (¬ 999 < a → Q .non H)
theorem scValue : FnScope ["value"] ["value"] (defScope (top 24)) := ⟨rfl, rfl, rfl, by decide +kernel, rfl, by decide +kernel, by decide +kernel⟩
theorem okValue {f : Addr} {fd : FuncData} (D : Df K mg "check_value" (top 24) ["value"] f fd) (L : Lim mg) (Er : Er K mg RC) : FnOk P w K mg base (L2.CX P w) 2 f fd ["value"] (spValue K RC) := by
  obtain ⟨t1, h1⟩ := L.value
  obtain ⟨C, fI, T⟩ := Er.lim
  refine D.F.okX scValue (fun vs H Q E h => ?_) (fun cdv A outer s H vs Q E hr h => ⟨_,
    pss_one (ps_if (pt_cmpR op_gt (pv 0) (pe_glob (v := .int 999) rfl h1 ⟨_, rfl⟩) (nomark _)) (pss_one (ps_err (W := fun cls d _ H => E cls d H) rfl T hr (takes_of rfl rfl rfl rfl))) pss_nil), ?_⟩)
  · obtain ⟨a, rfl, _⟩ := h
    rfl
  · obtain ⟨a, rfl, kE, kQ⟩ := h
    refine ⟨_, rfl, _, _, rfl, rfl, _, rfl, ?_⟩
    by_cases hb : 999 < a
    · refine ifT (decide_eq_true (by omega)) ?_
      exact Ref.go T (kE hb) (Same.refl _)
    · refine ifF (decide_eq_false (by omega)) ?_
      exact kQ hb

/-! ### check_plan -/
def spPlan (K : PySem.W.Frag) (RC : Addr) : Sp := fun vs H Q E => ∃ (a d : Addr) (l : List Nat) (s : Splitter), vs = [.ref a, .ref d] ∧ SqL K H a (vN l) ∧ DictAt H d s ∧ l.length ≤ 1000 ∧
  (Kp397.validPlan s l = false → Ref K RC H E (-22)) ∧ (Kp397.validPlan s l = true → ∀ H', Same H H' → Q .non H')
abbrev nPlan : List Str := ["layers", "thicknesses", "position", "layer"]
theorem scPlan : FnScope nPlan ["layers", "thicknesses"] (defScope (top 25)) := ⟨rfl, rfl, rfl, by decide +kernel, rfl, by decide +kernel, by decide +kernel⟩
theorem okPlan {f : Addr} {fd : FuncData} (D : Df K mg "check_plan" (top 25) ["layers", "thicknesses"] f fd) (B : Blt mg) (L : Lim mg) (Er : Er K mg RC) : FnOk P w K mg base (L2.CX P w) 2 f fd ["layers", "thicknesses"] (spPlan K RC) := by
  obtain ⟨t1, h1⟩ := L.layers
  obtain ⟨C, fI, T⟩ := Er.lim
  refine D.F.okX scPlan (fun vs H Q E h => ?_) (fun cdv A outer s H vs Q E hr h => ⟨_,
    pss_cons (ps_if (pt_cmpR op_gt (pe_callB call_len_seq (by rfl) B.len PySem.boot_len (pa_cons (pv 0) pa_nil)) (pe_glob (v := .int 6) rfl h1 ⟨_, rfl⟩) (nomark _)) (pss_one (ps_err (W := fun cls d _ H => E cls d H) rfl T hr (takes_of rfl rfl rfl rfl))) pss_nil)
    (pss_one (ps_for (passes_of rfl) rfl (pi_enum (by rfl) B.enumerate (pa_cons (pv 0) pa_nil)) (pg_tup rfl (pgs_cons (pg_name (i := 2) scPlan.nd rfl (.inl rfl)) (pgs_cons (pg_name (i := 3) scPlan.nd rfl (.inl rfl)) pgs_nil)))
      (pss_cons (ps_if (pt_cmp (pc_dnotin (hu_of hr) (pv 3) (pv 1))) (pss_one (ps_err (W := fun cls d _ H => E cls d H) rfl T hr (takes_of rfl rfl rfl rfl))) pss_nil)
      (pss_one (ps_if (PW.pt (pw_and (pt_cmpR op_gt (pv 2) pe_int (nomark _)) (pw_and1 (pt_cmpR op_gt (pv 3) (pe_ix ix_list (pv 0) (pe_op op_sub (pv 2) pe_int) (fun _ _ => rfl)) (nomark _)))))
        (pss_one (ps_err (W := fun cls d _ H => E cls d H) rfl T hr (takes_of rfl rfl rfl rfl))) pss_nil))))), ?_⟩)
  · obtain ⟨a, d, l, s, rfl, _⟩ := h
    rfl
  · obtain ⟨a, d, l, sp, rfl, hS, hd, hl, kE, kQ⟩ := h
    refine ⟨_, rfl, a, _, rfl, .inl hS, _, _, rfl, rfl, _, rfl, ?_⟩
    rw [vN_len]
    by_cases h6 : l.length ≤ 6
    · refine ifF (decide_eq_false (by omega)) ?_
      refine ⟨_, rfl, a, _, rfl, hS, for_it (walk_enum (xs := vN l)) (fun i σ H' => ∃ v2 v3, σ = [some (.ref a), some (.ref d), v2, v3] ∧ Same H H' ∧ (∀ t ∈ l.take i, Kp397.isProduct sp t = true) ∧ ∀ j, j + 1 < i → l.getD (j + 1) 0 ≤ l.getD j 0) ?_ ?_ ?_ ?_⟩
      · exact ⟨none, none, rfl, Same.refl _, by simp, fun j hj => absurd hj (by omega)⟩
      · rintro i σ H' _ ⟨_, _, _, z, _⟩
        exact z.seq hS
      · rintro i v σ H1 H' hi ⟨v2, v3, rfl, z1, z2, z3⟩ ⟨tt, x, y, rfl, ht, rfl, ex, ey⟩
        obtain rfl := Option.some.inj ex
        obtain ⟨t, hlt, rfl⟩ := vN_get ey
        have s2 : Same H (upd H1 tt (.tup [.int (i : Nat), .int (t : Int)])) := same_upd' z1 ht
        have gi : l.getD i 0 = t := by
          rw [List.getD_eq_getElem?_getD, hlt]
          rfl
        refine ⟨tt, _, rfl, SqT.of upd_same, rfl, _, _, rfl, _, _, rfl, rfl, ?_⟩
        have bad : Kp397.validPlan sp l = false → ∀ H2, H2 = upd H1 tt (.tup [.int (i : Nat), .int (t : Int)]) → ∀ d, H2 d = none → E (.ref C) (some d) (upd H2 d (.xd [(("code" : Str), .int (-22))])) := fun hv H2 e => by
          subst e
          exact Ref.go T (kE hv) s2
        by_cases hp : Kp397.isProduct sp t = true
        · refine ⟨_, rfl, _, rfl, d, _, rfl, dget_in (s2 _ _ hd) hp, _, rfl, ?_⟩
          refine ifF rfl ?_
          refine ⟨_, rfl, _, _, rfl, rfl, _, rfl, ?_⟩
          have prods : ∀ x ∈ l.take (i + 1), Kp397.isProduct sp x = true := fun x hx => by
            rw [take_more hlt] at hx
            rcases List.mem_append.mp hx with q | q
            · exact z2 x q
            · rw [List.mem_singleton.mp q]
              exact hp
          cases i with
          | zero =>
            refine ifF (decide_eq_false (by show ¬ (0 : Int) < ((0 : Nat) : Int); omega)) ?_
            refine ifF rfl ?_
            exact ⟨_, _, rfl, s2, prods, fun j hj => absurd hj (by omega)⟩
          | succ i =>
            refine ifT (decide_eq_true (by omega)) ?_
            obtain ⟨y, hy⟩ : ∃ y, l[i]? = some y := by
              have := (List.getElem?_eq_some_iff.mp hlt).1
              exact ⟨_, List.getElem?_eq_getElem (by omega)⟩
            have gy : l.getD i 0 = y := by
              rw [List.getD_eq_getElem?_getD, hy]
              rfl
            refine ⟨_, rfl, _, rfl, _, rfl, _, _, rfl, rfl, a, vN l, _, .int (y : Int), rfl, rfl, s2.seq hS, ?_, _, _, rfl, rfl, _, rfl, ?_⟩
            · have e : (((i + 1 : Nat) : Int) - 1) = (i : Int) := by omega
              rw [e]
              exact atI_nat (vN_at hy)
            by_cases hty : t ≤ y
            · refine ifF (decide_eq_false (by omega)) ?_
              refine ⟨_, _, rfl, s2, prods, fun j hj => ?_⟩
              by_cases hji : j = i
              · rw [hji, gi, gy]
                exact hty
              · exact z3 j (by omega)
            · refine ifT (decide_eq_true (by omega)) ?_
              refine bad ?_ _ rfl
              cases hv : Kp397.validPlan sp l with
              | false => rfl
              | true =>
                have := (validPlan_iff.mp hv).2.2 i (List.getElem?_eq_some_iff.mp hlt).1
                rw [gi, gy] at this
                exact absurd this hty
        · have hp' : Kp397.isProduct sp t = false := by simpa using hp
          refine ⟨_, rfl, _, rfl, d, none, rfl, by rw [← valV_out hp']; exact DGet.k (k := Sum.inl (t : Int)) (s2 _ _ hd), _, rfl, ?_⟩
          refine ifT rfl ?_
          refine bad ?_ _ rfl
          cases hv : Kp397.validPlan sp l with
          | false => rfl
          | true => exact absurd ((validPlan_iff.mp hv).2.1 t (List.mem_of_getElem? hlt)) hp
      · rintro σ H' ⟨v2, v3, rfl, z1, z2, z3⟩
        rw [vN_len] at z2 z3
        rw [List.take_length] at z2
        exact kQ (validPlan_iff.mpr ⟨h6, z2, fun j hj => z3 j hj⟩) H' z1
    · refine ifT (decide_eq_true (by omega)) ?_
      refine Ref.go T (kE ?_) (Same.refl _)
      cases hv : Kp397.validPlan sp l with
      | false => rfl
      | true => exact absurd (validPlan_iff.mp hv).1 h6
end
end Hl

set_option Elab.async false
set_option linter.all false
set_option maxRecDepth 100000
set_option maxHeartbeats 2000000
/-! # Hides and layers, part 10: the splitter's object and the methods that change it. -/
namespace Hl
open PySem PySem.Spec PyProof.Rows L2
open Kp397 (Splitter Product)
/-! ### the object -/
def spF (s : Splitter) (d : Addr) : List (Str × V) := [(("cut_loss" : Str), .int (s.cutLoss : Int)), (("max_cuts" : Str), .int (s.maxCuts : Int)), (("prices" : Str), .ref d)]
structure SpAt (C : Addr) (H : Hp) (a dx d : Addr) (s : Splitter) : Prop where
  ins : H a = some (.ins C dx (spF s d))
  dict : DictAt H d s
theorem lkh {k : Str} {v : V} {r : List (Str × V)} : List.lookup k ((k, v) :: r) = some v := by
  have e : (k == k) = true := beq_self_eq_true k
  simp only [List.lookup, e]
theorem lkp {k g : Str} {v : V} {r : List (Str × V)} (h : (k == g) = false) : List.lookup k ((g, v) :: r) = List.lookup k r := by
  simp only [List.lookup, h]
theorem pth {f : Str} {v x : V} {r : List (Str × V)} : putF f v ((f, x) :: r) = (f, v) :: r := if_pos rfl
theorem ptp {f g : Str} {v x : V} {r : List (Str × V)} (h : ¬ g = f) : putF f v ((g, x) :: r) = (g, x) :: putF f v r := if_neg h
theorem spF_loss (s : Splitter) (d : Addr) : (spF s d).lookup ("cut_loss" : Str) = some (.int (s.cutLoss : Int)) := lkh
theorem spF_cuts (s : Splitter) (d : Addr) : (spF s d).lookup ("max_cuts" : Str) = some (.int (s.maxCuts : Int)) := (lkp (by decide +kernel)).trans lkh
theorem spF_prices (s : Splitter) (d : Addr) : (spF s d).lookup ("prices" : Str) = some (.ref d) := (lkp (by decide +kernel)).trans ((lkp (by decide +kernel)).trans lkh)
theorem spF_no {m : Str} (s : Splitter) (d : Addr) (h : (!(m == ("cut_loss" : Str)) && !(m == ("max_cuts" : Str)) && !(m == ("prices" : Str))) = true) : (spF s d).lookup m = none := by
  simp only [Bool.and_eq_true, Bool.not_eq_true'] at h
  obtain ⟨⟨h1, h2⟩, h3⟩ := h
  exact (lkp h1).trans ((lkp h2).trans ((lkp h3).trans rfl))
/-- what the top has written of the class -/
structure Sc (K : PySem.W.Frag) (mg : Str → Option Value) (C : Addr) : Prop where
  cl : Cls K C
  nL : NoAttr K C "cut_loss"
  nM : NoAttr K C "max_cuts"
  nP : NoAttr K C "prices"
  gC : mg "Splitter" = some (.ref C)
/-- all but what stands at d is as it was -/
def Only (H H' : Hp) (d : Addr) : Prop := ∀ b o, H b = some o → b ≠ d → H' b = some o
theorem only_of {H H' : Hp} {d : Addr} (s : Same H H') : Only H H' d := fun b o e _ => s b o e
theorem SpAt.ne {C : Addr} {H : Hp} {a dx d : Addr} {s : Splitter} (h : SpAt C H a dx d s) : a ≠ d := ne_of h.ins h.dict (by intro z; cases z)
theorem SpAt.same {C : Addr} {H H' : Hp} {a dx d : Addr} {s : Splitter} (h : SpAt C H a dx d s) (e : Same H H') : SpAt C H' a dx d s := ⟨e _ _ h.ins, e _ _ h.dict⟩

/-! ### the dict's changes -/
theorem any_kvs (s : Splitter) (t : Nat) : ((kvs s).any fun kv => decide (kv.1 = Sum.inl (t : Int))) = Kp397.isProduct s t := by
  rw [valV_any]
  cases h : Kp397.isProduct s t with
  | true => rw [valV_in' h]; rfl
  | false => rw [valV_out h]; rfl
theorem put_new {s : Splitter} {x v : Nat} (h : Kp397.isProduct s x = false) : putK (kvs s) (Sum.inl (x : Int)) (.int (v : Int)) = kvs { s with products := s.products ++ [⟨x, v⟩] } := by
  unfold putK
  rw [any_kvs, h, if_neg Bool.false_ne_true]
  unfold kvs
  rw [List.map_append]
  rfl
theorem put_old {s : Splitter} {x v : Nat} (h : Kp397.isProduct s x = true) : putK (kvs s) (Sum.inl (x : Int)) (.int (v : Int)) = kvs { s with products := s.products.map fun p => if p.thickness = x then { p with price := v } else p } := by
  unfold putK
  rw [any_kvs, h, if_pos rfl]
  unfold kvs
  rw [List.map_map, List.map_map]
  refine List.map_congr_left fun p _ => ?_
  show (if (Sum.inl (p.thickness : Int) : Key) = Sum.inl (x : Int) then _ else _) = _
  by_cases e : p.thickness = x
  · rw [if_pos (by rw [e])]
    show _ = (Sum.inl (((if p.thickness = x then { p with price := v } else p : Product).thickness : Nat) : Int), V.int (((if p.thickness = x then { p with price := v } else p : Product).price : Nat) : Int))
    rw [if_pos e]
  · rw [if_neg (fun q => e (by have := Sum.inl.inj q; omega))]
    show _ = (Sum.inl (((if p.thickness = x then { p with price := v } else p : Product).thickness : Nat) : Int), V.int (((if p.thickness = x then { p with price := v } else p : Product).price : Nat) : Int))
    rw [if_neg e]
theorem drop_is (s : Splitter) (x : Nat) : dropK (kvs s) (Sum.inl (x : Int)) = kvs { s with products := s.products.filter fun p => p.thickness != x } := by
  unfold dropK kvs
  rw [List.filter_map]
  refine congrArg _ (List.filter_congr fun p _ => ?_)
  show decide ((Sum.inl (p.thickness : Int) : Key) ≠ Sum.inl (x : Int)) = (p.thickness != x)
  by_cases e : p.thickness = x
  · rw [e]
    simp
  · have : ¬ (Sum.inl (p.thickness : Int) : Key) = Sum.inl (x : Int) := fun q => e (by have := Sum.inl.inj q; omega)
    simp [this, e]
theorem valid_split (x v : Nat) : Kp397.validProduct x v = (okT x && Kp397.validPrice v) := by
  unfold Kp397.validProduct okT Kp397.validPrice
  rw [Bool.and_assoc]
  rfl
theorem dget_of {H : Hp} {d : Addr} {s : Splitter} (hd : DictAt H d s) (t : Nat) : DGet H d (.int (t : Int)) (valV (kvs s) (Sum.inl (t : Int))) := DGet.k (k := Sum.inl (t : Int)) hd
theorem valV_some (s : Splitter) (t : Nat) : (valV (kvs s) (Sum.inl (t : Int))).isSome = Kp397.isProduct s t := by
  cases h : Kp397.isProduct s t with
  | true => rw [valV_in' h]; rfl
  | false => rw [valV_out h]; rfl
section
variable {P : Program} {w : World} {K : PySem.W.Frag} {mg : Str → Option Value} {base : Heap} {RC C : Addr}

/-! ### check_product, check_new_product -/
def spCP (K : PySem.W.Frag) (RC C : Addr) : Sp := fun vs H Q E => ∃ (a dx d : Addr) (s : Splitter) (t : Nat), vs = [.ref a, .int (t : Int)] ∧ SpAt C H a dx d s ∧ (Kp397.isProduct s t = false → Ref K RC H E (-2)) ∧ (Kp397.isProduct s t = true → Q .non H)
theorem scCP : FnScope ["self", "thickness"] ["self", "thickness"] (defScope (inClass (top 38) 1)) := ⟨rfl, rfl, rfl, by decide +kernel, rfl, by decide +kernel, by decide +kernel⟩
theorem okCP {f : Addr} {fd : FuncData} (D : Mt K C "check_product" "Splitter.check_product" (inClass (top 38) 1) ["self", "thickness"] f fd) (S : Sc K mg C) (Er : Er K mg RC) : FnOk P w K mg base (L2.CX P w) 2 f fd ["self", "thickness"] (spCP K RC C) := by
  obtain ⟨C2, fI, T⟩ := Er.noProd
  refine D.F.okX scCP (fun vs H Q E h => ?_) (fun cdv A outer s H vs Q E hr h => ⟨_,
    pss_one (ps_if (pt_cmp (pc_dnotin (hu_of hr) (pv 1) (pe_fld (pv 0) rfl))) (pss_one (ps_err (W := fun cls d _ H => E cls d H) rfl T hr (takes_of rfl rfl rfl rfl))) pss_nil), ?_⟩)
  · obtain ⟨a, dx, d, s, t, rfl, _⟩ := h
    rfl
  · obtain ⟨a, dx, d, s, t, rfl, hs, kE, kQ⟩ := h
    refine ⟨_, rfl, _, rfl, a, C, dx, _, _, rfl, hs.ins, S.cl, S.nP, spF_prices s d, d, _, rfl, dget_of hs.dict t, _, rfl, ?_⟩
    rw [valV_some]
    cases hp : Kp397.isProduct s t with
    | true => exact ifF rfl (kQ hp)
    | false => exact ifT rfl (Ref.go T (kE hp) (Same.refl _))
def spCN (K : PySem.W.Frag) (RC C : Addr) : Sp := fun vs H Q E => ∃ (a dx d : Addr) (s : Splitter) (t : Nat), vs = [.ref a, .int (t : Int)] ∧ SpAt C H a dx d s ∧ (Kp397.isProduct s t = true → Ref K RC H E (-17)) ∧ (Kp397.isProduct s t = false → Q .non H)
theorem scCN : FnScope ["self", "thickness"] ["self", "thickness"] (defScope (inClass (top 38) 2)) := ⟨rfl, rfl, rfl, by decide +kernel, rfl, by decide +kernel, by decide +kernel⟩
theorem okCN {f : Addr} {fd : FuncData} (D : Mt K C "check_new_product" "Splitter.check_new_product" (inClass (top 38) 2) ["self", "thickness"] f fd) (S : Sc K mg C) (Er : Er K mg RC) : FnOk P w K mg base (L2.CX P w) 2 f fd ["self", "thickness"] (spCN K RC C) := by
  obtain ⟨C2, fI, T⟩ := Er.exists_
  refine D.F.okX scCN (fun vs H Q E h => ?_) (fun cdv A outer s H vs Q E hr h => ⟨_,
    pss_one (ps_if (pt_cmp (pc_din (hu_of hr) (pv 1) (pe_fld (pv 0) rfl))) (pss_one (ps_err (W := fun cls d _ H => E cls d H) rfl T hr (takes_of rfl rfl rfl rfl))) pss_nil), ?_⟩)
  · obtain ⟨a, dx, d, s, t, rfl, _⟩ := h
    rfl
  · obtain ⟨a, dx, d, s, t, rfl, hs, kE, kQ⟩ := h
    refine ⟨_, rfl, _, rfl, a, C, dx, _, _, rfl, hs.ins, S.cl, S.nP, spF_prices s d, d, _, rfl, dget_of hs.dict t, _, rfl, ?_⟩
    rw [valV_some]
    cases hp : Kp397.isProduct s t with
    | true => exact ifT rfl (Ref.go T (kE hp) (Same.refl _))
    | false => exact ifF rfl (kQ hp)

/-! ### __init__ -/
def spInit (K : PySem.W.Frag) (RC C : Addr) : Sp := fun vs H Q E => ∃ (a dx : Addr) (k n : Nat), vs = [.ref a, .int (k : Int), .int (n : Int)] ∧ H a = some (.ins C dx []) ∧ (Kp397.validMachine k n = false → Ref K RC H E (-22)) ∧
  (Kp397.validMachine k n = true → ∀ (H' : Hp) (d : Addr), SpAt C H' a dx d ⟨[], k, n⟩ → H d = none → (∀ b o, H b = some o → b ≠ a → H' b = some o) → Q .non H')
theorem scInit : FnScope ["self", "cut_loss", "max_cuts"] ["self", "cut_loss", "max_cuts"] (defScope (inClass (top 38) 0)) := ⟨rfl, rfl, rfl, by decide +kernel, rfl, by decide +kernel, by decide +kernel⟩
theorem okInit {f fM : Addr} {fd dM : FuncData} (D : Fun K "__init__" "Splitter.__init__" (inClass (top 38) 0) f fd) (M : Df K mg "check_machine" (top 20) ["cut_loss", "max_cuts"] fM dM) (GM : FnOk P w K mg base (L2.CX P w) 2 fM dM ["cut_loss", "max_cuts"] (spMachine K RC)) (S : Sc K mg C) :
    FnOk P w K mg base (L2.CX P w) 3 f fd ["self", "cut_loss", "max_cuts"] (spInit K RC C) := by
  refine D.okX scInit (fun vs H Q E h => ?_) (fun cdv A outer s H vs Q E hr h => ⟨_,
    pss_cons (ps_expr (pe_call GM hr rfl M.g M.k M.b .nil (passes_call (takes_of rfl rfl rfl rfl) (W := fun cls d _ H => E cls d H) (fun _ _ _ _ z => z)) (pa_cons (pv 1) (pa_cons (pv 2) pa_nil))))
    (pss_cons (ps_fld (pv 0) (pv 1) rfl) (pss_cons (ps_fld (pv 0) (pv 2) rfl) (pss_one (ps_fld (pv 0) pe_dnewK rfl)))), ?_⟩)
  · obtain ⟨a, dx, k, n, rfl, _⟩ := h
    rfl
  · obtain ⟨a, dx, k, n, rfl, ha, kE, kQ⟩ := h
    refine ⟨_, rfl, _, rfl, k, n, rfl, kE, fun hv => ?_⟩
    refine ⟨_, rfl, _, rfl, a, C, dx, [], rfl, ha, S.cl, S.nL, (by show 0 < 1000; decide), ?_⟩
    refine ⟨_, rfl, _, rfl, a, C, dx, _, rfl, upd_same, S.cl, S.nM, (by show 1 < 1000; decide), ?_⟩
    intro d hd
    have hda : d ≠ a := fun z => by
      rw [z, upd_same] at hd
      cases hd
    have hd0 : H d = none := by
      rw [upd_ne hda, upd_ne hda] at hd
      exact hd
    refine ⟨_, rfl, a, C, dx, _, rfl, by rw [upd_ne hda.symm, upd_same], S.cl, S.nP, (by show 2 < 1000; decide), ?_⟩
    refine kQ hv _ d ⟨upd_same, ?_⟩ hd0 (fun b o e n => ?_)
    · show upd _ a _ d = some (.dK [])
      rw [upd_ne hda, upd_same]
    · rw [upd_ne n, upd_ne (ne_of_none e hd0), upd_ne n, upd_ne n]
      exact e

/-! ### add_product -/
theorem single_inj {a b : Int} (h : Kp397.single a = Kp397.single b) : a = b := by
  unfold Kp397.single at h
  exact congrArg Kp397.Ans.num h
def spAdd (K : PySem.W.Frag) (RC C : Addr) : Sp := fun vs H Q E => ∃ (a dx d : Addr) (s : Splitter) (x v : Nat), vs = [.ref a, .int (x : Int), .int (v : Int)] ∧ SpAt C H a dx d s ∧ Good 6 s ∧
  (∀ z, Kp397.step (some s) (.addProduct x v) = (some s, Kp397.single z) → Ref K RC H E z) ∧
  (∀ s' z, Kp397.step (some s) (.addProduct x v) = (some s', Kp397.single z) → ∀ H', SpAt C H' a dx d s' → Good 6 s' → Only H H' d → Q (.int z) H')
theorem scAdd : FnScope ["self", "thickness", "price"] ["self", "thickness", "price"] (defScope (inClass (top 38) 3)) := ⟨rfl, rfl, rfl, by decide +kernel, rfl, by decide +kernel, by decide +kernel⟩
theorem okAdd {f fT fP fN : Addr} {fd dT dP dN : FuncData} (D : Mt K C "add_product" "Splitter.add_product" (inClass (top 38) 3) ["self", "thickness", "price"] f fd) (T : Df K mg "check_thickness" (top 21) ["thickness"] fT dT) (GT : FnOk P w K mg base (L2.CX P w) 2 fT dT ["thickness"] (spThick K RC))
    (Pr : Df K mg "check_price" (top 22) ["price"] fP dP) (GP : FnOk P w K mg base (L2.CX P w) 2 fP dP ["price"] (spPrice K RC)) (N : Mt K C "check_new_product" "Splitter.check_new_product" (inClass (top 38) 2) ["self", "thickness"] fN dN) (GN : FnOk P w K mg base (L2.CX P w) 2 fN dN ["self", "thickness"] (spCN K RC C))
    (S : Sc K mg C) (B : Blt mg) (L : Lim mg) (Er : Er K mg RC) : FnOk P w K mg base (L2.CX P w) 3 f fd ["self", "thickness", "price"] (spAdd K RC C) := by
  obtain ⟨C2, fI, T2⟩ := Er.many
  obtain ⟨t1, h1⟩ := L.prods
  refine D.F.okX scAdd (fun vs H Q E h => ?_) (fun cdv A outer s H vs Q E hr h => ⟨_,
    pss_cons (ps_expr (pe_call GT hr rfl T.g T.k T.b .nil (passes_call (takes_of rfl rfl rfl rfl) (W := fun cls d _ H => E cls d H) (fun _ _ _ _ z => z)) (pa_cons (pv 1) pa_nil)))
    (pss_cons (ps_expr (pe_call GP hr rfl Pr.g Pr.k Pr.b .nil (passes_call (takes_of rfl rfl rfl rfl) (W := fun cls d _ H => E cls d H) (fun _ _ _ _ z => z)) (pa_cons (pv 2) pa_nil)))
    (pss_cons (ps_expr (pe_meth (pv 0) S.cl N.m GN hr N.b .nil (passes_call (takes_of rfl rfl rfl rfl) (W := fun cls d _ H => E cls d H) (fun _ _ _ _ z => z)) (pa_cons (pv 1) pa_nil)))
    (pss_cons (ps_if (pt_cmpR op_ge (pe_callB call_lenD (by rfl) B.len PySem.boot_len (pa_cons (pe_fld (pv 0) rfl) pa_nil)) (pe_glob (v := .int 6) rfl h1 ⟨_, rfl⟩) (nomark _)) (pss_one (ps_err (W := fun cls d _ H => E cls d H) rfl T2 hr (takes_of rfl rfl rfl rfl))) pss_nil)
    (pss_cons (ps_dput (hu_of hr) (pe_fld (pv 0) rfl) (pv 1) (pv 2) rfl)
    (pss_one (ps_ret (pe_callB call_lenD (by rfl) B.len PySem.boot_len (pa_cons (pe_fld (pv 0) rfl) pa_nil)))))))), ?_⟩)
  · obtain ⟨a, dx, d, s, x, v, rfl, _⟩ := h
    rfl
  · obtain ⟨a, dx, d, s, x, v, rfl, hs, g, kE, kQ⟩ := h
    have st : Kp397.step (some s) (.addProduct x v) = if Kp397.validProduct x v = false then (some s, Kp397.single (-22)) else if Kp397.isProduct s x then (some s, Kp397.single (-17)) else if 6 ≤ s.products.length then (some s, Kp397.single (-28)) else (some { s with products := s.products ++ [⟨x, v⟩] }, Kp397.single (s.products.length + 1 : Nat)) := rfl
    refine ⟨_, rfl, x, rfl, fun hx => kE _ ?_, fun hx => ?_⟩
    · rw [st, valid_split, hx]
      rfl
    refine ⟨_, rfl, v, rfl, fun hv => kE _ ?_, fun hv => ?_⟩
    · rw [st, valid_split, hx, hv]
      rfl
    have hval : Kp397.validProduct x v = true := by
      rw [valid_split, hx, hv]
      rfl
    refine ⟨_, rfl, a, dx, _, rfl, hs.ins, spF_no s d (by decide +kernel), _, rfl, a, dx, d, s, x, rfl, hs, fun hp => kE _ ?_, fun hp => ?_⟩
    · rw [st, hval, if_neg (by decide), if_pos hp]
    refine ⟨_, rfl, a, C, dx, _, _, rfl, hs.ins, S.cl, S.nP, spF_prices s d, d, kvs s, rfl, hs.dict, _, _, rfl, rfl, _, rfl, ?_⟩
    rw [kvs_len]
    by_cases h6 : 6 ≤ s.products.length
    · refine ifT (decide_eq_true (by omega)) ?_
      refine Ref.go T2 (kE _ ?_) (Same.refl _)
      rw [st, hval, if_neg (by decide), hp, if_neg Bool.false_ne_true, if_pos h6]
    · refine ifF (decide_eq_false (by omega)) ?_
      have hda := hs.ne
      refine ⟨_, rfl, _, rfl, a, C, dx, _, _, rfl, hs.ins, S.cl, S.nP, spF_prices s d, _, rfl, d, _, rfl, DPut.k (k := Sum.inl (x : Int)) hs.dict (small1000 (by rw [kvs_len]; omega)), ?_⟩
      rw [put_new hp]
      have hs' : SpAt C (upd H d (.dK (kvs { s with products := s.products ++ [⟨x, v⟩] }))) a dx d { s with products := s.products ++ [⟨x, v⟩] } := ⟨by rw [upd_ne hda]; exact hs.ins, upd_same⟩
      refine ⟨_, rfl, a, C, dx, _, _, rfl, hs'.ins, S.cl, S.nP, spF_prices _ d, d, _, rfl, hs'.dict, ?_⟩
      rw [kvs_len]
      have hx' : 3 ≤ x ∧ x ≤ 60 := by
        unfold okT at hx
        rw [Bool.and_eq_true_iff] at hx
        exact ⟨of_decide_eq_true hx.1, of_decide_eq_true hx.2⟩
      have hv' : v ≤ 99 := by
        unfold Kp397.validPrice at hv
        rw [Bool.and_eq_true_iff] at hv
        exact of_decide_eq_true hv.2
      have g7 := good_add g hx' hv' hp
      refine kQ { s with products := s.products ++ [⟨x, v⟩] } _ ?_ _ hs' ⟨g7.nd, g7.th, g7.pr, ?_, g7.cut, g7.mx⟩ (fun b o e n => by rw [upd_ne n]; exact e)
      · rw [st, hval, if_neg (by decide), hp, if_neg Bool.false_ne_true, if_neg h6]
        rw [List.length_append]
        rfl
      · show (s.products ++ [(⟨x, v⟩ : Product)]).length ≤ 6
        rw [List.length_append]
        simp
        omega
end
end Hl

set_option Elab.async false
set_option linter.all false
set_option maxRecDepth 100000
set_option maxHeartbeats 2000000
/-! # Hides and layers, part 11: words that the layer lacks: sorted(d, reverse=True) of a dict of whole numbers. -/
namespace Hl
open PySem PySem.Spec PyProof.Rows L2
section
variable {X : Cx}
/-- sorted(d, reverse=b), d's keys whole numbers, fewer than 64 -/
def rSortD (b : Bool) : List V → List V → Hp → VK → Prop := fun vs zs H Q => ∃ (a : Addr) (kvs : List (Key × V)) (ks : List Int), vs = [V.ref a] ∧ zs = [.bl b] ∧ Rd H a (.dK kvs) ∧ kvs.map (·.1) = ks.map Sum.inl ∧ ks.length < 64 ∧
  ∀ (ns' : List Int) (p : Addr), ns'.Perm ks → OrdB b ns' → H p = none → Q (.ref p) (upd H p (.lst (ns'.map V.int)))
theorem cr_sortD {b : Bool} (hcalm : X.calm = true) : CallRK X (.builtin "sorted") [Str.ofString "reverse"] (rSortD b) := by
  intro pins s σ H xs zs us ws Q I r rz h
  obtain ⟨a, kvs, ks, rfl, rfl, hd, hks, h64, q⟩ := h
  obtain rfl := Vals.ref1 r
  obtain ⟨w1, rfl, e1⟩ := vals1 rz
  obtain rfl : w1 = Value.bool b := e1
  obtain ⟨z, lo, vs, rel, dd⟩ := dk_rd I.hok hd
  obtain ⟨ep, hat⟩ := dd.dictAt
  have keysE : vs.map (·.1) = ks.map Sum.inl := rel.keys.symm.trans hks
  have lenE : vs.length = ks.length := by
    have e := congrArg List.length keysE
    rw [List.length_map, List.length_map] at e
    exact e
  have fits : vs.length ≤ sizeLine := by
    rw [lenE, sizeLine_eq]
    omega
  show wpAny _ _ (call (.builtin "sorted") [.ref a] [(Str.ofString "reverse", .bool b)]) _ _ _
  refine call_function_entry_kw kind_sorted plain_sorted entry_sorted (PyProof.Rows.args_sorted_rev _ _) ?_
  unfold Builtin.«sorted»
  refine wpAny_bind (m := checkCount "sorted" 1 1 _) (wpAny_pure ?_)
  refine wpAny_bind (PySem.W.kdu_collect (A := X.A.in1) (PySem.W.kdl_dict (knd := mixKind X.prog X.w) (kvs := vs) (ep := ep) lo) (I.ok.hd hcalm) hat fits fun h' tk acc hk hacc => ?_)
  have accLen : acc.toList.length = ks.length := by rw [Array.length_toList, hacc.1, lenE]
  have accI : IntsAre acc.toList ks := ints_each accLen fun j v e => by
    obtain ⟨k, x, e1, e2⟩ := hacc.2 j v (by rw [← Array.getElem?_toList]; exact e)
    have e3 : (vs.map (·.1))[j]? = some k := by
      rw [List.getElem?_map, e1]
      rfl
    rw [keysE, List.getElem?_map] at e3
    cases e4 : ks[j]? with
    | none =>
      rw [e4] at e3
      cases e3
    | some y =>
      rw [e4] at e3
      have e5 : Sum.inl y = k := Option.some.inj e3
      subst e5
      rcases keyIs_shape (show keyIs (Sum.inl y) v = true from e2) with ⟨i, t, ek, ev⟩ | ⟨z, t, ek, ev⟩
      · cases ek
        exact ⟨y, t, rfl, ev⟩
      · cases ek
  have I1 : Inv X pins σ H { s with heap := h', toks := tk } := I.kept hk
  refine wpAny_bind (wpAny_newList ?_ (by rw [accLen, sizeLine_eq]; omega))
  have newL : (h'.push (seqObj "list" acc.toList.toArray 0)).get? h'.objs.size = some (seqObj "list" acc.toList.toArray 0) := Heap.get?_push_size _ rfl
  show wpAny _ _ _ _ _ { s with heap := h'.push (seqObj "list" acc.toList.toArray 0), toks := tk }
  refine wpAny_bind (wpAny_holding (wpAny_call_entry_kw PyProof.Rows.slot_list_sort ⟨_, newL, rfl⟩ PyProof.Rows.entry_list_sort ?_ (PyProof.Rows.args_list_sort_rev _ _)))
  refine SrtR.list_sort_ordR (s := { s with heap := h'.push (seqObj "list" acc.toList.toArray 0), toks := tk }) SrtO.swo_int newL (by rw [accLen, sizeLine_eq]; omega) (fun h2 => SrtO.ints_sortable accI h2) fun out g1 g2 => ⟨_, rfl, ?_⟩
  obtain ⟨ns', k1, k2, k3⟩ := SrtR.ints_outR accI g1 g2
  obtain ⟨e', at'⟩ := PyProof.Rows.sortedHeap_at (vs := acc.toList) (out := if b = true then out.toArray.reverse else out.toArray) newL
  have short : (ns'.map V.int).length ≤ sizeLine := by
    rw [List.length_map, k2.length_eq]
    exact Nat.le_trans (Nat.le_of_lt h64) (by decide)
  have e0 : ((if b = true then out.toArray.reverse else out.toArray).toList).toArray = (if b = true then out.toArray.reverse else out.toArray) := by rw [Array.toArray_toList]
  refine wpAny_pure ⟨_, rfl, .ref h'.objs.size, upd H h'.objs.size (.lst (ns'.map V.int)), I1.laid (t' := tk) (fun b' u e => ?_) (Nat.le_refl _) ⟨short, _, e', vals_of_ints k1, by rw [e0]; exact at'⟩, rfl, q ns' _ k2 k3 (I1.hok.fresh (Nat.le_refl _))⟩
  have hb : b' < h'.objs.size := Heap.lt_size e
  rw [PyProof.Rows.sortedHeap_old (Nat.ne_of_lt hb) (by rw [size_push']; exact Nat.lt_succ_of_lt hb)]
  exact Heap.get?_push_of_some _ e
end
end Hl

set_option Elab.async false
set_option linter.all false
set_option maxRecDepth 100000
set_option maxHeartbeats 2000000
/-! # Hides and layers, part 12: methods. -/
namespace Hl
open PySem PySem.Spec PyProof.Rows L2
open Kp397 (Splitter Product)
/-- the tuples at these places are these pairs -/
inductive Prs (H : Hp) : List Addr → List (Nat × Nat) → Prop
  | nil : Prs H [] []
  | cons {a : Addr} {p : Nat × Nat} {as : List Addr} {ps : List (Nat × Nat)} : H a = some (.tup [.int (p.1 : Int), .int (p.2 : Int)]) → Prs H as ps → Prs H (a :: as) (p :: ps)
theorem Prs.of {H H' : Hp} {as : List Addr} {ps : List (Nat × Nat)} (h : Prs H as ps) (e : ∀ a ∈ as, ∀ o, H a = some o → H' a = some o) : Prs H' as ps := by
  induction h with
  | nil => exact .nil
  | @cons a0 p0 as0 ps0 h0 _ ih => exact .cons (e a0 (List.mem_cons_self ..) _ h0) (ih fun a ha => e a (List.mem_cons_of_mem _ ha))
theorem Prs.append {H : Hp} {as bs : List Addr} {ps qs : List (Nat × Nat)} (h : Prs H as ps) (k : Prs H bs qs) : Prs H (as ++ bs) (ps ++ qs) := by
  induction h with
  | nil => exact k
  | cons ha _ ih => exact .cons ha ih
theorem Prs.len {H : Hp} {as : List Addr} {ps : List (Nat × Nat)} (h : Prs H as ps) : as.length = ps.length := by
  induction h with
  | nil => rfl
  | cons _ _ ih => rw [List.length_cons, List.length_cons, ih]
theorem Prs.at {H : Hp} {as : List Addr} {ps : List (Nat × Nat)} (h : Prs H as ps) : ∀ {i : Nat} {a : Addr}, as[i]? = some a → ∃ p : Nat × Nat, ps[i]? = some p ∧ H a = some (.tup [.int (p.1 : Int), .int (p.2 : Int)]) := by
  induction h with
  | nil =>
    intro i a e
    simp at e
  | cons ha _ ih =>
    intro i a e
    cases i with
    | zero =>
      simp at e
      subst e
      exact ⟨_, rfl, ha⟩
    | succ i => exact ih (by simpa using e)
section
variable {P : Program} {w : World} {K : PySem.W.Frag} {mg : Str → Option Value} {base : Heap} {RC C : Addr}

/-! ### remove_product -/
def spDel (K : PySem.W.Frag) (RC C : Addr) : Sp := fun vs H Q E => ∃ (a dx d : Addr) (s : Splitter) (x : Nat), vs = [.ref a, .int (x : Int)] ∧ SpAt C H a dx d s ∧ Good 6 s ∧
  (∀ z, Kp397.step (some s) (.removeProduct x) = (some s, Kp397.single z) → Ref K RC H E z) ∧
  (∀ s' z, Kp397.step (some s) (.removeProduct x) = (some s', Kp397.single z) → ∀ H', SpAt C H' a dx d s' → Good 6 s' → Only H H' d → Q (.int z) H')
theorem scDel : FnScope ["self", "thickness"] ["self", "thickness"] (defScope (inClass (top 38) 4)) := ⟨rfl, rfl, rfl, by decide +kernel, rfl, by decide +kernel, by decide +kernel⟩
theorem okDel {f fP : Addr} {fd dP : FuncData} (D : Mt K C "remove_product" "Splitter.remove_product" (inClass (top 38) 4) ["self", "thickness"] f fd) (Pr : Mt K C "check_product" "Splitter.check_product" (inClass (top 38) 1) ["self", "thickness"] fP dP) (GP : FnOk P w K mg base (L2.CX P w) 2 fP dP ["self", "thickness"] (spCP K RC C))
    (S : Sc K mg C) (B : Blt mg) : FnOk P w K mg base (L2.CX P w) 3 f fd ["self", "thickness"] (spDel K RC C) := by
  refine D.F.okX scDel (fun vs H Q E h => ?_) (fun cdv A outer s H vs Q E hr h => ⟨_,
    pss_cons (ps_expr (pe_meth (pv 0) S.cl Pr.m GP hr Pr.b .nil (passes_call (takes_of rfl rfl rfl rfl) (W := fun cls d _ H => E cls d H) (fun _ _ _ _ z => z)) (pa_cons (pv 1) pa_nil)))
    (pss_cons (ps_expr (pe_dpop1 (pe_fld (pv 0) rfl) (pv 1) ⟨rfl, rfl, rfl, rfl⟩))
    (pss_one (ps_ret (pe_callB call_lenD (by rfl) B.len PySem.boot_len (pa_cons (pe_fld (pv 0) rfl) pa_nil))))), ?_⟩)
  · obtain ⟨a, dx, d, s, x, rfl, _⟩ := h
    rfl
  · obtain ⟨a, dx, d, s, x, rfl, hs, g, kE, kQ⟩ := h
    have st : Kp397.step (some s) (.removeProduct x) = if Kp397.isProduct s x then (some { s with products := s.products.filter fun p => p.thickness != x }, Kp397.single (s.products.length - 1 : Nat)) else (some s, Kp397.single (-2)) := rfl
    refine ⟨_, rfl, a, dx, _, rfl, hs.ins, spF_no s d (by decide +kernel), _, rfl, a, dx, d, s, x, rfl, hs, fun hp => kE _ ?_, fun hp => ?_⟩
    · rw [st, hp]
      rfl
    have hda := hs.ne
    refine ⟨_, rfl, a, C, dx, _, _, rfl, hs.ins, S.cl, S.nP, spF_prices s d, d, rfl, .inl ⟨_, .inl hs.dict⟩, _, rfl, kvs s, Sum.inl (x : Int), _, hs.dict, rfl, valV_in' hp, ?_⟩
    rw [drop_is]
    have hs' : SpAt C (upd H d (.dK (kvs { s with products := s.products.filter fun p => p.thickness != x }))) a dx d { s with products := s.products.filter fun p => p.thickness != x } := ⟨by rw [upd_ne hda]; exact hs.ins, upd_same⟩
    refine ⟨_, rfl, a, C, dx, _, _, rfl, hs'.ins, S.cl, S.nP, spF_prices _ d, d, _, rfl, hs'.dict, ?_⟩
    rw [kvs_len]
    refine kQ { s with products := s.products.filter fun p => p.thickness != x } _ ?_ _ hs' (good_del g x) (fun b o e n => by rw [upd_ne n]; exact e)
    rw [st, if_pos hp]
    show _ = (_, Kp397.single (((s.products.filter fun p => p.thickness != x).length : Nat) : Int))
    rw [del_len g hp]

/-! ### set_price -/
def spSet (K : PySem.W.Frag) (RC C : Addr) : Sp := fun vs H Q E => ∃ (a dx d : Addr) (s : Splitter) (x v : Nat), vs = [.ref a, .int (x : Int), .int (v : Int)] ∧ SpAt C H a dx d s ∧ Good 6 s ∧
  (∀ z, Kp397.step (some s) (.setPrice x v) = (some s, Kp397.single z) → Ref K RC H E z) ∧
  (∀ s' z, Kp397.step (some s) (.setPrice x v) = (some s', Kp397.single z) → ∀ H', SpAt C H' a dx d s' → Good 6 s' → Only H H' d → Q (.int z) H')
abbrev nSet : List Str := ["self", "thickness", "price", "old_price"]
theorem scSet : FnScope nSet ["self", "thickness", "price"] (defScope (inClass (top 38) 5)) := ⟨rfl, rfl, rfl, by decide +kernel, rfl, by decide +kernel, by decide +kernel⟩
theorem okSet {f fP fV : Addr} {fd dP dV : FuncData} (D : Mt K C "set_price" "Splitter.set_price" (inClass (top 38) 5) ["self", "thickness", "price"] f fd) (Pr : Mt K C "check_product" "Splitter.check_product" (inClass (top 38) 1) ["self", "thickness"] fP dP) (GP : FnOk P w K mg base (L2.CX P w) 2 fP dP ["self", "thickness"] (spCP K RC C))
    (Vl : Df K mg "check_price" (top 22) ["price"] fV dV) (GV : FnOk P w K mg base (L2.CX P w) 2 fV dV ["price"] (spPrice K RC)) (S : Sc K mg C) : FnOk P w K mg base (L2.CX P w) 3 f fd ["self", "thickness", "price"] (spSet K RC C) := by
  refine D.F.okX scSet (fun vs H Q E h => ?_) (fun cdv A outer s H vs Q E hr h => ⟨_,
    pss_cons (ps_expr (pe_meth (pv 0) S.cl Pr.m GP hr Pr.b .nil (passes_call (takes_of rfl rfl rfl rfl) (W := fun cls d _ H => E cls d H) (fun _ _ _ _ z => z)) (pa_cons (pv 1) pa_nil)))
    (pss_cons (ps_expr (pe_call GV hr rfl Vl.g Vl.k Vl.b .nil (passes_call (takes_of rfl rfl rfl rfl) (W := fun cls d _ H => E cls d H) (fun _ _ _ _ z => z)) (pa_cons (pv 2) pa_nil)))
    (pss_cons (ps_set (i := 3) scSet.nd rfl (.inl rfl) (pe_dget (hu_of hr) (pe_fld (pv 0) rfl) (pv 1) (fun _ _ => rfl)))
    (pss_cons (ps_dput (hu_of hr) (pe_fld (pv 0) rfl) (pv 1) (pv 2) rfl)
    (pss_one (ps_ret (pv 3)))))), ?_⟩)
  · obtain ⟨a, dx, d, s, x, v, rfl, _⟩ := h
    rfl
  · obtain ⟨a, dx, d, s, x, v, rfl, hs, g, kE, kQ⟩ := h
    have st : Kp397.step (some s) (.setPrice x v) = if Kp397.isProduct s x = false then (some s, Kp397.single (-2)) else if Kp397.validPrice v then (some { s with products := s.products.map fun p => if p.thickness = x then { p with price := v } else p }, Kp397.single (Kp397.priceOf s x : Nat)) else (some s, Kp397.single (-22)) := rfl
    refine ⟨_, rfl, a, dx, _, rfl, hs.ins, spF_no s d (by decide +kernel), _, rfl, a, dx, d, s, x, rfl, hs, fun hp => kE _ ?_, fun hp => ?_⟩
    · rw [st, if_pos hp]
    refine ⟨_, rfl, v, rfl, fun hv => kE _ ?_, fun hv => ?_⟩
    · rw [st, hp, if_neg (by decide), hv]
      rfl
    have hda := hs.ne
    refine ⟨_, rfl, a, C, dx, _, _, rfl, hs.ins, S.cl, S.nP, spF_prices s d, _, rfl, d, _, rfl, dget_in hs.dict hp, ?_⟩
    refine ⟨_, rfl, _, rfl, a, C, dx, _, _, rfl, hs.ins, S.cl, S.nP, spF_prices s d, _, rfl, d, _, rfl, DPut.k (k := Sum.inl (x : Int)) hs.dict (small1000 (by rw [kvs_len]; have := g.len; omega)), ?_⟩
    rw [put_old hp]
    have hs' : SpAt C (upd H d (.dK (kvs { s with products := s.products.map fun p => if p.thickness = x then { p with price := v } else p }))) a dx d { s with products := s.products.map fun p => if p.thickness = x then { p with price := v } else p } := ⟨by rw [upd_ne hda]; exact hs.ins, upd_same⟩
    refine ⟨_, rfl, ?_⟩
    have hv' : v ≤ 99 := by
      have hv := hv
      unfold Kp397.validPrice at hv
      rw [Bool.and_eq_true_iff] at hv
      exact of_decide_eq_true hv.2
    refine kQ _ _ ?_ _ hs' (good_set g x hv') (fun b o e n => by rw [upd_ne n]; exact e)
    rw [st, hp, if_neg (by decide), if_pos hv]

/-! ### get_products -/
def spGet (K : PySem.W.Frag) (C : Addr) : Sp := fun vs H Q _ => ∃ (a dx d : Addr) (s : Splitter), vs = [.ref a] ∧ SpAt C H a dx d s ∧ Good 6 s ∧
  ∀ (H' : Hp) (r : Addr) (ts : List Addr), Same H H' → H' r = some (.lst (ts.map V.ref)) → H r = none → Prs H' ts ((Kp397.thicknesses s).map fun x => (x, Kp397.priceOf s x)) → Q (.ref r) H'
theorem scGet : FnScope ["self", "thickness"] ["self"] (defScope (inClass (top 38) 6)) := ⟨rfl, rfl, rfl, by decide +kernel, rfl, by decide +kernel, by decide +kernel⟩
theorem thick_len {n : Nat} {s : Splitter} (g : Good n s) : (Kp397.thicknesses s).length ≤ 61 := by
  unfold Kp397.thicknesses
  refine Nat.le_trans (List.length_filter_le ..) ?_
  rw [List.length_reverse, List.length_range]
  exact Nat.le_refl 61
theorem okGet {f : Addr} {fd : FuncData} (D : Mt K C "get_products" "Splitter.get_products" (inClass (top 38) 6) ["self"] f fd) (S : Sc K mg C) (B : Blt mg) : FnOk P w K mg base CX0 1 f fd ["self"] (spGet K C) := by
  refine D.F.ok scGet (fun vs H Q E h => ?_) (fun cdv A outer s H vs Q E hr h => ⟨_,
    pss_one (ps_ret (pe_lc (own := [("thickness", 1)]) (g := gName 1) (tt := tYes) (te := tTup (tCons (tVar 1) (tCons (tDGet (tFld K (tVar 0) "prices") (tVar 1)) tNil))) rfl scGet.nd
      (pi_list (pe_callBK (cr_sortD (b := true) rfl) (by rfl) B.sorted (by decide +kernel) (pa_cons (pe_fld (pv 0) rfl) pa_nil) (pk_cons pe_bl pk_nil)))
      (blkOk_by (N := ["self", "thickness"]) (sc := defScope (inClass (top 38) 6)) (by decide +kernel)) (fun _ _ _ _ _ => pg_name (i := 1) scGet.nd rfl (Or.inl rfl)) (fun _ _ _ _ _ => pts_nil)
      (fun _ _ _ _ _ => pe_tup (pa_cons (pv 1) (pa_cons (pe_dget (hu_of hr) (pe_fld (pv 0) rfl) (pv 1) (fun _ _ => rfl)) pa_nil))))), ?_⟩)
  · obtain ⟨a, dx, d, s, rfl, _⟩ := h
    rfl
  · obtain ⟨a, dx, d, s, rfl, hs, g, q⟩ := h
    have tl := thick_len g
    refine ⟨_, rfl, a, C, dx, _, _, rfl, hs.ins, S.cl, S.nP, spF_prices s d, d, kvs s, iN (keys s), rfl, rfl, .inl hs.dict, kvs_keys s, ?_, fun ns' l hp ho hl => ?_⟩
    · rw [List.length_map, keys_len]
      have := g.len
      omega
    have e : ns' = iN (Kp397.thicknesses s) := desc_cast g hp ho
    subst e
    have hl1 : (upd H l (.lst ((iN (Kp397.thicknesses s)).map V.int))) l = some (.lst (vN (Kp397.thicknesses s))) := upd_same
    have s1 : Same H (upd H l (.lst ((iN (Kp397.thicknesses s)).map V.int))) := same_new hl
    generalize upd H l (.lst ((iN (Kp397.thicknesses s)).map V.int)) = H1 at hl1 s1
    have hs1 := hs.same s1
    refine ⟨l, rfl, ⟨_, SqL.of hl1⟩, fun D hD => lc_list (K := K) (a := l) (xs := vN (Kp397.thicknesses s)) (fun i H' => ∃ ts : List Addr, Same H1 H' ∧ H' D = some (.lst (ts.map V.ref)) ∧ D ∉ ts ∧ ts.length ≤ i ∧ Prs H' ts (((Kp397.thicknesses s).take i).map fun x => (x, Kp397.priceOf s x)))
      ⟨[], same_new hD, upd_same, by simp, Nat.le_refl _, .nil⟩ (fun i H' _ z => ?_) (fun i v H' hv z => ?_) (fun H' z => ?_)⟩
    · obtain ⟨ts, z1, _⟩ := z
      exact z1.seq (SqL.of hl1)
    · obtain ⟨t, ht, rfl⟩ := vN_get hv
      obtain ⟨ts, z1, z2, z3, z4, z5⟩ := z
      have hs2 := hs1.same z1
      have hk : t ∈ keys s := (thick_mem g t).mp (List.mem_of_getElem? ht)
      have ilt := (List.getElem?_eq_some_iff.mp ht).1
      refine ⟨rfl, ?_⟩
      refine ⟨_, rfl, _, rfl, a, C, dx, _, _, rfl, hs2.ins, S.cl, S.nP, spF_prices s d, ?_⟩
      refine ⟨_, rfl, d, _, rfl, dget_in hs2.dict (isP hk), (by show 2 ≤ sizeLine; decide), fun u hu => ?_⟩
      have nDu : D ≠ u := ne_of_none z2 hu
      have hu' : H1 u = none := z1.free hu
      refine ⟨ts.map V.ref, by rw [upd_ne nDu]; exact z2, by rw [List.length_map]; exact line_of' (by omega), ts ++ [u], same_upd (same_upd z1 hu') hD, ?_, ?_, ?_, ?_⟩
      · rw [upd_same, List.map_append]
        rfl
      · intro z
        rcases List.mem_append.mp z with z | z
        · exact z3 z
        · exact nDu (List.mem_singleton.mp z)
      · rw [List.length_append]
        simp
        exact z4
      · rw [take_more ht, List.map_append]
        refine Prs.append (z5.of fun x hx o e => ?_) (.cons ?_ .nil)
        · have n1 : x ≠ D := fun z => z3 (by rw [← z]; exact hx)
          rw [upd_ne n1, upd_ne (ne_of_none e hu)]
          exact e
        · rw [upd_ne nDu.symm, upd_same]
    · obtain ⟨ts, z1, z2, z3, z4, z5⟩ := z
      rw [vN_len, List.take_length] at z5
      exact q H' D ts (s1.trans z1) z2 (s1.free hD) z5

/-! ### set_machine -/
def spSetM (K : PySem.W.Frag) (RC C : Addr) : Sp := fun vs H Q E => ∃ (a dx d : Addr) (s : Splitter) (k n : Nat), vs = [.ref a, .int (k : Int), .int (n : Int)] ∧ SpAt C H a dx d s ∧ Good 6 s ∧ (Kp397.validMachine k n = false → Ref K RC H E (-22)) ∧
  (Kp397.validMachine k n = true → ∀ (H' : Hp) (t : Addr), SpAt C H' a dx d { s with cutLoss := k, maxCuts := n } → Good 6 { s with cutLoss := k, maxCuts := n } → H' t = some (.tup [.int (s.cutLoss : Int), .int (s.maxCuts : Int)]) → H t = none → Only H H' a → Q (.ref t) H')
abbrev nSetM : List Str := ["self", "cut_loss", "max_cuts", "old_machine"]
theorem scSetM : FnScope nSetM ["self", "cut_loss", "max_cuts"] (defScope (inClass (top 38) 7)) := ⟨rfl, rfl, rfl, by decide +kernel, rfl, by decide +kernel, by decide +kernel⟩
theorem okSetM {f fM : Addr} {fd dM : FuncData} (D : Mt K C "set_machine" "Splitter.set_machine" (inClass (top 38) 7) ["self", "cut_loss", "max_cuts"] f fd) (M : Df K mg "check_machine" (top 20) ["cut_loss", "max_cuts"] fM dM) (GM : FnOk P w K mg base (L2.CX P w) 2 fM dM ["cut_loss", "max_cuts"] (spMachine K RC)) (S : Sc K mg C) :
    FnOk P w K mg base (L2.CX P w) 3 f fd ["self", "cut_loss", "max_cuts"] (spSetM K RC C) := by
  refine D.F.okX scSetM (fun vs H Q E h => ?_) (fun cdv A outer s H vs Q E hr h => ⟨_,
    pss_cons (ps_expr (pe_call GM hr rfl M.g M.k M.b .nil (passes_call (takes_of rfl rfl rfl rfl) (W := fun cls d _ H => E cls d H) (fun _ _ _ _ z => z)) (pa_cons (pv 1) (pa_cons (pv 2) pa_nil))))
    (pss_cons (ps_set (i := 3) scSetM.nd rfl (.inl rfl) (pe_tup (pa_cons (pe_fld (pv 0) rfl) (pa_cons (pe_fld (pv 0) rfl) pa_nil))))
    (pss_cons (ps_fld (pv 0) (pv 1) rfl) (pss_cons (ps_fld (pv 0) (pv 2) rfl) (pss_one (ps_ret (pv 3)))))), ?_⟩)
  · obtain ⟨a, dx, d, s, k, n, rfl, _⟩ := h
    rfl
  · obtain ⟨a, dx, d, s, k, n, rfl, hs, g, kE, kQ⟩ := h
    refine ⟨_, rfl, _, rfl, k, n, rfl, kE, fun hv => ?_⟩
    refine ⟨_, rfl, a, C, dx, _, _, rfl, hs.ins, S.cl, S.nL, spF_loss s d, _, rfl, a, C, dx, _, _, rfl, hs.ins, S.cl, S.nM, spF_cuts s d, (by show 2 ≤ sizeLine; decide), fun t ht => ?_⟩
    have nat : a ≠ t := ne_of_none hs.ins ht
    have hda := hs.ne
    refine ⟨_, rfl, _, rfl, a, C, dx, _, rfl, by rw [upd_ne nat]; exact hs.ins, S.cl, S.nL, (by show 3 < 1000; decide), ?_⟩
    have e1 : putF "cut_loss" (.int (k : Int)) (spF s d) = spF { s with cutLoss := k } d := pth
    rw [e1]
    refine ⟨_, rfl, _, rfl, a, C, dx, _, rfl, upd_same, S.cl, S.nM, (by show 3 < 1000; decide), ?_⟩
    have e2 : putF "max_cuts" (.int (n : Int)) (spF { s with cutLoss := k } d) = spF { s with cutLoss := k, maxCuts := n } d := (ptp (by decide +kernel)).trans (congrArg _ pth)
    rw [e2]
    refine ⟨_, rfl, kQ hv _ t ⟨upd_same, ?_⟩ (good_machine g hv) ?_ ht (fun b o e nb => ?_)⟩
    · show upd _ a _ d = some (.dK (kvs s))
      rw [upd_ne hda.symm, upd_ne hda.symm, upd_ne (ne_of_none hs.dict ht)]
      exact hs.dict
    · rw [upd_ne nat.symm, upd_ne nat.symm, upd_same]
    · rw [upd_ne nb, upd_ne nb, upd_ne (ne_of_none e ht)]
      exact e
end
end Hl

set_option Elab.async false
set_option linter.all false
set_option maxRecDepth 100000
set_option maxHeartbeats 2000000
/-! # Hides and layers, part 13: the methods that ask, but those of the best plan. -/
namespace Hl
open PySem PySem.Spec PyProof.Rows L2
open Kp397 (Splitter Product)
theorem and_t {a b : Bool} (h1 : a = true) (h2 : b = true) : (a && b) = true := by rw [h1, h2]; rfl
theorem and_f1 {a b : Bool} (h1 : a = false) : (a && b) = false := by rw [h1]; rfl
theorem and_f2 {a b : Bool} (h1 : b = false) : (a && b) = false := by rw [h1, Bool.and_false]
/-- the thicknesses, the thinnest first -/
theorem asc_ex (s : Splitter) : ∃ asc : List Nat, asc.Perm (keys s) ∧ asc.Pairwise (· ≤ ·) := by
  refine ⟨(keys s).mergeSort, List.mergeSort_perm .., ?_⟩
  have h := List.pairwise_mergeSort (le := fun a b : Nat => decide (a ≤ b)) (fun a b c => by simp; omega) (fun a b => by simp; omega) (keys s)
  exact h.imp fun q => by simpa using q
theorem plan_len {s : Splitter} (g : Good 7 s) {h : Nat} {p : List Nat} (hm : p ∈ Kp397.plans s h) : p.length ≤ 6 ∧ ∀ t ∈ p, t ∈ keys s := by
  obtain ⟨asc, hp, hr⟩ := asc_ex s
  exact plans_keys g hp hr hm
theorem plans_most {s : Splitter} (g : Good 7 s) (h : Nat) : (Kp397.plans s h).length ≤ 137257 := by
  obtain ⟨asc, hp, hr⟩ := asc_ex s
  exact plans_len g hp hr h
theorem valid_keys {s : Splitter} {l : List Nat} (h : Kp397.validPlan s l = true) : l.length ≤ 6 ∧ ∀ t ∈ l, t ∈ keys s :=
  ⟨(validPlan_iff.mp h).1, fun t ht => isProduct_iff.mp ((validPlan_iff.mp h).2.1 t ht)⟩
section
variable {P : Program} {w : World} {K : PySem.W.Frag} {mg : Str → Option Value} {base : Heap} {RC C : Addr}

/-! ### plan_value -/
def spPV (K : PySem.W.Frag) (RC C : Addr) : Sp := fun vs H Q E => ∃ (a dx d p : Addr) (s : Splitter) (l : List Nat), vs = [.ref a, .ref p] ∧ SpAt C H a dx d s ∧ Good 6 s ∧ SqL K H p (vN l) ∧ l.length ≤ 1000 ∧
  (Kp397.validPlan s l = false → Ref K RC H E (-22)) ∧ (Kp397.validPlan s l = true → ∀ H', Same H H' → Q (.int (Kp397.planValue s l : Nat)) H')
theorem scPV : FnScope ["self", "plan"] ["self", "plan"] (defScope (inClass (top 38) 8)) := ⟨rfl, rfl, rfl, by decide +kernel, rfl, by decide +kernel, by decide +kernel⟩
theorem okPV {f fC fS : Addr} {fd dC dS : FuncData} (D : Mt K C "plan_value" "Splitter.plan_value" (inClass (top 38) 8) ["self", "plan"] f fd) (Ch : Df K mg "check_plan" (top 25) ["layers", "thicknesses"] fC dC) (GC : FnOk P w K mg base (L2.CX P w) 2 fC dC ["layers", "thicknesses"] (spPlan K RC))
    (Su : Df K mg "sum_of_prices" (top 27) ["plan", "prices"] fS dS) (GS : FnOk P w K mg base CX0 1 fS dS ["plan", "prices"] (spSum K)) (S : Sc K mg C) : FnOk P w K mg base (L2.CX P w) 3 f fd ["self", "plan"] (spPV K RC C) := by
  refine D.F.okX scPV (fun vs H Q E h => ?_) (fun cdv A outer s H vs Q E hr h => ⟨_,
    pss_cons (ps_expr (pe_call GC hr rfl Ch.g Ch.k Ch.b .nil (passes_call (takes_of rfl rfl rfl rfl) (W := fun cls d _ H => E cls d H) (fun _ _ _ _ z => z)) (pa_cons (pv 1) (pa_cons (pe_fld (pv 0) rfl) pa_nil))))
    (pss_one (ps_ret (pe_call GS (hr.mono (by decide)) rfl Su.g Su.k Su.b .nil pass0 (pa_cons (pv 1) (pa_cons (pe_fld (pv 0) rfl) pa_nil))))), ?_⟩)
  · obtain ⟨a, dx, d, p, s, l, rfl, _⟩ := h
    rfl
  · obtain ⟨a, dx, d, p, s, l, rfl, hs, g, hS, hl, kE, kQ⟩ := h
    refine ⟨_, rfl, _, rfl, a, C, dx, _, _, rfl, hs.ins, S.cl, S.nP, spF_prices s d, p, d, l, s, rfl, hS, hs.dict, hl, kE, fun hv H1 s1 => ?_⟩
    have hs1 := hs.same s1
    exact ⟨_, rfl, _, rfl, a, C, dx, _, _, rfl, hs1.ins, S.cl, S.nP, spF_prices s d, p, d, l, s, rfl, s1.seq hS, hs1.dict, (valid_keys hv).2, hl, fun H2 s2 => kQ hv H2 (s1.trans s2)⟩

/-! ### fits -/
def spFits (K : PySem.W.Frag) (RC C : Addr) : Sp := fun vs H Q E => ∃ (a dx d p : Addr) (s : Splitter) (h : Nat) (l : List Nat), vs = [.ref a, .int (h : Int), .ref p] ∧ SpAt C H a dx d s ∧ Good 6 s ∧ SqL K H p (vN l) ∧ l.length ≤ 1000 ∧
  ((Kp397.validHide h && Kp397.validPlan s l) = false → Ref K RC H E (-22)) ∧ ((Kp397.validHide h && Kp397.validPlan s l) = true → ∀ H', Same H H' → Q (.bl (Kp397.fits s h l)) H')
theorem scFits : FnScope ["self", "hide", "plan"] ["self", "hide", "plan"] (defScope (inClass (top 38) 9)) := ⟨rfl, rfl, rfl, by decide +kernel, rfl, by decide +kernel, by decide +kernel⟩
theorem okFits {f fH fC fF : Addr} {fd dH dC dF : FuncData} (D : Mt K C "fits" "Splitter.fits" (inClass (top 38) 9) ["self", "hide", "plan"] f fd) (Hi : Df K mg "check_hide" (top 23) ["hide"] fH dH) (GH : FnOk P w K mg base (L2.CX P w) 2 fH dH ["hide"] (spHide K RC))
    (Ch : Df K mg "check_plan" (top 25) ["layers", "thicknesses"] fC dC) (GC : FnOk P w K mg base (L2.CX P w) 2 fC dC ["layers", "thicknesses"] (spPlan K RC))
    (F : Df K mg "plan_fits" (top 30) ["plan", "cut_loss", "max_cuts", "hide"] fF dF) (GF : FnOk P w K mg base CX0 3 fF dF ["plan", "cut_loss", "max_cuts", "hide"] (spFit K)) (S : Sc K mg C) : FnOk P w K mg base (L2.CX P w) 4 f fd ["self", "hide", "plan"] (spFits K RC C) := by
  refine D.F.okX scFits (fun vs H Q E h => ?_) (fun cdv A outer s H vs Q E hr h => ⟨_,
    pss_cons (ps_expr (pe_call GH (hr.mono (by decide)) rfl Hi.g Hi.k Hi.b .nil (passes_call (takes_of rfl rfl rfl rfl) (W := fun cls d _ H => E cls d H) (fun _ _ _ _ z => z)) (pa_cons (pv 1) pa_nil)))
    (pss_cons (ps_expr (pe_call GC (hr.mono (by decide)) rfl Ch.g Ch.k Ch.b .nil (passes_call (takes_of rfl rfl rfl rfl) (W := fun cls d _ H => E cls d H) (fun _ _ _ _ z => z)) (pa_cons (pv 2) (pa_cons (pe_fld (pv 0) rfl) pa_nil))))
    (pss_one (ps_ret (pe_call GF hr rfl F.g F.k F.b .nil pass0 (pa_cons (pv 2) (pa_cons (pe_fld (pv 0) rfl) (pa_cons (pe_fld (pv 0) rfl) (pa_cons (pv 1) pa_nil)))))))), ?_⟩)
  · obtain ⟨a, dx, d, p, s, h, l, rfl, _⟩ := h
    rfl
  · obtain ⟨a, dx, d, p, s, h, l, rfl, hs, g, hS, hl, kE, kQ⟩ := h
    refine ⟨_, rfl, h, rfl, fun hh => kE (and_f1 hh), fun hh => ?_⟩
    refine ⟨_, rfl, _, rfl, a, C, dx, _, _, rfl, hs.ins, S.cl, S.nP, spF_prices s d, p, d, l, s, rfl, hS, hs.dict, hl, fun hv => kE (and_f2 hv), fun hv H1 s1 => ?_⟩
    have hs1 := hs.same s1
    refine ⟨_, rfl, _, rfl, a, C, dx, _, _, rfl, hs1.ins, S.cl, S.nL, spF_loss s d, _, rfl, a, C, dx, _, _, rfl, hs1.ins, S.cl, S.nM, spF_cuts s d, _, rfl, p, l, s.cutLoss, s.maxCuts, h, rfl, s1.seq hS, hl, g.cut, ?_⟩
    have q := kQ (and_t hh hv) H1 s1
    rw [fits_is] at q
    exact q

/-! ### cut_count -/
def spCC (K : PySem.W.Frag) (RC C : Addr) : Sp := fun vs H Q E => ∃ (a dx d p : Addr) (s : Splitter) (h : Nat) (l : List Nat), vs = [.ref a, .int (h : Int), .ref p] ∧ SpAt C H a dx d s ∧ Good 6 s ∧ SqL K H p (vN l) ∧ l.length ≤ 1000 ∧
  ((Kp397.validHide h && Kp397.validPlan s l) = false → Ref K RC H E (-22)) ∧ ((Kp397.validHide h && Kp397.validPlan s l) = true → h < Kp397.usedThickness s l → Ref K RC H E (-33)) ∧
  ((Kp397.validHide h && Kp397.validPlan s l) = true → ¬ h < Kp397.usedThickness s l → ∀ H', Same H H' → Q (.int (Kp397.cutCount s h l : Nat)) H')
theorem scCC : FnScope ["self", "hide", "plan"] ["self", "hide", "plan"] (defScope (inClass (top 38) 10)) := ⟨rfl, rfl, rfl, by decide +kernel, rfl, by decide +kernel, by decide +kernel⟩
theorem okCC {f fH fC fU fN : Addr} {fd dH dC dU dN : FuncData} (D : Mt K C "cut_count" "Splitter.cut_count" (inClass (top 38) 10) ["self", "hide", "plan"] f fd) (Hi : Df K mg "check_hide" (top 23) ["hide"] fH dH) (GH : FnOk P w K mg base (L2.CX P w) 2 fH dH ["hide"] (spHide K RC))
    (Ch : Df K mg "check_plan" (top 25) ["layers", "thicknesses"] fC dC) (GC : FnOk P w K mg base (L2.CX P w) 2 fC dC ["layers", "thicknesses"] (spPlan K RC))
    (U : Df K mg "used_thickness" (top 28) ["plan", "cut_loss"] fU dU) (GU : FnOk P w K mg base CX0 1 fU dU ["plan", "cut_loss"] (spUsed K))
    (N : Df K mg "number_of_cuts" (top 29) ["plan", "cut_loss", "hide"] fN dN) (GN : FnOk P w K mg base CX0 2 fN dN ["plan", "cut_loss", "hide"] (spCuts K)) (S : Sc K mg C) (Er : Er K mg RC) : FnOk P w K mg base (L2.CX P w) 3 f fd ["self", "hide", "plan"] (spCC K RC C) := by
  obtain ⟨C2, fI, T⟩ := Er.thin
  refine D.F.okX scCC (fun vs H Q E h => ?_) (fun cdv A outer s H vs Q E hr h => ⟨_,
    pss_cons (ps_expr (pe_call GH hr rfl Hi.g Hi.k Hi.b .nil (passes_call (takes_of rfl rfl rfl rfl) (W := fun cls d _ H => E cls d H) (fun _ _ _ _ z => z)) (pa_cons (pv 1) pa_nil)))
    (pss_cons (ps_expr (pe_call GC hr rfl Ch.g Ch.k Ch.b .nil (passes_call (takes_of rfl rfl rfl rfl) (W := fun cls d _ H => E cls d H) (fun _ _ _ _ z => z)) (pa_cons (pv 2) (pa_cons (pe_fld (pv 0) rfl) pa_nil))))
    (pss_cons (ps_if (pt_cmpR op_gt (pe_call GU (hr.mono (by decide)) rfl U.g U.k U.b .nil pass0 (pa_cons (pv 2) (pa_cons (pe_fld (pv 0) rfl) pa_nil))) (pv 1) (nomark _)) (pss_one (ps_err (W := fun cls d _ H => E cls d H) rfl T hr (takes_of rfl rfl rfl rfl))) pss_nil)
    (pss_one (ps_ret (pe_call GN hr rfl N.g N.k N.b .nil pass0 (pa_cons (pv 2) (pa_cons (pe_fld (pv 0) rfl) (pa_cons (pv 1) pa_nil)))))))), ?_⟩)
  · obtain ⟨a, dx, d, p, s, h, l, rfl, _⟩ := h
    rfl
  · obtain ⟨a, dx, d, p, s, h, l, rfl, hs, g, hS, hl, kE, kT, kQ⟩ := h
    refine ⟨_, rfl, h, rfl, fun hh => kE (and_f1 hh), fun hh => ?_⟩
    refine ⟨_, rfl, _, rfl, a, C, dx, _, _, rfl, hs.ins, S.cl, S.nP, spF_prices s d, p, d, l, s, rfl, hS, hs.dict, hl, fun hv => kE (and_f2 hv), fun hv H1 s1 => ?_⟩
    have hs1 := hs.same s1
    refine ⟨_, rfl, _, rfl, a, C, dx, _, _, rfl, hs1.ins, S.cl, S.nL, spF_loss s d, p, l, s.cutLoss, rfl, s1.seq hS, hl, g.cut, _, rfl, _, _, rfl, rfl, _, rfl, ?_⟩
    by_cases hu : h < Kp397.usedThickness s l
    · refine ifT (decide_eq_true (by rw [used_is] at hu; omega)) ?_
      exact Ref.go T (kT (and_t hh hv) hu) s1
    · refine ifF (decide_eq_false (by rw [used_is] at hu; omega)) ?_
      refine ⟨_, rfl, _, rfl, a, C, dx, _, _, rfl, hs1.ins, S.cl, S.nL, spF_loss s d, _, rfl, p, l, s.cutLoss, h, rfl, s1.seq hS, hl, g.cut, ?_⟩
      have q := kQ (and_t hh hv) hu H1 s1
      rw [cuts_is] at q
      exact q

/-! ### plans_for -/
def spFor (K : PySem.W.Frag) (RC C : Addr) : Sp := fun vs H Q E => ∃ (a dx d : Addr) (s : Splitter) (h : Nat), vs = [.ref a, .int (h : Int)] ∧ SpAt C H a dx d s ∧ Good 6 s ∧
  (Kp397.validHide h = false → Ref K RC H E (-22)) ∧ (Kp397.validHide h = true → ∀ (H' : Hp) (r : Addr) (as : List Addr), Same H H' → H' r = some (.lst (as.map V.ref)) → Pls H' as (Kp397.plans s h) → Q (.ref r) H')
theorem scFor : FnScope ["self", "hide"] ["self", "hide"] (defScope (inClass (top 38) 11)) := ⟨rfl, rfl, rfl, by decide +kernel, rfl, by decide +kernel, by decide +kernel⟩
theorem okFor {f fH fG : Addr} {fd dH dG : FuncData} (D : Mt K C "plans_for" "Splitter.plans_for" (inClass (top 38) 11) ["self", "hide"] f fd) (Hi : Df K mg "check_hide" (top 23) ["hide"] fH dH) (GH : FnOk P w K mg base (L2.CX P w) 2 fH dH ["hide"] (spHide K RC))
    (G : Df K mg "fitting_plans" (top 33) ["thicknesses", "cut_loss", "max_cuts", "hide"] fG dG) (GG : FnOk P w K mg base CX0 4 fG dG ["thicknesses", "cut_loss", "max_cuts", "hide"] (spFitting K)) (S : Sc K mg C) (B : Blt mg) : FnOk P w K mg base (L2.CX P w) 5 f fd ["self", "hide"] (spFor K RC C) := by
  refine D.F.okX scFor (fun vs H Q E h => ?_) (fun cdv A outer s H vs Q E hr h => ⟨_,
    pss_cons (ps_expr (pe_call GH (hr.mono (by decide)) rfl Hi.g Hi.k Hi.b .nil (passes_call (takes_of rfl rfl rfl rfl) (W := fun cls d _ H => E cls d H) (fun _ _ _ _ z => z)) (pa_cons (pv 1) pa_nil)))
    (pss_one (ps_ret (pe_call GG hr rfl G.g G.k G.b .nil pass0 (pa_cons (pe_callTy (call_listD rfl) (by rfl) B.list (by decide +kernel) (pa_cons (pe_fld (pv 0) rfl) pa_nil)) (pa_cons (pe_fld (pv 0) rfl) (pa_cons (pe_fld (pv 0) rfl) (pa_cons (pv 1) pa_nil))))))), ?_⟩)
  · obtain ⟨a, dx, d, s, h, rfl, _⟩ := h
    rfl
  · obtain ⟨a, dx, d, s, h, rfl, hs, g, kE, kQ⟩ := h
    refine ⟨_, rfl, h, rfl, kE, fun hh => ?_⟩
    refine ⟨_, rfl, a, C, dx, _, _, rfl, hs.ins, S.cl, S.nP, spF_prices s d, d, kvs s, rfl, .inl hs.dict, fun kl hkl => ?_⟩
    have s1 : Same H (upd H kl (.lst ((kvs s).map fun kv => kV kv.1))) := same_new hkl
    have hkl1 : (upd H kl (.lst ((kvs s).map fun kv => kV kv.1))) kl = some (.lst (vN (keys s))) := by
      rw [upd_same, kvs_kV]
    generalize upd H kl (.lst ((kvs s).map fun kv => kV kv.1)) = H1 at hkl1 s1
    have hs1 := hs.same s1
    refine ⟨_, rfl, a, C, dx, _, _, rfl, hs1.ins, S.cl, S.nL, spF_loss s d, _, rfl, a, C, dx, _, _, rfl, hs1.ins, S.cl, S.nM, spF_cuts s d, _, rfl, kl, keys s, s.cutLoss, s.maxCuts, h, rfl, SqL.of hkl1, by rw [keys_len]; have := g.len; omega, g.cut, fun asc hp hr H2 L as s2 hL pas => ?_⟩
    obtain ⟨e, _⟩ := fitting_is (g.mono (by decide)) hp hr h
    rw [e] at pas
    exact kQ hh H2 L as (s1.trans s2) hL pas

/-! ### best_value -/
def spBV (K : PySem.W.Frag) (RC C : Addr) : Sp := fun vs H Q E => ∃ (a dx d : Addr) (s : Splitter) (h : Nat), vs = [.ref a, .int (h : Int)] ∧ SpAt C H a dx d s ∧ Good 6 s ∧
  (Kp397.validHide h = false → Ref K RC H E (-22)) ∧ (Kp397.validHide h = true → ∀ H', Same H H' → Q (.int (Kp397.bestValue s h : Nat)) H')
theorem scBV : FnScope ["self", "hide"] ["self", "hide"] (defScope (inClass (top 38) 12)) := ⟨rfl, rfl, rfl, by decide +kernel, rfl, by decide +kernel, by decide +kernel⟩
theorem okBV {f fH fG : Addr} {fd dH dG : FuncData} (D : Mt K C "best_value" "Splitter.best_value" (inClass (top 38) 12) ["self", "hide"] f fd) (Hi : Df K mg "check_hide" (top 23) ["hide"] fH dH) (GH : FnOk P w K mg base (L2.CX P w) 2 fH dH ["hide"] (spHide K RC))
    (G : Df K mg "greatest_value" (top 34) ["prices", "cut_loss", "max_cuts", "hide"] fG dG) (GG : FnOk P w K mg base CX0 5 fG dG ["prices", "cut_loss", "max_cuts", "hide"] (spGreat K)) (S : Sc K mg C) : FnOk P w K mg base (L2.CX P w) 6 f fd ["self", "hide"] (spBV K RC C) := by
  refine D.F.okX scBV (fun vs H Q E h => ?_) (fun cdv A outer s H vs Q E hr h => ⟨_,
    pss_cons (ps_expr (pe_call GH (hr.mono (by decide)) rfl Hi.g Hi.k Hi.b .nil (passes_call (takes_of rfl rfl rfl rfl) (W := fun cls d _ H => E cls d H) (fun _ _ _ _ z => z)) (pa_cons (pv 1) pa_nil)))
    (pss_one (ps_ret (pe_call GG hr rfl G.g G.k G.b .nil pass0 (pa_cons (pe_fld (pv 0) rfl) (pa_cons (pe_fld (pv 0) rfl) (pa_cons (pe_fld (pv 0) rfl) (pa_cons (pv 1) pa_nil))))))), ?_⟩)
  · obtain ⟨a, dx, d, s, h, rfl, _⟩ := h
    rfl
  · obtain ⟨a, dx, d, s, h, rfl, hs, g, kE, kQ⟩ := h
    refine ⟨_, rfl, h, rfl, kE, fun hh => ?_⟩
    exact ⟨_, rfl, a, C, dx, _, _, rfl, hs.ins, S.cl, S.nP, spF_prices s d, _, rfl, a, C, dx, _, _, rfl, hs.ins, S.cl, S.nL, spF_loss s d, _, rfl, a, C, dx, _, _, rfl, hs.ins, S.cl, S.nM, spF_cuts s d, _, rfl, d, s, h, rfl, hs.dict, g.mono (by decide), fun H1 s1 => kQ hh H1 s1⟩

/-! ### plan_count -/
def spPC (K : PySem.W.Frag) (RC C : Addr) : Sp := fun vs H Q E => ∃ (a dx d : Addr) (s : Splitter) (h : Nat), vs = [.ref a, .int (h : Int)] ∧ SpAt C H a dx d s ∧ Good 6 s ∧
  (Kp397.validHide h = false → Ref K RC H E (-22)) ∧ (Kp397.validHide h = true → ∀ H', Same H H' → Q (.int ((Kp397.plans s h).length : Nat)) H')
theorem scPC : FnScope ["self", "hide"] ["self", "hide"] (defScope (inClass (top 38) 15)) := ⟨rfl, rfl, rfl, by decide +kernel, rfl, by decide +kernel, by decide +kernel⟩
theorem okPC {f fF : Addr} {fd dF : FuncData} (D : Mt K C "plan_count" "Splitter.plan_count" (inClass (top 38) 15) ["self", "hide"] f fd) (F : Mt K C "plans_for" "Splitter.plans_for" (inClass (top 38) 11) ["self", "hide"] fF dF) (GF : FnOk P w K mg base (L2.CX P w) 5 fF dF ["self", "hide"] (spFor K RC C))
    (S : Sc K mg C) (B : Blt mg) : FnOk P w K mg base (L2.CX P w) 6 f fd ["self", "hide"] (spPC K RC C) := by
  refine D.F.okX scPC (fun vs H Q E h => ?_) (fun cdv A outer s H vs Q E hr h => ⟨_,
    pss_one (ps_ret (pe_callB call_len_seq (by rfl) B.len PySem.boot_len (pa_cons (pe_meth (pv 0) S.cl F.m GF hr F.b .nil (passes_call (takes_of rfl rfl rfl rfl) (W := fun cls d _ H => E cls d H) (fun _ _ _ _ z => z)) (pa_cons (pv 1) pa_nil)) pa_nil))), ?_⟩)
  · obtain ⟨a, dx, d, s, h, rfl, _⟩ := h
    rfl
  · obtain ⟨a, dx, d, s, h, rfl, hs, g, kE, kQ⟩ := h
    refine ⟨_, rfl, a, dx, _, rfl, hs.ins, spF_no s d (by decide +kernel), _, rfl, a, dx, d, s, h, rfl, hs, g, kE, fun hh H1 r as s1 hL pas => ?_⟩
    refine ⟨r, _, rfl, .inl (SqL.of hL), ?_⟩
    rw [List.length_map, pas.len]
    exact kQ hh H1 s1

/-! ### best_plan_count -/
def spBC (K : PySem.W.Frag) (RC C : Addr) : Sp := fun vs H Q E => ∃ (a dx d : Addr) (s : Splitter) (h : Nat), vs = [.ref a, .int (h : Int)] ∧ SpAt C H a dx d s ∧ Good 6 s ∧
  (Kp397.validHide h = false → Ref K RC H E (-22)) ∧ (Kp397.validHide h = true → ∀ H', Same H H' → Q (.int (((Kp397.plans s h).filter fun l => Kp397.planValue s l == Kp397.bestValue s h).length : Nat)) H')
abbrev nBC : List Str := ["self", "hide", "values", "plan"]
theorem scBC : FnScope nBC ["self", "hide"] (defScope (inClass (top 38) 16)) := ⟨rfl, rfl, rfl, by decide +kernel, rfl, by decide +kernel, by decide +kernel⟩
theorem iN_count (l : List Nat) (n : Nat) : (iN l).count (n : Int) = l.count n := by
  induction l with
  | nil => rfl
  | cons x r ih =>
    unfold iN at ih ⊢
    rw [List.map_cons, List.count_cons, List.count_cons, ih]
    by_cases e : x = n
    · subst e
      simp
    · have e' : ¬ (x : Int) = (n : Int) := fun q => e (by omega)
      rw [beq_eq_false_iff_ne.mpr e, beq_eq_false_iff_ne.mpr e']
theorem okBC {f fF fS : Addr} {fd dF dS : FuncData} (D : Mt K C "best_plan_count" "Splitter.best_plan_count" (inClass (top 38) 16) ["self", "hide"] f fd) (F : Mt K C "plans_for" "Splitter.plans_for" (inClass (top 38) 11) ["self", "hide"] fF dF) (GF : FnOk P w K mg base (L2.CX P w) 5 fF dF ["self", "hide"] (spFor K RC C))
    (Su : Df K mg "sum_of_prices" (top 27) ["plan", "prices"] fS dS) (GS : FnOk P w K mg base CX0 1 fS dS ["plan", "prices"] (spSum K)) (S : Sc K mg C) (B : Blt mg) : FnOk P w K mg base (L2.CX P w) 6 f fd ["self", "hide"] (spBC K RC C) := by
  refine D.F.okX scBC (fun vs H Q E h => ?_) (fun cdv A outer s H vs Q E hr h => ⟨_,
    pss_cons (ps_setLc (i := 2) (own := [("plan", 3)]) (g := gName 3) (tt := tYes) (te := tCall (spSum K) [] E0 (tCons (tVar 3) (tCons (tFld K (tVar 0) "prices") tNil))) rfl scBC.nd rfl rfl rfl
      (pi_list (pe_meth (pv 0) S.cl F.m GF hr F.b .nil (passes_call (takes_of rfl rfl rfl rfl) (W := fun cls d _ H => E cls d H) (fun _ _ _ _ z => z)) (pa_cons (pv 1) pa_nil)))
      (blkOk_by (N := nBC) (sc := defScope (inClass (top 38) 16)) (by decide +kernel)) (fun _ _ _ _ _ => pg_name (i := 3) scBC.nd rfl (Or.inl rfl)) (fun _ _ _ _ _ => pts_nil)
      (fun _ _ _ _ _ => pe_call GS (hr.mono (by decide)) rfl Su.g Su.k Su.b .nil pass0 (pa_cons (pv 3) (pa_cons (pe_fld (pv 0) rfl) pa_nil))))
    (pss_one (ps_ret (pe_bm PySem.F.plainAttrs_list PySem.F.slot_list_count PySem.F.type_list_count mt_lcount (pv 2) (pa_cons (pe_callB (cr_max rfl) (by rfl) B.max (by decide +kernel) (pa_cons (pv 2) pa_nil)) pa_nil)))), ?_⟩)
  · obtain ⟨a, dx, d, s, h, rfl, _⟩ := h
    rfl
  · obtain ⟨a, dx, d, s, h, rfl, hs, g, kE, kQ⟩ := h
    have g7 := g.mono (m := 7) (by decide)
    refine ⟨_, rfl, a, dx, _, rfl, hs.ins, spF_no s d (by decide +kernel), _, rfl, a, dx, d, s, h, rfl, hs, g, kE, fun hh H1 r as s1 hL pas => ?_⟩
    have hs1 := hs.same s1
    have al := pas.len
    have pm := plans_most g7 h
    refine ⟨r, rfl, ⟨_, SqL.of hL⟩, fun D hD => lc_list (K := K) (a := r) (xs := as.map V.ref) (fun i H' => Same H1 H' ∧ H' D = some (.lst (vN (((Kp397.plans s h).take i).map (Kp397.planValue s)))))
      ⟨same_new hD, upd_same⟩ (fun i H' _ z => z.1.seq (SqL.of hL)) (fun i v H' hv z => ?_) (fun H' z => ?_)⟩
    · obtain ⟨b, p, rfl, hb, hp', hH⟩ := pls_mem pas hv
      obtain ⟨hp6, hpk⟩ := plan_len g7 (List.mem_of_getElem? hp')
      have ilt : i < as.length := (List.getElem?_eq_some_iff.mp hb).1
      have hs2 := hs1.same z.1
      refine ⟨rfl, ?_⟩
      refine ⟨_, rfl, _, rfl, a, C, dx, _, _, rfl, hs2.ins, S.cl, S.nP, spF_prices s d, b, d, p, s, rfl, SqL.of (z.1 _ _ hH), hs2.dict, hpk, by omega, fun H3 s3 => ?_⟩
      refine ⟨vN (((Kp397.plans s h).take i).map (Kp397.planValue s)), s3 _ _ z.2, ?_, same_upd (z.1.trans s3) hD, ?_⟩
      · rw [vN_len, List.length_map, List.length_take]
        exact line_of' (by omega)
      · rw [take_more hp', List.map_append, upd_same]
        refine congrArg (fun l => some (HO.lst l)) ?_
        exact (vN_snoc _ _).symm
    · obtain ⟨z1, z2⟩ := z
      rw [List.length_map, al, List.take_length] at z2
      refine ⟨_, rfl, .inl ⟨rfl, _, SqL.of z2⟩, _, rfl, D, iN ((Kp397.plans s h).map (Kp397.planValue s)), rfl, SqL.of z2, ?_, fun M hM hle => ?_⟩
      · rw [List.length_map, List.length_map]
        obtain ⟨r, er⟩ := nil_plans s h
        rw [er]
        simp
      · obtain ⟨M', hM', rfl⟩ := List.mem_map.mp hM
        have eM : M' = Kp397.bestValue s h := value_max hM' fun y hy => by
          have := hle _ (List.mem_map_of_mem hy)
          exact Int.ofNat_le.mp this
        subst eM
        refine ⟨D, iN ((Kp397.plans s h).map (Kp397.planValue s)), _, rfl, rfl, SqL.of z2, ?_⟩
        rw [iN_count, count_best]
        exact kQ hh H' (s1.trans z1)
end
end Hl

set_option Elab.async false
set_option linter.all false
set_option maxRecDepth 100000
set_option maxHeartbeats 2000000
/-! # Hides and layers, part 14: the table, the least thickness, what would be. -/
namespace Hl
open PySem PySem.Spec PyProof.Rows L2
open Kp397 (Splitter Product)
section
variable {P : Program} {w : World} {K : PySem.W.Frag} {mg : Str → Option Value} {base : Heap} {RC C : Addr}

/-! ### value_table -/
def tab (s : Splitter) (n : Nat) : List Nat := (List.range n).map fun i => Kp397.bestValue s (5 * (i + 1))
theorem tab_snoc (s : Splitter) (n : Nat) : tab s (n + 1) = tab s n ++ [Kp397.bestValue s (5 * (n + 1))] := by
  unfold tab
  rw [List.range_succ, List.map_append]
  rfl
def spVT (K : PySem.W.Frag) (C : Addr) : Sp := fun vs H Q _ => ∃ (a dx d : Addr) (s : Splitter), vs = [.ref a] ∧ SpAt C H a dx d s ∧ Good 6 s ∧
  ∀ (H' : Hp) (r : Addr), Same H H' → H' r = some (.lst (vN (tab s 12))) → Q (.ref r) H'
theorem scVT : FnScope ["self", "hide"] ["self"] (defScope (inClass (top 38) 17)) := ⟨rfl, rfl, rfl, by decide +kernel, rfl, by decide +kernel, by decide +kernel⟩
theorem okVT {f fB : Addr} {fd dB : FuncData} (D : Mt K C "value_table" "Splitter.value_table" (inClass (top 38) 17) ["self"] f fd) (Bv : Mt K C "best_value" "Splitter.best_value" (inClass (top 38) 12) ["self", "hide"] fB dB) (GB : FnOk P w K mg base (L2.CX P w) 6 fB dB ["self", "hide"] (spBV K RC C))
    (S : Sc K mg C) (B : Blt mg) (L : Lim mg) : FnOk P w K mg base CX0 7 f fd ["self"] (spVT K C) := by
  obtain ⟨t1, h1⟩ := L.step
  obtain ⟨t2, h2⟩ := L.hide
  refine D.F.ok scVT (fun vs H Q E h => ?_) (fun cdv A outer s H vs Q E hr h => ⟨_,
    pss_one (ps_ret (pe_lc (own := [("hide", 1)]) (g := gName 1) (tt := tYes) (te := tMeth C "best_value" (spBV K RC C) [] E0 (tVar 0) (tCons (tVar 1) tNil)) rfl scVT.nd
      (pi_range3 (by rfl) B.range (pa_cons (pe_glob (v := .int 5) rfl h1 ⟨_, rfl⟩) (pa_cons (pe_op op_add (pe_glob (v := .int 60) rfl h2 ⟨_, rfl⟩) pe_int) (pa_cons (pe_glob (v := .int 5) rfl h1 ⟨_, rfl⟩) pa_nil))))
      (blkOk_by (N := ["self", "hide"]) (sc := defScope (inClass (top 38) 17)) (by decide +kernel)) (fun _ _ _ _ _ => pg_name (i := 1) scVT.nd rfl (Or.inl rfl)) (fun _ _ _ _ _ => pts_nil)
      (fun _ _ _ _ _ => pe_meth (pv 0) S.cl Bv.m GB hr Bv.b .nil passL (pa_cons (pv 1) pa_nil)))), ?_⟩)
  · obtain ⟨a, dx, d, s, rfl, _⟩ := h
    rfl
  · obtain ⟨a, dx, d, s, rfl, hs, g, q⟩ := h
    refine ⟨_, _, rfl, rfl, 5, 60 + 1, 5, 12, rfl, ⟨by decide, by decide, by decide +kernel, by decide +kernel⟩, fun D hD => lc_it walk_rangeC (fun i H' => Same H H' ∧ H' D = some (.lst (vN (tab s i)))) ⟨same_new hD, upd_same⟩ (fun _ _ _ _ => trivial) (fun i x H1 H' hi z y => ?_) (fun H' z => q H' D z.1 z.2)⟩
    obtain ⟨rfl, rfl⟩ := y
    have hs1 := hs.same z.1
    refine ⟨rfl, ?_⟩
    have ev : (V.int (5 + (i : Nat) * 5)) = .int ((5 * (i + 1) : Nat) : Int) := congrArg V.int (by omega)
    refine ⟨_, rfl, a, dx, _, rfl, hs1.ins, spF_no s d (by decide +kernel), _, rfl, a, dx, d, s, 5 * (i + 1), by rw [← ev]; rfl, hs1, g, fun hh => ?_, fun hh H2 s2 => ?_⟩
    · exfalso
      have h60 : 5 * (i + 1) ≤ 60 := by omega
      have : Kp397.validHide (5 * (i + 1)) = true := decide_eq_true h60
      rw [this] at hh
      cases hh
    · refine ⟨vN (tab s i), s2 _ _ z.2, ?_, same_upd (z.1.trans s2) hD, ?_⟩
      · rw [vN_len]
        unfold tab
        rw [List.length_map, List.length_range]
        exact small1000 (by omega)
      · rw [upd_same, tab_snoc, vN_snoc]

/-! ### least_thickness -/
def spLT (K : PySem.W.Frag) (RC C : Addr) : Sp := fun vs H Q E => ∃ (a dx d : Addr) (s : Splitter) (v : Nat), vs = [.ref a, .int (v : Int)] ∧ SpAt C H a dx d s ∧ Good 6 s ∧
  (999 < v → Ref K RC H E (-22)) ∧ (¬ 999 < v → Kp397.leastThickness s v = none → Ref K RC H E (-33)) ∧ (¬ 999 < v → ∀ t, Kp397.leastThickness s v = some t → ∀ H', Same H H' → Q (.int (t : Nat)) H')
abbrev nLT : List Str := ["self", "value", "hides"]
theorem scLT : FnScope nLT ["self", "value"] (defScope (inClass (top 38) 18)) := ⟨rfl, rfl, rfl, by decide +kernel, rfl, by decide +kernel, by decide +kernel⟩
theorem okLT {f fV fT : Addr} {fd dV dT : FuncData} (D : Mt K C "least_thickness" "Splitter.least_thickness" (inClass (top 38) 18) ["self", "value"] f fd) (Va : Df K mg "check_value" (top 24) ["value"] fV dV) (GV : FnOk P w K mg base (L2.CX P w) 2 fV dV ["value"] (spValue K RC))
    (T : Df K mg "thinnest_hides" (top 35) ["prices", "cut_loss", "max_cuts", "value"] fT dT) (GT : FnOk P w K mg base CX0 4 fT dT ["prices", "cut_loss", "max_cuts", "value"] (spThin K)) (S : Sc K mg C) (B : Blt mg) (Er : Er K mg RC) : FnOk P w K mg base (L2.CX P w) 5 f fd ["self", "value"] (spLT K RC C) := by
  obtain ⟨C2, fI, T2⟩ := Er.noThick
  refine D.F.okX scLT (fun vs H Q E h => ?_) (fun cdv A outer s H vs Q E hr h => ⟨_,
    pss_cons (ps_expr (pe_call GV (hr.mono (by decide)) rfl Va.g Va.k Va.b .nil (passes_call (takes_of rfl rfl rfl rfl) (W := fun cls d _ H => E cls d H) (fun _ _ _ _ z => z)) (pa_cons (pv 1) pa_nil)))
    (pss_cons (ps_set (i := 2) scLT.nd rfl (.inl rfl) (pe_call GT hr rfl T.g T.k T.b .nil pass0 (pa_cons (pe_fld (pv 0) rfl) (pa_cons (pe_fld (pv 0) rfl) (pa_cons (pe_fld (pv 0) rfl) (pa_cons (pv 1) pa_nil))))))
    (pss_cons (ps_if (pt_not (pt_truth (pv 2) (by intro _; rfl))) (pss_one (ps_err (W := fun cls d _ H => E cls d H) rfl T2 hr (takes_of rfl rfl rfl rfl))) pss_nil)
    (pss_one (ps_ret (pe_callB (cr_min rfl) (by rfl) B.min (by decide +kernel) (pa_cons (pv 2) pa_nil)))))), ?_⟩)
  · obtain ⟨a, dx, d, s, v, rfl, _⟩ := h
    rfl
  · obtain ⟨a, dx, d, s, v, rfl, hs, g, kE, kN, kQ⟩ := h
    have g7 := g.mono (m := 7) (by decide)
    refine ⟨_, rfl, v, rfl, kE, fun hv => ?_⟩
    refine ⟨_, rfl, a, C, dx, _, _, rfl, hs.ins, S.cl, S.nP, spF_prices s d, _, rfl, a, C, dx, _, _, rfl, hs.ins, S.cl, S.nL, spF_loss s d, _, rfl, a, C, dx, _, _, rfl, hs.ins, S.cl, S.nM, spF_cuts s d, _, rfl, d, s, v, rfl, hs.dict, g7, fun asc hp hr H1 r s1 hL => ?_⟩
    obtain ⟨_, _, h3, h2, _⟩ := fitting_is g7 hp hr 0
    have hmx := g.mx
    refine ⟨_, rfl, !(vN (thin s asc v)).isEmpty, .inl ⟨_, SqL.of hL, rfl⟩, ?_⟩
    cases ht : thin s asc v with
    | nil =>
      refine iteT ?_
      exact Ref.go T2 (kN hv (least_none h2 hmx h3 ht)) s1
    | cons u us =>
      rw [ht] at hL
      refine iteF ?_
      refine ⟨_, rfl, r, iN (u :: us), rfl, SqL.of hL, by simp [iN], fun M hM hle => ?_⟩
      obtain ⟨M', hM', rfl⟩ := List.mem_map.mp hM
      rw [← ht] at hM' hle
      exact kQ hv M' (least_some h2 hmx h3 hM' fun y hy => Int.ofNat_le.mp (hle _ (List.mem_map_of_mem hy))) H1 s1

/-! ### value_with_machine -/
def spVM (K : PySem.W.Frag) (RC C : Addr) : Sp := fun vs H Q E => ∃ (a dx d : Addr) (s : Splitter) (k n h : Nat), vs = [.ref a, .int (k : Int), .int (n : Int), .int (h : Int)] ∧ SpAt C H a dx d s ∧ Good 6 s ∧
  ((Kp397.validMachine k n && Kp397.validHide h) = false → Ref K RC H E (-22)) ∧ ((Kp397.validMachine k n && Kp397.validHide h) = true → ∀ H', Same H H' → Q (.int (Kp397.bestValue { s with cutLoss := k, maxCuts := n } h : Nat)) H')
theorem scVM : FnScope ["self", "cut_loss", "max_cuts", "hide"] ["self", "cut_loss", "max_cuts", "hide"] (defScope (inClass (top 38) 19)) := ⟨rfl, rfl, rfl, by decide +kernel, rfl, by decide +kernel, by decide +kernel⟩
theorem okVM {f fM fH fG : Addr} {fd dM dH dG : FuncData} (D : Mt K C "value_with_machine" "Splitter.value_with_machine" (inClass (top 38) 19) ["self", "cut_loss", "max_cuts", "hide"] f fd) (M : Df K mg "check_machine" (top 20) ["cut_loss", "max_cuts"] fM dM)
    (GM : FnOk P w K mg base (L2.CX P w) 2 fM dM ["cut_loss", "max_cuts"] (spMachine K RC)) (Hi : Df K mg "check_hide" (top 23) ["hide"] fH dH) (GH : FnOk P w K mg base (L2.CX P w) 2 fH dH ["hide"] (spHide K RC))
    (G : Df K mg "greatest_value" (top 34) ["prices", "cut_loss", "max_cuts", "hide"] fG dG) (GG : FnOk P w K mg base CX0 5 fG dG ["prices", "cut_loss", "max_cuts", "hide"] (spGreat K)) (S : Sc K mg C) : FnOk P w K mg base (L2.CX P w) 6 f fd ["self", "cut_loss", "max_cuts", "hide"] (spVM K RC C) := by
  refine D.F.okX scVM (fun vs H Q E h => ?_) (fun cdv A outer s H vs Q E hr h => ⟨_,
    pss_cons (ps_expr (pe_call GM (hr.mono (by decide)) rfl M.g M.k M.b .nil (passes_call (takes_of rfl rfl rfl rfl) (W := fun cls d _ H => E cls d H) (fun _ _ _ _ z => z)) (pa_cons (pv 1) (pa_cons (pv 2) pa_nil))))
    (pss_cons (ps_expr (pe_call GH (hr.mono (by decide)) rfl Hi.g Hi.k Hi.b .nil (passes_call (takes_of rfl rfl rfl rfl) (W := fun cls d _ H => E cls d H) (fun _ _ _ _ z => z)) (pa_cons (pv 3) pa_nil)))
    (pss_one (ps_ret (pe_call GG hr rfl G.g G.k G.b .nil pass0 (pa_cons (pe_fld (pv 0) rfl) (pa_cons (pv 1) (pa_cons (pv 2) (pa_cons (pv 3) pa_nil)))))))), ?_⟩)
  · obtain ⟨a, dx, d, s, k, n, h, rfl, _⟩ := h
    rfl
  · obtain ⟨a, dx, d, s, k, n, h, rfl, hs, g, kE, kQ⟩ := h
    refine ⟨_, rfl, _, rfl, k, n, rfl, fun hm => kE (and_f1 hm), fun hm => ?_⟩
    refine ⟨_, rfl, h, rfl, fun hh => kE (and_f2 hh), fun hh => ?_⟩
    exact ⟨_, rfl, a, C, dx, _, _, rfl, hs.ins, S.cl, S.nP, spF_prices s d, _, rfl, _, rfl, _, rfl, d, { s with cutLoss := k, maxCuts := n }, h, rfl, hs.dict, (good_machine g hm).mono (by decide), fun H1 s1 => kQ (and_t hm hh) H1 s1⟩

/-! ### value_with_product -/
def spVP (K : PySem.W.Frag) (RC C : Addr) : Sp := fun vs H Q E => ∃ (a dx d : Addr) (s : Splitter) (x v h : Nat), vs = [.ref a, .int (x : Int), .int (v : Int), .int (h : Int)] ∧ SpAt C H a dx d s ∧ Good 6 s ∧
  ((Kp397.validProduct x v && Kp397.validHide h) = false → Ref K RC H E (-22)) ∧ ((Kp397.validProduct x v && Kp397.validHide h) = true → Kp397.isProduct s x = true → Ref K RC H E (-17)) ∧
  ((Kp397.validProduct x v && Kp397.validHide h) = true → Kp397.isProduct s x = false → ∀ H', Same H H' → Q (.int (Kp397.bestValue { s with products := s.products ++ [⟨x, v⟩] } h : Nat)) H')
abbrev nVP : List Str := ["self", "thickness", "price", "hide", "prices"]
theorem scVP : FnScope nVP ["self", "thickness", "price", "hide"] (defScope (inClass (top 38) 20)) := ⟨rfl, rfl, rfl, by decide +kernel, rfl, by decide +kernel, by decide +kernel⟩
theorem okVP {f fT fP fH fN fG : Addr} {fd dT dP dH dN dG : FuncData} (D : Mt K C "value_with_product" "Splitter.value_with_product" (inClass (top 38) 20) ["self", "thickness", "price", "hide"] f fd) (T : Df K mg "check_thickness" (top 21) ["thickness"] fT dT) (GT : FnOk P w K mg base (L2.CX P w) 2 fT dT ["thickness"] (spThick K RC))
    (Pr : Df K mg "check_price" (top 22) ["price"] fP dP) (GP : FnOk P w K mg base (L2.CX P w) 2 fP dP ["price"] (spPrice K RC)) (Hi : Df K mg "check_hide" (top 23) ["hide"] fH dH) (GH : FnOk P w K mg base (L2.CX P w) 2 fH dH ["hide"] (spHide K RC))
    (N : Mt K C "check_new_product" "Splitter.check_new_product" (inClass (top 38) 2) ["self", "thickness"] fN dN) (GN : FnOk P w K mg base (L2.CX P w) 2 fN dN ["self", "thickness"] (spCN K RC C))
    (G : Df K mg "greatest_value" (top 34) ["prices", "cut_loss", "max_cuts", "hide"] fG dG) (GG : FnOk P w K mg base CX0 5 fG dG ["prices", "cut_loss", "max_cuts", "hide"] (spGreat K)) (S : Sc K mg C) (B : Blt mg) : FnOk P w K mg base (L2.CX P w) 6 f fd ["self", "thickness", "price", "hide"] (spVP K RC C) := by
  refine D.F.okX scVP (fun vs H Q E h => ?_) (fun cdv A outer s H vs Q E hr h => ⟨_,
    pss_cons (ps_expr (pe_call GT (hr.mono (by decide)) rfl T.g T.k T.b .nil (passes_call (takes_of rfl rfl rfl rfl) (W := fun cls d _ H => E cls d H) (fun _ _ _ _ z => z)) (pa_cons (pv 1) pa_nil)))
    (pss_cons (ps_expr (pe_call GP (hr.mono (by decide)) rfl Pr.g Pr.k Pr.b .nil (passes_call (takes_of rfl rfl rfl rfl) (W := fun cls d _ H => E cls d H) (fun _ _ _ _ z => z)) (pa_cons (pv 2) pa_nil)))
    (pss_cons (ps_expr (pe_call GH (hr.mono (by decide)) rfl Hi.g Hi.k Hi.b .nil (passes_call (takes_of rfl rfl rfl rfl) (W := fun cls d _ H => E cls d H) (fun _ _ _ _ z => z)) (pa_cons (pv 3) pa_nil)))
    (pss_cons (ps_expr (pe_meth (pv 0) S.cl N.m GN (hr.mono (by decide)) N.b .nil (passes_call (takes_of rfl rfl rfl rfl) (W := fun cls d _ H => E cls d H) (fun _ _ _ _ z => z)) (pa_cons (pv 1) pa_nil)))
    (pss_cons (ps_set (i := 4) scVP.nd rfl (.inl rfl) (pe_callTy call_dictD (by rfl) B.dict (by decide +kernel) (pa_cons (pe_fld (pv 0) rfl) pa_nil)))
    (pss_cons (ps_dput (hu_of hr) (pv 4) (pv 1) (pv 2) rfl)
    (pss_one (ps_ret (pe_call GG hr rfl G.g G.k G.b .nil pass0 (pa_cons (pv 4) (pa_cons (pe_fld (pv 0) rfl) (pa_cons (pe_fld (pv 0) rfl) (pa_cons (pv 3) pa_nil)))))))))))), ?_⟩)
  · obtain ⟨a, dx, d, s, x, v, h, rfl, _⟩ := h
    rfl
  · obtain ⟨a, dx, d, s, x, v, h, rfl, hs, g, kE, kP, kQ⟩ := h
    refine ⟨_, rfl, x, rfl, fun hx => kE (and_f1 (by rw [valid_split, hx]; rfl)), fun hx => ?_⟩
    refine ⟨_, rfl, v, rfl, fun hv => kE (and_f1 (by rw [valid_split, hv, Bool.and_false])), fun hv => ?_⟩
    have hval : Kp397.validProduct x v = true := by
      rw [valid_split, hx, hv]
      rfl
    refine ⟨_, rfl, h, rfl, fun hh => kE (and_f2 hh), fun hh => ?_⟩
    refine ⟨_, rfl, a, dx, _, rfl, hs.ins, spF_no s d (by decide +kernel), _, rfl, a, dx, d, s, x, rfl, hs, fun hp => kP (and_t hval hh) hp, fun hp => ?_⟩
    refine ⟨_, rfl, a, C, dx, _, _, rfl, hs.ins, S.cl, S.nP, spF_prices s d, d, kvs s, rfl, .inl hs.dict, fun e he => ?_⟩
    have s1 : Same H (upd H e (.dK (kvs s))) := same_new he
    have hs1 := hs.same s1
    refine ⟨_, rfl, _, rfl, _, rfl, e, _, rfl, DPut.k (k := Sum.inl (x : Int)) upd_same (small1000 (by rw [kvs_len]; have := g.len; omega)), ?_⟩
    rw [put_new hp, upd_upd]
    have s2 : Same H (upd H e (.dK (kvs { s with products := s.products ++ [⟨x, v⟩] }))) := same_new he
    have hs2 := hs.same s2
    have hv' : v ≤ 99 := by
      have hv := hv
      unfold Kp397.validPrice at hv
      rw [Bool.and_eq_true_iff] at hv
      exact of_decide_eq_true hv.2
    have hx' : 3 ≤ x ∧ x ≤ 60 := by
      have hx := hx
      unfold okT at hx
      rw [Bool.and_eq_true_iff] at hx
      exact ⟨of_decide_eq_true hx.1, of_decide_eq_true hx.2⟩
    exact ⟨_, rfl, _, rfl, a, C, dx, _, _, rfl, hs2.ins, S.cl, S.nL, spF_loss s d, _, rfl, a, C, dx, _, _, rfl, hs2.ins, S.cl, S.nM, spF_cuts s d, _, rfl, e, { s with products := s.products ++ [⟨x, v⟩] }, h, rfl, upd_same, good_add g hx' hv' hp, fun H1 s3 => kQ (and_t hval hh) hp H1 (s2.trans s3)⟩

/-! ### value_of_two -/
def spV2 (K : PySem.W.Frag) (RC C : Addr) : Sp := fun vs H Q E => ∃ (a dx d : Addr) (s : Splitter) (x y : Nat), vs = [.ref a, .int (x : Int), .int (y : Int)] ∧ SpAt C H a dx d s ∧ Good 6 s ∧
  ((Kp397.validHide x && Kp397.validHide y) = false → Ref K RC H E (-22)) ∧ ((Kp397.validHide x && Kp397.validHide y) = true → ∀ H', Same H H' → Q (.int (Kp397.bestValue s x + Kp397.bestValue s y : Nat)) H')
theorem scV2 : FnScope ["self", "first", "second"] ["self", "first", "second"] (defScope (inClass (top 38) 22)) := ⟨rfl, rfl, rfl, by decide +kernel, rfl, by decide +kernel, by decide +kernel⟩
theorem okV2 {f fB : Addr} {fd dB : FuncData} (D : Mt K C "value_of_two" "Splitter.value_of_two" (inClass (top 38) 22) ["self", "first", "second"] f fd) (Bv : Mt K C "best_value" "Splitter.best_value" (inClass (top 38) 12) ["self", "hide"] fB dB) (GB : FnOk P w K mg base (L2.CX P w) 6 fB dB ["self", "hide"] (spBV K RC C))
    (S : Sc K mg C) : FnOk P w K mg base (L2.CX P w) 7 f fd ["self", "first", "second"] (spV2 K RC C) := by
  refine D.F.okX scV2 (fun vs H Q E h => ?_) (fun cdv A outer s H vs Q E hr h => ⟨_,
    pss_one (ps_ret (pe_op op_add (pe_meth (pv 0) S.cl Bv.m GB hr Bv.b .nil (passes_call (takes_of rfl rfl rfl rfl) (W := fun cls d _ H => E cls d H) (fun _ _ _ _ z => z)) (pa_cons (pv 1) pa_nil)) (pe_meth (pv 0) S.cl Bv.m GB hr Bv.b .nil (passes_call (takes_of rfl rfl rfl rfl) (W := fun cls d _ H => E cls d H) (fun _ _ _ _ z => z)) (pa_cons (pv 2) pa_nil)))), ?_⟩)
  · obtain ⟨a, dx, d, s, x, y, rfl, _⟩ := h
    rfl
  · obtain ⟨a, dx, d, s, x, y, rfl, hs, g, kE, kQ⟩ := h
    refine ⟨_, rfl, a, dx, _, rfl, hs.ins, spF_no s d (by decide +kernel), _, rfl, a, dx, d, s, x, rfl, hs, g, fun hx => kE (and_f1 hx), fun hx H1 s1 => ?_⟩
    have hs1 := hs.same s1
    refine ⟨_, rfl, a, dx, _, rfl, hs1.ins, spF_no s d (by decide +kernel), _, rfl, a, dx, d, s, y, rfl, hs1, g, fun hy => (kE (and_f2 hy)).imp s1, fun hy H2 s2 => ⟨_, _, rfl, rfl, ?_⟩⟩
    have q := kQ (and_t hx hy) H2 (s1.trans s2)
    rw [Int.natCast_add] at q
    exact q
end
end Hl

set_option Elab.async false
set_option linter.all false
set_option maxRecDepth 100000
set_option maxHeartbeats 2000000
/-! # Hides and layers, part 15: min of a list by a key that is a lambda with one parameter and captured names; the key's values are pairs of whole numbers. -/
namespace Hl
open PySem PySem.Spec PyProof.Rows L2 LamX NdefX
section
variable {P : Program} {w : World}
/-! ### what a description leans on, once more: tracked things may be forgotten -/
/-- the own dict that the description names -/
def Owns : HO → Addr → Prop
  | .ins _ d _, dx => d = dx
  | .frz _ u, dx => Owns u dx
  | _, _ => False
theorem owns_at {H : Hp} {h : Heap} {b : Addr} {o : HO} (y : ObjOk P w H h b o) {dx : Addr} (e : Owns o dx) : H dx = some (.own b) := by
  induction o with
  | ins C d fs =>
    obtain ⟨z, _⟩ := y
    have e : d = dx := e
    rw [← e]
    exact z
  | frz ob u ih => exact ih y.2 e
  | _ => exact e.elim
theorem ObjOk.cut {H H3 : Hp} {h : Heap} {b : Addr} {o : HO} (x : ObjOk P w H h b o) (ow : ∀ dx, Owns o dx → H3 dx = some (.own b)) (tp : ∀ c xs, H c = some (.tup xs) → H3 c = some (.tup xs)) : ObjOk P w H3 h b o := by
  induction o with
  | dT kvs =>
    obtain ⟨z, y, xs, r, q⟩ := x
    exact ⟨z, y, xs, Paired.mapP r fun p q z => ⟨z.1, tp _ _ z.2.1, z.2.2⟩, q⟩
  | ins C d fs =>
    obtain ⟨_, q⟩ := x
    exact ⟨ow d rfl, q⟩
  | frz ob u ih => exact ⟨x.1, ih x.2 ow⟩
  | _ => exact x
/-- of what is tracked behind: what was tracked ahead, and the tuples -/
def cutH (H H' : Hp) : Hp := fun b => match H b with
  | some _ => H' b
  | none => match H' b with
    | some (.tup xs) => some (.tup xs)
    | _ => none
theorem cut_old {H H' : Hp} (s : Same H H') {b : Addr} {o : HO} (e : H b = some o) : cutH H H' b = some o := by
  unfold cutH
  rw [e]
  exact s _ _ e
theorem cut_none {H H' : Hp} (s : Same H H') {b : Addr} (e : H' b = none) : cutH H H' b = none := by
  unfold cutH
  cases q : H b with
  | some o =>
    rw [s _ _ q] at e
    cases e
  | none => rw [e]
theorem cut_tup {H H' : Hp} {b : Addr} {xs : List V} (e : H' b = some (.tup xs)) : cutH H H' b = some (.tup xs) := by
  unfold cutH
  cases q : H b with
  | some o => exact e
  | none => rw [e]
theorem cut_new {H H' : Hp} {b : Addr} (e : H b = none) : cutH H H' b = none ∨ ∃ xs, cutH H H' b = some (.tup xs) := by
  unfold cutH
  rw [e]
  cases H' b with
  | none => exact .inl rfl
  | some o => cases o <;> first | exact .inl rfl | exact .inr ⟨_, rfl⟩
theorem cut_same {H H' : Hp} (s : Same H H') : Same H (cutH H H') := fun b o e => cut_old s e
theorem HOk.cut {H H' : Hp} {h h' : Heap} (x : HOk P w H h) (y : HOk P w H' h') (s : Same H H') : HOk P w (cutH H H') h' := fun b o e => by
  cases q : H b with
  | some u =>
    have e' := cut_old s q
    rw [e] at e'
    cases e'
    exact ObjOk.cut (y b _ (s _ _ q)) (fun dx z => cut_old s (owns_at (x b _ q) z)) fun c xs z => cut_tup z
  | none =>
    rcases cut_new (H' := H') q with z | ⟨xs, z⟩
    · rw [z] at e
      cases e
    · rw [z] at e
      cases e
      have e' : H' b = some (.tup xs) := by
        unfold cutH at z
        rw [q] at z
        cases r : H' b with
        | none =>
          rw [r] at z
          cases z
        | some u =>
          rw [r] at z
          cases u <;> cases z
          rfl
      exact ObjOk.cut (y b _ e') (fun dx z => z.elim) fun c xs z => cut_tup z
end
section
variable {X : Cx} {pins : List (Addr × Obj)} {σ : L2.St} {H H' : Hp} {s s' : Shared}
theorem inv_cut (I : Inv X pins σ H s) (I' : Inv X pins σ H' s') (sm : Same H H') : Inv X pins σ (cutH H H') s' := by
  refine ⟨I'.ok, I'.os, I'.bare, ⟨I'.base.keep, I'.base.slot, fun b o e n hx => cut_none sm (I'.base.free b o e n hx), I'.base.there, fun b xs e => cut_old sm (I.base.tups b xs e), fun b o u e => cut_old sm (I.base.frzs b o u e), fun b ps e => ?_⟩,
    I'.loc, I'.cell, cut_none sm I'.free, fun x c e => cut_none sm (I'.freeC x c e), fun p hp => ?_, HOk.cut I.hok I'.hok sm, I'.len⟩
  · obtain ⟨more, z⟩ := I.base.tbls b ps e
    exact ⟨more, cut_old sm z⟩
  · obtain ⟨a, b, c⟩ := I'.pin p hp
    exact ⟨a, cut_none sm b, c⟩

/-! ### the lambda's call -/
abbrev lamNF (X : Cx) (params : Arguments) (scope : Scope) (c' : Addr) : NF := ⟨"<lambda>", X.env.qual ++ "<lambda>", params, [], scope, cloFrom X.env.cells scope.names [], c'⟩
abbrev lamObj (X : Cx) (params : Arguments) (body : Expr) (scope : Scope) (pm : Value) (c' : Addr) (ctv : Value) : Obj := PySem.W.kla_obj "<lambda>" (X.env.qual ++ "<lambda>") params body scope (cloFrom X.env.cells scope.names []) pm c' ctv
theorem lam_call {A : Around} {k : Nat} {f c' : Addr} {params : Arguments} {body : Expr} {scope : Scope} {pm ctv : Value} {N ps fr : List Str} {js : List Nat} {u : Value} {v : V} {Q : VK} {tb : TE} (I : Inv X pins σ H s) (hA : A.frames = some X.stack) (hr : Room (k + 1) A)
    (S : NScope N ps fr scope) (cp : X.Ok → Caps X (cloFrom X.env.cells scope.names []) fr js) (hl : ps.length = 1) (hf : s.heap.get? f = some (lamObj X params body scope pm c' ctv)) (hc : H c' = some (CodeO c' (X.env.qual ++ "<lambda>")))
    (hb : bindArgs (PySem.W.kla_fn "<lambda>" (X.env.qual ++ "<lambda>") params body scope (cloFrom X.env.cells scope.names []) pm (.ref c') ctv) ⟨[u], []⟩ = pure (ps.zip [u])) (r : RelV v u)
    (hbody : ∀ (A : Around) (outer : List Env) (s : Shared) (H : Hp), Room k (A.deeper (envF (lamNF X params scope c') f s.heap.objs.size)) → PE (ncx C8.CX0 X.prog X.w X.K X.mg X.base N (lamNF X params scope c') f A outer s H C8.E0) body tb)
    (h : tb (startF N [v] (js.map (slotAt σ))) H Q) :
    codeAny (model X.prog X.w) A (.call (.ref f) ⟨[u], []⟩) (CR C8.CX0 X.stack X.prog X.w H s Q C8.E0) s := by
  have e0 : Env0 X.prog X.w X.K X.mg X.base A X.stack s H := ⟨hA, I.ok.mod, I.bs, Nat.le_trans I.ok.bsz I.sz, I.stack, I.stkFree, I.hok, I.bare⟩
  refine PySem.W.kla_callFunE hr.depth hf rfl S.co S.gen rfl (codeO_at I.hok hc) ?_
  rw [hb]
  refine wpAny_pure (wpAny_newFunctionEnv S.nocell (fun ⟨n, _⟩ hy => S.par n (List.of_mem_zip hy).1) (fun h₁ hns hsb => ⟨I.nolimit.fresh _ hsb, ?_⟩) S.kind)
  show codeAny _ _ (.expr body (envF (lamNF X params scope c') f s.heap.objs.size)) _ _
  have kp : ∀ b o, s.heap.get? b = some o → h₁.get? b = some o := fun b o e => hsb.extBut b o (Nat.ne_of_lt (Heap.lt_size e)) (Heap.get?_push_of_some _ e)
  have J : Inv (ncx C8.CX0 X.prog X.w X.K X.mg X.base N (lamNF X params scope c') f A X.stack s H C8.E0) [] (startF N [v] (js.map (slotAt σ))) H { s with heap := h₁, toks := s.toks + (ps.zip [u]).length } :=
    inv_startN (us := [u]) S hr.hd e0 hl.symm (.cons r .nil) (cells_of I (cp I.ok)) hns kp
  refine PySem.W.kla_codeExpr (wpAny_mono ((hbody A X.stack s H (hr.deeper _)).run [] _ _ H Q J h) (fun v s' hq => ?_) fun e s' hq => hq)
  obtain ⟨w', H', J', rv, q⟩ := hq
  exact ⟨w', H', J'.os, J'.bare, J'.base, J'.hok, rv, q⟩
end
end Hl

set_option Elab.async false
set_option linter.all false
set_option maxRecDepth 100000
set_option maxHeartbeats 2000000
/-! # Hides and layers, part 16: the walk of min with the lambda as its key. -/
namespace Hl
open PySem PySem.Spec PyProof.Rows L2 LamX NdefX
/-- the smaller pair -/
def lexB (k1 k2 : Nat → Int) (i j : Nat) : Bool := HT.lexLt [k1 i, k2 i] [k1 j, k2 j]
/-- a key's object: a pair of whole numbers, made after B -/
def KeyAt (h0 : Heap) (S I : Addr) (k1 k2 : Nat → Int) (i : Nat) (k : Value) (s : Shared) : Prop := ∃ u t1 t2, k = .ref u ∧ h0.get? u = none ∧ u ≠ S ∧ u ≠ I ∧ IsTup s.heap u [Value.int (k1 i) t1, Value.int (k2 i) t2].toArray
/-- the state amid the walk: nothing but pairs is tracked of what was made after B -/
def JAt (X : Cx) (pins : List (Addr × Obj)) (σ : L2.St) (H : Hp) (h0 : Heap) (S I : Addr) (s : Shared) : Prop := ∃ H', Inv X pins σ H' s ∧ Same H H' ∧ (∀ b, h0.get? b = none → H' b = none ∨ ∃ xs, H' b = some (.tup xs)) ∧ H' S = none ∧ H' I = none ∧ ∀ b o, h0.get? b = some o → ∃ o', s.heap.get? b = some o'
theorem isTup_inj {h : Heap} {u : Addr} {xs ys : List Value} (a : IsTup h u xs.toArray) (b : IsTup h u ys.toArray) : xs = ys := by
  obtain ⟨o, e, _, n, d⟩ := a
  obtain ⟨o', e', _, n', d'⟩ := b
  rw [e] at e'
  cases e'
  rw [d] at d'
  have z := (Data.seq.inj d').1
  exact congrArg Array.toList z
theorem rel_int {x : V} {n : Int} {t : Tok} (r : RelV x (.int n t)) : x = .int n := by
  cases x with
  | int i =>
    obtain ⟨u, e⟩ := r
    cases e
    rfl
  | str z =>
    obtain ⟨u, e⟩ := r
    cases e
  | byt z =>
    obtain ⟨u, e⟩ := r
    cases e
  | flt z =>
    obtain ⟨u, e⟩ := r
    cases e
  | _ => cases r
theorem vals_two {a b : Int} {its : List Value} (r : Vals [.int a, .int b] its) : ∃ t1 t2, its = [Value.int a t1, Value.int b t2] := by
  cases r with
  | cons r rr =>
    cases rr with
    | cons r' rr =>
      cases rr
      obtain ⟨t1, rfl⟩ := r
      obtain ⟨t2, rfl⟩ := r'
      exact ⟨t1, t2, rfl⟩
theorem two_vals {a b : Int} {t1 t2 : Tok} {xs : List V} (r : Vals xs [Value.int a t1, Value.int b t2]) : xs = [.int a, .int b] := by
  cases r with
  | cons r rr =>
    cases rr with
    | cons r' rr =>
      cases rr
      rw [rel_int r, rel_int r']
theorem ints_two {a b : Int} {t1 t2 : Tok} : IntsAre [Value.int a t1, Value.int b t2] [a, b] := L2.intsAre_of (ns := [a, b]) (us := [Value.int a t1, Value.int b t2]) (.cons ⟨t1, rfl⟩ (.cons ⟨t2, rfl⟩ .nil))
theorem obj_is {P : Program} {w : World} {H : Hp} {h : Heap} {a : Addr} {o : HO} (x : ObjOk P w H h a o) : ∃ ob, h.get? a = some ob := by
  cases o with
  | lst xs => obtain ⟨_, _, _, _, e⟩ := x; exact ⟨_, e⟩
  | tup xs => obtain ⟨_, _, _, o, e, _⟩ := x; exact ⟨_, e⟩
  | dK kvs => obtain ⟨_, _, _, _, o, _, _, e, _⟩ := x; exact ⟨_, e⟩
  | dT kvs => obtain ⟨_, _, _, _, o, _, _, e, _⟩ := x; exact ⟨_, e⟩
  | set S n => obtain ⟨o, _, _, _, e, _⟩ := x; exact ⟨_, e⟩
  | ins C dx fs => obtain ⟨_, _, _, e, _⟩ := x; exact ⟨_, e⟩
  | own y => exact x
  | xd fs => obtain ⟨_, ⟨_, _, _, e, _⟩, _⟩ := x; exact ⟨_, e⟩
  | rng lo hi => obtain ⟨_, _, _, e⟩ := x; exact ⟨_, e⟩
  | frz ob u => exact ⟨_, x.1⟩
  | tbl ps => exact ⟨_, show h.get? a = some _ from x⟩
  | met f y => exact ⟨_, show h.get? a = some _ from x⟩
  | ext φ => obtain ⟨_, e, _⟩ := x; exact e
theorem refs_of : ∀ {as : List Addr} {its : List Value}, Vals (as.map V.ref) its → its = as.map Value.ref
  | [], _, .nil => rfl
  | a :: as, _, .cons r t => by
    have e := refs_of (as := as) t
    cases r
    rw [e]
    rfl
theorem argB_is (bt : Nat → Nat → Bool) : ∀ j, PySem.argBest bt j = argB bt j
  | 0 => rfl
  | j + 1 => by
    show (if bt (j + 1) (PySem.argBest bt j) then j + 1 else PySem.argBest bt j) = (if bt (j + 1) (argB bt j) = true then j + 1 else argB bt j)
    rw [argB_is bt j]
section
variable {X : Cx} {pins : List (Addr × Obj)} {σ : L2.St} {H : Hp} {s : Shared}
theorem fs_stack (ok : X.Ok) {b : Addr} (h : b ∈ X.fs) : b ∈ frs X.stack := by
  rcases ok.stk with e | ⟨e, hf⟩
  · rw [e]
    exact h
  · rw [e]
    unfold frs
    rw [List.filterMap_cons, hf]
    exact List.mem_cons_of_mem _ h
/-- the walk's own record and min's list have turned -/
theorem j_keep {h0 : Heap} {S I : Addr} {s' : Shared} (hN : ∀ b ∈ [S, I], h0.get? b = none) (hch : ∀ b ∈ [S, I], (b ∈ X.ex ∨ X.s_0.heap.objs.size ≤ b) ∧ b ≠ X.env.locals ∧ (∀ x c, X.env.cells.lookup x = some c → c ≠ b) ∧ ∀ p ∈ X.pn ++ pins, p.1 ≠ b)
    (J : JAt X pins σ H h0 S I s) (m : Moved [S, I] (fun a b => b = a) s s') : JAt X pins σ H h0 S I s' := by
  obtain ⟨H', J1, sm, tp, n1, n2, th⟩ := J
  obtain ⟨hp, g, d, t, os⟩ := s'
  have ho : os = s.os := m.os
  have hg : g = s.gens := m.gens
  subst ho hg
  have k : ∀ b o, b ∉ [S, I] → s.heap.get? b = some o → hp.get? b = some o := m.heap
  have nt : ∀ b u, H' b = some u → b ∉ [S, I] := fun b u e z => by
    rcases List.mem_cons.mp z with z | z
    · rw [z, n1] at e
      cases e
    · rw [List.mem_singleton.mp z, n2] at e
      cases e
  refine ⟨H', J1.step (h' := hp) (g' := s.gens) (d' := d) (t' := t) (ch := [S, I]) hch (fun b o _ _ hc e _ => k b o hc e) (fun b o _ _ hc e _ => ⟨o.slots, k b o hc e⟩) (fun _ _ _ _ n => n) (fun b o hc e => ⟨o, k b o hc e⟩) (fun _ _ e => e) (fun _ _ _ e => e)
    (fun b ps e => ⟨#[], by rw [e]; simp⟩) (fun mm hm => ?_) (fun b u e => ?_) J1.bare, sm, tp, n1, n2, fun b o e => ?_⟩
  · obtain ⟨o, es, ep, ho, r⟩ := hm
    exact ⟨o, es, ep, k _ o (fun z => (hch _ z).2.1 rfl) ho, r⟩
  · refine (J1.hok b u e).stay (fun c v hc q => k c v ?_ q) (fun _ q => q) fun _ _ q => q
    rcases hc with z | z
    · rw [z]
      exact nt b u e
    · exact nt c _ z
  · obtain ⟨o', e'⟩ := th b o e
    exact ⟨o', k b o' (fun z => by rw [hN b z] at e; cases e) e'⟩
theorem min_walk {k : Nat} {L f c' : Addr} {as : List Addr} {params : Arguments} {body : Expr} {scope : Scope} {pm ctv : Value} {N ps fr : List Str} {js : List Nat} {k1 k2 : Nat → Int} {Q : VK} {tb : TE} (I : Inv X pins σ H s) (hL : H L = some (.lst (as.map V.ref))) (hn : 0 < as.length)
    (hr : Room (k + 2) X.A) (S : NScope N ps fr scope) (cp : X.Ok → Caps X (cloFrom X.env.cells scope.names []) fr js) (hl : ps.length = 1)
    (hf : s.heap.get? f = some (lamObj X params body scope pm c' ctv)) (hfn : H f = none) (hfr : f ∉ frs X.stack) (hc : H c' = some (CodeO c' (X.env.qual ++ "<lambda>")))
    (hb : ∀ u : Value, bindArgs (PySem.W.kla_fn "<lambda>" (X.env.qual ++ "<lambda>") params body scope (cloFrom X.env.cells scope.names []) pm (.ref c') ctv) ⟨[u], []⟩ = pure (ps.zip [u]))
    (hbody : ∀ (A : Around) (outer : List Env) (s : Shared) (H : Hp), Room k (A.deeper (envF (lamNF X params scope c') f s.heap.objs.size)) → PE (ncx C8.CX0 X.prog X.w X.K X.mg X.base N (lamNF X params scope c') f A outer s H C8.E0) body tb)
    (hit : ∀ (i : Nat) (a : Addr) (H3 : Hp), as[i]? = some a → Same H H3 → tb (startF N [.ref a] (js.map (slotAt σ))) H3 fun w H4 => Same H3 H4 ∧ ∃ u, w = .ref u ∧ H3 u = none ∧ H4 u = some (.tup [.int (k1 i), .int (k2 i)]))
    (q : ∀ (a : Addr) (H3 : Hp), as[argB (lexB k1 k2) (as.length - 1)]? = some a → Same H H3 → Q (.ref a) H3) :
    wpAny (model X.prog X.w) X.A (call (.builtin "min") [.ref L] [(Str.ofString "key", .ref f)]) (EP X pins σ Q) X.xe s := by
  have hA : X.A.in1.frames = some X.stack := I.ok.frames
  have hr1 : Room (k + 1) X.A.in1 := hr.in1
  obtain ⟨its, rv, pl, hz⟩ := I.list (SqL.of hL)
  have eits := refs_of rv
  subst eits
  have hlist := pl.isList
  have hLlt : L < s.heap.objs.size := let ⟨_, e, _⟩ := hlist; Heap.lt_size e
  -- the pinned lambda
  have nfl : f ≠ X.env.locals := fun z => by
    obtain ⟨m, ⟨o, es, ep, ho, hd, _⟩, _⟩ := I.loc
    rw [← z, hf] at ho
    cases ho
    cases hd
  have I' : Inv X ((f, lamObj X params body scope pm c' ctv) :: pins) σ H s := I.pins_of fun p hp => by
    rcases List.mem_cons.mp hp with e | e
    · rw [e]
      exact ⟨hf, hfn, nfl, fun z => hfr (fs_stack I.ok z), fun v z => by cases z⟩
    · exact I.pin p (List.mem_append_right _ e)
  -- what lies before B
  have B1 : @LE.le Nat _ X.s_0.heap.objs.size s.heap.objs.size := I.sz
  have B2 : @LT.lt Nat _ X.env.locals s.heap.objs.size := I.lt
  have B3 : ∀ x c, X.env.cells.lookup x = some c → @LT.lt Nat _ c s.heap.objs.size := fun x c e => by
    obtain ⟨v, o, ho, _⟩ := I.cell x c e
    exact Heap.lt_size ho
  have B4 : ∀ p ∈ X.pn ++ ((f, lamObj X params body scope pm c' ctv) :: pins), @LT.lt Nat _ p.1 s.heap.objs.size := fun p hp => Heap.lt_size (I'.pin p hp).1
  have B5 : ∀ b ∈ frs X.stack, @LT.lt Nat _ b s.heap.objs.size := fun b hb => by
    obtain ⟨_, o, ho, _⟩ := I.stack.mem hb
    exact Heap.lt_size ho
  have B6 : ∀ b ∈ frs X.stack, s.heap.get? b = none → False := fun b hb e => by
    obtain ⟨_, o, ho, _⟩ := I.stack.mem hb
    rw [ho] at e
    cases e
  refine PySem.call_min_walkK (wpAny_pyIter_list hlist ?_)
  have hI0 : (s.heap.push { cls := .type "list_iterator", data := .fields #[.ref L, .int 0 0] }).objs.size = s.heap.objs.size + 1 := Heap.size_push ..
  have W := (Walks.list (prog := X.prog) (w := X.w) (A := X.A.in1) hr.hd s.heap.objs.size L (Nat.ne_of_lt hLlt) (as.map Value.ref).toArray).toS
  have hch : ∀ b ∈ [s.heap.objs.size + 1, s.heap.objs.size], (b ∈ X.ex ∨ X.s_0.heap.objs.size ≤ b) ∧ b ≠ X.env.locals ∧ (∀ x c, X.env.cells.lookup x = some c → c ≠ b) ∧ ∀ p ∈ X.pn ++ ((f, lamObj X params body scope pm c' ctv) :: pins), p.1 ≠ b := fun b hb => by
    have hb' : @LE.le Nat _ s.heap.objs.size b := by
      rcases List.mem_cons.mp hb with e | e
      · omega
      · rw [List.mem_singleton.mp e]
        exact Nat.le_refl _
    exact ⟨.inr (Nat.le_trans B1 hb'), fun z => by omega, fun x c e z => absurd (B3 x c e) (by rw [z]; exact Nat.not_lt.mpr hb'), fun p hp z => absurd (B4 p hp) (by rw [z]; exact Nat.not_lt.mpr hb')⟩
  have hN : ∀ b ∈ [s.heap.objs.size + 1, s.heap.objs.size], s.heap.get? b = none := fun b hb => by
    rcases List.mem_cons.mp hb with e | e
    · rw [e]
      exact Heap.get?_none_of_le (Nat.le_succ _)
    · rw [List.mem_singleton.mp e]
      exact Heap.get?_none_of_le (Nat.le_refl _)
  have n1 : H (s.heap.objs.size + 1) = none := I.hok.fresh (Nat.le_succ _)
  have n0 : H s.heap.objs.size = none := I.hok.fresh (Nat.le_refl _)
  refine ⟨s.heap.objs.size, _, _, _, _, _, _, JAt X ((f, lamObj X params body scope pm c' ctv) :: pins) σ H s.heap (s.heap.objs.size + 1) s.heap.objs.size, KeyAt s.heap (s.heap.objs.size + 1) s.heap.objs.size k1 k2, lexB k1 k2, rfl, W, ?_, ?_, ?_, ?_, ?_, ?_⟩
  · exact ⟨⟨_, Heap.get?_push_size _ rfl, rfl, rfl⟩, hlist.push _⟩
  · intro b hb
    have hb' : b = s.heap.objs.size ∨ b = L := by simpa using hb
    show b < (s.heap.push _).objs.size
    rw [hI0]
    rcases hb' with e | e
    · rw [e]
      exact Nat.lt_succ_self _
    · rw [e]
      exact Nat.lt_succ_of_lt hLlt
  · simpa using hn
  · show KeyRun X.prog X.w X.A.in1 (.ref f) .Lt (s.heap.push _).objs.size _ _ _ _ _ _ _ _
    rw [hI0]
    refine ⟨fun s1 s2 J m => j_keep hN hch J m, fun i kk s1 s2 V m => ?_, fun i v s1 o Q1 E1 hi hP J St hS h => ?_, fun i j ki kj s1 Q1 E1 J Vi Vj h => ?_⟩
    · obtain ⟨u, t1, t2, e, h1, h2, h3, ob, e4, h5⟩ := V
      exact ⟨u, t1, t2, e, h1, h2, h3, ob, m.heap u ob (by simp [h2, h3]) e4, h5⟩
    · obtain ⟨H3, J1, sm, tp, a1, a2, th⟩ := J
      obtain ⟨a, ha, rfl⟩ : ∃ a, as[i]? = some a ∧ v = .ref a := by
        have hP : (as.map Value.ref).toArray[i]? = some v := hP
        have hP : (as.map Value.ref)[i]? = some v := by simpa using hP
        rw [List.getElem?_map] at hP
        cases e : as[i]? with
        | none =>
          rw [e] at hP
          cases hP
        | some a =>
          rw [e] at hP
          exact ⟨a, rfl, (Option.some.inj hP).symm⟩
      have hcO : H3 c' = some (CodeO c' (X.env.qual ++ "<lambda>")) := sm _ _ hc
      have pf := (J1.pin _ (List.mem_append_right _ (List.mem_cons_self ..))).1
      refine wpAny_call (codeAny_mono (lam_call (body := body) (js := js) (v := .ref a) J1 hA hr1 S cp hl pf hcO (hb _) rfl (fun A outer s H hr2 => hbody A outer s H hr2) (hit i a H3 ha sm)) fun r s2 hq => ?_)
      cases r with
      | error e => exact hq.elim
      | ok fl =>
        cases fl with
        | ret u' =>
          obtain ⟨w, H4, os, bare, un, hok, rw', s4, u, rfl, hu3, hu4⟩ := hq
          obtain rfl : u' = Value.ref u := rw'
          -- S, the record of the walk, and the pairs made
          have hB : ∀ b ∈ frs X.stack, b < s.heap.objs.size := B5
          have kS : s2.heap.get? (s.heap.objs.size + 1) = some o := un.keep _ _ hS a1 (fun z => by have := B5 _ z; omega) (by simp)
          have kIt : ∀ oi, s1.heap.get? s.heap.objs.size = some oi → s2.heap.get? s.heap.objs.size = some oi := fun oi e => un.keep _ _ e a2 (fun z => by have := B5 _ z; omega) (by simp)
          have I4 : Inv X ((f, lamObj X params body scope pm c' ctv) :: pins) σ H4 s2 := J1.call' (ch := []) os un hok bare (fun b z => absurd z (by simp))
          have I5 := inv_cut J1 I4 s4
          have nS : H4 (s.heap.objs.size + 1) = none := un.free _ _ hS a1 (by simp)
          have nI : H4 s.heap.objs.size = none := by
            obtain ⟨oi, e, _⟩ := St.1
            exact un.free _ oi e a2 (by simp)
          have uN : s1.heap.get? u = none := by
            cases e : s1.heap.get? u with
            | none => rfl
            | some ob =>
              rw [un.free u ob e hu3 (by simp)] at hu4
              cases hu4
          have uB : s.heap.get? u = none := by
            cases e : s.heap.get? u with
            | none => rfl
            | some ob =>
              have hu2 : H u = none := by
                cases z : H u with
                | none => rfl
                | some o2 =>
                  rw [sm _ _ z] at hu3
                  cases hu3
              obtain ⟨o2, e2⟩ := th u ob e
              rw [e2] at uN
              cases uN
          refine h _ s2 ⟨cutH H3 H4, I5, sm.trans (cut_same s4), fun b hb => ?_, cut_none s4 nS, cut_none s4 nI, fun b o e => ?_⟩ ⟨?_, ?_⟩ kS ⟨u, ?_⟩ fun j k' V => ?_
          · rcases tp b hb with z | ⟨xs, z⟩
            · exact cut_new z
            · exact .inr ⟨xs, cut_old s4 z⟩
          · obtain ⟨o', e'⟩ := th b o e
            exact un.there b o' e' (by simp)
          · exact St.1.at fun o e => kIt o e
          · obtain ⟨its2, rv2, pl2, _⟩ := I4.list (SqL.of (s4 _ _ (sm _ _ hL)))
            rw [refs_of rv2] at pl2
            exact pl2.isList
          · obtain ⟨its2, rv2, p2, _⟩ := I4.tuple (SqT.of hu4)
            obtain ⟨t1, t2, rfl⟩ := vals_two rv2
            refine ⟨t1, t2, rfl, uB, fun z => ?_, fun z => ?_, p2⟩
            · rw [z, hS] at uN
              cases uN
            · obtain ⟨oi, e, _⟩ := St.1
              rw [z, e] at uN
              cases uN
          · obtain ⟨u', t1, t2, e, g1, g2, g3, g4⟩ := V
            refine ⟨u', ?_⟩
            have there : ∃ ob, s1.heap.get? u' = some ob := let ⟨ob, e, _⟩ := g4; ⟨ob, e⟩
            rcases tp u' g1 with z | ⟨xs, z⟩
            · obtain ⟨ob, e4, e5⟩ := g4
              exact ⟨t1, t2, e, g1, g2, g3, ob, un.keep u' ob e4 z (fun z => B6 _ z g1) (by simp), e5⟩
            · obtain ⟨itsA, rA, pA, _⟩ := J1.tuple (SqT.of z)
              have eA := isTup_inj pA g4
              obtain ⟨itsB, rB, pB, _⟩ := I4.tuple (SqT.of (s4 _ _ z))
              rw [eA] at rA
              have ex := two_vals rA
              subst ex
              obtain ⟨t1', t2', rfl⟩ := vals_two rB
              exact ⟨t1', t2', e, g1, g2, g3, pB⟩
        | next => exact hq.elim
        | brk => exact hq.elim
        | cont => exact hq.elim
    · obtain ⟨u, t1, t2, rfl, _, _, _, p1⟩ := Vi
      obtain ⟨u', t1', t2', rfl, _, _, _, p2⟩ := Vj
      refine HT.lt_tupInts (ns := [k1 i, k2 i]) (ms := [k1 j, k2 j]) p1 p2 ?_ ?_ ?_ h
      · exact ints_two
      · exact ints_two
      · have := hr.un
        show X.A.units + 1 < _
        omega
  · refine ⟨H, I'.kept (t' := s.toks) fun b o e => Heap.get?_push_of_some _ e, Same.refl H, fun b hb => .inl ?_, n1, n0, fun b o e => ⟨o, Heap.get?_push_of_some _ e⟩⟩
    cases e : H b with
    | none => rfl
    | some o =>
      obtain ⟨ob, z⟩ := obj_is (I.hok b o e)
      rw [hb] at z
      cases z
  · intro v s2 hP J
    obtain ⟨H3, J1, sm, _⟩ := J
    have hP : (as.map Value.ref).toArray[PySem.argBest (lexB k1 k2) ((as.map Value.ref).toArray.size - 1)]? = some v := hP
    have hP : (as.map Value.ref)[argB (lexB k1 k2) (as.length - 1)]? = some v := by
      rw [argB_is] at hP
      simpa using hP
    rw [List.getElem?_map] at hP
    cases e : as[argB (lexB k1 k2) (as.length - 1)]? with
    | none =>
      rw [e] at hP
      cases hP
    | some a =>
      rw [e] at hP
      obtain rfl := (Option.some.inj hP).symm
      exact ⟨.ref a, H3, J1.pins_of fun p hp => J1.pin p (List.mem_append_right _ (List.mem_cons_of_mem _ hp)), rfl, q a H3 e sm⟩
end
end Hl

set_option Elab.async false
set_option linter.all false
set_option maxRecDepth 100000
set_option maxHeartbeats 2000000
/-! # Hides and layers, part 17: min(.., key=lambda ..) as an expression; the best plan. -/
namespace Hl
open PySem PySem.Spec PyProof.Rows L2 LamX NdefX
open Kp397 (Splitter Product)
/-- what is asked of the list that min walks, and of the key -/
def minRest (T : List (Addr × Str)) (N : List Str) (js : List Nat) (tb : TE) (σ : L2.St) (Q : VK) (x : V) (H1 : Hp) : Prop := ∃ (L : Addr) (as : List Addr) (k1 k2 : Nat → Int), x = .ref L ∧ H1 L = some (.lst (as.map V.ref)) ∧ 0 < as.length ∧ Tabs T H1 ∧ ∀ H2, ExtN H1 H2 → Tabs T H2 →
  (∀ (i : Nat) (a : Addr) (H3 : Hp), as[i]? = some a → Same H2 H3 → tb (startF N [.ref a] (js.map (slotAt σ))) H3 fun w H4 => Same H3 H4 ∧ ∃ u, w = .ref u ∧ H3 u = none ∧ H4 u = some (.tup [.int (k1 i), .int (k2 i)])) ∧
  ∀ (a : Addr) (H3 : Hp), as[argB (lexB k1 k2) (as.length - 1)]? = some a → Same H2 H3 → Q (.ref a) H3
/-- the reading of min(list of lists, key=lambda of one parameter) -/
def tMinKey (T : List (Addr × Str)) (N : List Str) (js : List Nat) (te tb : TE) : TE := fun σ H Q => te σ H (minRest T N js tb σ Q)
def onOne (R : V → Hp → Prop) : List V → Hp → Prop
  | [v], H => R v H
  | _, _ => False
section
variable {X : Cx}
theorem pe_minlam {T : List (Addr × Str)} {c P : Addr} {k : Nat} {x : Str} {e : Expr} {te tb : TE} {params : Arguments} {body : Expr} {scope : Scope} {N ps fr : List Str} {js : List Nat} {p pos kpos lpos : Pos} (hg : Gl X x) (hm : X.mg x = none) (hv : bootBuiltins x = some (.builtin "min")) (he : PE X e te)
    (TB : TabB X.base X.mg c P) (hcode : X.env.code = .ref c) (hmT : (P, X.env.qual ++ "<lambda>") ∈ T) (hu : ∀ p ∈ T, p.1 = P → p.2 = X.env.qual ++ "<lambda>") (hr : Room (k + 2) X.A) (S : NScope N ps fr scope) (hnd : ndefB X.env.scope scope fr = true) (hjs : js.map (fun j => X.N[j]?) = fr.map some) (hl : ps.length = 1)
    (hdef : defaultsOf params X.env = ([], [])) (hb : ∀ (q : Str) (cl : List (Str × Addr)) (pm cv ctv u : Value), bindArgs (PySem.W.kla_fn "<lambda>" q params body scope cl pm cv ctv) ⟨[u], []⟩ = pure (ps.zip [u]))
    (hbody : ∀ (f c' : Addr) (A : Around) (outer : List Env) (s : Shared) (H : Hp), Room k (A.deeper (envF (lamNF X params scope c') f s.heap.objs.size)) → PE (ncx C8.CX0 X.prog X.w X.K X.mg X.base N (lamNF X params scope c') f A outer s H C8.E0) body tb)
    (hn : x ≠ "__name__" := by decide) (hdb : (x == ("__debug__" : Str)) = false := by decide)
    (hs : starEach [e] X.env = (false, eval e X.env) :: starEach [] X.env := by rfl) (hs2 : backTo pos (starEach [e] X.env) = (false, eval e X.env) :: backTo pos (starEach [] X.env) := by rfl) (hpl : (backTo pos (starEach [e] X.env)).any (·.1) = false := by rfl) :
    PE X (.Call (.Name x p) [e] [⟨some (Str.ofString "key"), .Lambda params body scope lpos, kpos⟩] pos) (tMinKey T N js te tb) := by
  refine ⟨fun pins s σ H Q I h => ?_⟩
  refine wpAny_Call_Name_kw (ld_blt I hg hm hv ?_ hn hdb)
  have hq : tCons te tNil σ H (onOne (minRest T N js tb σ Q)) := h
  refine PyProof.Rows.callWith_kw (thn ((pa_cons he pa_nil hs).run pos pins s σ H _ I hq) fun us s1 ⟨vs, H1, I1, r1, q1⟩ => ?_) hs2 hpl
  obtain ⟨v, rfl⟩ : ∃ v, vs = [v] := by
    cases vs with
    | nil => exact False.elim q1
    | cons v r =>
      cases r with
      | nil => exact ⟨v, rfl⟩
      | cons _ _ => exact False.elim q1
  obtain ⟨L, as, k1, k2, rfl, hL, hn0, hT, q⟩ := q1
  obtain ⟨u, rfl, ru⟩ := r1.one
  obtain rfl : u = Value.ref L := ru
  show wpAny _ _ (evalAll ((do let v ← eval (.Lambda params body scope lpos) X.env; standAt pos; pure v) :: [])) _ _ s1
  have hfree : ∀ y ∈ scope.names, y.2 = .free → ∃ c, X.env.cells.lookup y.1 = some c := fun y hy ey => (ndef_free hnd y hy ey).elim (fun z => I1.ok.has _ (.inl z)) fun z => I1.ok.has _ (.inr z)
  refine wpAny_evalAll_cons (wpAny_bind (lam_make2 I1 TB hcode hmT hu hT hdef hfree fun f c' pm ctv H2 s2 I2 eN T2 hf hfn hfr hco => wpAny_bind (wpAny_standAt (wpAny_pure (wpAny_evalAll_nil ?_)))))
  obtain ⟨q1, q2⟩ := q H2 eN T2
  have hL2 : H2 L = some (.lst (as.map V.ref)) := eN _ _ hL fun ps z => by cases z
  show wpAny _ _ (call (.builtin "min") [.ref L] [(Str.ofString "key", .ref f)]) _ _ _
  exact min_walk I2 hL2 hn0 hr S (fun ok => Caps.made ok (ndef_free hnd) (ndef_fr hnd) hjs) hl hf hfn hfr hco (fun u => hb _ _ _ _ _ u) (hbody f c') q1 q2
end
end Hl

set_option Elab.async false
set_option linter.all false
set_option maxRecDepth 100000
set_option maxHeartbeats 2000000
/-! # Hides and layers, part 18: the best plan, the waste, the layers of a product. -/
namespace Hl
open PySem PySem.Spec PyProof.Rows L2 LamX NdefX
open Kp397 (Splitter Product)
section
variable {P : Program} {w : World} {K : PySem.W.Frag} {mg : Str → Option Value} {base : Heap} {RC C : Addr}
/-- a def that refuses, by its body, its code object known -/
theorem okXC {x qual : Str} {st : Stmt} {f c : Addr} {fd : FuncData} {N ps : List Str} {k : Nat} {sp : Sp} (F : Fun K x qual st f fd) (hc : fd.code = .ref c) (S : FnScope N ps (defScope st)) (len : ∀ vs H Q E, sp vs H Q E → vs.length = ps.length)
    (hbody : ∀ (A : Around) (outer : List Env) (s : Shared) (H : Hp) (vs : List V) (Q : VK) (E : XK), Room k (A.deeper (envOfC qual (defScope st) s.heap.objs.size f (.ref c))) → sp vs H Q E →
      ∃ t, PSs (cxOf (L2.CX P w) P w K mg base N qual (defScope st) f (.ref c) A outer s H E) (defBody st) t ∧ t { nx := fun _ H' => Q .non H', rt := Q } (start N vs) H) : FnOk P w K mg base (L2.CX P w) (k + 1) f fd ps sp := by
  obtain ⟨oc, od, kV, doc, pm, an, cdv, ct, osl, rfl, lk, hcd⟩ := F.ex
  have hc : cdv = .ref c := hc
  subst hc
  exact fn_of lk hcd S len fun A outer s H vs Q E hr hsp => hbody A outer s H vs Q E hr hsp
/-- the name of the lambda's code object -/
def lamQ : Str := (envOfC ("Splitter.best_plan" : Str) (defScope (inClass (top 38) 13)) 0 0 .none).qual ++ "<lambda>"
/-- the table -/
abbrev TT (T0 : Addr) : List (Addr × Str) := [(T0, lamQ)]

/-- the lambda's names -/
def lamSc : Scope := { kind := .function, names := [("plan", .local), ("hide", .free), ("self", .free), ("sum_of_prices", .globalImplicit), ("number_of_cuts", .globalImplicit)], isGenerator := false, isCoroutine := false }
theorem ndB : ndefB (defScope (inClass (top 38) 13)) lamSc ["self", "hide"] = true := by decide +kernel
theorem nsB : nscB ["plan", "self", "hide"] ["plan"] ["self", "hide"] lamSc = true := by decide +kernel
abbrev tbBest (K : PySem.W.Frag) : TE := tTup (tCons (tUn (rU fun i => .int (-i)) (tCall (spSum K) [] E0 (tCons (tVar 0) (tCons (tFld K (tVar 1) "prices") tNil)))) (tCons (tCall (spCuts K) [] E0 (tCons (tVar 0) (tCons (tFld K (tVar 1) "cut_loss") (tCons (tVar 2) tNil)))) tNil))

/-! ### best_plan -/
def spBest (K : PySem.W.Frag) (RC C T0 : Addr) : Sp := fun vs H Q E => ∃ (a dx d : Addr) (s : Splitter) (h : Nat), vs = [.ref a, .int (h : Int)] ∧ SpAt C H a dx d s ∧ Good 6 s ∧ Tabs (TT T0) H ∧
  (Kp397.validHide h = false → Ref K RC H E (-22)) ∧ (Kp397.validHide h = true → ∀ (H' : Hp) (r : Addr), ExtN H H' → Tabs (TT T0) H' → H' r = some (.lst (vN (Kp397.bestPlan s h))) → Q (.ref r) H')
theorem scBest : FnScope ["self", "hide"] ["self", "hide"] (defScope (inClass (top 38) 13)) := ⟨rfl, rfl, rfl, by decide +kernel, rfl, by decide +kernel, by decide +kernel⟩
theorem ExtN.same {H H' : Hp} (s : Same H H') : ExtN H H' := fun b o e _ => s b o e
theorem lex_nat (va vb ka kb : Nat) : HT.lexLt [-(va : Int), (ka : Int)] [-(vb : Int), (kb : Int)] = decide (vb < va ∨ (va = vb ∧ ka < kb)) := by
  show (if -(va : Int) = -(vb : Int) then (if (ka : Int) = (kb : Int) then false else decide ((ka : Int) < (kb : Int))) else decide (-(va : Int) < -(vb : Int))) = _
  by_cases e : va = vb
  · subst e
    rw [if_pos rfl]
    by_cases e2 : ka = kb
    · subst e2
      rw [if_pos rfl]
      exact (decide_eq_false (by omega)).symm
    · rw [if_neg (by omega)]
      exact decide_eq_decide.mpr (by omega)
  · rw [if_neg (by omega)]
    exact decide_eq_decide.mpr (by omega)
theorem lex_better (s : Splitter) (h : Nat) (a b : Nat) : lexB (fun i => -((Kp397.planValue s ((Kp397.plans s h).getD i []) : Nat) : Int)) (fun i => ((cuts s.cutLoss h ((Kp397.plans s h).getD i []) : Nat) : Int)) a b =
    decide (better (Kp397.planValue s) (Kp397.cutCount s h) ((Kp397.plans s h).getD b []) ((Kp397.plans s h).getD a [])) := by
  refine (lex_nat _ _ _ _).trans (decide_eq_decide.mpr ?_)
  unfold better
  rw [cuts_is, cuts_is]
theorem okBest {f fF fS fN c0 T0 : Addr} {fd dF dS dN : FuncData} (D : Mt K C "best_plan" "Splitter.best_plan" (inClass (top 38) 13) ["self", "hide"] f fd) (hcode : fd.code = .ref c0) (TB : TabB base mg c0 T0)
    (F : Mt K C "plans_for" "Splitter.plans_for" (inClass (top 38) 11) ["self", "hide"] fF dF) (GF : FnOk P w K mg base (L2.CX P w) 5 fF dF ["self", "hide"] (spFor K RC C))
    (Su : Df K mg "sum_of_prices" (top 27) ["plan", "prices"] fS dS) (GS : FnOk P w K mg base CX0 1 fS dS ["plan", "prices"] (spSum K)) (N : Df K mg "number_of_cuts" (top 29) ["plan", "cut_loss", "hide"] fN dN) (GN : FnOk P w K mg base CX0 2 fN dN ["plan", "cut_loss", "hide"] (spCuts K))
    (S : Sc K mg C) (B : Blt mg) : FnOk P w K mg base (L2.CX P w) 6 f fd ["self", "hide"] (spBest K RC C T0) := by
  refine okXC D.F hcode scBest (fun vs H Q E h => ?_) (fun A outer s H vs Q E hr h => ⟨_,
    pss_one (ps_ret (pe_minlam (T := TT T0) (k := 2) (N := ["plan", "self", "hide"]) (ps := ["plan"]) (fr := ["self", "hide"]) (js := [0, 1]) (tb := tbBest K) (by rfl) B.min (by decide +kernel)
      (pe_meth (pv 0) S.cl F.m GF (hr.mono (by decide)) F.b .nil (passes_call (takes_of rfl rfl rfl rfl) (W := fun cls d _ H => E cls d H) (fun _ _ _ _ z => z)) (pa_cons (pv 1) pa_nil)) TB rfl (List.mem_singleton.mpr rfl) (fun p hp _ => by rw [List.mem_singleton.mp hp]; rfl) (hr.mono (by decide)) (nscope_by nsB) ndB rfl rfl rfl (fun _ _ _ _ _ _ => rfl)
      (fun _ _ _ _ _ _ hr2 => pe_tup (pa_cons (pe_un un_neg (pe_call GS (hr2.mono (by decide)) rfl Su.g Su.k Su.b .nil pass0 (pa_cons (pv 0) (pa_cons (pe_fld (pv 1) rfl) pa_nil)))) (pa_cons (pe_call GN hr2 rfl N.g N.k N.b .nil pass0 (pa_cons (pv 0) (pa_cons (pe_fld (pv 1) rfl) (pa_cons (pv 2) pa_nil)))) pa_nil)))))
    , ?_⟩)
  · obtain ⟨a, dx, d, s, h, rfl, _⟩ := h
    rfl
  · obtain ⟨a, dx, d, s, h, rfl, hs, g, hT, kE, kQ⟩ := h
    have g7 := g.mono (m := 7) (by decide)
    refine ⟨_, rfl, a, dx, _, rfl, hs.ins, spF_no s d (by decide +kernel), _, rfl, a, dx, d, s, h, rfl, hs, g, kE, fun hh H1 L as s1 hL pas => ?_⟩
    have al := pas.len
    obtain ⟨r, er⟩ := nil_plans s h
    have hn : 0 < as.length := by
      rw [al, er]
      simp
    refine ⟨L, as, fun i => -((Kp397.planValue s ((Kp397.plans s h).getD i []) : Nat) : Int), fun i => ((cuts s.cutLoss h ((Kp397.plans s h).getD i []) : Nat) : Int), rfl, hL, hn, hT.ext s1, fun H2 eN T2 => ⟨fun i b H3 hb s3 => ?_, fun b H3 hb s3 => ?_⟩⟩
    · obtain ⟨p, hp, hH⟩ := pas.at hb
      obtain ⟨hp6, hpk⟩ := plan_len g7 (List.mem_of_getElem? hp)
      have hs3 : SpAt C H3 a dx d s := ⟨s3 _ _ (eN _ _ (s1 _ _ hs.ins) fun ps z => by cases z), s3 _ _ (eN _ _ (s1 _ _ hs.dict) fun ps z => by cases z)⟩
      have hb3 : H3 b = some (.lst (vN p)) := s3 _ _ (eN _ _ hH fun ps z => by cases z)
      have ep : (Kp397.plans s h).getD i [] = p := by
        rw [List.getD_eq_getElem?_getD, hp]
        rfl
      dsimp only
      rw [ep]
      refine ⟨_, rfl, _, rfl, a, C, dx, _, _, rfl, hs3.ins, S.cl, S.nP, spF_prices s d, b, d, p, s, rfl, SqL.of hb3, hs3.dict, hpk, by omega, fun H4 s4 => ?_⟩
      have hs4 := hs3.same s4
      refine ⟨_, rfl, _, rfl, _, rfl, a, C, dx, _, _, rfl, hs4.ins, S.cl, S.nL, spF_loss s d, _, rfl, b, p, s.cutLoss, h, rfl, SqL.of (s4 _ _ hb3), by omega, g.cut, (by show 2 ≤ sizeLine; decide), fun u hu => ?_⟩
      exact ⟨same_upd' s4 hu, u, rfl, s4.free hu, upd_same⟩
    · have hx : argB (lexB (fun i => -((Kp397.planValue s ((Kp397.plans s h).getD i []) : Nat) : Int)) (fun i => ((cuts s.cutLoss h ((Kp397.plans s h).getD i []) : Nat) : Int))) (as.length - 1) < as.length := by
        have := argB_le (lexB (fun i => -((Kp397.planValue s ((Kp397.plans s h).getD i []) : Nat) : Int)) (fun i => ((cuts s.cutLoss h ((Kp397.plans s h).getD i []) : Nat) : Int))) (as.length - 1)
        omega
      obtain ⟨p, hp, hH⟩ := pas.at hb
      have ep : p = Kp397.bestPlan s h := by
        rw [← best_arg s h _ (lex_better s h), ← al, List.getD_eq_getElem?_getD, hp]
        rfl
      subst ep
      refine kQ hh H3 b (fun x o e n => s3 _ _ (eN _ _ (s1 _ _ e) n)) (T2.ext s3) (s3 _ _ (eN _ _ hH fun ps z => by cases z))
end
end Hl

set_option Elab.async false
set_option linter.all false
set_option maxRecDepth 100000
set_option maxHeartbeats 2000000
/-! # Hides and layers, part 19: the waste, the layers of a product. -/
namespace Hl
open PySem PySem.Spec PyProof.Rows L2 LamX NdefX
open Kp397 (Splitter Product)
theorem best_sum (s : Splitter) (h : Nat) : (Kp397.bestPlan s h).sum ≤ h := by
  have hm := best_mem s h
  unfold Kp397.plans at hm
  have hf := (List.mem_filter.mp hm).2
  rw [fits_is] at hf
  unfold fitsB used at hf
  rw [Bool.and_eq_true_iff] at hf
  have := of_decide_eq_true hf.1
  omega
section
variable {P : Program} {w : World} {K : PySem.W.Frag} {mg : Str → Option Value} {base : Heap} {RC C : Addr}
/-! ### waste -/
def spWaste (K : PySem.W.Frag) (RC C T0 : Addr) : Sp := fun vs H Q E => ∃ (a dx d : Addr) (s : Splitter) (h : Nat), vs = [.ref a, .int (h : Int)] ∧ SpAt C H a dx d s ∧ Good 6 s ∧ Tabs (TT T0) H ∧
  (Kp397.validHide h = false → Ref K RC H E (-22)) ∧ (Kp397.validHide h = true → ∀ H', ExtN H H' → Tabs (TT T0) H' → Q (.int (Kp397.waste h (Kp397.bestPlan s h) : Nat)) H')
theorem scWaste : FnScope ["self", "hide"] ["self", "hide"] (defScope (inClass (top 38) 14)) := ⟨rfl, rfl, rfl, by decide +kernel, rfl, by decide +kernel, by decide +kernel⟩
theorem okWaste {f fB T0 : Addr} {fd dB : FuncData} (D : Mt K C "waste" "Splitter.waste" (inClass (top 38) 14) ["self", "hide"] f fd) (F : Mt K C "best_plan" "Splitter.best_plan" (inClass (top 38) 13) ["self", "hide"] fB dB) (GF : FnOk P w K mg base (L2.CX P w) 6 fB dB ["self", "hide"] (spBest K RC C T0))
    (S : Sc K mg C) (B : Blt mg) : FnOk P w K mg base (L2.CX P w) 7 f fd ["self", "hide"] (spWaste K RC C T0) := by
  refine D.F.okX scWaste (fun vs H Q E h => ?_) (fun cdv A outer s H vs Q E hr h => ⟨_,
    pss_one (ps_ret (pe_op op_sub (pv 1) (pe_callB (cr_sum rfl) (by rfl) B.sum (by decide +kernel) (pa_cons (pe_meth (pv 0) S.cl F.m GF hr F.b .nil (passes_call (takes_of rfl rfl rfl rfl) (W := fun cls d _ H => E cls d H) (fun _ _ _ _ z => z)) (pa_cons (pv 1) pa_nil)) pa_nil)))), ?_⟩)
  · obtain ⟨a, dx, d, s, h, rfl, _⟩ := h
    rfl
  · obtain ⟨a, dx, d, s, h, rfl, hs, g, hT, kE, kQ⟩ := h
    refine ⟨_, rfl, _, rfl, a, dx, _, rfl, hs.ins, spF_no s d (by decide +kernel), _, rfl, a, dx, d, s, h, rfl, hs, g, hT, kE, fun hh H1 r eN T1 hr1 => ?_⟩
    refine ⟨r, iN (Kp397.bestPlan s h), rfl, SqL.of hr1, _, _, rfl, rfl, ?_⟩
    have q := kQ hh H1 eN T1
    have e : ((Kp397.waste h (Kp397.bestPlan s h) : Nat) : Int) = (h : Int) - (iN (Kp397.bestPlan s h)).sum := by
      rw [iN_sum]
      have := best_sum s h
      show ((h - (Kp397.bestPlan s h).sum : Nat) : Int) = _
      omega
    rw [e] at q
    exact q

/-! ### layers_of_product -/
def spLP (K : PySem.W.Frag) (RC C T0 : Addr) : Sp := fun vs H Q E => ∃ (a dx d : Addr) (s : Splitter) (h x : Nat), vs = [.ref a, .int (h : Int), .int (x : Int)] ∧ SpAt C H a dx d s ∧ Good 6 s ∧ Tabs (TT T0) H ∧
  (Kp397.isProduct s x = false → Ref K RC H E (-2)) ∧ (Kp397.isProduct s x = true → Kp397.validHide h = false → Ref K RC H E (-22)) ∧ (Kp397.isProduct s x = true → Kp397.validHide h = true → ∀ H', ExtN H H' → Tabs (TT T0) H' → Q (.int ((Kp397.bestPlan s h).count x : Nat)) H')
theorem scLP : FnScope ["self", "hide", "thickness"] ["self", "hide", "thickness"] (defScope (inClass (top 38) 21)) := ⟨rfl, rfl, rfl, by decide +kernel, rfl, by decide +kernel, by decide +kernel⟩
theorem okLP {f fB fP T0 : Addr} {fd dB dP : FuncData} (D : Mt K C "layers_of_product" "Splitter.layers_of_product" (inClass (top 38) 21) ["self", "hide", "thickness"] f fd) (F : Mt K C "best_plan" "Splitter.best_plan" (inClass (top 38) 13) ["self", "hide"] fB dB) (GF : FnOk P w K mg base (L2.CX P w) 6 fB dB ["self", "hide"] (spBest K RC C T0))
    (Pr : Mt K C "check_product" "Splitter.check_product" (inClass (top 38) 1) ["self", "thickness"] fP dP) (GP : FnOk P w K mg base (L2.CX P w) 2 fP dP ["self", "thickness"] (spCP K RC C)) (S : Sc K mg C) : FnOk P w K mg base (L2.CX P w) 7 f fd ["self", "hide", "thickness"] (spLP K RC C T0) := by
  refine D.F.okX scLP (fun vs H Q E h => ?_) (fun cdv A outer s H vs Q E hr h => ⟨_,
    pss_cons (ps_expr (pe_meth (pv 0) S.cl Pr.m GP (hr.mono (by decide)) Pr.b .nil (passes_call (takes_of rfl rfl rfl rfl) (W := fun cls d _ H => E cls d H) (fun _ _ _ _ z => z)) (pa_cons (pv 2) pa_nil)))
    (pss_one (ps_ret (pe_bm PySem.F.plainAttrs_list PySem.F.slot_list_count PySem.F.type_list_count mt_lcount (pe_meth (pv 0) S.cl F.m GF hr F.b .nil (passes_call (takes_of rfl rfl rfl rfl) (W := fun cls d _ H => E cls d H) (fun _ _ _ _ z => z)) (pa_cons (pv 1) pa_nil)) (pa_cons (pv 2) pa_nil)))), ?_⟩)
  · obtain ⟨a, dx, d, s, h, x, rfl, _⟩ := h
    rfl
  · obtain ⟨a, dx, d, s, h, x, rfl, hs, g, hT, kN, kE, kQ⟩ := h
    refine ⟨_, rfl, a, dx, _, rfl, hs.ins, spF_no s d (by decide +kernel), _, rfl, a, dx, d, s, x, rfl, hs, kN, fun hp => ?_⟩
    refine ⟨_, rfl, a, dx, _, rfl, hs.ins, spF_no s d (by decide +kernel), _, rfl, a, dx, d, s, h, rfl, hs, g, hT, kE hp, fun hh H1 r eN T1 hr1 => ?_⟩
    refine ⟨.inl ⟨rfl, _, SqL.of hr1⟩, _, rfl, r, iN (Kp397.bestPlan s h), (x : Int), rfl, rfl, SqL.of hr1, ?_⟩
    rw [iN_count]
    exact kQ hp hh H1 eN T1
end
end Hl

set_option Elab.async false
set_option linter.all false
set_option maxRecDepth 100000
set_option maxHeartbeats 2000000
/-! # Hides and layers, part 20: the answers, call by call: what each of them promises. -/
namespace Hl
open PySem PySem.Spec PyProof.Rows L2 LamX NdefX
open Kp397 (Splitter Product)
/-- all but the splitter's own objects and the tables is as it was -/
def FrA (a d : Addr) (H H' : Hp) : Prop := ∀ b o, H b = some o → b ≠ a → b ≠ d → (∀ ps, o ≠ .tbl ps) → H' b = some o
def AnsE (K : PySem.W.Frag) (RC : Addr) (H : Hp) (E : XK) (s : Splitter) (st : Kp397.State × List Int) : Prop := ∀ z, st = (some s, [z]) → Ref K RC H E z
def AnsQ (C T0 a dx d : Addr) (H : Hp) (Q : VK) (st : Kp397.State × List Int) : Prop := ∀ (s' : Splitter) (H' : Hp) (r : Addr), st.1 = some s' → SpAt C H' a dx d s' → Good 6 s' → Tabs (TT T0) H' → FrA a d H H' → H' r = some (.lst (st.2.map V.int)) → (∀ xs, H r ≠ some (.lst xs)) → Q (.ref r) H'
/-- call j of a splitter -/
abbrev stN (s : Splitter) (j : Nat) (ns : List Nat) : Kp397.State × List Int := Kp397Neutral.step (some s) [(j : Int) :: iN ns]
def spAns (K : PySem.W.Frag) (RC C T0 : Addr) (j : Nat) : Sp := fun vs H Q E => ∃ (a dx d l : Addr) (s : Splitter) (ns : List Nat), vs = [.ref a, .ref l] ∧ SpAt C H a dx d s ∧ Good 6 s ∧ Tabs (TT T0) H ∧ SqL K H l (vN ns) ∧ askP ((j : Int), iN ns) = true ∧
  AnsE K RC H E s (stN s j ns) ∧ AnsQ C T0 a dx d H Q (stN s j ns)
/-! ### the numbers of a call -/
theorem iN_nat (l : List Nat) : (iN l).map Int.toNat = l := by
  unfold iN
  rw [List.map_map]
  exact (List.map_congr_left fun x _ => rfl).trans (List.map_id l)
def hasN : Nat → Nat → Bool
  | 0, n => n == 2
  | 1, n => n == 2
  | 2, n => n == 1
  | 3, n => n == 2
  | 4, n => n == 0
  | 5, n => n == 2
  | 6, n => decide (n ≤ 8)
  | 7, n => decide (1 ≤ n ∧ n ≤ 9)
  | 8, n => decide (1 ≤ n ∧ n ≤ 9)
  | 9, n => n == 1
  | 10, n => n == 1
  | 11, n => n == 1
  | 12, n => n == 1
  | 13, n => n == 1
  | 14, n => n == 0
  | 15, n => n == 1
  | 16, n => n == 3
  | 17, n => n == 3
  | 18, n => n == 2
  | 19, n => n == 2
  | _, _ => false
theorem asked_z {z : Int} {l : List Int} (h : askP (z, l) = true) : ∃ j : Nat, z = (j : Int) ∧ hasN j l.length = true := by
  unfold askP at h
  dsimp only at h
  unfold Kp397Neutral.asked1 at h
  split at h <;> (try rename_i e; simp only [List.cons.injEq, and_true] at e; obtain ⟨e1, e2⟩ := e; subst e1; subst e2)
  all_goals first
    | (cases h; done)
    | exact ⟨0, rfl, rfl⟩
    | exact ⟨1, rfl, rfl⟩
    | exact ⟨2, rfl, rfl⟩
    | exact ⟨3, rfl, rfl⟩
    | exact ⟨4, rfl, rfl⟩
    | exact ⟨5, rfl, rfl⟩
    | exact ⟨9, rfl, rfl⟩
    | exact ⟨10, rfl, rfl⟩
    | exact ⟨11, rfl, rfl⟩
    | exact ⟨12, rfl, rfl⟩
    | exact ⟨13, rfl, rfl⟩
    | exact ⟨14, rfl, rfl⟩
    | exact ⟨15, rfl, rfl⟩
    | exact ⟨16, rfl, rfl⟩
    | exact ⟨17, rfl, rfl⟩
    | exact ⟨18, rfl, rfl⟩
    | exact ⟨19, rfl, rfl⟩
    | (simp only [Bool.and_eq_true] at h
       exact ⟨6, rfl, h.2⟩)
    | (simp only [Bool.and_eq_true] at h
       have := of_decide_eq_true h.2.2
       exact ⟨7, rfl, decide_eq_true ⟨Nat.succ_pos _, Nat.succ_le_succ this⟩⟩)
    | (simp only [Bool.and_eq_true] at h
       have := of_decide_eq_true h.2.2
       exact ⟨8, rfl, decide_eq_true ⟨Nat.succ_pos _, Nat.succ_le_succ this⟩⟩)
theorem asked_len {j : Nat} {l : List Int} (h : askP ((j : Int), l) = true) : hasN j l.length = true := by
  obtain ⟨i, e, q⟩ := asked_z h
  obtain rfl : j = i := by omega
  exact q
theorem asked_l {j : Nat} {ns : List Nat} (h : askP ((j : Int), iN ns) = true) : hasN j ns.length = true := by
  have q := asked_len h
  rw [List.length_map] at q
  exact q
theorem len0 {ns : List Nat} (h : (ns.length == 0) = true) : ns = [] := List.length_eq_zero_iff.mp (beq_iff_eq.mp h)
theorem len1 {ns : List Nat} (h : (ns.length == 1) = true) : ∃ x, ns = [x] := List.length_eq_one_iff.mp (beq_iff_eq.mp h)
theorem len2 {ns : List Nat} (h : (ns.length == 2) = true) : ∃ x y, ns = [x, y] := by
  have h := beq_iff_eq.mp h
  match ns, h with
  | [x, y], _ => exact ⟨x, y, rfl⟩
theorem len3 {ns : List Nat} (h : (ns.length == 3) = true) : ∃ x y z, ns = [x, y, z] := by
  have h := beq_iff_eq.mp h
  match ns, h with
  | [x, y, z], _ => exact ⟨x, y, z, rfl⟩
theorem lenS {ns : List Nat} (h : decide (1 ≤ ns.length ∧ ns.length ≤ 9) = true) : ∃ x l, ns = x :: l ∧ l.length ≤ 8 := by
  have h := of_decide_eq_true h
  cases ns with
  | nil => exact absurd h.1 (by simp)
  | cons x l => exact ⟨x, l, rfl, Nat.le_of_succ_le_succ h.2⟩
theorem cut1 (x : Nat) (l : List Nat) : cutV (vN (x :: l)) (some 1) none = vN l := by
  show ((vN (x :: l)).drop (HT.sIx (vN (x :: l)).length 0 (some ((1 : Nat) : Int)))).take (HT.sIx (vN (x :: l)).length (vN (x :: l)).length none - HT.sIx (vN (x :: l)).length 0 (some ((1 : Nat) : Int))) = vN l
  rw [HT.sIx_nat, HT.sIx_none]
  have e : min 1 (vN (x :: l)).length = 1 := by rw [vN_len, List.length_cons]; omega
  rw [e]
  show (vN l).take _ = vN l
  refine List.take_of_length_le ?_
  rw [vN_len, vN_len, List.length_cons]
  omega
/-! ### frames -/
theorem FrA.of {a d : Addr} {H H' : Hp} (e : ExtN H H') : FrA a d H H' := fun b o h _ _ n => e b o h n
theorem FrA.ofD {a d : Addr} {H H' : Hp} (e : Only H H' d) : FrA a d H H' := fun b o h _ n _ => e b o h n
theorem FrA.ofA {a d : Addr} {H H' : Hp} (e : Only H H' a) : FrA a d H H' := fun b o h n _ _ => e b o h n
theorem FrA.pre {a d : Addr} {H H1 H' : Hp} (s : Same H H1) (f : FrA a d H1 H') : FrA a d H H' := fun b o h n1 n2 n3 => f b o (s _ _ h) n1 n2 n3
theorem FrA.post {a d : Addr} {H H1 H' : Hp} (f : FrA a d H H1) (s : Same H1 H') : FrA a d H H' := fun b o h n1 n2 n3 => s _ _ (f b o h n1 n2 n3)
theorem FrA.fresh {a d : Addr} {H H' : Hp} {C dx : Addr} {s : Splitter} (f : FrA a d H H') (h : SpAt C H' a dx d s) {p : Addr} (hp : H' p = none) : ∀ xs, H p ≠ some (.lst xs) := fun xs e => by
  have n1 : p ≠ a := (ne_of_none h.ins hp).symm
  have n2 : p ≠ d := (ne_of_none h.dict hp).symm
  rw [f p _ e n1 n2 fun ps z => (by cases z)] at hp
  cases hp
theorem SpAt.ext {C : Addr} {H H' : Hp} {a dx d : Addr} {s : Splitter} (h : SpAt C H a dx d s) (e : ExtN H H') : SpAt C H' a dx d s := ⟨e _ _ h.ins fun ps z => (by cases z), e _ _ h.dict fun ps z => (by cases z)⟩
theorem tabs_only {T : List (Addr × Str)} {H H' : Hp} {d : Addr} {o : HO} (t : Tabs T H) (hd : H d = some o) (n1 : ∀ ps, o ≠ .tbl ps) (n2 : ∀ φ, o ≠ .ext φ) (e : Only H H' d) : Tabs T H' := fun p hp => by
  obtain ⟨ps, h1, h2, h3⟩ := t p hp
  refine ⟨ps, e _ _ h1 fun z => ?_, h2, fun pos cv hc => ?_⟩
  · rw [z, hd] at h1
    exact n1 _ (Option.some.inj h1)
  · obtain ⟨c, e1, e2⟩ := h3 pos cv hc
    refine ⟨c, e1, e _ _ e2 fun z => ?_⟩
    rw [z, hd] at e2
    exact n2 _ (Option.some.inj e2)
section
variable {P : Program} {w : World} {K : PySem.W.Frag} {mg : Str → Option Value} {base : Heap} {RC C T0 : Addr}
theorem stN_is {s s' : Splitter} {j : Nat} {ns : List Nat} {c : Kp397.Call} {A : Kp397.Ans} (hc : Kp397Neutral.callOf [(j : Int) :: iN ns] = some c) (e : Kp397.step (some s) c = (some s', A)) : stN s j ns = (some s', A.num :: A.nums) := by
  unfold stN Kp397Neutral.step
  rw [hc]
  show ((Kp397.step (some s) c).1, (Kp397.step (some s) c).2.num :: (Kp397.step (some s) c).2.nums) = _
  rw [e]
theorem ans_E {H : Hp} {E : XK} {s : Splitter} {j : Nat} {ns : List Nat} {c : Kp397.Call} {z : Int} (kE : AnsE K RC H E s (stN s j ns)) (hc : Kp397Neutral.callOf [(j : Int) :: iN ns] = some c) (e : Kp397.step (some s) c = (some s, Kp397.single z)) : Ref K RC H E z := kE z (stN_is hc e)
theorem ans_R {a dx d r : Addr} {H H1 : Hp} {Q : VK} {s s' : Splitter} {j : Nat} {ns : List Nat} {c : Kp397.Call} {A : Kp397.Ans} (kQ : AnsQ C T0 a dx d H Q (stN s j ns)) (hc : Kp397Neutral.callOf [(j : Int) :: iN ns] = some c) (e : Kp397.step (some s) c = (some s', A))
    (hs : SpAt C H1 a dx d s') (g : Good 6 s') (hT : Tabs (TT T0) H1) (f : FrA a d H H1) (hr : H1 r = some (.lst ((A.num :: A.nums).map V.int))) (hn : ∀ xs, H r ≠ some (.lst xs)) : Q (.ref r) H1 := by
  rw [stN_is hc e] at kQ
  exact kQ s' H1 r rfl hs g hT f hr hn
/-- a single number, in a list of its own -/
theorem ans_C {a dx d p : Addr} {H H1 : Hp} {Q : VK} {s s' : Splitter} {j : Nat} {ns : List Nat} {c : Kp397.Call} {z : Int} (kQ : AnsQ C T0 a dx d H Q (stN s j ns)) (hc : Kp397Neutral.callOf [(j : Int) :: iN ns] = some c) (e : Kp397.step (some s) c = (some s', Kp397.single z))
    (hs : SpAt C H1 a dx d s') (g : Good 6 s') (hT : Tabs (TT T0) H1) (f : FrA a d H H1) (hp : H1 p = none) : Q (.ref p) (upd H1 p (.lst [.int z])) :=
  ans_R kQ hc e (hs.same (same_new hp)) g (hT.ext (same_new hp)) (f.post (same_new hp)) upd_same (f.fresh hs hp)
/-- .. where nothing has changed -/
theorem ans_Q {a dx d p : Addr} {H H1 : Hp} {Q : VK} {s : Splitter} {j : Nat} {ns : List Nat} {c : Kp397.Call} {z : Int} (kQ : AnsQ C T0 a dx d H Q (stN s j ns)) (hs : SpAt C H a dx d s) (g : Good 6 s) (hc : Kp397Neutral.callOf [(j : Int) :: iN ns] = some c) (e : Kp397.step (some s) c = (some s, Kp397.single z))
    (ex : ExtN H H1) (hT : Tabs (TT T0) H1) (hp : H1 p = none) : Q (.ref p) (upd H1 p (.lst [.int z])) := ans_C kQ hc e (hs.ext ex) g hT (.of ex) hp
theorem one_line : 1 ≤ sizeLine := by decide
end
end Hl

set_option Elab.async false
set_option linter.all false
set_option maxRecDepth 100000
set_option maxHeartbeats 2000000
/-! # Hides and layers, part 21: the answers that hold one number. -/
namespace Hl
open PySem PySem.Spec PyProof.Rows L2 LamX NdefX
open Kp397 (Splitter Product)
section
variable {P : Program} {w : World} {K : PySem.W.Frag} {mg : Str → Option Value} {base : Heap} {RC C T0 : Addr}
abbrev pAns : List Str := ["splitter", "numbers"]

/-! ### call 1 -/
theorem scA1 : FnScope pAns pAns (defScope (top 41)) := ⟨rfl, rfl, rfl, by decide +kernel, rfl, by decide +kernel, by decide +kernel⟩
theorem okA1 {f fM : Addr} {fd dM : FuncData} (D : Df K mg "answer_add_product" (top 41) pAns f fd) (M : Mt K C "add_product" "Splitter.add_product" (inClass (top 38) 3) ["self", "thickness", "price"] fM dM) (G : FnOk P w K mg base (L2.CX P w) 3 fM dM ["self", "thickness", "price"] (spAdd K RC C)) (S : Sc K mg C) : FnOk P w K mg base (L2.CX P w) 4 f fd pAns (spAns K RC C T0 1) := by
  refine D.F.okX scA1 (fun vs H Q E h => ?_) (fun cdv A outer s H vs Q E hr h => ⟨_, pss_one (ps_ret (pe_lst (pa_cons (pe_meth (pv 0) S.cl M.m G hr M.b .nil (passes_call (takes_of rfl rfl rfl rfl) (W := fun cls d _ H => E cls d H) (fun _ _ _ _ z => z)) (pa_cons (pe_ix ix_list (pv 1) pe_int (fun _ _ => rfl)) (pa_cons (pe_ix ix_list (pv 1) pe_int (fun _ _ => rfl)) pa_nil))) pa_nil))), ?_⟩)
  · obtain ⟨a, dx, d, l, s, ns, rfl, _⟩ := h
    rfl
  · obtain ⟨a, dx, d, l, s, ns, rfl, hs, g, hT, hS, hk, kE, kQ⟩ := h
    obtain ⟨x, y, rfl⟩ := len2 (asked_l hk)
    refine ⟨_, rfl, a, dx, _, rfl, hs.ins, spF_no s d (by decide +kernel), _, rfl, l, vN [x, y], (0 : Nat), _, rfl, rfl, hS, atI_nat (j := 0) (vN_at (l := [x, y]) (i := 0) rfl), _, rfl, l, vN [x, y], (1 : Nat), _, rfl, rfl, hS, atI_nat (j := 1) (vN_at (l := [x, y]) (i := 1) rfl), ?_⟩
    have hc : Kp397Neutral.callOf [((1 : Nat) : Int) :: iN [x, y]] = some (.addProduct x y) := rfl
    exact ⟨a, dx, d, s, x, y, rfl, hs, g, fun z e => ans_E kE hc e, fun s' z e H1 hs1 g1 on => ⟨one_line, fun p hp => ans_C kQ hc e hs1 g1 (tabs_only hT hs.dict (fun _ z => by cases z) (fun _ z => by cases z) on) (.ofD on) hp⟩⟩

/-! ### call 2 -/
theorem scA2 : FnScope pAns pAns (defScope (top 42)) := ⟨rfl, rfl, rfl, by decide +kernel, rfl, by decide +kernel, by decide +kernel⟩
theorem okA2 {f fM : Addr} {fd dM : FuncData} (D : Df K mg "answer_remove_product" (top 42) pAns f fd) (M : Mt K C "remove_product" "Splitter.remove_product" (inClass (top 38) 4) ["self", "thickness"] fM dM) (G : FnOk P w K mg base (L2.CX P w) 3 fM dM ["self", "thickness"] (spDel K RC C)) (S : Sc K mg C) : FnOk P w K mg base (L2.CX P w) 4 f fd pAns (spAns K RC C T0 2) := by
  refine D.F.okX scA2 (fun vs H Q E h => ?_) (fun cdv A outer s H vs Q E hr h => ⟨_, pss_one (ps_ret (pe_lst (pa_cons (pe_meth (pv 0) S.cl M.m G hr M.b .nil (passes_call (takes_of rfl rfl rfl rfl) (W := fun cls d _ H => E cls d H) (fun _ _ _ _ z => z)) (pa_cons (pe_ix ix_list (pv 1) pe_int (fun _ _ => rfl)) pa_nil)) pa_nil))), ?_⟩)
  · obtain ⟨a, dx, d, l, s, ns, rfl, _⟩ := h
    rfl
  · obtain ⟨a, dx, d, l, s, ns, rfl, hs, g, hT, hS, hk, kE, kQ⟩ := h
    obtain ⟨x, rfl⟩ := len1 (asked_l hk)
    refine ⟨_, rfl, a, dx, _, rfl, hs.ins, spF_no s d (by decide +kernel), _, rfl, l, vN [x], (0 : Nat), _, rfl, rfl, hS, atI_nat (j := 0) (vN_at (l := [x]) (i := 0) rfl), ?_⟩
    have hc : Kp397Neutral.callOf [((2 : Nat) : Int) :: iN [x]] = some (.removeProduct x) := rfl
    exact ⟨a, dx, d, s, x, rfl, hs, g, fun z e => ans_E kE hc e, fun s' z e H1 hs1 g1 on => ⟨one_line, fun p hp => ans_C kQ hc e hs1 g1 (tabs_only hT hs.dict (fun _ z => by cases z) (fun _ z => by cases z) on) (.ofD on) hp⟩⟩

/-! ### call 3 -/
theorem scA3 : FnScope pAns pAns (defScope (top 43)) := ⟨rfl, rfl, rfl, by decide +kernel, rfl, by decide +kernel, by decide +kernel⟩
theorem okA3 {f fM : Addr} {fd dM : FuncData} (D : Df K mg "answer_set_price" (top 43) pAns f fd) (M : Mt K C "set_price" "Splitter.set_price" (inClass (top 38) 5) ["self", "thickness", "price"] fM dM) (G : FnOk P w K mg base (L2.CX P w) 3 fM dM ["self", "thickness", "price"] (spSet K RC C)) (S : Sc K mg C) : FnOk P w K mg base (L2.CX P w) 4 f fd pAns (spAns K RC C T0 3) := by
  refine D.F.okX scA3 (fun vs H Q E h => ?_) (fun cdv A outer s H vs Q E hr h => ⟨_, pss_one (ps_ret (pe_lst (pa_cons (pe_meth (pv 0) S.cl M.m G hr M.b .nil (passes_call (takes_of rfl rfl rfl rfl) (W := fun cls d _ H => E cls d H) (fun _ _ _ _ z => z)) (pa_cons (pe_ix ix_list (pv 1) pe_int (fun _ _ => rfl)) (pa_cons (pe_ix ix_list (pv 1) pe_int (fun _ _ => rfl)) pa_nil))) pa_nil))), ?_⟩)
  · obtain ⟨a, dx, d, l, s, ns, rfl, _⟩ := h
    rfl
  · obtain ⟨a, dx, d, l, s, ns, rfl, hs, g, hT, hS, hk, kE, kQ⟩ := h
    obtain ⟨x, y, rfl⟩ := len2 (asked_l hk)
    refine ⟨_, rfl, a, dx, _, rfl, hs.ins, spF_no s d (by decide +kernel), _, rfl, l, vN [x, y], (0 : Nat), _, rfl, rfl, hS, atI_nat (j := 0) (vN_at (l := [x, y]) (i := 0) rfl), _, rfl, l, vN [x, y], (1 : Nat), _, rfl, rfl, hS, atI_nat (j := 1) (vN_at (l := [x, y]) (i := 1) rfl), ?_⟩
    have hc : Kp397Neutral.callOf [((3 : Nat) : Int) :: iN [x, y]] = some (.setPrice x y) := rfl
    exact ⟨a, dx, d, s, x, y, rfl, hs, g, fun z e => ans_E kE hc e, fun s' z e H1 hs1 g1 on => ⟨one_line, fun p hp => ans_C kQ hc e hs1 g1 (tabs_only hT hs.dict (fun _ z => by cases z) (fun _ z => by cases z) on) (.ofD on) hp⟩⟩

/-! ### call 9 -/
theorem scA9 : FnScope pAns pAns (defScope (top 49)) := ⟨rfl, rfl, rfl, by decide +kernel, rfl, by decide +kernel, by decide +kernel⟩
theorem okA9 {f fM : Addr} {fd dM : FuncData} (D : Df K mg "answer_best_value" (top 49) pAns f fd) (M : Mt K C "best_value" "Splitter.best_value" (inClass (top 38) 12) ["self", "hide"] fM dM) (G : FnOk P w K mg base (L2.CX P w) 6 fM dM ["self", "hide"] (spBV K RC C)) (S : Sc K mg C) : FnOk P w K mg base (L2.CX P w) 7 f fd pAns (spAns K RC C T0 9) := by
  refine D.F.okX scA9 (fun vs H Q E h => ?_) (fun cdv A outer s H vs Q E hr h => ⟨_, pss_one (ps_ret (pe_lst (pa_cons (pe_meth (pv 0) S.cl M.m G hr M.b .nil (passes_call (takes_of rfl rfl rfl rfl) (W := fun cls d _ H => E cls d H) (fun _ _ _ _ z => z)) (pa_cons (pe_ix ix_list (pv 1) pe_int (fun _ _ => rfl)) pa_nil)) pa_nil))), ?_⟩)
  · obtain ⟨a, dx, d, l, s, ns, rfl, _⟩ := h
    rfl
  · obtain ⟨a, dx, d, l, s, ns, rfl, hs, g, hT, hS, hk, kE, kQ⟩ := h
    obtain ⟨x, rfl⟩ := len1 (asked_l hk)
    refine ⟨_, rfl, a, dx, _, rfl, hs.ins, spF_no s d (by decide +kernel), _, rfl, l, vN [x], (0 : Nat), _, rfl, rfl, hS, atI_nat (j := 0) (vN_at (l := [x]) (i := 0) rfl), ?_⟩
    have hc : Kp397Neutral.callOf [((9 : Nat) : Int) :: iN [x]] = some (.bestValue x) := rfl
    exact ⟨a, dx, d, s, x, rfl, hs, g, fun hh => ans_E kE hc (by show (some s, if Kp397.validHide x = true then _ else _) = _; rw [hh]; rfl), fun hh H1 s1 => ⟨one_line, fun p hp => ans_Q kQ hs g hc (by show (some s, if Kp397.validHide x = true then _ else _) = _; rw [hh]; rfl) (ExtN.same s1) (hT.ext s1) hp⟩⟩

/-! ### call 11 -/
theorem scA11 : FnScope pAns pAns (defScope (top 51)) := ⟨rfl, rfl, rfl, by decide +kernel, rfl, by decide +kernel, by decide +kernel⟩
theorem okA11 {f fM : Addr} {fd dM : FuncData} (D : Df K mg "answer_waste" (top 51) pAns f fd) (M : Mt K C "waste" "Splitter.waste" (inClass (top 38) 14) ["self", "hide"] fM dM) (G : FnOk P w K mg base (L2.CX P w) 7 fM dM ["self", "hide"] (spWaste K RC C T0)) (S : Sc K mg C) : FnOk P w K mg base (L2.CX P w) 8 f fd pAns (spAns K RC C T0 11) := by
  refine D.F.okX scA11 (fun vs H Q E h => ?_) (fun cdv A outer s H vs Q E hr h => ⟨_, pss_one (ps_ret (pe_lst (pa_cons (pe_meth (pv 0) S.cl M.m G hr M.b .nil (passes_call (takes_of rfl rfl rfl rfl) (W := fun cls d _ H => E cls d H) (fun _ _ _ _ z => z)) (pa_cons (pe_ix ix_list (pv 1) pe_int (fun _ _ => rfl)) pa_nil)) pa_nil))), ?_⟩)
  · obtain ⟨a, dx, d, l, s, ns, rfl, _⟩ := h
    rfl
  · obtain ⟨a, dx, d, l, s, ns, rfl, hs, g, hT, hS, hk, kE, kQ⟩ := h
    obtain ⟨x, rfl⟩ := len1 (asked_l hk)
    refine ⟨_, rfl, a, dx, _, rfl, hs.ins, spF_no s d (by decide +kernel), _, rfl, l, vN [x], (0 : Nat), _, rfl, rfl, hS, atI_nat (j := 0) (vN_at (l := [x]) (i := 0) rfl), ?_⟩
    have hc : Kp397Neutral.callOf [((11 : Nat) : Int) :: iN [x]] = some (.waste x) := rfl
    exact ⟨a, dx, d, s, x, rfl, hs, g, hT, fun hh => ans_E kE hc (by show (some s, if Kp397.validHide x = true then _ else _) = _; rw [hh]; rfl), fun hh H1 s1 T1 => ⟨one_line, fun p hp => ans_Q kQ hs g hc (by show (some s, if Kp397.validHide x = true then _ else _) = _; rw [hh]; rfl) s1 T1 hp⟩⟩

/-! ### call 12 -/
theorem scA12 : FnScope pAns pAns (defScope (top 52)) := ⟨rfl, rfl, rfl, by decide +kernel, rfl, by decide +kernel, by decide +kernel⟩
theorem okA12 {f fM : Addr} {fd dM : FuncData} (D : Df K mg "answer_plan_count" (top 52) pAns f fd) (M : Mt K C "plan_count" "Splitter.plan_count" (inClass (top 38) 15) ["self", "hide"] fM dM) (G : FnOk P w K mg base (L2.CX P w) 6 fM dM ["self", "hide"] (spPC K RC C)) (S : Sc K mg C) : FnOk P w K mg base (L2.CX P w) 7 f fd pAns (spAns K RC C T0 12) := by
  refine D.F.okX scA12 (fun vs H Q E h => ?_) (fun cdv A outer s H vs Q E hr h => ⟨_, pss_one (ps_ret (pe_lst (pa_cons (pe_meth (pv 0) S.cl M.m G hr M.b .nil (passes_call (takes_of rfl rfl rfl rfl) (W := fun cls d _ H => E cls d H) (fun _ _ _ _ z => z)) (pa_cons (pe_ix ix_list (pv 1) pe_int (fun _ _ => rfl)) pa_nil)) pa_nil))), ?_⟩)
  · obtain ⟨a, dx, d, l, s, ns, rfl, _⟩ := h
    rfl
  · obtain ⟨a, dx, d, l, s, ns, rfl, hs, g, hT, hS, hk, kE, kQ⟩ := h
    obtain ⟨x, rfl⟩ := len1 (asked_l hk)
    refine ⟨_, rfl, a, dx, _, rfl, hs.ins, spF_no s d (by decide +kernel), _, rfl, l, vN [x], (0 : Nat), _, rfl, rfl, hS, atI_nat (j := 0) (vN_at (l := [x]) (i := 0) rfl), ?_⟩
    have hc : Kp397Neutral.callOf [((12 : Nat) : Int) :: iN [x]] = some (.planCount x) := rfl
    exact ⟨a, dx, d, s, x, rfl, hs, g, fun hh => ans_E kE hc (by show (some s, if Kp397.validHide x = true then _ else _) = _; rw [hh]; rfl), fun hh H1 s1 => ⟨one_line, fun p hp => ans_Q kQ hs g hc (by show (some s, if Kp397.validHide x = true then _ else _) = _; rw [hh]; rfl) (ExtN.same s1) (hT.ext s1) hp⟩⟩

/-! ### call 13 -/
theorem scA13 : FnScope pAns pAns (defScope (top 53)) := ⟨rfl, rfl, rfl, by decide +kernel, rfl, by decide +kernel, by decide +kernel⟩
theorem okA13 {f fM : Addr} {fd dM : FuncData} (D : Df K mg "answer_best_plan_count" (top 53) pAns f fd) (M : Mt K C "best_plan_count" "Splitter.best_plan_count" (inClass (top 38) 16) ["self", "hide"] fM dM) (G : FnOk P w K mg base (L2.CX P w) 6 fM dM ["self", "hide"] (spBC K RC C)) (S : Sc K mg C) : FnOk P w K mg base (L2.CX P w) 7 f fd pAns (spAns K RC C T0 13) := by
  refine D.F.okX scA13 (fun vs H Q E h => ?_) (fun cdv A outer s H vs Q E hr h => ⟨_, pss_one (ps_ret (pe_lst (pa_cons (pe_meth (pv 0) S.cl M.m G hr M.b .nil (passes_call (takes_of rfl rfl rfl rfl) (W := fun cls d _ H => E cls d H) (fun _ _ _ _ z => z)) (pa_cons (pe_ix ix_list (pv 1) pe_int (fun _ _ => rfl)) pa_nil)) pa_nil))), ?_⟩)
  · obtain ⟨a, dx, d, l, s, ns, rfl, _⟩ := h
    rfl
  · obtain ⟨a, dx, d, l, s, ns, rfl, hs, g, hT, hS, hk, kE, kQ⟩ := h
    obtain ⟨x, rfl⟩ := len1 (asked_l hk)
    refine ⟨_, rfl, a, dx, _, rfl, hs.ins, spF_no s d (by decide +kernel), _, rfl, l, vN [x], (0 : Nat), _, rfl, rfl, hS, atI_nat (j := 0) (vN_at (l := [x]) (i := 0) rfl), ?_⟩
    have hc : Kp397Neutral.callOf [((13 : Nat) : Int) :: iN [x]] = some (.bestPlanCount x) := rfl
    exact ⟨a, dx, d, s, x, rfl, hs, g, fun hh => ans_E kE hc (by show (some s, if Kp397.validHide x = true then _ else _) = _; rw [hh]; rfl), fun hh H1 s1 => ⟨one_line, fun p hp => ans_Q kQ hs g hc (by show (some s, if Kp397.validHide x = true then _ else _) = _; rw [hh]; rfl) (ExtN.same s1) (hT.ext s1) hp⟩⟩

/-! ### call 15 -/
theorem scA15 : FnScope pAns pAns (defScope (top 55)) := ⟨rfl, rfl, rfl, by decide +kernel, rfl, by decide +kernel, by decide +kernel⟩
theorem okA15 {f fM : Addr} {fd dM : FuncData} (D : Df K mg "answer_least_thickness" (top 55) pAns f fd) (M : Mt K C "least_thickness" "Splitter.least_thickness" (inClass (top 38) 18) ["self", "value"] fM dM) (G : FnOk P w K mg base (L2.CX P w) 5 fM dM ["self", "value"] (spLT K RC C)) (S : Sc K mg C) : FnOk P w K mg base (L2.CX P w) 6 f fd pAns (spAns K RC C T0 15) := by
  refine D.F.okX scA15 (fun vs H Q E h => ?_) (fun cdv A outer s H vs Q E hr h => ⟨_, pss_one (ps_ret (pe_lst (pa_cons (pe_meth (pv 0) S.cl M.m G hr M.b .nil (passes_call (takes_of rfl rfl rfl rfl) (W := fun cls d _ H => E cls d H) (fun _ _ _ _ z => z)) (pa_cons (pe_ix ix_list (pv 1) pe_int (fun _ _ => rfl)) pa_nil)) pa_nil))), ?_⟩)
  · obtain ⟨a, dx, d, l, s, ns, rfl, _⟩ := h
    rfl
  · obtain ⟨a, dx, d, l, s, ns, rfl, hs, g, hT, hS, hk, kE, kQ⟩ := h
    obtain ⟨x, rfl⟩ := len1 (asked_l hk)
    refine ⟨_, rfl, a, dx, _, rfl, hs.ins, spF_no s d (by decide +kernel), _, rfl, l, vN [x], (0 : Nat), _, rfl, rfl, hS, atI_nat (j := 0) (vN_at (l := [x]) (i := 0) rfl), ?_⟩
    have hc : Kp397Neutral.callOf [((15 : Nat) : Int) :: iN [x]] = some (.leastThickness x) := rfl
    have st : Kp397.step (some s) (.leastThickness x) = (some s, if 999 < x then Kp397.single (-22) else match Kp397.leastThickness s x with
      | none => Kp397.single (-33)
      | some t => Kp397.single (t : Nat)) := rfl
    exact ⟨a, dx, d, s, x, rfl, hs, g, fun hh => ans_E kE hc (by rw [st, if_pos hh]), fun hh e => ans_E kE hc (by rw [st, if_neg hh, e]), fun hh t e H1 s1 => ⟨one_line, fun p hp => ans_Q kQ hs g hc (by rw [st, if_neg hh, e]) (ExtN.same s1) (hT.ext s1) hp⟩⟩

/-! ### call 16 -/
theorem scA16 : FnScope pAns pAns (defScope (top 56)) := ⟨rfl, rfl, rfl, by decide +kernel, rfl, by decide +kernel, by decide +kernel⟩
theorem okA16 {f fM : Addr} {fd dM : FuncData} (D : Df K mg "answer_value_with_machine" (top 56) pAns f fd) (M : Mt K C "value_with_machine" "Splitter.value_with_machine" (inClass (top 38) 19) ["self", "cut_loss", "max_cuts", "hide"] fM dM) (G : FnOk P w K mg base (L2.CX P w) 6 fM dM ["self", "cut_loss", "max_cuts", "hide"] (spVM K RC C)) (S : Sc K mg C) : FnOk P w K mg base (L2.CX P w) 7 f fd pAns (spAns K RC C T0 16) := by
  refine D.F.okX scA16 (fun vs H Q E h => ?_) (fun cdv A outer s H vs Q E hr h => ⟨_, pss_one (ps_ret (pe_lst (pa_cons (pe_meth (pv 0) S.cl M.m G hr M.b .nil (passes_call (takes_of rfl rfl rfl rfl) (W := fun cls d _ H => E cls d H) (fun _ _ _ _ z => z)) (pa_cons (pe_ix ix_list (pv 1) pe_int (fun _ _ => rfl)) (pa_cons (pe_ix ix_list (pv 1) pe_int (fun _ _ => rfl)) (pa_cons (pe_ix ix_list (pv 1) pe_int (fun _ _ => rfl)) pa_nil)))) pa_nil))), ?_⟩)
  · obtain ⟨a, dx, d, l, s, ns, rfl, _⟩ := h
    rfl
  · obtain ⟨a, dx, d, l, s, ns, rfl, hs, g, hT, hS, hk, kE, kQ⟩ := h
    obtain ⟨x, y, v, rfl⟩ := len3 (asked_l hk)
    refine ⟨_, rfl, a, dx, _, rfl, hs.ins, spF_no s d (by decide +kernel), _, rfl, l, vN [x, y, v], (0 : Nat), _, rfl, rfl, hS, atI_nat (j := 0) (vN_at (l := [x, y, v]) (i := 0) rfl), _, rfl, l, vN [x, y, v], (1 : Nat), _, rfl, rfl, hS, atI_nat (j := 1) (vN_at (l := [x, y, v]) (i := 1) rfl), _, rfl, l, vN [x, y, v], (2 : Nat), _, rfl, rfl, hS, atI_nat (j := 2) (vN_at (l := [x, y, v]) (i := 2) rfl), ?_⟩
    have hc : Kp397Neutral.callOf [((16 : Nat) : Int) :: iN [x, y, v]] = some (.valueWithMachine x y v) := rfl
    have st : Kp397.step (some s) (.valueWithMachine x y v) = (some s, if (Kp397.validMachine x y && Kp397.validHide v) = true then Kp397.single (Kp397.bestValue { s with cutLoss := x, maxCuts := y } v : Nat) else Kp397.single (-22)) := rfl
    exact ⟨a, dx, d, s, x, y, v, rfl, hs, g, fun hh => ans_E kE hc (by rw [st, hh]; rfl), fun hh H1 s1 => ⟨one_line, fun p hp => ans_Q kQ hs g hc (by rw [st, hh]; rfl) (ExtN.same s1) (hT.ext s1) hp⟩⟩

/-! ### call 17 -/
theorem scA17 : FnScope pAns pAns (defScope (top 57)) := ⟨rfl, rfl, rfl, by decide +kernel, rfl, by decide +kernel, by decide +kernel⟩
theorem okA17 {f fM : Addr} {fd dM : FuncData} (D : Df K mg "answer_value_with_product" (top 57) pAns f fd) (M : Mt K C "value_with_product" "Splitter.value_with_product" (inClass (top 38) 20) ["self", "thickness", "price", "hide"] fM dM) (G : FnOk P w K mg base (L2.CX P w) 6 fM dM ["self", "thickness", "price", "hide"] (spVP K RC C)) (S : Sc K mg C) : FnOk P w K mg base (L2.CX P w) 7 f fd pAns (spAns K RC C T0 17) := by
  refine D.F.okX scA17 (fun vs H Q E h => ?_) (fun cdv A outer s H vs Q E hr h => ⟨_, pss_one (ps_ret (pe_lst (pa_cons (pe_meth (pv 0) S.cl M.m G hr M.b .nil (passes_call (takes_of rfl rfl rfl rfl) (W := fun cls d _ H => E cls d H) (fun _ _ _ _ z => z)) (pa_cons (pe_ix ix_list (pv 1) pe_int (fun _ _ => rfl)) (pa_cons (pe_ix ix_list (pv 1) pe_int (fun _ _ => rfl)) (pa_cons (pe_ix ix_list (pv 1) pe_int (fun _ _ => rfl)) pa_nil)))) pa_nil))), ?_⟩)
  · obtain ⟨a, dx, d, l, s, ns, rfl, _⟩ := h
    rfl
  · obtain ⟨a, dx, d, l, s, ns, rfl, hs, g, hT, hS, hk, kE, kQ⟩ := h
    obtain ⟨x, y, v, rfl⟩ := len3 (asked_l hk)
    refine ⟨_, rfl, a, dx, _, rfl, hs.ins, spF_no s d (by decide +kernel), _, rfl, l, vN [x, y, v], (0 : Nat), _, rfl, rfl, hS, atI_nat (j := 0) (vN_at (l := [x, y, v]) (i := 0) rfl), _, rfl, l, vN [x, y, v], (1 : Nat), _, rfl, rfl, hS, atI_nat (j := 1) (vN_at (l := [x, y, v]) (i := 1) rfl), _, rfl, l, vN [x, y, v], (2 : Nat), _, rfl, rfl, hS, atI_nat (j := 2) (vN_at (l := [x, y, v]) (i := 2) rfl), ?_⟩
    have hc : Kp397Neutral.callOf [((17 : Nat) : Int) :: iN [x, y, v]] = some (.valueWithProduct x y v) := rfl
    have st : Kp397.step (some s) (.valueWithProduct x y v) = (some s, if (Kp397.validProduct x y && Kp397.validHide v) = false then Kp397.single (-22) else if Kp397.isProduct s x = true then Kp397.single (-17) else Kp397.single (Kp397.bestValue { s with products := s.products ++ [⟨x, y⟩] } v : Nat)) := rfl
    exact ⟨a, dx, d, s, x, y, v, rfl, hs, g, fun hh => ans_E kE hc (by rw [st, hh]; rfl), fun hh hp => ans_E kE hc (by rw [st, hh, hp]; rfl), fun hh hp H1 s1 => ⟨one_line, fun p hq => ans_Q kQ hs g hc (by rw [st, hh, hp]; rfl) (ExtN.same s1) (hT.ext s1) hq⟩⟩

/-! ### call 18 -/
theorem scA18 : FnScope pAns pAns (defScope (top 58)) := ⟨rfl, rfl, rfl, by decide +kernel, rfl, by decide +kernel, by decide +kernel⟩
theorem okA18 {f fM : Addr} {fd dM : FuncData} (D : Df K mg "answer_layers_of_product" (top 58) pAns f fd) (M : Mt K C "layers_of_product" "Splitter.layers_of_product" (inClass (top 38) 21) ["self", "hide", "thickness"] fM dM) (G : FnOk P w K mg base (L2.CX P w) 7 fM dM ["self", "hide", "thickness"] (spLP K RC C T0)) (S : Sc K mg C) : FnOk P w K mg base (L2.CX P w) 8 f fd pAns (spAns K RC C T0 18) := by
  refine D.F.okX scA18 (fun vs H Q E h => ?_) (fun cdv A outer s H vs Q E hr h => ⟨_, pss_one (ps_ret (pe_lst (pa_cons (pe_meth (pv 0) S.cl M.m G hr M.b .nil (passes_call (takes_of rfl rfl rfl rfl) (W := fun cls d _ H => E cls d H) (fun _ _ _ _ z => z)) (pa_cons (pe_ix ix_list (pv 1) pe_int (fun _ _ => rfl)) (pa_cons (pe_ix ix_list (pv 1) pe_int (fun _ _ => rfl)) pa_nil))) pa_nil))), ?_⟩)
  · obtain ⟨a, dx, d, l, s, ns, rfl, _⟩ := h
    rfl
  · obtain ⟨a, dx, d, l, s, ns, rfl, hs, g, hT, hS, hk, kE, kQ⟩ := h
    obtain ⟨x, y, rfl⟩ := len2 (asked_l hk)
    refine ⟨_, rfl, a, dx, _, rfl, hs.ins, spF_no s d (by decide +kernel), _, rfl, l, vN [x, y], (0 : Nat), _, rfl, rfl, hS, atI_nat (j := 0) (vN_at (l := [x, y]) (i := 0) rfl), _, rfl, l, vN [x, y], (1 : Nat), _, rfl, rfl, hS, atI_nat (j := 1) (vN_at (l := [x, y]) (i := 1) rfl), ?_⟩
    have hc : Kp397Neutral.callOf [((18 : Nat) : Int) :: iN [x, y]] = some (.layersOfProduct x y) := rfl
    have st : Kp397.step (some s) (.layersOfProduct x y) = (some s, if Kp397.isProduct s y = false then Kp397.single (-2) else if Kp397.validHide x = true then Kp397.single ((Kp397.bestPlan s x).count y : Nat) else Kp397.single (-22)) := rfl
    exact ⟨a, dx, d, s, x, y, rfl, hs, g, hT, fun hp => ans_E kE hc (by rw [st, hp]; rfl), fun hp hh => ans_E kE hc (by rw [st, hp, hh]; rfl), fun hp hh H1 s1 T1 => ⟨one_line, fun p hq => ans_Q kQ hs g hc (by rw [st, hp, hh]; rfl) s1 T1 hq⟩⟩

/-! ### call 19 -/
theorem scA19 : FnScope pAns pAns (defScope (top 59)) := ⟨rfl, rfl, rfl, by decide +kernel, rfl, by decide +kernel, by decide +kernel⟩
theorem okA19 {f fM : Addr} {fd dM : FuncData} (D : Df K mg "answer_value_of_two" (top 59) pAns f fd) (M : Mt K C "value_of_two" "Splitter.value_of_two" (inClass (top 38) 22) ["self", "first", "second"] fM dM) (G : FnOk P w K mg base (L2.CX P w) 7 fM dM ["self", "first", "second"] (spV2 K RC C)) (S : Sc K mg C) : FnOk P w K mg base (L2.CX P w) 8 f fd pAns (spAns K RC C T0 19) := by
  refine D.F.okX scA19 (fun vs H Q E h => ?_) (fun cdv A outer s H vs Q E hr h => ⟨_, pss_one (ps_ret (pe_lst (pa_cons (pe_meth (pv 0) S.cl M.m G hr M.b .nil (passes_call (takes_of rfl rfl rfl rfl) (W := fun cls d _ H => E cls d H) (fun _ _ _ _ z => z)) (pa_cons (pe_ix ix_list (pv 1) pe_int (fun _ _ => rfl)) (pa_cons (pe_ix ix_list (pv 1) pe_int (fun _ _ => rfl)) pa_nil))) pa_nil))), ?_⟩)
  · obtain ⟨a, dx, d, l, s, ns, rfl, _⟩ := h
    rfl
  · obtain ⟨a, dx, d, l, s, ns, rfl, hs, g, hT, hS, hk, kE, kQ⟩ := h
    obtain ⟨x, y, rfl⟩ := len2 (asked_l hk)
    refine ⟨_, rfl, a, dx, _, rfl, hs.ins, spF_no s d (by decide +kernel), _, rfl, l, vN [x, y], (0 : Nat), _, rfl, rfl, hS, atI_nat (j := 0) (vN_at (l := [x, y]) (i := 0) rfl), _, rfl, l, vN [x, y], (1 : Nat), _, rfl, rfl, hS, atI_nat (j := 1) (vN_at (l := [x, y]) (i := 1) rfl), ?_⟩
    have hc : Kp397Neutral.callOf [((19 : Nat) : Int) :: iN [x, y]] = some (.valueOfTwo x y) := rfl
    have st : Kp397.step (some s) (.valueOfTwo x y) = (some s, if (Kp397.validHide x && Kp397.validHide y) = true then Kp397.single (Kp397.bestValue s x + Kp397.bestValue s y : Nat) else Kp397.single (-22)) := rfl
    exact ⟨a, dx, d, s, x, y, rfl, hs, g, fun hh => ans_E kE hc (by rw [st, hh]; rfl), fun hh H1 s1 => ⟨one_line, fun p hp => ans_Q kQ hs g hc (by rw [st, hh]; rfl) (ExtN.same s1) (hT.ext s1) hp⟩⟩

end
end Hl

set_option Elab.async false
set_option linter.all false
set_option maxRecDepth 100000
set_option maxHeartbeats 2000000
/-! # Hides and layers, part 22: the other answers. -/
namespace Hl
open PySem PySem.Spec PyProof.Rows L2 LamX NdefX
open Kp397 (Splitter Product)
section
variable {P : Program} {w : World} {K : PySem.W.Frag} {mg : Str → Option Value} {base : Heap} {RC C T0 : Addr}
theorem len8 {n m : Nat} (h : n ≤ 8) : n ≤ 1000 := by omega

/-! ### call 6 -/
theorem scA6 : FnScope pAns pAns (defScope (top 46)) := ⟨rfl, rfl, rfl, by decide +kernel, rfl, by decide +kernel, by decide +kernel⟩
theorem okA6 {f fM : Addr} {fd dM : FuncData} (D : Df K mg "answer_plan_value" (top 46) pAns f fd) (M : Mt K C "plan_value" "Splitter.plan_value" (inClass (top 38) 8) ["self", "plan"] fM dM) (G : FnOk P w K mg base (L2.CX P w) 3 fM dM ["self", "plan"] (spPV K RC C)) (S : Sc K mg C) : FnOk P w K mg base (L2.CX P w) 4 f fd pAns (spAns K RC C T0 6) := by
  refine D.F.okX scA6 (fun vs H Q E h => ?_) (fun cdv A outer s H vs Q E hr h => ⟨_, pss_one (ps_ret (pe_lst (pa_cons (pe_meth (pv 0) S.cl M.m G hr M.b .nil (passes_call (takes_of rfl rfl rfl rfl) (W := fun cls d _ H => E cls d H) (fun _ _ _ _ z => z)) (pa_cons (pv 1) pa_nil)) pa_nil))), ?_⟩)
  · obtain ⟨a, dx, d, l, s, ns, rfl, _⟩ := h
    rfl
  · obtain ⟨a, dx, d, l, s, ns, rfl, hs, g, hT, hS, hk, kE, kQ⟩ := h
    have h8 : ns.length ≤ 8 := of_decide_eq_true (asked_l hk)
    have hc : Kp397Neutral.callOf [((6 : Nat) : Int) :: iN ns] = some (.planValue ns) := by
      show some (Kp397.Call.planValue ((iN ns).map Int.toNat)) = _
      rw [iN_nat]
    have st : Kp397.step (some s) (.planValue ns) = (some s, if Kp397.validPlan s ns = true then Kp397.single (Kp397.planValue s ns : Nat) else Kp397.single (-22)) := rfl
    refine ⟨_, rfl, a, dx, _, rfl, hs.ins, spF_no s d (by decide +kernel), _, rfl, ?_⟩
    exact ⟨a, dx, d, l, s, ns, rfl, hs, g, hS, by omega, fun hh => ans_E kE hc (by rw [st, hh]; rfl), fun hh H1 s1 => ⟨one_line, fun p hp => ans_Q kQ hs g hc (by rw [st, hh]; rfl) (ExtN.same s1) (hT.ext s1) hp⟩⟩

/-! ### call 7 -/
theorem scA7 : FnScope pAns pAns (defScope (top 47)) := ⟨rfl, rfl, rfl, by decide +kernel, rfl, by decide +kernel, by decide +kernel⟩
theorem okA7 {f fM : Addr} {fd dM : FuncData} (D : Df K mg "answer_fits" (top 47) pAns f fd) (M : Mt K C "fits" "Splitter.fits" (inClass (top 38) 9) ["self", "hide", "plan"] fM dM) (G : FnOk P w K mg base (L2.CX P w) 4 fM dM ["self", "hide", "plan"] (spFits K RC C)) (S : Sc K mg C) : FnOk P w K mg base (L2.CX P w) 5 f fd pAns (spAns K RC C T0 7) := by
  refine D.F.okX scA7 (fun vs H Q E h => ?_) (fun cdv A outer s H vs Q E hr h => ⟨_, pss_one (ps_ret (pe_lst (pa_cons (pe_ifExp (pt_val (pe_meth (pv 0) S.cl M.m G hr M.b .nil (passes_call (takes_of rfl rfl rfl rfl) (W := fun cls d _ H => E cls d H) (fun _ _ _ _ z => z)) (pa_cons (pe_ix ix_list (pv 1) pe_int (fun _ _ => rfl)) (pa_cons (pe_slice sl_list (pv 1) (po_some pe_int) po_none) pa_nil)))) pe_int pe_int) pa_nil))), ?_⟩)
  · obtain ⟨a, dx, d, l, s, ns, rfl, _⟩ := h
    rfl
  · obtain ⟨a, dx, d, l, s, ns, rfl, hs, g, hT, hS, hk, kE, kQ⟩ := h
    obtain ⟨x, m, rfl, h8⟩ := lenS (asked_l hk)
    have hc : Kp397Neutral.callOf [((7 : Nat) : Int) :: iN (x :: m)] = some (.fits x m) := by
      show some (Kp397.Call.fits x ((iN m).map Int.toNat)) = _
      rw [iN_nat]
    have st : Kp397.step (some s) (.fits x m) = (some s, if (Kp397.validHide x && Kp397.validPlan s m) = true then Kp397.boolResult (Kp397.fits s x m) else Kp397.single (-22)) := rfl
    refine ⟨_, rfl, a, dx, _, rfl, hs.ins, spF_no s d (by decide +kernel), _, rfl, l, vN (x :: m), (0 : Nat), _, rfl, rfl, hS, atI_nat (j := 0) (vN_at (l := x :: m) (i := 0) rfl), _, rfl, 1, rfl, l, _, rfl, hS, fun p hp => ?_⟩
    rw [cut1]
    have s0 : Same H (upd H p (.lst (vN m))) := same_new hp
    refine ⟨a, dx, d, p, s, x, m, rfl, hs.same s0, g, SqL.of upd_same, by omega, fun hh => (ans_E kE hc (by rw [st, hh]; rfl)).imp s0, fun hh H1 s1 => ⟨_, rfl, ?_⟩⟩
    have e1 : Same H H1 := s0.trans s1
    by_cases hf : Kp397.fits s x m = true
    · refine ifT hf ⟨one_line, fun q hq => ans_Q kQ hs g hc ?_ (ExtN.same e1) (hT.ext e1) hq⟩
      rw [st, hh, hf]
      rfl
    · have hf : Kp397.fits s x m = false := by simpa using hf
      refine ifF hf ⟨one_line, fun q hq => ans_Q kQ hs g hc ?_ (ExtN.same e1) (hT.ext e1) hq⟩
      rw [st, hh, hf]
      rfl

/-! ### call 8 -/
theorem scA8 : FnScope pAns pAns (defScope (top 48)) := ⟨rfl, rfl, rfl, by decide +kernel, rfl, by decide +kernel, by decide +kernel⟩
theorem okA8 {f fM : Addr} {fd dM : FuncData} (D : Df K mg "answer_cut_count" (top 48) pAns f fd) (M : Mt K C "cut_count" "Splitter.cut_count" (inClass (top 38) 10) ["self", "hide", "plan"] fM dM) (G : FnOk P w K mg base (L2.CX P w) 3 fM dM ["self", "hide", "plan"] (spCC K RC C)) (S : Sc K mg C) : FnOk P w K mg base (L2.CX P w) 4 f fd pAns (spAns K RC C T0 8) := by
  refine D.F.okX scA8 (fun vs H Q E h => ?_) (fun cdv A outer s H vs Q E hr h => ⟨_, pss_one (ps_ret (pe_lst (pa_cons (pe_meth (pv 0) S.cl M.m G hr M.b .nil (passes_call (takes_of rfl rfl rfl rfl) (W := fun cls d _ H => E cls d H) (fun _ _ _ _ z => z)) (pa_cons (pe_ix ix_list (pv 1) pe_int (fun _ _ => rfl)) (pa_cons (pe_slice sl_list (pv 1) (po_some pe_int) po_none) pa_nil))) pa_nil))), ?_⟩)
  · obtain ⟨a, dx, d, l, s, ns, rfl, _⟩ := h
    rfl
  · obtain ⟨a, dx, d, l, s, ns, rfl, hs, g, hT, hS, hk, kE, kQ⟩ := h
    obtain ⟨x, m, rfl, h8⟩ := lenS (asked_l hk)
    have hc : Kp397Neutral.callOf [((8 : Nat) : Int) :: iN (x :: m)] = some (.cutCount x m) := by
      show some (Kp397.Call.cutCount x ((iN m).map Int.toNat)) = _
      rw [iN_nat]
    have st : Kp397.step (some s) (.cutCount x m) = (some s, if (Kp397.validHide x && Kp397.validPlan s m) = false then Kp397.single (-22) else if x < Kp397.usedThickness s m then Kp397.single (-33) else Kp397.single (Kp397.cutCount s x m : Nat)) := rfl
    refine ⟨_, rfl, a, dx, _, rfl, hs.ins, spF_no s d (by decide +kernel), _, rfl, l, vN (x :: m), (0 : Nat), _, rfl, rfl, hS, atI_nat (j := 0) (vN_at (l := x :: m) (i := 0) rfl), _, rfl, 1, rfl, l, _, rfl, hS, fun p hp => ?_⟩
    rw [cut1]
    have s0 : Same H (upd H p (.lst (vN m))) := same_new hp
    refine ⟨a, dx, d, p, s, x, m, rfl, hs.same s0, g, SqL.of upd_same, by omega, fun hh => (ans_E kE hc (by rw [st, hh]; rfl)).imp s0, fun hh hu => (ans_E kE hc (by rw [st, hh, if_neg (by decide), if_pos hu])).imp s0, fun hh hu H1 s1 => ⟨one_line, fun q hq => ?_⟩⟩
    have e1 : Same H H1 := s0.trans s1
    exact ans_Q kQ hs g hc (by rw [st, hh, if_neg (by decide), if_neg hu]) (ExtN.same e1) (hT.ext e1) hq

/-! ### call 10 -/
theorem scA10 : FnScope ["splitter", "numbers", "plan"] pAns (defScope (top 50)) := ⟨rfl, rfl, rfl, by decide +kernel, rfl, by decide +kernel, by decide +kernel⟩
theorem vN_cons (n : Nat) (l : List Nat) : vN (n :: l) = .int (n : Int) :: vN l := rfl
theorem okA10 {f fM : Addr} {fd dM : FuncData} (D : Df K mg "answer_best_plan" (top 50) pAns f fd) (M : Mt K C "best_plan" "Splitter.best_plan" (inClass (top 38) 13) ["self", "hide"] fM dM) (G : FnOk P w K mg base (L2.CX P w) 6 fM dM ["self", "hide"] (spBest K RC C T0)) (S : Sc K mg C) (B : Blt mg) : FnOk P w K mg base (L2.CX P w) 7 f fd pAns (spAns K RC C T0 10) := by
  refine D.F.okX scA10 (fun vs H Q E h => ?_) (fun cdv A outer s H vs Q E hr h => ⟨_,
    pss_cons (ps_set (i := 2) scA10.nd rfl (.inl rfl) (pe_meth (pv 0) S.cl M.m G hr M.b .nil (passes_call (takes_of rfl rfl rfl rfl) (W := fun cls d _ H => E cls d H) (fun _ _ _ _ z => z)) (pa_cons (pe_ix ix_list (pv 1) pe_int (fun _ _ => rfl)) pa_nil)))
    (pss_one (ps_ret (pe_op op_cat (pe_lst (pa_cons (pe_callB call_len_seq (by rfl) B.len PySem.boot_len (pa_cons (pv 2) pa_nil)) pa_nil)) (pv 2)))), ?_⟩)
  · obtain ⟨a, dx, d, l, s, ns, rfl, _⟩ := h
    rfl
  · obtain ⟨a, dx, d, l, s, ns, rfl, hs, g, hT, hS, hk, kE, kQ⟩ := h
    obtain ⟨x, rfl⟩ := len1 (asked_l hk)
    have hc : Kp397Neutral.callOf [((10 : Nat) : Int) :: iN [x]] = some (.bestPlan x) := rfl
    have st : Kp397.step (some s) (.bestPlan x) = (some s, if Kp397.validHide x = true then Kp397.listResult (Kp397.bestPlan s x) else Kp397.single (-22)) := rfl
    refine ⟨_, rfl, a, dx, _, rfl, hs.ins, spF_no s d (by decide +kernel), _, rfl, l, vN [x], (0 : Nat), _, rfl, rfl, hS, atI_nat (j := 0) (vN_at (l := [x]) (i := 0) rfl), ?_⟩
    refine ⟨a, dx, d, s, x, rfl, hs, g, hT, fun hh => ans_E kE hc (by rw [st, hh]; rfl), fun hh H1 r s1 T1 hr1 => ?_⟩
    have b6 := (plan_len (g.mono (by decide)) (best_mem s x)).1
    refine ⟨_, rfl, r, _, rfl, .inl (SqL.of hr1), one_line, fun p hp => ?_⟩
    have nrp : r ≠ p := ne_of_none hr1 hp
    refine ⟨_, rfl, p, r, _, _, rfl, rfl, upd_same, by rw [upd_ne nrp]; exact hr1, ?_, fun q hq => ?_⟩
    · rw [vN_len]
      refine Nat.le_trans (Nat.add_le_add_left b6 _) ?_
      show 1 + 6 ≤ sizeLine
      decide
    · have s2 : Same H1 (upd H1 p (.lst [.int ((vN (Kp397.bestPlan s x)).length : Nat)])) := same_new hp
      have hs2 := (hs.ext s1).same s2
      have f2 : FrA a d H (upd H1 p (.lst [.int ((vN (Kp397.bestPlan s x)).length : Nat)])) := (FrA.of s1).post s2
      have s3 : Same (upd H1 p (.lst [.int ((vN (Kp397.bestPlan s x)).length : Nat)])) (upd (upd H1 p (.lst [.int ((vN (Kp397.bestPlan s x)).length : Nat)])) q (.lst ([.int ((vN (Kp397.bestPlan s x)).length : Nat)] ++ vN (Kp397.bestPlan s x)))) := same_new hq
      refine ans_R kQ hc (A := Kp397.listResult (Kp397.bestPlan s x)) (by rw [st, hh]; rfl) (hs2.same s3) g ((T1.ext s2).ext s3) (f2.post s3) ?_ (f2.fresh hs2 hq)
      rw [upd_same, vN_len]
      rfl

/-! ### call 14 -/
theorem scA14 : FnScope ["splitter", "numbers", "values"] pAns (defScope (top 54)) := ⟨rfl, rfl, rfl, by decide +kernel, rfl, by decide +kernel, by decide +kernel⟩
theorem tab_len (s : Splitter) (n : Nat) : (tab s n).length = n := by
  unfold tab
  rw [List.length_map, List.length_range]
theorem okA14 {f fM : Addr} {fd dM : FuncData} (D : Df K mg "answer_value_table" (top 54) pAns f fd) (M : Mt K C "value_table" "Splitter.value_table" (inClass (top 38) 17) ["self"] fM dM) (G : FnOk P w K mg base CX0 7 fM dM ["self"] (spVT K C)) (S : Sc K mg C) (B : Blt mg) : FnOk P w K mg base (L2.CX P w) 8 f fd pAns (spAns K RC C T0 14) := by
  refine D.F.okX scA14 (fun vs H Q E h => ?_) (fun cdv A outer s H vs Q E hr h => ⟨_,
    pss_cons (ps_set (i := 2) scA14.nd rfl (.inl rfl) (pe_meth0 (E := E0) (pv 0) S.cl M.m G hr M.b .nil pass0))
    (pss_one (ps_ret (pe_op op_cat (pe_lst (pa_cons (pe_callB call_len_seq (by rfl) B.len PySem.boot_len (pa_cons (pv 2) pa_nil)) pa_nil)) (pv 2)))), ?_⟩)
  · obtain ⟨a, dx, d, l, s, ns, rfl, _⟩ := h
    rfl
  · obtain ⟨a, dx, d, l, s, ns, rfl, hs, g, hT, hS, hk, kE, kQ⟩ := h
    obtain rfl := len0 (asked_l hk)
    have hc : Kp397Neutral.callOf [((14 : Nat) : Int) :: iN []] = some .valueTable := rfl
    have st : Kp397.step (some s) .valueTable = (some s, Kp397.listResult (tab s 12)) := rfl
    refine ⟨_, rfl, a, dx, _, rfl, hs.ins, spF_no s d (by decide +kernel), a, dx, d, s, rfl, hs, g, fun H1 r s1 hr1 => ?_⟩
    refine ⟨_, rfl, r, _, rfl, .inl (SqL.of hr1), one_line, fun p hp => ?_⟩
    have nrp : r ≠ p := ne_of_none hr1 hp
    refine ⟨_, rfl, p, r, _, _, rfl, rfl, upd_same, by rw [upd_ne nrp]; exact hr1, ?_, fun q hq => ?_⟩
    · rw [vN_len, tab_len]
      show 1 + 12 ≤ sizeLine
      decide
    · have s2 : Same H1 (upd H1 p (.lst [.int ((vN (tab s 12)).length : Nat)])) := same_new hp
      have hs2 := (hs.same s1).same s2
      have f2 : FrA a d H (upd H1 p (.lst [.int ((vN (tab s 12)).length : Nat)])) := (FrA.of (ExtN.same s1)).post s2
      have s3 : Same (upd H1 p (.lst [.int ((vN (tab s 12)).length : Nat)])) (upd (upd H1 p (.lst [.int ((vN (tab s 12)).length : Nat)])) q (.lst ([.int ((vN (tab s 12)).length : Nat)] ++ vN (tab s 12)))) := same_new hq
      refine ans_R kQ hc (A := Kp397.listResult (tab s 12)) st (hs2.same s3) g (((hT.ext s1).ext s2).ext s3) (f2.post s3) ?_ (f2.fresh hs2 hq)
      rw [upd_same, vN_len]
      rfl
end
end Hl

set_option Elab.async false
set_option linter.all false
set_option maxRecDepth 100000
set_option maxHeartbeats 2000000
/-! # Hides and layers, part 23: the products, the machine. -/
namespace Hl
open PySem PySem.Spec PyProof.Rows L2 LamX NdefX
open Kp397 (Splitter Product)
section
variable {P : Program} {w : World} {K : PySem.W.Frag} {mg : Str → Option Value} {base : Heap} {RC C T0 : Addr}

/-! ### call 5 -/
theorem scA5 : FnScope pAns pAns (defScope (top 45)) := ⟨rfl, rfl, rfl, by decide +kernel, rfl, by decide +kernel, by decide +kernel⟩
theorem okA5 {f fM : Addr} {fd dM : FuncData} (D : Df K mg "answer_set_machine" (top 45) pAns f fd) (M : Mt K C "set_machine" "Splitter.set_machine" (inClass (top 38) 7) ["self", "cut_loss", "max_cuts"] fM dM) (G : FnOk P w K mg base (L2.CX P w) 3 fM dM ["self", "cut_loss", "max_cuts"] (spSetM K RC C)) (S : Sc K mg C) (B : Blt mg) : FnOk P w K mg base (L2.CX P w) 4 f fd pAns (spAns K RC C T0 5) := by
  refine D.F.okX scA5 (fun vs H Q E h => ?_) (fun cdv A outer s H vs Q E hr h => ⟨_, pss_one (ps_ret (pe_op op_cat (pe_lst (pa_cons pe_int pa_nil)) (pe_callTy call_list_of (by rfl) B.list (by decide +kernel) (pa_cons (pe_meth (pv 0) S.cl M.m G hr M.b .nil (passes_call (takes_of rfl rfl rfl rfl) (W := fun cls d _ H => E cls d H) (fun _ _ _ _ z => z)) (pa_cons (pe_ix ix_list (pv 1) pe_int (fun _ _ => rfl)) (pa_cons (pe_ix ix_list (pv 1) pe_int (fun _ _ => rfl)) pa_nil))) pa_nil)))), ?_⟩)
  · obtain ⟨a, dx, d, l, s, ns, rfl, _⟩ := h
    rfl
  · obtain ⟨a, dx, d, l, s, ns, rfl, hs, g, hT, hS, hk, kE, kQ⟩ := h
    obtain ⟨x, y, rfl⟩ := len2 (asked_l hk)
    have hc : Kp397Neutral.callOf [((5 : Nat) : Int) :: iN [x, y]] = some (.setMachine x y) := rfl
    have st : Kp397.step (some s) (.setMachine x y) = if Kp397.validMachine x y = true then (some { s with cutLoss := x, maxCuts := y }, Kp397.natResult 0 [s.cutLoss, s.maxCuts]) else (some s, Kp397.single (-22)) := rfl
    refine ⟨one_line, fun p hp => ?_⟩
    have s0 : Same H (upd H p (.lst [.int 0])) := same_new hp
    have hp0 : (upd H p (.lst [.int 0])) p = some (.lst [.int 0]) := upd_same
    generalize upd H p (.lst [.int 0]) = H0 at s0 hp0
    have hs0 := hs.same s0
    refine ⟨_, rfl, a, dx, _, rfl, hs0.ins, spF_no s d (by decide +kernel), _, rfl, l, vN [x, y], (0 : Nat), _, rfl, rfl, s0.seq hS, atI_nat (j := 0) (vN_at (l := [x, y]) (i := 0) rfl), _, rfl, l, vN [x, y], (1 : Nat), _, rfl, rfl, s0.seq hS, atI_nat (j := 1) (vN_at (l := [x, y]) (i := 1) rfl), ?_⟩
    refine ⟨a, dx, d, s, x, y, rfl, hs0, g, fun hh => (ans_E kE hc (by rw [st, hh]; rfl)).imp s0, fun hh H1 t hs1 g1 ht hn on => ?_⟩
    have nat : p ≠ a := ne_of hp0 hs0.ins (by intro z; cases z)
    have hp1 := on _ _ hp0 nat
    refine ⟨t, _, rfl, .inr (SqT.of ht), fun q hq => ?_⟩
    have npq : p ≠ q := ne_of_none hp1 hq
    refine ⟨p, q, _, _, rfl, rfl, by rw [upd_ne npq]; exact hp1, upd_same, (by show 1 + 2 ≤ sizeLine; decide), fun r hr => ?_⟩
    have s2 : Same H1 (upd H1 q (.lst [.int (s.cutLoss : Int), .int (s.maxCuts : Int)])) := same_new hq
    have hs2 := hs1.same s2
    have f0 : FrA a d H H1 := FrA.pre s0 (.ofA on)
    have f2 := f0.post s2
    have T1 : Tabs (TT T0) H1 := tabs_only (hT.ext s0) hs0.ins (fun _ z => by cases z) (fun _ z => by cases z) on
    have s3 : Same (upd H1 q (.lst [.int (s.cutLoss : Int), .int (s.maxCuts : Int)])) (upd (upd H1 q (.lst [.int (s.cutLoss : Int), .int (s.maxCuts : Int)])) r (.lst ([.int 0] ++ [.int (s.cutLoss : Int), .int (s.maxCuts : Int)]))) := same_new hr
    refine ans_R kQ hc (A := Kp397.natResult 0 [s.cutLoss, s.maxCuts]) (by rw [st, if_pos hh]) (hs2.same s3) g1 ((T1.ext s2).ext s3) (f2.post s3) ?_ (f2.fresh hs2 hr)
    rw [upd_same]
    rfl

/-! ### call 4 -/
abbrev nA4 : List Str := ["splitter", "numbers", "products", "answer", "thickness", "price"]
theorem scA4 : FnScope nA4 pAns (defScope (top 44)) := ⟨rfl, rfl, rfl, by decide +kernel, rfl, by decide +kernel, by decide +kernel⟩
def told4 (s : Splitter) (l : List Nat) : List Nat := l.flatMap fun x => [x, Kp397.priceOf s x]
theorem told4_snoc (s : Splitter) (l : List Nat) (x : Nat) : told4 s (l ++ [x]) = told4 s l ++ [x, Kp397.priceOf s x] := by
  unfold told4
  rw [List.flatMap_append]
  rfl
theorem told4_len (s : Splitter) : ∀ l : List Nat, (told4 s l).length = 2 * l.length
  | [] => rfl
  | x :: r => by
    have ih := told4_len s r
    unfold told4 at ih ⊢
    rw [List.flatMap_cons, List.length_append, ih]
    show 2 + 2 * r.length = 2 * (r.length + 1)
    omega
theorem okA4 {f fM : Addr} {fd dM : FuncData} (D : Df K mg "answer_get_products" (top 44) pAns f fd) (M : Mt K C "get_products" "Splitter.get_products" (inClass (top 38) 6) ["self"] fM dM) (G : FnOk P w K mg base CX0 1 fM dM ["self"] (spGet K C)) (S : Sc K mg C) (B : Blt mg) : FnOk P w K mg base (L2.CX P w) 2 f fd pAns (spAns K RC C T0 4) := by
  refine D.F.okX scA4 (fun vs H Q E h => ?_) (fun cdv A outer s H vs Q E hr h => ⟨_,
    pss_cons (ps_set (i := 2) scA4.nd rfl (.inl rfl) (pe_meth0 (E := E0) (pv 0) S.cl M.m G hr M.b .nil pass0))
    (pss_cons (ps_set (i := 3) scA4.nd rfl (.inl rfl) (pe_lst (pa_cons (pe_callB call_len_seq (by rfl) B.len PySem.boot_len (pa_cons (pv 2) pa_nil)) pa_nil)))
    (pss_cons (ps_for (passes_of rfl) rfl (pi_list (pv 2)) (pg_tup rfl (pgs_cons (pg_name (i := 4) scA4.nd rfl (.inl rfl)) (pgs_cons (pg_name (i := 5) scA4.nd rfl (.inl rfl)) pgs_nil)))
      (pss_cons (ps_expr (pe_bm PySem.F.plainAttrs_list PySem.F.slot_list_append PySem.F.type_list_append mt_append (pv 3) (pa_cons (pv 4) pa_nil)))
      (pss_one (ps_expr (pe_bm PySem.F.plainAttrs_list PySem.F.slot_list_append PySem.F.type_list_append mt_append (pv 3) (pa_cons (pv 5) pa_nil))))))
    (pss_one (ps_ret (pv 3))))), ?_⟩)
  · obtain ⟨a, dx, d, l, s, ns, rfl, _⟩ := h
    rfl
  · obtain ⟨a, dx, d, l, s, ns, rfl, hs, g, hT, hS, hk, kE, kQ⟩ := h
    obtain rfl := len0 (asked_l hk)
    have hc : Kp397Neutral.callOf [((4 : Nat) : Int) :: iN []] = some .getProducts := rfl
    have st : Kp397.step (some s) .getProducts = (some s, Kp397.natResult (Kp397.thicknesses s).length (told4 s (Kp397.thicknesses s))) := rfl
    refine ⟨_, rfl, a, dx, _, rfl, hs.ins, spF_no s d (by decide +kernel), a, dx, d, s, rfl, hs, g, fun H1 r ts s1 hr1 hrn prs => ?_⟩
    have pl := prs.len
    rw [List.length_map] at pl
    have tl := thick_len g
    refine ⟨_, rfl, r, _, rfl, .inl (SqL.of hr1), one_line, fun q hq => ?_⟩
    rw [List.length_map, pl]
    have nrq : r ≠ q := ne_of_none hr1 hq
    have s2 : Same H1 (upd H1 q (.lst [.int ((Kp397.thicknesses s).length : Nat)])) := same_new hq
    have hq2 : (upd H1 q (.lst [.int ((Kp397.thicknesses s).length : Nat)])) q = some (.lst [.int ((Kp397.thicknesses s).length : Nat)]) := upd_same
    generalize upd H1 q (.lst [.int ((Kp397.thicknesses s).length : Nat)]) = H2 at s2 hq2
    have hr2 := s2 _ _ hr1
    have prs2 := prs.of fun x hx o e => s2 _ _ e
    refine ⟨_, rfl, r, rfl, ⟨_, SqL.of hr2⟩, for_list (K := K) (a := r) (xs := ts.map V.ref) (fun i σ H' => ∃ v4 v5, σ = [some (.ref a), some (.ref l), some (.ref r), some (.ref q), v4, v5] ∧ Only H2 H' q ∧
        H' q = some (.lst (vN ((Kp397.thicknesses s).length :: told4 s ((Kp397.thicknesses s).take i))))) ?_ ?_ ?_ ?_⟩
    · exact ⟨none, none, rfl, fun b o e _ => e, hq2⟩
    · rintro i σ H' _ ⟨v4, v5, _, on, _⟩
      exact SqL.of (on _ _ hr2 nrq)
    · rintro i v σ H' hv ⟨v4, v5, rfl, on, hA⟩
      obtain ⟨t, ht, rfl⟩ := ref_get hv
      obtain ⟨pr, hpr, hH⟩ := prs2.at ht
      rw [List.getElem?_map] at hpr
      cases ex : (Kp397.thicknesses s)[i]? with
      | none =>
        rw [ex] at hpr
        cases hpr
      | some x =>
        rw [ex] at hpr
        cases hpr
        have ntq : t ≠ q := ne_of hH hq2 (by intro z; cases z)
        have hHt := on _ _ hH ntq
        have ilt : i < (Kp397.thicknesses s).length := (List.getElem?_eq_some_iff.mp ex).1
        have tk : ((Kp397.thicknesses s).take i).length ≤ 61 := by
          rw [List.length_take]
          omega
        refine ⟨t, _, rfl, SqT.of hHt, rfl, _, _, rfl, _, _, rfl, rfl, ?_⟩
        refine ⟨_, rfl, .inl ⟨rfl, _, SqL.of hA⟩, _, rfl, q, _, _, rfl, rfl, hA, ?_, ?_⟩
        · rw [vN_len, List.length_cons, told4_len]
          exact line_of' (by omega)
        refine ⟨_, rfl, .inl ⟨rfl, _, SqL.of upd_same⟩, _, rfl, q, _, _, rfl, rfl, upd_same, ?_, ?_⟩
        · rw [List.length_append, vN_len, List.length_cons, told4_len]
          exact line_of' (by simp; omega)
        refine ⟨_, _, rfl, fun b o e n => ?_, ?_⟩
        · rw [upd_ne n, upd_ne n]
          exact on b o e n
        · rw [upd_same, take_more ex, told4_snoc]
          refine congrArg (fun l => some (HO.lst l)) ?_
          show _ = vN ((Kp397.thicknesses s).length :: (told4 s ((Kp397.thicknesses s).take i) ++ [x, Kp397.priceOf s x]))
          have e2 : (Kp397.thicknesses s).length :: (told4 s ((Kp397.thicknesses s).take i) ++ [x, Kp397.priceOf s x]) = (((Kp397.thicknesses s).length :: told4 s ((Kp397.thicknesses s).take i)) ++ [x]) ++ [Kp397.priceOf s x] := by simp
          rw [e2, vN_snoc, vN_snoc]
    · rintro σ H' ⟨v4, v5, rfl, on, hA⟩
      rw [List.length_map, pl, List.take_length] at hA
      have hs2 := (hs.same s1).same s2
      have naq : a ≠ q := ne_of hs2.ins hq2 (by intro z; cases z)
      have ndq : d ≠ q := ne_of hs2.dict hq2 (by intro z; cases z)
      have hs3 : SpAt C H' a dx d s := ⟨on _ _ hs2.ins naq, on _ _ hs2.dict ndq⟩
      have hqn : H q = none := s1.free hq
      have T3 : Tabs (TT T0) H' := tabs_only ((hT.ext s1).ext s2) hq2 (fun _ z => by cases z) (fun _ z => by cases z) on
      refine ⟨_, rfl, ans_R kQ hc st hs3 g T3 (fun b o e n1 n2 n3 => on _ _ (s2 _ _ (s1 _ _ e)) (fun z => ?_)) hA fun xs e => ?_⟩
      · rw [z, hqn] at e
        cases e
      · rw [hqn] at e
        cases e
end
end Hl

set_option Elab.async false
set_option linter.all false
set_option maxRecDepth 100000
set_option maxHeartbeats 2000000
/-! # Hides and layers, part 24: the list of calls, split. -/
namespace Hl
open PySem PySem.Spec PyProof.Rows L2 LamX NdefX
/-- the pairs at these places are these calls -/
inductive Cls (H : Hp) : List Addr → List (Int × List Int) → Prop
  | nil : Cls H [] []
  | cons {t b : Addr} {p : Int × List Int} {ts : List Addr} {ps : List (Int × List Int)} : H t = some (.tup [.int p.1, .ref b]) → H b = some (.lst (p.2.map V.int)) → Cls H ts ps → Cls H (t :: ts) (p :: ps)
theorem Cls.same {H H' : Hp} {ts : List Addr} {ps : List (Int × List Int)} (h : Cls H ts ps) (e : Same H H') : Cls H' ts ps := by
  induction h with
  | nil => exact .nil
  | cons h1 h2 _ ih => exact .cons (e _ _ h1) (e _ _ h2) ih
/-- all but what stands at a -/
def off (H : Hp) (a : Addr) : Hp := fun b => if b = a then none else H b
theorem off_ne {H : Hp} {a b : Addr} (h : b ≠ a) : off H a b = H b := if_neg h
theorem off_same (H : Hp) (a : Addr) : Same (off H a) H := fun b o e => by
  by_cases h : b = a
  · unfold off at e
    rw [if_pos h] at e
    cases e
  · have e' : off H a b = H b := off_ne h
    rw [e'] at e
    exact e
theorem off_upd {H : Hp} {a : Addr} {o : HO} : off (upd H a o) a = off H a := by
  funext b
  by_cases h : b = a
  · unfold off
    rw [if_pos h, if_pos h]
  · rw [off_ne h, off_ne h, upd_ne h]
theorem off_mono {H H' : Hp} {a : Addr} (s : Same H H') : Same (off H a) (off H' a) := fun b o e => by
  by_cases h : b = a
  · unfold off at e
    rw [if_pos h] at e
    cases e
  · rw [off_ne h] at e ⊢
    exact s _ _ e
/-- all but what p names -/
def offB (p : Addr → Bool) (H : Hp) : Hp := fun b => if p b = true then none else H b
theorem offB_ne {p : Addr → Bool} {H : Hp} {b : Addr} (h : p b = false) : offB p H b = H b := if_neg (by rw [h]; exact Bool.false_ne_true)
theorem offB_of {p : Addr → Bool} {H : Hp} {b : Addr} {o : HO} (e : offB p H b = some o) : p b = false ∧ H b = some o := by
  cases h : p b with
  | true =>
    unfold offB at e
    rw [if_pos h] at e
    cases e
  | false =>
    rw [offB_ne h] at e
    exact ⟨rfl, e⟩
theorem offB_upd {p : Addr → Bool} {H : Hp} {a : Addr} {o : HO} (h : p a = true) : offB p (upd H a o) = offB p H := by
  funext b
  by_cases e : b = a
  · rw [e]
    unfold offB
    rw [if_pos h, if_pos h]
  · unfold offB
    rw [upd_ne e]
theorem offB_mono {p : Addr → Bool} {H H' : Hp} (s : Same H H') : Same (offB p H) (offB p H') := fun b o e => by
  obtain ⟨h, q⟩ := offB_of e
  rw [offB_ne h]
  exact s _ _ q
theorem offB_weak {p q : Addr → Bool} {H : Hp} (h : ∀ b, q b = true → p b = true) : Same (offB p H) (offB q H) := fun b o e => by
  obtain ⟨hp, q1⟩ := offB_of e
  cases hq : q b with
  | true =>
    rw [h b hq] at hp
    cases hp
  | false =>
    rw [offB_ne hq]
    exact q1
theorem offB_off {p : Addr → Bool} {H : Hp} {a : Addr} (h : p a = true) : Same (offB p H) (off H a) := fun b o e => by
  obtain ⟨hp, q⟩ := offB_of e
  have n : b ≠ a := fun z => by
    rw [z, h] at hp
    cases hp
  exact (off_ne n).trans q
theorem Cls.append {H : Hp} {as bs : List Addr} {ps qs : List (Int × List Int)} (h : Cls H as ps) (k : Cls H bs qs) : Cls H (as ++ bs) (ps ++ qs) := by
  induction h with
  | nil => exact k
  | cons h1 h2 _ ih => exact .cons h1 h2 ih
theorem Cls.len {H : Hp} {as : List Addr} {ps : List (Int × List Int)} (h : Cls H as ps) : as.length = ps.length := by
  induction h with
  | nil => rfl
  | cons _ _ _ ih => rw [List.length_cons, List.length_cons, ih]
theorem Cls.at {H : Hp} {as : List Addr} {ps : List (Int × List Int)} (h : Cls H as ps) : ∀ {i : Nat} {a : Addr}, as[i]? = some a → ∃ (p : Int × List Int) (b : Addr), ps[i]? = some p ∧ H a = some (.tup [.int p.1, .ref b]) ∧ H b = some (.lst (p.2.map V.int)) := by
  induction h with
  | nil =>
    intro i a e
    simp at e
  | cons h1 h2 _ ih =>
    intro i a e
    cases i with
    | zero =>
      simp at e
      subst e
      exact ⟨_, _, rfl, h1, h2⟩
    | succ i => exact ih (by simpa using e)
/-! ### places -/
theorem split_at : ∀ {ps : List (Int × List Int)} {i : Nat} {p : Int × List Int}, ps[i]? = some p → ∃ rest, ps.flatMap enc = (ps.take i).flatMap enc ++ (enc p ++ rest)
  | [], i, p, h => by simp at h
  | q :: r, 0, p, h => by
    have e : q = p := Option.some.inj h
    subst e
    exact ⟨r.flatMap enc, by rw [List.flatMap_cons]; rfl⟩
  | q :: r, i + 1, p, h => by
    obtain ⟨rest, e⟩ := split_at (ps := r) (i := i) (p := p) h
    refine ⟨rest, ?_⟩
    rw [List.flatMap_cons, e, List.take_succ_cons, List.flatMap_cons, List.append_assoc]
theorem enc_len (p : Int × List Int) : (enc p).length = p.2.length + 3 := by
  unfold enc
  rw [List.length_cons, List.length_cons, List.length_append]
  rfl
theorem at_num (pre : List Int) (p : Int × List Int) (rest : List Int) : ((pre ++ (enc p ++ rest)).map V.int)[pre.length]? = some (.int p.1) := by
  rw [List.getElem?_map, List.getElem?_append_right (Nat.le_refl _), Nat.sub_self]
  rfl
theorem at_cnt (pre : List Int) (p : Int × List Int) (rest : List Int) : ((pre ++ (enc p ++ rest)).map V.int)[pre.length + 1]? = some (.int (p.2.length : Int)) := by
  rw [List.getElem?_map, List.getElem?_append_right (by omega)]
  have e : pre.length + 1 - pre.length = 1 := by omega
  rw [e]
  rfl
theorem cut_at (pre : List Int) (p : Int × List Int) (rest : List Int) {lo hi : Int} (h1 : lo = ((pre.length + 2 : Nat) : Int)) (h2 : hi = ((pre.length + 2 + p.2.length : Nat) : Int)) : cutV ((pre ++ (enc p ++ rest)).map V.int) (some lo) (some hi) = p.2.map V.int := by
  subst h1 h2
  unfold cutV
  rw [HT.sIx_nat, HT.sIx_nat]
  have el : ((pre ++ (enc p ++ rest)).map V.int).length = pre.length + (p.2.length + 3 + rest.length) := by
    rw [List.length_map, List.length_append, List.length_append, enc_len]
  rw [el]
  have e1 : min (pre.length + 2) (pre.length + (p.2.length + 3 + rest.length)) = pre.length + 2 := by omega
  have e2 : min (pre.length + 2 + p.2.length) (pre.length + (p.2.length + 3 + rest.length)) = pre.length + 2 + p.2.length := by omega
  rw [e1, e2]
  have e3 : pre.length + 2 + p.2.length - (pre.length + 2) = p.2.length := by omega
  rw [e3, ← List.map_drop, ← List.map_take]
  refine congrArg _ ?_
  rw [← List.drop_drop, List.drop_left]
  show ((p.2 ++ [0]) ++ rest).take p.2.length = p.2
  rw [List.append_assoc, List.take_left]
theorem flat_take_lt {ps : List (Int × List Int)} {i : Nat} (h : i < ps.length) : ((ps.take i).flatMap enc).length < (ps.flatMap enc).length := by
  obtain ⟨rest, e⟩ := split_at (List.getElem?_eq_getElem h)
  rw [e, List.length_append, List.length_append, enc_len]
  omega
section
variable {P : Program} {w : World} {K : PySem.W.Frag} {mg : Str → Option Value} {base : Heap}
def spSplit (K : PySem.W.Frag) : Sp := fun vs H Q _ => ∃ (a : Addr) (ps : List (Int × List Int)), vs = [.ref a] ∧ SqL K H a ((ps.flatMap enc).map V.int) ∧ ps.length ≤ 60 ∧
  ∀ (H' : Hp) (r : Addr) (ts : List Addr), Same H H' → H r = none → H' r = some (.lst (ts.map V.ref)) → Cls (offB (fun b => (H b).isSome) H') ts ps → Q (.ref r) H'
abbrev nSplit : List Str := ["calls", "pairs", "position", "first", "behind"]
theorem scSplit : FnScope nSplit ["calls"] (defScope (top 62)) := ⟨rfl, rfl, rfl, by decide +kernel, rfl, by decide +kernel, by decide +kernel⟩
theorem okSplit {f : Addr} {fd : FuncData} (D : Df K mg "split_calls" (top 62) ["calls"] f fd) (B : Blt mg) : FnOk P w K mg base CX0 1 f fd ["calls"] (spSplit K) := by
  refine D.F.ok scSplit (fun vs H Q E h => ?_) (fun cdv A outer s H vs Q E hr h => ⟨_,
    pss_cons (ps_set (i := 1) scSplit.nd rfl (.inl rfl) (pe_lst pa_nil))
    (pss_cons (ps_set (i := 2) scSplit.nd rfl (.inl rfl) pe_int)
    (pss_cons (ps_while PassesOwn.never (pt_cmpR op_lt (pv 2) (pe_callB call_len_seq (by rfl) B.len PySem.boot_len (pa_cons (pv 0) pa_nil)) (nomark _))
      (pss_cons (ps_set (i := 3) scSplit.nd rfl (.inl rfl) (pe_op op_add (pv 2) pe_int))
      (pss_cons (ps_set (i := 4) scSplit.nd rfl (.inl rfl) (pe_op op_add (pv 3) (pe_ix ix_list (pv 0) (pe_op op_add (pv 2) pe_int) (fun _ _ => rfl))))
      (pss_cons (ps_expr (pe_bm PySem.F.plainAttrs_list PySem.F.slot_list_append PySem.F.type_list_append mt_append (pv 1) (pa_cons (pe_tup (pa_cons (pe_ix ix_list (pv 0) (pv 2) (fun _ _ => rfl)) (pa_cons (pe_slice sl_list (pv 0) (po_some (pv 3)) (po_some (pv 4))) pa_nil))) pa_nil)))
      (pss_one (ps_set (i := 2) scSplit.nd rfl (.inl rfl) (pe_op op_add (pv 4) pe_int)))))))
    (pss_one (ps_ret (pv 1))))), ?_⟩)
  · obtain ⟨a, ps, rfl, _⟩ := h
    rfl
  · obtain ⟨a, ps, rfl, hS, hl, q⟩ := h
    refine ⟨Nat.zero_le _, fun pl hpl => ?_⟩
    refine asg_nx ?_
    dsimp only
    refine asg_nx ?_
    dsimp only
    refine seq_while ?_
    refine while_by (fun σ H' => ∃ (i : Nat) (ts : List Addr) (v3 v4 : Option V), i ≤ ps.length ∧ σ = [some (.ref a), some (.ref pl), some (.int ((((ps.take i).flatMap enc).length : Nat) : Int)), v3, v4] ∧ Same H H' ∧ H' pl = some (.lst (ts.map V.ref)) ∧ Cls (offB (fun b => decide (b = pl) || (H b).isSome) H') ts (ps.take i))
      (fun σ H' => match H' pl with
        | some (.lst ys) => ps.length - ys.length
        | _ => 0) ?_ ?_ ?_
    · exact ⟨0, [], none, none, Nat.zero_le _, rfl, same_new hpl, upd_same, .nil⟩
    · rintro σ H' ⟨i, ts, v3, v4, hi, rfl, sm, hp, cl⟩
      refine ⟨_, rfl, _, rfl, a, _, rfl, .inl (sm.seq hS), _, _, rfl, rfl, _, rfl, ?_⟩
      rw [List.length_map]
      by_cases hlt : i < ps.length
      · have hlt2 := flat_take_lt hlt
        refine ifT (decide_eq_true (by omega)) ?_
        obtain ⟨p, hpi⟩ : ∃ p, ps[i]? = some p := ⟨_, List.getElem?_eq_getElem hlt⟩
        obtain ⟨rest, el⟩ := split_at hpi
        have hS' := sm.seq hS
        rw [el] at hS'
        generalize hpre : (ps.take i).flatMap enc = pre at hS' hlt2
        refine ⟨_, rfl, _, _, rfl, rfl, ?_⟩
        refine ⟨_, rfl, _, rfl, _, rfl, _, _, rfl, rfl, a, _, _, .int (p.2.length : Int), rfl, rfl, hS', ?_, _, _, rfl, rfl, ?_⟩
        · have e : ((pre.length : Nat) : Int) + 1 = ((pre.length + 1 : Nat) : Int) := by omega
          rw [e]
          exact atI_nat (at_cnt pre p rest)
        refine ⟨_, rfl, .inl ⟨rfl, _, SqL.of hp⟩, _, rfl, _, rfl, a, _, _, _, rfl, rfl, hS', atI_nat (at_num pre p rest), _, rfl, _, rfl, _, rfl, _, rfl, _, rfl, a, _, rfl, hS', fun b hb => ?_⟩
        rw [cut_at pre p rest (by omega) (by omega)]
        have s1 : Same H' (upd H' b (.lst (p.2.map V.int))) := same_new hb
        have hb1 : (upd H' b (.lst (p.2.map V.int))) b = some (.lst (p.2.map V.int)) := upd_same
        have hp1 := s1 _ _ hp
        generalize upd H' b (.lst (p.2.map V.int)) = H1 at s1 hb1 hp1
        refine ⟨(by show 2 ≤ sizeLine; decide), fun t ht => ?_⟩
        have s2 : Same H1 (upd H1 t (.tup [.int p.1, .ref b])) := same_new ht
        have ht2 : (upd H1 t (.tup [.int p.1, .ref b])) t = some (.tup [.int p.1, .ref b]) := upd_same
        have hp2 := s2 _ _ hp1
        have hb2 := s2 _ _ hb1
        generalize upd H1 t (.tup [.int p.1, .ref b]) = H2 at s2 ht2 hp2 hb2
        have tl := cl.len
        rw [List.length_take] at tl
        refine ⟨pl, ts.map V.ref, _, rfl, rfl, hp2, ?_, ?_⟩
        · rw [List.length_map]
          exact small1000 (by omega)
        refine ⟨_, rfl, _, _, rfl, rfl, ?_⟩
        have eM : ts.map V.ref ++ [V.ref t] = (ts ++ [t]).map V.ref := by
          rw [List.map_append]
          rfl
        have nbp : b ≠ pl := fun z => by
          rw [← z] at hp
          rw [hp] at hb
          cases hb
        have ntp : t ≠ pl := ne_of ht2 hp2 (by intro z; cases z)
        refine ⟨⟨i + 1, ts ++ [t], some (.int ((pre.length : Int) + 2)), some (.int ((pre.length : Int) + 2 + (p.2.length : Int))), hlt, ?_, same_upd (sm.trans (s1.trans s2)) hpl, ?_, ?_⟩, ?_⟩
        · have e : (((ps.take (i + 1)).flatMap enc).length : Int) = ((pre.length : Nat) : Int) + 2 + (p.2.length : Int) + 1 := by
            rw [take_more hpi, List.flatMap_append, hpre, List.length_append, List.flatMap_cons, List.flatMap_nil, List.append_nil, enc_len]
            omega
          rw [e]
          rfl
        · rw [upd_same, eM]
        · rw [take_more hpi]
          rw [offB_upd (by rw [decide_eq_true rfl]; rfl)]
          have nb : (decide (b = pl) || (H b).isSome) = false := by
            rw [decide_eq_false nbp, sm.free hb]
            rfl
          have nt : (decide (t = pl) || (H t).isSome) = false := by
            rw [decide_eq_false ntp, (sm.trans s1).free ht]
            rfl
          refine Cls.append (cl.same (offB_mono (s1.trans s2))) (.cons (p := p) (b := b) ?_ ?_ .nil)
          · rw [offB_ne nt]
            exact ht2
          · rw [offB_ne nb]
            exact hb2
        · show (match (upd H2 pl (.lst (ts.map V.ref ++ [V.ref t]))) pl with
            | some (.lst ys) => ps.length - ys.length
            | _ => 0) < (match H' pl with
            | some (.lst ys) => ps.length - ys.length
            | _ => 0)
          rw [upd_same, hp]
          show ps.length - (ts.map V.ref ++ [V.ref t]).length < ps.length - (ts.map V.ref).length
          rw [List.length_append, List.length_map]
          show ps.length - (ts.length + 1) < _
          omega
      · have ei : i = ps.length := by omega
        subst ei
        refine ifF (decide_eq_false (by rw [List.take_length]; omega)) ?_
        rw [List.take_length] at cl
        exact ⟨_, rfl, q H' pl ts sm hpl hp (cl.same (offB_weak fun b h => by rw [h, Bool.or_true]))⟩
    · rintro σ H1 Q1 Q2 hq ⟨v, e, v', e', a1, xs, e1, hx, i, j, e2, e3, c, e4, z⟩
      exact ⟨v, e, v', e', a1, xs, e1, hx, i, j, e2, e3, c, e4, hq _ _ z⟩
end
end Hl

set_option Elab.async false
set_option linter.all false
set_option maxRecDepth 100000
set_option maxHeartbeats 2000000
/-! # Hides and layers, part 25: a call by its number: the written dict of functions; answer_call. -/
namespace Hl
open PySem PySem.Spec PyProof.Rows L2 LamX NdefX
open Kp397 (Splitter Product)
/-- the dict at D gives F j for j from 1 to 19 -/
def Tbl (K : PySem.W.Frag) (D : Addr) (F : Nat → Addr) : Prop := ∃ (es : Array DictEntry) (n : Nat), K.lookup D = some ⟨.type "dict", none, .dict es n, #[]⟩ ∧ (∀ e ∈ es, ∃ k t, e.key = .int k t ∧ e.hash = hashInt k) ∧ ∀ j : Nat, 1 ≤ j → j ≤ 19 → findBy Value.isInt es (j : Int) = some (.ref (F j))
/-- D[number](..): number's slot i -/
def tDisp (i : Nat) (sp : Nat → Sp) (E : XK) (t : TA) : TE := fun σ H Q => ∃ j : Nat, σ[i]? = some (some (.int (j : Int))) ∧ 1 ≤ j ∧ j ≤ 19 ∧ t σ H fun vs H1 => sp j vs H1 Q E
section
variable {X : Cx} {CX : CXT} {k i : Nat} {D : Addr} {F : Nat → Addr} {ps : List Str} {sp : Nat → Sp} {E : XK} {x y : Str} {p p2 p3 pos : Pos} {e : Expr} {es : List Expr} {t : TA}
theorem pe_disp (hg : Gl X x) (hm : X.mg x = some (.ref D)) (T : Tbl X.K D F) (hN : X.N[i]? = some y) (hv : Vis X.env.scope y)
    (hF : ∀ j : Nat, 1 ≤ j → j ≤ 19 → ∃ fd, FnOk X.prog X.w X.K X.mg X.base CX k (F j) fd ps (sp j) ∧ PySem.W.keepIn X.K (.ref (F j)) = true ∧ Binds X.K fd ps []) (hr : Room k X.A) (hx : Passes CX X E) (ha : PA X (e :: es) t)
    (hd : (x == ("__debug__" : Str)) = false := by decide) (hd2 : (y == ("__debug__" : Str)) = false := by decide) (hcd : (y == ("__classdict__" : Str)) = false := by decide)
    (hs : PlainIx (.Name y p2) := by exact fun _ _ => rfl)
    (hc : eval (.Call (.Subscript (.Name x p) (.Name y p2) p3) (e :: es) [] pos) X.env = (do callWith pos (← eval (.Subscript (.Name x p) (.Name y p2) p3) X.env) [] (backTo pos (starEach (e :: es) X.env)) (backToKw pos (keywordEach [] X.env))) := by rfl)
    (he : starEach (e :: es) X.env = (false, eval e X.env) :: starEach es X.env := by rfl) (hpl : (backTo pos (starEach es X.env)).any (·.1) = false := by rfl) :
    PE X (.Call (.Subscript (.Name x p) (.Name y p2) p3) (e :: es) [] pos) (tDisp i sp E t) := by
  refine ⟨fun pins s σ H Q I h => ?_⟩
  obtain ⟨j, hj, j1, j2, ht⟩ := h
  have hy : PE X (.Name y p2) (tVar i) := pe_var hN hv hd2 hcd
  refine Call_ (Subscript_ (binT (pe_glob (pos := p) (v := .ref D) hg hm rfl hd) hy I (R := fun a b H2 => a = .ref D ∧ b = .int (j : Int) ∧ t σ H2 fun vs H1 => sp j vs H1 Q E) ⟨.int (j : Int), hj, rfl, rfl, ht⟩ fun v u s2 a b H2 I2 ra rb q => ?_)) hc
  obtain ⟨rfl, rfl, q⟩ := q
  obtain rfl : v = Value.ref D := ra
  obtain ⟨tk, rfl⟩ := rb
  obtain ⟨des, n, hl, hk, hf⟩ := T
  have mp : s2.heap.MapOf (intKind X.prog X.w) D (fun z => findBy Value.isInt des z) := ⟨_, des, n, I2.kIn _ _ hl, ⟨rfl, rfl, rfl⟩, rfl, fun e he => by
    obtain ⟨z, t, e1, e2⟩ := hk e he
    exact ⟨z, by rw [e1]; exact intKind_is X.prog X.w z t, e2⟩, fun _ => rfl⟩
  obtain ⟨fd, G, kp, hb⟩ := hF j j1 j2
  refine tail_any mp.typeIs slot_dict_getitem.lookup (wpAny_getItem_of (intKind_is X.prog X.w j tk) mp (hf j j1 j2) ?_) (hs _ _)
  have I3 : Inv X pins σ H2 { s2 with toks := s2.toks + 1 } := I2.tok _
  refine PySem.W.callWith_K (h₀ := X.base) I.ok.mod.kin kp (thn (ha.run pos pins _ σ H2 _ I3 q) fun us s4 ⟨vs, H4, I4, r, q4⟩ => ⟨I4.kIn, ?_⟩) he hpl
  exact run_fn (dvs := []) (ds := []) G hr hb .nil hx I4 r (by rw [List.append_nil]; exact q4)
end
section
variable {P : Program} {w : World} {K : PySem.W.Frag} {mg : Str → Option Value} {base : Heap} {RC C T0 : Addr}
/-! ### answer_call -/
def spCall (K : PySem.W.Frag) (RC C T0 : Addr) : Sp := fun vs H Q E => ∃ (v : V) (l : Addr) (j : Nat) (ns : List Nat), vs = [v, .int (j : Int), .ref l] ∧ SqL K H l (vN ns) ∧ 1 ≤ j ∧ askP ((j : Int), iN ns) = true ∧
  ((v = .non ∧ Ref K RC H E (-11)) ∨ ∃ (a dx d : Addr) (s : Splitter), v = .ref a ∧ SpAt C H a dx d s ∧ Good 6 s ∧ Tabs (TT T0) H ∧ AnsE K RC H E s (stN s j ns) ∧ AnsQ C T0 a dx d H Q (stN s j ns))
theorem scCall : FnScope ["splitter", "number", "numbers"] ["splitter", "number", "numbers"] (defScope (top 61)) := ⟨rfl, rfl, rfl, by decide +kernel, rfl, by decide +kernel, by decide +kernel⟩
theorem has_le {j n : Nat} (h : hasN j n = true) : j ≤ 19 := by
  rcases Nat.lt_or_ge 19 j with z | z
  · exfalso
    obtain ⟨m, rfl⟩ : ∃ m, j = m + 20 := ⟨j - 20, by omega⟩
    cases h
  · exact z
theorem okCall {f D : Addr} {fd : FuncData} {F : Nat → Addr} (Df_ : Df K mg "answer_call" (top 61) ["splitter", "number", "numbers"] f fd) (hm : mg "ANSWERED_BY" = some (.ref D)) (T : Tbl K D F)
    (hF : ∀ j : Nat, 1 ≤ j → j ≤ 19 → ∃ fd, FnOk P w K mg base (L2.CX P w) 8 (F j) fd pAns (spAns K RC C T0 j) ∧ PySem.W.keepIn K (.ref (F j)) = true ∧ Binds K fd pAns []) (Er : Er K mg RC) : FnOk P w K mg base (L2.CX P w) 9 f fd ["splitter", "number", "numbers"] (spCall K RC C T0) := by
  obtain ⟨C2, fI, T2⟩ := Er.none_
  refine Df_.F.okX scCall (fun vs H Q E h => ?_) (fun cdv A outer s H vs Q E hr h => ⟨_,
    pss_cons (ps_if (pt_cmpR op_isN (pv 0) pe_non (nomark _)) (pss_one (ps_err (W := fun cls d _ H => E cls d H) rfl T2 hr (takes_of rfl rfl rfl rfl))) pss_nil)
    (pss_one (ps_ret (pe_disp (i := 1) (sp := spAns K RC C T0) (by rfl) hm T rfl (.inl rfl) hF hr (passes_call (takes_of rfl rfl rfl rfl) (W := fun cls d _ H => E cls d H) (fun _ _ _ _ z => z)) (pa_cons (pv 0) (pa_cons (pv 2) pa_nil))))), ?_⟩)
  · obtain ⟨v, l, j, ns, rfl, _⟩ := h
    rfl
  · obtain ⟨v, l, j, ns, rfl, hS, j1, hk, h⟩ := h
    have j2 := has_le (asked_l hk)
    rcases h with ⟨rfl, kE⟩ | ⟨a, dx, d, s, rfl, hs, g, hT, kE, kQ⟩
    · refine ⟨_, rfl, rfl, _, rfl, ?_⟩
      exact ifT (decide_eq_true rfl) (Ref.go T2 kE (Same.refl _))
    · refine ⟨_, rfl, rfl, _, rfl, ?_⟩
      refine ifF (decide_eq_false (by intro z; cases z)) ?_
      exact ⟨j, rfl, j1, j2, _, rfl, _, rfl, a, dx, d, l, s, ns, rfl, hs, g, hT, hS, hk, kE, kQ⟩
end
end Hl

set_option Elab.async false
set_option linter.all false
set_option maxRecDepth 100000
set_option maxHeartbeats 2000000
/-! # Hides and layers, part 26: what the loop over the calls needs: a class made within a try, the code of a caught refusal, the steps. -/
namespace Hl
open PySem PySem.Spec PyProof.Rows L2 LamX NdefX
open Kp397 (Splitter Product)
/-- C(..) within a try: the wish of an error is told of the slots -/
def tMakeS (C : Addr) (sp : Sp) (E : L2.St → XK) (t : TA) : TE := fun σ H Q => t σ H fun vs H1 => ∀ x dx, H1 x = none → H1 dx = none → dx ≠ x →
  sp (.ref x :: vs) (upd (upd H1 dx (.own x)) x (.ins C dx [])) (fun v H2 => v = .non ∧ Q (.ref x) H2) (E σ)
/-- the code that a caught refusal bears, its class being any -/
def tXfA (K : PySem.W.Frag) (a : Addr) (cls : Value) (d : Option Addr) (f : Str) (te : TE) : TE := fun σ H Q => te σ H fun x H1 => x = .ref a ∧ ∃ (C dd : Addr) (fs : List (Str × V)) (v : V), cls = .ref C ∧ XfC K C ∧ PySem.W.findIn K (.ref C) f = some none ∧ d = some dd ∧ H1 dd = some (.xd fs) ∧ fs.lookup f = some v ∧ Q v H1
section
variable {X : Cx}
theorem make_at {pins : List (Addr × Obj)} {σ : L2.St} {H0 : Hp} {s0 : Shared} {Q : VK} {args : List Value} {vals : List V} {CT : CXT} {n : Nat} {fI Cl : Addr} {fdI : FuncData} {pn : List Str} {spI : Sp} {EE : XK} (MK : Mk X.K Cl fI) (G : FnOk X.prog X.w X.K X.mg X.base CT n fI fdI pn spI) (room : Room (n + 1) X.A)
    (bd : Binds X.K fdI pn []) (lets : PassesAt CT X σ EE) (J : Inv X pins σ H0 s0) (rel : Vals vals args)
    (ask : ∀ x dx, H0 x = none → H0 dx = none → dx ≠ x → spI (.ref x :: vals) (upd (upd H0 dx (.own x)) x (.ins Cl dx [])) (fun v H2 => v = .non ∧ Q (.ref x) H2) EE) :
    wpAny (model X.prog X.w) X.A (call (.ref Cl) args) (EP X pins σ Q) X.xe s0 := by
  have wish := ask (s0.heap.objs.size + 1) s0.heap.objs.size (J.hok.fresh (Nat.le_succ _)) (J.hok.fresh (Nat.le_refl _)) (Nat.ne_of_lt (Nat.lt_succ_self _))
  have J1 := Inv.made (C := Cl) J
  have rel1 : Vals (V.ref (s0.heap.objs.size + 1) :: vals) (Value.ref (s0.heap.objs.size + 1) :: args) := .cons rfl rel
  have many : (Value.ref (s0.heap.objs.size + 1) :: args ++ []).length = pn.length := by
    rw [List.append_nil, ← rel1.length]
    exact G.len _ _ _ _ wish
  have bound := bd { s0 with heap := _ } (Value.ref (s0.heap.objs.size + 1) :: args) J1.kIn many
  rw [List.append_nil] at bound
  have ran := G.run (X.A.under (.builtin "type.__call__" ⟨.ref Cl :: args, []⟩)) X.stack _ _ ⟨Value.ref (s0.heap.objs.size + 1) :: args, []⟩ _ _ _ EE (room.make Cl args []) (J1.env0.make Cl args []) bound rel1 wish
  refine wpAny_call (make_map (f := fI) J.kIn MK.makes MK.init (beq_iff_eq.mp MK.fn) (codeAny_mono ran fun out s1 got => ?_))
  cases out with
  | error ex => exact lets pins _ _ ex s1 J1 got
  | ok fl =>
    cases fl with
    | ret val =>
      obtain ⟨_, H2, J2, r2, rfl, q2⟩ := J1.after got
      exact ⟨r2, ⟨V.ref (s0.heap.objs.size + 1), H2, J2, rfl, q2⟩⟩
    | next => exact got.elim
    | brk => exact got.elim
    | cont => exact got.elim
theorem pe_makeS {CT : CXT} {n : Nat} {fI Cl : Addr} {fdI : FuncData} {pn : List Str} {spI : Sp} {EE : L2.St → XK} {x : Str} {p pos : Pos} {e : Expr} {es : List Expr} {t : TA} (MK : Mk X.K Cl fI) (G : FnOk X.prog X.w X.K X.mg X.base CT n fI fdI pn spI) (room : Room (n + 1) X.A) (hg : Gl X x) (hm : X.mg x = some (.ref Cl))
    (bd : Binds X.K fdI pn []) (lets : ∀ σ, PassesAt CT X σ (EE σ)) (ha : PA X (e :: es) t) (hdb : (x == ("__debug__" : Str)) = false := by decide)
    (he : starEach (e :: es) X.env = (false, eval e X.env) :: starEach es X.env := by rfl) (hpl : (backTo pos (starEach es X.env)).any (·.1) = false := by rfl) : PE X (.Call (.Name x p) (e :: es) [] pos) (tMakeS Cl spI EE t) := by
  refine ⟨fun pins s σ H Q J h => wpAny_Call_Name_kw (ld_glob J hg hm ?_ hdb)⟩
  refine PySem.W.callWith_K (h₀ := X.base) J.ok.mod.kin MK.kp (thn (ha.run pos pins s σ H _ J h) fun args s1 ⟨vals, H1, J1, rel, ask⟩ => ⟨J1.kIn, ?_⟩) he hpl
  exact make_at MK G room bd (lets σ) J1 rel ask
theorem pe_xfA {a : Addr} {oe : Obj} {cls : Value} {d : Option Addr} {pn : List (Addr × Obj)} {e : Expr} {te : TE} {pos : Pos} {n : Str} (hz : Zc cls d oe) (hf : ∃ vs, oe.data = .fields vs) (he : PE (X.suite a ((a, oe) :: pn)) e te) (hb : attributeBase e n X.env (eval e X.env) = eval e X.env := by rfl) :
    PE (X.suite a ((a, oe) :: pn)) (.Attribute e n pos) (tXfA X.K a cls d n te) := by
  refine ⟨fun pins s σ H Q J h => attr_of hb (thn (he.run pins s σ H _ J h) fun u s1 got => ?_)⟩
  obtain ⟨x, H1, J1, rx, rfl, C, dd, fs, v, rfl, T, hno, rfl, ea, l, q⟩ := got
  obtain rfl : u = Value.ref a := rx
  obtain ⟨here, _⟩ := J1.pin (a, oe) (List.mem_append_left _ List.mem_cons_self)
  obtain ⟨vs, shape⟩ := hf
  obtain ⟨mA, hns, hr⟩ := (show ObjOk X.prog X.w H1 s1.heap dd (.xd fs) from J1.hok dd _ ea)
  obtain ⟨od, ho, hl⟩ := lookIn_ns hns
  obtain ⟨w', hw, rw'⟩ := RelO.some_of (v := v) (o := mA n) (by rw [← l]; exact hr n)
  have at_ : PySem.W.InstAt s1.heap a oe C (some od) := ⟨here, hz.1, by unfold PySem.W.notCls; rw [shape], by rw [hz.2]; exact ho⟩
  exact HandSPX.exc_get J1.kIn at_ T.ga T.gg T.exC (PySem.W.findObj_own T.hdC hno rfl (by rw [hl, hw])) (handed_of rw') ⟨v, H1, J1.tok _, rw', q⟩
end
/-! ### steps -/
theorem after_app (ps qs : List (Int × List Int)) : ∃ t, (after (ps ++ qs)).2 = (after ps).2 ++ t := by
  unfold after
  rw [List.foldl_append]
  exact ⟨_, played_fold qs _ _⟩
theorem after_le (ps : List (Int × List Int)) (i : Nat) : (after (ps.take i)).2.length ≤ (after ps).2.length := by
  obtain ⟨t, e⟩ := after_app (ps.take i) (ps.drop i)
  rw [List.take_append_drop] at e
  rw [e, List.length_append]
  omega
theorem call_of {row : List (List Int)} {c : Kp397.Call} (h : Kp397Neutral.callOf row = some c) : (∃ a b, row = [[0, a, b]]) ∨ Kp397.step none c = (none, Kp397.single (-11)) := by
  unfold Kp397Neutral.callOf at h
  split at h <;> first
    | (cases h; done)
    | exact .inl ⟨_, _, rfl⟩
    | (cases h; exact .inr rfl)
theorem asked_call {row : List (List Int)} (h : Kp397Neutral.asked1 row = true) : ∃ c, Kp397Neutral.callOf row = some c := by
  unfold Kp397Neutral.asked1 at h
  split at h <;> first
    | exact ⟨_, rfl⟩
    | (cases h; done)
theorem none_step {j : Nat} {ns : List Nat} (j1 : 1 ≤ j) (h : askP ((j : Int), iN ns) = true) : Kp397Neutral.step none [(j : Int) :: iN ns] = (none, [-11]) := by
  obtain ⟨c, hc⟩ := asked_call h
  rcases call_of hc with ⟨a, b, e⟩ | e
  · have e1 : (j : Int) :: iN ns = [0, a, b] := (List.cons.inj e).1
    have := (List.cons.inj e1).1
    omega
  · unfold Kp397Neutral.step
    dsimp only at hc
    rw [hc]
    show ((Kp397.step none c).1, (Kp397.step none c).2.num :: (Kp397.step none c).2.nums) = _
    rw [e]
    rfl
/-- a call asked for, in natural numbers -/
theorem asked_nat {p : Int × List Int} (h : askP p = true) : ∃ (j : Nat) (ns : List Nat), p = ((j : Int), iN ns) := by
  obtain ⟨_, h2, h3, _⟩ := asked_shape h
  obtain ⟨z, l⟩ := p
  refine ⟨z.toNat, l.map Int.toNat, ?_⟩
  have e1 : ((z.toNat : Nat) : Int) = z := Int.toNat_of_nonneg h3
  have e2 : iN (l.map Int.toNat) = l := by
    unfold iN
    rw [List.map_map]
    refine (List.map_congr_left fun x hx => ?_).trans (List.map_id l)
    exact Int.toNat_of_nonneg (h2 x hx).1
  rw [e1, e2]
end Hl

set_option Elab.async false
set_option linter.all false
set_option maxRecDepth 100000
set_option maxHeartbeats 2000000
/-! # Hides and layers, part 27: answers. -/
namespace Hl
open PySem PySem.Spec PyProof.Rows L2 LamX NdefX
open Kp397 (Splitter Product)
section
variable {P : Program} {w : World} {K : PySem.W.Frag} {mg : Str → Option Value} {base : Heap} {RC C T0 : Addr}
abbrev nTop : List Str := ["calls", "splitter", "answered", "number", "numbers", "answer", "error"]
theorem scTop : FnScope nTop ["calls"] (defScope (top 63)) := ⟨rfl, rfl, rfl, by decide +kernel, rfl, by decide +kernel, by decide +kernel⟩
/-- the splitter as the slot holds it -/
def SlotOf (C : Addr) (H : Hp) (v : V) : Kp397.State → Prop
  | none => v = .non
  | some s => ∃ a dx d, v = .ref a ∧ SpAt C H a dx d s ∧ Good 6 s
/-- behind some calls: the splitter, the answers at A, the table; the calls stand still at r -/
structure Inv0 (C T0 : Addr) (ps : List (Int × List Int)) (ts : List Addr) (A r : Addr) (H : Hp) (v : V) (st : Kp397.State) (out : List Int) : Prop where
  slot : SlotOf C H v st
  told : H A = some (.lst (out.map V.int))
  tab : Tabs (TT T0) H
  list : H r = some (.lst (ts.map V.ref))
  ne : r ≠ A
  cls : Cls (off H A) ts ps
theorem SlotOf.only {H H' : Hp} {v : V} {st : Kp397.State} {A : Addr} {xs : List V} (h : SlotOf C H v st) (hA : H A = some (.lst xs)) (e : Only H H' A) : SlotOf C H' v st := by
  cases st with
  | none => exact h
  | some s =>
    obtain ⟨a, dx, d, ev, hs, g⟩ := h
    exact ⟨a, dx, d, ev, ⟨e _ _ hs.ins (ne_of hs.ins hA (by intro z; cases z)), e _ _ hs.dict (ne_of hs.dict hA (by intro z; cases z))⟩, g⟩
/-- answered.append(..), answered.extend(..): A alone is changed -/
theorem Inv0.more {ps : List (Int × List Int)} {ts : List Addr} {A r : Addr} {H H' : Hp} {v : V} {st : Kp397.State} {out out' : List Int} (I : Inv0 C T0 ps ts A r H v st out) (e : Only H H' A) (hA : H' A = some (.lst (out'.map V.int))) : Inv0 C T0 ps ts A r H' v st out' :=
  ⟨I.slot.only I.told e, hA, tabs_only I.tab I.told (fun _ z => by cases z) (fun _ z => by cases z) e, e _ _ I.list I.ne, I.ne, I.cls.same fun b o q => by
    by_cases h : b = A
    · unfold off at q
      rw [if_pos h] at q
      cases q
    · rw [off_ne h] at q ⊢
      exact e b o q h⟩
/-- all that was tracked is as it was -/
theorem Inv0.same {ps : List (Int × List Int)} {ts : List Addr} {A r : Addr} {H H' : Hp} {v : V} {st : Kp397.State} {out : List Int} (I : Inv0 C T0 ps ts A r H v st out) (e : Same H H') : Inv0 C T0 ps ts A r H' v st out :=
  I.more (only_of e) (e _ _ I.told)
/-- a call of the splitter at a: its objects and the tables alone are changed -/
theorem Inv0.called {ps : List (Int × List Int)} {ts : List Addr} {A r : Addr} {H H' : Hp} {a dx d : Addr} {s s' : Splitter} {out : List Int} (I : Inv0 C T0 ps ts A r H (.ref a) (some s) out) (hs : SpAt C H a dx d s) (f : FrA a d H H') (hs' : SpAt C H' a dx d s') (g : Good 6 s') (hT : Tabs (TT T0) H') : Inv0 C T0 ps ts A r H' (.ref a) (some s') out := by
  have nl : ∀ {b : Addr} {xs : List V}, H b = some (.lst xs) → H' b = some (.lst xs) := fun {b xs} e => f b _ e (ne_of e hs.ins (by intro z; cases z)) (ne_of e hs.dict (by intro z; cases z)) fun ps z => by cases z
  have nt : ∀ {b : Addr} {xs : List V}, H b = some (.tup xs) → H' b = some (.tup xs) := fun {b xs} e => f b _ e (ne_of e hs.ins (by intro z; cases z)) (ne_of e hs.dict (by intro z; cases z)) fun ps z => by cases z
  refine ⟨⟨a, dx, d, rfl, hs', g⟩, nl I.told, hT, nl I.list, I.ne, ?_⟩
  have all : ∀ {ts : List Addr} {ps : List (Int × List Int)}, Cls (off H A) ts ps → Cls (off H' A) ts ps := fun {ts ps} h => by
    induction h with
    | nil => exact .nil
    | cons h1 h2 _ ih =>
      rename_i t b p ts ps hh
      have n1 : t ≠ A := fun z => by
        rw [z] at h1
        unfold off at h1
        rw [if_pos rfl] at h1
        cases h1
      have n2 : b ≠ A := fun z => by
        rw [z] at h2
        unfold off at h2
        rw [if_pos rfl] at h2
        cases h2
      rw [off_ne n1] at h1
      rw [off_ne n2] at h2
      refine .cons (b := b) ?_ ?_ ih
      · rw [off_ne n1]
        exact nt h1
      · rw [off_ne n2]
        exact nl h2
  exact all I.cls
/-- a new splitter -/
theorem Inv0.made {ps : List (Int × List Int)} {ts : List Addr} {A r : Addr} {H H' : Hp} {v : V} {st : Kp397.State} {a dx d : Addr} {s : Splitter} {out : List Int} (I : Inv0 C T0 ps ts A r H v st out) (e : Same H H') (hs : SpAt C H' a dx d s) (g : Good 6 s) : Inv0 C T0 ps ts A r H' (.ref a) (some s) out :=
  have J := I.same e
  ⟨⟨a, dx, d, rfl, hs, g⟩, J.told, J.tab, J.list, J.ne, J.cls⟩
def spTop (K : PySem.W.Frag) (T0 : Addr) : Sp := fun vs H Q _ => ∃ (a : Addr) (l : List Int), vs = [.ref a] ∧ SqL K H a (l.map V.int) ∧ PyKp397.answers_asked l = true ∧ H T0 = some (.tbl #[]) ∧
  ∀ (H' : Hp) (r : Addr), H' r = some (.lst ((PyKp397.answers l).map V.int)) → Q (.ref r) H'
/-- the reading of the try -/
def tTry (K : PySem.W.Frag) (RC C T0 : Addr) : WX → TS := fun W => tIfS (tTest (tOp rEq (tVar 3) (tC (.int 0))))
  (tSeq (tAsg (tMakeS C (spInit K RC C) (WE W) (tCons (tOp (rIxL K) (tVar 4) (tC (.int 0))) (tCons (tOp (rIxL K) (tVar 4) (tC (.int 1))) tNil))) (gName 1)) (tAsg (tLst (tCons (tC (.int 0)) tNil)) (gName 5)))
  (tAsg (tCallS (spCall K RC C T0) (WE W) (tCons (tVar 1) (tCons (tVar 3) (tCons (tVar 4) tNil)))) (gName 5))
def tCode (K : PySem.W.Frag) : Addr → Value → Option Addr → TS := fun a cls d => tAsg (tLst (tCons (tXfA K a cls d "code" (tVar 6)) tNil)) (gName 5)
/-- the wish of a refusal with the code z, where the state stays -/
theorem turn_wish {ps : List (Int × List Int)} {ts : List Addr} {a A r b : Addr} {H : Hp} {v : V} {st : Kp397.State} {acc : List Int} {D : Ends} {w3 w4 v5 : Option V} {z : Int} (J : Inv0 C T0 ps ts A r H v st acc)
    (fin : ∀ (v' : V) (q' : Addr) (H2 : Hp), Inv0 C T0 ps ts A r H2 v' st acc → H2 q' = some (.lst [.int z]) → q' ≠ A → D.nx [some (.ref a), some v', some (.ref A), w3, w4, some (.ref q'), none] H2) {cls : Value} {d : Option Addr} {H2 : Hp} (hr : RefErr K RC cls d z H2) (s : Same H H2) :
    wAs K (.ref RC) 6 (tCode K) (fun _ _ _ _ => False) D cls d [some (.ref a), some v, some (.ref A), w3, w4, v5, none] H2 := by
  obtain ⟨C', dd, rfl, rfl, hdd, T, hno, hex⟩ := hr
  refine ⟨true, hex, fun _ a0 ha0 => ?_, fun q => Bool.noConfusion q⟩
  refine ⟨_, rfl, rfl, C', dd, _, _, rfl, T, hno, rfl, hdd, lkh, one_line, fun q' hq' => ?_⟩
  have J2 := (J.same s).same (same_new (o := .lst [.int z]) hq')
  refine fin v q' _ J2 upd_same fun e => ?_
  rw [e, (J.same s).told] at hq'
  cases hq'
/-- a call of the request, within the try -/
theorem turn_try {ps : List (Int × List Int)} {ts : List Addr} {a A r b : Addr} {H : Hp} {v : V} {st : Kp397.State} {acc : List Int} {j : Nat} {ns : List Nat} {D : Ends} {v5 : Option V} (J : Inv0 C T0 ps ts A r H v st acc) (hk : askP ((j : Int), iN ns) = true) (hb : H b = some (.lst (vN ns)))
    (fin : ∀ (v' : V) (q' : Addr) (H2 : Hp), Inv0 C T0 ps ts A r H2 v' (Kp397Neutral.step st [(j : Int) :: iN ns]).1 acc → H2 q' = some (.lst ((Kp397Neutral.step st [(j : Int) :: iN ns]).2.map V.int)) → q' ≠ A → D.nx [some (.ref a), some v', some (.ref A), some (.int (j : Int)), some (.ref b), some (.ref q'), none] H2) :
    tTry K RC C T0 (wAs K (.ref RC) 6 (tCode K) (fun _ _ _ _ => False) D) D [some (.ref a), some v, some (.ref A), some (.int (j : Int)), some (.ref b), v5, none] H := by
  -- a refusal
  have bad : ∀ {z : Int} {H1 H2 : Hp} {cls : Value} {d : Option Addr}, Kp397Neutral.step st [(j : Int) :: iN ns] = (st, [z]) → RefErr K RC cls d z H2 → Same H H2 → wAs K (.ref RC) 6 (tCode K) (fun _ _ _ _ => False) D cls d [some (.ref a), some v, some (.ref A), some (.int (j : Int)), some (.ref b), v5, none] H2 := fun {z H1 H2 cls d} e hr s => by
    rw [e] at fin
    exact turn_wish (b := b) J fin hr s
  refine ⟨_, rfl, rfl, _, rfl, ?_⟩
  by_cases j0 : j = 0
  · subst j0
    refine ifT (decide_eq_true rfl) ?_
    obtain ⟨x, y, rfl⟩ := len2 (asked_l hk)
    have st0 : Kp397.step st (.create x y) = if Kp397.validMachine x y = true then (some ⟨[], x, y⟩, Kp397.single 0) else (st, Kp397.single (-22)) := by
      cases st <;> rfl
    have st1 : Kp397Neutral.step st [((0 : Nat) : Int) :: iN [x, y]] = ((Kp397.step st (.create x y)).1, (Kp397.step st (.create x y)).2.num :: (Kp397.step st (.create x y)).2.nums) := rfl
    refine ⟨_, rfl, b, vN [x, y], (0 : Nat), _, rfl, rfl, SqL.of hb, atI_nat (j := 0) (vN_at (l := [x, y]) (i := 0) rfl), _, rfl, b, vN [x, y], (1 : Nat), _, rfl, rfl, SqL.of hb, atI_nat (j := 1) (vN_at (l := [x, y]) (i := 1) rfl), fun o dx ho hdx ne => ?_⟩
    have s1 : Same H (upd (upd H dx (.own o)) o (.ins C dx [])) := same_upd (same_new hdx) ho
    refine ⟨o, dx, x, y, rfl, upd_same, fun hv cls d H2 hr s2 => ?_, fun hv H2 d hs hd keep => ⟨rfl, ?_⟩⟩
    · refine bad (H1 := H) ?_ hr (s1.trans s2)
      rw [st1, st0, hv]
      rfl
    · have s2 : Same H H2 := fun c u e => keep c u (s1 _ _ e) fun z => by
        rw [z, ho] at e
        cases e
      refine ⟨one_line, fun q' hq' => ?_⟩
      have J2 := (J.made s2 hs (good_new hv)).same (same_new (o := .lst [.int 0]) hq')
      have e1 : Kp397Neutral.step st [((0 : Nat) : Int) :: iN [x, y]] = (some ⟨[], x, y⟩, [0]) := by
        rw [st1, st0, hv]
        rfl
      rw [e1] at fin
      refine fin (.ref o) q' _ J2 upd_same fun e => ?_
      rw [e, (J.same s2).told] at hq'
      cases hq'
  · refine ifF (decide_eq_false (by intro z; exact j0 (by have := V.int.inj z; omega))) ?_
    have j1 : 1 ≤ j := Nat.one_le_iff_ne_zero.mpr j0
    refine ⟨_, rfl, _, rfl, _, rfl, v, b, j, ns, rfl, SqL.of hb, j1, hk, ?_⟩
    cases st with
    | none =>
      obtain rfl : v = .non := J.slot
      exact .inl ⟨rfl, fun cls d H2 hr s2 => bad (H1 := H) (none_step j1 hk) hr s2⟩
    | some s =>
      obtain ⟨a', dx, d, rfl, hs, g⟩ := J.slot
      refine .inr ⟨a', dx, d, s, rfl, hs, g, J.tab, fun z e cls d H2 hr s2 => bad (H1 := H) e hr s2, fun s' H2 q' e1 hs' g' hT' f hq hn => ?_⟩
      have e2 : (Kp397Neutral.step (some s) [(j : Int) :: iN ns]).1 = some s' := e1
      rw [e2] at fin
      refine fin (.ref a') q' H2 (J.called hs f hs' g' hT') hq fun z => ?_
      rw [z] at hn
      exact hn _ J.told
theorem okTop {f fS fI fC : Addr} {fd dS dI dC : FuncData} (D : Df K mg "answers" (top 63) ["calls"] f fd) (Sp_ : Df K mg "split_calls" (top 62) ["calls"] fS dS) (GS : FnOk P w K mg base CX0 1 fS dS ["calls"] (spSplit K))
    (M : Mk K C fI) (bI : Binds K dI ["self", "cut_loss", "max_cuts"] []) (GI : FnOk P w K mg base (L2.CX P w) 3 fI dI ["self", "cut_loss", "max_cuts"] (spInit K RC C))
    (Cl : Df K mg "answer_call" (top 61) ["splitter", "number", "numbers"] fC dC) (GC : FnOk P w K mg base (L2.CX P w) 9 fC dC ["splitter", "number", "numbers"] (spCall K RC C T0)) (S : Sc K mg C) (Er : Er K mg RC) (B : Blt mg) (L : Lim mg) :
    FnOk P w K mg base CX0 10 f fd ["calls"] (spTop K T0) := by
  obtain ⟨t1, h1⟩ := L.create
  refine D.F.ok scTop (fun vs H Q E h => ?_) (fun cdv A outer s H vs Q E hr h => ⟨_,
    pss_cons (ps_set (i := 1) scTop.nd rfl (.inl rfl) pe_non)
    (pss_cons (ps_set (i := 2) scTop.nd rfl (.inl rfl) (pe_lst pa_nil))
    (pss_cons (ps_for PassesOwn.never rfl (pi_list (pe_call GS (hr.mono (by decide)) rfl Sp_.g Sp_.k Sp_.b .nil pass0 (pa_cons (pv 0) pa_nil))) (pg_tup rfl (pgs_cons (pg_name (i := 3) scTop.nd rfl (.inl rfl)) (pgs_cons (pg_name (i := 4) scTop.nd rfl (.inl rfl)) pgs_nil)))
      (pss_cons (ps_try_as (i := 6) (c := .ref RC) (tb := tTry K RC C T0) (ts := tCode K) (Wout := fun _ _ _ _ => False) rfl rfl scTop.nd rfl rfl ⟨rfl, by decide, .inl Er.gR⟩ LamX.takes0
        (fun W pn xe tk _ => pss_one (ps_if (pt_cmpR op_eq (pv 3) (pe_glob (v := .int 0) rfl h1 ⟨_, rfl⟩) (nomark _))
          (pss_cons (ps_set (i := 1) scTop.nd rfl (.inl rfl) (pe_makeS M GI (hr.mono (by decide)) rfl S.gC bI (fun σ => passAt tk σ) (pa_cons (pe_ix ix_list (pv 4) pe_int (fun _ _ => rfl)) (pa_cons (pe_ix ix_list (pv 4) pe_int (fun _ _ => rfl)) pa_nil))))
            (pss_one (ps_set (i := 5) scTop.nd rfl (.inl rfl) (pe_lst (pa_cons pe_int pa_nil)))))
          (pss_one (ps_set (i := 5) scTop.nd rfl (.inl rfl) (pe_callS GC hr rfl Cl.g Cl.k Cl.b (fun σ => passAt tk σ) (pa_cons (pv 1) (pa_cons (pv 3) (pa_cons (pv 4) pa_nil))))))))
        (fun a oe cls d pn hz hf => pss_one (ps_set (i := 5) scTop.nd rfl (.inl rfl) (pe_lst (pa_cons (pe_xfA hz hf (pv 6)) pa_nil)))))
      (pss_cons (ps_expr (pe_bm PySem.F.plainAttrs_list PySem.F.slot_list_append PySem.F.type_list_append mt_append (pv 2) (pa_cons (pe_callB call_len_seq (by rfl) B.len PySem.boot_len (pa_cons (pv 5) pa_nil)) pa_nil)))
      (pss_one (ps_expr (pe_bm PySem.F.plainAttrs_list PySem.F.slot_list_extend PySem.F.type_list_extend mt_extend (pv 2) (pa_cons (pv 5) pa_nil)))))))
    (pss_one (ps_ret (pv 2))))), ?_⟩)
  · obtain ⟨a, l, rfl, _⟩ := h
    rfl
  · obtain ⟨a, l, rfl, hS, hk, hT, q⟩ := h
    obtain ⟨ps, hp60, hask, el, eans, hlen⟩ := asked_is hk
    have eans2 : PyKp397.answers l = (after ps).2 := eans.trans (after_is ps).symm
    rw [eans2] at hlen q
    rw [el] at hS
    refine ⟨Nat.zero_le _, fun A hA => ?_⟩
    have s0 : Same H (upd H A (.lst [])) := same_new hA
    have hA0 : (upd H A (.lst [])) A = some (.lst []) := upd_same
    generalize upd H A (.lst []) = H0 at s0 hA0
    refine ⟨_, rfl, a, ps, rfl, s0.seq hS, hp60, fun H1 r ts s1 hrn hr1 cl => ?_⟩
    have nrA : r ≠ A := fun z => by
      rw [z, hA0] at hrn
      cases hrn
    have cl1 : Cls (off H1 A) ts ps := cl.same (offB_off (by rw [hA0]; rfl))
    have tl := cl.len
    refine ⟨r, rfl, ⟨_, SqL.of hr1⟩, for_list (K := K) (a := r) (xs := ts.map V.ref) (fun i σ H' => ∃ v v3 v4 v5, σ = [some (.ref a), some v, some (.ref A), v3, v4, v5, none] ∧ Inv0 C T0 ps ts A r H' v (after (ps.take i)).1 (after (ps.take i)).2) ?_ ?_ ?_ ?_⟩
    · refine ⟨.non, none, none, none, rfl, rfl, s1 _ _ hA0, ?_, hr1, nrA, cl1⟩
      intro p hp
      rw [List.mem_singleton.mp hp]
      exact TabS.nil (s1 _ _ (s0 _ _ hT))
    · rintro i σ H' _ ⟨v, v3, v4, v5, _, J⟩
      exact SqL.of J.list
    · rintro i x σ H' hx ⟨v, v3, v4, v5, rfl, J⟩
      obtain ⟨t, ht, rfl⟩ := ref_get hx
      obtain ⟨p, b, hpi, hHt, hHb⟩ := J.cls.at ht
      have hHt := off_same H' A _ _ hHt
      have hHb := off_same H' A _ _ hHb
      have hka := hask p (List.mem_of_getElem? hpi)
      obtain ⟨j, ns, rfl⟩ := asked_nat hka
      have step : after (ps.take (i + 1)) = ((Kp397Neutral.step (after (ps.take i)).1 [(j : Int) :: iN ns]).1, (after (ps.take i)).2 ++ (((Kp397Neutral.step (after (ps.take i)).1 [(j : Int) :: iN ns]).2.length : Int) :: (Kp397Neutral.step (after (ps.take i)).1 [(j : Int) :: iN ns]).2)) := by
        rw [take_more hpi, after_snoc]
      have most := after_le ps (i + 1)
      refine ⟨t, _, rfl, SqT.of hHt, rfl, _, _, rfl, _, _, rfl, rfl, ?_⟩
      rw [← (by unfold vN; rfl : vN ns = (iN ns).map V.int)] at hHb
      refine turn_try J hka hHb fun v' q' H2 J2 hq nq => ?_
      refine ⟨_, rfl, .inl ⟨rfl, _, SqL.of J2.told⟩, _, rfl, q', _, rfl, .inl (SqL.of hq), A, _, _, rfl, rfl, J2.told, ?_, ?_⟩
      · rw [List.length_map]
        have e := congrArg (fun z => z.2.length) step
        dsimp only at e
        rw [List.length_append, List.length_cons] at e
        show _ < 16777216
        omega
      refine ⟨_, rfl, .inl ⟨rfl, _, SqL.of upd_same⟩, _, rfl, A, q', _, _, rfl, rfl, upd_same, by rw [upd_ne nq]; exact hq, ?_, ?_⟩
      · rw [List.length_append, List.length_map, List.length_map]
        have e := congrArg (fun z => z.2.length) step
        dsimp only at e
        rw [List.length_append, List.length_cons] at e
        show _ + 1 + _ ≤ 16777216
        omega
      · refine ⟨v', _, _, _, rfl, ?_⟩
        rw [step]
        refine J2.more (fun x o e n => by rw [upd_ne n, upd_ne n]; exact e) ?_
        rw [upd_same, List.length_map, List.map_append, List.append_assoc]
        rfl
    · rintro σ H' ⟨v, v3, v4, v5, rfl, J⟩
      rw [List.length_map, tl, List.take_length] at J
      exact ⟨_, rfl, q H' A J.told⟩
end
end Hl

set_option Elab.async false
set_option linter.all false
set_option maxRecDepth 100000
set_option maxHeartbeats 2000000
/-! # Hides and layers, part 28: the row's end: one list of whole numbers is handed in, one table of code objects may grow. -/
namespace Hl
open PySem PySem.Spec PyProof.Rows L2 LamX
open PySem.W (WData Codec OpenSpec Well WellAll ReadsW)
/-- what is tracked at the start: what was handed in, and the table -/
def startH (K : PySem.W.Frag) (h : Heap) (As : List Addr) (T0 : Addr) : Hp := fun b => if b = T0 then some (.tbl #[]) else argH K h As b
section
variable {P : Program} {w : World} {K : PySem.W.Frag} {h : Heap} {As : List Addr} {T0 : Addr}
theorem arg_free (ar : ∀ a ∈ As, ArgOb h As a) (hT : h.get? T0 = some { cls := .none, data := .fields #[] }) : argH K h As T0 = none := by
  cases q : argH K h As T0 with
  | none => rfl
  | some u =>
    obtain ⟨_, vs, _, _, ⟨e, _⟩ | ⟨e, _⟩⟩ := argH_is ar q <;>
    · rw [hT] at e
      have z : Value.none = _ := congrArg Obj.cls (Option.some.inj e)
      cases z
theorem start_at : startH K h As T0 T0 = some (.tbl #[]) := if_pos rfl
theorem start_ne {b : Addr} (n : b ≠ T0) : startH K h As T0 b = argH K h As b := if_neg n
theorem start_same (ar : ∀ a ∈ As, ArgOb h As a) (hT : h.get? T0 = some { cls := .none, data := .fields #[] }) : Same (argH K h As) (startH K h As T0) := fun b o e => by
  by_cases n : b = T0
  · rw [n, arg_free ar hT] at e
    cases e
  · rw [start_ne n]
    exact e
theorem start_ok (ar : ∀ a ∈ As, ArgOb h As a) (hT : h.get? T0 = some { cls := .none, data := .fields #[] }) : HOk P w (startH K h As T0) h := fun b o e => by
  by_cases n : b = T0
  · rw [n, start_at] at e
    cases e
    rw [n]
    exact hT
  · rw [start_ne n] at e
    exact (argH_ok (P := P) (w := w) ar b o e).stay (fun _ _ _ q => q) (fun c q => start_same ar hT _ _ q) fun c xs q => start_same ar hT _ _ q
/-- what is tracked at the start is a list, a tuple or the table -/
theorem start_is (ar : ∀ a ∈ As, ArgOb h As a) {b : Addr} {ob : Obj} (e : h.get? b = some ob) (n1 : ∀ vs n, ob.data ≠ .seq vs n) (n2 : b ≠ T0) : startH K h As T0 b = none := by
  rw [start_ne n2]
  cases q : argH K h As b with
  | none => rfl
  | some u =>
    obtain ⟨_, vs, _, _, ⟨e2, _⟩ | ⟨e2, _⟩⟩ := argH_is ar q <;>
    · rw [e] at e2
      exact (n1 _ _ (congrArg Obj.data (Option.some.inj e2))).elim
theorem one_list {H : Hp} {xs : List V} {ns : List Int} (x : DwAll K H xs [.list (ns.map .int)]) : ∃ a, xs = [.ref a] ∧ SqL K H a (ns.map V.int) := by
  cases x with
  | cons h1 h2 =>
    cases h2
    cases h1 with
    | lst hs ha =>
      rw [ints_dw ns _ ha] at hs
      exact ⟨_, rfl, hs⟩
end
theorem end_call {P : Program} {w : World} {K : PySem.W.Frag} {mg mb : Str → Option Value} {CT : CXT} {k : Nat} {fa T0 c0 : Addr} {fd : FuncData} {x : Str} {sp : Sp} {s₁ : Shared} {vals : List Value} {ns : List Int} {Rc : PySem.W.WRecords} {cl : Str → Option Addr} {d0 : WData}
    (KX : K.In s₁.heap) (hns : s₁.heap.Ns mainGlobals mg) (hb : s₁.heap.Ns builtinsNs mb) (hbb : ∀ x : Str, x ≠ "__name__" → mb x = bootBuiltins x) (hlim : s₁.heap.NoLimit) (hg : s₁.gens = #[])
    (hT : s₁.heap.get? T0 = some { cls := .none, data := .fields #[] }) (nT : K.lookup T0 = none) (hC : PySem.W.CodeHd s₁.heap c0 T0) (hbm : ∃ bm ob, mg "__builtins__" = some (.ref bm) ∧ bm ≠ builtinsNs ∧ s₁.heap.get? bm = some ob ∧ ob.cls = .type "module" ∧ ob.dict = some builtinsNs ∧ ob.data = .plain)
    (hwl : WellAll w.params s₁.heap vals [.list (ns.map .int)]) (hwt : ∀ d ∈ [WData.list (ns.map .int)], d.weight ≤ 1048576) (hr : Room k callerA)
    (F : ∀ base : Heap, K.In base → base.Ns mainGlobals mg → TabB base mg c0 T0 → FnOk P w K mg base CT k fa fd [x] sp) (hbind : ∀ (s : Shared) (us : List Value), us.length = ([x] : List Str).length → BindsTo s fd ⟨us, []⟩ (([x] : List Str).zip us))
    (hsp : ∀ (H : Hp) (a : Addr), H T0 = some (.tbl #[]) → SqL K H a (ns.map V.int) → sp [.ref a] H (fun v H' => Dw K H' v d0) fun _ _ _ => False) (hCT : ∀ H e s', CT [] H s₁ (fun _ _ _ => False) e s' → False) :
    codeAny (model P w) callerA (.call (.ref fa) ⟨vals, []⟩) (fun r s' => ∃ u as, r = .ok (.ret u) ∧ ReadsW Rc cl s'.heap u d0 as ∧ OldK s₁.heap s'.heap ∧ s'.os = s₁.os ∧ AllBare s'.gens) s₁ := by
  have plain : plWs [WData.list (ns.map .int)] = true := by
    show (plWs (ns.map WData.int) && true) = true
    rw [plWs_map (fun _ => rfl)]
    rfl
  obtain ⟨As, okU, ar⟩ := area_all [WData.list (ns.map .int)] vals hwl plain hwt
  obtain ⟨a, ev, hsq⟩ := one_list (dw_all KX ar [WData.list (ns.map .int)] vals hwl plain okU)
  have rel := vals_toV okU
  have sm := start_same (K := K) ar hT
  have hok : HOk P w (startH K s₁.heap As T0) s₁.heap := start_ok ar hT
  have hsq := sm.seq hsq
  have hT1 : startH K s₁.heap As T0 T0 = some (.tbl #[]) := start_at
  have nSeq : ∀ {b : Addr} {ob : Obj}, s₁.heap.get? b = some ob → (∀ vs n, ob.data ≠ .seq vs n) → ob.data ≠ .fields #[] → startH K s₁.heap As T0 b = none := fun {b ob} e n1 n2 => start_is ar e n1 fun z => by
    rw [z, hT] at e
    cases e
    exact n2 rfl
  have nK : ∀ b o, K.lookup b = some o → startH K s₁.heap As T0 b = none := fun b o e => by
    have n : b ≠ T0 := fun z => by
      rw [z, nT] at e
      cases e
    rw [start_ne n]
    cases q : argH K s₁.heap As b with
    | none => rfl
    | some u =>
      rw [(argH_is ar q).1] at e
      cases e
  have shape : ∀ b u, startH K s₁.heap As T0 b = some u → b = T0 ∨ ∃ o v, u = .frz o v := fun b u e => by
    by_cases n : b = T0
    · exact .inl n
    · rw [start_ne n] at e
      rcases argH_only ar b with z | ⟨o, v, z⟩
      · rw [z] at e
        cases e
      · rw [z] at e
        exact .inr ⟨o, v, (Option.some.inj e).symm⟩
  generalize startH K s₁.heap As T0 = H at hok hsq hT1 nSeq nK shape
  have put : ∀ {b : Addr} {ob : Obj}, s₁.heap.get? b = some ob → H b = none → (hidT s₁.heap H).get? b = some ob := fun e n => hidT_get e n
  have dictK : ∀ {b : Addr} {m : Str → Option Value}, s₁.heap.Ns b m → (hidT s₁.heap H).Ns b m := fun {b m} ⟨o, es, ep, e, d, rest⟩ => ⟨o, es, ep, put e (nSeq e (fun vs n z => by rw [d] at z; cases z) fun z => by rw [d] at z; cases z), d, rest⟩
  have inB : K.In (hidT s₁.heap H) := fun b o e => put (KX b o e) (nK b o e)
  have md : L2.Mod K mg (hidT s₁.heap H) := ⟨inB, dictK hns, ⟨mb, dictK hb, hbb⟩, let ⟨mc, h1, h2⟩ := hlim; ⟨mc, dictK h1, h2⟩⟩
  have tb : TabB (hidT s₁.heap H) mg c0 T0 := by
    refine ⟨?_, ?_, fun z => ?_⟩
    · obtain ⟨o, vs, file, tf, flags, tg, inF, text, tt, e1, r1, r2, r3, rest⟩ := hC
      exact ⟨o, vs, file, tf, flags, tg, inF, text, tt, put e1 (nSeq e1 (fun us n z => by rw [r2] at z; cases z) fun z => by rw [r2] at z; cases z; simp at r3), r1, r2, r3, rest⟩
    · obtain ⟨bm, ob, b1, b2, b3, b4, b5, b6⟩ := hbm
      refine ⟨bm, ob, b1, b2, fun z => ?_, fun z => ?_, put b3 (nSeq b3 (fun us n z => by rw [b6] at z; cases z) fun z => by rw [b6] at z; cases z), b4, b5, b6⟩
      · obtain ⟨o, es, ep, e, hd, _⟩ := hns
        rw [z, e] at b3
        cases b3
        rw [hd] at b6
        cases b6
      · rw [z, hT] at b3
        cases b3
        cases b6
    · obtain ⟨o, es, ep, e, hd, _⟩ := hns
      rw [z, hT] at e
      cases e
      cases hd
  have e0 : Env0 P w K mg (hidT s₁.heap H) callerA [] s₁ H := ⟨rfl, md, fun b o e => of_hidT e, Nat.le_of_eq (hidT_size _ _), trivial, fun b hb => absurd (show b ∈ ([] : List Addr) from hb) (by simp), hok, .of_eq hg⟩
  have nv : vals.length = ([x] : List Str).length := (wellAll_len hwl).trans rfl
  rw [ev] at rel
  refine codeAny_mono ((F _ inB (dictK hns) tb).run callerA [] s₁ H ⟨vals, []⟩ vals [.ref a] _ _ hr e0 (hbind s₁ vals nv) rel (hsp H a hT1 hsq)) fun out s' got => ?_
  cases out with
  | error ex => exact (hCT H ex s' got).elim
  | ok fl =>
    cases fl with
    | next => exact got.elim
    | brk => exact got.elim
    | cont => exact got.elim
    | ret val =>
      obtain ⟨v, H', os, bare, un, hok', rv, q⟩ := got
      obtain ⟨more, hm⟩ := un.tbls T0 #[] hT1
      have hm2 : s'.heap.get? T0 = some { cls := .none, data := .fields (#[] ++ more) } := hok' T0 _ hm
      have kept : ∀ b o, b ≠ T0 → s₁.heap.get? b = some o → s'.heap.get? b = some o := fun b o n e => by
        cases q2 : H b with
        | none => exact un.keep b o e q2 (fun z => absurd (show b ∈ ([] : List Addr) from z) (by simp)) (by simp)
        | some u =>
          rcases shape b u q2 with z | ⟨ob, u3, rfl⟩
          · exact absurd z n
          · obtain ⟨e1, _⟩ := hok b _ q2
            obtain ⟨e2, _⟩ := hok' b _ (un.frzs b ob _ q2)
            rw [e] at e1
            cases e1
            exact e2
      have KX' : K.In s'.heap := fun b o e => kept b o (fun z => by rw [z, nT] at e; cases e) (KX b o e)
      obtain ⟨as, hrd⟩ := Dw.reads (R := Rc) (cl := cl) hok' KX' d0 v val q rv
      refine ⟨val, as, rfl, hrd, ⟨fun b o e => ?_, fun b o e => ?_⟩, os, bare⟩
      · by_cases n : b = T0
        · subst n
          rw [hT] at e
          cases e
          exact .inr (.inl ⟨(hC.tab hT).isCodeTable, rfl, #[], more, rfl, hm2⟩)
        · exact .inl (kept b o n e)
      · by_cases n : b = T0
        · subst n
          exact ⟨_, hm2⟩
        · exact ⟨o, kept b o n e⟩
end Hl

set_option Elab.async false
set_option linter.all false
set_option maxRecDepth 100000
set_option maxHeartbeats 4000000
/-! # Hides and layers, part 29: all that the top has written, and that answers keeps its promise. -/
namespace Hl
open PySem PySem.Spec PyProof.Rows L2 LamX
open PySem.W (WData Codec OpenSpec)
/-- a def of the top, as the written part tells it -/
structure DK (K : PySem.W.Frag) (x : Str) (st : Stmt) (f : Addr) (fd : FuncData) : Prop where
  a : PySem.W.nsIn K mainGlobals x = some (some (.ref f))
  F : Fun K x x st f fd
  k : PySem.W.keepIn K (.ref f) = true
/-- a method -/
structure MK (K : PySem.W.Frag) (C : Addr) (x q : Str) (st : Stmt) (f : Addr) (fd : FuncData) : Prop where
  F : Fun K x q st f fd
  m : Meth K C x f
/-- a refusal -/
def EK (K : PySem.W.Frag) (x : Str) (n : Int) (RC : Addr) : Prop := ∃ C fI, PySem.W.nsIn K mainGlobals x = some (some (.ref C)) ∧ ∀ mg : Str → Option Value, mg x = some (.ref C) → HlX.ErrTxt K mg x n C fI RC
section
variable {K : PySem.W.Frag} {x q : Str} {st : Stmt} {f C RC : Addr}
theorem dk_mk {oc : Value} {od an : Option Addr} {osl : Array (Option Value)} {kV doc pm cdv ct : Value} (a : PySem.W.nsIn K mainGlobals x = some (some (.ref f))) (l : K.lookup f = some ⟨oc, od, .func (PySem.W.fnOf x x (defArgs st) (defBody st) (defScope st) .none kV doc pm an cdv ct), osl⟩)
    (c : PySem.W.codeIn K cdv x = true) (k : PySem.W.keepIn K (.ref f) = true) : ∃ fd, DK K x st f fd := ⟨_, a, fun_mk l c k, k⟩
theorem mk_mk {oc : Value} {od an : Option Addr} {osl : Array (Option Value)} {kV doc pm cdv ct : Value} (a : PySem.W.findIn K (.ref C) x = some (some (.ref f))) (i : PySem.W.isFn K (.ref f) = true) (l : K.lookup f = some ⟨oc, od, .func (PySem.W.fnOf x q (defArgs st) (defBody st) (defScope st) .none kV doc pm an cdv ct), osl⟩)
    (c : PySem.W.codeIn K cdv q = true) (k : PySem.W.keepIn K (.ref f) = true) : ∃ fd, MK K C x q st f fd := ⟨_, fun_mk l c k, a, i, k⟩
theorem mk_mkC {c0 : Addr} {oc : Value} {od an : Option Addr} {osl : Array (Option Value)} {kV doc pm ct : Value} (a : PySem.W.findIn K (.ref C) x = some (some (.ref f))) (i : PySem.W.isFn K (.ref f) = true) (l : K.lookup f = some ⟨oc, od, .func (PySem.W.fnOf x q (defArgs st) (defBody st) (defScope st) .none kV doc pm an (.ref c0) ct), osl⟩)
    (c : PySem.W.codeIn K (.ref c0) q = true) (k : PySem.W.keepIn K (.ref f) = true) : ∃ fd, MK K C x q st f fd ∧ fd.code = .ref c0 := ⟨_, ⟨fun_mk l c k, a, i, k⟩, rfl⟩
theorem exm_of (h1 : PySem.W.subIn K (.ref RC) (.type "BaseException") = some true) (h2 : PySem.W.isClsIn K RC = true) (h3 : PySem.W.typeIn K (.ref RC) = some (.type "type")) (h4 : PySem.W.subIn K (.ref C) (.ref RC) = some true) : PySem.W.exmOne K (.ref C) (.ref RC) = some true := by
  have e2 : (PySem.W.clsIn K RC).isSome = true := h2
  unfold PySem.W.exmOne PySem.W.kitCls
  rw [h1, if_pos (beq_self_eq_true _)]
  dsimp only
  rw [e2, h3, if_pos (by decide)]
  exact h4
theorem ek_mk {n : Int} {fI : Addr} {nm qn : Str} {N : Addr} {bs : List Value} {sn : List Str} {sub : List Value} {ab : Bool} {col : Option Bool} {dd : Option Addr} {m0 m1 m2 m3 m5 : Option Value} {oc : Value} {od an : Option Addr} {osl : Array (Option Value)} {doc pm cdv ct : Value} {p q1 q2 q3 q4 q5 : Pos} {j : Nat}
    (gR : PySem.W.subIn K (.ref RC) (.type "BaseException") = some true) (iR : PySem.W.isClsIn K RC = true) (tR : PySem.W.typeIn K (.ref RC) = some (.type "type"))
    (a : PySem.W.nsIn K mainGlobals x = some (some (.ref C))) (xL : K.lookup C = some (excClassObj nm qn C N bs (HlX.exTail RC) true sn sub ab col dd m0 m1 m2 m3 m5 "Exception.__new__"))
    (sa : PySem.W.findIn K (.ref C) "__setattr__" = some (some (.builtin "object.__setattr__"))) (ga : PySem.W.findIn K (.ref C) "__getattribute__" = some (some (.builtin "BaseException.__getattribute__"))) (gg : PySem.W.findIn K (.ref C) "__getattr__" = some none) (nb : PySem.W.findIn K (.ref C) "code" = some none)
    (a1 : PySem.W.findIn K (.ref C) "__init__" = some (some (.ref fI))) (t1 : PySem.W.typeIn K (.ref fI) = some (.type "function"))
    (l1 : K.lookup fI = some ⟨oc, od, .func (PySem.W.fnOf "__init__" q (defArgs st) (defBody st) (defScope st) .none .none doc pm an cdv ct), osl⟩) (hst : defArgs st = HlX.iA p ∧ defBody st = HlX.iB n j q1 q2 q3 q4 q5 ∧ defScope st = HlX.iS) (c1 : PySem.W.codeIn K cdv q = true)
    (kC : PySem.W.keepIn K (.ref C) = true) (eC : PySem.W.subIn K (.ref C) (.type "BaseException") = some true) (tC : PySem.W.typeIn K (.ref C) = some (.type "type")) (hC : PySem.W.hasDictIn K C = true) (sC : PySem.W.subIn K (.ref C) (.ref RC) = some true) : EK K x n RC := by
  obtain ⟨h1, h2, h3⟩ := hst
  rw [h1, h2, h3] at l1
  exact ⟨C, fI, a, fun mg gC => ⟨gC, ⟨nm, qn, N, bs, sn, sub, ab, col, dd, m0, m1, m2, m3, m5, xL⟩, sa, ga, gg, nb, a1, t1, kC, eC, tC, hC, exm_of gR iR tR sC, ⟨oc, od, doc, pm, an, cdv, ct, osl, j, p, q1, q2, q3, q4, q5, q, l1, c1⟩⟩⟩
end
/-- whole numbers, each with its hash -/
def intKey (e : DictEntry) : Bool := match e.key with
  | .int k _ => e.hash == hashInt k
  | _ => false
/-- the entries of a plain dict -/
def entries (o : Option Obj) : Array DictEntry := match o with
  | some ⟨_, _, .dict es _, _⟩ => es
  | _ => #[]
def plainD (o : Option Obj) : Bool := match o with
  | some ⟨.type t, none, .dict _ _, ⟨[]⟩⟩ => decide (t = "dict")
  | _ => false
def entryAt (es : List DictEntry) (k : Int) : Option Value := (es.find? fun e => Value.isInt k e.key).map (·.val)
theorem entryAt_is (es : Array DictEntry) (k : Int) : findBy Value.isInt es k = entryAt es.toList k := by
  obtain ⟨l⟩ := es
  unfold findBy entryAt
  rw [List.find?_toArray]
theorem plainD_is {o : Option Obj} (h : plainD o = true) : ∃ n, o = some ⟨.type "dict", none, .dict (entries o) n, #[]⟩ := by
  unfold plainD at h
  split at h
  · rename_i t es n
    rw [of_decide_eq_true h]
    exact ⟨n, rfl⟩
  · cases h
theorem tbl_mk {K : PySem.W.Frag} {D : Addr} {Fs : List Addr} (l : plainD (K.lookup D) = true) (hk : (entries (K.lookup D)).toList.all intKey = true)
    (hf : (List.range 19).map (fun i => entryAt (entries (K.lookup D)).toList ((i + 1 : Nat) : Int)) = Fs.map fun f => some (.ref f)) : Tbl K D fun j => Fs.getD (j - 1) 0 := by
  obtain ⟨n, el⟩ := plainD_is l
  refine ⟨entries (K.lookup D), n, el, fun e he => ?_, fun j j1 j2 => ?_⟩
  · have h := List.all_eq_true.mp hk e (Array.mem_toList_iff.mpr he)
    unfold intKey at h
    split at h
    · rename_i k t ek
      exact ⟨k, t, ek, beq_iff_eq.mp h⟩
    · cases h
  · have h := congrArg (fun z => z[j - 1]?) hf
    rw [List.getElem?_map, List.getElem?_map, List.getElem?_range (by omega)] at h
    have e : j - 1 + 1 = j := by omega
    have h : some (entryAt (entries (K.lookup D)).toList ((j - 1 + 1 : Nat) : Int)) = Fs[j - 1]?.map fun f => some (.ref f) := h
    rw [e] at h
    rw [entryAt_is]
    cases hx : Fs[j - 1]? with
    | none =>
      rw [hx] at h
      cases h
    | some f =>
      rw [hx] at h
      rw [Option.some.inj h]
      show some (Value.ref f) = some (Value.ref (Fs.getD (j - 1) 0))
      rw [List.getD_eq_getElem?_getD, hx]
      rfl
/-- a whole number that a name stands for -/
def intAt : Option (Option Value) → Option Int
  | some (some (.int i _)) => some i
  | _ => none
theorem intAt_is {o : Option (Option Value)} {i : Int} (h : intAt o = some i) : ∃ t, o = some (some (.int i t)) := by
  unfold intAt at h
  split at h
  · rename_i j t
    exact ⟨t, by rw [Option.some.inj h]⟩
  · cases h
/-- what the top has written -/
structure Written (K : PySem.W.Frag) (RC C fI D c0 v1 v2 v3 v4 v5 v6 v7 v8 v9 v10 v11 v12 v13 v14 v15 v16 v17 v18 v19 : Addr) : Prop where
  gR : PySem.W.nsIn K mainGlobals "Refusal" = some (some (.ref RC))
  e2 : EK K "NoSplitter" 11 RC
  e3 : EK K "NoSuchProduct" 2 RC
  e4 : EK K "OutsideLimits" 22 RC
  e5 : EK K "ProductExists" 17 RC
  e6 : EK K "TooManyProducts" 28 RC
  e7 : EK K "HideTooThin" 33 RC
  e8 : EK K "NoThickness" 33 RC
  gC : PySem.W.nsIn K mainGlobals "Splitter" = some (some (.ref C))
  cls : L2.Cls K C
  nL : PySem.W.findIn K (.ref C) "cut_loss" = some none
  nM : PySem.W.findIn K (.ref C) "max_cuts" = some none
  nP : PySem.W.findIn K (.ref C) "prices" = some none
  mkC : Mk K C fI
  m0 : ∃ fd, Fun K "__init__" "Splitter.__init__" (inClass (top 38) 0) fI fd
  m1 : ∃ f fd, MK K C "check_product" "Splitter.check_product" (inClass (top 38) 1) f fd
  m2 : ∃ f fd, MK K C "check_new_product" "Splitter.check_new_product" (inClass (top 38) 2) f fd
  m3 : ∃ f fd, MK K C "add_product" "Splitter.add_product" (inClass (top 38) 3) f fd
  m4 : ∃ f fd, MK K C "remove_product" "Splitter.remove_product" (inClass (top 38) 4) f fd
  m5 : ∃ f fd, MK K C "set_price" "Splitter.set_price" (inClass (top 38) 5) f fd
  m6 : ∃ f fd, MK K C "get_products" "Splitter.get_products" (inClass (top 38) 6) f fd
  m7 : ∃ f fd, MK K C "set_machine" "Splitter.set_machine" (inClass (top 38) 7) f fd
  m8 : ∃ f fd, MK K C "plan_value" "Splitter.plan_value" (inClass (top 38) 8) f fd
  m9 : ∃ f fd, MK K C "fits" "Splitter.fits" (inClass (top 38) 9) f fd
  m10 : ∃ f fd, MK K C "cut_count" "Splitter.cut_count" (inClass (top 38) 10) f fd
  m11 : ∃ f fd, MK K C "plans_for" "Splitter.plans_for" (inClass (top 38) 11) f fd
  m12 : ∃ f fd, MK K C "best_value" "Splitter.best_value" (inClass (top 38) 12) f fd
  m13 : ∃ f fd, MK K C "best_plan" "Splitter.best_plan" (inClass (top 38) 13) f fd ∧ fd.code = .ref c0
  m14 : ∃ f fd, MK K C "waste" "Splitter.waste" (inClass (top 38) 14) f fd
  m15 : ∃ f fd, MK K C "plan_count" "Splitter.plan_count" (inClass (top 38) 15) f fd
  m16 : ∃ f fd, MK K C "best_plan_count" "Splitter.best_plan_count" (inClass (top 38) 16) f fd
  m17 : ∃ f fd, MK K C "value_table" "Splitter.value_table" (inClass (top 38) 17) f fd
  m18 : ∃ f fd, MK K C "least_thickness" "Splitter.least_thickness" (inClass (top 38) 18) f fd
  m19 : ∃ f fd, MK K C "value_with_machine" "Splitter.value_with_machine" (inClass (top 38) 19) f fd
  m20 : ∃ f fd, MK K C "value_with_product" "Splitter.value_with_product" (inClass (top 38) 20) f fd
  m21 : ∃ f fd, MK K C "layers_of_product" "Splitter.layers_of_product" (inClass (top 38) 21) f fd
  m22 : ∃ f fd, MK K C "value_of_two" "Splitter.value_of_two" (inClass (top 38) 22) f fd
  d20 : ∃ f fd, DK K "check_machine" (top 20) f fd
  d21 : ∃ f fd, DK K "check_thickness" (top 21) f fd
  d22 : ∃ f fd, DK K "check_price" (top 22) f fd
  d23 : ∃ f fd, DK K "check_hide" (top 23) f fd
  d24 : ∃ f fd, DK K "check_value" (top 24) f fd
  d25 : ∃ f fd, DK K "check_plan" (top 25) f fd
  d27 : ∃ f fd, DK K "sum_of_prices" (top 27) f fd
  d28 : ∃ f fd, DK K "used_thickness" (top 28) f fd
  d29 : ∃ f fd, DK K "number_of_cuts" (top 29) f fd
  d30 : ∃ f fd, DK K "plan_fits" (top 30) f fd
  d31 : ∃ f fd, DK K "longer_plans" (top 31) f fd
  d32 : ∃ f fd, DK K "plans_within" (top 32) f fd
  d33 : ∃ f fd, DK K "fitting_plans" (top 33) f fd
  d34 : ∃ f fd, DK K "greatest_value" (top 34) f fd
  d35 : ∃ f fd, DK K "thinnest_hides" (top 35) f fd
  d61 : ∃ f fd, DK K "answer_call" (top 61) f fd
  d62 : ∃ f fd, DK K "split_calls" (top 62) f fd
  a1 : ∃ fd, DK K "answer_add_product" (top 41) v1 fd
  a2 : ∃ fd, DK K "answer_remove_product" (top 42) v2 fd
  a3 : ∃ fd, DK K "answer_set_price" (top 43) v3 fd
  a4 : ∃ fd, DK K "answer_get_products" (top 44) v4 fd
  a5 : ∃ fd, DK K "answer_set_machine" (top 45) v5 fd
  a6 : ∃ fd, DK K "answer_plan_value" (top 46) v6 fd
  a7 : ∃ fd, DK K "answer_fits" (top 47) v7 fd
  a8 : ∃ fd, DK K "answer_cut_count" (top 48) v8 fd
  a9 : ∃ fd, DK K "answer_best_value" (top 49) v9 fd
  a10 : ∃ fd, DK K "answer_best_plan" (top 50) v10 fd
  a11 : ∃ fd, DK K "answer_waste" (top 51) v11 fd
  a12 : ∃ fd, DK K "answer_plan_count" (top 52) v12 fd
  a13 : ∃ fd, DK K "answer_best_plan_count" (top 53) v13 fd
  a14 : ∃ fd, DK K "answer_value_table" (top 54) v14 fd
  a15 : ∃ fd, DK K "answer_least_thickness" (top 55) v15 fd
  a16 : ∃ fd, DK K "answer_value_with_machine" (top 56) v16 fd
  a17 : ∃ fd, DK K "answer_value_with_product" (top 57) v17 fd
  a18 : ∃ fd, DK K "answer_layers_of_product" (top 58) v18 fd
  a19 : ∃ fd, DK K "answer_value_of_two" (top 59) v19 fd
  gD : PySem.W.nsIn K mainGlobals "ANSWERED_BY" = some (some (.ref D))
  tbl : Tbl K D fun j => ([v1, v2, v3, v4, v5, v6, v7, v8, v9, v10, v11, v12, v13, v14, v15, v16, v17, v18, v19] : List Addr).getD (j - 1) 0
  c_minT : intAt (PySem.W.nsIn K mainGlobals "MIN_THICKNESS") = some 3
  c_maxT : intAt (PySem.W.nsIn K mainGlobals "MAX_THICKNESS") = some 60
  c_minP : intAt (PySem.W.nsIn K mainGlobals "MIN_PRICE") = some 1
  c_maxP : intAt (PySem.W.nsIn K mainGlobals "MAX_PRICE") = some 99
  c_loss : intAt (PySem.W.nsIn K mainGlobals "MAX_CUT_LOSS") = some 9
  c_cuts : intAt (PySem.W.nsIn K mainGlobals "MAX_CUTS") = some 5
  c_hide : intAt (PySem.W.nsIn K mainGlobals "MAX_HIDE") = some 60
  c_value : intAt (PySem.W.nsIn K mainGlobals "MAX_VALUE") = some 999
  c_prods : intAt (PySem.W.nsIn K mainGlobals "MAX_PRODUCTS") = some 6
  c_layers : intAt (PySem.W.nsIn K mainGlobals "MAX_LAYERS") = some 6
  c_step : intAt (PySem.W.nsIn K mainGlobals "TABLE_STEP") = some 5
  c_create : intAt (PySem.W.nsIn K mainGlobals "CREATE") = some 0
  b_len : PySem.W.nsIn K mainGlobals "len" = some none
  b_sum : PySem.W.nsIn K mainGlobals "sum" = some none
  b_max : PySem.W.nsIn K mainGlobals "max" = some none
  b_min : PySem.W.nsIn K mainGlobals "min" = some none
  b_sorted : PySem.W.nsIn K mainGlobals "sorted" = some none
  b_list : PySem.W.nsIn K mainGlobals "list" = some none
  b_dict : PySem.W.nsIn K mainGlobals "dict" = some none
  b_range : PySem.W.nsIn K mainGlobals "range" = some none
  b_enumerate : PySem.W.nsIn K mainGlobals "enumerate" = some none
theorem upto {p : Nat → Prop} (h : p 1 ∧ p 2 ∧ p 3 ∧ p 4 ∧ p 5 ∧ p 6 ∧ p 7 ∧ p 8 ∧ p 9 ∧ p 10 ∧ p 11 ∧ p 12 ∧ p 13 ∧ p 14 ∧ p 15 ∧ p 16 ∧ p 17 ∧ p 18 ∧ p 19) : ∀ j : Nat, 1 ≤ j → j ≤ 19 → p j := by
  intro j j1 j2
  obtain ⟨h1, h2, h3, h4, h5, h6, h7, h8, h9, h10, h11, h12, h13, h14, h15, h16, h17, h18, h19⟩ := h
  match j, j1, j2 with
  | 1, _, _ => exact h1
  | 2, _, _ => exact h2
  | 3, _, _ => exact h3
  | 4, _, _ => exact h4
  | 5, _, _ => exact h5
  | 6, _, _ => exact h6
  | 7, _, _ => exact h7
  | 8, _, _ => exact h8
  | 9, _, _ => exact h9
  | 10, _, _ => exact h10
  | 11, _, _ => exact h11
  | 12, _, _ => exact h12
  | 13, _, _ => exact h13
  | 14, _, _ => exact h14
  | 15, _, _ => exact h15
  | 16, _, _ => exact h16
  | 17, _, _ => exact h17
  | 18, _, _ => exact h18
  | 19, _, _ => exact h19
  | j + 20, _, j2 => omega
/-- answers keeps its promise -/
theorem all_keeps {P : Program} {w : World} {K : PySem.W.Frag} {h : Heap} {mg : Str → Option Value} {fa RC C fI D c0 T0 v1 v2 v3 v4 v5 v6 v7 v8 v9 v10 v11 v12 v13 v14 v15 v16 v17 v18 v19 : Addr} (X : K.In h) (G : h.Ns mainGlobals mg) (hfa : mg "answers" = some (.ref fa)) (W : Written K RC C fI D c0 v1 v2 v3 v4 v5 v6 v7 v8 v9 v10 v11 v12 v13 v14 v15 v16 v17 v18 v19) (dA : ∃ f fd, DK K "answers" (top 63) f fd) :
    ∃ fd : FuncData, (∀ (s : Shared) (us : List Value), us.length = (["calls"] : List Str).length → BindsTo s fd ⟨us, []⟩ ((["calls"] : List Str).zip us)) ∧ ∀ base : Heap, K.In base → base.Ns mainGlobals mg → TabB base mg c0 T0 → FnOk P w K mg base CX0 10 fa fd ["calls"] (spTop K T0) := by
  have ek : ∀ {x : Str} {n : Int}, EK K x n RC → ∃ C fI, HlX.ErrTxt K mg x n C fI RC := fun ⟨C, fI, a, h⟩ => ⟨C, fI, h mg (PySem.W.mg_of X G a)⟩
  have E : Er K mg RC := ⟨PySem.W.mg_of X G W.gR, ek W.e2, ek W.e3, ek W.e4, ek W.e5, ek W.e6, ek W.e7, ek W.e8⟩
  have ck : ∀ {x : Str} {n : Int}, intAt (PySem.W.nsIn K mainGlobals x) = some n → ∃ t, mg x = some (.int n t) := fun h => let ⟨t, a⟩ := intAt_is h; ⟨t, PySem.W.mg_of X G a⟩
  have Li : Lim mg := ⟨ck W.c_minT, ck W.c_maxT, ck W.c_minP, ck W.c_maxP, ck W.c_loss, ck W.c_cuts, ck W.c_hide, ck W.c_value, ck W.c_prods, ck W.c_layers, ck W.c_step, ck W.c_create⟩
  have B : Blt mg := ⟨PySem.W.mg_none_of X G W.b_len, PySem.W.mg_none_of X G W.b_sum, PySem.W.mg_none_of X G W.b_max, PySem.W.mg_none_of X G W.b_min, PySem.W.mg_none_of X G W.b_sorted, PySem.W.mg_none_of X G W.b_list, PySem.W.mg_none_of X G W.b_dict, PySem.W.mg_none_of X G W.b_range, PySem.W.mg_none_of X G W.b_enumerate⟩
  have S : Sc K mg C := ⟨W.cls, W.nL, W.nM, W.nP, PySem.W.mg_of X G W.gC⟩
  obtain ⟨f20, q20, W20⟩ := W.d20
  have D20 : Df K mg "check_machine" (top 20) ["cut_loss", "max_cuts"] f20 q20 := ⟨W20.F, PySem.W.mg_of X G W20.a, W20.k, W20.F.binds fun _ _ _ _ _ _ us hl => match us, hl with | [_, _], _ => rfl⟩
  obtain ⟨f21, q21, W21⟩ := W.d21
  have D21 : Df K mg "check_thickness" (top 21) ["thickness"] f21 q21 := ⟨W21.F, PySem.W.mg_of X G W21.a, W21.k, W21.F.binds fun _ _ _ _ _ _ us hl => match us, hl with | [_], _ => rfl⟩
  obtain ⟨f22, q22, W22⟩ := W.d22
  have D22 : Df K mg "check_price" (top 22) ["price"] f22 q22 := ⟨W22.F, PySem.W.mg_of X G W22.a, W22.k, W22.F.binds fun _ _ _ _ _ _ us hl => match us, hl with | [_], _ => rfl⟩
  obtain ⟨f23, q23, W23⟩ := W.d23
  have D23 : Df K mg "check_hide" (top 23) ["hide"] f23 q23 := ⟨W23.F, PySem.W.mg_of X G W23.a, W23.k, W23.F.binds fun _ _ _ _ _ _ us hl => match us, hl with | [_], _ => rfl⟩
  obtain ⟨f24, q24, W24⟩ := W.d24
  have D24 : Df K mg "check_value" (top 24) ["value"] f24 q24 := ⟨W24.F, PySem.W.mg_of X G W24.a, W24.k, W24.F.binds fun _ _ _ _ _ _ us hl => match us, hl with | [_], _ => rfl⟩
  obtain ⟨f25, q25, W25⟩ := W.d25
  have D25 : Df K mg "check_plan" (top 25) ["layers", "thicknesses"] f25 q25 := ⟨W25.F, PySem.W.mg_of X G W25.a, W25.k, W25.F.binds fun _ _ _ _ _ _ us hl => match us, hl with | [_, _], _ => rfl⟩
  obtain ⟨f27, q27, W27⟩ := W.d27
  have D27 : Df K mg "sum_of_prices" (top 27) ["plan", "prices"] f27 q27 := ⟨W27.F, PySem.W.mg_of X G W27.a, W27.k, W27.F.binds fun _ _ _ _ _ _ us hl => match us, hl with | [_, _], _ => rfl⟩
  obtain ⟨f28, q28, W28⟩ := W.d28
  have D28 : Df K mg "used_thickness" (top 28) ["plan", "cut_loss"] f28 q28 := ⟨W28.F, PySem.W.mg_of X G W28.a, W28.k, W28.F.binds fun _ _ _ _ _ _ us hl => match us, hl with | [_, _], _ => rfl⟩
  obtain ⟨f29, q29, W29⟩ := W.d29
  have D29 : Df K mg "number_of_cuts" (top 29) ["plan", "cut_loss", "hide"] f29 q29 := ⟨W29.F, PySem.W.mg_of X G W29.a, W29.k, W29.F.binds fun _ _ _ _ _ _ us hl => match us, hl with | [_, _, _], _ => rfl⟩
  obtain ⟨f30, q30, W30⟩ := W.d30
  have D30 : Df K mg "plan_fits" (top 30) ["plan", "cut_loss", "max_cuts", "hide"] f30 q30 := ⟨W30.F, PySem.W.mg_of X G W30.a, W30.k, W30.F.binds fun _ _ _ _ _ _ us hl => match us, hl with | [_, _, _, _], _ => rfl⟩
  obtain ⟨f31, q31, W31⟩ := W.d31
  have D31 : Df K mg "longer_plans" (top 31) ["plan", "thicknesses"] f31 q31 := ⟨W31.F, PySem.W.mg_of X G W31.a, W31.k, W31.F.binds fun _ _ _ _ _ _ us hl => match us, hl with | [_, _], _ => rfl⟩
  obtain ⟨f32, q32, W32⟩ := W.d32
  have D32 : Df K mg "plans_within" (top 32) ["thicknesses", "cut_loss", "hide"] f32 q32 := ⟨W32.F, PySem.W.mg_of X G W32.a, W32.k, W32.F.binds fun _ _ _ _ _ _ us hl => match us, hl with | [_, _, _], _ => rfl⟩
  obtain ⟨f33, q33, W33⟩ := W.d33
  have D33 : Df K mg "fitting_plans" (top 33) ["thicknesses", "cut_loss", "max_cuts", "hide"] f33 q33 := ⟨W33.F, PySem.W.mg_of X G W33.a, W33.k, W33.F.binds fun _ _ _ _ _ _ us hl => match us, hl with | [_, _, _, _], _ => rfl⟩
  obtain ⟨f34, q34, W34⟩ := W.d34
  have D34 : Df K mg "greatest_value" (top 34) ["prices", "cut_loss", "max_cuts", "hide"] f34 q34 := ⟨W34.F, PySem.W.mg_of X G W34.a, W34.k, W34.F.binds fun _ _ _ _ _ _ us hl => match us, hl with | [_, _, _, _], _ => rfl⟩
  obtain ⟨f35, q35, W35⟩ := W.d35
  have D35 : Df K mg "thinnest_hides" (top 35) ["prices", "cut_loss", "max_cuts", "value"] f35 q35 := ⟨W35.F, PySem.W.mg_of X G W35.a, W35.k, W35.F.binds fun _ _ _ _ _ _ us hl => match us, hl with | [_, _, _, _], _ => rfl⟩
  obtain ⟨f61, q61, W61⟩ := W.d61
  have D61 : Df K mg "answer_call" (top 61) ["splitter", "number", "numbers"] f61 q61 := ⟨W61.F, PySem.W.mg_of X G W61.a, W61.k, W61.F.binds fun _ _ _ _ _ _ us hl => match us, hl with | [_, _, _], _ => rfl⟩
  obtain ⟨f62, q62, W62⟩ := W.d62
  have D62 : Df K mg "split_calls" (top 62) ["calls"] f62 q62 := ⟨W62.F, PySem.W.mg_of X G W62.a, W62.k, W62.F.binds fun _ _ _ _ _ _ us hl => match us, hl with | [_], _ => rfl⟩
  obtain ⟨n0, N0⟩ := W.m0
  have B0 : Binds K n0 ["self", "cut_loss", "max_cuts"] [] := N0.binds fun _ _ _ _ _ _ us hl => match us, hl with | [_, _, _], _ => rfl
  obtain ⟨g1, n1, N1⟩ := W.m1
  have M1 : Mt K C "check_product" "Splitter.check_product" (inClass (top 38) 1) ["self", "thickness"] g1 n1 := ⟨N1.F, N1.m, N1.F.binds fun _ _ _ _ _ _ us hl => match us, hl with | [_, _], _ => rfl⟩
  obtain ⟨g2, n2, N2⟩ := W.m2
  have M2 : Mt K C "check_new_product" "Splitter.check_new_product" (inClass (top 38) 2) ["self", "thickness"] g2 n2 := ⟨N2.F, N2.m, N2.F.binds fun _ _ _ _ _ _ us hl => match us, hl with | [_, _], _ => rfl⟩
  obtain ⟨g3, n3, N3⟩ := W.m3
  have M3 : Mt K C "add_product" "Splitter.add_product" (inClass (top 38) 3) ["self", "thickness", "price"] g3 n3 := ⟨N3.F, N3.m, N3.F.binds fun _ _ _ _ _ _ us hl => match us, hl with | [_, _, _], _ => rfl⟩
  obtain ⟨g4, n4, N4⟩ := W.m4
  have M4 : Mt K C "remove_product" "Splitter.remove_product" (inClass (top 38) 4) ["self", "thickness"] g4 n4 := ⟨N4.F, N4.m, N4.F.binds fun _ _ _ _ _ _ us hl => match us, hl with | [_, _], _ => rfl⟩
  obtain ⟨g5, n5, N5⟩ := W.m5
  have M5 : Mt K C "set_price" "Splitter.set_price" (inClass (top 38) 5) ["self", "thickness", "price"] g5 n5 := ⟨N5.F, N5.m, N5.F.binds fun _ _ _ _ _ _ us hl => match us, hl with | [_, _, _], _ => rfl⟩
  obtain ⟨g6, n6, N6⟩ := W.m6
  have M6 : Mt K C "get_products" "Splitter.get_products" (inClass (top 38) 6) ["self"] g6 n6 := ⟨N6.F, N6.m, N6.F.binds fun _ _ _ _ _ _ us hl => match us, hl with | [_], _ => rfl⟩
  obtain ⟨g7, n7, N7⟩ := W.m7
  have M7 : Mt K C "set_machine" "Splitter.set_machine" (inClass (top 38) 7) ["self", "cut_loss", "max_cuts"] g7 n7 := ⟨N7.F, N7.m, N7.F.binds fun _ _ _ _ _ _ us hl => match us, hl with | [_, _, _], _ => rfl⟩
  obtain ⟨g8, n8, N8⟩ := W.m8
  have M8 : Mt K C "plan_value" "Splitter.plan_value" (inClass (top 38) 8) ["self", "plan"] g8 n8 := ⟨N8.F, N8.m, N8.F.binds fun _ _ _ _ _ _ us hl => match us, hl with | [_, _], _ => rfl⟩
  obtain ⟨g9, n9, N9⟩ := W.m9
  have M9 : Mt K C "fits" "Splitter.fits" (inClass (top 38) 9) ["self", "hide", "plan"] g9 n9 := ⟨N9.F, N9.m, N9.F.binds fun _ _ _ _ _ _ us hl => match us, hl with | [_, _, _], _ => rfl⟩
  obtain ⟨g10, n10, N10⟩ := W.m10
  have M10 : Mt K C "cut_count" "Splitter.cut_count" (inClass (top 38) 10) ["self", "hide", "plan"] g10 n10 := ⟨N10.F, N10.m, N10.F.binds fun _ _ _ _ _ _ us hl => match us, hl with | [_, _, _], _ => rfl⟩
  obtain ⟨g11, n11, N11⟩ := W.m11
  have M11 : Mt K C "plans_for" "Splitter.plans_for" (inClass (top 38) 11) ["self", "hide"] g11 n11 := ⟨N11.F, N11.m, N11.F.binds fun _ _ _ _ _ _ us hl => match us, hl with | [_, _], _ => rfl⟩
  obtain ⟨g12, n12, N12⟩ := W.m12
  have M12 : Mt K C "best_value" "Splitter.best_value" (inClass (top 38) 12) ["self", "hide"] g12 n12 := ⟨N12.F, N12.m, N12.F.binds fun _ _ _ _ _ _ us hl => match us, hl with | [_, _], _ => rfl⟩
  obtain ⟨g13, n13, N13, code13⟩ := W.m13
  have M13 : Mt K C "best_plan" "Splitter.best_plan" (inClass (top 38) 13) ["self", "hide"] g13 n13 := ⟨N13.F, N13.m, N13.F.binds fun _ _ _ _ _ _ us hl => match us, hl with | [_, _], _ => rfl⟩
  obtain ⟨g14, n14, N14⟩ := W.m14
  have M14 : Mt K C "waste" "Splitter.waste" (inClass (top 38) 14) ["self", "hide"] g14 n14 := ⟨N14.F, N14.m, N14.F.binds fun _ _ _ _ _ _ us hl => match us, hl with | [_, _], _ => rfl⟩
  obtain ⟨g15, n15, N15⟩ := W.m15
  have M15 : Mt K C "plan_count" "Splitter.plan_count" (inClass (top 38) 15) ["self", "hide"] g15 n15 := ⟨N15.F, N15.m, N15.F.binds fun _ _ _ _ _ _ us hl => match us, hl with | [_, _], _ => rfl⟩
  obtain ⟨g16, n16, N16⟩ := W.m16
  have M16 : Mt K C "best_plan_count" "Splitter.best_plan_count" (inClass (top 38) 16) ["self", "hide"] g16 n16 := ⟨N16.F, N16.m, N16.F.binds fun _ _ _ _ _ _ us hl => match us, hl with | [_, _], _ => rfl⟩
  obtain ⟨g17, n17, N17⟩ := W.m17
  have M17 : Mt K C "value_table" "Splitter.value_table" (inClass (top 38) 17) ["self"] g17 n17 := ⟨N17.F, N17.m, N17.F.binds fun _ _ _ _ _ _ us hl => match us, hl with | [_], _ => rfl⟩
  obtain ⟨g18, n18, N18⟩ := W.m18
  have M18 : Mt K C "least_thickness" "Splitter.least_thickness" (inClass (top 38) 18) ["self", "value"] g18 n18 := ⟨N18.F, N18.m, N18.F.binds fun _ _ _ _ _ _ us hl => match us, hl with | [_, _], _ => rfl⟩
  obtain ⟨g19, n19, N19⟩ := W.m19
  have M19 : Mt K C "value_with_machine" "Splitter.value_with_machine" (inClass (top 38) 19) ["self", "cut_loss", "max_cuts", "hide"] g19 n19 := ⟨N19.F, N19.m, N19.F.binds fun _ _ _ _ _ _ us hl => match us, hl with | [_, _, _, _], _ => rfl⟩
  obtain ⟨g20, n20, N20⟩ := W.m20
  have M20 : Mt K C "value_with_product" "Splitter.value_with_product" (inClass (top 38) 20) ["self", "thickness", "price", "hide"] g20 n20 := ⟨N20.F, N20.m, N20.F.binds fun _ _ _ _ _ _ us hl => match us, hl with | [_, _, _, _], _ => rfl⟩
  obtain ⟨g21, n21, N21⟩ := W.m21
  have M21 : Mt K C "layers_of_product" "Splitter.layers_of_product" (inClass (top 38) 21) ["self", "hide", "thickness"] g21 n21 := ⟨N21.F, N21.m, N21.F.binds fun _ _ _ _ _ _ us hl => match us, hl with | [_, _, _], _ => rfl⟩
  obtain ⟨g22, n22, N22⟩ := W.m22
  have M22 : Mt K C "value_of_two" "Splitter.value_of_two" (inClass (top 38) 22) ["self", "first", "second"] g22 n22 := ⟨N22.F, N22.m, N22.F.binds fun _ _ _ _ _ _ us hl => match us, hl with | [_, _, _], _ => rfl⟩
  obtain ⟨k1, A1⟩ := W.a1
  have H1 : Df K mg "answer_add_product" (top 41) pAns v1 k1 := ⟨A1.F, PySem.W.mg_of X G A1.a, A1.k, A1.F.binds fun _ _ _ _ _ _ us hl => match us, hl with | [_, _], _ => rfl⟩
  obtain ⟨k2, A2⟩ := W.a2
  have H2 : Df K mg "answer_remove_product" (top 42) pAns v2 k2 := ⟨A2.F, PySem.W.mg_of X G A2.a, A2.k, A2.F.binds fun _ _ _ _ _ _ us hl => match us, hl with | [_, _], _ => rfl⟩
  obtain ⟨k3, A3⟩ := W.a3
  have H3 : Df K mg "answer_set_price" (top 43) pAns v3 k3 := ⟨A3.F, PySem.W.mg_of X G A3.a, A3.k, A3.F.binds fun _ _ _ _ _ _ us hl => match us, hl with | [_, _], _ => rfl⟩
  obtain ⟨k4, A4⟩ := W.a4
  have H4 : Df K mg "answer_get_products" (top 44) pAns v4 k4 := ⟨A4.F, PySem.W.mg_of X G A4.a, A4.k, A4.F.binds fun _ _ _ _ _ _ us hl => match us, hl with | [_, _], _ => rfl⟩
  obtain ⟨k5, A5⟩ := W.a5
  have H5 : Df K mg "answer_set_machine" (top 45) pAns v5 k5 := ⟨A5.F, PySem.W.mg_of X G A5.a, A5.k, A5.F.binds fun _ _ _ _ _ _ us hl => match us, hl with | [_, _], _ => rfl⟩
  obtain ⟨k6, A6⟩ := W.a6
  have H6 : Df K mg "answer_plan_value" (top 46) pAns v6 k6 := ⟨A6.F, PySem.W.mg_of X G A6.a, A6.k, A6.F.binds fun _ _ _ _ _ _ us hl => match us, hl with | [_, _], _ => rfl⟩
  obtain ⟨k7, A7⟩ := W.a7
  have H7 : Df K mg "answer_fits" (top 47) pAns v7 k7 := ⟨A7.F, PySem.W.mg_of X G A7.a, A7.k, A7.F.binds fun _ _ _ _ _ _ us hl => match us, hl with | [_, _], _ => rfl⟩
  obtain ⟨k8, A8⟩ := W.a8
  have H8 : Df K mg "answer_cut_count" (top 48) pAns v8 k8 := ⟨A8.F, PySem.W.mg_of X G A8.a, A8.k, A8.F.binds fun _ _ _ _ _ _ us hl => match us, hl with | [_, _], _ => rfl⟩
  obtain ⟨k9, A9⟩ := W.a9
  have H9 : Df K mg "answer_best_value" (top 49) pAns v9 k9 := ⟨A9.F, PySem.W.mg_of X G A9.a, A9.k, A9.F.binds fun _ _ _ _ _ _ us hl => match us, hl with | [_, _], _ => rfl⟩
  obtain ⟨k10, A10⟩ := W.a10
  have H10 : Df K mg "answer_best_plan" (top 50) pAns v10 k10 := ⟨A10.F, PySem.W.mg_of X G A10.a, A10.k, A10.F.binds fun _ _ _ _ _ _ us hl => match us, hl with | [_, _], _ => rfl⟩
  obtain ⟨k11, A11⟩ := W.a11
  have H11 : Df K mg "answer_waste" (top 51) pAns v11 k11 := ⟨A11.F, PySem.W.mg_of X G A11.a, A11.k, A11.F.binds fun _ _ _ _ _ _ us hl => match us, hl with | [_, _], _ => rfl⟩
  obtain ⟨k12, A12⟩ := W.a12
  have H12 : Df K mg "answer_plan_count" (top 52) pAns v12 k12 := ⟨A12.F, PySem.W.mg_of X G A12.a, A12.k, A12.F.binds fun _ _ _ _ _ _ us hl => match us, hl with | [_, _], _ => rfl⟩
  obtain ⟨k13, A13⟩ := W.a13
  have H13 : Df K mg "answer_best_plan_count" (top 53) pAns v13 k13 := ⟨A13.F, PySem.W.mg_of X G A13.a, A13.k, A13.F.binds fun _ _ _ _ _ _ us hl => match us, hl with | [_, _], _ => rfl⟩
  obtain ⟨k14, A14⟩ := W.a14
  have H14 : Df K mg "answer_value_table" (top 54) pAns v14 k14 := ⟨A14.F, PySem.W.mg_of X G A14.a, A14.k, A14.F.binds fun _ _ _ _ _ _ us hl => match us, hl with | [_, _], _ => rfl⟩
  obtain ⟨k15, A15⟩ := W.a15
  have H15 : Df K mg "answer_least_thickness" (top 55) pAns v15 k15 := ⟨A15.F, PySem.W.mg_of X G A15.a, A15.k, A15.F.binds fun _ _ _ _ _ _ us hl => match us, hl with | [_, _], _ => rfl⟩
  obtain ⟨k16, A16⟩ := W.a16
  have H16 : Df K mg "answer_value_with_machine" (top 56) pAns v16 k16 := ⟨A16.F, PySem.W.mg_of X G A16.a, A16.k, A16.F.binds fun _ _ _ _ _ _ us hl => match us, hl with | [_, _], _ => rfl⟩
  obtain ⟨k17, A17⟩ := W.a17
  have H17 : Df K mg "answer_value_with_product" (top 57) pAns v17 k17 := ⟨A17.F, PySem.W.mg_of X G A17.a, A17.k, A17.F.binds fun _ _ _ _ _ _ us hl => match us, hl with | [_, _], _ => rfl⟩
  obtain ⟨k18, A18⟩ := W.a18
  have H18 : Df K mg "answer_layers_of_product" (top 58) pAns v18 k18 := ⟨A18.F, PySem.W.mg_of X G A18.a, A18.k, A18.F.binds fun _ _ _ _ _ _ us hl => match us, hl with | [_, _], _ => rfl⟩
  obtain ⟨k19, A19⟩ := W.a19
  have H19 : Df K mg "answer_value_of_two" (top 59) pAns v19 k19 := ⟨A19.F, PySem.W.mg_of X G A19.a, A19.k, A19.F.binds fun _ _ _ _ _ _ us hl => match us, hl with | [_, _], _ => rfl⟩
  obtain ⟨f63, q63, W63⟩ := dA
  have e := hfa.symm.trans (PySem.W.mg_of X G W63.a)
  cases e
  have b63 := W63.F.binds (ps := ["calls"]) fun _ _ _ _ _ _ us hl => match us, hl with | [_], _ => rfl
  have D63 : Df K mg "answers" (top 63) ["calls"] fa q63 := ⟨W63.F, hfa, W63.k, b63⟩
  refine ⟨q63, fun s us hu => ?_, fun base Kb Gb TB => ?_⟩
  · obtain ⟨oc, od, kV, doc, pm, an, cdv, ct, osl, rfl, _⟩ := W63.F.ex
    exact match us, hu with | [_], _ => .of_eq rfl
  have G20 : FnOk P w K mg base (L2.CX P w) 2 f20 q20 _ (spMachine K RC) := okMachine D20 Li E
  have G21 : FnOk P w K mg base (L2.CX P w) 2 f21 q21 _ (spThick K RC) := okThick D21 Li E
  have G22 : FnOk P w K mg base (L2.CX P w) 2 f22 q22 _ (spPrice K RC) := okPrice D22 Li E
  have G23 : FnOk P w K mg base (L2.CX P w) 2 f23 q23 _ (spHide K RC) := okHide D23 Li E
  have G24 : FnOk P w K mg base (L2.CX P w) 2 f24 q24 _ (spValue K RC) := okValue D24 Li E
  have G25 : FnOk P w K mg base (L2.CX P w) 2 f25 q25 _ (spPlan K RC) := okPlan D25 B Li E
  have G27 : FnOk P w K mg base CX0 1 f27 q27 _ (spSum K) := okSum D27 B
  have G28 : FnOk P w K mg base CX0 1 f28 q28 _ (spUsed K) := okUsed D28 B
  have G29 : FnOk P w K mg base CX0 2 f29 q29 _ (spCuts K) := okCuts D29 D28 B
  have G30 : FnOk P w K mg base CX0 3 f30 q30 _ (spFit K) := okFit D30 D28 D29 B
  have G32 : FnOk P w K mg base CX0 2 f32 q32 _ (spWithin K) := okWithin D32 D28 D31 B Li
  have G33 : FnOk P w K mg base CX0 4 f33 q33 _ (spFitting K) := okFitting D33 D32 D30 G32 G30
  have G34 : FnOk P w K mg base CX0 5 f34 q34 _ (spGreat K) := okGreat D34 D33 D27 B G33 G27
  have G35 : FnOk P w K mg base CX0 4 f35 q35 _ (spThin K) := okThin D35 D32 D28 D30 D27 B Li G32 G28 G30 G27
  have J1 : FnOk P w K mg base (L2.CX P w) 2 g1 n1 _ (spCP K RC C) := okCP M1 S E
  have J2 : FnOk P w K mg base (L2.CX P w) 2 g2 n2 _ (spCN K RC C) := okCN M2 S E
  have J0 : FnOk P w K mg base (L2.CX P w) 3 fI n0 _ (spInit K RC C) := okInit N0 D20 G20 S
  have J3 : FnOk P w K mg base (L2.CX P w) 3 g3 n3 _ (spAdd K RC C) := okAdd M3 D21 G21 D22 G22 M2 J2 S B Li E
  have J4 : FnOk P w K mg base (L2.CX P w) 3 g4 n4 _ (spDel K RC C) := okDel M4 M1 J1 S B
  have J5 : FnOk P w K mg base (L2.CX P w) 3 g5 n5 _ (spSet K RC C) := okSet M5 M1 J1 D22 G22 S
  have J6 : FnOk P w K mg base CX0 1 g6 n6 _ (spGet K C) := okGet M6 S B
  have J7 : FnOk P w K mg base (L2.CX P w) 3 g7 n7 _ (spSetM K RC C) := okSetM M7 D20 G20 S
  have J8 : FnOk P w K mg base (L2.CX P w) 3 g8 n8 _ (spPV K RC C) := okPV M8 D25 G25 D27 G27 S
  have J9 : FnOk P w K mg base (L2.CX P w) 4 g9 n9 _ (spFits K RC C) := okFits M9 D23 G23 D25 G25 D30 G30 S
  have J10 : FnOk P w K mg base (L2.CX P w) 3 g10 n10 _ (spCC K RC C) := okCC M10 D23 G23 D25 G25 D28 G28 D29 G29 S E
  have J11 : FnOk P w K mg base (L2.CX P w) 5 g11 n11 _ (spFor K RC C) := okFor M11 D23 G23 D33 G33 S B
  have J12 : FnOk P w K mg base (L2.CX P w) 6 g12 n12 _ (spBV K RC C) := okBV M12 D23 G23 D34 G34 S
  have J13 : FnOk P w K mg base (L2.CX P w) 6 g13 n13 _ (spBest K RC C T0) := okBest M13 code13 TB M11 J11 D27 G27 D29 G29 S B
  have J14 : FnOk P w K mg base (L2.CX P w) 7 g14 n14 _ (spWaste K RC C T0) := okWaste M14 M13 J13 S B
  have J15 : FnOk P w K mg base (L2.CX P w) 6 g15 n15 _ (spPC K RC C) := okPC M15 M11 J11 S B
  have J16 : FnOk P w K mg base (L2.CX P w) 6 g16 n16 _ (spBC K RC C) := okBC M16 M11 J11 D27 G27 S B
  have J17 : FnOk P w K mg base CX0 7 g17 n17 _ (spVT K C) := okVT M17 M12 J12 S B Li
  have J18 : FnOk P w K mg base (L2.CX P w) 5 g18 n18 _ (spLT K RC C) := okLT M18 D24 G24 D35 G35 S B E
  have J19 : FnOk P w K mg base (L2.CX P w) 6 g19 n19 _ (spVM K RC C) := okVM M19 D20 G20 D23 G23 D34 G34 S
  have J20 : FnOk P w K mg base (L2.CX P w) 6 g20 n20 _ (spVP K RC C) := okVP M20 D21 G21 D22 G22 D23 G23 M2 J2 D34 G34 S B
  have J21 : FnOk P w K mg base (L2.CX P w) 7 g21 n21 _ (spLP K RC C T0) := okLP M21 M13 J13 M1 J1 S
  have J22 : FnOk P w K mg base (L2.CX P w) 7 g22 n22 _ (spV2 K RC C) := okV2 M22 M12 J12 S
  have all : ∀ j : Nat, 1 ≤ j → j ≤ 19 → ∃ fd, FnOk P w K mg base (L2.CX P w) 8 (([v1, v2, v3, v4, v5, v6, v7, v8, v9, v10, v11, v12, v13, v14, v15, v16, v17, v18, v19] : List Addr).getD (j - 1) 0) fd pAns (spAns K RC C T0 j) ∧ PySem.W.keepIn K (.ref (([v1, v2, v3, v4, v5, v6, v7, v8, v9, v10, v11, v12, v13, v14, v15, v16, v17, v18, v19] : List Addr).getD (j - 1) 0)) = true ∧ Binds K fd pAns [] := by
    refine upto ⟨?_, ?_, ?_, ?_, ?_, ?_, ?_, ?_, ?_, ?_, ?_, ?_, ?_, ?_, ?_, ?_, ?_, ?_, ?_⟩
    · exact ⟨k1, (okA1 H1 M3 J3 S).mono (by decide), H1.k, H1.b⟩
    · exact ⟨k2, (okA2 H2 M4 J4 S).mono (by decide), H2.k, H2.b⟩
    · exact ⟨k3, (okA3 H3 M5 J5 S).mono (by decide), H3.k, H3.b⟩
    · exact ⟨k4, (okA4 H4 M6 J6 S B).mono (by decide), H4.k, H4.b⟩
    · exact ⟨k5, (okA5 H5 M7 J7 S B).mono (by decide), H5.k, H5.b⟩
    · exact ⟨k6, (okA6 H6 M8 J8 S).mono (by decide), H6.k, H6.b⟩
    · exact ⟨k7, (okA7 H7 M9 J9 S).mono (by decide), H7.k, H7.b⟩
    · exact ⟨k8, (okA8 H8 M10 J10 S).mono (by decide), H8.k, H8.b⟩
    · exact ⟨k9, (okA9 H9 M12 J12 S).mono (by decide), H9.k, H9.b⟩
    · exact ⟨k10, (okA10 H10 M13 J13 S B).mono (by decide), H10.k, H10.b⟩
    · exact ⟨k11, (okA11 H11 M14 J14 S).mono (by decide), H11.k, H11.b⟩
    · exact ⟨k12, (okA12 H12 M15 J15 S).mono (by decide), H12.k, H12.b⟩
    · exact ⟨k13, (okA13 H13 M16 J16 S).mono (by decide), H13.k, H13.b⟩
    · exact ⟨k14, (okA14 H14 M17 J17 S B).mono (by decide), H14.k, H14.b⟩
    · exact ⟨k15, (okA15 H15 M18 J18 S).mono (by decide), H15.k, H15.b⟩
    · exact ⟨k16, (okA16 H16 M19 J19 S).mono (by decide), H16.k, H16.b⟩
    · exact ⟨k17, (okA17 H17 M20 J20 S).mono (by decide), H17.k, H17.b⟩
    · exact ⟨k18, (okA18 H18 M21 J21 S).mono (by decide), H18.k, H18.b⟩
    · exact ⟨k19, (okA19 H19 M22 J22 S).mono (by decide), H19.k, H19.b⟩
  have G61 : FnOk P w K mg base (L2.CX P w) 9 f61 q61 _ (spCall K RC C T0) := okCall D61 (PySem.W.mg_of X G W.gD) W.tbl all E
  have G62 : FnOk P w K mg base CX0 1 f62 q62 _ (spSplit K) := okSplit D62 B
  exact okTop D63 D62 G62 W.mkC B0 J0 D61 G61 S E B Li
end Hl

set_option Elab.async false
set_option linter.all false
set_option maxRecDepth 100000
set_option maxHeartbeats 2000000
/-! # Hides and layers, part 30: from the promise of answers to the row. -/
namespace Hl
open PySem PySem.Spec PyProof.Rows L2 LamX
open PySem.W (WData Codec OpenSpec)
theorem end_walk {r : OpenSpec} {k : Nat} {q : Program} {loose : List Str} {XP : (Str → Option Value) → Heap → Prop} {YP : World → Heap → Prop} {d : DefRec} {K : Params → PySem.W.Frag} {x : Str} {sp : PySem.W.Frag → Sp} {T0 c0 : Addr} (arg : Codec.denoteAll r.args → List Int)
    (said : r.wellSaid = true) (nodef : d.params.defaults = []) (room : Room k callerA) (enc : ∀ v, Codec.encAll r.args v = [.list ((arg v).map .int)])
    (hK : ∀ (w : World) (h : Heap), YP w h → (K w.params).In h) (hT : ∀ (w : World) (h : Heap), YP w h → h.get? T0 = some { cls := .none, data := .fields #[] }) (nT : ∀ w : World, (K w.params).lookup T0 = none) (hC : ∀ (w : World) (h : Heap), (K w.params).In h → PySem.W.CodeHd h c0 T0)
    (F : ∀ (w : World) (mg : Str → Option Value) (fa : Addr) (h : Heap), (K w.params).In h → h.Ns mainGlobals mg → mg d.name = some (.ref fa) → ∃ fd : FuncData, (∀ (s : Shared) (us : List Value), us.length = ([x] : List Str).length → BindsTo s fd ⟨us, []⟩ (([x] : List Str).zip us)) ∧
      ∀ base : Heap, (K w.params).In base → base.Ns mainGlobals mg → TabB base mg c0 T0 → FnOk r.prog w (K w.params) mg base CX0 k fa fd [x] (sp (K w.params)))
    (ask : ∀ (w : World) (H : Hp) (a : Addr) (v : Codec.denoteAll r.args), H T0 = some (.tbl #[]) → Codec.app r.args r.asked v = true → SqL (K w.params) H a ((arg v).map V.int) → sp (K w.params) [.ref a] H (fun u H' => Dw (K w.params) H' u (r.ret.enc (Codec.app r.args r.f v))) fun _ _ _ => False) :
    PySem.W.WalkOS q loose XP YP r d [] (fun f vs => PySem.call f vs) := by
  intro w h0 s1 mg mb top1 yp fa ob pyM code docV defV kwV look shape hcode hdefs named noGens args handed paths pre lay readArgs well room0
  obtain ⟨v, dec, asked⟩ := PySem.W.os_pre_some pre
  obtain ⟨rfl, within⟩ := Codec.encAll_of_decAll r.args args v dec
  have KX := hK w _ yp
  obtain ⟨fd, binds, keeps⟩ := F w mg fa _ KX top1.T.g named
  have light := layable_weight lay
  rw [enc v] at well light
  refine PySem.W.enter_call (codeAny_mono (end_call (Rc := []) (cl := classAt h0.heap) (d0 := r.ret.enc (Codec.app r.args r.f v)) KX top1.T.g top1.T.b top1.T.builtins top1.T.nolimit noGens (hT w _ yp) (nT w) (hC w _ KX) top1.T.bmain well light room keeps binds
    (fun H a h1 h2 => ask w H a v h1 asked h2) fun _ _ _ z => z) fun out s2 got => ?_)
  obtain ⟨u, as', rfl, g1, g2, g3, g4⟩ := got
  exact ⟨.inl ⟨u, _, as', rfl, fun _ => rfl, g1, (OpenSpec.post_iff said within _ _).mpr rfl, fun z => Bool.noConfusion (show false = true from z)⟩, g2, g3, g4⟩
end Hl

open PySem PySem.W PyProof.Rows
set_option Elab.async false
set_option linter.all false
local macro_rules
  | `(tactic| o_headS ($_f:ident $k $a $e)) => `(tactic| o_headS (kmHook $k $a $e [355]))
set_option maxRecDepth 100000 in
set_option maxHeartbeats 16000000 in
theorem PySem.Challenge.cw_hidelayers_s01_answers_holds : PySem.Challenge.rw_hidelayers_s01_answers.Holds := by
  w_on; k_headS; (case hw => exact ⟨[.list [.int 4, .int 0, .int 0]], by decide +kernel, by decide +kernel⟩)
  k_fillS
  refine Hl.end_walk (r := PySem.Challenge.rw_hidelayers_s01_answers) (k := 10) (x := "calls") (sp := fun K => Hl.spTop K 355) (T0 := 355) (c0 := 359) (fun v => v.1) (by decide +kernel) rfl ⟨rfl, by decide, by decide⟩ (fun v => rfl) (fun w h Y => km_in_of Y) (fun w h Y => km_tabs_of Y 355 (by simp)) (fun w => by kernel_rfl) (fun w h X => codeHd_of_K X (by kernel_rfl)) ?F ?S
  case S =>
    intro w H a v hT hask hs
    exact ⟨a, v.1, rfl, hs, hask, hT, fun H' r hr => .lst (L2.SqL.of hr) (L2.dw_ints _)⟩
  case F =>
    intro w mg fa h KX G hmg
    refine' Hl.all_keeps (c0 := 359) KX G hmg (Hl.Written.mk ?gR ?e2 ?e3 ?e4 ?e5 ?e6 ?e7 ?e8 ?gC ?cls ?nL ?nM ?nP ?mkC ?m0 ?m1 ?m2 ?m3 ?m4 ?m5 ?m6 ?m7 ?m8 ?m9 ?m10 ?m11 ?m12 ?m13 ?m14 ?m15 ?m16 ?m17 ?m18 ?m19 ?m20 ?m21 ?m22 ?d20 ?d21 ?d22 ?d23 ?d24 ?d25 ?d27 ?d28 ?d29 ?d30 ?d31 ?d32 ?d33 ?d34 ?d35 ?d61 ?d62 ?a1 ?a2 ?a3 ?a4 ?a5 ?a6 ?a7 ?a8 ?a9 ?a10 ?a11 ?a12 ?a13 ?a14 ?a15 ?a16 ?a17 ?a18 ?a19 ?gD ?tbl ?c_minT ?c_maxT ?c_minP ?c_maxP ?c_loss ?c_cuts ?c_hide ?c_value ?c_prods ?c_layers ?c_step ?c_create ?b_len ?b_sum ?b_max ?b_min ?b_sorted ?b_list ?b_dict ?b_range ?b_enumerate) ?dA
    (case gR => k_is)
    (case e2 => (refine' Hl.ek_mk (st := L2.inClass (Hl.top 2) 0) (q := "NoSplitter.__init__") ?gR_e2 ?iR_e2 ?tR_e2 ?a_e2 ?xL_e2 ?sa_e2 ?ga_e2 ?gg_e2 ?nb_e2 ?a1_e2 ?t1_e2 ?l1_e2 ?hst_e2 ?c1_e2 ?kC_e2 ?eC_e2 ?tC_e2 ?hC_e2 ?sC_e2; (case gR_e2 => k_is); (case iR_e2 => k_is); (case tR_e2 => k_is); (case a_e2 => k_is); (case xL_e2 => k_is); (case sa_e2 => k_is); (case ga_e2 => k_is); (case gg_e2 => k_is); (case nb_e2 => k_is); (case a1_e2 => k_is); (case t1_e2 => k_is); (case l1_e2 => k_is); (case hst_e2 => exact ⟨rfl, rfl, rfl⟩); (case c1_e2 => k_is); (case kC_e2 => k_is); (case eC_e2 => k_is); (case tC_e2 => k_is); (case hC_e2 => k_is); (case sC_e2 => first | rfl | k_is)))
    (case e3 => (refine' Hl.ek_mk (st := L2.inClass (Hl.top 3) 0) (q := "NoSuchProduct.__init__") ?gR_e3 ?iR_e3 ?tR_e3 ?a_e3 ?xL_e3 ?sa_e3 ?ga_e3 ?gg_e3 ?nb_e3 ?a1_e3 ?t1_e3 ?l1_e3 ?hst_e3 ?c1_e3 ?kC_e3 ?eC_e3 ?tC_e3 ?hC_e3 ?sC_e3; (case gR_e3 => k_is); (case iR_e3 => k_is); (case tR_e3 => k_is); (case a_e3 => k_is); (case xL_e3 => k_is); (case sa_e3 => k_is); (case ga_e3 => k_is); (case gg_e3 => k_is); (case nb_e3 => k_is); (case a1_e3 => k_is); (case t1_e3 => k_is); (case l1_e3 => k_is); (case hst_e3 => exact ⟨rfl, rfl, rfl⟩); (case c1_e3 => k_is); (case kC_e3 => k_is); (case eC_e3 => k_is); (case tC_e3 => k_is); (case hC_e3 => k_is); (case sC_e3 => first | rfl | k_is)))
    (case e4 => (refine' Hl.ek_mk (st := L2.inClass (Hl.top 4) 0) (q := "OutsideLimits.__init__") ?gR_e4 ?iR_e4 ?tR_e4 ?a_e4 ?xL_e4 ?sa_e4 ?ga_e4 ?gg_e4 ?nb_e4 ?a1_e4 ?t1_e4 ?l1_e4 ?hst_e4 ?c1_e4 ?kC_e4 ?eC_e4 ?tC_e4 ?hC_e4 ?sC_e4; (case gR_e4 => k_is); (case iR_e4 => k_is); (case tR_e4 => k_is); (case a_e4 => k_is); (case xL_e4 => k_is); (case sa_e4 => k_is); (case ga_e4 => k_is); (case gg_e4 => k_is); (case nb_e4 => k_is); (case a1_e4 => k_is); (case t1_e4 => k_is); (case l1_e4 => k_is); (case hst_e4 => exact ⟨rfl, rfl, rfl⟩); (case c1_e4 => k_is); (case kC_e4 => k_is); (case eC_e4 => k_is); (case tC_e4 => k_is); (case hC_e4 => k_is); (case sC_e4 => first | rfl | k_is)))
    (case e5 => (refine' Hl.ek_mk (st := L2.inClass (Hl.top 5) 0) (q := "ProductExists.__init__") ?gR_e5 ?iR_e5 ?tR_e5 ?a_e5 ?xL_e5 ?sa_e5 ?ga_e5 ?gg_e5 ?nb_e5 ?a1_e5 ?t1_e5 ?l1_e5 ?hst_e5 ?c1_e5 ?kC_e5 ?eC_e5 ?tC_e5 ?hC_e5 ?sC_e5; (case gR_e5 => k_is); (case iR_e5 => k_is); (case tR_e5 => k_is); (case a_e5 => k_is); (case xL_e5 => k_is); (case sa_e5 => k_is); (case ga_e5 => k_is); (case gg_e5 => k_is); (case nb_e5 => k_is); (case a1_e5 => k_is); (case t1_e5 => k_is); (case l1_e5 => k_is); (case hst_e5 => exact ⟨rfl, rfl, rfl⟩); (case c1_e5 => k_is); (case kC_e5 => k_is); (case eC_e5 => k_is); (case tC_e5 => k_is); (case hC_e5 => k_is); (case sC_e5 => first | rfl | k_is)))
    (case e6 => (refine' Hl.ek_mk (st := L2.inClass (Hl.top 6) 0) (q := "TooManyProducts.__init__") ?gR_e6 ?iR_e6 ?tR_e6 ?a_e6 ?xL_e6 ?sa_e6 ?ga_e6 ?gg_e6 ?nb_e6 ?a1_e6 ?t1_e6 ?l1_e6 ?hst_e6 ?c1_e6 ?kC_e6 ?eC_e6 ?tC_e6 ?hC_e6 ?sC_e6; (case gR_e6 => k_is); (case iR_e6 => k_is); (case tR_e6 => k_is); (case a_e6 => k_is); (case xL_e6 => k_is); (case sa_e6 => k_is); (case ga_e6 => k_is); (case gg_e6 => k_is); (case nb_e6 => k_is); (case a1_e6 => k_is); (case t1_e6 => k_is); (case l1_e6 => k_is); (case hst_e6 => exact ⟨rfl, rfl, rfl⟩); (case c1_e6 => k_is); (case kC_e6 => k_is); (case eC_e6 => k_is); (case tC_e6 => k_is); (case hC_e6 => k_is); (case sC_e6 => first | rfl | k_is)))
    (case e7 => (refine' Hl.ek_mk (st := L2.inClass (Hl.top 7) 0) (q := "HideTooThin.__init__") ?gR_e7 ?iR_e7 ?tR_e7 ?a_e7 ?xL_e7 ?sa_e7 ?ga_e7 ?gg_e7 ?nb_e7 ?a1_e7 ?t1_e7 ?l1_e7 ?hst_e7 ?c1_e7 ?kC_e7 ?eC_e7 ?tC_e7 ?hC_e7 ?sC_e7; (case gR_e7 => k_is); (case iR_e7 => k_is); (case tR_e7 => k_is); (case a_e7 => k_is); (case xL_e7 => k_is); (case sa_e7 => k_is); (case ga_e7 => k_is); (case gg_e7 => k_is); (case nb_e7 => k_is); (case a1_e7 => k_is); (case t1_e7 => k_is); (case l1_e7 => k_is); (case hst_e7 => exact ⟨rfl, rfl, rfl⟩); (case c1_e7 => k_is); (case kC_e7 => k_is); (case eC_e7 => k_is); (case tC_e7 => k_is); (case hC_e7 => k_is); (case sC_e7 => first | rfl | k_is)))
    (case e8 => (refine' Hl.ek_mk (st := L2.inClass (Hl.top 8) 0) (q := "NoThickness.__init__") ?gR_e8 ?iR_e8 ?tR_e8 ?a_e8 ?xL_e8 ?sa_e8 ?ga_e8 ?gg_e8 ?nb_e8 ?a1_e8 ?t1_e8 ?l1_e8 ?hst_e8 ?c1_e8 ?kC_e8 ?eC_e8 ?tC_e8 ?hC_e8 ?sC_e8; (case gR_e8 => k_is); (case iR_e8 => k_is); (case tR_e8 => k_is); (case a_e8 => k_is); (case xL_e8 => k_is); (case sa_e8 => k_is); (case ga_e8 => k_is); (case gg_e8 => k_is); (case nb_e8 => k_is); (case a1_e8 => k_is); (case t1_e8 => k_is); (case l1_e8 => k_is); (case hst_e8 => exact ⟨rfl, rfl, rfl⟩); (case c1_e8 => k_is); (case kC_e8 => k_is); (case eC_e8 => k_is); (case tC_e8 => k_is); (case hC_e8 => k_is); (case sC_e8 => first | rfl | k_is)))
    (case gC => k_is)
    (case cls => (refine' ⟨?x1_cls, ?x2_cls, ?x3_cls, ?x4_cls⟩; (case x1_cls => k_is); (case x2_cls => k_is); (case x3_cls => k_is); (case x4_cls => k_is)))
    (case nL => k_is); (case nM => k_is); (case nP => k_is)
    (case mkC => (refine' ⟨?x1_mkC, ?x2_mkC, ?x3_mkC, ?x4_mkC⟩; (case x1_mkC => k_is); (case x2_mkC => k_is); (case x3_mkC => k_is); (case x4_mkC => k_is)))
    (case m0 => (refine' ⟨_, L2.fun_mk ?l_m0 ?c_m0 ?k_m0⟩; (case l_m0 => k_is); (case c_m0 => k_is); (case k_m0 => k_is)))
    (case m1 => (refine' ⟨_, Hl.mk_mk ?a_m1 ?i_m1 ?l_m1 ?c_m1 ?k_m1⟩; (case a_m1 => k_is); (case i_m1 => k_is); (case l_m1 => k_is); (case c_m1 => k_is); (case k_m1 => k_is)))
    (case m2 => (refine' ⟨_, Hl.mk_mk ?a_m2 ?i_m2 ?l_m2 ?c_m2 ?k_m2⟩; (case a_m2 => k_is); (case i_m2 => k_is); (case l_m2 => k_is); (case c_m2 => k_is); (case k_m2 => k_is)))
    (case m3 => (refine' ⟨_, Hl.mk_mk ?a_m3 ?i_m3 ?l_m3 ?c_m3 ?k_m3⟩; (case a_m3 => k_is); (case i_m3 => k_is); (case l_m3 => k_is); (case c_m3 => k_is); (case k_m3 => k_is)))
    (case m4 => (refine' ⟨_, Hl.mk_mk ?a_m4 ?i_m4 ?l_m4 ?c_m4 ?k_m4⟩; (case a_m4 => k_is); (case i_m4 => k_is); (case l_m4 => k_is); (case c_m4 => k_is); (case k_m4 => k_is)))
    (case m5 => (refine' ⟨_, Hl.mk_mk ?a_m5 ?i_m5 ?l_m5 ?c_m5 ?k_m5⟩; (case a_m5 => k_is); (case i_m5 => k_is); (case l_m5 => k_is); (case c_m5 => k_is); (case k_m5 => k_is)))
    (case m6 => (refine' ⟨_, Hl.mk_mk ?a_m6 ?i_m6 ?l_m6 ?c_m6 ?k_m6⟩; (case a_m6 => k_is); (case i_m6 => k_is); (case l_m6 => k_is); (case c_m6 => k_is); (case k_m6 => k_is)))
    (case m7 => (refine' ⟨_, Hl.mk_mk ?a_m7 ?i_m7 ?l_m7 ?c_m7 ?k_m7⟩; (case a_m7 => k_is); (case i_m7 => k_is); (case l_m7 => k_is); (case c_m7 => k_is); (case k_m7 => k_is)))
    (case m8 => (refine' ⟨_, Hl.mk_mk ?a_m8 ?i_m8 ?l_m8 ?c_m8 ?k_m8⟩; (case a_m8 => k_is); (case i_m8 => k_is); (case l_m8 => k_is); (case c_m8 => k_is); (case k_m8 => k_is)))
    (case m9 => (refine' ⟨_, Hl.mk_mk ?a_m9 ?i_m9 ?l_m9 ?c_m9 ?k_m9⟩; (case a_m9 => k_is); (case i_m9 => k_is); (case l_m9 => k_is); (case c_m9 => k_is); (case k_m9 => k_is)))
    (case m10 => (refine' ⟨_, Hl.mk_mk ?a_m10 ?i_m10 ?l_m10 ?c_m10 ?k_m10⟩; (case a_m10 => k_is); (case i_m10 => k_is); (case l_m10 => k_is); (case c_m10 => k_is); (case k_m10 => k_is)))
    (case m11 => (refine' ⟨_, Hl.mk_mk ?a_m11 ?i_m11 ?l_m11 ?c_m11 ?k_m11⟩; (case a_m11 => k_is); (case i_m11 => k_is); (case l_m11 => k_is); (case c_m11 => k_is); (case k_m11 => k_is)))
    (case m12 => (refine' ⟨_, Hl.mk_mk ?a_m12 ?i_m12 ?l_m12 ?c_m12 ?k_m12⟩; (case a_m12 => k_is); (case i_m12 => k_is); (case l_m12 => k_is); (case c_m12 => k_is); (case k_m12 => k_is)))
    (case m13 => (refine' ⟨_, Hl.mk_mkC ?a_m13 ?i_m13 ?l_m13 ?c_m13 ?k_m13⟩; (case a_m13 => k_is); (case i_m13 => k_is); (case l_m13 => k_is); (case c_m13 => k_is); (case k_m13 => k_is)))
    (case m14 => (refine' ⟨_, Hl.mk_mk ?a_m14 ?i_m14 ?l_m14 ?c_m14 ?k_m14⟩; (case a_m14 => k_is); (case i_m14 => k_is); (case l_m14 => k_is); (case c_m14 => k_is); (case k_m14 => k_is)))
    (case m15 => (refine' ⟨_, Hl.mk_mk ?a_m15 ?i_m15 ?l_m15 ?c_m15 ?k_m15⟩; (case a_m15 => k_is); (case i_m15 => k_is); (case l_m15 => k_is); (case c_m15 => k_is); (case k_m15 => k_is)))
    (case m16 => (refine' ⟨_, Hl.mk_mk ?a_m16 ?i_m16 ?l_m16 ?c_m16 ?k_m16⟩; (case a_m16 => k_is); (case i_m16 => k_is); (case l_m16 => k_is); (case c_m16 => k_is); (case k_m16 => k_is)))
    (case m17 => (refine' ⟨_, Hl.mk_mk ?a_m17 ?i_m17 ?l_m17 ?c_m17 ?k_m17⟩; (case a_m17 => k_is); (case i_m17 => k_is); (case l_m17 => k_is); (case c_m17 => k_is); (case k_m17 => k_is)))
    (case m18 => (refine' ⟨_, Hl.mk_mk ?a_m18 ?i_m18 ?l_m18 ?c_m18 ?k_m18⟩; (case a_m18 => k_is); (case i_m18 => k_is); (case l_m18 => k_is); (case c_m18 => k_is); (case k_m18 => k_is)))
    (case m19 => (refine' ⟨_, Hl.mk_mk ?a_m19 ?i_m19 ?l_m19 ?c_m19 ?k_m19⟩; (case a_m19 => k_is); (case i_m19 => k_is); (case l_m19 => k_is); (case c_m19 => k_is); (case k_m19 => k_is)))
    (case m20 => (refine' ⟨_, Hl.mk_mk ?a_m20 ?i_m20 ?l_m20 ?c_m20 ?k_m20⟩; (case a_m20 => k_is); (case i_m20 => k_is); (case l_m20 => k_is); (case c_m20 => k_is); (case k_m20 => k_is)))
    (case m21 => (refine' ⟨_, Hl.mk_mk ?a_m21 ?i_m21 ?l_m21 ?c_m21 ?k_m21⟩; (case a_m21 => k_is); (case i_m21 => k_is); (case l_m21 => k_is); (case c_m21 => k_is); (case k_m21 => k_is)))
    (case m22 => (refine' ⟨_, Hl.mk_mk ?a_m22 ?i_m22 ?l_m22 ?c_m22 ?k_m22⟩; (case a_m22 => k_is); (case i_m22 => k_is); (case l_m22 => k_is); (case c_m22 => k_is); (case k_m22 => k_is)))
    (case d20 => (refine' ⟨_, Hl.dk_mk ?a_d20 ?l_d20 ?c_d20 ?k_d20⟩; (case a_d20 => k_is); (case l_d20 => k_is); (case c_d20 => k_is); (case k_d20 => k_is)))
    (case d21 => (refine' ⟨_, Hl.dk_mk ?a_d21 ?l_d21 ?c_d21 ?k_d21⟩; (case a_d21 => k_is); (case l_d21 => k_is); (case c_d21 => k_is); (case k_d21 => k_is)))
    (case d22 => (refine' ⟨_, Hl.dk_mk ?a_d22 ?l_d22 ?c_d22 ?k_d22⟩; (case a_d22 => k_is); (case l_d22 => k_is); (case c_d22 => k_is); (case k_d22 => k_is)))
    (case d23 => (refine' ⟨_, Hl.dk_mk ?a_d23 ?l_d23 ?c_d23 ?k_d23⟩; (case a_d23 => k_is); (case l_d23 => k_is); (case c_d23 => k_is); (case k_d23 => k_is)))
    (case d24 => (refine' ⟨_, Hl.dk_mk ?a_d24 ?l_d24 ?c_d24 ?k_d24⟩; (case a_d24 => k_is); (case l_d24 => k_is); (case c_d24 => k_is); (case k_d24 => k_is)))
    (case d25 => (refine' ⟨_, Hl.dk_mk ?a_d25 ?l_d25 ?c_d25 ?k_d25⟩; (case a_d25 => k_is); (case l_d25 => k_is); (case c_d25 => k_is); (case k_d25 => k_is)))
    (case d27 => (refine' ⟨_, Hl.dk_mk ?a_d27 ?l_d27 ?c_d27 ?k_d27⟩; (case a_d27 => k_is); (case l_d27 => k_is); (case c_d27 => k_is); (case k_d27 => k_is)))
    (case d28 => (refine' ⟨_, Hl.dk_mk ?a_d28 ?l_d28 ?c_d28 ?k_d28⟩; (case a_d28 => k_is); (case l_d28 => k_is); (case c_d28 => k_is); (case k_d28 => k_is)))
    (case d29 => (refine' ⟨_, Hl.dk_mk ?a_d29 ?l_d29 ?c_d29 ?k_d29⟩; (case a_d29 => k_is); (case l_d29 => k_is); (case c_d29 => k_is); (case k_d29 => k_is)))
    (case d30 => (refine' ⟨_, Hl.dk_mk ?a_d30 ?l_d30 ?c_d30 ?k_d30⟩; (case a_d30 => k_is); (case l_d30 => k_is); (case c_d30 => k_is); (case k_d30 => k_is)))
    (case d31 => (refine' ⟨_, Hl.dk_mk ?a_d31 ?l_d31 ?c_d31 ?k_d31⟩; (case a_d31 => k_is); (case l_d31 => k_is); (case c_d31 => k_is); (case k_d31 => k_is)))
    (case d32 => (refine' ⟨_, Hl.dk_mk ?a_d32 ?l_d32 ?c_d32 ?k_d32⟩; (case a_d32 => k_is); (case l_d32 => k_is); (case c_d32 => k_is); (case k_d32 => k_is)))
    (case d33 => (refine' ⟨_, Hl.dk_mk ?a_d33 ?l_d33 ?c_d33 ?k_d33⟩; (case a_d33 => k_is); (case l_d33 => k_is); (case c_d33 => k_is); (case k_d33 => k_is)))
    (case d34 => (refine' ⟨_, Hl.dk_mk ?a_d34 ?l_d34 ?c_d34 ?k_d34⟩; (case a_d34 => k_is); (case l_d34 => k_is); (case c_d34 => k_is); (case k_d34 => k_is)))
    (case d35 => (refine' ⟨_, Hl.dk_mk ?a_d35 ?l_d35 ?c_d35 ?k_d35⟩; (case a_d35 => k_is); (case l_d35 => k_is); (case c_d35 => k_is); (case k_d35 => k_is)))
    (case d61 => (refine' ⟨_, Hl.dk_mk ?a_d61 ?l_d61 ?c_d61 ?k_d61⟩; (case a_d61 => k_is); (case l_d61 => k_is); (case c_d61 => k_is); (case k_d61 => k_is)))
    (case d62 => (refine' ⟨_, Hl.dk_mk ?a_d62 ?l_d62 ?c_d62 ?k_d62⟩; (case a_d62 => k_is); (case l_d62 => k_is); (case c_d62 => k_is); (case k_d62 => k_is)))
    (case a1 => (refine' Hl.dk_mk ?a_a1 ?l_a1 ?c_a1 ?k_a1; (case a_a1 => k_is); (case l_a1 => k_is); (case c_a1 => k_is); (case k_a1 => k_is)))
    (case a2 => (refine' Hl.dk_mk ?a_a2 ?l_a2 ?c_a2 ?k_a2; (case a_a2 => k_is); (case l_a2 => k_is); (case c_a2 => k_is); (case k_a2 => k_is)))
    (case a3 => (refine' Hl.dk_mk ?a_a3 ?l_a3 ?c_a3 ?k_a3; (case a_a3 => k_is); (case l_a3 => k_is); (case c_a3 => k_is); (case k_a3 => k_is)))
    (case a4 => (refine' Hl.dk_mk ?a_a4 ?l_a4 ?c_a4 ?k_a4; (case a_a4 => k_is); (case l_a4 => k_is); (case c_a4 => k_is); (case k_a4 => k_is)))
    (case a5 => (refine' Hl.dk_mk ?a_a5 ?l_a5 ?c_a5 ?k_a5; (case a_a5 => k_is); (case l_a5 => k_is); (case c_a5 => k_is); (case k_a5 => k_is)))
    (case a6 => (refine' Hl.dk_mk ?a_a6 ?l_a6 ?c_a6 ?k_a6; (case a_a6 => k_is); (case l_a6 => k_is); (case c_a6 => k_is); (case k_a6 => k_is)))
    (case a7 => (refine' Hl.dk_mk ?a_a7 ?l_a7 ?c_a7 ?k_a7; (case a_a7 => k_is); (case l_a7 => k_is); (case c_a7 => k_is); (case k_a7 => k_is)))
    (case a8 => (refine' Hl.dk_mk ?a_a8 ?l_a8 ?c_a8 ?k_a8; (case a_a8 => k_is); (case l_a8 => k_is); (case c_a8 => k_is); (case k_a8 => k_is)))
    (case a9 => (refine' Hl.dk_mk ?a_a9 ?l_a9 ?c_a9 ?k_a9; (case a_a9 => k_is); (case l_a9 => k_is); (case c_a9 => k_is); (case k_a9 => k_is)))
    (case a10 => (refine' Hl.dk_mk ?a_a10 ?l_a10 ?c_a10 ?k_a10; (case a_a10 => k_is); (case l_a10 => k_is); (case c_a10 => k_is); (case k_a10 => k_is)))
    (case a11 => (refine' Hl.dk_mk ?a_a11 ?l_a11 ?c_a11 ?k_a11; (case a_a11 => k_is); (case l_a11 => k_is); (case c_a11 => k_is); (case k_a11 => k_is)))
    (case a12 => (refine' Hl.dk_mk ?a_a12 ?l_a12 ?c_a12 ?k_a12; (case a_a12 => k_is); (case l_a12 => k_is); (case c_a12 => k_is); (case k_a12 => k_is)))
    (case a13 => (refine' Hl.dk_mk ?a_a13 ?l_a13 ?c_a13 ?k_a13; (case a_a13 => k_is); (case l_a13 => k_is); (case c_a13 => k_is); (case k_a13 => k_is)))
    (case a14 => (refine' Hl.dk_mk ?a_a14 ?l_a14 ?c_a14 ?k_a14; (case a_a14 => k_is); (case l_a14 => k_is); (case c_a14 => k_is); (case k_a14 => k_is)))
    (case a15 => (refine' Hl.dk_mk ?a_a15 ?l_a15 ?c_a15 ?k_a15; (case a_a15 => k_is); (case l_a15 => k_is); (case c_a15 => k_is); (case k_a15 => k_is)))
    (case a16 => (refine' Hl.dk_mk ?a_a16 ?l_a16 ?c_a16 ?k_a16; (case a_a16 => k_is); (case l_a16 => k_is); (case c_a16 => k_is); (case k_a16 => k_is)))
    (case a17 => (refine' Hl.dk_mk ?a_a17 ?l_a17 ?c_a17 ?k_a17; (case a_a17 => k_is); (case l_a17 => k_is); (case c_a17 => k_is); (case k_a17 => k_is)))
    (case a18 => (refine' Hl.dk_mk ?a_a18 ?l_a18 ?c_a18 ?k_a18; (case a_a18 => k_is); (case l_a18 => k_is); (case c_a18 => k_is); (case k_a18 => k_is)))
    (case a19 => (refine' Hl.dk_mk ?a_a19 ?l_a19 ?c_a19 ?k_a19; (case a_a19 => k_is); (case l_a19 => k_is); (case c_a19 => k_is); (case k_a19 => k_is)))
    (case gD => k_is)
    (case tbl => (refine' Hl.tbl_mk ?l_tbl ?hk_tbl ?hf_tbl; (case l_tbl => kernel_rfl); (case hk_tbl => kernel_rfl); (case hf_tbl => kernel_rfl)))
    (case c_minT => kernel_rfl)
    (case c_maxT => kernel_rfl)
    (case c_minP => kernel_rfl)
    (case c_maxP => kernel_rfl)
    (case c_loss => kernel_rfl)
    (case c_cuts => kernel_rfl)
    (case c_hide => kernel_rfl)
    (case c_value => kernel_rfl)
    (case c_prods => kernel_rfl)
    (case c_layers => kernel_rfl)
    (case c_step => kernel_rfl)
    (case c_create => kernel_rfl)
    (case b_len => k_is)
    (case b_sum => k_is)
    (case b_max => k_is)
    (case b_min => k_is)
    (case b_sorted => k_is)
    (case b_list => k_is)
    (case b_dict => k_is)
    (case b_range => k_is)
    (case b_enumerate => k_is)
    (case dA => (refine' ⟨_, Hl.dk_mk ?a_dA ?l_dA ?c_dA ?k_dA⟩; (case a_dA => k_is); (case l_dA => k_is); (case c_dA => k_is); (case k_dA => k_is)))
