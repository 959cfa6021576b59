import PyProof.Rows.All
import Wide.All
import OpenK.AllK
import Wide.FinOn
import HandS.ForMost
import HandS.Lambda
import HandS.Nested
import HandS.SortKw
import KE.DataMinKey
import KE.SortKeyed
import Open.SpecLaws
import KE.OsGo
import HandS.ForSpec
import HandS.Evl
import HandS.WideBits
import HandS.Codes
import HandS.TupSets
import HandS.Deep
import KE.BitLaws
import HandS.EndTab
import KE.KNest
import PySem.Challenge.RW_threetimes_s01_answers
set_option Elab.async false
set_option linter.all false
/-! ## M1 -/
set_option autoImplicit false
namespace TT
open Kv402 (Line Table at_ less plus ends via start)

/-! ### lists by a function of two places -/
def tabN {α : Type} (n : Nat) (f : Nat → Nat → α) : List (List α) := (List.range n).map fun u => (List.range n).map fun v => f u v

theorem tabN_row {α : Type} {n : Nat} {f : Nat → Nat → α} {u : Nat} (hu : u < n) : (tabN n f)[u]? = some ((List.range n).map fun v => f u v) := by
  unfold tabN; rw [List.getElem?_map, List.getElem?_range hu]; rfl
theorem row_at {α : Type} {n : Nat} {g : Nat → α} {v : Nat} (hv : v < n) : ((List.range n).map g)[v]? = some (g v) := by
  rw [List.getElem?_map, List.getElem?_range hv]; rfl
theorem tabN_len {α : Type} {n : Nat} {f : Nat → Nat → α} : (tabN n f).length = n := by
  unfold tabN; rw [List.length_map, List.length_range]
theorem at_tabN {n : Nat} {f : Nat → Nat → Option Nat} {u v : Nat} (hu : u < n) (hv : v < n) : at_ (tabN n f) u v = f u v := by
  unfold at_
  have e : (tabN n f).getD u [] = (List.range n).map fun v => f u v := by rw [List.getD_eq_getElem?_getD, tabN_row hu]; rfl
  rw [e, List.getD_eq_getElem?_getD, row_at hv]; rfl
theorem at_tabN_out {n : Nat} {f : Nat → Nat → Option Nat} {u v : Nat} (h : ¬ (u < n ∧ v < n)) : at_ (tabN n f) u v = none := by
  unfold at_
  by_cases hu : u < n
  · have e : (tabN n f).getD u [] = (List.range n).map fun v => f u v := by rw [List.getD_eq_getElem?_getD, tabN_row hu]; rfl
    rw [e, List.getD_eq_getElem?_getD, List.getElem?_eq_none]
    · rfl
    · rw [List.length_map, List.length_range]; omega
  · have e : (tabN n f).getD u [] = [] := by
      rw [List.getD_eq_getElem?_getD, List.getElem?_eq_none]
      · rfl
      · rw [tabN_len]; omega
    rw [e]; rfl
theorem tabN_congr {α : Type} {n : Nat} {f g : Nat → Nat → α} (h : ∀ u v, u < n → v < n → f u v = g u v) : tabN n f = tabN n g := by
  unfold tabN
  refine List.map_congr_left fun u hu => List.map_congr_left fun v hv => h u v (List.mem_range.mp hu) (List.mem_range.mp hv)

/-! ### the specification's table, place by place -/
/-- one step of the table -/
def viaF (f : Nat → Nat → Option Nat) (k : Nat) : Nat → Nat → Option Nat := fun u v => less (f u v) (plus (f u k) (f k v))
theorem via_tabN {n : Nat} {f : Nat → Nat → Option Nat} {k : Nat} (hk : k < n) : via (tabN n f) k = tabN n (viaF f k) := by
  unfold via
  apply List.ext_getElem?
  intro u
  by_cases hu : u < n
  · rw [List.getElem?_map, List.getElem?_zipIdx, tabN_row hu, tabN_row hu]
    simp only [Option.map_some, Nat.zero_add]
    congr 1
    apply List.ext_getElem?
    intro v
    by_cases hv : v < n
    · rw [List.getElem?_map, List.getElem?_zipIdx, row_at hv, row_at hv]
      simp only [Option.map_some, Nat.zero_add]
      rw [at_tabN hu hk, at_tabN hk hv]; rfl
    · rw [List.getElem?_eq_none, List.getElem?_eq_none]
      · rw [List.length_map, List.length_range]; omega
      · rw [List.length_map, List.length_zipIdx, List.length_map, List.length_range]; omega
  · rw [List.getElem?_eq_none, List.getElem?_eq_none]
    · rw [tabN_len]; omega
    · rw [List.length_map, List.length_zipIdx, tabN_len]; omega

def start0 (s : List Line) : Nat → Nat → Option Nat := fun u v => if u = v then some 0 else (s.find? fun l => ends l u v).map Line.w
theorem start_tabN (n : Nat) (s : List Line) : start n s = tabN n (start0 s) := rfl
/-- behind the first k places -/
def stepF (s : List Line) : Nat → Nat → Nat → Option Nat
  | 0 => start0 s
  | k + 1 => viaF (stepF s k) k
theorem fold_via {n : Nat} (s : List Line) : ∀ k, k ≤ n → (List.range k).foldl via (start n s) = tabN n (stepF s k)
  | 0, _ => rfl
  | k + 1, h => by
    rw [List.range_succ, List.foldl_append, fold_via s k (by omega)]
    show via (tabN n (stepF s k)) k = _
    rw [via_tabN (by omega)]; rfl
theorem table_eq (n : Nat) (s : List Line) : Kv402.table n s = tabN n (stepF s n) := fold_via s n (Nat.le_refl n)

/-! ### laws of less and plus -/
theorem less_none_l (x : Option Nat) : less none x = x := by cases x <;> rfl
theorem less_none_r (x : Option Nat) : less x none = x := by cases x <;> rfl
/-- what 1000 stands for -/
def tr : Option Nat → Nat
  | none => 1000
  | some d => min d 1000
theorem tr_le (x : Option Nat) : tr x ≤ 1000 := by cases x <;> simp only [tr] <;> omega
theorem tr_less (x y : Option Nat) : tr (less x y) = min (tr x) (tr y) := by
  cases x <;> cases y <;> simp only [less, tr] <;> omega
theorem tr_plus (x y : Option Nat) : tr (plus x y) = min (tr x + tr y) 1000 := by
  cases x <;> cases y <;> simp only [plus, tr] <;> omega
theorem tr_via (f : Nat → Nat → Option Nat) (k u v : Nat) : tr (viaF f k u v) = min (tr (f u v)) (tr (f u k) + tr (f k v)) := by
  unfold viaF
  rw [tr_less, tr_plus]
  have := tr_le (f u v)
  omega

/-! ### the diagonal, from either end -/
theorem ends_comm (l : Line) (u v : Nat) : ends l u v = ends l v u := by
  unfold ends; rw [Bool.or_comm]
theorem start0_diag (s : List Line) (u : Nat) : start0 s u u = some 0 := if_pos rfl
theorem start0_comm (s : List Line) (u v : Nat) : start0 s u v = start0 s v u := by
  unfold start0
  by_cases h : u = v
  · rw [if_pos h, if_pos h.symm]
  · rw [if_neg h, if_neg (fun e => h e.symm)]
    congr 2
    funext l
    exact ends_comm l u v
theorem plus_comm (x y : Option Nat) : plus x y = plus y x := by
  cases x <;> cases y <;> simp only [plus] ; congr 1; omega
theorem less_comm (x y : Option Nat) : less x y = less y x := by
  cases x <;> cases y <;> simp only [less] ; congr 1; omega
theorem stepF_diag (s : List Line) (u : Nat) : ∀ k, stepF s k u u = some 0
  | 0 => start0_diag s u
  | k + 1 => by
    show less (stepF s k u u) _ = _
    rw [stepF_diag s u k]
    cases plus (stepF s k u k) (stepF s k k u) with
    | none => rfl
    | some d => simp [less]
theorem stepF_comm (s : List Line) : ∀ k u v, stepF s k u v = stepF s k v u
  | 0, u, v => start0_comm s u v
  | k + 1, u, v => by
    show less (stepF s k u v) (plus (stepF s k u k) (stepF s k k v)) = less (stepF s k v u) (plus (stepF s k v k) (stepF s k k u))
    rw [stepF_comm s k u v, stepF_comm s k u k, stepF_comm s k k v, plus_comm]

/-! ### a finite distance is less than 1000 -/
/-- no more than, none being the greatest -/
def Le (x y : Option Nat) : Prop := ∀ d, y = some d → ∃ c, x = some c ∧ c ≤ d
theorem Le.refl (x : Option Nat) : Le x x := fun d h => ⟨d, h, Nat.le_refl d⟩
theorem Le.trans {x y z : Option Nat} (a : Le x y) (b : Le y z) : Le x z := fun d h => by
  obtain ⟨c, e, l⟩ := b d h
  obtain ⟨c', e', l'⟩ := a c e
  exact ⟨c', e', Nat.le_trans l' l⟩
theorem less_le_l (x y : Option Nat) : Le (less x y) x := fun d h => by
  subst h
  cases y with
  | none => exact ⟨d, rfl, Nat.le_refl d⟩
  | some e => exact ⟨min d e, rfl, Nat.min_le_left ..⟩
theorem less_le_r (x y : Option Nat) : Le (less x y) y := by
  rw [less_comm]; exact less_le_l y x
theorem plus_le {a b c d : Option Nat} (h : Le a c) (k : Le b d) : Le (plus a b) (plus c d) := fun e q => by
  cases c with
  | none => cases q
  | some c =>
    cases d with
    | none => cases q
    | some d =>
      obtain ⟨x, rfl, hx⟩ := h c rfl
      obtain ⟨y, rfl, hy⟩ := k d rfl
      cases q
      exact ⟨x + y, rfl, Nat.add_le_add hx hy⟩
theorem less_cases (x y : Option Nat) : less x y = x ∨ less x y = y := by
  cases x with
  | none => exact .inr (less_none_l y)
  | some a =>
    cases y with
    | none => exact .inl rfl
    | some b =>
      rcases Nat.le_total a b with h | h
      · exact .inl (by simp only [less, Nat.min_eq_left h])
      · exact .inr (by simp only [less, Nat.min_eq_right h])
theorem plus_assoc (x y z : Option Nat) : plus (plus x y) z = plus x (plus y z) := by
  cases x <;> cases y <;> cases z <;> simp only [plus]; congr 1; omega
theorem le_plus_l (x y : Option Nat) : Le x (plus x y) := fun d q => by
  cases x with
  | none => cases q
  | some a =>
    cases y with
    | none => cases q
    | some b => cases q; exact ⟨a, rfl, Nat.le_add_right ..⟩
theorem le_plus_r (x y : Option Nat) : Le x (plus y x) := by
  rw [plus_comm]; exact le_plus_l x y

/-- the triangle, by way of the places behind -/
theorem tri (s : List Line) : ∀ (k x : Nat), x < k → ∀ u v, Le (stepF s k u v) (plus (stepF s k u x) (stepF s k x v))
  | 0, x, h => absurd h (by omega)
  | k + 1, x, h => fun u v => by
    have hk : ∀ a, stepF s (k + 1) a k = stepF s k a k := fun a => by
      show less (stepF s k a k) (plus (stepF s k a k) (stepF s k k k)) = _
      rw [stepF_diag]
      cases stepF s k a k with
      | none => rfl
      | some d => simp [less, plus]
    have hk' : ∀ a, stepF s (k + 1) k a = stepF s k k a := fun a => by
      rw [stepF_comm s (k + 1), hk, stepF_comm s k]
    have via1 : Le (stepF s (k + 1) u v) (plus (stepF s k u k) (stepF s k k v)) := less_le_r _ _
    by_cases hx : x = k
    · subst hx
      rw [hk, hk']
      exact via1
    · have hx : x < k := by omega
      have ih := tri s k x hx
      -- u to x: either old, or by way of k
      rcases less_cases (stepF s k u x) (plus (stepF s k u k) (stepF s k k x)) with e1 | e1
      · rcases less_cases (stepF s k x v) (plus (stepF s k x k) (stepF s k k v)) with e2 | e2
        · show Le _ (plus (less _ _) (less _ _))
          rw [e1, e2]
          exact (less_le_l _ _).trans (ih u v)
        · show Le _ (plus (less _ _) (less _ _))
          rw [e1, e2, ← plus_assoc]
          exact via1.trans (plus_le (ih u k) (Le.refl _))
      · rcases less_cases (stepF s k x v) (plus (stepF s k x k) (stepF s k k v)) with e2 | e2
        · show Le _ (plus (less _ _) (less _ _))
          rw [e1, e2, plus_assoc]
          exact via1.trans (plus_le (Le.refl _) (ih k v))
        · show Le _ (plus (less _ _) (less _ _))
          rw [e1, e2, plus_assoc]
          refine via1.trans (plus_le (Le.refl _) ?_)
          exact (le_plus_r _ _).trans (le_plus_r _ _)

theorem step_le_start (s : List Line) (u v : Nat) : ∀ k, Le (stepF s k u v) (start0 s u v)
  | 0 => Le.refl _
  | k + 1 => (less_le_l _ _).trans (step_le_start s u v k)

/-- a set that no line leaves is left by no way -/
theorem closed_step (s : List Line) (S : Nat → Prop) (hc : ∀ u v d, S u → start0 s u v = some d → S v) : ∀ k u v d, S u → stepF s k u v = some d → S v
  | 0, u, v, d, hu, h => hc u v d hu h
  | k + 1, u, v, d, hu, h => by
    have h : less (stepF s k u v) (plus (stepF s k u k) (stepF s k k v)) = some d := h
    rcases less_cases (stepF s k u v) (plus (stepF s k u k) (stepF s k k v)) with e | e
    · rw [e] at h
      exact closed_step s S hc k u v d hu h
    · rw [e] at h
      cases h1 : stepF s k u k with
      | none => rw [h1] at h; cases h
      | some a =>
        cases h2 : stepF s k k v with
        | none => rw [h1, h2] at h; cases h
        | some b => exact closed_step s S hc k k v b (closed_step s S hc k u k a hu h1) h2

/-- so many numbers want so many places -/
theorem pig : ∀ (m : Nat) (l : List Nat), (∀ j, j < m → j ∈ l) → m ≤ l.length
  | 0, _, _ => Nat.zero_le _
  | m + 1, l, h => by
    have hm : m ∈ l := h m (Nat.lt_succ_self m)
    have ih := pig m (l.erase m) fun j hj => (List.mem_erase_of_ne (by omega)).mpr (h j (by omega))
    have := List.length_erase_of_mem hm
    have := List.length_pos_of_mem hm
    omega

/-- the lines as the program keeps them -/
structure LinesOk (n : Nat) (s : List Line) : Prop where
  ab : ∀ l ∈ s, l.a < l.b
  bn : ∀ l ∈ s, l.b < n
  w1 : ∀ l ∈ s, 1 ≤ l.w
  w99 : ∀ l ∈ s, l.w ≤ 99
  once : s.Pairwise fun l m => ¬ (l.a = m.a ∧ l.b = m.b)

theorem start0_le {n : Nat} {s : List Line} (ok : LinesOk n s) {u v d : Nat} (h : start0 s u v = some d) : d ≤ 99 := by
  unfold start0 at h
  split at h
  · cases h; omega
  · cases e : s.find? fun l => ends l u v with
    | none => rw [e] at h; cases h
    | some l =>
      rw [e] at h
      cases h
      exact ok.w99 l (List.mem_of_find?_eq_some e)
theorem start0_lt {n : Nat} {s : List Line} (ok : LinesOk n s) {u v d : Nat} (hu : u < n) (h : start0 s u v = some d) : v < n := by
  unfold start0 at h
  split at h
  · omega
  · cases e : s.find? fun l => ends l u v with
    | none => rw [e] at h; cases h
    | some l =>
      have h1 := List.find?_some e
      have h2 := List.mem_of_find?_eq_some e
      have h3 := ok.ab l h2
      have h4 := ok.bn l h2
      simp only [ends, Bool.or_eq_true, Bool.and_eq_true, beq_iff_eq] at h1
      omega

/-- a way is shorter than 1000 -/
theorem dist_lt {n : Nat} {s : List Line} (hn : n ≤ 8) (ok : LinesOk n s) {u v d : Nat} (hu : u < n) (h : stepF s n u v = some d) : d < 1000 := by
  refine Classical.byContradiction fun hd => ?_
  have hd : 1000 ≤ d := by omega
  -- in which hundred (of 99) a place lies
  let win : Nat → Nat := fun x => match stepF s n u x with
    | none => 0
    | some e => (e + 98) / 99
  -- a window without a place
  have hw : ∃ j, 1 ≤ j ∧ j ≤ 9 ∧ ∀ x, x < n → win x ≠ j := by
    refine Classical.byContradiction fun hno => ?_
    have all : ∀ j, j < 9 → j ∈ (List.range n).map fun x => win x - 1 := fun j hj => by
      refine Classical.byContradiction fun hn => hno ⟨j + 1, by omega, by omega, fun x hx e => hn ?_⟩
      exact List.mem_map.mpr ⟨x, List.mem_range.mpr hx, by omega⟩
    have := pig 9 _ all
    rw [List.length_map, List.length_range] at this
    omega
  obtain ⟨j, h1, h9, hj⟩ := hw
  have key := closed_step s (fun x => x < n ∧ ∃ e, stepF s n u x = some e ∧ e ≤ 99 * (j - 1)) (fun x y e ⟨hx, c, hc, hle⟩ hs => by
    have hy := start0_lt ok hx hs
    have he := start0_le ok hs
    obtain ⟨e1, q1, l1⟩ := step_le_start s x y n e hs
    obtain ⟨e2, q2, l2⟩ := tri s n x hx u y (c + e1) (by rw [hc, q1]; rfl)
    refine ⟨hy, e2, q2, ?_⟩
    have hwin := hj y hy
    have ew : win y = (e2 + 98) / 99 := by show (match stepF s n u y with | none => 0 | some e => (e + 98) / 99) = _; rw [q2]
    rw [ew] at hwin
    omega) n u v d ⟨hu, 0, stepF_diag s u n, Nat.zero_le _⟩ h
  obtain ⟨hv, e, q, l⟩ := key
  rw [h] at q
  cases q
  omega

/-- a way that leads elsewhere has a length -/
theorem dist_pos {n : Nat} {s : List Line} (ok : LinesOk n s) {u v : Nat} (hne : u ≠ v) : ∀ k d, stepF s k u v = some d → 1 ≤ d := by
  intro k
  induction k generalizing u v with
  | zero =>
    intro d h
    have h : start0 s u v = some d := h
    unfold start0 at h
    rw [if_neg hne] at h
    cases e : s.find? fun l => ends l u v with
    | none => rw [e] at h; cases h
    | some l =>
      rw [e] at h
      cases h
      exact ok.w1 l (List.mem_of_find?_eq_some e)
  | succ k ih =>
    intro d h
    have h : less (stepF s k u v) (plus (stepF s k u k) (stepF s k k v)) = some d := h
    rcases less_cases (stepF s k u v) (plus (stepF s k u k) (stepF s k k v)) with e | e
    · rw [e] at h
      exact ih hne d h
    · rw [e] at h
      cases h1 : stepF s k u k with
      | none => rw [h1] at h; cases h
      | some a =>
        cases h2 : stepF s k k v with
        | none => rw [h1, h2] at h; cases h
        | some b =>
          rw [h1, h2] at h
          have h : some (a + b) = some d := h
          cases h
          by_cases hk : u = k
          · subst hk
            have := ih hne b h2
            omega
          · have := ih hk a h1
            omega
end TT

/-! ## M2 -/
set_option autoImplicit false
namespace TT
open Kv402 (Line Table at_ less plus ends)

/-! ### the program's rows: stores in place -/
def upd2 {α : Type} (f : Nat → Nat → α) (u v : Nat) (x : α) : Nat → Nat → α := fun a b => if a = u ∧ b = v then x else f a b
theorem row_set {α : Type} {n : Nat} {g : Nat → α} {v : Nat} {x : α} : ((List.range n).map g).set v x = (List.range n).map fun b => if b = v then x else g b := by
  apply List.ext_getElem?
  intro i
  rw [List.getElem?_set]
  by_cases hi : i < n
  · rw [row_at hi, row_at hi, List.length_map, List.length_range]
    by_cases h : v = i
    · subst h; simp [hi]
    · rw [if_neg h, if_neg (fun e => h e.symm)]
  · have e1 : ((List.range n).map g)[i]? = none := List.getElem?_eq_none (by rw [List.length_map, List.length_range]; omega)
    have e2 : ((List.range n).map fun b => if b = v then x else g b)[i]? = none := List.getElem?_eq_none (by rw [List.length_map, List.length_range]; omega)
    rw [e1, e2, List.length_map, List.length_range]
    by_cases h : v = i
    · rw [if_pos h, if_neg (by omega)]
    · rw [if_neg h]
theorem upd2_row {α : Type} {n : Nat} {f : Nat → Nat → α} {u v : Nat} {x : α} : ((List.range n).map fun b => f u b).set v x = (List.range n).map fun b => upd2 f u v x u b := by
  rw [row_set]
  refine List.map_congr_left fun b _ => ?_
  unfold upd2
  by_cases h : b = v
  · rw [if_pos h, if_pos ⟨rfl, h⟩]
  · rw [if_neg h, if_neg (fun e => h e.2)]
theorem upd2_other {α : Type} {n : Nat} {f : Nat → Nat → α} {u v a : Nat} {x : α} (h : a ≠ u) : ((List.range n).map fun b => upd2 f u v x a b) = (List.range n).map fun b => f a b := by
  refine List.map_congr_left fun b _ => ?_
  exact if_neg (fun e => h e.1)

/-- behind some of the lines -/
def lineF (p : List Line) : Nat → Nat → Nat := fun u v => if u = v then 0 else match p.find? fun l => ends l u v with
  | none => 1000
  | some l => l.w
theorem lineF_nil (u v : Nat) : lineF [] u v = if u = v then 0 else 1000 := rfl
theorem lineF_more {p : List Line} {l : Line} (hl : l.a < l.b) (hp : ∀ m ∈ p, m.a < m.b) (h : ∀ m ∈ p, ¬ (m.a = l.a ∧ m.b = l.b)) : upd2 (upd2 (lineF p) l.a l.b l.w) l.b l.a l.w = lineF (p ++ [l]) := by
  funext u v
  unfold lineF
  rw [List.find?_append]
  by_cases huv : u = v
  · rw [if_pos huv]
    unfold upd2
    rw [if_neg (by omega), if_neg (by omega)]
    exact if_pos huv
  · rw [if_neg huv]
    by_cases he : ends l u v = true
    · have hnone : (p.find? fun l => ends l u v) = none := by
        rw [List.find?_eq_none]
        intro m hm hmv
        have := h m hm
        have := hp m hm
        simp only [ends, Bool.or_eq_true, Bool.and_eq_true, beq_iff_eq] at he hmv
        omega
      rw [hnone]
      simp only [List.find?_cons, he, Option.none_or]
      unfold upd2
      simp only [ends, Bool.or_eq_true, Bool.and_eq_true, beq_iff_eq] at he
      split
      · rfl
      · rw [if_pos (by omega)]
    · have he' : ends l u v = false := by simpa using he
      simp only [List.find?_cons, he', List.find?_nil, Option.or_none]
      unfold upd2
      simp only [ends, Bool.or_eq_true, Bool.and_eq_true, beq_iff_eq] at he
      rw [if_neg (by omega), if_neg (by omega)]
      exact if_neg huv
theorem lineF_start {n : Nat} {s : List Line} (ok : LinesOk n s) (u v : Nat) : lineF s u v = tr (start0 s u v) := by
  unfold lineF start0
  by_cases h : u = v
  · rw [if_pos h, if_pos h]; rfl
  · rw [if_neg h, if_neg h]
    cases e : s.find? fun l => ends l u v with
    | none => rfl
    | some l =>
      have := ok.w99 l (List.mem_of_find?_eq_some e)
      simp only [Option.map_some, tr]
      omega

/-- in the midst of a turn: the pairs ahead of (u, v) are done -/
def mixF (f : Nat → Nat → Nat) (k u v : Nat) : Nat → Nat → Nat := fun a b => if a < u ∨ (a = u ∧ b < v) then min (f a b) (f a k + f k b) else f a b
theorem mixF_start (f : Nat → Nat → Nat) (k : Nat) : mixF f k 0 0 = f := by
  funext a b
  unfold mixF
  rw [if_neg (by omega)]
theorem mixF_col {f : Nat → Nat → Nat} {k u v a : Nat} (h : f k k = 0) : mixF f k u v a k = f a k := by
  unfold mixF
  split
  · rw [h]; omega
  · rfl
theorem mixF_rowk {f : Nat → Nat → Nat} {k u v b : Nat} (h : f k k = 0) : mixF f k u v k b = f k b := by
  unfold mixF
  split
  · rw [h]; omega
  · rfl
theorem mixF_here {f : Nat → Nat → Nat} {k u v : Nat} : mixF f k u v u v = f u v := by
  unfold mixF
  rw [if_neg (by omega)]
theorem mixF_turn {f : Nat → Nat → Nat} {k u v : Nat} : upd2 (mixF f k u v) u v (min (f u v) (f u k + f k v)) = mixF f k u (v + 1) := by
  funext a b
  unfold upd2 mixF
  by_cases h : a = u ∧ b = v
  · rw [if_pos h, if_pos (by omega), h.1, h.2]
  · rw [if_neg h]
    by_cases h2 : a < u ∨ (a = u ∧ b < v)
    · rw [if_pos h2, if_pos (by omega)]
    · rw [if_neg h2, if_neg (by omega)]
theorem mixF_next {f : Nat → Nat → Nat} {k u n a b : Nat} (hb : b < n) : mixF f k u n a b = mixF f k (u + 1) 0 a b := by
  unfold mixF
  by_cases h2 : a < u ∨ (a = u ∧ b < n)
  · rw [if_pos h2, if_pos (by omega)]
  · rw [if_neg h2, if_neg (by omega)]
theorem mixF_end {f : Nat → Nat → Nat} {k n a b : Nat} (ha : a < n) : mixF f k n 0 a b = min (f a b) (f a k + f k b) := by
  unfold mixF
  rw [if_pos (by omega)]
/-- the program's rows behind k places -/
def dF (s : List Line) (k : Nat) : Nat → Nat → Nat := fun u v => tr (stepF s k u v)
theorem dF_diag (s : List Line) (k u : Nat) : dF s k u u = 0 := by
  unfold dF; rw [stepF_diag]; rfl
theorem dF_next (s : List Line) (k u v : Nat) : dF s (k + 1) u v = min (dF s k u v) (dF s k u k + dF s k k v) := tr_via _ _ _ _

/-! ### the distances in the end -/
/-- 1000 where no way leads -/
def dd (n : Nat) (s : List Line) : Nat → Nat → Nat := dF s n
theorem dd_some {n : Nat} {s : List Line} (hn : n ≤ 8) (ok : LinesOk n s) {u v : Nat} (hu : u < n) (hv : v < n) : at_ (Kv402.table n s) u v = if dd n s u v < 1000 then some (dd n s u v) else none := by
  rw [table_eq, at_tabN hu hv]
  unfold dd dF
  cases e : stepF s n u v with
  | none => rfl
  | some d =>
    have := dist_lt hn ok hu e
    have e2 : tr (some d) = d := Nat.min_eq_left (by omega)
    rw [e2, if_pos this]
theorem dd_diag {n : Nat} {s : List Line} (u : Nat) : dd n s u u = 0 := dF_diag s n u
theorem dd_comm {n : Nat} {s : List Line} (u v : Nat) : dd n s u v = dd n s v u := by
  unfold dd dF; rw [stepF_comm]
theorem dd_le {n : Nat} {s : List Line} (u v : Nat) : dd n s u v ≤ 1000 := tr_le _
theorem dd_pos {n : Nat} {s : List Line} (ok : LinesOk n s) {u v : Nat} (h : u ≠ v) : 1 ≤ dd n s u v := by
  unfold dd dF
  cases e : stepF s n u v with
  | none => simp [tr]
  | some d =>
    have := dist_pos ok h n d e
    simp only [tr]
    omega
end TT

/-! ## M3 -/
set_option autoImplicit false
namespace TT
open Kv402 (Line Table at_ less plus ends)
open Kv404 (in_ list_)

/-- a table and its distances as numbers -/
structure Tb (n : Nat) (t : Table) (D : Nat → Nat → Nat) : Prop where
  at_eq : ∀ {u v : Nat}, u < n → v < n → at_ t u v = if D u v < 1000 then some (D u v) else none
  le : ∀ u v, D u v ≤ 1000
  diag : ∀ u, D u u = 0
  comm : ∀ u v, D u v = D v u
  pos : ∀ {u v}, u ≠ v → 1 ≤ D u v

theorem Tb.of {n : Nat} {s : List Line} (hn : n ≤ 8) (ok : LinesOk n s) : Tb n (Kv402.table n s) (dd n s) :=
  ⟨fun hu hv => dd_some hn ok hu hv, dd_le, dd_diag, dd_comm, fun h => dd_pos ok h⟩

section
variable {n : Nat} {t : Table} {D : Nat → Nat → Nat}
theorem Tb.none_iff (T : Tb n t D) {u v : Nat} (hu : u < n) (hv : v < n) : at_ t u v = none ↔ D u v = 1000 := by
  rw [T.at_eq hu hv]
  have := T.le u v
  split
  · constructor
    · intro h; cases h
    · omega
  · constructor
    · omega
    · intro _; rfl
theorem Tb.some_iff (T : Tb n t D) {u v d : Nat} (hu : u < n) (hv : v < n) : at_ t u v = some d ↔ D u v = d ∧ d < 1000 := by
  rw [T.at_eq hu hv]
  split
  · constructor
    · intro h; cases h; omega
    · rintro ⟨h, _⟩; rw [h]
  · constructor
    · intro h; cases h
    · omega

theorem mem_list {s c : Nat} (h : c ∈ list_ n s) : c < n ∧ in_ s c = true := by
  unfold list_ at h
  rw [List.mem_filter, List.mem_range] at h
  exact h
theorem list_lt (n s : Nat) : (list_ n s).Pairwise (· < ·) := List.pairwise_lt_range.filter _

/-! ### the nearest -/
/-- those of some places that a way leads to -/
def reached (D : Nat → Nat → Nat) (v : Nat) (l : List Nat) : List Nat := l.filter fun c => decide (D v c < 1000)
/-- the least by distance, then by number -/
def IsNearest (D : Nat → Nat → Nat) (v : Nat) (l : List Nat) (c : Nat) : Prop := c ∈ l ∧ ∀ x ∈ l, D v c < D v x ∨ (D v c = D v x ∧ c ≤ x)
theorem IsNearest.one {v : Nat} {l : List Nat} {c d : Nat} (h : IsNearest D v l c) (k : IsNearest D v l d) : c = d := by
  have := h.2 d k.1
  have := k.2 c h.1
  omega
def NearInv (D : Nat → Nat → Nat) (v : Nat) (l : List Nat) : Option (Nat × Nat) → Prop
  | none => reached D v l = []
  | some q => IsNearest D v (reached D v l) q.1 ∧ q.2 = D v q.1
theorem near_fold (T : Tb n t D) {v : Nat} (hv : v < n) : ∀ (l pre : List Nat) (b : Option (Nat × Nat)), (∀ c ∈ l, c < n) → (pre ++ l).Pairwise (· < ·) → NearInv D v pre b →
    NearInv D v (pre ++ l) (l.foldl (fun b c => match at_ t v c with
      | none => b
      | some d => match b with
        | none => some (c, d)
        | some q => if d < q.2 then some (c, d) else b) b)
  | [], pre, b, _, _, h => by rw [List.append_nil]; exact h
  | c :: l, pre, b, hl, hp, h => by
    have e : pre ++ c :: l = (pre ++ [c]) ++ l := by simp
    rw [e] at hp ⊢
    rw [List.foldl_cons]
    refine near_fold T hv l (pre ++ [c]) _ (fun x hx => hl x (List.mem_cons_of_mem _ hx)) hp ?_
    have hc : c < n := hl c List.mem_cons_self
    have hlt : ∀ x ∈ pre, x < c := fun x hx => by
      have := (List.pairwise_append.mp hp).1
      exact (List.pairwise_append.mp this).2.2 x hx c (List.mem_singleton.mpr rfl)
    have er : reached D v (pre ++ [c]) = reached D v pre ++ (if D v c < 1000 then [c] else []) := by
      unfold reached
      rw [List.filter_append]
      congr 1
      by_cases hd : D v c < 1000
      · rw [if_pos hd, List.filter_cons_of_pos (by simpa using hd)]; rfl
      · rw [if_neg hd, List.filter_cons_of_neg (by simpa using hd)]; rfl
    rw [T.at_eq hv hc]
    by_cases hd : D v c < 1000
    · rw [if_pos hd] at er ⊢
      have hmem : ∀ x ∈ reached D v pre, x < c := fun x hx => hlt x (List.mem_filter.mp hx).1
      cases b with
      | none =>
        have h : reached D v pre = [] := h
        rw [h] at er
        refine ⟨?_, rfl⟩
        rw [er]
        refine ⟨List.mem_singleton.mpr rfl, fun x hx => ?_⟩
        have hx : x = c := List.mem_singleton.mp hx
        rw [hx]; exact .inr ⟨rfl, Nat.le_refl _⟩
      | some q =>
        obtain ⟨⟨h1, h2⟩, h3⟩ := h
        show NearInv D v (pre ++ [c]) (if D v c < q.2 then some (c, D v c) else some q)
        by_cases hq : D v c < q.2
        · rw [if_pos hq]
          refine ⟨?_, rfl⟩
          rw [er]
          refine ⟨List.mem_append_right _ (List.mem_singleton.mpr rfl), fun x hx => ?_⟩
          rcases List.mem_append.mp hx with hx | hx
          · have := h2 x hx
            show D v c < D v x ∨ (D v c = D v x ∧ c ≤ x)
            omega
          · have hx : x = c := List.mem_singleton.mp hx
            rw [hx]; exact .inr ⟨rfl, Nat.le_refl _⟩
        · rw [if_neg hq]
          refine ⟨?_, h3⟩
          rw [er]
          refine ⟨List.mem_append_left _ h1, fun x hx => ?_⟩
          rcases List.mem_append.mp hx with hx | hx
          · exact h2 x hx
          · have hx : x = c := List.mem_singleton.mp hx
            have := hmem q.1 h1
            rw [hx]; omega
    · rw [if_neg hd] at er ⊢
      rw [List.append_nil] at er
      cases b with
      | none => show reached D v (pre ++ [c]) = []; rw [er]; exact h
      | some q => show IsNearest D v (reached D v (pre ++ [c])) q.1 ∧ q.2 = D v q.1; rw [er]; exact h
theorem nearest_inv (T : Tb n t D) {v s : Nat} (hv : v < n) : NearInv D v (list_ n s) (Kv404.nearest n t s v) := by
  have h := near_fold T hv (list_ n s) [] none (fun c hc => (mem_list hc).1) (list_lt n s) rfl
  exact h
theorem nearest_none (T : Tb n t D) {v s : Nat} (hv : v < n) (h : reached D v (list_ n s) = []) : Kv404.nearest n t s v = none := by
  have i := nearest_inv T (s := s) hv
  cases e : Kv404.nearest n t s v with
  | none => rfl
  | some q =>
    rw [e] at i
    have := i.1.1
    rw [h] at this
    cases this
theorem nearest_some (T : Tb n t D) {v s c : Nat} (hv : v < n) (h : IsNearest D v (reached D v (list_ n s)) c) : Kv404.nearest n t s v = some (c, D v c) := by
  have i := nearest_inv T (s := s) hv
  cases e : Kv404.nearest n t s v with
  | none =>
    rw [e] at i
    have i : reached D v (list_ n s) = [] := i
    have := h.1
    rw [i] at this
    cases this
  | some q =>
    rw [e] at i
    have e1 := i.1.one h
    have e2 := i.2
    obtain ⟨q1, q2⟩ := q
    have e1 : q1 = c := e1
    have e2 : q2 = D v q1 := e2
    rw [e2, e1]

/-! ### near -/
/-- how far the nearest of some places is, 1000 if none is come to -/
def limit (D : Nat → Nat → Nat) (v : Nat) (l : List Nat) : Nat := l.foldl (fun m c => min m (D v c)) 1000
theorem fold_min_le (D : Nat → Nat → Nat) (v : Nat) : ∀ (l : List Nat) (m : Nat), l.foldl (fun m c => min m (D v c)) m ≤ m ∧ (∀ c ∈ l, l.foldl (fun m c => min m (D v c)) m ≤ D v c) ∧ (l.foldl (fun m c => min m (D v c)) m = m ∨ ∃ c ∈ l, l.foldl (fun m c => min m (D v c)) m = D v c)
  | [], m => ⟨Nat.le_refl _, fun c h => absurd h (by simp), .inl rfl⟩
  | a :: l, m => by
    obtain ⟨h1, h2, h3⟩ := fold_min_le D v l (min m (D v a))
    refine ⟨by rw [List.foldl_cons]; omega, fun c hc => ?_, ?_⟩
    · rw [List.foldl_cons]
      rcases List.mem_cons.mp hc with rfl | hc
      · omega
      · exact h2 c hc
    · rw [List.foldl_cons]
      rcases h3 with h3 | ⟨c, hc, h3⟩
      · rcases Nat.le_total m (D v a) with h | h
        · rw [Nat.min_eq_left h] at h3 ⊢
          exact .inl h3
        · rw [Nat.min_eq_right h] at h3 ⊢
          exact .inr ⟨a, List.mem_cons_self, h3⟩
      · exact .inr ⟨c, List.mem_cons_of_mem _ hc, h3⟩
theorem limit_none {v : Nat} {l : List Nat} (h : reached D v l = []) (hle : ∀ u v, D u v ≤ 1000) : limit D v l = 1000 := by
  obtain ⟨h1, h2, h3⟩ := fold_min_le D v l 1000
  unfold limit
  rcases h3 with h3 | ⟨c, hc, h3⟩
  · exact h3
  · have : c ∉ reached D v l := by rw [h]; simp
    unfold reached at this
    rw [List.mem_filter] at this
    have hd : ¬ D v c < 1000 := fun hlt => this ⟨hc, by simpa using hlt⟩
    have := hle v c
    omega
theorem limit_some {v c : Nat} {l : List Nat} (h : IsNearest D v (reached D v l) c) : limit D v l = D v c := by
  obtain ⟨h1, h2, h3⟩ := fold_min_le D v l 1000
  have hc := List.mem_filter.mp h.1
  have hc1 := h2 c hc.1
  have hc2 : D v c < 1000 := by simpa using hc.2
  unfold limit
  rcases h3 with h3 | ⟨x, hx, h3⟩
  · omega
  · have hx2 : D v x < 1000 := by omega
    have := h.2 x (List.mem_filter.mpr ⟨hx, by simpa using hx2⟩)
    omega
/-- those near v -/
def nearL (n : Nat) (D : Nat → Nat → Nat) (s v : Nat) : List Nat := (List.range n).filter fun w => decide (D v w < limit D v (list_ n s))
theorem near_eq (T : Tb n t D) {v s : Nat} (hv : v < n) : Kv404.near n t s v = nearL n D s v := by
  unfold Kv404.near nearL
  refine List.filter_congr fun w hw => ?_
  have hw : w < n := List.mem_range.mp hw
  have hle := T.le v w
  have i := nearest_inv T (s := s) hv
  rw [T.at_eq hv hw]
  cases e : Kv404.nearest n t s v with
  | none =>
    rw [e] at i
    rw [limit_none i T.le]
    by_cases hd : D v w < 1000
    · rw [if_pos hd]; simp [hd]
    · rw [if_neg hd]; simp [hd]
  | some q =>
    rw [e] at i
    obtain ⟨i1, i2⟩ := i
    have hq : D v q.1 < 1000 := by simpa using (List.mem_filter.mp i1.1).2
    rw [limit_some i1]
    by_cases hd : D v w < 1000
    · rw [if_pos hd]; simp only [i2]
    · rw [if_neg hd]
      have : ¬ D v w < D v q.1 := by omega
      simp [this]
theorem mem_nearL {s v w : Nat} : w ∈ nearL n D s v ↔ w < n ∧ D v w < limit D v (list_ n s) := by
  unfold nearL
  rw [List.mem_filter, List.mem_range, decide_eq_true_eq]

/-! ### how much all know -/
def allN (n : Nat) (D : Nat → Nat → Nat) (s : Nat) : Nat := ((List.range n).map fun v => (nearL n D s v).length).sum + n * (list_ n s).length
theorem sum_add_const : ∀ (l : List Nat) (f : Nat → Nat) (c : Nat), (l.map fun v => f v + c).sum = (l.map f).sum + l.length * c
  | [], f, c => by simp
  | a :: l, f, c => by
    rw [List.map_cons, List.map_cons, List.sum_cons, List.sum_cons, sum_add_const l f c, List.length_cons, Nat.succ_mul]
    omega
theorem knows_eq (T : Tb n t D) {v s : Nat} (hv : v < n) : Kv404.knows n t s v = (nearL n D s v).length + (list_ n s).length := by
  unfold Kv404.knows; rw [near_eq T hv]
theorem all_eq (T : Tb n t D) (s : Nat) : Kv404.all n t s = allN n D s := by
  unfold Kv404.all allN
  have e : (List.range n).map (Kv404.knows n t s) = (List.range n).map fun v => (nearL n D s v).length + (list_ n s).length :=
    List.map_congr_left fun v hv => knows_eq T (List.mem_range.mp hv)
  rw [e, sum_add_const, List.length_range]

/-! ### the k nearest -/
/-- by distance, of like ones by number -/
def lex (D : Nat → Nat → Nat) (v a b : Nat) : Prop := D v a < D v b ∨ (D v a = D v b ∧ a < b)
theorem insert_perm (t : Table) (v w : Nat) : ∀ l, (Kv404.insert_ t v w l).Perm (w :: l)
  | [] => List.Perm.refl _
  | x :: l => by
    show (if (at_ t v w).getD 0 < (at_ t v x).getD 0 then w :: x :: l else x :: Kv404.insert_ t v w l).Perm (w :: x :: l)
    split
    · exact List.Perm.refl _
    · exact ((insert_perm t v w l).cons x).trans (List.Perm.swap w x l)
theorem insert_lex (T : Tb n t D) {v w : Nat} (hv : v < n) (hw : w < n) (hd : D v w < 1000) : ∀ l, (∀ x ∈ l, x < w ∧ D v x < 1000) → l.Pairwise (lex D v) → (Kv404.insert_ t v w l).Pairwise (lex D v)
  | [], _, _ => List.pairwise_singleton _ _
  | x :: l, hx, h => by
    have hxn : x < n := Nat.lt_trans (hx x List.mem_cons_self).1 hw
    have hxd := (hx x List.mem_cons_self).2
    have e1 : (at_ t v w).getD 0 = D v w := by rw [T.at_eq hv hw, if_pos hd]; rfl
    have e2 : (at_ t v x).getD 0 = D v x := by rw [T.at_eq hv hxn, if_pos hxd]; rfl
    show (if (at_ t v w).getD 0 < (at_ t v x).getD 0 then w :: x :: l else x :: Kv404.insert_ t v w l).Pairwise (lex D v)
    rw [e1, e2]
    have hp := List.pairwise_cons.mp h
    split
    · rename_i hlt
      refine List.pairwise_cons.mpr ⟨fun y hy => ?_, h⟩
      rcases List.mem_cons.mp hy with rfl | hy
      · exact .inl hlt
      · have := hp.1 y hy
        unfold lex at this ⊢
        omega
    · rename_i hlt
      refine List.pairwise_cons.mpr ⟨fun y hy => ?_, insert_lex T hv hw hd l (fun y hy => hx y (List.mem_cons_of_mem _ hy)) hp.2⟩
      rcases List.mem_cons.mp ((insert_perm t v w l).mem_iff.mp hy) with rfl | hy
      · have := (hx x List.mem_cons_self).1
        unfold lex
        omega
      · exact hp.1 y hy
theorem fold_insert (T : Tb n t D) {v : Nat} (hv : v < n) : ∀ (l acc : List Nat), (∀ x ∈ l, x < n ∧ D v x < 1000) → l.Pairwise (· < ·) → (∀ x ∈ acc, D v x < 1000) → (∀ x ∈ acc, ∀ y ∈ l, x < y) → acc.Pairwise (lex D v) →
    (l.foldl (fun l w => Kv404.insert_ t v w l) acc).Pairwise (lex D v) ∧ (l.foldl (fun l w => Kv404.insert_ t v w l) acc).Perm (acc ++ l)
  | [], acc, _, _, _, _, h => ⟨h, by rw [List.append_nil]; exact List.Perm.refl _⟩
  | w :: l, acc, hl, hp, ha, hlt, h => by
    have hp' := List.pairwise_cons.mp hp
    have hw := hl w List.mem_cons_self
    have pm := insert_perm t v w acc
    obtain ⟨k1, k2⟩ := fold_insert T hv l (Kv404.insert_ t v w acc) (fun x hx => hl x (List.mem_cons_of_mem _ hx)) hp'.2
      (fun x hx => by
        rcases List.mem_cons.mp (pm.mem_iff.mp hx) with rfl | hx
        · exact hw.2
        · exact ha x hx)
      (fun x hx y hy => by
        rcases List.mem_cons.mp (pm.mem_iff.mp hx) with rfl | hx
        · exact hp'.1 y hy
        · exact hlt x hx y (List.mem_cons_of_mem _ hy))
      (insert_lex T hv hw.1 hw.2 acc (fun x hx => ⟨hlt x hx w List.mem_cons_self, ha x hx⟩) h)
    refine ⟨k1, k2.trans ?_⟩
    refine (pm.append_right l).trans ?_
    rw [List.cons_append]
    exact (List.perm_middle).symm
theorem byDist_ok (T : Tb n t D) {v : Nat} (hv : v < n) : (Kv404.byDist n t v).Pairwise (lex D v) ∧ (Kv404.byDist n t v).Perm (reached D v (List.range n)) := by
  have e : (List.range n).filter (fun w => (at_ t v w).isSome) = reached D v (List.range n) := by
    unfold reached
    refine List.filter_congr fun w hw => ?_
    rw [T.at_eq hv (List.mem_range.mp hw)]
    by_cases hd : D v w < 1000
    · rw [if_pos hd]; simp [hd]
    · rw [if_neg hd]; simp [hd]
  have := fold_insert T hv (reached D v (List.range n)) [] (fun x hx => ⟨List.mem_range.mp (List.mem_filter.mp hx).1, by simpa using (List.mem_filter.mp hx).2⟩)
    (List.pairwise_lt_range.filter _) (fun x hx => by cases hx) (fun x hx => by cases hx) .nil
  unfold Kv404.byDist
  rw [e]
  rw [List.nil_append] at this
  exact this
/-- whatever is in order and has these is it -/
theorem byDist_is (T : Tb n t D) {v : Nat} {l : List Nat} (hv : v < n) (h : l.Pairwise (lex D v)) (hp : l.Perm (reached D v (List.range n))) : l = Kv404.byDist n t v := by
  obtain ⟨k1, k2⟩ := byDist_ok T hv
  refine List.Perm.eq_of_pairwise (le := lex D v) (fun a b _ _ h1 h2 => ?_) h k1 (hp.trans k2.symm)
  unfold lex at h1 h2
  omega
end
end TT

/-! ## M4 -/
set_option autoImplicit false
namespace TT
open Kv402 (Line Table at_ less plus ends before put)
open Kv404 (in_ list_)

/-! ### choices as numbers -/
theorem in_testBit (s v : Nat) : in_ s v = s.testBit v := by
  unfold in_
  rw [Nat.testBit_eq_decide_div_mod_eq]
  rfl
theorem land_bit {s v : Nat} : s &&& 2 ^ v = if in_ s v = true then 2 ^ v else 0 := by
  rw [in_testBit]
  apply Nat.eq_of_testBit_eq
  intro i
  rw [Nat.testBit_and, Nat.testBit_two_pow]
  by_cases hi : v = i
  · subst hi
    cases s.testBit v <;> simp
  · cases s.testBit v <;> simp [hi]
theorem or_bit {s w : Nat} (h : in_ s w = false) : s + 2 ^ w = s ||| 2 ^ w := by
  rw [in_testBit] at h
  -- by the bits above, at and below w
  have hd : s = 2 ^ (w + 1) * (s / 2 ^ (w + 1)) + s % 2 ^ (w + 1) := (Nat.div_add_mod s (2 ^ (w + 1))).symm
  have hlow : s % 2 ^ (w + 1) < 2 ^ w := by
    have h1 : (s % 2 ^ (w + 1)).testBit w = false := by rw [Nat.testBit_mod_two_pow]; simp [h]
    refine Nat.lt_pow_two_of_testBit _ fun i hi => ?_
    by_cases hiw : i = w
    · subst hiw; exact h1
    · rw [Nat.testBit_mod_two_pow]
      have : ¬ i < w + 1 := by omega
      simp [this]
  have hor : s % 2 ^ (w + 1) + 2 ^ w = s % 2 ^ (w + 1) ||| 2 ^ w := by
    have := Nat.two_pow_add_eq_or_of_lt hlow 1
    rw [Nat.mul_one] at this
    rw [Nat.add_comm, this, Nat.or_comm]
  have hlt : s % 2 ^ (w + 1) + 2 ^ w < 2 ^ (w + 1) := by
    have e2 : 2 ^ (w + 1) = 2 ^ w * 2 := Nat.pow_succ ..
    omega
  have e1 : s + 2 ^ w = 2 ^ (w + 1) * (s / 2 ^ (w + 1)) + (s % 2 ^ (w + 1) + 2 ^ w) := by omega
  rw [e1, Nat.two_pow_add_eq_or_of_lt hlt, hor, ← Nat.or_assoc, ← Nat.two_pow_add_eq_or_of_lt (Nat.mod_lt _ (Nat.two_pow_pos _)), Nat.div_add_mod]
theorem in_add {s w x : Nat} (h : in_ s w = false) : in_ (s + 2 ^ w) x = (in_ s x || x == w) := by
  have e := or_bit h
  rw [in_testBit] at h
  rw [in_testBit, in_testBit]
  rw [e, Nat.testBit_or, Nat.testBit_two_pow]
  congr 1
  by_cases hx : w = x
  · subst hx; simp
  · have : ¬ x = w := fun q => hx q.symm
    simp [hx, this]
theorem in_lt {n s v : Nat} (hs : s < 2 ^ n) (h : in_ s v = true) : v < n := by
  refine Classical.byContradiction fun hn => ?_
  rw [in_testBit, Nat.testBit_lt_two_pow (Nat.lt_of_lt_of_le hs (Nat.pow_le_pow_right (by omega) (by omega)))] at h
  cases h

/-! ### the first of the greatest, of the least -/
/-- the first place whose number is the greatest -/
def FirstMax (n : Nat) (c : Nat → Nat) (w : Nat) : Prop := w < n ∧ (∀ x, x < n → c x ≤ c w) ∧ ∀ x, x < w → c x < c w
def FirstMin (n : Nat) (c : Nat → Nat) (w : Nat) : Prop := w < n ∧ (∀ x, x < n → c w ≤ c x) ∧ ∀ x, x < w → c w < c x
theorem FirstMax.one {n : Nat} {c : Nat → Nat} {w x : Nat} (h : FirstMax n c w) (k : FirstMax n c x) : w = x := by
  refine Classical.byContradiction fun hne => ?_
  rcases Nat.lt_or_gt_of_ne hne with q | q
  · have := k.2.2 w q; have := h.2.1 x k.1; omega
  · have := h.2.2 x q; have := k.2.1 w h.1; omega
theorem FirstMin.one {n : Nat} {c : Nat → Nat} {w x : Nat} (h : FirstMin n c w) (k : FirstMin n c x) : w = x := by
  refine Classical.byContradiction fun hne => ?_
  rcases Nat.lt_or_gt_of_ne hne with q | q
  · have := k.2.2 w q; have := h.2.1 x k.1; omega
  · have := h.2.2 x q; have := k.2.1 w h.1; omega
theorem fold_max : ∀ (l : List Nat) (m : Nat), m ≤ l.foldl max m ∧ (∀ x ∈ l, x ≤ l.foldl max m) ∧ (l.foldl max m = m ∨ l.foldl max m ∈ l)
  | [], m => ⟨Nat.le_refl _, fun x h => absurd h (by simp), .inl rfl⟩
  | a :: l, m => by
    obtain ⟨h1, h2, h3⟩ := fold_max l (max m a)
    rw [List.foldl_cons]
    refine ⟨by omega, fun x hx => ?_, ?_⟩
    · rcases List.mem_cons.mp hx with rfl | hx
      · omega
      · exact h2 x hx
    · rcases h3 with h3 | h3
      · rcases Nat.le_total m a with h | h
        · rw [Nat.max_eq_right h] at h3 ⊢
          exact .inr (by rw [h3]; exact List.mem_cons_self)
        · rw [Nat.max_eq_left h] at h3 ⊢
          exact .inl h3
      · exact .inr (List.mem_cons_of_mem _ h3)
theorem fold_min : ∀ (l : List Nat) (m : Nat), l.foldl min m ≤ m ∧ (∀ x ∈ l, l.foldl min m ≤ x) ∧ (l.foldl min m = m ∨ l.foldl min m ∈ l)
  | [], m => ⟨Nat.le_refl _, fun x h => absurd h (by simp), .inl rfl⟩
  | a :: l, m => by
    obtain ⟨h1, h2, h3⟩ := fold_min l (min m a)
    rw [List.foldl_cons]
    refine ⟨by omega, fun x hx => ?_, ?_⟩
    · rcases List.mem_cons.mp hx with rfl | hx
      · omega
      · exact h2 x hx
    · rcases h3 with h3 | h3
      · rcases Nat.le_total m a with h | h
        · rw [Nat.min_eq_left h] at h3 ⊢
          exact .inl h3
        · rw [Nat.min_eq_right h] at h3 ⊢
          exact .inr (by rw [h3]; exact List.mem_cons_self)
      · exact .inr (List.mem_cons_of_mem _ h3)
theorem find_first {n : Nat} {p : Nat → Bool} {w : Nat} (hw : w < n) (hp : p w = true) (hb : ∀ x, x < w → p x = false) : (List.range n).find? p = some w := by
  rw [List.find?_range_eq_some]
  exact ⟨hp, List.mem_range.mpr hw, fun j hj => by rw [hb j hj]; rfl⟩
theorem find_max {n : Nat} {c : Nat → Nat} {w : Nat} (h : FirstMax n c w) : (List.range n).find? (fun x => c x == ((List.range n).map c).foldl max 0) = some w := by
  have hm : ((List.range n).map c).foldl max 0 = c w := by
    obtain ⟨h1, h2, h3⟩ := fold_max ((List.range n).map c) 0
    have hw := h2 (c w) (List.mem_map.mpr ⟨w, List.mem_range.mpr h.1, rfl⟩)
    rcases h3 with h3 | h3
    · omega
    · obtain ⟨x, hx, e⟩ := List.mem_map.mp h3
      have := h.2.1 x (List.mem_range.mp hx)
      omega
  rw [hm]
  refine find_first h.1 (by simp) fun x hx => ?_
  have := h.2.2 x hx
  simp only [beq_eq_false_iff_ne]
  omega
theorem find_min {n b : Nat} {c : Nat → Nat} {w : Nat} (h : FirstMin n c w) (hb : ∀ x, x < n → c x ≤ b) : (List.range n).find? (fun x => c x == ((List.range n).map c).foldl min b) = some w := by
  have hm : ((List.range n).map c).foldl min b = c w := by
    obtain ⟨h1, h2, h3⟩ := fold_min ((List.range n).map c) b
    have hw := h2 (c w) (List.mem_map.mpr ⟨w, List.mem_range.mpr h.1, rfl⟩)
    have := hb w h.1
    rcases h3 with h3 | h3
    · omega
    · obtain ⟨x, hx, e⟩ := List.mem_map.mp h3
      have := h.2.1 x (List.mem_range.mp hx)
      omega
  rw [hm]
  refine find_first h.1 (by simp) fun x hx => ?_
  have := h.2.2 x hx
  simp only [beq_eq_false_iff_ne]
  omega

section
variable {n : Nat} {t : Table} {D : Nat → Nat → Nat}
/-! ### the best -/
theorem sum_le : ∀ (l : List Nat) (f : Nat → Nat) (b : Nat), (∀ x ∈ l, f x ≤ b) → (l.map f).sum ≤ l.length * b
  | [], _, _, _ => by simp
  | a :: l, f, b, h => by
    have h1 := sum_le l f b fun x hx => h x (List.mem_cons_of_mem _ hx)
    have h2 := h a List.mem_cons_self
    rw [List.map_cons, List.sum_cons, List.length_cons, Nat.succ_mul]
    omega
theorem nearL_len (n : Nat) (D : Nat → Nat → Nat) (s v : Nat) : (nearL n D s v).length ≤ n := by
  unfold nearL
  refine Nat.le_trans (List.length_filter_le ..) ?_
  rw [List.length_range]
  exact Nat.le_refl n
theorem list_len (n s : Nat) : (list_ n s).length ≤ n := by
  unfold list_
  refine Nat.le_trans (List.length_filter_le ..) ?_
  rw [List.length_range]
  exact Nat.le_refl n
theorem allN_le (n : Nat) (D : Nat → Nat → Nat) (s : Nat) : allN n D s ≤ n * n + n * n := by
  unfold allN
  have h1 := sum_le (List.range n) (fun v => (nearL n D s v).length) n fun x _ => nearL_len n D s x
  rw [List.length_range] at h1
  have h2 := Nat.mul_le_mul_left n (list_len n s)
  omega
theorem best_is (T : Tb n t D) {w : Nat} (h : FirstMin (2 ^ n) (allN n D) w) : Kv404.best n t = w := by
  unfold Kv404.best
  have e : Kv404.all n t = allN n D := funext fun s => all_eq T s
  rw [e]
  show ((List.range (2 ^ n)).find? fun s => allN n D s == ((List.range (2 ^ n)).map (allN n D)).foldl min (n * n + n * n)).getD 0 = w
  rw [find_min h fun x _ => allN_le n D x]
  rfl

/-! ### by greed -/
/-- those that have none chosen among their k nearest -/
def left (n : Nat) (t : Table) (k s : Nat) : List Nat := (List.range n).filter fun v => !(Kv404.first n t k v).any (in_ s)
def cnt (n : Nat) (t : Table) (k s w : Nat) : Nat := ((left n t k s).filter fun v => (Kv404.first n t k v).contains w).length
theorem first_self (T : Tb n t D) {k v : Nat} (hk : 1 ≤ k) (hv : v < n) : v ∈ Kv404.first n t k v := by
  obtain ⟨h1, h2⟩ := byDist_ok T hv
  have hm : v ∈ Kv404.byDist n t v := h2.mem_iff.mpr (List.mem_filter.mpr ⟨List.mem_range.mpr hv, by rw [T.diag]; rfl⟩)
  unfold Kv404.first
  cases e : Kv404.byDist n t v with
  | nil => rw [e] at hm; cases hm
  | cons a l =>
    rw [e] at hm h1
    have ha : a = v := by
      rcases List.mem_cons.mp hm with q | q
      · exact q.symm
      · have := (List.pairwise_cons.mp h1).1 v q
        unfold lex at this
        rw [T.diag] at this
        have hne : a ≠ v := fun z => by rw [z, T.diag] at this; omega
        have := T.pos (u := v) (v := a) (fun z => hne z.symm)
        omega
    obtain ⟨j, rfl⟩ : ∃ j, k = j + 1 := ⟨k - 1, by omega⟩
    rw [ha, List.take_succ_cons]
    exact List.mem_cons_self
theorem first_lt (T : Tb n t D) {k v w : Nat} (hv : v < n) (h : w ∈ Kv404.first n t k v) : w < n := by
  have := (byDist_ok T hv).2.mem_iff.mp (List.mem_of_mem_take h)
  exact List.mem_range.mp (List.mem_filter.mp this).1
theorem any_split {α : Type} (p q : α → Bool) : ∀ l : List α, (l.any fun x => p x || q x) = (l.any p || l.any q)
  | [] => rfl
  | a :: l => by
    rw [List.any_cons, List.any_cons, List.any_cons, any_split p q l]
    cases p a <;> cases q a <;> simp
/-- one more is chosen -/
theorem left_more {k s w : Nat} (hw : in_ s w = false) : left n t k (s + 2 ^ w) = (left n t k s).filter fun v => !(Kv404.first n t k v).contains w := by
  unfold left
  rw [List.filter_filter]
  refine List.filter_congr fun v _ => ?_
  have e : (Kv404.first n t k v).any (in_ (s + 2 ^ w)) = ((Kv404.first n t k v).any (in_ s) || (Kv404.first n t k v).contains w) := by
    have e1 : in_ (s + 2 ^ w) = fun x => in_ s x || x == w := funext fun x => in_add hw
    rw [e1, any_split]
    congr 1
    rw [List.contains_eq_any_beq]
    congr 1
    funext x
    exact Bool.beq_comm
  rw [e]
  cases (Kv404.first n t k v).any (in_ s) <;> cases (Kv404.first n t k v).contains w <;> rfl
theorem greedy_end {k s : Nat} (h : left n t k s = []) : ∀ f, Kv404.greedy n t k f s = s
  | 0 => rfl
  | f + 1 => by
    show (if (left n t k s).isEmpty = true then s else _) = s
    rw [h]; rfl
/-- what one turn chooses -/
theorem cnt_max (T : Tb n t D) {k s w : Nat} (hk : 1 ≤ k) (h : left n t k s ≠ []) (hw : FirstMax n (cnt n t k s) w) : in_ s w = false ∧ (left n t k (s + 2 ^ w)).length < (left n t k s).length ∧
    ∀ f, Kv404.greedy n t k (f + 1) s = Kv404.greedy n t k f (s + 2 ^ w) := by
  obtain ⟨v, hv⟩ := List.exists_mem_of_ne_nil _ h
  have hvn : v < n := List.mem_range.mp (List.mem_filter.mp hv).1
  have h1 : 1 ≤ cnt n t k s v := by
    unfold cnt
    refine List.length_pos_of_mem (a := v) (List.mem_filter.mpr ⟨hv, ?_⟩)
    exact List.contains_iff_mem.mpr (first_self T hk hvn)
  have h2 := hw.2.1 v hvn
  have hex : ∃ x, x ∈ (left n t k s).filter fun v => (Kv404.first n t k v).contains w := by
    cases e : (left n t k s).filter fun v => (Kv404.first n t k v).contains w with
    | nil =>
      have : cnt n t k s w = 0 := by unfold cnt; rw [e]; rfl
      omega
    | cons a l => exact ⟨a, List.mem_cons_self⟩
  obtain ⟨x, hx⟩ := hex
  obtain ⟨hxl, hxw⟩ := List.mem_filter.mp hx
  have hin : in_ s w = false := by
    have := (List.mem_filter.mp hxl).2
    rw [Bool.not_eq_true', List.any_eq_false] at this
    have := this w (List.contains_iff_mem.mp hxw)
    simpa using this
  refine ⟨hin, ?_, fun f => ?_⟩
  · rw [left_more hin]
    exact List.length_filter_lt_length_iff_exists.mpr ⟨x, hxl, by rw [hxw]; simp⟩
  · show (if (left n t k s).isEmpty = true then s else match (List.range n).find? fun x => cnt n t k s x == ((List.range n).map (cnt n t k s)).foldl max 0 with
      | none => s
      | some w => Kv404.greedy n t k f (s + 2 ^ w)) = _
    rw [if_neg (by rw [List.isEmpty_iff]; exact h), find_max hw]
end

/-! ### lines in order -/
theorem before_iff {l m : Line} : before l m = true ↔ l.w < m.w ∨ (l.w = m.w ∧ (l.a < m.a ∨ (l.a = m.a ∧ l.b < m.b))) := by
  unfold before
  simp only [Bool.or_eq_true, Bool.and_eq_true, decide_eq_true_eq, beq_iff_eq]
theorem put_perm (l : Line) : ∀ s, (put l s).Perm (l :: s)
  | [] => List.Perm.refl _
  | m :: r => by
    show (if before l m = true then l :: m :: r else m :: put l r).Perm (l :: m :: r)
    split
    · exact List.Perm.refl _
    · exact ((put_perm l r).cons m).trans (List.Perm.swap l m r)
theorem put_sorted (l : Line) : ∀ s, (∀ m ∈ s, ¬ (m.a = l.a ∧ m.b = l.b)) → s.Pairwise (fun x y => before x y = true) → (put l s).Pairwise (fun x y => before x y = true)
  | [], _, _ => List.pairwise_singleton _ _
  | m :: r, hn, h => by
    have hp := List.pairwise_cons.mp h
    show (if before l m = true then l :: m :: r else m :: put l r).Pairwise _
    split
    · rename_i hb
      refine List.pairwise_cons.mpr ⟨fun y hy => ?_, h⟩
      rcases List.mem_cons.mp hy with rfl | hy
      · exact hb
      · have := hp.1 y hy
        rw [before_iff] at this hb ⊢
        omega
    · rename_i hb
      refine List.pairwise_cons.mpr ⟨fun y hy => ?_, put_sorted l r (fun x hx => hn x (List.mem_cons_of_mem _ hx)) hp.2⟩
      rcases List.mem_cons.mp ((put_perm l r).mem_iff.mp hy) with rfl | hy
      · have := hn m List.mem_cons_self
        rw [before_iff] at hb ⊢
        omega
      · exact hp.1 y hy
/-- in order, and these: it is it -/
theorem put_is {l : Line} {s r : List Line} (hn : ∀ m ∈ s, ¬ (m.a = l.a ∧ m.b = l.b)) (h : s.Pairwise (fun x y => before x y = true)) (hr : r.Pairwise (fun x y => before x y = true)) (hp : r.Perm (s ++ [l])) : r = put l s := by
  refine List.Perm.eq_of_pairwise (le := fun x y => before x y = true) (fun a b _ _ h1 h2 => ?_) hr (put_sorted l s hn h) (hp.trans (List.perm_append_comm.trans (put_perm l s).symm))
  rw [before_iff] at h1 h2
  omega

/-- the lines as the object keeps them: in order, too -/
structure LinesIn (n : Nat) (s : List Line) : Prop extends LinesOk n s where
  ord : s.Pairwise fun x y => before x y = true
  len : s.length ≤ 14
theorem LinesIn.nil (n : Nat) : LinesIn n [] := ⟨⟨by simp, by simp, by simp, by simp, .nil⟩, .nil, by simp⟩
theorem LinesIn.sub {n : Nat} {s r : List Line} (h : LinesIn n s) (k : r.Sublist s) : LinesIn n r :=
  ⟨⟨fun l hl => h.ab l (k.subset hl), fun l hl => h.bn l (k.subset hl), fun l hl => h.w1 l (k.subset hl), fun l hl => h.w99 l (k.subset hl), h.once.sublist k⟩, h.ord.sublist k, Nat.le_trans k.length_le h.len⟩
theorem others_not {n x y : Nat} {s : List Line} (h : LinesIn n s) {m : Line} (hm : m ∈ s.filter fun m => !ends m x y) : ¬ (m.a = min x y ∧ m.b = max x y) := by
  obtain ⟨h1, h2⟩ := List.mem_filter.mp hm
  rw [Bool.not_eq_true'] at h2
  have := h.ab m h1
  intro q
  have : ends m x y = true := by
    simp only [ends, Bool.or_eq_true, Bool.and_eq_true, beq_iff_eq]
    omega
  rw [this] at h2
  cases h2
theorem LinesIn.put {n x y w : Nat} {s : List Line} (h : LinesIn n s) (hx : x < n) (hy : y < n) (hxy : x ≠ y) (hw : 1 ≤ w) (hw2 : w ≤ 99) (hl : (s.filter fun m => !ends m x y).length < 14) :
    LinesIn n (put ⟨min x y, max x y, w⟩ (s.filter fun m => !ends m x y)) := by
  have h0 : LinesIn n (s.filter fun m => !ends m x y) := h.sub List.filter_sublist
  have pm := put_perm ⟨min x y, max x y, w⟩ (s.filter fun m => !ends m x y)
  have hn : ∀ m ∈ s.filter (fun m => !ends m x y), ¬ (m.a = min x y ∧ m.b = max x y) := fun m hm => others_not h hm
  refine ⟨⟨fun l hl => ?_, fun l hl => ?_, fun l hl => ?_, fun l hl => ?_, ?_⟩, put_sorted _ _ hn h0.ord, ?_⟩
  · rcases List.mem_cons.mp (pm.mem_iff.mp hl) with rfl | q
    · show min x y < max x y; omega
    · exact h0.ab l q
  · rcases List.mem_cons.mp (pm.mem_iff.mp hl) with rfl | q
    · show max x y < n; omega
    · exact h0.bn l q
  · rcases List.mem_cons.mp (pm.mem_iff.mp hl) with rfl | q
    · exact hw
    · exact h0.w1 l q
  · rcases List.mem_cons.mp (pm.mem_iff.mp hl) with rfl | q
    · exact hw2
    · exact h0.w99 l q
  · refine (pm.pairwise_iff (fun {a b} h q => h ⟨q.1.symm, q.2.symm⟩)).mpr (List.pairwise_cons.mpr ⟨fun m hm q => hn m hm ⟨q.1.symm, q.2.symm⟩, h0.once⟩)
  · rw [pm.length_eq, List.length_cons]; omega
end TT

/-! ## M5 -/
set_option autoImplicit false
namespace TT
open Kv404Neutral (callOf step)
/-! ### the list of calls, one call at a time -/
/-- how many numbers a call has -/
def argc (p : Nat) : Nat := [1, 3, 1, 1, 1, 1, 0, 0, 0, 1, 1, 2, 2, 1, 0, 1, 2, 0, 0, 0, 0].getD p 0
theorem shape_nat (p : Nat) (h : p ≤ 20) : PyKv404.shape (p : Int) = some (argc p, 0) := by
  have : p = 0 ∨ p = 1 ∨ p = 2 ∨ p = 3 ∨ p = 4 ∨ p = 5 ∨ p = 6 ∨ p = 7 ∨ p = 8 ∨ p = 9 ∨ p = 10 ∨ p = 11 ∨ p = 12 ∨ p = 13 ∨ p = 14 ∨ p = 15 ∨ p = 16 ∨ p = 17 ∨ p = 18 ∨ p = 19 ∨ p = 20 := by omega
  rcases this with h | h | h | h | h | h | h | h | h | h | h | h | h | h | h | h | h | h | h | h | h <;> subst h <;> decide
theorem shape_some {z : Int} {q : Nat × Nat} (h : PyKv404.shape z = some q) : ∃ p : Nat, p ≤ 20 ∧ z = (p : Int) := by
  refine Classical.byContradiction fun hn => ?_
  have hne : ∀ p : Nat, p ≤ 20 → z ≠ (p : Int) := fun p hp e => hn ⟨p, hp, e⟩
  have e0 := hne 0 (by omega); have e1 := hne 1 (by omega); have e2 := hne 2 (by omega); have e3 := hne 3 (by omega); have e4 := hne 4 (by omega)
  have e5 := hne 5 (by omega); have e6 := hne 6 (by omega); have e7 := hne 7 (by omega); have e8 := hne 8 (by omega); have e9 := hne 9 (by omega)
  have e10 := hne 10 (by omega); have e11 := hne 11 (by omega); have e12 := hne 12 (by omega); have e13 := hne 13 (by omega); have e14 := hne 14 (by omega)
  have e15 := hne 15 (by omega); have e16 := hne 16 (by omega); have e17 := hne 17 (by omega); have e18 := hne 18 (by omega); have e19 := hne 19 (by omega); have e20 := hne 20 (by omega)
  unfold PyKv404.shape at h
  rw [if_neg (by omega), if_neg (by omega), if_neg (by omega), if_neg (by omega), if_neg (by omega), if_neg (by omega), if_neg (by omega), if_neg (by omega), if_neg (by omega), if_neg (by omega), if_neg (by omega), if_neg (by omega), if_neg (by omega), if_neg (by omega), if_neg (by omega), if_neg (by omega), if_neg (by omega), if_neg (by omega), if_neg (by omega), if_neg (by omega), if_neg (by omega)] at h
  cases h
/-- numbers from 0 on, as whole numbers -/
abbrev up (l : List Nat) : List Int := l.map fun (n : Nat) => (n : Int)
theorem up_of {l : List Int} (h : ∀ x ∈ l, 0 ≤ x) : ∃ m : List Nat, l = up m := ⟨l.map Int.toNat, by
  show l = (l.map Int.toNat).map _
  rw [List.map_map]
  have : l.map ((fun (n : Nat) => (n : Int)) ∘ Int.toNat) = l.map id := List.map_congr_left fun x hx => by
    show ((x.toNat : Nat) : Int) = x
    have := h x hx
    omega
  rw [this, List.map_id]⟩
/-- the calls from a place on, and the answers to them from a state -/
def rest (s : Kv404.State) (cs : List (List (List Int))) : List Int := PyFlat.told (PyFlat.played step s (cs.map PyKv404.whole))
theorem rest_nil (s : Kv404.State) : rest s [] = [] := rfl
theorem rest_cons (s : Kv404.State) (c : List (List Int)) (cs : List (List (List Int))) : rest s (c :: cs) = ((step s (PyKv404.whole c)).2.length : Int) :: ((step s (PyKv404.whole c)).2 ++ rest (step s (PyKv404.whole c)).1 cs) := by
  unfold rest
  rw [List.map_cons]
  show PyFlat.told ((step s (PyKv404.whole c)).2 :: PyFlat.played step (step s (PyKv404.whole c)).1 (cs.map PyKv404.whole)) = _
  unfold PyFlat.told
  rw [List.flatMap_cons]
  rfl
/-- whole leaves a call of the shape as it is -/
theorem whole_id (p : Nat) (args : List Nat) (hp : p ≤ 20) (hl : args.length = argc p) : PyKv404.whole [(p : Int) :: up args] = [(p : Int) :: up args] := by
  have : p = 0 ∨ p = 1 ∨ p = 2 ∨ p = 3 ∨ p = 4 ∨ p = 5 ∨ p = 6 ∨ p = 7 ∨ p = 8 ∨ p = 9 ∨ p = 10 ∨ p = 11 ∨ p = 12 ∨ p = 13 ∨ p = 14 ∨ p = 15 ∨ p = 16 ∨ p = 17 ∨ p = 18 ∨ p = 19 ∨ p = 20 := by omega
  match args, hl with
  | [], hl => rcases this with h | h | h | h | h | h | h | h | h | h | h | h | h | h | h | h | h | h | h | h | h <;> subst h <;> first | rfl | (simp [argc] at hl)
  | [a], hl => rcases this with h | h | h | h | h | h | h | h | h | h | h | h | h | h | h | h | h | h | h | h | h <;> subst h <;> first | rfl | (simp [argc] at hl)
  | [a, b], hl => rcases this with h | h | h | h | h | h | h | h | h | h | h | h | h | h | h | h | h | h | h | h | h <;> subst h <;> first | rfl | (simp [argc] at hl)
  | [a, b, c], hl => rcases this with h | h | h | h | h | h | h | h | h | h | h | h | h | h | h | h | h | h | h | h | h <;> subst h <;> first | rfl | (simp [argc] at hl)
  | a :: b :: c :: d :: r, hl => rcases this with h | h | h | h | h | h | h | h | h | h | h | h | h | h | h | h | h | h | h | h | h <;> subst h <;> (simp [argc] at hl)
/-- one call read off the front -/
theorem calls_cons {fu : Nat} {z : Int} {r : List Int} {raw : List (List (List Int))} (h : PyFlat.calls PyKv404.shape fu (z :: r) = some raw) : ∃ (p fu' : Nat) (raw' : List (List (List Int))), p ≤ 20 ∧ z = (p : Int) ∧ argc p ≤ r.length ∧ raw = [z :: r.take (argc p)] :: raw' ∧ PyFlat.calls PyKv404.shape fu' (r.drop (argc p)) = some raw' := by
  cases fu with
  | zero => cases h
  | succ fu =>
    have h : (match PyFlat.call PyKv404.shape (z :: r) with
      | none => none
      | some (c, t) => match PyFlat.calls PyKv404.shape fu t with
        | none => none
        | some cs => some (c :: cs)) = some raw := h
    have hc : PyFlat.call PyKv404.shape (z :: r) = match PyKv404.shape z with
      | none => none
      | some (n, k) => if r.length < n then none else match PyFlat.rows k (r.drop n) with
        | none => none
        | some (xs, t) => some ((z :: r.take n) :: xs, t) := rfl
    cases hs : PyKv404.shape z with
    | none => rw [hc, hs] at h; cases h
    | some q =>
      obtain ⟨p, hp, rfl⟩ := shape_some hs
      have hs2 := shape_nat p hp
      rw [hs2] at hc
      by_cases hlt : r.length < argc p
      · have hc' : PyFlat.call PyKv404.shape ((p : Int) :: r) = none := by rw [hc]; exact if_pos hlt
        rw [hc'] at h
        cases h
      · have hc' : PyFlat.call PyKv404.shape ((p : Int) :: r) = some ([(p : Int) :: r.take (argc p)], r.drop (argc p)) := by rw [hc]; exact if_neg hlt
        rw [hc'] at h
        cases hr : PyFlat.calls PyKv404.shape fu (r.drop (argc p)) with
        | none =>
          have h : (match PyFlat.calls PyKv404.shape fu (r.drop (argc p)) with | none => none | some cs => some ([(p : Int) :: r.take (argc p)] :: cs)) = some raw := h
          rw [hr] at h; cases h
        | some cs =>
          have h : (match PyFlat.calls PyKv404.shape fu (r.drop (argc p)) with | none => none | some cs => some ([(p : Int) :: r.take (argc p)] :: cs)) = some raw := h
          rw [hr] at h
          cases h
          exact ⟨p, fu, cs, hp, rfl, by omega, rfl, hr⟩
theorem calls_nil {fu : Nat} {raw : List (List (List Int))} (h : PyFlat.calls PyKv404.shape fu [] = some raw) : raw = [] := by
  cases fu <;> (cases h; rfl)
/-- what may be handed in -/
theorem asked_raw {l : List Int} (h : PyKv404.answers_asked l = true) : ∃ raw, PyFlat.calls PyKv404.shape l.length l = some raw ∧ raw.length ≤ 256 ∧ PyInside.calls PyKv404.bound raw = true ∧ PyKv404.answers l = rest none raw ∧ (PyKv404.answers l).length ≤ 10000000 := by
  unfold PyKv404.answers_asked at h
  cases hc : PyFlat.calls PyKv404.shape l.length l with
  | none => rw [hc] at h; cases h
  | some raw =>
    rw [hc] at h
    simp only [Bool.and_eq_true] at h
    obtain ⟨⟨⟨⟨h1, h2⟩, h3⟩, h4⟩, h5⟩ := h
    refine ⟨raw, rfl, of_decide_eq_true h2, h3, ?_, of_decide_eq_true h5⟩
    unfold PyKv404.answers PyKv404.calls
    rw [hc]
    rfl
theorem bound_args (p : Nat) (hp : p ≤ 20) (xs : List Int) (hl : xs.length = argc p) (h : PyInside.call PyKv404.bound [(p : Int) :: xs] = true) : ∀ x ∈ xs, 0 ≤ x ∧ x ≤ 4294967295 := by
  have : p = 0 ∨ p = 1 ∨ p = 2 ∨ p = 3 ∨ p = 4 ∨ p = 5 ∨ p = 6 ∨ p = 7 ∨ p = 8 ∨ p = 9 ∨ p = 10 ∨ p = 11 ∨ p = 12 ∨ p = 13 ∨ p = 14 ∨ p = 15 ∨ p = 16 ∨ p = 17 ∨ p = 18 ∨ p = 19 ∨ p = 20 := by omega
  intro x hx
  have h2 : PyInside.each (PyKv404.bound (p : Int)).1 xs = true := by
    have : (PyInside.each (PyKv404.bound (p : Int)).1 xs && PyInside.lists (PyKv404.bound (p : Int)).2 []) = true := h
    exact (Bool.and_eq_true_iff.mp this).1
  match xs, hl with
  | [], _ => cases hx
  | [a], hl =>
    have hb : (PyKv404.bound (p : Int)).1 = [(0, 4294967295)] := by
      rcases this with h | h | h | h | h | h | h | h | h | h | h | h | h | h | h | h | h | h | h | h | h <;> subst h <;> first | rfl | (simp [argc] at hl)
    rw [hb] at h2
    have h3 : (PyInside.within 0 4294967295 a && true) = true := h2
    simp only [PyInside.within, Bool.and_true, Bool.and_eq_true, decide_eq_true_eq] at h3
    rw [List.mem_singleton.mp hx]
    exact h3
  | [a, b], hl =>
    have hb : (PyKv404.bound (p : Int)).1 = [(0, 4294967295), (0, 4294967295)] := by
      rcases this with h | h | h | h | h | h | h | h | h | h | h | h | h | h | h | h | h | h | h | h | h <;> subst h <;> first | rfl | (simp [argc] at hl)
    rw [hb] at h2
    have h3 : (PyInside.within 0 4294967295 a && (PyInside.within 0 4294967295 b && true)) = true := h2
    simp only [PyInside.within, Bool.and_true, Bool.and_eq_true, decide_eq_true_eq] at h3
    rcases List.mem_cons.mp hx with rfl | hx
    · exact h3.1
    · rw [List.mem_singleton.mp hx]; exact h3.2
  | [a, b, c], hl =>
    have hb : (PyKv404.bound (p : Int)).1 = [(0, 4294967295), (0, 4294967295), (0, 4294967295)] := by
      rcases this with h | h | h | h | h | h | h | h | h | h | h | h | h | h | h | h | h | h | h | h | h <;> subst h <;> first | rfl | (simp [argc] at hl)
    rw [hb] at h2
    have h3 : (PyInside.within 0 4294967295 a && (PyInside.within 0 4294967295 b && (PyInside.within 0 4294967295 c && true))) = true := h2
    simp only [PyInside.within, Bool.and_true, Bool.and_eq_true, decide_eq_true_eq] at h3
    rcases List.mem_cons.mp hx with rfl | hx
    · exact h3.1
    · rcases List.mem_cons.mp hx with rfl | hx
      · exact h3.2.1
      · rw [List.mem_singleton.mp hx]; exact h3.2.2
  | a :: b :: c :: d :: r, hl => rcases this with h | h | h | h | h | h | h | h | h | h | h | h | h | h | h | h | h | h | h | h | h <;> subst h <;> (simp [argc] at hl)
/-- a turn of the program's loop: the front call, its numbers, what is answered, what is left -/
theorem turn_of {fu : Nat} {l : List Int} {i : Nat} {raw : List (List (List Int))} (s : Kv404.State) (h : PyFlat.calls PyKv404.shape fu (l.drop i) = some raw) (hb : PyInside.calls PyKv404.bound raw = true) (hi : i < l.length) :
    ∃ (p fu' : Nat) (args : List Nat) (raw' : List (List (List Int))), p ≤ 20 ∧ args.length = argc p ∧ (∀ x ∈ args, x ≤ 4294967295) ∧ l[i]? = some (p : Int) ∧ i + 1 + argc p ≤ l.length ∧ (l.drop (i + 1)).take (argc p) = up args ∧ raw.length = raw'.length + 1 ∧
      PyFlat.calls PyKv404.shape fu' (l.drop (i + 1 + argc p)) = some raw' ∧ PyInside.calls PyKv404.bound raw' = true ∧
      rest s raw = ((step s [(p : Int) :: up args]).2.length : Int) :: ((step s [(p : Int) :: up args]).2 ++ rest (step s [(p : Int) :: up args]).1 raw') := by
  have e : l.drop i = l[i] :: l.drop (i + 1) := List.drop_eq_getElem_cons hi
  rw [e] at h
  obtain ⟨p, fu', raw', hp, hz, hle, rfl, hr⟩ := calls_cons h
  rw [List.length_drop] at hle
  have hl : ((l.drop (i + 1)).take (argc p)).length = argc p := by rw [List.length_take, List.length_drop]; omega
  have hb2 : (PyInside.call PyKv404.bound [l[i] :: (l.drop (i + 1)).take (argc p)] && PyInside.calls PyKv404.bound raw') = true := hb
  obtain ⟨hb3, hb4⟩ := Bool.and_eq_true_iff.mp hb2
  rw [hz] at hb3
  have hbd := bound_args p hp _ hl hb3
  obtain ⟨args, hargs⟩ := up_of (fun x hx => (hbd x hx).1)
  have hal : args.length = argc p := by rw [← hl, hargs, List.length_map]
  refine ⟨p, fu', args, raw', hp, hal, fun x hx => ?_, ?_, by omega, hargs, by rw [List.length_cons], ?_, hb4, ?_⟩
  · have := (hbd (x : Int) (by rw [hargs]; exact List.mem_map.mpr ⟨x, hx, rfl⟩)).2
    omega
  · rw [List.getElem?_eq_getElem hi, hz]
  · rw [List.drop_drop] at hr
    exact hr
  · rw [rest_cons, hz, hargs, whole_id p args hp hal]
end TT

/-! ## M6 -/
set_option autoImplicit false
namespace TT
open Kv402 (Line Table at_ less plus ends)
open Kv404 (in_ list_)
/-! ### what's told -/
section
variable {n : Nat} {t : Table} {D : Nat → Nat → Nat}
/-- where a way leads on -/
def Trans (n : Nat) (D : Nat → Nat → Nat) : Prop := ∀ u x v, u < n → x < n → v < n → D u x < 1000 → D x v < 1000 → D u v < 1000 ∧ D u v ≤ D u x + D x v
theorem dd_trans {s : List Line} (hn : n ≤ 8) (ok : LinesOk n s) : Trans n (dd n s) := fun u x v hu hx hv h1 h2 => by
  have T := Tb.of hn ok
  have e1 : stepF s n u x = some (dd n s u x) := by
    have := dd_some hn ok hu hx
    rw [table_eq, at_tabN hu hx, if_pos h1] at this
    exact this
  have e2 : stepF s n x v = some (dd n s x v) := by
    have := dd_some hn ok hx hv
    rw [table_eq, at_tabN hx hv, if_pos h2] at this
    exact this
  have e3 : stepF s n u v = if dd n s u v < 1000 then some (dd n s u v) else none := by
    have := dd_some hn ok hu hv
    rw [table_eq, at_tabN hu hv] at this
    exact this
  obtain ⟨c, hc, hle⟩ := tri s n x hx u v (dd n s u x + dd n s x v) (by rw [e1, e2]; rfl)
  rw [e3] at hc
  split at hc
  · rename_i h
    cases hc
    exact ⟨h, hle⟩
  · cases hc
/-- v is near u, or u near v -/
def isNear (n : Nat) (D : Nat → Nat → Nat) (s u v : Nat) : Prop := D u v < limit D u (list_ n s) ∨ D u v < limit D v (list_ n s)
theorem limit_le (D : Nat → Nat → Nat) (v : Nat) (l : List Nat) : limit D v l ≤ 1000 := (fold_min_le D v l 1000).1
theorem told_near (T : Tb n t D) {s u v : Nat} (hu : u < n) (hv : v < n) (h : isNear n D s u v) : Kv404.told n t s u v = some (D u v) := by
  have hd : D u v < 1000 := by
    rcases h with h | h
    · exact Nat.lt_of_lt_of_le h (limit_le _ _ _)
    · exact Nat.lt_of_lt_of_le h (limit_le _ _ _)
  unfold Kv404.told
  rw [near_eq T hu, near_eq T hv]
  by_cases h1 : v ∈ nearL n D s u
  · rw [if_pos (List.contains_iff_mem.mpr h1), T.at_eq hu hv, if_pos hd]
  · rw [if_neg (fun z => h1 (List.contains_iff_mem.mp z))]
    have h2 : u ∈ nearL n D s v := by
      refine mem_nearL.mpr ⟨hu, ?_⟩
      rcases h with h | h
      · exact absurd (mem_nearL.mpr ⟨hv, h⟩) h1
      · rw [T.comm]; exact h
    rw [if_pos (List.contains_iff_mem.mpr h2), T.at_eq hv hu, T.comm v u, if_pos hd]
/-- what's told by way of the nearest chosen ones -/
def toldBy (n : Nat) (t : Table) (s u v : Nat) : Option Nat := less (match Kv404.nearest n t s u with
    | none => none
    | some q => plus (some q.2) (at_ t q.1 v)) (match Kv404.nearest n t s v with
    | none => none
    | some q => plus (some q.2) (at_ t q.1 u))
theorem told_else (T : Tb n t D) {s u v : Nat} (hu : u < n) (hv : v < n) (h : ¬ isNear n D s u v) : Kv404.told n t s u v = toldBy n t s u v := by
  unfold Kv404.told
  rw [near_eq T hu, near_eq T hv]
  have h1 : ¬ v ∈ nearL n D s u := fun z => h (Or.inl (mem_nearL.mp z).2)
  have h2 : ¬ u ∈ nearL n D s v := fun z => h (Or.inr (by have := (mem_nearL.mp z).2; rw [T.comm] at this; exact this))
  rw [if_neg (fun z => h1 (List.contains_iff_mem.mp z)), if_neg (fun z => h2 (List.contains_iff_mem.mp z))]
  rfl
theorem nearest_lt {s v c : Nat} (h : IsNearest D v (reached D v (list_ n s)) c) : c < n ∧ D v c < 1000 := by
  obtain ⟨h1, h2⟩ := List.mem_filter.mp h.1
  exact ⟨(mem_list h1).1, of_decide_eq_true h2⟩
theorem side_none (T : Tb n t D) (tr : Trans n D) {s u v : Nat} (hu : u < n) (hv : v < n) (h : D u v = 1000) : (match Kv404.nearest n t s u with
    | none => none
    | some q => plus (some q.2) (at_ t q.1 v)) = none := by
  have i := nearest_inv T (s := s) hu
  cases e : Kv404.nearest n t s u with
  | none => rfl
  | some q =>
    rw [e] at i
    obtain ⟨h1, h2⟩ := nearest_lt i.1
    show plus (some q.2) (at_ t q.1 v) = none
    have hn : ¬ D q.1 v < 1000 := fun z => by
      have := (tr u q.1 v hu h1 hv h2 z).1
      omega
    rw [T.at_eq h1 hv, if_neg hn]
    rfl
theorem told_none (T : Tb n t D) (tr : Trans n D) {s u v : Nat} (hu : u < n) (hv : v < n) (h : D u v = 1000) : Kv404.told n t s u v = none := by
  rw [told_else T hu hv]
  · unfold toldBy
    rw [side_none T tr hu hv h, side_none T tr hv hu (by rw [T.comm]; exact h)]
    rfl
  · intro z
    have a := limit_le D u (list_ n s)
    have b := limit_le D v (list_ n s)
    rcases z with z | z <;> omega
theorem side_some (T : Tb n t D) (tr : Trans n D) {s u v c : Nat} (hu : u < n) (hv : v < n) (h : D u v < 1000) (hc : IsNearest D u (reached D u (list_ n s)) c) : (match Kv404.nearest n t s u with
    | none => none
    | some q => plus (some q.2) (at_ t q.1 v)) = some (D u c + D c v) ∧ D c v < 1000 := by
  rw [nearest_some T hu hc]
  obtain ⟨h1, h2⟩ := nearest_lt hc
  have h3 := (tr c u v h1 hu hv (by rw [T.comm]; exact h2) h).1
  refine ⟨?_, h3⟩
  show plus (some (D u c)) (at_ t c v) = _
  rw [T.at_eq h1 hv, if_pos h3]
  rfl
/-- a place that isn't nearer than the nearest chosen one, and that a way leads to: so there is one -/
theorem nearest_ex (T : Tb n t D) {s u v : Nat} (hu : u < n) (h : D u v < 1000) (hn : ¬ D u v < limit D u (list_ n s)) : ∃ c, IsNearest D u (reached D u (list_ n s)) c := by
  have i := nearest_inv T (s := s) hu
  cases e : Kv404.nearest n t s u with
  | none =>
    rw [e] at i
    have := limit_none (D := D) (v := u) (l := list_ n s) i T.le
    omega
  | some q => rw [e] at i; exact ⟨q.1, i.1⟩
theorem told_far (T : Tb n t D) (tr : Trans n D) {s u v c c' : Nat} (hu : u < n) (hv : v < n) (h : D u v < 1000) (hn : ¬ isNear n D s u v) (hc : IsNearest D u (reached D u (list_ n s)) c) (hc' : IsNearest D v (reached D v (list_ n s)) c') :
    Kv404.told n t s u v = some (min (D u c + D c v) (D v c' + D c' u)) := by
  rw [told_else T hu hv hn]
  unfold toldBy
  rw [(side_some T tr hu hv h hc).1, (side_some T tr hv hu (by rw [T.comm]; exact h) hc').1]
  rfl
/-! ### the pairs, one behind another -/
theorem pairs_eq (n : Nat) : Kv402.pairs n = (List.range n).flatMap fun u => (List.range' (u + 1) (n - (u + 1))).map fun v => (u, v) := by
  unfold Kv402.pairs
  have key : ∀ u, (List.range n).filter (fun v => decide (u < v)) = List.range' (u + 1) (n - (u + 1)) := fun u => by
    induction n with
    | zero => simp
    | succ n ih =>
      rw [List.range_succ, List.filter_append, ih]
      by_cases hu : u < n
      · rw [List.filter_cons_of_pos (by simpa using hu)]
        have e : n + 1 - (u + 1) = (n - (u + 1)) + 1 := by omega
        rw [e, List.range'_concat]
        have e2 : u + 1 + 1 * (n - (u + 1)) = n := by omega
        rw [e2]
        rfl
      · rw [List.filter_cons_of_neg (by simpa using hu)]
        have e : n + 1 - (u + 1) = 0 := by omega
        have e2 : n - (u + 1) = 0 := by omega
        rw [e, e2]
        rfl
  have e : (fun u => ((List.range n).filter fun v => decide (u < v)).map fun v => (u, v)) = fun u => (List.range' (u + 1) (n - (u + 1))).map fun v => (u, v) := by
    funext u
    rw [key u]
  exact congrArg (fun f => (List.range n).flatMap f) e
/-- one pair held against the worst so far -/
def worse (n : Nat) (t : Table) (s : Nat) (b : Option (Nat × Nat × Nat × Nat)) (q : Nat × Nat) : Option (Nat × Nat × Nat × Nat) := match Kv404.told n t s q.1 q.2, at_ t q.1 q.2 with
  | some i, some j => (match b with
    | none => some (q.1, q.2, i, j)
    | some z => if z.2.2.1 * j < i * z.2.2.2 then some (q.1, q.2, i, j) else b)
  | _, _ => b
theorem worst_fold (n : Nat) (t : Table) (s : Nat) : Kv404.worst n t s = (Kv402.pairs n).foldl (worse n t s) none := rfl
/-- the worst of the pairs whose lesser place is below u, and of (u, u + 1) .. (u, v - 1) -/
def worstTo (n : Nat) (t : Table) (s u v : Nat) : Option (Nat × Nat × Nat × Nat) := ((List.range' (u + 1) (v - (u + 1))).map fun v => (u, v)).foldl (worse n t s) (((List.range u).flatMap fun u => (List.range' (u + 1) (n - (u + 1))).map fun v => (u, v)).foldl (worse n t s) none)
theorem worstTo_start (n : Nat) (t : Table) (s : Nat) : worstTo n t s 0 1 = none := rfl
theorem worstTo_turn (n : Nat) (t : Table) (s : Nat) {u v : Nat} (h : u < v) : worstTo n t s u (v + 1) = worse n t s (worstTo n t s u v) (u, v) := by
  unfold worstTo
  have e : v + 1 - (u + 1) = (v - (u + 1)) + 1 := by omega
  have e2 : u + 1 + 1 * (v - (u + 1)) = v := by omega
  rw [e, List.range'_concat, e2, List.map_append, List.foldl_append]
  rfl
theorem worstTo_next (n : Nat) (t : Table) (s u : Nat) : worstTo n t s (u + 1) (u + 2) = worstTo n t s u n := by
  unfold worstTo
  have e : u + 2 - (u + 1 + 1) = 0 := by omega
  rw [e, List.range_succ, List.flatMap_append, List.foldl_append]
  simp only [List.range'_zero, List.map_nil, List.foldl_nil, List.flatMap_cons, List.flatMap_nil, List.append_nil]
theorem worstTo_end (n : Nat) (t : Table) (s : Nat) : worstTo n t s n (n + 1) = Kv404.worst n t s := by
  rw [worst_fold, pairs_eq]
  unfold worstTo
  have e : n + 1 - (n + 1) = 0 := by omega
  rw [e]
  rfl
end
end TT

/-! ## L1 -/
set_option Elab.async false
set_option linter.all false
set_option maxRecDepth 100000
set_option maxHeartbeats 2000000
/-! A lambda of one parameter that reads one captured list: (r[x], x). Its call, exactly. -/
namespace KeyL
open PySem PySem.Spec PyProof.Rows L2 LamX
/-- the lambda's names -/
structure KScope (x r : Str) (sc : Scope) : Prop where
  kind : sc.kind = .function
  co : sc.isCoroutine = false
  gen : sc.isGenerator = false
  nocell : ∀ y ∈ sc.names, y.2 ≠ .cell
  px : sc.names.lookup x = some .local
  pr : sc.names.lookup r = some .free
  dx : (x == ("__debug__" : Str)) = false
  dr : (r == ("__debug__" : Str)) = false
  cr : (r == ("__classdict__" : Str)) = false
abbrev kBody (x r : Str) (p1 p2 p3 p4 p5 : Pos) : Expr := .Tuple [.Subscript (.Name r p1) (.Name x p2) p3, .Name x p4] 0 p5
section
variable {prog : Program} {w : World} {A : Around} {E : Value → Shared → Prop} {s : Shared}
theorem key_call {x r : Str} {sc : Scope} {params : Arguments} {p1 p2 p3 p4 p5 : Pos} {q : Str} {cl : List (Str × Addr)} {pm ctv u : Value} {f c' cc l : Addr} {its : Array Value} {n : Nat} {t : Tok} {Q : Value → Shared → Prop} (S : KScope x r sc)
    (hroom : A.depth < recursionLimit) (hf : s.heap.get? f = some (PySem.W.kla_obj "<lambda>" q params (kBody x r p1 p2 p3 p4 p5) sc cl pm c' ctv)) (hcd : s.heap.CodeRec (.ref c') q)
    (hb : bindArgs (PySem.W.kla_fn "<lambda>" q params (kBody x r p1 p2 p3 p4 p5) sc cl pm (.ref c') ctv) ⟨[.int n t], []⟩ = pure [(x, .int n t)])
    (hc : cl.lookup r = some cc) (hcell : s.heap.IsCell cc (some (.ref l))) (hl : s.heap.IsList l its) (hu : its[n]? = some u) (hn : n < 1000000) (lim : s.heap.NoLimit)
    (h : ∀ (h' : Heap) (tk p : Nat), s.toks ≤ tk → (∀ b o, s.heap.get? b = some o → h'.get? b = some o) → s.heap.objs.size ≤ p → h'.get? p = some { cls := .type "tuple", data := .seq #[u, .int n t] } → Q (.ref p) { s with heap := h', toks := tk }) :
    wpAny (model prog w) A (call (.ref f) [.int n t]) Q E s := by
  refine wpAny_call ?_
  refine PySem.W.kla_callFunE hroom hf rfl S.co S.gen rfl hcd ?_
  rw [hb]
  refine wpAny_pure (wpAny_newFunctionEnv S.nocell (fun y hy => ?_) (fun h₁ hns hsb => ?_) S.kind)
  · rw [List.mem_singleton.mp hy]; exact S.px
  · have kp : ∀ b o, s.heap.get? b = some o → h₁.get? b = some o := fun b o e => (hsb.2 b (Nat.ne_of_lt (Heap.lt_size e))).trans (Heap.get?_push_of_some _ e)
    refine ⟨lim.keeps kp, PySem.W.kla_codeExpr ?_⟩
    have hm : (fun y => List.lookup y [(x, Value.int n t)].reverse) x = some (.int n t) := by
      show List.lookup x [(x, Value.int n t)] = _
      simp [List.lookup]
    refine wpAny_Tuple_spliced ?_
    refine PySem.Calls.spliced_cons ?_
    refine PyProof.Rows.Subscript_ ?_
    refine wpAny_Name (wpAny_loadName_free S.kind S.pr hc (let ⟨o, e1, e2⟩ := hcell; ⟨o, kp _ _ e1, e2⟩) ?_ S.cr) S.dr
    refine wpAny_Name (wpAny_loadName_local S.kind S.px hns hm ?_) S.dx
    have hl1 : h₁.IsList l its := let ⟨o, e1, e2⟩ := hl; ⟨o, kp _ _ e1, e2⟩
    refine item_listR hl1 (by omega) (by omega) (by rw [Int.toNat_natCast]; exact hu) ?_ rfl
    refine PySem.Calls.spliced_cons ?_
    refine wpAny_Name (wpAny_loadName_local S.kind S.px hns hm ?_) S.dx
    refine PySem.Calls.spliced_nil ⟨by show 2 ≤ sizeLine; decide, ?_⟩
    refine h _ _ _ (Nat.le_add_right _ _) (fun b o e => Heap.get?_push_of_some _ (kp b o e)) ?_ (Heap.get?_push_size _ rfl)
    have e1 : h₁.objs.size = _ := hsb.1
    show s.heap.objs.size ≤ h₁.objs.size
    rw [e1, Heap.size_push]
    omega
end
/-! ### keys as data -/
def kd (d n : Nat) : PyData := .tuple [.int d, .int n]
theorem kd_alike (a b c d : Nat) : PySem.W.alike (kd a b) (kd c d) = true := by
  unfold kd
  simp [PySem.W.alike, PySem.W.alikeAll]
theorem kd_ne (a b : Nat) : kd a b ≠ .none := fun z => nomatch z
theorem kd_lt (a b c d : Nat) : PySem.W.dataLt (kd a b) (kd c d) = decide (a < c ∨ (a = c ∧ b < d)) := by
  unfold kd
  rw [PySem.W.dataLt_tuple]
  have al : ∀ x y : Int, PySem.W.alike (.int x) (.int y) = true := fun x y => by simp [PySem.W.alike]
  by_cases h : a = c
  · subst h
    rw [PySem.W.dataLt_all_yes (al _ _) (by simp [PyData.eqv])]
    by_cases h2 : b = d
    · subst h2
      rw [PySem.W.dataLt_all_yes (al _ _) (by simp [PyData.eqv])]
      have e : PyProof.Rows.lexLt PyProof.Rows.itemOrd (PySem.W.keyToksAll []) (PySem.W.keyToksAll []) = false := by decide
      rw [e]
      simp
    · rw [PySem.W.dataLt_all_no (al _ _) (by simp [PyData.eqv]; omega), PySem.W.dataLt_int]
      exact decide_eq_decide.mpr (by omega)
  · rw [PySem.W.dataLt_all_no (al _ _) (by simp [PyData.eqv]; omega), PySem.W.dataLt_int]
    exact decide_eq_decide.mpr (by omega)
theorem reads_kd {h : Heap} {p : Addr} {a b : Nat} {t u : Tok} {o : Obj} {n : Nat} (e : h.get? p = some o) (hc : o.cls = .type "tuple") (hd : o.data = .seq #[.int a t, .int b u] n) : Reads h (.ref p) (kd a b) [] :=
  .tuple e hc hd (.cons (.int _ _) (.cons (.int _ _) .nil))
/-- the first of the least -/
theorem argBest_le {bt : Nat → Nat → Bool} {f : Nat → Nat × Nat} (hb : ∀ i j, bt i j = decide ((f i).1 < (f j).1 ∨ ((f i).1 = (f j).1 ∧ (f i).2 < (f j).2))) : ∀ k j, j ≤ k → argBest bt k ≤ k ∧ ((f (argBest bt k)).1 < (f j).1 ∨ ((f (argBest bt k)).1 = (f j).1 ∧ (f (argBest bt k)).2 ≤ (f j).2))
  | 0, j, h => by
    have : j = 0 := by omega
    subst this
    exact ⟨Nat.le_refl _, .inr ⟨rfl, Nat.le_refl _⟩⟩
  | k + 1, j, h => by
    show (if bt (k + 1) (argBest bt k) = true then k + 1 else argBest bt k) ≤ k + 1 ∧ _
    have e : argBest bt (k + 1) = if bt (k + 1) (argBest bt k) = true then k + 1 else argBest bt k := rfl
    rw [e]
    have hk := (argBest_le hb k k (Nat.le_refl k)).1
    by_cases hlt : bt (k + 1) (argBest bt k) = true
    · rw [if_pos hlt]
      rw [hb, decide_eq_true_eq] at hlt
      refine ⟨Nat.le_refl _, ?_⟩
      by_cases hj : j = k + 1
      · subst hj; exact .inr ⟨rfl, Nat.le_refl _⟩
      · have := (argBest_le hb k j (by omega)).2
        omega
    · rw [if_neg hlt]
      rw [hb, decide_eq_true_eq] at hlt
      refine ⟨by omega, ?_⟩
      by_cases hj : j = k + 1
      · subst hj; omega
      · exact (argBest_le hb k j (by omega)).2
/-- the least of ns by ds, then by number -/
def Least (ds ns : List Nat) (c : Nat) : Prop := c ∈ ns ∧ ∀ x ∈ ns, ds.getD c 0 < ds.getD x 0 ∨ (ds.getD c 0 = ds.getD x 0 ∧ c ≤ x)
/-- lists of numbers from 0 on -/
abbrev nV (ns : List Nat) : List V := ns.map fun (n : Nat) => V.int (n : Int)
theorem nV_get {ns : List Nat} {us : List Value} (r : Vals (nV ns) us) {i n : Nat} (h : ns[i]? = some n) : ∃ t, us[i]? = some (.int n t) := by
  have e : (nV ns)[i]? = some (.int (n : Int)) := by rw [List.getElem?_map, h]; rfl
  obtain ⟨u, hu, t, rfl⟩ := r.get e
  exact ⟨t, hu⟩
theorem nV_back {ns : List Nat} {us : List Value} (r : Vals (nV ns) us) {i : Nat} {u : Value} (h : us[i]? = some u) : ∃ n t, ns[i]? = some n ∧ u = .int n t := by
  have hl := r.length
  have hi : i < us.length := (List.getElem?_eq_some_iff.mp h).1
  rw [List.length_map] at hl
  obtain ⟨n, hn⟩ : ∃ n, ns[i]? = some n := ⟨_, List.getElem?_eq_getElem (by omega)⟩
  obtain ⟨t, ht⟩ := nV_get r hn
  rw [h] at ht
  exact ⟨n, t, hn, Option.some.inj ht⟩
section
variable {prog : Program} {w : World} {A : Around} {E : Value → Shared → Prop} {s : Shared}
/-- min(a, key=f, default=d), exactly -/
theorem min_key {x r : Str} {sc : Scope} {params : Arguments} {p1 p2 p3 p4 p5 : Pos} {q : Str} {cl : List (Str × Addr)} {pm ctv d : Value} {f c' cc l a : Addr} {its us : List Value} {ns ds : List Nat} {Q : Value → Shared → Prop} (S : KScope x r sc)
    (hA : A.handled = none) (hun : A.units + 100 < cLine) (hroom : A.depth < recursionLimit) (hf : s.heap.get? f = some (PySem.W.kla_obj "<lambda>" q params (kBody x r p1 p2 p3 p4 p5) sc cl pm c' ctv)) (hcd : s.heap.CodeRec (.ref c') q)
    (hb : ∀ u, bindArgs (PySem.W.kla_fn "<lambda>" q params (kBody x r p1 p2 p3 p4 p5) sc cl pm (.ref c') ctv) ⟨[u], []⟩ = pure [(x, u)])
    (hc : cl.lookup r = some cc) (hcell : s.heap.IsCell cc (some (.ref l))) (hl : s.heap.IsList l its.toArray) (rl : Vals (nV ds) its) (ha : s.heap.IsList a us.toArray) (ra : Vals (nV ns) us) (hin : ∀ n ∈ ns, n < ds.length) (hds : ds.length < 1000000) (lim : s.heap.NoLimit)
    (h0 : ns = [] → ∀ (h' : Heap) (tk : Nat), (∀ b o, s.heap.get? b = some o → h'.get? b = some o) → Q d { s with heap := h', toks := tk })
    (h1 : ∀ (c : Nat) (t : Tok) (h' : Heap) (tk : Nat), Least ds ns c → (∀ b o, s.heap.get? b = some o → h'.get? b = some o) → Q (.int c t) { s with heap := h', toks := tk }) :
    wpAny (model prog w) A (call (.builtin "min") [.ref a] [(Str.ofString "key", .ref f), (Str.ofString "default", d)]) Q E s := by
  refine call_min_walkKD ?_
  refine PySem.W.iter_listW (A := A.in1) hA ha fun s₂ e2 W hst hfp hold hkeep => ?_
  have hsz : us.toArray.size = ns.length := by
    rw [List.size_toArray, ← ra.length, List.length_map]
  rw [hsz] at W
  let fk : Nat → Nat × Nat := fun i => (ds.getD (ns.getD i 0) 0, ns.getD i 0)
  refine ⟨s.heap.objs.size, [s.heap.objs.size, a], [s.heap.objs.size], fun x y => y = x, ns.length, fun i v => us.toArray[i]? = some v, _,
    fun s' => ∃ h' tk, s' = { s with heap := h', toks := tk } ∧ ∀ b o, s.heap.get? b = some o → h'.get? b = some o,
    fun i k s' => i < ns.length ∧ ∃ (p : Addr) (t u : Tok), k = .ref p ∧ p ∉ s₂.heap.objs.size :: [s.heap.objs.size] ∧ s'.heap.get? p = some { cls := .type "tuple", data := .seq #[.int (fk i).1 t, .int (fk i).2 u] },
    fun i j => decide ((fk i).1 < (fk j).1 ∨ ((fk i).1 = (fk j).1 ∧ (fk i).2 < (fk j).2)), rfl, W, hst, hfp, ⟨?_, ?_, ?_, ?_⟩, ?_, ?_, ?_⟩
  · rintro s1 s' ⟨h', tk, rfl, hk⟩ m
    obtain ⟨hp, g, dr, tk', os⟩ := s'
    obtain rfl : g = s.gens := m.gens
    obtain rfl : dr = s.drawn := m.drawn
    obtain rfl : os = s.os := m.os
    refine ⟨hp, tk', rfl, fun b o e => m.heap b o (fun hb => ?_) (hk b o e)⟩
    have hlt := Heap.lt_size e
    have hs2 : s.heap.objs.size ≤ s₂.heap.objs.size := by rw [e2]; show _ ≤ (s.heap.push _).objs.size; rw [Heap.size_push]; omega
    rcases List.mem_cons.mp hb with z | hb
    · rw [z] at hlt
      exact Nat.lt_irrefl _ (Nat.lt_of_lt_of_le hlt hs2)
    · rw [List.mem_singleton.mp hb] at hlt
      exact Nat.lt_irrefl _ hlt
  · rintro i k s1 s' ⟨hi, p, t, u, rfl, hp, e⟩ m
    exact ⟨hi, p, t, u, rfl, hp, m.heap p _ hp e⟩
  · rintro i v s1 o Q' E' hi hv ⟨h', tk, rfl, hk⟩ hSt hS hQ
    have hv' : us[i]? = some v := by simpa using hv
    obtain ⟨n, t, hn, rfl⟩ := nV_back ra hv'
    have hnd : n < ds.length := hin n (List.mem_of_getElem? hn)
    obtain ⟨dn, hdn⟩ : ∃ dn, ds[n]? = some dn := ⟨_, List.getElem?_eq_getElem hnd⟩
    obtain ⟨t2, hu⟩ := nV_get rl hdn
    have efk : fk i = (dn, n) := by
      have e1 : ns.getD i 0 = n := by rw [List.getD_eq_getElem?_getD, hn]; rfl
      have e2 : ds.getD n 0 = dn := by rw [List.getD_eq_getElem?_getD, hdn]; rfl
      show (ds.getD (ns.getD i 0) 0, ns.getD i 0) = _
      rw [e1, e2]
    refine key_call S hroom (hk _ _ hf) (let ⟨c, oc, vs, tq, a1, a2, a3, a4⟩ := hcd; ⟨c, oc, vs, tq, a1, hk _ _ a2, a3, a4⟩) (hb _) hc (let ⟨o, a1, a2⟩ := hcell; ⟨o, hk _ _ a1, a2⟩) (let ⟨o, a1, a2⟩ := hl; ⟨o, hk _ _ a1, a2⟩) (by simpa using hu) (by omega) (lim.keeps hk) fun h2 tk2 p htk hk2 hp he => ?_
    refine hQ _ _ ⟨h2, tk2, rfl, fun b o e => hk2 b o (hk b o e)⟩ (W.frame _ _ _ _ hSt ?_ fun b _ o e => hk2 b o e) (hk2 _ _ hS) ⟨hi, p, t2, t, rfl, ?_, ?_⟩ ?_
    · exact htk
    · intro hm
      have l1 := Heap.lt_size hS
      have hp : h'.objs.size ≤ p := hp
      have hs2 : s.heap.objs.size ≤ s₂.heap.objs.size := by rw [e2]; show _ ≤ (s.heap.push _).objs.size; rw [Heap.size_push]; omega
      rcases List.mem_cons.mp hm with z | hm
      · rw [z] at hp
        exact Nat.lt_irrefl _ (Nat.lt_of_lt_of_le l1 hp)
      · rw [List.mem_singleton.mp hm] at hp
        exact Nat.lt_irrefl _ (Nat.lt_of_lt_of_le (Nat.lt_of_le_of_lt hs2 l1) hp)
    · rw [efk]; exact he
    · rintro j k' ⟨hj, p', t', u', rfl, hp', e'⟩
      exact ⟨hj, p', t', u', rfl, hp', hk2 _ _ e'⟩
  · rintro i j ki kj s1 Q' E' _ ⟨hi, p, t, u, rfl, hp, e⟩ ⟨hj, p', t', u', rfl, hp', e'⟩ hQ
    refine PySem.W.rcLt_alike (kd (fk i).1 (fk i).2) (kd (fk j).1 (fk j).2) A.in1 s1 _ _ _ _ (reads_kd e rfl rfl) (reads_kd e' rfl rfl) (kd_alike ..) (kd_ne _ _) ?_ prog w E' Q' ?_
    · have : (kd (fk i).1 (fk i).2).depth ≤ 10 := by simp [kd, PyData.depth, PyData.depthAll]
      show A.units + 1 + _ < _
      omega
    · rw [kd_lt]; exact hQ
  · exact ⟨s₂.heap, s₂.toks, by rw [e2], hkeep⟩
  · rintro hn s' ⟨h', tk, rfl, hk⟩
    exact h0 (List.eq_nil_of_length_eq_zero hn) h' tk hk
  · rintro hn v s' hv ⟨h', tk, rfl, hk⟩
    have hv' : us[argBest (fun i j => decide ((fk i).1 < (fk j).1 ∨ ((fk i).1 = (fk j).1 ∧ (fk i).2 < (fk j).2))) (ns.length - 1)]? = some v := by simpa using hv
    obtain ⟨n, t, hn2, rfl⟩ := nV_back ra hv'
    refine h1 n t h' tk ⟨List.mem_of_getElem? hn2, fun y hy => ?_⟩ hk
    obtain ⟨j, hj⟩ := List.mem_iff_getElem?.mp hy
    have hjl : j < ns.length := (List.getElem?_eq_some_iff.mp hj).1
    have key := (argBest_le (f := fk) (fun i j => rfl) (ns.length - 1) j (by omega)).2
    have e1 : fk (argBest (fun i j => decide ((fk i).1 < (fk j).1 ∨ ((fk i).1 = (fk j).1 ∧ (fk i).2 < (fk j).2))) (ns.length - 1)) = (ds.getD n 0, n) := by
      have eN := congrArg (fun o => Option.getD o 0) hn2
      rw [← List.getD_eq_getElem?_getD] at eN
      show (ds.getD (ns.getD _ 0) 0, ns.getD _ 0) = _
      rw [eN]; rfl
    have e3 : fk j = (ds.getD y 0, y) := by
      have eN := congrArg (fun o => Option.getD o 0) hj
      rw [← List.getD_eq_getElem?_getD] at eN
      show (ds.getD (ns.getD _ 0) 0, ns.getD _ 0) = _
      rw [eN]; rfl
    rw [e1, e3] at key
    exact key
end
end KeyL

/-! ## L2b -/
set_option Elab.async false
set_option linter.all false
set_option maxRecDepth 100000
set_option maxHeartbeats 2000000
/-! sorted by such a key, exactly but for the frame's own names. -/
namespace KeyL
open PySem PySem.Spec PyProof.Rows L2 LamX
/-- all that stands, but the frame L and what h₀ has -/
def olds (h₀ : Heap) (L : Addr) (h : Heap) : List (Addr × Obj) := (List.range h.objs.size).filterMap fun b => if b = L ∨ (h₀.get? b).isSome = true then none else (h.get? b).map fun o => (b, o)
theorem mem_olds {h₀ h : Heap} {L : Addr} {p : Addr × Obj} : p ∈ olds h₀ L h ↔ h.get? p.1 = some p.2 ∧ p.1 ≠ L ∧ h₀.get? p.1 = none := by
  unfold olds
  rw [List.mem_filterMap]
  constructor
  · rintro ⟨b, hb, e⟩
    split at e
    · cases e
    · rename_i hn
      cases q : h.get? b with
      | none => rw [q] at e; cases e
      | some o =>
        rw [q] at e
        cases e
        refine ⟨q, fun z => hn (.inl z), ?_⟩
        cases q2 : h₀.get? b with
        | none => rfl
        | some o2 => exact absurd (.inr (by rw [q2]; rfl)) hn
  · rintro ⟨h1, h2, h3⟩
    refine ⟨p.1, List.mem_range.mpr (Heap.lt_size h1), ?_⟩
    rw [if_neg (by rintro (z | z); exact h2 z; rw [h3] at z; cases z), h1]
    rfl
theorem olds_news (h₀ : Heap) (L : Addr) (h : Heap) : News h₀ L h (olds h₀ L h) := fun p hp => mem_olds.mp hp
theorem olds_keep {h₀ h h' : Heap} {L : Addr} {m m' : Str → Option Value} {more : List (Addr × Obj)} (F : Fr h₀ L h m) (F' : Fr h₀ L h' m') (N : News h₀ L h' more) (hs : ∀ p ∈ olds h₀ L h, p ∈ more) : ∀ b o, b ≠ L → h.get? b = some o → h'.get? b = some o := fun b o hb e => by
  cases q : h₀.get? b with
  | none => exact (N (b, o) (hs _ (mem_olds.mpr ⟨e, hb, q⟩))).1
  | some o2 =>
    have e2 := F.keep b o2 q
    rw [e] at e2
    cases e2
    exact F'.keep b _ q
/-- in order by ds, then by number -/
def lexD (ds : List Nat) (a b : Nat) : Prop := ds.getD a 0 < ds.getD b 0 ∨ (ds.getD a 0 = ds.getD b 0 ∧ a ≤ b)
instance (ds : List Nat) (a b : Nat) : Decidable (lexD ds a b) := by unfold lexD; exact inferInstance
theorem sort_lexD (ds ns : List Nat) : (ns.mergeSort (PySem.W.dataLe false fun n => kd (ds.getD n 0) n)).Pairwise (lexD ds) ∧ (ns.mergeSort (PySem.W.dataLe false fun n => kd (ds.getD n 0) n)).Perm ns := by
  have e : ∀ a b, PySem.W.dataLe false (fun n => kd (ds.getD n 0) n) a b = decide (lexD ds a b) := fun a b => by
    show (!PySem.W.dataLt (kd (ds.getD b 0) b) (kd (ds.getD a 0) a)) = _
    rw [kd_lt, ← decide_not]
    refine decide_eq_decide.mpr ?_
    unfold lexD
    omega
  refine ⟨?_, List.mergeSort_perm ..⟩
  refine (List.pairwise_mergeSort (le := PySem.W.dataLe false fun n => kd (ds.getD n 0) n) (fun a b c h1 h2 => ?_) (fun a b => ?_) ns).imp fun {a b} h => ?_
  · rw [e, decide_eq_true_eq] at *
    unfold lexD at *
    omega
  · rw [e, e, Bool.or_eq_true, decide_eq_true_eq, decide_eq_true_eq]
    unfold lexD
    omega
  · rw [e, decide_eq_true_eq] at h
    exact h
theorem each_vals {out : List Value} {ms : List Nat} (h : PySem.W.EachIs (fun v (n : Nat) => ∃ t, v = Value.int (n : Int) t) out ms) : Vals (nV ms) out := by
  induction h with
  | nil => exact .nil
  | cons h t ih => exact .cons h ih
theorem vals_each : ∀ {ms : List Nat} {out : List Value}, Vals (nV ms) out → PySem.W.EachIs (fun v (n : Nat) => ∃ t, v = Value.int (n : Int) t) out ms
  | [], _, .nil => .nil
  | _ :: _, _, .cons r t => .cons r (vals_each t)
section
variable {prog : Program} {w : World} {A : Around} {E : Value → Shared → Prop} {s : Shared}
theorem sorted_key {x r : Str} {sc : Scope} {params : Arguments} {p1 p2 p3 p4 p5 : Pos} {q : Str} {cl : List (Str × Addr)} {pm ctv : Value} {f c' cc l a L : Addr} {its us : List Value} {ns ds : List Nat} {h₀ : Heap} {m : Str → Option Value} {Q : Value → Shared → Prop} (S : KScope x r sc)
    (hun : A.units + 100 < cLine) (hroom : A.depth < recursionLimit) (hf : s.heap.get? f = some (PySem.W.kla_obj "<lambda>" q params (kBody x r p1 p2 p3 p4 p5) sc cl pm c' ctv)) (hcd : s.heap.CodeRec (.ref c') q)
    (hb : ∀ u, bindArgs (PySem.W.kla_fn "<lambda>" q params (kBody x r p1 p2 p3 p4 p5) sc cl pm (.ref c') ctv) ⟨[u], []⟩ = pure [(x, u)])
    (hc : cl.lookup r = some cc) (hcell : s.heap.IsCell cc (some (.ref l))) (hl : s.heap.IsList l its.toArray) (rl : Vals (nV ds) its) (ha : s.heap.IsList a us.toArray) (ra : Vals (nV ns) us) (hin : ∀ n ∈ ns, n < ds.length) (hds : ds.length < 1000000) (hz : ns.length ≤ sizeLine)
    (F : Fr h₀ L s.heap m) (lim : h₀.NoLimit)
    (h : ∀ (out : List Value) (ms : List Nat) (h' : Heap) (tk c : Nat), Vals (nV ms) out → ms.Pairwise (lexD ds) → ms.Perm ns → (∀ b o, b ≠ L → s.heap.get? b = some o → h'.get? b = some o) → h'.Ns L m →
      h'.get? (s.heap.objs.size + 1) = some { cls := .type "list", data := .seq out.toArray c } → Q (.ref (s.heap.objs.size + 1)) { s with heap := h', toks := tk }) :
    wpAny (model prog w) A (call (.builtin "sorted") [.ref a] [(Str.ofString "key", .ref f)]) Q E s := by
  have hlen : us.length = ns.length := by rw [← ra.length, List.length_map]
  have hLs : L < s.heap.objs.size := F.ns.lt
  obtain ⟨oL, esL, epL, hoL, hdL, _⟩ := id F.ns
  have nL : ∀ b o, s.heap.get? b = some o → (∀ es ep, o.data ≠ .dict es ep) → b ≠ L := fun b o e hd z => by
    rw [z, hoL] at e
    cases e
    exact hd _ _ hdL
  refine PySem.W.sorted_of_sort ha (by rw [hlen]; exact hz) (ksk_s1 _ _) (fun x => ksk_l1 _ _) fun E' => ?_
  rw [ksk_t1]
  refine PySem.W.key_tree (h₀ := h₀) (L := L) (m := m) (news := olds h₀ L s.heap) (kz := ns.map fun n => kd (ds.getD n 0) n) (s := { s with heap := PySem.W.copyHeap s.heap us })
    (F.kept fun _ _ => PySem.W.copyHeap_old) ((olds_news h₀ L s.heap).grown fun _ _ => PySem.W.copyHeap_old) (PySem.W.copyHeap_at s.heap us) (Nat.ne_of_gt (Nat.lt_succ_of_lt hLs)) (Heap.get?_none_of_le (Nat.le_trans F.above (Nat.le_succ_of_le (Nat.le_of_lt hLs))))
    (fun p hp => Nat.ne_of_lt (Nat.lt_succ_of_lt (Heap.lt_size (mem_olds.mp hp).1))) (by rw [List.length_map, hlen]) (by rw [hlen]; exact hz) ?_ ?_ ?_ ?_ fun h' tk out c F' N' k' => ⟨rfl, ?_⟩
  · intro d hd d' hd'
    obtain ⟨n, _, rfl⟩ := List.mem_map.mp hd
    obtain ⟨n', _, rfl⟩ := List.mem_map.mp hd'
    exact kd_alike ..
  · refine .inl fun d hd => ?_
    obtain ⟨n, _, rfl⟩ := List.mem_map.mp hd
    exact ⟨_, _, rfl⟩
  · intro d hd
    obtain ⟨n, _, rfl⟩ := List.mem_map.mp hd
    have : (kd (ds.getD n 0) n).depth ≤ 10 := by simp [kd, PyData.depth, PyData.depthAll]
    show A.units + 1 + 1 + _ < _
    omega
  · intro i v k hv hk h2 tk own F2 N2
    obtain ⟨n, t, hn, rfl⟩ := nV_back ra hv
    have ek : k = kd (ds.getD n 0) n := by
      rw [List.getElem?_map, hn] at hk
      exact (Option.some.inj hk).symm
    subst ek
    have keep := olds_keep F F2 N2 fun p hp => List.mem_append_left _ hp
    have hnd : n < ds.length := hin n (List.mem_of_getElem? hn)
    obtain ⟨dn, hdn⟩ : ∃ dn, ds[n]? = some dn := ⟨_, List.getElem?_eq_getElem hnd⟩
    obtain ⟨t2, hu⟩ := nV_get rl hdn
    have edn : ds.getD n 0 = dn := by rw [List.getD_eq_getElem?_getD, hdn]; rfl
    rw [edn]
    refine key_call (its := its.toArray) (l := l) S hroom (keep _ _ (nL _ _ hf fun _ _ z => nomatch z) hf) ?_ (hb _) hc ?_ ?_ (by simpa using hu) (by omega) (lim.keeps F2.keep) fun h3 tk3 p htk hk3 hp he => ?_
    · obtain ⟨c, oc, vs, tq, a1, a2, a3, a4⟩ := hcd
      exact ⟨c, oc, vs, tq, a1, keep _ _ (nL _ _ a2 fun _ _ z => by rw [a3] at z; cases z) a2, a3, a4⟩
    · obtain ⟨o, a1, a2⟩ := hcell
      exact ⟨o, keep _ _ (nL _ _ a1 fun _ _ z => by rw [a2] at z; cases z) a1, a2⟩
    · obtain ⟨o, a1, a2, nn, a3⟩ := hl
      exact ⟨o, keep _ _ (nL _ _ a1 fun es ep z => by rw [a3] at z; cases z) a1, a2, nn, a3⟩
    · have hp : h2.objs.size ≤ p := hp
      have hLp : L ≠ p := Nat.ne_of_lt (Nat.lt_of_lt_of_le F2.ns.lt hp)
      refine ⟨h3, tk3, [(p, { cls := .type "tuple", data := .seq #[.int dn t2, .int n t] })], rfl, fun hh _ hm => ⟨_, reads_kd (hm _ (List.mem_singleton.mpr rfl)) rfl rfl⟩, fun y hy => by rw [List.mem_singleton.mp hy], F2.kept hk3, fun y hy => ?_⟩
      rcases List.mem_append.mp hy with hy | hy
      · exact ⟨hk3 _ _ (N2 y hy).1, (N2 y hy).2⟩
      · rw [List.mem_singleton.mp hy]
        refine ⟨he, hLp.symm, ?_⟩
        cases e0 : h₀.get? p with
        | none => rfl
        | some o0 => exact absurd (Heap.lt_size (F2.keep _ _ e0)) (Nat.not_lt.mpr hp)
  · have hN := N' (s.heap.objs.size + 1, _) (.head _)
    have hout := PySem.W.keyedOut_each (R := fun v (n : Nat) => ∃ t, v = Value.int (n : Int) t) (fun n => kd (ds.getD n 0) n) k' (vals_each ra)
    obtain ⟨o1, o2⟩ := sort_lexD ds ns
    exact h out _ h' tk c (each_vals hout) o1 o2 (olds_keep F F' N' fun p hp => .tail _ hp) F'.ns hN.1
end
end KeyL

/-! ## L3 -/
set_option Elab.async false
set_option linter.all false
set_option maxRecDepth 100000
set_option maxHeartbeats 2000000
/-! min(e, key=lambda x: (r[x], x), default=None) and sorted(e, key=lambda x: (r[x], x)) as expressions of the layer. -/
namespace KeyL
open PySem PySem.Spec PyProof.Rows L2 LamX
/-- what they ask: the list of numbers, the captured list -/
def KeyAsk (K : PySem.W.Frag) (T : List (Addr × Str)) (i : Nat) (σ : L2.St) (v : V) (H1 : Hp) (R : List Nat → List Nat → Hp → Prop) : Prop :=
  Tabs T H1 ∧ ∃ (a l : Addr) (ns ds : List Nat), v = .ref a ∧ SqL K H1 a (nV ns) ∧ σ[i]? = some (some (.ref l)) ∧ SqL K H1 l (nV ds) ∧ (∀ n ∈ ns, n < ds.length) ∧ ds.length < 1000000 ∧ ∀ H2, ExtN H1 H2 → Tabs T H2 → R ns ds H2
def tMinKey (K : PySem.W.Frag) (T : List (Addr × Str)) (i : Nat) (te : TE) : TE := fun σ H Q => te σ H fun v H1 => KeyAsk K T i σ v H1 fun ns ds H2 => (ns = [] → Q .non H2) ∧ ∀ c : Nat, Least ds ns c → Q (.int c) H2
def tSortKey (K : PySem.W.Frag) (T : List (Addr × Str)) (i : Nat) (te : TE) : TE := fun σ H Q => te σ H fun v H1 => KeyAsk K T i σ v H1 fun ns ds H2 => ∀ (ms : List Nat) (p : Addr), ms.Pairwise (lexD ds) → ms.Perm ns → H2 p = none → Q (.ref p) (upd H2 p (.lst (nV ms)))
theorem sql_ext {K : PySem.W.Frag} {H H' : Hp} {a : Addr} {xs : List V} (e : ExtN H H') (h : SqL K H a xs) : SqL K H' a xs := by
  rcases h with (h | ⟨o, h⟩) | h
  · exact .inl (.inl (e _ _ h fun _ z => nomatch z))
  · exact .inl (.inr ⟨o, e _ _ h fun _ z => nomatch z⟩)
  · exact .inr h
section
variable {X : Cx} {pins : List (Addr × Obj)} {σ : L2.St} {H : Hp} {s : Shared}
/-- the captured name's cell, by the lambda's own closure -/
theorem cell_of {x r : Str} {sc : Scope} {i : Nat} {l : Addr} (I : Inv X pins σ H s) (S : KScope x r sc) (hfree : ∀ y ∈ sc.names, y.2 = .free → ∃ c, X.env.cells.lookup y.1 = some c) (hN : X.N[i]? = some r) (hk : X.env.scope.names.lookup r = some .cell) (hs : σ[i]? = some (some (.ref l))) :
    ∃ cc, (cloFrom X.env.cells sc.names []).lookup r = some cc ∧ s.heap.IsCell cc (some (.ref l)) := by
  obtain ⟨m, _, hloc⟩ := I.loc
  obtain ⟨u, ru, lk⟩ := hloc i r _ hN hs (.inr (.inl hk))
  obtain rfl : u = Value.ref l := ru
  have hy : (r, NameKind.free) ∈ sc.names := PySem.mem_of_lookup S.pr
  obtain ⟨c2, h2⟩ := mem_lookup (cloFrom_has (cells := X.env.cells) (acc := []) hy)
  rcases lk with ⟨k', _⟩ | ⟨_, c3, e', z⟩
  · have k' : X.env.scope.names.lookup r = some .local := k'
    rw [hk] at k'
    cases k'
  · refine ⟨c2, h2, ?_⟩
    rcases cloFrom_mem (PySem.mem_of_lookup h2) with hm | ⟨_, h3⟩
    · cases hm
    · have e2 : c2 = c3 := by rw [h3, e']; rfl
      rw [e2]
      exact z
theorem room_min {k : Nat} {A : Around} (hr : Room k A) : A.handled = none ∧ A.units + 100 < cLine ∧ A.depth < recursionLimit := ⟨hr.hd, by have := hr.un; omega, by have := hr.dp; omega⟩
end
section
variable {X : Cx}
theorem pe_minKey {T : List (Addr × Str)} {c P : Addr} {x r : Str} {sc : Scope} {params : Arguments} {p p1 p2 p3 p4 p5 p6 lpos kp1 kp2 pos : Pos} {k i k6 : Nat} {e : Expr} {te : TE} (S : KScope x r sc) (TB : TabB X.base X.mg c P) (hcode : X.env.code = .ref c) (hmT : (P, X.env.qual ++ "<lambda>") ∈ T) (hu : ∀ q ∈ T, q.1 = P → q.2 = X.env.qual ++ "<lambda>")
    (hr : Room k X.A) (hg : Gl X "min") (hm : X.mg "min" = none) (hN : X.N[i]? = some r) (hk : X.env.scope.names.lookup r = some .cell) (hfr : ∀ y ∈ sc.names, y.2 = .free → X.env.scope.names.lookup y.1 = some .cell)
    (hdef : defaultsOf params X.env = ([], [])) (hbind : ∀ (q : Str) (cl : List (Str × Addr)) (pm cv ctv u : Value), bindArgs (PySem.W.kla_fn "<lambda>" q params (kBody x r p1 p2 p3 p4 p5) sc cl pm cv ctv) ⟨[u], []⟩ = pure [(x, u)]) (he : PE X e te)
    (hs1 : backTo pos (starEach [e] X.env) = [(false, eval e X.env)] := by rfl) :
    PE X (.Call (.Name "min" p) [e] [⟨some "key", .Lambda params (kBody x r p1 p2 p3 p4 p5) sc lpos, kp1⟩, ⟨some "default", .Constant .none k6 p6, kp2⟩] pos) (tMinKey X.K T i te) := by
  refine ⟨fun pins s σ H Q I h => ?_⟩
  refine wpAny_Call_Name_kw (ld_blt I hg hm boot_min ?_)
  refine PyProof.Rows.callWith_kw ?_ (by rw [hs1]; rfl) (by rw [hs1]; rfl) (by rfl) (by rfl)
  rw [hs1]
  refine Calls.spliced_cons (thn (he.run pins s σ H _ I h) fun v s1 ⟨x1, H1, I1, r1, q1⟩ => Calls.spliced_nil ?_)
  obtain ⟨hT, a, l, ns, ds, rfl, hsa, hsl, hsd, hin, hds, hR⟩ := q1
  obtain rfl : v = Value.ref a := r1
  have hfree : ∀ y ∈ sc.names, y.2 = .free → ∃ c, X.env.cells.lookup y.1 = some c := fun y hy z => I1.ok.has _ (.inl (hfr y hy z))
  refine wpAny_evalAll_cons (wpAny_bind (lam_make2 I1 TB hcode hmT hu hT hdef hfree fun f c' pm ctv H2 s2 I2 eN T2 hf hfn _ hco => wpAny_bind (wpAny_standAt (wpAny_pure ?_))))
  refine wpAny_evalAll_cons (wpAny_bind (Constant_none (wpAny_bind (wpAny_standAt (wpAny_pure (wpAny_evalAll_nil ?_))))))
  show wpAny _ X.A (call (.builtin "min") [.ref a] [(Str.ofString "key", .ref f), (Str.ofString "default", .none)]) _ _ _
  obtain ⟨us, ra, pa, hza⟩ := I2.list (sql_ext eN hsa)
  obtain ⟨its, rl, pl, hzl⟩ := I2.list (sql_ext eN hsd)
  obtain ⟨cc, hc1, hc2⟩ := cell_of I2 S hfree hN hk hsl
  obtain ⟨q1, q2, q3⟩ := room_min hr
  have hR2 := hR H2 eN T2
  refine min_key S q1 q2 q3 hf (NdefX.codeO_at I2.hok hco) (fun u => hbind _ _ _ _ _ u) hc1 hc2 pl.isList rl pa.isList ra hin hds I2.nolimit (fun hn h' tk kp => ?_) fun c0 t h' tk hL kp => ?_
  · exact ⟨.non, H2, I2.kept kp, rfl, hR2.1 hn⟩
  · exact ⟨.int c0, H2, I2.kept kp, ⟨t, rfl⟩, hR2.2 c0 hL⟩
theorem pe_sortKey {T : List (Addr × Str)} {c P : Addr} {x r : Str} {sc : Scope} {params : Arguments} {p p1 p2 p3 p4 p5 lpos kp1 pos : Pos} {k i : Nat} {e : Expr} {te : TE} (S : KScope x r sc) (TB : TabB X.base X.mg c P) (hcode : X.env.code = .ref c) (hmT : (P, X.env.qual ++ "<lambda>") ∈ T) (hu : ∀ q ∈ T, q.1 = P → q.2 = X.env.qual ++ "<lambda>")
    (hr : Room k X.A) (hg : Gl X "sorted") (hm : X.mg "sorted" = none) (hN : X.N[i]? = some r) (hk : X.env.scope.names.lookup r = some .cell) (hfr : ∀ y ∈ sc.names, y.2 = .free → X.env.scope.names.lookup y.1 = some .cell)
    (hdef : defaultsOf params X.env = ([], [])) (hbind : ∀ (q : Str) (cl : List (Str × Addr)) (pm cv ctv u : Value), bindArgs (PySem.W.kla_fn "<lambda>" q params (kBody x r p1 p2 p3 p4 p5) sc cl pm cv ctv) ⟨[u], []⟩ = pure [(x, u)]) (he : PE X e te)
    (hs1 : backTo pos (starEach [e] X.env) = [(false, eval e X.env)] := by rfl) :
    PE X (.Call (.Name "sorted" p) [e] [⟨some "key", .Lambda params (kBody x r p1 p2 p3 p4 p5) sc lpos, kp1⟩] pos) (tSortKey X.K T i te) := by
  refine ⟨fun pins s σ H Q I h => ?_⟩
  refine wpAny_Call_Name_kw (ld_blt I hg hm boot_sorted ?_)
  refine PyProof.Rows.callWith_kw ?_ (by rw [hs1]; rfl) (by rw [hs1]; rfl) (by rfl) (by rfl)
  rw [hs1]
  refine Calls.spliced_cons (thn (he.run pins s σ H _ I h) fun v s1 ⟨x1, H1, I1, r1, q1⟩ => Calls.spliced_nil ?_)
  obtain ⟨hT, a, l, ns, ds, rfl, hsa, hsl, hsd, hin, hds, hR⟩ := q1
  obtain rfl : v = Value.ref a := r1
  have hfree : ∀ y ∈ sc.names, y.2 = .free → ∃ c, X.env.cells.lookup y.1 = some c := fun y hy z => I1.ok.has _ (.inl (hfr y hy z))
  refine wpAny_evalAll_cons (wpAny_bind (lam_make2 I1 TB hcode hmT hu hT hdef hfree fun f c' pm ctv H2 s2 I2 eN T2 hf hfn _ hco => wpAny_bind (wpAny_standAt (wpAny_pure (wpAny_evalAll_nil ?_)))))
  show wpAny _ X.A (call (.builtin "sorted") [.ref a] [(Str.ofString "key", .ref f)]) _ _ _
  obtain ⟨us, ra, pa, hza⟩ := I2.list (sql_ext eN hsa)
  obtain ⟨its, rl, pl, hzl⟩ := I2.list (sql_ext eN hsd)
  obtain ⟨cc, hc1, hc2⟩ := cell_of I2 S hfree hN hk hsl
  obtain ⟨q1, q2, q3⟩ := room_min hr
  have hR2 := hR H2 eN T2
  obtain ⟨m, hns, hloc⟩ := id I2.loc
  have FR : Fr X.base X.env.locals s2.heap m := ⟨hns, I2.bk, Nat.le_trans I2.ok.bsz I2.ok.above⟩
  rw [List.length_map] at hza
  refine sorted_key S q2 q3 hf (NdefX.codeO_at I2.hok hco) (fun u => hbind _ _ _ _ _ u) hc1 hc2 pl.isList rl pa.isList ra hin hds hza FR I2.ok.mod.nolimit fun out ms h' tk cn rv hp hpm kp hns' hD => ?_
  have hfD : H2 (s2.heap.objs.size + 1) = none := I2.hok.fresh (Nat.le_succ _)
  have ne : ∀ b o, H2 b = some o → b ≠ X.env.locals := fun b o e z => by
    rw [z, I2.free] at e
    cases e
  have neD : ∀ b o, s2.heap.get? b = some o → b ≠ s2.heap.objs.size + 1 := fun b o e => Nat.ne_of_lt (Nat.lt_succ_of_lt (Heap.lt_size e))
  refine ⟨.ref (s2.heap.objs.size + 1), upd H2 (s2.heap.objs.size + 1) (.lst (nV ms)), ?_, rfl, hR2 ms _ hp hpm hfD⟩
  refine I2.step (g' := s2.gens) (d' := s2.drawn) (ch := []) (fun b hb => absurd hb (by simp)) (fun b o hb _ _ e _ => kp b o hb e) (fun b o hb _ _ e _ => ⟨o.slots, kp b o hb e⟩) (fun b o _ e n => by rw [upd_ne (neD b o e)]; exact n)
    (fun b o _ e => ?_) (fun b xs e => by rw [upd_ne (ne_of_none e hfD)]; exact e) (fun b o u e => by rw [upd_ne (ne_of_none e hfD)]; exact e) (fun b ps e => ⟨#[], by rw [upd_ne (ne_of_none e hfD), e]; simp⟩) (fun m' hm' => ?_) (fun b u e => ?_) I2.bare
  · by_cases hb : b = X.env.locals
    · obtain ⟨o', es, ep, z, _⟩ := hns'
      rw [hb]
      exact ⟨o', z⟩
    · exact ⟨o, kp b o hb e⟩
  · obtain ⟨o1, es1, ep1, e1, d1, k1, f1⟩ := hm'
    obtain ⟨o2, es2, ep2, e2, d2, k2, f2⟩ := id hns
    rw [e1] at e2
    cases e2
    rw [d1] at d2
    cases d2
    have em : m' = m := funext fun y => (f1 y).symm.trans (f2 y)
    rw [em]
    exact hns'
  · by_cases hb : b = s2.heap.objs.size + 1
    · rw [hb, upd_same] at e
      cases e
      rw [hb]
      refine ⟨?_, out, cn, rv, hD⟩
      rw [List.length_map, hpm.length_eq]
      exact hza
    · rw [upd_ne hb] at e
      refine (I2.hok b u e).stay (fun d v hd q => kp d v ?_ q) (fun d q => by rw [upd_ne (ne_of_none q hfD)]; exact q) fun d xs q => by rw [upd_ne (ne_of_none q hfD)]; exact q
      rcases hd with z | z
      · rw [z]; exact ne b _ e
      · exact ne d _ z
end
end KeyL

/-! ## L4 -/
set_option Elab.async false
set_option linter.all false
set_option maxRecDepth 100000
set_option maxHeartbeats 2000000
/-! min(list of numbers, default=d). -/
namespace KeyL
open PySem PySem.Spec PyProof.Rows L2 LamX
theorem reads_nV {h : Heap} : ∀ {ns : List Nat} {us : List Value}, Vals (nV ns) us → ReadsAll h us (ns.map fun (n : Nat) => PyData.int (n : Int)) []
  | [], _, .nil => .nil
  | n :: ns, _, .cons r t => by
    obtain ⟨tk, rfl⟩ := r
    exact .cons (.int _ _) (reads_nV t)
def rMinDef (K : PySem.W.Frag) : List V → List V → Hp → VK → Prop := fun vs zs H Q => ∃ (a : Addr) (ns : List Nat) (d : V), vs = [.ref a] ∧ zs = [d] ∧ SqL K H a (nV ns) ∧ (ns = [] → Q d H) ∧ ∀ m : Nat, m ∈ ns → (∀ y ∈ ns, m ≤ y) → Q (.int (m : Int)) H
theorem fold_min_nat (n : Nat) : ∀ l : List Nat, (l.map fun (k : Nat) => (k : Int)).foldl min (n : Int) = ((l.foldl min n : Nat) : Int)
  | [] => rfl
  | k :: l => by
    rw [List.map_cons, List.foldl_cons, List.foldl_cons]
    have e : min (n : Int) (k : Int) = ((min n k : Nat) : Int) := by omega
    rw [e]
    exact fold_min_nat (min n k) l
theorem fold_min_mem (n : Nat) : ∀ l : List Nat, l.foldl min n ∈ n :: l ∧ ∀ y ∈ n :: l, l.foldl min n ≤ y
  | [] => ⟨List.mem_cons_self, fun y hy => by rw [List.mem_singleton.mp hy]; exact Nat.le_refl _⟩
  | k :: l => by
    obtain ⟨h1, h2⟩ := fold_min_mem (min n k) l
    rw [List.foldl_cons]
    have hm := h2 (min n k) List.mem_cons_self
    refine ⟨?_, fun y hy => ?_⟩
    · rcases List.mem_cons.mp h1 with z | z
      · rcases Nat.le_total n k with q | q
        · rw [z, Nat.min_eq_left q]; exact List.mem_cons_self
        · rw [z, Nat.min_eq_right q]; exact List.mem_cons_of_mem _ List.mem_cons_self
      · exact List.mem_cons_of_mem _ (List.mem_cons_of_mem _ z)
    · rcases List.mem_cons.mp hy with rfl | hy
      · omega
      · rcases List.mem_cons.mp hy with rfl | hy
        · omega
        · exact h2 y (List.mem_cons_of_mem _ hy)
theorem depth_ints : ∀ ns : List Nat, PyData.depthAll (ns.map fun (n : Nat) => PyData.int (n : Int)) ≤ 1
  | [] => by simp [PyData.depthAll]
  | n :: ns => by
    have := depth_ints ns
    rw [List.map_cons]
    simp only [PyData.depthAll, PyData.depth]
    omega
theorem cr_minDef {X : Cx} {k : Nat} (hr : Room k X.A) : CallRK X (.builtin "min") [Str.ofString "default"] (rMinDef X.K) := by
  intro pins s σ H vs zs us ws Q I r rz h
  obtain ⟨a, ns, d, rfl, rfl, hs, q0, q1⟩ := h
  obtain rfl := Vals.ref1 r
  obtain ⟨w1, rfl, e1⟩ := vals1 rz
  obtain ⟨its, rv, pl, hz⟩ := I.list hs
  have hun := hr.un
  refine PySem.W.min_list_default (xs := ns.map fun (n : Nat) => PyData.int (n : Int)) hr.hd pl.isList (reads_nV (by simpa using rv)) ⟨?_, ?_⟩ ?_ (fun hn h' tk kp => ?_) (fun y ys i v h' tk bs hxs hv hrd kp => ?_)
  · intro x hx y hy
    obtain ⟨n, _, rfl⟩ := List.mem_map.mp hx
    obtain ⟨n', _, rfl⟩ := List.mem_map.mp hy
    simp [PySem.W.alike]
  · intro x hx
    obtain ⟨n, _, rfl⟩ := List.mem_map.mp hx
    exact fun z => nomatch z
  · have := depth_ints ns
    omega
  · exact ⟨d, H, I.kept kp, e1, q0 (List.map_eq_nil_iff.mp hn)⟩
  · cases ns with
    | nil => cases hxs
    | cons n ns =>
      rw [List.map_cons] at hxs
      injection hxs with hy hys
      subst hy
      rw [← hys] at hrd
      have em : ns.map (fun (n : Nat) => PyData.int (n : Int)) = (ns.map fun (k : Nat) => (k : Int)).map PyData.int := by rw [List.map_map]; rfl
      rw [em, PySem.W.minD_ints, fold_min_nat] at hrd
      have hv2 : ∃ t, v = .int ((ns.foldl min n : Nat) : Int) t := by
        cases hrd with
        | int i t => exact ⟨t, rfl⟩
      obtain ⟨t, rfl⟩ := hv2
      obtain ⟨m1, m2⟩ := fold_min_mem n ns
      exact ⟨.int _, H, I.kept kp, ⟨t, rfl⟩, q1 _ m1 m2⟩
end KeyL

/-! ## P1 -/
set_option Elab.async false
set_option linter.all false
set_option maxRecDepth 100000
set_option maxHeartbeats 2000000
namespace TP
open PySem PySem.Spec PyProof.Rows L2 Evl KeyL TT
open Kv404 (in_ list_)
def top (i : Nat) : Stmt := PySem.Challenge.pw_threetimes_s01_answers.main.body.getD i (.Pass ⟨0, 0, 0, 0⟩)
abbrev sDist : Stmt := top 34
abbrev sChosen : Stmt := top 35
/-- what the module's names stand for -/
structure Glb (mg : Str → Option Value) : Prop where
  FAR : ∃ u, mg "FAR" = some u ∧ RelV (.int 1000) u
  range : mg "range" = none
  min : mg "min" = none
  max : mg "max" = none
  len : mg "len" = none
  sum : mg "sum" = none
  sorted : mg "sorted" = none
section
variable {P : Program} {w : World} {K : PySem.W.Frag} {mg : Str → Option Value} {base : Heap} {f : Addr} {fd : FuncData}
/-- chosen_places(choice, count) -/
def spChosen : Sp := fun vs H Q _ => ∃ s n : Nat, vs = [.int (s : Int), .int (n : Int)] ∧ n ≤ 8 ∧ RetL (nV (list_ n s)) H Q
theorem scChosen : FnScope ["choice", "count", "v"] ["choice", "count"] (defScope sChosen) := ⟨rfl, rfl, rfl, by decide +kernel, rfl, by decide +kernel, by decide +kernel⟩
theorem given_nV (n : Nat) (f : Nat → Bool) : given n f (fun i => V.int (i : Int)) = nV ((List.range n).filter f) := rfl
theorem rv_shr {H : Hp} (s i : Nat) : RV (fun x y H Q => ∃ (i : Int) (k : Nat), x = .int i ∧ y = .int (k : Int) ∧ Q (.int (i / 2 ^ k)) H) (.int (s : Int)) (.int (i : Int)) H (.int ((s / 2 ^ i : Nat) : Int)) := rv_val fun H1 _ Q q => ⟨s, i, rfl, rfl, by
  have e : (s : Int) / 2 ^ i = ((s / 2 ^ i : Nat) : Int) := by rw [Int.natCast_ediv, Int.natCast_pow]; rfl
  rw [e]; exact q⟩
theorem rv_odd {H : Hp} (n : Nat) : RV (fun x y H Q => ∃ n : Nat, x = .int (n : Int) ∧ y = .int 1 ∧ Q (.int ((n % 2 : Nat) : Int)) H) (.int (n : Int)) (.int 1) H (.int ((n % 2 : Nat) : Int)) := rv_val fun H1 _ Q q => ⟨n, rfl, rfl, q⟩
theorem bit_eq (s i : Nat) : decide (V.int ((s / 2 ^ i % 2 : Nat) : Int) = V.int 1) = in_ s i := by
  unfold in_
  by_cases h : s / 2 ^ i % 2 = 1
  · rw [h]; rfl
  · rw [decide_eq_false (fun z => h (by injection z with z; omega))]
    exact (beq_eq_false_iff_ne.mpr h).symm
theorem ok_chosen (F : Fun K "chosen_places" "chosen_places" sChosen f fd) (G : Glb mg) : FnOk P w K mg base CX0 1 f fd ["choice", "count"] spChosen := by
  refine F.ok scChosen (fun vs H Q E h => ?_) (fun cdv A outer s H vs Q E hr h => ⟨_, pss_one (ps_ret (pe_lc (own := [("v", 2)]) (g := gName 2) rfl scChosen.nd (pi_range1 rfl G.range (pa_cons (pv 1) pa_nil)) (blkOk_by (N := ["choice", "count", "v"]) (sc := defScope sChosen) (by decide +kernel))
      (fun _ _ _ _ _ => pg_name (i := 2) scChosen.nd rfl (Or.inl rfl))
      (fun _ _ _ _ _ => pts_one (pt_cmpR op_eq (pe_op op_odd (pe_op op_shrN (pv 0) (pv 2)) pe_int) pe_int (nomark _)))
      (fun _ _ _ _ _ => pv 2))), ?_⟩)
  · obtain ⟨s, n, rfl, _⟩ := h; rfl
  · obtain ⟨s, n, rfl, hn, k⟩ := h
    refine s_retL (el_lcR1 (n := (n : Int)) (fun i => in_ s i) (fun i => .int (i : Int)) (ea_cons (ev_var rfl) ea_nil) (by omega) (fun x => rfl) (fun i H1 e hi => et_is (et_test (ev_op (ev_op (ev_op (ev_var rfl) (ev_var rfl) (rv_shr s i)) ev_c (rv_odd (s / 2 ^ i))) ev_c (rv_eq rfl))) ?_) (fun i H1 e hi hf => ev_var rfl)) k
    exact bit_eq s i
end
end TP

/-! ## P2 -/
set_option Elab.async false
set_option linter.all false
set_option maxRecDepth 100000
set_option maxHeartbeats 2000000
namespace TP
open PySem PySem.Spec PyProof.Rows L2 Evl KeyL TT
open Kv402 (Line)
open Kv404 (in_ list_)
/-! ### rows of numbers in the heap -/
abbrev rowV (n : Nat) (F : Nat → Nat → Nat) (u : Nat) : List V := nV ((List.range n).map (F u))
structure Rows (H : Hp) (p : Addr) (as : List Addr) (n : Nat) (F : Nat → Nat → Nat) : Prop where
  at_ : H p = some (.lst (as.map V.ref))
  nd : as.Nodup
  np : p ∉ as
  row : ∀ (u : Nat) (x : Addr), as[u]? = some x → H x = some (.lst (rowV n F u))
theorem row_get {n v : Nat} {F : Nat → Nat → Nat} {u : Nat} (hv : v < n) : atI (rowV n F u) (v : Int) = some (.int (F u v : Int)) := by
  refine at_of rfl ?_
  rw [List.getElem?_map, List.getElem?_map, List.getElem?_range hv]
  rfl
theorem rowV_len {n : Nat} {F : Nat → Nat → Nat} {u : Nat} : (rowV n F u).length = n := by
  rw [List.length_map, List.length_map, List.length_range]
theorem rowV_set {n v y : Nat} {F : Nat → Nat → Nat} {u : Nat} : (rowV n F u).set v (.int (y : Int)) = rowV n (upd2 F u v y) u := by
  have e := upd2_row (n := n) (f := F) (u := u) (v := v) (x := y)
  show (((List.range n).map fun b => F u b).map fun (n : Nat) => V.int (n : Int)).set v (.int (y : Int)) = _
  rw [← List.map_set, e]
theorem Rows.set {H : Hp} {p x : Addr} {as : List Addr} {n u v y : Nat} {F : Nat → Nat → Nat} (R : Rows H p as n F) (hx : as[u]? = some x) : Rows (upd H x (.lst ((rowV n F u).set v (.int (y : Int))))) p as n (upd2 F u v y) := by
  have hne : p ≠ x := fun z => R.np (by rw [z]; exact List.mem_of_getElem? hx)
  refine ⟨by rw [upd_ne hne]; exact R.at_, R.nd, R.np, fun u' x' h' => ?_⟩
  by_cases hu : u' = u
  · subst hu
    rw [hx] at h'
    cases h'
    rw [upd_same, rowV_set]
  · have hxx : x' ≠ x := fun z => hu (nd_ix R.nd (by rw [z] at h'; exact h') hx)
    rw [upd_ne hxx, R.row u' x' h']
    have e := upd2_other (n := n) (f := F) (u := u) (v := v) (a := u') (x := y) hu
    show some (HO.lst (nV ((List.range n).map fun b => F u' b))) = some (HO.lst (nV ((List.range n).map fun b => upd2 F u v y u' b)))
    rw [e]
theorem Rows.ext {H H' : Hp} {p : Addr} {as : List Addr} {n : Nat} {F : Nat → Nat → Nat} (R : Rows H p as n F) (e : Ex H H') : Rows H' p as n F := ⟨e _ _ R.at_, R.nd, R.np, fun u x h => e _ _ (R.row u x h)⟩
theorem Rows.congr {H : Hp} {p : Addr} {as : List Addr} {n : Nat} {F F' : Nat → Nat → Nat} (R : Rows H p as n F) (hl : as.length = n) (h : ∀ u v, u < n → v < n → F u v = F' u v) : Rows H p as n F' := ⟨R.at_, R.nd, R.np, fun u x hx => by
  have hu : u < n := by rw [← hl]; exact (List.getElem?_eq_some_iff.mp hx).1
  have e : (List.range n).map (F u) = (List.range n).map (F' u) := List.map_congr_left fun v hv => h u v hu (List.mem_range.mp hv)
  rw [R.row u x hx]
  show some (HO.lst (nV ((List.range n).map (F u)))) = some (HO.lst (nV ((List.range n).map (F' u))))
  rw [e]⟩
/-- the rows as a def hands them over -/
def RowsAt (H : Hp) (p : Addr) (n : Nat) (F : Nat → Nat → Nat) : Prop := ∃ as : List Addr, as.length = n ∧ Rows H p as n F
/-! ### lines in the heap -/
def lineV (l : Line) : List V := [.int (l.w : Int), .int (l.a : Int), .int (l.b : Int)]
def LinesL (H : Hp) (ts : List Addr) (s : List Line) : Prop := ts.length = s.length ∧ ∀ (i : Nat) (t : Addr) (l : Line), ts[i]? = some t → s[i]? = some l → H t = some (.tup (lineV l))
def LinesAt (H : Hp) (a : Addr) (s : List Line) : Prop := ∃ ts : List Addr, H a = some (.lst (ts.map V.ref)) ∧ LinesL H ts s
theorem LinesL.ext {H H' : Hp} {ts : List Addr} {s : List Line} (h : LinesL H ts s) (e : Ex H H') : LinesL H' ts s := ⟨h.1, fun i t l h1 h2 => e _ _ (h.2 i t l h1 h2)⟩
theorem LinesAt.ext {H H' : Hp} {a : Addr} {s : List Line} (h : LinesAt H a s) (e : Ex H H') : LinesAt H' a s := by
  obtain ⟨ts, h1, h2⟩ := h
  exact ⟨ts, e _ _ h1, h2.ext e⟩
section
variable {P : Program} {w : World} {K : PySem.W.Frag} {mg : Str → Option Value} {base : Heap} {f : Addr} {fd : FuncData}
theorem pe_gl {X : Cx} {x : Str} {v : V} {pos : Pos} (hg : Gl X x) (h : ∃ u, X.mg x = some u ∧ RelV v u) (hd : (x == ("__debug__" : Str)) = false := by decide) : PE X (.Name x pos) (tC v) := by
  obtain ⟨u, hu, r⟩ := h
  exact pe_glob hg hu r hd
/-- distances(count, lines) -/
def spDist : Sp := fun vs H Q _ => ∃ (n : Nat) (a : Addr) (s : List Line), vs = [.int (n : Int), .ref a] ∧ n ≤ 8 ∧ LinesOk n s ∧ s.length ≤ 14 ∧ LinesAt H a s ∧ ∀ (p : Addr) (H' : Hp), H p = none → Ex H H' → RowsAt H' p n (dd n s) → Q (.ref p) H'
abbrev nDist : List Str := ["count", "lines", "rows", "u", "v", "length", "a", "b", "middle"]
theorem scDist : FnScope nDist ["count", "lines"] (defScope sDist) := ⟨rfl, rfl, rfl, by decide +kernel, rfl, by decide +kernel, by decide +kernel⟩
def rMin2 : List V → Hp → VK → Prop := fun xs H Q => ∃ i j : Int, xs = [.int i, .int j] ∧ Q (.int (if j < i then j else i)) H
/-- the reading of distances -/
def tCell (K : PySem.W.Frag) (i j : Nat) : TE := tOp (rIxL K) (tOp (rIxL K) (tVar 2) (tVar i)) (tVar j)
def tDist1 (K : PySem.W.Frag) : TS := tFor (iRng1 (tCons (tVar 0) tNil)) (gName 3) (tDrop (tBM K "list" rAppend (tVar 2) (tCons (tLc (iRng1 (tCons (tVar 0) tNil)) (gName 4) tYes (tIf (tTest (tOp rEq (tVar 3) (tVar 4))) (tC (.int 0)) (tC (.int 1000))) [4]) tNil)))
def tDist2 (K : PySem.W.Frag) : TS := tFor (iList K (tVar 1)) (gTup K 3 (gCons (gName 5) (gCons (gName 6) (gCons (gName 7) gNil)))) (tSeq (tAsg (tVar 5) (gSub (tOp (rIxL K) (tVar 2) (tVar 6)) (tVar 7) rSetL)) (tAsg (tVar 5) (gSub (tOp (rIxL K) (tVar 2) (tVar 7)) (tVar 6) rSetL)))
def tDist5 (K : PySem.W.Frag) : TS := tFor (iRng1 (tCons (tVar 0) tNil)) (gName 4) (tAsg (tCB rMin2 (tCons (tCell K 3 4) (tCons (tOp (rI0 fun i j => .int (i + j)) (tCell K 3 8) (tCell K 8 4)) tNil))) (gSub (tOp (rIxL K) (tVar 2) (tVar 3)) (tVar 4) rSetL))
def tDist4 (K : PySem.W.Frag) : TS := tFor (iRng1 (tCons (tVar 0) tNil)) (gName 3) (tDist5 K)
def tDist3 (K : PySem.W.Frag) : TS := tFor (iRng1 (tCons (tVar 0) tNil)) (gName 8) (tDist4 K)
def t_dist (K : PySem.W.Frag) : TS := tSeq (tAsg (tLst tNil) (gName 2)) (tSeq (tDist1 K) (tSeq (tDist2 K) (tSeq (tDist3 K) (tRet (tVar 2)))))
theorem ev_cell {H : Hp} {σ : L2.St} {p x : Addr} {as : List Addr} {n i j u v : Nat} {F : Nat → Nat → Nat} (R : Rows H p as n F) (h2 : σ[2]? = some (some (.ref p))) (hi : σ[i]? = some (some (.int (u : Int)))) (hj : σ[j]? = some (some (.int (v : Int)))) (hx : as[u]? = some x) (hv : v < n) : Ev (tCell K i j) σ H (.int (F u v : Int)) :=
  ev_op (ev_op (ev_var h2) (ev_var hi) (rv_ixL (sq_of R.at_) (at_of rfl (by rw [List.getElem?_map, hx]; rfl)))) (ev_var hj) (rv_ixL (sq_of (R.row u x hx)) (row_get hv))
theorem ev_rowx {H : Hp} {σ : L2.St} {p x : Addr} {as : List Addr} {n i u : Nat} {F : Nat → Nat → Nat} (R : Rows H p as n F) (h2 : σ[2]? = some (some (.ref p))) (hi : σ[i]? = some (some (.int (u : Int)))) (hx : as[u]? = some x) : Ev (tOp (rIxL K) (tVar 2) (tVar i)) σ H (.ref x) :=
  ev_op (ev_var h2) (ev_var hi) (rv_ixL (sq_of R.at_) (at_of rfl (by rw [List.getElem?_map, hx]; rfl)))
theorem ev_min2 {H : Hp} {σ : L2.St} {ta tb : TE} {i j : Nat} (ha : Ev ta σ H (.int (i : Int))) (hb : Ev tb σ H (.int (j : Int))) : Ev (tCB rMin2 (tCons ta (tCons tb tNil))) σ H (.int ((min i j : Nat) : Int)) :=
  ev_cb (ea_cons ha (ea_cons hb ea_nil)) fun H1 _ Q q => ⟨i, j, rfl, by
    have e : (if (j : Int) < (i : Int) then (j : Int) else (i : Int)) = ((min i j : Nat) : Int) := by
      split <;> omega
    rw [e]; exact q H1 (Ex.refl H1)⟩
/-- what the loops keep: the names, what stood, the rows -/
structure DInv (n : Nat) (a p : Addr) (as : List Addr) (H : Hp) (F : Nat → Nat → Nat) (σ : L2.St) (H' : Hp) : Prop where
  s0 : σ[0]? = some (some (.int (n : Int)))
  s1 : σ[1]? = some (some (.ref a))
  s2 : σ[2]? = some (some (.ref p))
  sl : σ.length = 9
  ex : Ex H H'
  rows : Rows H' p as n F
theorem DInv.put {n j : Nat} {a p : Addr} {as : List Addr} {H H' : Hp} {F : Nat → Nat → Nat} {σ : L2.St} {v : Option V} (d : DInv n a p as H F σ H') (hj : 2 < j) : DInv n a p as H F (σ.set j v) H' :=
  ⟨by rw [List.getElem?_set_ne (by omega)]; exact d.s0, by rw [List.getElem?_set_ne (by omega)]; exact d.s1, by rw [List.getElem?_set_ne (by omega)]; exact d.s2, by rw [List.length_set]; exact d.sl, d.ex, d.rows⟩
theorem DInv.heap {n : Nat} {a p : Addr} {as : List Addr} {H H' H1 : Hp} {F : Nat → Nat → Nat} {σ : L2.St} (d : DInv n a p as H F σ H') (e : Ex H' H1) : DInv n a p as H F σ H1 := ⟨d.s0, d.s1, d.s2, d.sl, d.ex.trans e, d.rows.ext e⟩
theorem DInv.store {n u v y : Nat} {a p x : Addr} {as : List Addr} {H H' : Hp} {F : Nat → Nat → Nat} {σ : L2.St} (d : DInv n a p as H F σ H') (hn : ∀ x ∈ as, H x = none) (hx : as[u]? = some x) : DInv n a p as H (upd2 F u v y) σ (upd H' x (.lst ((rowV n F u).set v (.int (y : Int))))) :=
  ⟨d.s0, d.s1, d.s2, d.sl, d.ex.mut (hn x (List.mem_of_getElem? hx)), d.rows.set hx⟩
theorem DInv.func {n : Nat} {a p : Addr} {as : List Addr} {H H' : Hp} {F F' : Nat → Nat → Nat} {σ : L2.St} (d : DInv n a p as H F σ H') (hl : as.length = n) (h : ∀ u v, u < n → v < n → F u v = F' u v) : DInv n a p as H F' σ H' := ⟨d.s0, d.s1, d.s2, d.sl, d.ex, d.rows.congr hl h⟩
theorem set_at {σ : L2.St} {j : Nat} {v : Option V} (h : σ.length = 9) (hj : j < 9) : (σ.set j v)[j]? = some v := by rw [List.getElem?_set_self (by omega)]
theorem pure_dist (vs : List V) (H : Hp) (Q : VK) (E : XK) (h : spDist vs H Q E) : t_dist K { nx := fun _ H' => Q .non H', rt := Q } (start nDist vs) H := by
  obtain ⟨n, a, s, rfl, hn, ok, hs14, ⟨ts, hts, hls⟩, k⟩ := h
  -- rows = []
  refine q_asgL (el_lst ea_nil (by decide)) fun p H1 hp e1 h1 => ?_
  -- the first rows
  refine q_forR1 (n := (n : Int)) (ea_cons (ev_var rfl) ea_nil) (by omega)
    (fun i σ' H' => σ'[0]? = some (some (.int (n : Int))) ∧ σ'[1]? = some (some (.ref a)) ∧ σ'[2]? = some (some (.ref p)) ∧ σ'.length = 9 ∧ Ex H H' ∧ ∃ as : List Addr, as.length = i ∧ (∀ x ∈ as, H x = none) ∧ Rows H' p as n (lineF []))
    (fun H2 e2 => ⟨rfl, rfl, rfl, rfl, e1.trans e2, [], rfl, fun x hx => absurd hx (by simp), ⟨e2 _ _ h1, .nil, by simp, fun u x hx => absurd hx (by simp)⟩⟩) (fun i σ' H' hi ⟨s0, s1, s2, sl, ex, as, hl, hnew, R⟩ => ?_) (fun σ' H' ⟨s0, s1, s2, sl, ex, as, hl, hnew, R⟩ => ?_)
  · -- rows.append([..])
    have st : ∀ x, wipe ((wipe (σ'.set 3 (some (.int (i : Int)))) [4]).set 4 (some x)) [4] = wipe (σ'.set 3 (some (.int (i : Int)))) [4] := fun x => by
      show (((σ'.set 3 _).set 4 none).set 4 (some x)).set 4 none = (σ'.set 3 _).set 4 none
      rw [List.set_set, List.set_set]
    have g3 : ∀ x, ((wipe (σ'.set 3 (some (.int (i : Int)))) [4]).set 4 (some x))[3]? = some (some (.int (i : Int))) := fun x => by
      show (((σ'.set 3 _).set 4 none).set 4 (some x))[3]? = _
      rw [List.getElem?_set_ne (by omega), List.getElem?_set_ne (by omega), set_at sl (by omega)]
    have g4 : ∀ x, ((wipe (σ'.set 3 (some (.int (i : Int)))) [4]).set 4 (some x))[4]? = some (some x) := fun x => by
      show (((σ'.set 3 _).set 4 none).set 4 (some x))[4]? = _
      rw [List.getElem?_set_self (by rw [List.length_set, List.length_set]; omega)]
    have q0 : (σ'.set 3 (some (.int (i : Int))))[0]? = some (some (.int (n : Int))) := by rw [List.getElem?_set_ne (by omega)]; exact s0
    have q2 : (σ'.set 3 (some (.int (i : Int))))[2]? = some (some (.ref p)) := by rw [List.getElem?_set_ne (by omega)]; exact s2
    refine s_appL (l := p) (xs := as.map V.ref) (ys := rowV n (lineF []) i) R.at_ (ev_var q2) ?_ (by rw [List.length_map, hl]; omega) fun q H2 hq e2 h2 => ?_
    · have key := el_lcR1 (t := tYes) (te := tIf (tTest (tOp rEq (tVar 3) (tVar 4))) (tC (.int 0)) (tC (.int 1000))) (j := 4) (vs := [4]) (n := (n : Int)) (σ := σ'.set 3 (some (.int (i : Int)))) (H := H') (fun _ => true) (fun v => .int (lineF [] i v : Int)) (ea_cons (ev_var q0) ea_nil) (by omega) st
        (fun v H1 _ _ H2 _ Q q => q H2 (Ex.refl H2)) (fun v H1 _ hv _ => ?_)
      · have e : given (n : Int).toNat (fun _ => true) (fun v => V.int (lineF [] i v : Int)) = rowV n (lineF []) i := by
          show ((List.range n).filter fun _ => true).map _ = _
          rw [List.filter_eq_self.mpr fun _ _ => rfl]
          show _ = ((List.range n).map (lineF [] i)).map _
          rw [List.map_map]
          rfl
        rw [e] at key
        exact key
      · refine ev_if (b := decide (i = v)) (et_is (et_test (ev_op (ev_var (g3 _)) (ev_var (g4 _)) (rv_eq rfl))) ?_) (fun hb => ev_is ev_c ?_) (fun hb => ev_is ev_c ?_)
        · by_cases hiv : i = v
          · subst hiv; simp
          · rw [decide_eq_false hiv]
            exact decide_eq_false fun z => hiv (by injection z with z; omega)
        · rw [lineF_nil, if_pos (of_decide_eq_true hb)]; rfl
        · rw [lineF_nil, if_neg (of_decide_eq_false hb)]; rfl
    · have hqp : q ≠ p := fun z => by rw [z, R.at_] at hq; cases hq
      have hqa : q ∉ as := fun z => by
        obtain ⟨u, hu⟩ := List.mem_iff_getElem?.mp z
        rw [R.row u q hu] at hq
        cases hq
      refine ⟨by rw [List.getElem?_set_ne (by omega)]; exact s0, by rw [List.getElem?_set_ne (by omega)]; exact s1, q2, by rw [List.length_set]; exact sl, (ex.trans e2).mut hp, as ++ [q], by rw [List.length_append, hl]; rfl, fun x hx => ?_, ⟨?_, ?_, ?_, ?_⟩⟩
      · rcases List.mem_append.mp hx with hx | hx
        · exact hnew x hx
        · rw [List.mem_singleton.mp hx]; exact fresh_back ex hq
      · rw [upd_same, List.map_append]; rfl
      · exact List.nodup_append.mpr ⟨R.nd, by simp, fun x hx y hy => by rw [List.mem_singleton.mp hy]; exact fun z => hqa (by rw [← z]; exact hx)⟩
      · intro z
        rcases List.mem_append.mp z with z | z
        · exact R.np z
        · exact hqp (List.mem_singleton.mp z).symm
      · intro u x hx
        by_cases hu : u < as.length
        · rw [List.getElem?_append_left hu] at hx
          rw [upd_ne (fun z => R.np (by rw [← z]; exact List.mem_of_getElem? hx))]
          exact e2 _ _ (R.row u x hx)
        · rw [List.getElem?_append_right (by omega)] at hx
          have hu2 : u - as.length = 0 := by
            have := (List.getElem?_eq_some_iff.mp hx).1
            simp at this
            omega
          rw [hu2] at hx
          cases hx
          have : u = i := by omega
          subst this
          rw [upd_ne hqp]
          exact h2
  · -- the lines
    have hl : as.length = n := hl
    have d0 : DInv n a p as H (lineF (s.take 0)) σ' H' := ⟨s0, s1, s2, sl, ex, R⟩
    refine q_forL (a := a) (xs := ts.map V.ref) (ev_var s1) (sq_of (ex _ _ hts)) (fun i σ2 H2 => DInv n a p as H (lineF (s.take i)) σ2 H2) (fun H2 e2 => d0.heap e2) (fun i σ2 H2 _ d => sq_of (d.ex _ _ hts)) (fun i x σ2 H2 hx d => ?_) (fun σ2 H2 d => ?_)
    · obtain ⟨t, ht, rfl⟩ : ∃ t, ts[i]? = some t ∧ x = V.ref t := by
        rw [List.getElem?_map] at hx
        cases e : ts[i]? with
        | none => rw [e] at hx; cases hx
        | some t => rw [e] at hx; exact ⟨t, rfl, (Option.some.inj hx).symm⟩
      have hi : i < s.length := by rw [← hls.1]; exact (List.getElem?_eq_some_iff.mp ht).1
      obtain ⟨l, hl2⟩ : ∃ l, s[i]? = some l := ⟨_, List.getElem?_eq_getElem hi⟩
      have htup := hls.2 i t l ht hl2
      have lmem : l ∈ s := List.mem_of_getElem? hl2
      have hab := ok.ab l lmem
      have hbn := ok.bn l lmem
      obtain ⟨xa, hxa⟩ : ∃ x, as[l.a]? = some x := ⟨_, List.getElem?_eq_getElem (by omega)⟩
      obtain ⟨xb, hxb⟩ : ∃ x, as[l.b]? = some x := ⟨_, List.getElem?_eq_getElem (by omega)⟩
      refine ⟨t, lineV l, rfl, st_of (d.ex _ _ htup), rfl, _, _, rfl, _, _, rfl, _, _, rfl, rfl, ?_⟩
      have d1 : DInv n a p as H (lineF (s.take i)) (((σ2.set 5 (some (.int (l.w : Int)))).set 6 (some (.int (l.a : Int)))).set 7 (some (.int (l.b : Int)))) H2 := ((d.put (by omega)).put (by omega)).put (by omega)
      have g5 : (((σ2.set 5 (some (.int (l.w : Int)))).set 6 (some (.int (l.a : Int)))).set 7 (some (.int (l.b : Int))))[5]? = some (some (.int (l.w : Int))) := by
        rw [List.getElem?_set_ne (by omega), List.getElem?_set_ne (by omega), set_at d.sl (by omega)]
      have g6 : (((σ2.set 5 (some (.int (l.w : Int)))).set 6 (some (.int (l.a : Int)))).set 7 (some (.int (l.b : Int))))[6]? = some (some (.int (l.a : Int))) := by
        rw [List.getElem?_set_ne (by omega), List.getElem?_set_self (by rw [List.length_set, d.sl]; omega)]
      have g7 : (((σ2.set 5 (some (.int (l.w : Int)))).set 6 (some (.int (l.a : Int)))).set 7 (some (.int (l.b : Int))))[7]? = some (some (.int (l.b : Int))) := by
        rw [List.getElem?_set_self (by rw [List.length_set, List.length_set, d.sl]; omega)]
      refine q_setL (d1.rows.row l.a xa hxa) (ev_var g5) (ev_rowx d1.rows d1.s2 g6 hxa) (ev_var g7) (by rw [rowV_len]; omega) fun H3 e3 => ?_
      have d2 := (d1.heap e3).store (v := l.b) (y := l.w) hnew hxa
      refine s_setL (d2.rows.row l.b xb hxb) (ev_var g5) (ev_rowx d2.rows d2.s2 g7 hxb) (ev_var g6) (by rw [rowV_len]; omega) fun H4 e4 => ?_
      have d3 := (d2.heap e4).store (v := l.a) (y := l.w) hnew hxb
      have et : s.take (i + 1) = s.take i ++ [l] := by rw [List.take_add_one, hl2]; rfl
      have el := lineF_more (p := s.take i) (l := l) hab (fun m hm => ok.ab m (List.mem_of_mem_take hm)) (fun m hm => ?_)
      · show DInv n a p as H (lineF (s.take (i + 1))) _ _
        rw [et, ← el]
        exact d3
      · obtain ⟨j, hj⟩ := List.mem_iff_getElem?.mp hm
        rw [List.getElem?_take] at hj
        split at hj
        · rename_i hji
          have hjl := (List.getElem?_eq_some_iff.mp hj).1
          have := (List.pairwise_iff_getElem.mp ok.once) j i hjl hi hji
          have e1 : s[j] = m := (List.getElem?_eq_some_iff.mp hj).2
          have e2 : s[i] = l := (List.getElem?_eq_some_iff.mp hl2).2
          rw [e1, e2] at this
          exact this
        · cases hj
    · -- by way of each place
      have el : (ts.map V.ref).length = s.length := by rw [List.length_map, hls.1]
      rw [el, List.take_length] at d
      have d0 : DInv n a p as H (dF s 0) σ2 H2 := d.func hl fun u v _ _ => lineF_start ok u v
      refine q_forR1 (n := (n : Int)) (ea_cons (ev_var d.s0) ea_nil) (by omega) (fun k σ3 H3 => DInv n a p as H (dF s k) σ3 H3) (fun H3 e3 => d0.heap e3) (fun k σ3 H3 hk d => ?_) (fun σ3 H3 d => ?_)
      · have hk : k < n := by omega
        have dk := d.put (j := 8) (v := some (.int (k : Int))) (by omega)
        have g8 : (σ3.set 8 (some (.int (k : Int))))[8]? = some (some (.int (k : Int))) := set_at d.sl (by omega)
        refine s_forR1 (n := (n : Int)) (ea_cons (ev_var dk.s0) ea_nil) (by omega) (fun u σ4 H4 => DInv n a p as H (mixF (dF s k) k u 0) σ4 H4 ∧ σ4[8]? = some (some (.int (k : Int)))) (fun H4 e4 => ⟨?_, g8⟩) (fun u σ4 H4 hu ⟨d4, q8⟩ => ?_) (fun σ4 H4 ⟨d4, q8⟩ => ?_)
        · have := dk.heap e4
          rw [← mixF_start (dF s k) k] at this
          exact this
        · have hu : u < n := by omega
          have du := d4.put (j := 3) (v := some (.int (u : Int))) (by omega)
          have g3 : (σ4.set 3 (some (.int (u : Int))))[3]? = some (some (.int (u : Int))) := set_at d4.sl (by omega)
          have g8' : (σ4.set 3 (some (.int (u : Int))))[8]? = some (some (.int (k : Int))) := by rw [List.getElem?_set_ne (by omega)]; exact q8
          refine s_forR1 (n := (n : Int)) (ea_cons (ev_var du.s0) ea_nil) (by omega) (fun v σ5 H5 => DInv n a p as H (mixF (dF s k) k u v) σ5 H5 ∧ σ5[8]? = some (some (.int (k : Int))) ∧ σ5[3]? = some (some (.int (u : Int)))) (fun H5 e5 => ⟨du.heap e5, g8', g3⟩) (fun v σ5 H5 hv ⟨d5, r8, r3⟩ => ?_) (fun σ5 H5 ⟨d5, r8, r3⟩ => ?_)
          · have hv : v < n := by omega
            have dv := d5.put (j := 4) (v := some (.int (v : Int))) (by omega)
            have w4 : (σ5.set 4 (some (.int (v : Int))))[4]? = some (some (.int (v : Int))) := set_at d5.sl (by omega)
            have w3 : (σ5.set 4 (some (.int (v : Int))))[3]? = some (some (.int (u : Int))) := by rw [List.getElem?_set_ne (by omega)]; exact r3
            have w8 : (σ5.set 4 (some (.int (v : Int))))[8]? = some (some (.int (k : Int))) := by rw [List.getElem?_set_ne (by omega)]; exact r8
            obtain ⟨xu, hxu⟩ : ∃ x, as[u]? = some x := ⟨_, List.getElem?_eq_getElem (by omega)⟩
            obtain ⟨xk, hxk⟩ : ∃ x, as[k]? = some x := ⟨_, List.getElem?_eq_getElem (by omega)⟩
            have hz := dF_diag s k k
            have evm := ev_min2 (ev_cell (K := K) dv.rows dv.s2 w3 w4 hxu hv) (ev_op (r := rI0 fun i j => .int (i + j)) (ev_cell (K := K) dv.rows dv.s2 w3 w8 hxu hk) (ev_cell (K := K) dv.rows dv.s2 w8 w4 hxk hv) (rv_I0 (g := fun i j => .int (i + j))))
            rw [mixF_here, mixF_col hz, mixF_rowk hz] at evm
            refine s_setL (dv.rows.row u xu hxu) evm (ev_rowx dv.rows dv.s2 w3 hxu) (ev_var w4) (by rw [rowV_len]; omega) fun H6 e6 => ?_
            have d6 := (dv.heap e6).store (v := v) (y := min (dF s k u v) (dF s k u k + dF s k k v)) hnew hxu
            rw [mixF_turn] at d6
            exact ⟨d6, w8, w3⟩
          · exact ⟨d5.func hl fun u' v' _ hv' => mixF_next hv', r8⟩
        · exact d4.func hl fun u' v' hu' _ => (mixF_end hu').trans (dF_next s k u' v').symm
      · refine s_ret (ev_var d.s2) fun H4 e4 => ?_
        exact k p H4 hp (d.ex.trans e4) ⟨as, hl, d.rows.ext e4⟩
theorem ok_dist0 (F : Fun K "distances" "distances" sDist f fd) (G : Glb mg) : FnOk P w K mg base CX0 1 f fd ["count", "lines"] spDist := by
  refine F.ok scDist (fun vs H Q E h => ?_) (fun cdv A outer s H vs Q E hr h => ⟨t_dist K, ?_, ?_⟩)
  · obtain ⟨n, a, s, rfl, _⟩ := h; rfl
  · exact pss_cons (ps_set (i := 2) scDist.nd rfl (Or.inl rfl) (pe_lst pa_nil))
      (pss_cons (ps_for PassesOwn.never rfl (pi_range1 rfl G.range (pa_cons (pv 0) pa_nil)) (pg_name (i := 3) scDist.nd rfl (Or.inr rfl))
          (pss_one (ps_expr (pe_bm PySem.F.plainAttrs_list PySem.F.slot_list_append PySem.F.type_list_append mt_append (pv 2) (pa_cons (pe_lc (own := [("v", 4)]) (g := gName 4) (tt := tYes) rfl scDist.nd (pi_range1 rfl G.range (pa_cons (pv 0) pa_nil)) (blkOk_by (N := nDist) (sc := defScope sDist) (by decide +kernel))
            (fun _ _ _ _ _ => pg_name (i := 4) scDist.nd rfl (Or.inl rfl)) (fun _ _ _ _ _ => pts_nil)
            (fun _ _ _ _ _ => pe_ifExp (pt_cmpR op_eq (pv 3) (pv 4) (nomark _)) pe_int (pe_gl rfl G.FAR))) pa_nil)))))
      (pss_cons (ps_for PassesOwn.never rfl (pi_list (pv 1)) (pg_tup rfl (pgs_cons (pg_name (i := 5) scDist.nd rfl (Or.inl rfl)) (pgs_cons (pg_name (i := 6) scDist.nd rfl (Or.inl rfl)) (pgs_cons (pg_name (i := 7) scDist.nd rfl (Or.inl rfl)) pgs_nil))))
          (pss_cons (ps_asg (pv 5) (pg_sub (pe_ix ix_list (pv 2) (pv 6) (fun _ _ => rfl)) (pv 7) set_list))
            (pss_one (ps_asg (pv 5) (pg_sub (pe_ix ix_list (pv 2) (pv 7) (fun _ _ => rfl)) (pv 6) set_list)))))
      (pss_cons (ps_for PassesOwn.never rfl (pi_range1 rfl G.range (pa_cons (pv 0) pa_nil)) (pg_name (i := 8) scDist.nd rfl (Or.inl rfl))
          (pss_one (ps_for PassesOwn.never rfl (pi_range1 rfl G.range (pa_cons (pv 0) pa_nil)) (pg_name (i := 3) scDist.nd rfl (Or.inr rfl))
            (pss_one (ps_for PassesOwn.never rfl (pi_range1 rfl G.range (pa_cons (pv 0) pa_nil)) (pg_name (i := 4) scDist.nd rfl (Or.inl rfl))
              (pss_one (ps_asg (pe_callB (call_min2 rfl) (by rfl) G.min boot_min (pa_cons (pe_ix ix_list (pe_ix ix_list (pv 2) (pv 3) (fun _ _ => rfl)) (pv 4) (fun _ _ => rfl)) (pa_cons (pe_op op_add (pe_ix ix_list (pe_ix ix_list (pv 2) (pv 3) (fun _ _ => rfl)) (pv 8) (fun _ _ => rfl)) (pe_ix ix_list (pe_ix ix_list (pv 2) (pv 8) (fun _ _ => rfl)) (pv 4) (fun _ _ => rfl))) pa_nil)))
                (pg_sub (pe_ix ix_list (pv 2) (pv 3) (fun _ _ => rfl)) (pv 4) set_list))))))))
      (pss_one (ps_ret (pv 2))))))
  · exact pure_dist vs H Q E h
end
end TP

/-! ## P3 -/
set_option Elab.async false
set_option linter.all false
set_option maxRecDepth 100000
set_option maxHeartbeats 2000000
namespace TP
open PySem PySem.Spec PyProof.Rows L2 Evl KeyL TT
open Kv402 (Line)
open Kv404 (in_ list_)
abbrev sNear : Stmt := top 37
abbrev sKnown : Stmt := top 42
abbrev sOne : Stmt := top 41
abbrev sHold : Stmt := top 44
abbrev sBest : Stmt := top 46
theorem foldl_min_le (l : List Nat) (m : Nat) (h : ∀ x ∈ l, x ≤ m) : l = [] ∧ l.foldl min m = m ∨ (l.foldl min m ∈ l ∧ ∀ y ∈ l, l.foldl min m ≤ y) := by
  cases l with
  | nil => exact .inl ⟨rfl, rfl⟩
  | cons a l =>
    have ha := h a List.mem_cons_self
    rw [List.foldl_cons, Nat.min_eq_right ha]
    exact .inr (fold_min_mem a l)
theorem least_is {l : List Nat} {m a b : Nat} (ha : a ∈ l) (hb : ∀ y ∈ l, a ≤ y) (hc : b ∈ l) (hd : ∀ y ∈ l, b ≤ y) : a = b := Nat.le_antisymm (hb b hc) (hd a ha)
section
variable {P : Program} {w : World} {K : PySem.W.Frag} {mg : Str → Option Value} {base : Heap} {f : Addr} {fd : FuncData}
theorem ev_lim {σ : L2.St} {H : Hp} {te td : TE} {ns : List Nat} (h : EvL te σ H (nV ns)) (hd : ∀ H', Ex H H' → Ev td σ H' (.int 1000)) (hle : ∀ n ∈ ns, n ≤ 1000) : Ev (tCKw (rMinDef K) (tCons te tNil) (tCons td tNil)) σ H (.int ((ns.foldl min 1000 : Nat) : Int)) := fun H1 e Q q =>
  h H1 e _ fun p H2 hp e2 h2 => hd H2 (e.trans e2) H2 (Ex.refl H2) _ fun H3 e3 => ⟨p, ns, .int 1000, rfl, rfl, sq_of (e3 _ _ h2), fun hn => by
    subst hn
    exact q H3 (e2.trans e3), fun m hm hy => by
    rcases foldl_min_le ns 1000 hle with ⟨z, _⟩ | ⟨z1, z2⟩
    · rw [z] at hm; cases hm
    · rw [least_is (m := 0) hm hy z1 z2]
      exact q H3 (e2.trans e3)⟩
/-- near_places(row, chosen) -/
def nearOf (ds cs : List Nat) : List Nat := (List.range ds.length).filter fun w => decide (ds.getD w 0 < (cs.map fun c => ds.getD c 0).foldl min 1000)
def spNear (K : PySem.W.Frag) : Sp := fun vs H Q _ => ∃ (r c : Addr) (ds cs : List Nat), vs = [.ref r, .ref c] ∧ SqL K H r (nV ds) ∧ SqL K H c (nV cs) ∧ ds.length ≤ 8 ∧ cs.length ≤ 8 ∧ (∀ x ∈ cs, x < ds.length) ∧ (∀ d ∈ ds, d ≤ 1000) ∧ RetL (nV (nearOf ds cs)) H Q
abbrev nNear : List Str := ["row", "chosen", "limit", "v"]
theorem scNear : FnScope nNear ["row", "chosen"] (defScope sNear) := ⟨rfl, rfl, rfl, by decide +kernel, rfl, by decide +kernel, by decide +kernel⟩
theorem nV_at {ds : List Nat} {v : Nat} (h : v < ds.length) : atI (nV ds) (v : Int) = some (.int ((ds.getD v 0 : Nat) : Int)) := by
  refine at_of rfl ?_
  rw [List.getElem?_map, List.getD_eq_getElem?_getD, List.getElem?_eq_getElem h]
  rfl
theorem getD_mem {ds : List Nat} {v : Nat} (h : v < ds.length) : ds.getD v 0 ∈ ds := by
  rw [List.getD_eq_getElem?_getD, List.getElem?_eq_getElem h]
  exact List.getElem_mem h
theorem given_all (n : Nat) (v : Nat → V) : given n (fun _ => true) v = (List.range n).map v := by
  unfold given
  rw [List.filter_eq_self.mpr fun _ _ => rfl]
theorem et_yes {σ : L2.St} {H : Hp} : EvT tYes σ H true := fun H2 _ Q q => q H2 (Ex.refl H2)
theorem map_range_get (cs : List Nat) (g : Nat → V) : (List.range cs.length).map (fun i => g (cs.getD i 0)) = cs.map g := by
  apply List.ext_getElem?
  intro i
  by_cases h : i < cs.length
  · rw [List.getElem?_map, List.getElem?_range h, List.getElem?_map, List.getElem?_eq_getElem h, Option.map_some, Option.map_some, List.getD_eq_getElem?_getD, List.getElem?_eq_getElem h]; rfl
  · rw [List.getElem?_eq_none (by rw [List.length_map, List.length_range]; omega), List.getElem?_eq_none (by rw [List.length_map]; omega)]
theorem nV_item {cs : List Nat} {i : Nat} {x : V} (h : (nV cs)[i]? = some x) : i < cs.length ∧ x = .int ((cs.getD i 0 : Nat) : Int) := by
  rw [List.getElem?_map] at h
  cases e : cs[i]? with
  | none => rw [e] at h; cases h
  | some c =>
    rw [e] at h
    refine ⟨(List.getElem?_eq_some_iff.mp e).1, ?_⟩
    rw [List.getD_eq_getElem?_getD, e]
    exact (Option.some.inj h).symm
theorem ok_near (F : Fun K "near_places" "near_places" sNear f fd) (G : Glb mg) : FnOk P w K mg base CX0 1 f fd ["row", "chosen"] (spNear K) := by
  refine F.ok scNear (fun vs H Q E h => ?_) (fun cdv A outer s H vs Q E hr h => ⟨_, 
    pss_cons (ps_set (i := 2) scNear.nd rfl (Or.inr rfl) (pe_callBK (cr_minDef hr) (by rfl) G.min boot_min (pa_cons (pe_lc (own := [("v", 3)]) (g := gName 3) (tt := tYes) (te := tOp (rIxL K) (tVar 0) (tVar 3)) rfl scNear.nd (pi_list (pv 1)) (blkOk_by (N := nNear) (sc := defScope sNear) (by decide +kernel))
        (fun _ _ _ _ _ => pg_name (i := 3) scNear.nd rfl (Or.inl rfl)) (fun _ _ _ _ _ => pts_nil) (fun _ _ _ _ _ => pe_ix ix_list (pv 0) (pv 3) (fun _ _ => rfl))) pa_nil) (pk_cons (pe_gl rfl G.FAR) pk_nil)))
    (pss_one (ps_ret (pe_lc (own := [("v", 3)]) (g := gName 3) (tt := tTest (tOp (rI0 fun i j => .bl (decide (i < j))) (tOp (rIxL K) (tVar 0) (tVar 3)) (tVar 2))) (te := tVar 3) rfl scNear.nd (pi_range1 rfl G.range (pa_cons (pe_callB call_len_seq (by rfl) G.len boot_len (pa_cons (pv 0) pa_nil)) pa_nil)) (blkOk_by (N := nNear) (sc := defScope sNear) (by decide +kernel))
        (fun _ _ _ _ _ => pg_name (i := 3) scNear.nd rfl (Or.inl rfl)) (fun _ _ _ _ _ => pts_one (pt_cmpR op_lt (pe_ix ix_list (pv 0) (pv 3) (fun _ _ => rfl)) (pv 2) (nomark _))) (fun _ _ _ _ _ => pv 3)))), ?_⟩)
  · obtain ⟨r, c, ds, cs, rfl, _⟩ := h; rfl
  · obtain ⟨r, c, ds, cs, rfl, hr', hc', hn, hm, hin, hle, k⟩ := h
    have hgv : ∀ x ∈ (cs.map fun c => ds.getD c 0), x ≤ 1000 := fun x hx => by
      obtain ⟨c0, hc0, rfl⟩ := List.mem_map.mp hx
      exact hle _ (getD_mem (hin c0 hc0))
    refine q_asg (v := .int (((cs.map fun c => ds.getD c 0).foldl min 1000 : Nat) : Int)) (ev_lim (ns := cs.map fun c => ds.getD c 0) ?_ (fun _ _ => ev_c) hgv) fun H1 e1 => ?_
    · have key := el_lcL (K := K) (t := tYes) (te := tOp (rIxL K) (tVar 0) (tVar 3)) (tl := tVar 1) (j := 3) (vs := [3]) (σ := start nNear [.ref r, .ref c]) (H := H) (fun _ => true) (fun i => .int ((ds.getD (cs.getD i 0) 0 : Nat) : Int)) (ev_var rfl) hc' (by rw [List.length_map]; omega) (fun x => rfl)
        (fun i x H1 _ _ => et_yes) (fun i x H1 e hx _ => ?_)
      · rw [given_all, List.length_map, map_range_get cs fun c => V.int ((ds.getD c 0 : Nat) : Int)] at key
        have e : nV (cs.map fun c => ds.getD c 0) = cs.map fun c => V.int ((ds.getD c 0 : Nat) : Int) := by
          show (cs.map fun c => ds.getD c 0).map _ = _
          rw [List.map_map]; rfl
        rw [e]
        exact key
      · obtain ⟨hi, rfl⟩ := nV_item hx
        exact ev_op (ev_var rfl) (ev_var rfl) (rv_ixL (ex_l e hr') (nV_at (hin _ (getD_mem hi))))
    · refine s_retL (el_lcR1 (n := ((nV ds).length : Int)) (fun i => decide (ds.getD i 0 < (cs.map fun c => ds.getD c 0).foldl min 1000)) (fun i => .int (i : Int)) (ea_cons (ev_len (ev_var rfl) (ex_l e1 hr')) ea_nil) (by rw [List.length_map]; omega) (fun x => rfl) (fun i H2 e2 hi => et_is (et_test (ev_op (ev_op (ev_var rfl) (ev_var rfl) (rv_ixL (ex_l (e1.trans e2) hr') (nV_at (by rw [List.length_map] at hi; omega)))) (ev_var rfl) rv_I0)) ?_) (fun i H2 e2 hi _ => ev_var rfl)) ?_
      · exact decide_eq_decide.mpr (by omega)
      · intro p H2 hp e2 h2
        refine k p H2 (fresh_back e1 hp) (e1.trans e2) ?_
        rw [h2]
        have e : ((nV ds).length : Int).toNat = ds.length := by rw [List.length_map]; rfl
        rw [e]
        rfl
end
/-! ### defs called by name -/
structure Cal (P : Program) (w : World) (K : PySem.W.Frag) (mg : Str → Option Value) (base : Heap) (k : Nat) (x : Str) (sp : Sp) : Prop where
  ex : ∃ (f : Addr) (fd : FuncData) (ps : List Str), FnOk P w K mg base CX0 k f fd ps sp ∧ mg x = some (.ref f) ∧ PySem.W.keepIn K (.ref f) = true ∧ Binds K fd ps []
theorem pe_cal {X : Cx} {k j : Nat} {x : Str} {sp : Sp} {p pos : Pos} {e : Expr} {es : List Expr} {t : TA} (c : Cal X.prog X.w X.K X.mg X.base k x sp) (hr : Room j X.A) (hk : k ≤ j) (hg : Gl X x) (ha : PA X (e :: es) t)
    (hdb : (x == ("__debug__" : Str)) = false := by decide) (he : starEach (e :: es) X.env = (false, eval e X.env) :: starEach es X.env := by rfl) (hpl : (backTo pos (starEach es X.env)).any (·.1) = false := by rfl) :
    PE X (.Call (.Name x p) (e :: es) [] pos) (tCall sp [] E0 t) := by
  obtain ⟨f, fd, ps, F, hm, kp, b⟩ := c.ex
  exact pe_call F (hr.mono hk) hg hm kp b .nil pass0 ha hdb he hpl
theorem ev_cbL {σ : L2.St} {H : Hp} {te : TE} {xs : List V} {z : V} {r : List V → Hp → VK → Prop} (h : EvL te σ H xs) (hr : ∀ l H1, H1 l = some (.lst xs) → Ex H H1 → RC r [.ref l] H1 z) : Ev (tCB r (tCons te tNil)) σ H z := fun H1 e Q q =>
  h H1 e _ fun p H2 hp e2 h2 => hr p H2 h2 (e.trans e2) H2 (Ex.refl H2) Q fun H3 e3 => q H3 (e2.trans e3)
/-- how many numbers a list has, as a term -/
abbrev tLen (K : PySem.W.Frag) (ta : TE) : TE := tCB (rLenS K) (tCons ta tNil)
section
variable {P : Program} {w : World} {K : PySem.W.Frag} {mg : Str → Option Value} {base : Heap} {f : Addr} {fd : FuncData}
/-- known_by_one(row, chosen) -/
def spOne (K : PySem.W.Frag) : Sp := fun vs H Q _ => ∃ (r c : Addr) (ds cs : List Nat), vs = [.ref r, .ref c] ∧ SqL K H r (nV ds) ∧ SqL K H c (nV cs) ∧ ds.length ≤ 8 ∧ cs.length ≤ 8 ∧ (∀ x ∈ cs, x < ds.length) ∧ (∀ d ∈ ds, d ≤ 1000) ∧ RetV (.int (((nearOf ds cs).length + cs.length : Nat) : Int)) H Q
theorem scOne : FnScope ["row", "chosen"] ["row", "chosen"] (defScope sOne) := ⟨rfl, rfl, rfl, by decide +kernel, rfl, by decide +kernel, by decide +kernel⟩
theorem ok_one (F : Fun K "known_by_one" "known_by_one" sOne f fd) (G : Glb mg) (CN : Cal P w K mg base 1 "near_places" (spNear K)) : FnOk P w K mg base CX0 2 f fd ["row", "chosen"] (spOne K) := by
  refine F.ok scOne (fun vs H Q E h => ?_) (fun cdv A outer s H vs Q E hr h => ⟨tRet (tOp (rI0 fun i j => .int (i + j)) (tLen K (tCall (spNear K) [] E0 (tCons (tVar 0) (tCons (tVar 1) tNil)))) (tLen K (tVar 1))), ?_, ?_⟩)
  · obtain ⟨r, c, ds, cs, rfl, _⟩ := h; rfl
  · exact pss_one (ps_ret (pe_op op_add (pe_callB call_len_seq (by rfl) G.len boot_len (pa_cons (pe_cal CN hr (by decide) rfl (pa_cons (pv 0) (pa_cons (pv 1) pa_nil))) pa_nil)) (pe_callB call_len_seq (by rfl) G.len boot_len (pa_cons (pv 1) pa_nil))))
  · obtain ⟨r, c, ds, cs, rfl, h1, h2, h3, h4, h5, h6, k⟩ := h
    refine s_ret (ev_is (ev_op (ev_lenN (xs := nV (nearOf ds cs)) (el_call (ea_cons (ev_var rfl) (ea_cons (ev_var rfl) ea_nil)) fun H1 e1 Q' q' E' => ⟨r, c, ds, cs, rfl, ex_l e1 h1, ex_l e1 h2, h3, h4, h5, h6, fun p H2 a b d => q' p H2 a b d⟩)) (ev_len (ev_var rfl) h2) rv_I0) ?_) fun H1 e1 => k H1 e1
    show V.int _ = V.int _
    rw [List.length_map, List.length_map, Int.natCast_add]
/-- known_by_all(rows, choice) -/
def spKnown : Sp := fun vs H Q _ => ∃ (p : Addr) (n s : Nat) (D : Nat → Nat → Nat), vs = [.ref p, .int (s : Int)] ∧ RowsAt H p n D ∧ n ≤ 8 ∧ (∀ u v, D u v ≤ 1000) ∧ RetV (.int (allN n D s : Int)) H Q
abbrev nKnown : List Str := ["rows", "choice", "chosen", "row"]
theorem scKnown : FnScope nKnown ["rows", "choice"] (defScope sKnown) := ⟨rfl, rfl, rfl, by decide +kernel, rfl, by decide +kernel, by decide +kernel⟩
theorem getD_row {n v w : Nat} {D : Nat → Nat → Nat} (h : w < n) : ((List.range n).map (D v)).getD w 0 = D v w := by
  rw [List.getD_eq_getElem?_getD, List.getElem?_map, List.getElem?_range h]; rfl
theorem foldl_map_min (D : Nat → Nat → Nat) (v : Nat) : ∀ (l : List Nat) (m : Nat), (l.map (D v)).foldl min m = l.foldl (fun m c => min m (D v c)) m
  | [], m => rfl
  | a :: l, m => by rw [List.map_cons, List.foldl_cons, List.foldl_cons, foldl_map_min D v l]
theorem nearOf_row {n v s : Nat} {D : Nat → Nat → Nat} : nearOf ((List.range n).map (D v)) (list_ n s) = nearL n D s v := by
  unfold nearOf nearL limit
  rw [List.length_map, List.length_range]
  refine List.filter_congr fun w hw => ?_
  rw [getD_row (List.mem_range.mp hw)]
  have e : (list_ n s).map (fun c => ((List.range n).map (D v)).getD c 0) = (list_ n s).map (D v) := List.map_congr_left fun c hc => getD_row (mem_list hc).1
  rw [e, foldl_map_min]
theorem sum_nV (l : List Nat) : (l.map fun (n : Nat) => (n : Int)).sum = ((l.sum : Nat) : Int) := by
  induction l with
  | nil => rfl
  | cons a l ih => rw [List.map_cons, List.sum_cons, List.sum_cons, ih]; omega
theorem ok_known (F : Fun K "known_by_all" "known_by_all" sKnown f fd) (G : Glb mg) (CC : Cal P w K mg base 1 "chosen_places" spChosen) (CO : Cal P w K mg base 2 "known_by_one" (spOne K)) : FnOk P w K mg base CX0 3 f fd ["rows", "choice"] spKnown := by
  refine F.ok scKnown (fun vs H Q E h => ?_) (fun cdv A outer s H vs Q E hr h => ⟨tSeq (tAsg (tCall spChosen [] E0 (tCons (tVar 1) (tCons (tLen K (tVar 0)) tNil))) (gName 2))
      (tRet (tCB (rSum K) (tCons (tLc (iList K (tVar 0)) (gName 3) tYes (tCall (spOne K) [] E0 (tCons (tVar 3) (tCons (tVar 2) tNil))) [3]) tNil))), ?_, ?_⟩)
  · obtain ⟨p, n, s, D, rfl, _⟩ := h; rfl
  · exact pss_cons (ps_set (i := 2) scKnown.nd rfl (Or.inr rfl) (pe_cal CC hr (by decide) rfl (pa_cons (pv 1) (pa_cons (pe_callB call_len_seq (by rfl) G.len boot_len (pa_cons (pv 0) pa_nil)) pa_nil))))
      (pss_one (ps_ret (pe_callB (cr_sum rfl) (by rfl) G.sum boot_sum (pa_cons (pe_lc (own := [("row", 3)]) (g := gName 3) (tt := tYes) rfl scKnown.nd (pi_list (pv 0)) (blkOk_by (N := nKnown) (sc := defScope sKnown) (by decide +kernel))
          (fun _ _ _ _ _ => pg_name (i := 3) scKnown.nd rfl (Or.inl rfl)) (fun _ _ _ _ _ => pts_nil)
          (fun _ _ _ _ _ => pe_cal CO hr (by decide) rfl (pa_cons (pv 3) (pa_cons (pv 2) pa_nil)))) pa_nil))))
  · obtain ⟨p, n, s, D, rfl, ⟨as, hl, R⟩, hn, hle, k⟩ := h
    have ll : (as.map V.ref).length = n := by rw [List.length_map]; exact hl
    refine q_asgL (xs := nV (list_ n s)) (el_call (ea_cons (ev_var rfl) (ea_cons (ev_len (ev_var rfl) (sq_of R.at_)) ea_nil)) fun H1 e1 Q' q' E' => ⟨s, n, by rw [ll]; rfl, hn, fun p2 H2 h1 h2 h3 => q' p2 H2 h1 h2 h3⟩) fun c H1 hc e1 h1 => ?_
    have Lc : (list_ n s).length ≤ 8 := Nat.le_trans (list_len n s) hn
    refine s_ret (v := .int (allN n D s : Int)) ?_ fun H2 e2 => k H2 (e1.trans e2)
    have key := el_lcL (K := K) (t := tYes) (te := tCall (spOne K) [] E0 (tCons (tVar 3) (tCons (tVar 2) tNil))) (tl := tVar 0) (j := 3) (vs := [3]) (σ := (start nKnown [.ref p, .int (s : Int)]).set 2 (some (.ref c))) (H := H1) (xs := as.map V.ref) (fun _ => true) (fun v => .int (((nearL n D s v).length + (list_ n s).length : Nat) : Int)) (ev_var rfl) (sq_of (e1 _ _ R.at_)) (by rw [ll]; omega) (fun x => rfl)
        (fun i x H2 _ _ => et_yes) (fun i x H2 e2 hx _ => ?_)
    · refine ev_cbL key fun l H3 h3 e3 H4 e4 Q q => ⟨l, ((List.range n).map fun v => (nearL n D s v).length + (list_ n s).length).map fun (m : Nat) => (m : Int), rfl, sq_of (e4 _ _ ?_), ?_⟩
      · rw [h3, given_all, ll, List.map_map, List.map_map]; rfl
      · rw [sum_nV, sum_add_const, List.length_range]; exact q H4 (Ex.refl H4)
    · obtain ⟨x, hx2, rfl⟩ : ∃ t, as[i]? = some t ∧ x = V.ref t := by
        rw [List.getElem?_map] at hx
        cases e : as[i]? with
        | none => rw [e] at hx; cases hx
        | some t => rw [e] at hx; exact ⟨t, rfl, (Option.some.inj hx).symm⟩
      refine ev_call (ea_cons (ev_var rfl) (ea_cons (ev_var rfl) ea_nil)) fun H3 e3 Q' q' E' => ⟨x, c, (List.range n).map (D i), list_ n s, rfl, sq_of (e3 _ _ (e2 _ _ (e1 _ _ (R.row i x hx2)))), sq_of (e3 _ _ (e2 _ _ h1)), ?_, Lc, ?_, ?_, fun H4 q1 => ?_⟩
      · rw [List.length_map, List.length_range]; exact hn
      · rw [List.length_map, List.length_range]; exact fun y hy => (mem_list hy).1
      · intro d hd
        obtain ⟨y, _, rfl⟩ := List.mem_map.mp hd
        exact hle _ _
      · rw [nearOf_row]
        exact q' H4 q1
end
end TP

/-! ## P4 -/
set_option Elab.async false
set_option linter.all false
set_option maxRecDepth 100000
set_option maxHeartbeats 2000000
namespace TP
open PySem PySem.Spec PyProof.Rows L2 Evl KeyL TT
open Kv402 (Line)
open Kv404 (in_ list_)
theorem ex_firstMin (c : Nat → Nat) : ∀ n, 0 < n → ∃ w, FirstMin n c w
  | 0, h => absurd h (by omega)
  | 1, _ => ⟨0, by omega, fun x hx => by have : x = 0 := by omega
                                         rw [this]; exact Nat.le_refl _, fun x hx => absurd hx (by omega)⟩
  | n + 2, _ => by
    obtain ⟨w, h1, h2, h3⟩ := ex_firstMin c (n + 1) (by omega)
    by_cases h : c (n + 1) < c w
    · refine ⟨n + 1, by omega, fun x hx => ?_, fun x hx => ?_⟩
      · by_cases hx2 : x = n + 1
        · rw [hx2]; exact Nat.le_refl _
        · have := h2 x (by omega); omega
      · have := h2 x hx; omega
    · refine ⟨w, by omega, fun x hx => ?_, h3⟩
      by_cases hx2 : x = n + 1
      · rw [hx2]; omega
      · exact h2 x (by omega)
theorem ex_firstMax (c : Nat → Nat) : ∀ n, 0 < n → ∃ w, FirstMax n c w
  | 0, h => absurd h (by omega)
  | 1, _ => ⟨0, by omega, fun x hx => by have : x = 0 := by omega
                                         rw [this]; exact Nat.le_refl _, fun x hx => absurd hx (by omega)⟩
  | n + 2, _ => by
    obtain ⟨w, h1, h2, h3⟩ := ex_firstMax c (n + 1) (by omega)
    by_cases h : c w < c (n + 1)
    · refine ⟨n + 1, by omega, fun x hx => ?_, fun x hx => ?_⟩
      · by_cases hx2 : x = n + 1
        · rw [hx2]; exact Nat.le_refl _
        · have := h2 x (by omega); omega
      · have := h2 x hx; omega
    · refine ⟨w, by omega, fun x hx => ?_, h3⟩
      by_cases hx2 : x = n + 1
      · rw [hx2]; omega
      · exact h2 x (by omega)
theorem inV_nV (g : List Nat) (x : Nat) : inV (.int (x : Int)) (nV g) = g.contains x := by
  unfold inV
  rw [List.any_map, List.contains_eq_any_beq]
  congr 1
  funext y
  show ((y : Int) == (x : Int)) = (x == y)
  by_cases h : x = y
  · subst h; simp
  · have h1 : ((y : Int) == (x : Int)) = false := beq_eq_false_iff_ne.mpr (by omega)
    have h2 : (x == y) = false := beq_eq_false_iff_ne.mpr h
    rw [h1, h2]
theorem flat_nV (g : List Nat) : (nV g).all flatV = true := by
  rw [List.all_map, List.all_eq_true]
  intro x _
  rfl
/-! ### lists of lists of numbers in the heap -/
def GroupsL (H : Hp) (ts : List Addr) (gs : List (List Nat)) : Prop := ts.length = gs.length ∧ ∀ (i : Nat) (t : Addr) (g : List Nat), ts[i]? = some t → gs[i]? = some g → H t = some (.lst (nV g))
def GroupsAt (H : Hp) (p : Addr) (gs : List (List Nat)) : Prop := ∃ ts : List Addr, H p = some (.lst (ts.map V.ref)) ∧ GroupsL H ts gs
theorem ref_item {ts : List Addr} {i : Nat} {x : V} (h : (ts.map V.ref)[i]? = some x) : ∃ t, ts[i]? = some t ∧ x = V.ref t := by
  rw [List.getElem?_map] at h
  cases e : ts[i]? with
  | none => rw [e] at h; cases h
  | some t => rw [e] at h; exact ⟨t, rfl, (Option.some.inj h).symm⟩
theorem GroupsL.get {H : Hp} {ts : List Addr} {gs : List (List Nat)} (h : GroupsL H ts gs) {i : Nat} {t : Addr} (ht : ts[i]? = some t) : ∃ g, gs[i]? = some g ∧ H t = some (.lst (nV g)) := by
  have hi := (List.getElem?_eq_some_iff.mp ht).1
  obtain ⟨g, hg⟩ : ∃ g, gs[i]? = some g := ⟨_, List.getElem?_eq_getElem (by rw [← h.1]; exact hi)⟩
  exact ⟨g, hg, h.2 i t g ht hg⟩
/-- what a filter keeps, by places -/
theorem filter_places {α : Type} (gs : List α) (d : α) (p : α → Bool) : ((List.range gs.length).filter fun i => p (gs.getD i d)).map (fun i => gs.getD i d) = gs.filter p := by
  have e : (List.range gs.length).map (fun i => gs.getD i d) = gs := by
    apply List.ext_getElem?
    intro i
    by_cases h : i < gs.length
    · rw [List.getElem?_map, List.getElem?_range h, List.getElem?_eq_getElem h, Option.map_some, List.getD_eq_getElem?_getD, List.getElem?_eq_getElem h]; rfl
    · rw [List.getElem?_eq_none (by rw [List.length_map, List.length_range]; omega), List.getElem?_eq_none (by omega)]
  have e2 : gs.filter p = ((List.range gs.length).map (fun i => gs.getD i d)).filter p := by rw [e]
  rw [e2, List.filter_map]
  rfl
section
variable {P : Program} {w : World} {K : PySem.W.Frag} {mg : Str → Option Value} {base : Heap} {f : Addr} {fd : FuncData}
/-- how_many_hold(groups, place) -/
def spHold : Sp := fun vs H Q _ => ∃ (p : Addr) (gs : List (List Nat)) (x : Nat), vs = [.ref p, .int (x : Int)] ∧ GroupsAt H p gs ∧ gs.length ≤ 8 ∧ RetV (.int (((gs.filter fun g => g.contains x).length : Nat) : Int)) H Q
abbrev nHold : List Str := ["groups", "place", "group"]
theorem scHold : FnScope nHold ["groups", "place"] (defScope sHold) := ⟨rfl, rfl, rfl, by decide +kernel, rfl, by decide +kernel, by decide +kernel⟩
theorem ok_hold (F : Fun K "how_many_hold" "how_many_hold" sHold f fd) (G : Glb mg) : FnOk P w K mg base CX0 1 f fd ["groups", "place"] spHold := by
  refine F.ok scHold (fun vs H Q E h => ?_) (fun cdv A outer s H vs Q E hr h => ⟨tRet (tLen K (tLc (iList K (tVar 0)) (gName 2) (tTest (tOp (rIn K false) (tVar 1) (tVar 2))) (tVar 2) [2])), ?_, ?_⟩)
  · obtain ⟨p, gs, x, rfl, _⟩ := h; rfl
  · exact pss_one (ps_ret (pe_callB call_len_seq (by rfl) G.len boot_len (pa_cons (pe_lc (own := [("group", 2)]) (g := gName 2) rfl scHold.nd (pi_list (pv 0)) (blkOk_by (N := nHold) (sc := defScope sHold) (by decide +kernel))
        (fun _ _ _ _ _ => pg_name (i := 2) scHold.nd rfl (Or.inl rfl)) (fun _ _ _ _ _ => pts_one (pt_cmpR op_in_seq (pv 1) (pv 2) (by with_unfolding_all rfl))) (fun _ _ _ _ _ => pv 2)) pa_nil)))
  · obtain ⟨p, gs, x, rfl, ⟨ts, hp, hg⟩, hn, k⟩ := h
    have ll : (ts.map V.ref).length = gs.length := by rw [List.length_map]; exact hg.1
    have key := el_lcL (K := K) (t := tTest (tOp (rIn K false) (tVar 1) (tVar 2))) (te := tVar 2) (tl := tVar 0) (j := 2) (vs := [2]) (σ := start nHold [.ref p, .int (x : Int)]) (H := H) (xs := ts.map V.ref) (fun i => (gs.getD i []).contains x) (fun i => .ref (ts.getD i 0)) (ev_var rfl) (sq_of hp) (by rw [ll]; omega) (fun x => rfl)
      (fun i y H1 e1 hy => ?_) (fun i y H1 e1 hy _ => ?_)
    · refine s_ret (ev_is (ev_lenN key) ?_) fun H2 e2 => k H2 e2
      rw [ll]
      show V.int ((given gs.length _ _).length : Int) = _
      unfold given
      rw [List.length_map]
      have e := congrArg List.length (filter_places gs [] fun g => g.contains x)
      rw [List.length_map] at e
      rw [e]
    · obtain ⟨t, ht, rfl⟩ := ref_item hy
      obtain ⟨g, hg1, hg2⟩ := hg.get ht
      refine et_is (et_test (ev_op (ev_var rfl) (ev_var rfl) (rv_isL (sq_of (e1 _ _ hg2)) rfl (flat_nV g)))) ?_
      rw [inV_nV, List.getD_eq_getElem?_getD, hg1]; rfl
    · obtain ⟨t, ht, rfl⟩ := ref_item hy
      refine ev_is (ev_var rfl) ?_
      rw [List.getD_eq_getElem?_getD, ht]; rfl
/-- best_choice(rows) -/
def spBest : Sp := fun vs H Q _ => ∃ (p : Addr) (n : Nat) (D : Nat → Nat → Nat), vs = [.ref p] ∧ RowsAt H p n D ∧ n ≤ 8 ∧ (∀ u v, D u v ≤ 1000) ∧ ∀ b, FirstMin (2 ^ n) (allN n D) b → RetV (.int (b : Int)) H Q
abbrev nBest : List Str := ["rows", "totals", "choice"]
theorem scBest : FnScope nBest ["rows"] (defScope sBest) := ⟨rfl, rfl, rfl, by decide +kernel, rfl, by decide +kernel, by decide +kernel⟩
abbrev rShl1 : R2 := fun x y H Q => ∃ k : Nat, x = .int 1 ∧ y = .int (k : Int) ∧ k ≤ 134217727 ∧ Q (.int (2 ^ k)) H
theorem rv_shl1 {H : Hp} {k : Nat} (h : k ≤ 100) : RV rShl1 (.int 1) (.int (k : Int)) H (.int ((2 ^ k : Nat) : Int)) := rv_val fun H1 _ Q q => ⟨k, rfl, rfl, by omega, by
  have e : (2 : Int) ^ k = ((2 ^ k : Nat) : Int) := by rw [Int.natCast_pow]; rfl
  rw [e]; exact q⟩
theorem ok_best (F : Fun K "best_choice" "best_choice" sBest f fd) (G : Glb mg) (CK : Cal P w K mg base 3 "known_by_all" spKnown) : FnOk P w K mg base CX0 4 f fd ["rows"] spBest := by
  refine F.ok scBest (fun vs H Q E h => ?_) (fun cdv A outer s H vs Q E hr h => ⟨tSeq (tAsg (tLc (iRng1 (tCons (tOp rShl1 (tC (.int 1)) (tLen K (tVar 0))) tNil)) (gName 2) tYes (tCall spKnown [] E0 (tCons (tVar 0) (tCons (tVar 2) tNil))) [2]) (gName 1))
      (tRet (tBM K "list" (rIndex K) (tVar 1) (tCons (tCB (rMin K) (tCons (tVar 1) tNil)) tNil))), ?_, ?_⟩)
  · obtain ⟨p, n, D, rfl, _⟩ := h; rfl
  · exact pss_cons (ps_setLc (i := 1) (own := [("choice", 2)]) (g := gName 2) (tt := tYes) rfl scBest.nd rfl rfl (sw_true rfl rfl rfl (by decide +kernel)) (pi_range1 rfl G.range (pa_cons (pe_op op_oneShl pe_int (pe_callB call_len_seq (by rfl) G.len boot_len (pa_cons (pv 0) pa_nil))) pa_nil)) (blkOk_by (N := nBest) (sc := defScope sBest) (by decide +kernel))
        (fun _ _ _ _ _ => pg_name (i := 2) scBest.nd rfl (Or.inl rfl)) (fun _ _ _ _ _ => pts_nil) (fun _ _ _ _ _ => pe_cal CK hr (by decide) rfl (pa_cons (pv 0) (pa_cons (pv 2) pa_nil))))
      (pss_one (ps_ret (pe_bm PySem.F.plainAttrs_list PySem.F.slot_list_index PySem.F.type_list_index mt_index (pv 1) (pa_cons (pe_callB (cr_min rfl) (by rfl) G.min boot_min (pa_cons (pv 1) pa_nil)) pa_nil))))
  · obtain ⟨p, n, D, rfl, ⟨as, hl, R⟩, hn, hle, k⟩ := h
    have ll : (as.map V.ref).length = n := by rw [List.length_map]; exact hl
    have h2n : 2 ^ n ≤ 256 := Nat.pow_le_pow_right (n := 2) (by omega) hn
    have h2p : 0 < 2 ^ n := Nat.two_pow_pos n
    obtain ⟨b, hb⟩ := ex_firstMin (allN n D) (2 ^ n) h2p
    have ev2 : Ev (tOp rShl1 (tC (.int 1)) (tLen K (tVar 0))) (start nBest [.ref p]) H (.int ((2 ^ n : Nat) : Int)) := by
      refine ev_op ev_c (ev_len (ev_var rfl) (sq_of R.at_)) ?_
      rw [ll]; exact rv_shl1 (by omega)
    have key := el_lcR1 (t := tYes) (te := tCall spKnown [] E0 (tCons (tVar 0) (tCons (tVar 2) tNil))) (j := 2) (vs := [2]) (n := ((2 ^ n : Nat) : Int)) (σ := start nBest [.ref p]) (H := H) (fun _ => true) (fun i => .int (allN n D i : Int)) (ea_cons ev2 ea_nil) (by omega) (fun x => rfl)
      (fun i H1 e1 hi => et_yes) (fun i H1 e1 hi _ => ev_call (ea_cons (ev_var rfl) (ea_cons (ev_var rfl) ea_nil)) fun H2 e2 Q' q' E' => ⟨p, n, i, D, rfl, ⟨as, hl, R.ext (e1.trans e2)⟩, hn, hle, fun H3 e3 => q' H3 e3⟩)
    have et : given ((2 ^ n : Nat) : Int).toNat (fun _ => true) (fun i => V.int (allN n D i : Int)) = nV ((List.range (2 ^ n)).map (allN n D)) := by
      rw [given_all, Int.toNat_natCast]
      show _ = ((List.range (2 ^ n)).map (allN n D)).map _
      rw [List.map_map]; rfl
    rw [et] at key
    refine q_asgL key fun l H1 hl1 e1 h1 => ?_
    have hlen : ((List.range (2 ^ n)).map (allN n D)).length = 2 ^ n := by rw [List.length_map, List.length_range]
    have hat : ∀ i, i < 2 ^ n → ((List.range (2 ^ n)).map (allN n D))[i]? = some (allN n D i) := fun i hi => by rw [List.getElem?_map, List.getElem?_range hi]; rfl
    refine s_ret (v := .int (b : Int)) ?_ fun H2 e2 => k b hb H2 (e1.trans e2)
    intro H2 e2 Q' q'
    refine ⟨.ref l, rfl, Or.inl ⟨rfl, _, sq_of (e2 _ _ h1)⟩, .ref l, rfl, l, ((List.range (2 ^ n)).map (allN n D)).map fun (m : Nat) => (m : Int), rfl, sq_of (by rw [e2 _ _ h1, List.map_map]; rfl), by rw [List.length_map, hlen]; exact h2p, fun m hm hy => ?_⟩
    obtain ⟨m', hm', rfl⟩ := List.mem_map.mp hm
    obtain ⟨j, hj, rfl⟩ := List.mem_map.mp hm'
    have hj : j < 2 ^ n := List.mem_range.mp hj
    have hmb : allN n D j = allN n D b := by
      have h1 := hb.2.1 j hj
      have h2 := hy (allN n D b : Int) (List.mem_map.mpr ⟨allN n D b, List.mem_map.mpr ⟨b, List.mem_range.mpr hb.1, rfl⟩, rfl⟩)
      omega
    rw [hmb]
    refine ⟨l, _, .int (allN n D b : Int), b, .int (allN n D b : Int), rfl, rfl, sq_of (e2 _ _ h1), rfl, flat_nV _, ?_, ?_, fun i z hi hz => ?_, q' H2 (Ex.refl H2)⟩
    · rw [List.getElem?_map, hat b hb.1]; rfl
    · show ((allN n D b : Int) == (allN n D b : Int)) = true
      simp
    · rw [List.getElem?_map, hat i (by have := hb.1; omega)] at hz
      cases hz
      have := hb.2.2 i hi
      show ((allN n D i : Int) == (allN n D b : Int)) = false
      rw [beq_eq_false_iff_ne]
      omega
end
end TP

/-! ## P5 -/
set_option Elab.async false
set_option linter.all false
set_option maxRecDepth 100000
set_option maxHeartbeats 2000000
namespace TP
open PySem PySem.Spec PyProof.Rows L2 Evl KeyL TT LamX
open Kv402 (Line)
open Kv404 (in_ list_)
abbrev sNearest : Stmt := top 36
abbrev sFirst : Stmt := top 43
abbrev sGreedy : Stmt := top 45
/-! ### slices -/
theorem cut_to (xs : List V) (k : Nat) : cutV xs none (some (k : Int)) = xs.take k := by
  unfold cutV
  rw [HT.sIx_nat, HT.sIx_none, List.drop_zero, Nat.sub_zero]
  exact List.take_eq_take_min.symm
theorem cut_from (xs : List V) (k : Nat) : cutV xs (some (k : Int)) none = xs.drop k := by
  unfold cutV
  rw [HT.sIx_nat, HT.sIx_none]
  by_cases h : k ≤ xs.length
  · rw [Nat.min_eq_left h]
    exact List.take_of_length_le (by rw [List.length_drop]; omega)
  · rw [Nat.min_eq_right (by omega), List.drop_of_length_le (Nat.le_refl _), List.drop_of_length_le (by omega)]
    simp
theorem cut_mid (xs : List V) (i j : Nat) (h : i ≤ j) (hj : j ≤ xs.length) : cutV xs (some (i : Int)) (some (j : Int)) = (xs.drop i).take (j - i) := by
  unfold cutV
  rw [HT.sIx_nat, HT.sIx_nat, Nat.min_eq_left hj, Nat.min_eq_left (by omega)]
/-! ### a def whose code object is known -/
structure FunC (K : PySem.W.Frag) (x qual : Str) (st : Stmt) (f : Addr) (fd : FuncData) (c : Addr) : Prop where
  ex : ∃ (oc : Value) (od : Option Addr) (kV doc pm : Value) (an : Option Addr) (ct : Value) (osl : Array (Option Value)),
    fd = PySem.W.fnOf x qual (defArgs st) (defBody st) (defScope st) .none kV doc pm an (.ref c) ct ∧ K.lookup f = some ⟨oc, od, .func fd, osl⟩ ∧ PySem.W.codeIn K (.ref c) qual = true
  kp : PySem.W.keepIn K (.ref f) = true
/-- a table of code objects: where it stands, the name that its lambdas bear -/
structure TabF (T : List (Addr × Str)) (base : Heap) (mg : Str → Option Value) (c P : Addr) (q : Str) : Prop where
  tb : TabB base mg c P
  mem : (P, q) ∈ T
  one : ∀ p ∈ T, p.1 = P → p.2 = q
section
variable {P : Program} {w : World} {K : PySem.W.Frag} {mg : Str → Option Value} {base : Heap} {f : Addr} {fd : FuncData} {T : List (Addr × Str)}
theorem FunC.ok {x qual : Str} {st : Stmt} {c : Addr} {N ps : List Str} {k : Nat} {sp : Sp} (F : FunC K x qual st f fd c) (S : FnScope N ps (defScope st)) (len : ∀ vs H Q E, sp vs H Q E → vs.length = ps.length)
    (hbody : ∀ (A : Around) (outer : List Env) (s : Shared) (H : Hp) (vs : List V) (Q : VK) (E : XK), Room k (A.deeper (envOfC qual (defScope st) s.heap.objs.size f (.ref c))) → sp vs H Q E →
      ∃ t, PSs (cxOf CX0 P w K mg base N qual (defScope st) f (.ref c) A outer s H E).nox (defBody st) t ∧ t { nx := fun _ H' => Q .non H', rt := Q } (start N vs) H) : FnOk P w K mg base CX0 (k + 1) f fd ps sp := by
  obtain ⟨oc, od, kV, doc, pm, an, ct, osl, rfl, lk, hcd⟩ := F.ex
  refine fn_of lk hcd S len fun A outer s H vs Q E hr hsp => ?_
  obtain ⟨t, h, q⟩ := hbody A outer s H vs Q E hr hsp
  exact ⟨t, h.nox, q⟩
/-- what comes back where tables may grow: a value, a new list -/
def BackV (T : List (Addr × Str)) (v : V) (H : Hp) (Q : VK) : Prop := ∀ H', ExtN H H' → Tabs T H' → Q v H'
def FreshN (H : Hp) (p : Addr) : Prop := ∀ o, H p = some o → ∃ ps, o = .tbl ps
def BackL (T : List (Addr × Str)) (xs : List V) (H : Hp) (Q : VK) : Prop := ∀ p H', FreshN H p → ExtN H H' → Tabs T H' → H' p = some (.lst xs) → Q (.ref p) H'
theorem freshN {H H' : Hp} {p : Addr} (e : ExtN H H') (h : H' p = none) : FreshN H p := fun o ho => by
  by_cases hp : ∃ ps, o = .tbl ps
  · exact hp
  · rw [e p o ho fun ps z => hp ⟨ps, z⟩] at h
    cases h
/-- those that a way leads to -/
def reachOf (ds cs : List Nat) : List Nat := cs.filter fun c => decide (ds.getD c 0 < 1000)
/-- nearest_chosen(row, chosen) -/
def spNearest (K : PySem.W.Frag) (T : List (Addr × Str)) : Sp := fun vs H Q _ => ∃ (r c : Addr) (ds cs : List Nat), vs = [.ref r, .ref c] ∧ SqL K H r (nV ds) ∧ SqL K H c (nV cs) ∧ ds.length ≤ 8 ∧ cs.length ≤ 8 ∧ (∀ x ∈ cs, x < ds.length) ∧ Tabs T H ∧
  (reachOf ds cs = [] → BackV T .non H Q) ∧ ∀ x, Least ds (reachOf ds cs) x → BackV T (.int (x : Int)) H Q
abbrev nNearest : List Str := ["row", "chosen", "reached", "v"]
theorem scNearest : FnScope nNearest ["row", "chosen"] (defScope sNearest) := ⟨rfl, rfl, rfl, by decide +kernel, rfl, by decide +kernel, by decide +kernel⟩
abbrev tLt : R2 := rI0 fun i j => .bl (decide (i < j))
theorem kscope {x r : Str} {sc : Scope} (h : decide (sc.kind = .function) && !sc.isCoroutine && !sc.isGenerator && sc.names.all (fun y => !decide (y.2 = .cell)) && decide (sc.names.lookup x = some .local) && decide (sc.names.lookup r = some .free) && !(x == ("__debug__" : Str)) && !(r == ("__debug__" : Str)) && !(r == ("__classdict__" : Str)) = true) : KScope x r sc := by
  simp only [Bool.and_eq_true, Bool.not_eq_true', decide_eq_true_eq, List.all_eq_true, decide_eq_false_iff_not] at h
  obtain ⟨⟨⟨⟨⟨⟨⟨⟨h1, h2⟩, h3⟩, h4⟩, h5⟩, h6⟩, h7⟩, h8⟩, h9⟩ := h
  exact ⟨h1, h2, h3, h4, h5, h6, by simpa using h7, by simpa using h8, by simpa using h9⟩
theorem free_cell {sc sc' : Scope} (h : sc.names.all (fun y => !decide (y.2 = .free) || decide (sc'.names.lookup y.1 = some .cell)) = true) : ∀ y ∈ sc.names, y.2 = .free → sc'.names.lookup y.1 = some .cell := fun y hy z => by
  have q := List.all_eq_true.mp h y hy
  rw [decide_eq_true z] at q
  simpa using q
theorem ok_nearest {c P0 : Addr} (F : FunC K "nearest_chosen" "nearest_chosen" sNearest f fd c) (G : Glb mg) (TF : TabF T base mg c P0 ("nearest_chosen.<locals>." ++ "<lambda>")) : FnOk P w K mg base CX0 1 f fd ["row", "chosen"] (spNearest K T) := by
  refine F.ok scNearest (fun vs H Q E h => ?_) (fun A outer s H vs Q E hr h => ⟨tSeq (tAsg (tLc (iList K (tVar 1)) (gName 3) (tTest (tOp tLt (tOp (rIxL K) (tVar 0) (tVar 3)) (tC (.int 1000)))) (tVar 3) [3]) (gName 2)) (tRet (tMinKey K T 0 (tVar 2))), ?_, ?_⟩)
  · obtain ⟨r, c, ds, cs, rfl, _⟩ := h; rfl
  · exact pss_cons (ps_setLc (i := 2) (own := [("v", 3)]) (g := gName 3) rfl scNearest.nd rfl rfl (sw_true rfl rfl rfl (by decide +kernel)) (pi_list (pv 1)) (blkOk_by (N := nNearest) (sc := defScope sNearest) (by decide +kernel))
        (fun _ _ _ _ _ => pg_name (i := 3) scNearest.nd rfl (Or.inl rfl)) (fun _ _ _ _ _ => pts_one (pt_cmpR op_lt (pe_ix ix_list (pv 0) (pv 3) (fun _ _ => rfl)) (pe_gl rfl G.FAR) (nomark _))) (fun _ _ _ _ _ => pv 3))
      (pss_one (ps_ret (pe_minKey (T := T) (kscope (by decide +kernel)) TF.tb rfl TF.mem TF.one hr (by rfl) G.min rfl rfl (free_cell (sc' := defScope sNearest) (by decide +kernel)) rfl (fun _ _ _ _ _ _ => rfl) (pv 2))))
  · obtain ⟨r, c, ds, cs, rfl, hr', hc', hn, hm, hin, hT, k0, k1⟩ := h
    have key := el_lcL (K := K) (t := tTest (tOp tLt (tOp (rIxL K) (tVar 0) (tVar 3)) (tC (.int 1000)))) (te := tVar 3) (tl := tVar 1) (j := 3) (vs := [3]) (σ := start nNearest [.ref r, .ref c]) (H := H) (fun i => decide (ds.getD (cs.getD i 0) 0 < 1000)) (fun i => .int ((cs.getD i 0 : Nat) : Int)) (ev_var rfl) hc' (by rw [List.length_map]; omega) (fun x => rfl)
      (fun i x H1 e hx => ?_) (fun i x H1 e hx _ => ?_)
    · have eg : given (nV cs).length (fun i => decide (ds.getD (cs.getD i 0) 0 < 1000)) (fun i => V.int ((cs.getD i 0 : Nat) : Int)) = nV (reachOf ds cs) := by
        unfold given reachOf
        rw [List.length_map, ← filter_places cs 0 fun c => decide (ds.getD c 0 < 1000)]
        show _ = (((List.range cs.length).filter _).map _).map _
        rw [List.map_map]; rfl
      rw [eg] at key
      refine q_asgL key fun p H1 hp e1 h1 => ?_
      refine ⟨.ref p, rfl, hT.ext e1, p, r, reachOf ds cs, ds, rfl, sq_of h1, rfl, ex_l e1 hr', fun x hx => hin x (List.mem_filter.mp hx).1, by omega, fun H2 eN T2 => ⟨fun hz => k0 hz H2 ((ExtN.of e1).trans eN) T2, fun x hx => k1 x hx H2 ((ExtN.of e1).trans eN) T2⟩⟩
    · obtain ⟨hi, rfl⟩ := nV_item hx
      refine et_is (et_test (ev_op (ev_op (ev_var rfl) (ev_var rfl) (rv_ixL (ex_l e hr') (nV_at (hin _ (getD_mem hi))))) ev_c rv_I0)) ?_
      exact decide_eq_decide.mpr (by omega)
    · obtain ⟨hi, rfl⟩ := nV_item hx
      exact ev_var rfl
/-- nearest_places(row, k) -/
def spFirst (K : PySem.W.Frag) (T : List (Addr × Str)) : Sp := fun vs H Q _ => ∃ (r : Addr) (k : Nat) (ds : List Nat), vs = [.ref r, .int (k : Int)] ∧ SqL K H r (nV ds) ∧ ds.length ≤ 8 ∧ k ≤ 8 ∧ Tabs T H ∧
  ∀ ms : List Nat, ms.Pairwise (lexD ds) → ms.Perm (reachOf ds (List.range ds.length)) → BackL T (nV (ms.take k)) H Q
abbrev nFirst : List Str := ["row", "k", "reached", "v"]
theorem scFirst : FnScope nFirst ["row", "k"] (defScope sFirst) := ⟨rfl, rfl, rfl, by decide +kernel, rfl, by decide +kernel, by decide +kernel⟩
theorem ok_first {c P0 : Addr} (F : FunC K "nearest_places" "nearest_places" sFirst f fd c) (G : Glb mg) (TF : TabF T base mg c P0 ("nearest_places.<locals>." ++ "<lambda>")) : FnOk P w K mg base CX0 1 f fd ["row", "k"] (spFirst K T) := by
  refine F.ok scFirst (fun vs H Q E h => ?_) (fun A outer s H vs Q E hr h => ⟨tSeq (tAsg (tLc (iRng1 (tCons (tLen K (tVar 0)) tNil)) (gName 3) (tTest (tOp tLt (tOp (rIxL K) (tVar 0) (tVar 3)) (tC (.int 1000)))) (tVar 3) [3]) (gName 2)) (tRet (tSl (rSlL K) (tSortKey K T 0 (tVar 2)) tNoPart (tPart (tVar 1)))), ?_, ?_⟩)
  · obtain ⟨r, c, ds, rfl, _⟩ := h; rfl
  · exact pss_cons (ps_setLc (i := 2) (own := [("v", 3)]) (g := gName 3) rfl scFirst.nd rfl rfl (sw_true rfl rfl rfl (by decide +kernel)) (pi_range1 rfl G.range (pa_cons (pe_callB call_len_seq (by rfl) G.len boot_len (pa_cons (pv 0) pa_nil)) pa_nil)) (blkOk_by (N := nFirst) (sc := defScope sFirst) (by decide +kernel))
        (fun _ _ _ _ _ => pg_name (i := 3) scFirst.nd rfl (Or.inl rfl)) (fun _ _ _ _ _ => pts_one (pt_cmpR op_lt (pe_ix ix_list (pv 0) (pv 3) (fun _ _ => rfl)) (pe_gl rfl G.FAR) (nomark _))) (fun _ _ _ _ _ => pv 3))
      (pss_one (ps_ret (pe_slice sl_list (pe_sortKey (T := T) (kscope (by decide +kernel)) TF.tb rfl TF.mem TF.one hr (by rfl) G.sorted rfl rfl (free_cell (sc' := defScope sFirst) (by decide +kernel)) rfl (fun _ _ _ _ _ _ => rfl) (pv 2)) po_none (po_some (pv 1)))))
  · obtain ⟨r, kk, ds, rfl, hr', hn, hk, hT, k1⟩ := h
    have key := el_lcR1 (ta := tCons (tLen K (tVar 0)) tNil) (t := tTest (tOp tLt (tOp (rIxL K) (tVar 0) (tVar 3)) (tC (.int 1000)))) (te := tVar 3) (j := 3) (vs := [3]) (n := ((nV ds).length : Int)) (σ := start nFirst [.ref r, .int (kk : Int)]) (H := H) (fun i => decide (ds.getD i 0 < 1000)) (fun i => .int (i : Int)) (ea_cons (ev_len (ev_var rfl) hr') ea_nil) (by rw [List.length_map]; omega) (fun x => rfl)
      (fun i H1 e hi => ?_) (fun i H1 e hi _ => ev_var rfl)
    · have eg : given ((nV ds).length : Int).toNat (fun i => decide (ds.getD i 0 < 1000)) (fun i => V.int (i : Int)) = nV (reachOf ds (List.range ds.length)) := by
        have e : ((nV ds).length : Int).toNat = ds.length := by rw [List.length_map]; rfl
        rw [e]; rfl
      rw [eg] at key
      refine q_asgL key fun p H1 hp e1 h1 => ?_
      refine ⟨.ref p, rfl, hT.ext e1, p, r, reachOf ds (List.range ds.length), ds, rfl, sq_of h1, rfl, ex_l e1 hr', fun x hx => List.mem_range.mp (List.mem_filter.mp hx).1, by omega, fun H2 eN T2 ms q hpw hpm hq => ?_⟩
      refine ⟨.int (kk : Int), rfl, kk, rfl, q, nV ms, rfl, sq_of upd_same, fun p2 hp2 => ?_⟩
      have hq2 : H2 p2 = none := fresh_back (Ex.new hq) hp2
      have eT := Ex.new (o := HO.lst (nV ms)) hq
      have e3 : Ex (upd H2 q (.lst (nV ms))) (upd (upd H2 q (.lst (nV ms))) p2 (.lst (cutV (nV ms) none (some (kk : Int))))) := Ex.new hp2
      refine k1 ms hpw hpm p2 _ (freshN ((ExtN.of e1).trans eN) hq2) (((ExtN.of e1).trans eN).trans (ExtN.of (eT.trans e3))) ((T2.ext eT).ext e3) ?_
      rw [upd_same, cut_to]
      show _ = some (HO.lst ((ms.take kk).map _))
      rw [List.map_take]
    · refine et_is (et_test (ev_op (ev_op (ev_var rfl) (ev_var rfl) (rv_ixL (ex_l e hr') (nV_at (by rw [List.length_map] at hi; omega)))) ev_c rv_I0)) ?_
      exact decide_eq_decide.mpr (by omega)
end
end TP

/-! ## P6 -/
set_option Elab.async false
set_option linter.all false
set_option maxRecDepth 100000
set_option maxHeartbeats 2000000
namespace TP
open PySem PySem.Spec PyProof.Rows L2 Evl KeyL TT LamX
open Kv402 (Line)
open Kv404 (in_ list_)
section
variable {P : Program} {w : World} {K : PySem.W.Frag} {mg : Str → Option Value} {base : Heap} {f : Addr} {fd : FuncData} {T : List (Addr × Str)}
/-- greedy_choice(rows, k) -/
def spGreedy (T : List (Addr × Str)) : Sp := fun vs H Q _ => ∃ (p : Addr) (n k : Nat) (t : Kv402.Table) (D : Nat → Nat → Nat), vs = [.ref p, .int (k : Int)] ∧ RowsAt H p n D ∧ n ≤ 8 ∧ 1 ≤ k ∧ k ≤ 8 ∧ Tb n t D ∧ Tabs T H ∧ BackV T (.int (Kv404.greedy n t k n 0 : Int)) H Q
abbrev nGreedy : List Str := ["rows", "k", "choice", "unserved", "counts", "place", "row", "v", "group"]
theorem scGreedy : FnScope nGreedy ["rows", "k"] (defScope sGreedy) := ⟨rfl, rfl, rfl, by decide +kernel, rfl, by decide +kernel, by decide +kernel⟩
abbrev rGt : R2 := rI0 fun i j => .bl (decide (j < i))
abbrev rOr : R2 := rI0 fun i j => .int (Builtin.bitOr i j)
def tGr1 (K : PySem.W.Frag) (T : List (Addr × Str)) : TS := tAsg (tLc (iList K (tVar 0)) (gName 6) tYes (tCall (spFirst K T) [] E0 (tCons (tVar 6) (tCons (tVar 1) tNil))) [6]) (gName 3)
def tGrB (K : PySem.W.Frag) : TS := tSeq (tAsg (tLc (iRng1 (tCons (tLen K (tVar 0)) tNil)) (gName 7) tYes (tCall spHold [] E0 (tCons (tVar 3) (tCons (tVar 7) tNil))) [7]) (gName 4))
  (tSeq (tAsg (tBM K "list" (rIndex K) (tVar 4) (tCons (tCB (rMax K) (tCons (tVar 4) tNil)) tNil)) (gName 5))
  (tSeq (tAsg (tOp rOr (tVar 2) (tOp rShl1 (tC (.int 1)) (tVar 5))) (gName 2))
  (tAsg (tLc (iList K (tVar 3)) (gName 8) (tTest (tOp (rIn K true) (tVar 5) (tVar 8))) (tVar 8) [8]) (gName 3))))
def t_greedy (K : PySem.W.Frag) (T : List (Addr × Str)) : TS := tSeq (tAsg (tC (.int 0)) (gName 2)) (tSeq (tGr1 K T) (tSeq (tWhile (tTest (tOp rGt (tLen K (tVar 3)) (tC (.int 0)))) (tGrB K)) (tRet (tVar 2))))
theorem tabs_write {H : Hp} {l : Addr} {xs : List V} {o : HO} (h : Tabs T H) (hl : H l = some (.lst xs)) : Tabs T (upd H l o) := fun p hp => by
  obtain ⟨ps, h1, h2, h3⟩ := h p hp
  refine ⟨ps, by rw [upd_ne (ne_of h1 hl (by intro z; cases z))]; exact h1, h2, fun pos cv hc => ?_⟩
  obtain ⟨c, e1, e2⟩ := h3 pos cv hc
  refine ⟨c, e1, ?_⟩
  rw [upd_ne (ne_of e2 hl (by intro z; unfold CodeO at z; cases z))]
  exact e2
theorem Rows.extN {H H' : Hp} {p : Addr} {as : List Addr} {n : Nat} {F : Nat → Nat → Nat} (R : Rows H p as n F) (e : ExtN H H') : Rows H' p as n F := ⟨e _ _ R.at_ (fun _ z => nomatch z), R.nd, R.np, fun u x h => e _ _ (R.row u x h) fun _ z => nomatch z⟩
theorem GroupsL.extN {H H' : Hp} {ts : List Addr} {gs : List (List Nat)} (h : GroupsL H ts gs) (e : ExtN H H') : GroupsL H' ts gs := ⟨h.1, fun i t g h1 h2 => e _ _ (h.2 i t g h1 h2) fun _ z => nomatch z⟩
theorem lex_of {n v : Nat} {D : Nat → Nat → Nat} {ms : List Nat} (h : ms.Pairwise (lexD ((List.range n).map (D v)))) (hp : ms.Perm (reachOf ((List.range n).map (D v)) (List.range ((List.range n).map (D v)).length))) : ms.Pairwise (lex D v) ∧ ms.Perm (reached D v (List.range n)) := by
  have er : reachOf ((List.range n).map (D v)) (List.range ((List.range n).map (D v)).length) = reached D v (List.range n) := by
    unfold reachOf reached
    rw [List.length_map, List.length_range]
    exact List.filter_congr fun c hc => by rw [getD_row (List.mem_range.mp hc)]
  rw [er] at hp
  have nd : ms.Nodup := hp.nodup_iff.mpr (List.nodup_range.filter _)
  have hlt : ∀ x ∈ ms, x < n := fun x hx => List.mem_range.mp (List.mem_filter.mp (hp.mem_iff.mp hx)).1
  refine ⟨?_, hp⟩
  refine (List.Pairwise.and h nd).imp_of_mem fun {a b} ha hb hab => ?_
  obtain ⟨h1, h2⟩ := hab
  unfold lexD at h1
  rw [getD_row (hlt a ha), getD_row (hlt b hb)] at h1
  unfold lex
  omega
theorem left_zero (n : Nat) (t : Kv402.Table) (k : Nat) : left n t k 0 = List.range n := by
  unfold left
  refine List.filter_eq_self.mpr fun v _ => ?_
  have e : (Kv404.first n t k v).any (in_ 0) = false := by
    rw [List.any_eq_false]
    intro x _
    rw [in_testBit]
    simp
  rw [e]; rfl
/-- what the loop keeps -/
structure GInv (T : List (Addr × Str)) (n k : Nat) (t : Kv402.Table) (p : Addr) (as : List Addr) (D : Nat → Nat → Nat) (H0 : Hp) (s : Nat) (q : Addr) (σ : L2.St) (H : Hp) : Prop where
  s0 : σ[0]? = some (some (.ref p))
  s1 : σ[1]? = some (some (.int (k : Int)))
  s2 : σ[2]? = some (some (.int (s : Int)))
  s3 : σ[3]? = some (some (.ref q))
  sl : σ.length = 9
  ex : ExtN H0 H
  tabs : Tabs T H
  rows : Rows H p as n D
  grp : GroupsAt H q ((left n t k s).map (Kv404.first n t k))
theorem GInv.heap {n k s : Nat} {t : Kv402.Table} {p q : Addr} {as : List Addr} {D : Nat → Nat → Nat} {H0 H H' : Hp} {σ : L2.St} (g : GInv T n k t p as D H0 s q σ H) (e : Ex H H') : GInv T n k t p as D H0 s q σ H' :=
  ⟨g.s0, g.s1, g.s2, g.s3, g.sl, g.ex.trans (ExtN.of e), g.tabs.ext e, g.rows.ext e, by obtain ⟨ts, h1, h2⟩ := g.grp; exact ⟨ts, e _ _ h1, h2.extN (ExtN.of e)⟩⟩
theorem wipe_one {σ : L2.St} {j : Nat} (x : V) : wipe ((wipe σ [j]).set j (some x)) [j] = wipe σ [j] := by
  show ((σ.set j none).set j (some x)).set j none = σ.set j none
  rw [List.set_set, List.set_set]
theorem wipe_at {σ : L2.St} {j i : Nat} (x : V) (h : i ≠ j) : ((wipe σ [j]).set j (some x))[i]? = σ[i]? := by
  show ((σ.set j none).set j (some x))[i]? = _
  rw [List.getElem?_set_ne (fun z => h z.symm), List.getElem?_set_ne (fun z => h z.symm)]
theorem wipe_own {σ : L2.St} {j : Nat} (x : V) (h : j < σ.length) : ((wipe σ [j]).set j (some x))[j]? = some (some x) := by
  show ((σ.set j none).set j (some x))[j]? = _
  rw [List.getElem?_set_self (by rw [List.length_set]; exact h)]
theorem or_two {s w : Nat} (h : in_ s w = false) : Builtin.bitOr (s : Int) ((2 ^ w : Nat) : Int) = ((s + 2 ^ w : Nat) : Int) := by
  rw [bitOr_nn (Int.natCast_nonneg _) (Int.natCast_nonneg _), Int.toNat_natCast, Int.toNat_natCast, or_bit h]
theorem yes_turn {te : TE} {σ : L2.St} {H : Hp} {R : V → Hp → Prop} {N : Hp → Prop} (h : te σ H R) : tYes σ H fun b H3 => if b = true then te σ H3 R else N H3 := by
  show if true = true then te σ H R else N H
  rw [if_pos rfl]
  exact h
theorem pure_greedy (vs : List V) (H : Hp) (Q : VK) (E : XK) (h : spGreedy T vs H Q E) : t_greedy K T { nx := fun _ H' => Q .non H', rt := Q } (start nGreedy vs) H := by
  obtain ⟨p, n, k, t, D, rfl, ⟨as, hl, R⟩, hn, hk1, hk8, TBL, hT, hQ⟩ := h
  have ll : (as.map V.ref).length = n := by rw [List.length_map]; exact hl
  refine q_asg (v := .int 0) ev_c fun H1 e1 => ?_
  -- the groups
  refine ⟨.ref p, rfl, p, rfl, ⟨_, sq_of (e1 _ _ R.at_)⟩, fun Dl hD => ?_⟩
  refine lc_list (xs := as.map V.ref) (fun i H' => ExtN H1 H' ∧ Tabs T H' ∧ ∃ ts : List Addr, H' Dl = some (.lst (ts.map V.ref)) ∧ Dl ∉ ts ∧ GroupsL H' ts ((List.range i).map (Kv404.first n t k)))
    ⟨ExtN.of (Ex.new hD), (hT.ext e1).ext (Ex.new hD), [], upd_same, by simp, rfl, fun i t g h => absurd h (by simp)⟩ (fun i H' _ p0 => sq_of (p0.1 _ _ (e1 _ _ R.at_) fun _ z => nomatch z)) (fun i x H' hx ⟨eN, hT', ts, hts, hnD, hg⟩ => ?_) (fun H' ⟨eN, hT', ts, hts, hnD, hg⟩ => ?_)
  · obtain ⟨xr, hxr, rfl⟩ := ref_item hx
    have hi : i < n := by rw [← hl]; exact (List.getElem?_eq_some_iff.mp hxr).1
    refine ⟨wipe_one _, yes_turn ?_⟩
    refine ⟨.ref xr, rfl, .int (k : Int), rfl, xr, k, (List.range n).map (D i), rfl, sq_of (eN _ _ (e1 _ _ (R.row i xr hxr)) fun _ z => nomatch z), by rw [List.length_map, List.length_range]; exact hn, hk8, hT', fun ms hpw hpm pq H4 hfr eN4 T4 h4 => ?_⟩
    obtain ⟨m1, m2⟩ := lex_of hpw hpm
    have hms : ms.take k = Kv404.first n t k i := by
      rw [byDist_is TBL hi m1 m2]; rfl
    rw [hms] at h4
    have hpD : pq ≠ Dl := fun z => by
      obtain ⟨ps, z2⟩ := hfr _ (by rw [z]; exact hts)
      cases z2
    have h4D : H4 Dl = some (.lst (ts.map V.ref)) := eN4 _ _ hts fun _ z => nomatch z
    have htl : ts.length = i := by rw [hg.1, List.length_map, List.length_range]
    refine ⟨ts.map V.ref, h4D, sz_lt (by rw [List.length_map, htl]; omega), ?_, tabs_write T4 h4D, ts ++ [pq], by rw [upd_same, List.map_append]; rfl, ?_, ?_, fun j tj gj hj1 hj2 => ?_⟩
    · intro b o hb hno
      rw [upd_ne (ne_of_none hb hD)]
      exact eN4 b o (eN b o hb hno) hno
    · intro z
      rcases List.mem_append.mp z with z | z
      · exact hnD z
      · exact hpD (List.mem_singleton.mp z).symm
    · rw [List.length_append, List.length_map, List.length_range, htl]; rfl
    · rw [List.range_succ, List.map_append] at hj2
      by_cases hj : j < i
      · rw [List.getElem?_append_left (by omega)] at hj1
        rw [List.getElem?_append_left (by rw [List.length_map, List.length_range]; exact hj)] at hj2
        have hold := hg.2 j tj gj hj1 hj2
        have hne : tj ≠ Dl := fun z => hnD (by rw [← z]; exact List.mem_of_getElem? hj1)
        rw [upd_ne hne]
        exact eN4 _ _ hold fun _ z => nomatch z
      · rw [List.getElem?_append_right (by omega)] at hj1
        rw [List.getElem?_append_right (by rw [List.length_map, List.length_range]; omega)] at hj2
        have hj0 : j - ts.length = 0 := by
          have := (List.getElem?_eq_some_iff.mp hj1).1
          simp at this
          omega
        rw [hj0] at hj1
        have hj0' : j - ((List.range i).map (Kv404.first n t k)).length = 0 := by rw [List.length_map, List.length_range]; omega
        rw [hj0'] at hj2
        cases hj1
        cases hj2
        rw [upd_ne hpD]
        exact h4
  · rw [ll] at hg
    have e0N : ExtN H H' := (ExtN.of e1).trans eN
    show tSeq (tWhile (tTest (tOp rGt (tLen K (tVar 3)) (tC (.int 0)))) (tGrB K)) (tRet (tVar 2)) _ (((start nGreedy [.ref p, .int (k : Int)]).set 2 (some (.int 0))).set 3 (some (.ref Dl))) H'
    refine q_while (fun m σ' H' => ∃ (s : Nat) (q : Addr), GInv T n k t p as D H s q σ' H' ∧ (left n t k s).length = m ∧ ∃ fu, m ≤ fu ∧ Kv404.greedy n t k fu s = Kv404.greedy n t k n 0) n
      ⟨0, Dl, ⟨rfl, rfl, rfl, rfl, rfl, e0N, hT', R.extN e0N, ts, hts, by rw [left_zero]; exact hg⟩, by rw [left_zero, List.length_range], n, Nat.le_refl _, rfl⟩ (fun m σ' H2 ⟨s, q, gi, hm, fu, hfu, hgr⟩ => ?_)
    obtain ⟨us, hus, hgu⟩ := gi.grp
    have ul : (us.map V.ref).length = m := by rw [List.length_map, hgu.1, List.length_map, hm]
    refine ⟨decide (0 < m), et_is (et_test (ev_op (ev_len (ev_var gi.s3) (sq_of hus)) ev_c rv_I0)) (by rw [ul]; exact decide_eq_decide.mpr (by omega)), fun hb H3 e3 => ?_, fun hb H3 e3 => ?_⟩
    · -- a turn
      have hm0 : 0 < m := of_decide_eq_true hb
      have hne : left n t k s ≠ [] := fun z => by rw [z] at hm; simp at hm; omega
      have hnp : 0 < n := by
        obtain ⟨v, hv⟩ := List.exists_mem_of_ne_nil _ hne
        have := List.mem_range.mp (List.mem_filter.mp hv).1
        omega
      obtain ⟨wm, hwm⟩ := ex_firstMax (cnt n t k s) n hnp
      obtain ⟨hin, hless, hstep⟩ := cnt_max TBL hk1 hne hwm
      refine ⟨fun σ2 H4 => ∃ m', m' < m ∧ ∃ (s : Nat) (q : Addr), GInv T n k t p as D H s q σ2 H4 ∧ (left n t k s).length = m' ∧ ∃ fu, m' ≤ fu ∧ Kv404.greedy n t k fu s = Kv404.greedy n t k n 0, fun σ2 H4 z => z, ?_⟩
      have g3 := gi.heap e3
      -- counts
      have hcnt : ∀ x, ((((left n t k s).map (Kv404.first n t k)).filter fun g => g.contains x).length) = cnt n t k s x := fun x => by
        rw [List.filter_map, List.length_map]; rfl
      have key := el_lcR1 (ta := tCons (tLen K (tVar 0)) tNil) (t := tYes) (te := tCall spHold [] E0 (tCons (tVar 3) (tCons (tVar 7) tNil))) (j := 7) (vs := [7]) (n := ((as.map V.ref).length : Int)) (σ := σ') (H := H3) (fun _ => true) (fun v => .int (cnt n t k s v : Int)) (ea_cons (ev_len (ev_var g3.s0) (sq_of g3.rows.at_)) ea_nil) (by rw [ll]; omega) (fun x => wipe_one x)
        (fun v H4 e4 hv => et_yes) (fun v H4 e4 hv _ => ?_)
      · have et : given ((as.map V.ref).length : Int).toNat (fun _ => true) (fun v => V.int (cnt n t k s v : Int)) = nV ((List.range n).map (cnt n t k s)) := by
          rw [given_all, Int.toNat_natCast, ll]
          show _ = ((List.range n).map (cnt n t k s)).map _
          rw [List.map_map]; rfl
        rw [et] at key
        refine q_asgL key fun lc H4 hlc e4 h4 => ?_
        have hlen : ((List.range n).map (cnt n t k s)).length = n := by rw [List.length_map, List.length_range]
        have hat : ∀ i, i < n → ((List.range n).map (cnt n t k s))[i]? = some (cnt n t k s i) := fun i hi => by rw [List.getElem?_map, List.getElem?_range hi]; rfl
        -- place
        refine q_asg (v := .int (wm : Int)) ?_ fun H5 e5 => ?_
        · intro H5 e5 Q' q'
          have h4' : (σ'.set 4 (some (.ref lc)))[4]? = some (some (.ref lc)) := by rw [List.getElem?_set_self (by rw [gi.sl]; omega)]
          refine ⟨.ref lc, h4', Or.inl ⟨rfl, _, sq_of (e5 _ _ h4)⟩, .ref lc, h4', lc, ((List.range n).map (cnt n t k s)).map fun (m : Nat) => (m : Int), rfl, sq_of (by rw [e5 _ _ h4, List.map_map]; rfl), by rw [List.length_map, hlen]; exact hnp, fun mx hmx hy => ?_⟩
          obtain ⟨m', hm', rfl⟩ := List.mem_map.mp hmx
          obtain ⟨j, hj, rfl⟩ := List.mem_map.mp hm'
          have hj : j < n := List.mem_range.mp hj
          have hmb : cnt n t k s j = cnt n t k s wm := by
            have h1 := hwm.2.1 j hj
            have h2 := hy (cnt n t k s wm : Int) (List.mem_map.mpr ⟨cnt n t k s wm, List.mem_map.mpr ⟨wm, List.mem_range.mpr hwm.1, rfl⟩, rfl⟩)
            omega
          rw [hmb]
          refine ⟨lc, _, .int (cnt n t k s wm : Int), wm, .int (cnt n t k s wm : Int), rfl, rfl, sq_of (e5 _ _ h4), rfl, flat_nV _, ?_, ?_, fun i z hi hz => ?_, q' H5 (Ex.refl H5)⟩
          · rw [List.getElem?_map, hat wm hwm.1]; rfl
          · show ((cnt n t k s wm : Int) == (cnt n t k s wm : Int)) = true
            simp
          · rw [List.getElem?_map, hat i (by have := hwm.1; omega)] at hz
            cases hz
            have := hwm.2.2 i hi
            show ((cnt n t k s i : Int) == (cnt n t k s wm : Int)) = false
            rw [beq_eq_false_iff_ne]
            omega
        · -- choice
          have g5 := (g3.heap e4).heap e5
          have q5 : ((σ'.set 4 (some (.ref lc))).set 5 (some (.int (wm : Int))))[5]? = some (some (.int (wm : Int))) := by rw [List.getElem?_set_self (by rw [List.length_set, gi.sl]; omega)]
          have q2 : ((σ'.set 4 (some (.ref lc))).set 5 (some (.int (wm : Int))))[2]? = some (some (.int (s : Int))) := by rw [List.getElem?_set_ne (by omega), List.getElem?_set_ne (by omega)]; exact gi.s2
          refine q_asg (v := .int ((s + 2 ^ wm : Nat) : Int)) (ev_is (ev_op (ev_var q2) (ev_op ev_c (ev_var q5) (rv_shl1 (by have := hwm.1; omega))) rv_I0) (by rw [or_two hin])) fun H6 e6 => ?_
          have g6 := g5.heap e6
          -- unserved
          obtain ⟨us, hus, hgu⟩ := g6.grp
          have ul : (us.map V.ref).length = m := by rw [List.length_map, hgu.1, List.length_map, hm]
          have r3 : (((σ'.set 4 (some (.ref lc))).set 5 (some (.int (wm : Int)))).set 2 (some (.int ((s + 2 ^ wm : Nat) : Int))))[3]? = some (some (.ref q)) := by rw [List.getElem?_set_ne (by omega), List.getElem?_set_ne (by omega), List.getElem?_set_ne (by omega)]; exact gi.s3
          have r5 : (((σ'.set 4 (some (.ref lc))).set 5 (some (.int (wm : Int)))).set 2 (some (.int ((s + 2 ^ wm : Nat) : Int))))[5]? = some (some (.int (wm : Int))) := by rw [List.getElem?_set_ne (by omega)]; exact q5
          have rl : (((σ'.set 4 (some (.ref lc))).set 5 (some (.int (wm : Int)))).set 2 (some (.int ((s + 2 ^ wm : Nat) : Int)))).length = 9 := by rw [List.length_set, List.length_set, List.length_set]; exact gi.sl
          have gl : ((left n t k s).map (Kv404.first n t k)).length = m := by rw [List.length_map, hm]
          have key2 := el_lcL (K := K) (t := tTest (tOp (rIn K true) (tVar 5) (tVar 8))) (te := tVar 8) (tl := tVar 3) (j := 8) (vs := [8]) (σ := ((σ'.set 4 (some (.ref lc))).set 5 (some (.int (wm : Int)))).set 2 (some (.int ((s + 2 ^ wm : Nat) : Int)))) (H := H6) (xs := us.map V.ref) (fun i => !(((left n t k s).map (Kv404.first n t k)).getD i []).contains wm) (fun i => .ref (us.getD i 0)) (ev_var r3) (sq_of hus) (by
              rw [ul]
              have : m ≤ n := by rw [← hm]; exact Nat.le_trans (List.length_filter_le ..) (by rw [List.length_range]; exact Nat.le_refl n)
              omega) (fun x => wipe_one x)
            (fun i y H7 e7 hy => ?_) (fun i y H7 e7 hy _ => ?_)
          · refine s_asgL key2 fun q' H7 hq' e7 h7 => ?_
            refine ⟨(left n t k (s + 2 ^ wm)).length, by rw [← hm]; exact hless, s + 2 ^ wm, q', ⟨?_, ?_, ?_, ?_, ?_, (g6.heap e7).ex, (g6.heap e7).tabs, (g6.heap e7).rows, ?_⟩, rfl, ?_⟩
            · rw [List.getElem?_set_ne (by omega), List.getElem?_set_ne (by omega), List.getElem?_set_ne (by omega), List.getElem?_set_ne (by omega)]; exact gi.s0
            · rw [List.getElem?_set_ne (by omega), List.getElem?_set_ne (by omega), List.getElem?_set_ne (by omega), List.getElem?_set_ne (by omega)]; exact gi.s1
            · rw [List.getElem?_set_ne (by omega), List.getElem?_set_self (by rw [List.length_set, List.length_set, gi.sl]; omega)]
            · rw [List.getElem?_set_self (by rw [rl]; omega)]
            · rw [List.length_set]; exact rl
            · rw [ul] at h7
              have eg : (left n t k (s + 2 ^ wm)).map (Kv404.first n t k) = (((List.range m).filter fun i => !(((left n t k s).map (Kv404.first n t k)).getD i []).contains wm).map fun i => ((left n t k s).map (Kv404.first n t k)).getD i []) := by
                have := filter_places ((left n t k s).map (Kv404.first n t k)) [] fun g => !g.contains wm
                rw [gl] at this
                rw [this, left_more hin, List.filter_map]; rfl
              refine ⟨((List.range m).filter fun i => !(((left n t k s).map (Kv404.first n t k)).getD i []).contains wm).map fun i => us.getD i 0, ?_, ?_, fun j tj gj hj1 hj2 => ?_⟩
              · rw [h7, List.map_map]; rfl
              · rw [eg, List.length_map, List.length_map]
              · rw [eg] at hj2
                rw [List.getElem?_map] at hj1 hj2
                cases ej : ((List.range m).filter fun i => !(((left n t k s).map (Kv404.first n t k)).getD i []).contains wm)[j]? with
                | none => rw [ej] at hj1; cases hj1
                | some i =>
                  rw [ej] at hj1 hj2
                  have hi : i < m := List.mem_range.mp (List.mem_filter.mp (List.mem_of_getElem? ej)).1
                  have hiu : i < us.length := by rw [List.length_map] at ul; omega
                  have a1 : us[i]? = some tj := by
                    have e : us.getD i 0 = tj := Option.some.inj hj1
                    rw [← e, List.getD_eq_getElem?_getD, List.getElem?_eq_getElem hiu]; rfl
                  have a2 : ((left n t k s).map (Kv404.first n t k))[i]? = some gj := by
                    have e : ((left n t k s).map (Kv404.first n t k)).getD i [] = gj := Option.some.inj hj2
                    rw [← e, List.getD_eq_getElem?_getD, List.getElem?_eq_getElem (by rw [gl]; exact hi)]; rfl
                  exact e7 _ _ (hgu.2 i tj gj a1 a2)
            · obtain ⟨fu', rfl⟩ : ∃ fu', fu = fu' + 1 := ⟨fu - 1, by omega⟩
              exact ⟨fu', by omega, by rw [← hstep]; exact hgr⟩
          · obtain ⟨tt, htt, rfl⟩ := ref_item hy
            obtain ⟨g, hg1, hg2⟩ := hgu.get htt
            refine et_is (et_test (ev_op (ev_var (by rw [wipe_at _ (by omega)]; exact r5)) (ev_var (wipe_own _ (by rw [rl]; omega))) (rv_niL (sq_of (e7 _ _ hg2)) rfl (flat_nV g)))) ?_
            rw [inV_nV, List.getD_eq_getElem?_getD, hg1]; rfl
          · obtain ⟨tt, htt, rfl⟩ := ref_item hy
            refine ev_is (ev_var (wipe_own _ (by rw [rl]; omega))) ?_
            rw [List.getD_eq_getElem?_getD, htt]; rfl
      · refine ev_is (ev_call (ea_cons (ev_var (by rw [wipe_at _ (by omega)]; exact g3.s3)) (ea_cons (ev_var (wipe_own _ (by rw [gi.sl]; omega))) ea_nil)) fun H5 e5 Q' q' E' => ⟨q, (left n t k s).map (Kv404.first n t k), v, rfl, ((g3.heap e4).heap e5).grp, ?_, fun H6 e6 => q' H6 e6⟩) ?_
        · rw [List.length_map]
          exact Nat.le_trans (List.length_filter_le ..) (by rw [List.length_range]; exact hn)
        · rw [hcnt]
    · -- the end
      have hm0 : m = 0 := by have := of_decide_eq_false hb; omega
      have hnil : left n t k s = [] := List.eq_nil_of_length_eq_zero (by rw [hm, hm0])
      rw [greedy_end hnil] at hgr
      have g3 := gi.heap e3
      refine s_ret (ev_var g3.s2) fun H4 e4 => ?_
      rw [hgr]
      exact hQ H4 (g3.ex.trans (ExtN.of e4)) (g3.tabs.ext e4)
theorem ok_greedy (F : Fun K "greedy_choice" "greedy_choice" sGreedy f fd) (G : Glb mg) (CF : Cal P w K mg base 1 "nearest_places" (spFirst K T)) (CH : Cal P w K mg base 1 "how_many_hold" spHold) : FnOk P w K mg base CX0 2 f fd ["rows", "k"] (spGreedy T) := by
  refine F.ok scGreedy (fun vs H Q E h => ?_) (fun cdv A outer s H vs Q E hr h => ⟨t_greedy K T, ?_, ?_⟩)
  · obtain ⟨p, n, k, t, D, rfl, _⟩ := h; rfl
  · exact pss_cons (ps_set (i := 2) scGreedy.nd rfl (Or.inl rfl) pe_int)
      (pss_cons (ps_set (i := 3) scGreedy.nd rfl (Or.inr rfl) (pe_lc (own := [("row", 6)]) (g := gName 6) (tt := tYes) rfl scGreedy.nd (pi_list (pv 0)) (blkOk_by (N := nGreedy) (sc := defScope sGreedy) (by decide +kernel))
          (fun _ _ _ _ _ => pg_name (i := 6) scGreedy.nd rfl (Or.inl rfl)) (fun _ _ _ _ _ => pts_nil) (fun _ _ _ _ _ => pe_cal CF hr (by decide) rfl (pa_cons (pv 6) (pa_cons (pv 1) pa_nil)))))
      (pss_cons (ps_while PassesOwn.never (pt_cmpR op_gt (pe_callB call_len_seq (by rfl) G.len boot_len (pa_cons (pv 3) pa_nil)) pe_int (nomark _))
          (pss_cons (ps_setLc (i := 4) (own := [("v", 7)]) (g := gName 7) (tt := tYes) rfl scGreedy.nd rfl rfl (sw_true rfl rfl rfl (by decide +kernel)) (pi_range1 rfl G.range (pa_cons (pe_callB call_len_seq (by rfl) G.len boot_len (pa_cons (pv 0) pa_nil)) pa_nil)) (blkOk_by (N := nGreedy) (sc := defScope sGreedy) (by decide +kernel))
              (fun _ _ _ _ _ => pg_name (i := 7) scGreedy.nd rfl (Or.inl rfl)) (fun _ _ _ _ _ => pts_nil) (fun _ _ _ _ _ => pe_cal CH hr (by decide) rfl (pa_cons (pv 3) (pa_cons (pv 7) pa_nil))))
          (pss_cons (ps_set (i := 5) scGreedy.nd rfl (Or.inr rfl) (pe_bm PySem.F.plainAttrs_list PySem.F.slot_list_index PySem.F.type_list_index mt_index (pv 4) (pa_cons (pe_callB (cr_max rfl) (by rfl) G.max boot_max (pa_cons (pv 4) pa_nil)) pa_nil)))
          (pss_cons (ps_set (i := 2) scGreedy.nd rfl (Or.inl rfl) (pe_op op_or (pv 2) (pe_op op_oneShl pe_int (pv 5))))
          (pss_one (ps_set (i := 3) scGreedy.nd rfl (Or.inr rfl) (pe_lc (own := [("group", 8)]) (g := gName 8) rfl scGreedy.nd (pi_list (pv 3)) (blkOk_by (N := nGreedy) (sc := defScope sGreedy) (by decide +kernel))
              (fun _ _ _ _ _ => pg_name (i := 8) scGreedy.nd rfl (Or.inl rfl)) (fun _ _ _ _ _ => pts_one (pt_cmpR op_notIn_seq (pv 5) (pv 8) (by with_unfolding_all rfl))) (fun _ _ _ _ _ => pv 8))))))))
      (pss_one (ps_ret (pv 2)))))
  · exact pure_greedy vs H Q E h
end
end TP

/-! ## P7 -/
set_option Elab.async false
set_option linter.all false
set_option maxRecDepth 100000
set_option maxHeartbeats 2000000
namespace TP
open PySem PySem.Spec PyProof.Rows L2 Evl KeyL TT LamX
open Kv402 (Line)
open Kv404 (in_ list_ Abs Ans)
/-! ### the object -/
abbrev sPlaces : Stmt := top 47
abbrev sRows : Stmt := inClass sPlaces 1
abbrev sChosenM : Stmt := inClass sPlaces 2
abbrev sLine : Stmt := inClass sPlaces 5
abbrev sCut : Stmt := inClass sPlaces 6
abbrev sChoose : Stmt := inClass sPlaces 7
abbrev sTurn : Stmt := inClass sPlaces 8
abbrev sGreedyM : Stmt := inClass sPlaces 9
abbrev sBestM : Stmt := inClass sPlaces 10
structure Txt (K : PySem.W.Frag) (C : Addr) : Prop where
  cl : Cls K C
  nC : NoAttr K C "count"
  nL : NoAttr K C "lines"
  nS : NoAttr K C "choice"
/-- what the names of refusals and bounds stand for -/
structure Num (mg : Str → Option Value) : Prop where
  noSuch : ∃ u, mg "NO_SUCH" = some u ∧ RelV (.int (-2)) u
  range : ∃ u, mg "OUT_OF_RANGE" = some u ∧ RelV (.int (-22)) u
  many : ∃ u, mg "TOO_MANY" = some u ∧ RelV (.int (-28)) u
  mLines : ∃ u, mg "MOST_LINES" = some u ∧ RelV (.int 14) u
  mLen : ∃ u, mg "MOST_LENGTH" = some u ∧ RelV (.int 99) u
  mNear : ∃ u, mg "MOST_NEAREST" = some u ∧ RelV (.int 8) u
  mBest : ∃ u, mg "MOST_PLACES_FOR_BEST" = some u ∧ RelV (.int 6) u
/-- what holds of the state -/
structure AbsOk (A : Abs) : Prop where
  n1 : 1 ≤ A.now.g.n
  n8 : A.now.g.n ≤ 8
  lines : LinesIn A.now.g.n A.now.g.lines
  past : ∀ w ∈ A.past, w.g.n = A.now.g.n ∧ LinesIn A.now.g.n w.g.lines
  plen : A.past.length ≤ 10
abbrev Rel := Hp → Addr → Abs → Prop
/-- how the object lies in the heap, as far as looking goes -/
structure Lies (C : Addr) (ms : List Str) (O : Rel) : Prop where
  view : ∀ {H a A}, O H a A → ∃ (dx : Addr) (fs : List (Str × V)) (l : Addr), H a = some (.ins C dx fs) ∧ fs.lookup ("count" : Str) = some (.int (A.now.g.n : Int)) ∧ fs.lookup ("lines" : Str) = some (.ref l) ∧ LinesAt H l A.now.g.lines ∧ fs.lookup ("choice" : Str) = some (.int (A.now.s : Int)) ∧ ∀ m ∈ ms, fs.lookup m = none
  ext : ∀ {H H' a A}, O H a A → ExtN H H' → O H' a A
def ansV (r : Ans) : List V := (Kv404Neutral.row r).map V.int
/-- no list of references, but the empty one -/
def NoRefs (o : HO) : Prop := ∀ es : List Addr, o = .lst (es.map V.ref) → es = []
/-- all but a stays (tables may grow, lists of references may change) -/
def Keep (a : Addr) (H H' : Hp) : Prop := ∀ b o, H b = some o → b ≠ a → (∀ ps, o ≠ .tbl ps) → NoRefs o → H' b = some o
/-- all but a stays -/
def KeepX (a : Addr) (H H' : Hp) : Prop := ∀ b o, H b = some o → b ≠ a → H' b = some o
def RetC (T : List (Addr × Str)) (O : Rel) (a : Addr) (B : Abs × Ans) (H : Hp) (Q : VK) : Prop := ∀ p H', FreshN H p → Keep a H H' → Tabs T H' → O H' a B.1 → H' p = some (.lst (ansV B.2)) → Q (.ref p) H'
section
variable {P : Program} {w : World} {K : PySem.W.Frag} {mg : Str → Option Value} {base : Heap} {f : Addr} {fd : FuncData} {T : List (Addr × Str)} {C : Addr} {ms : List Str} {O : Rel}
theorem FreshN.back {p : Addr} {H H' : Hp} (n : FreshN H' p) (e : ExtN H H') : FreshN H p := fun o ho => by
  refine Classical.byContradiction fun hc => ?_
  have q := e p o ho fun ps z => hc ⟨ps, z⟩
  exact hc (n o q)
theorem RetC.same {a p : Addr} {A : Abs} {r : Ans} {H H' : Hp} {Q : VK} (L : Lies C ms O) (k : RetC T O a (A, r) H Q) (hO : O H a A) (hT : Tabs T H) (n : FreshN H p) (e : Ex H H') (h : H' p = some (.lst (ansV r))) : Q (.ref p) H' :=
  k p H' n (fun b o hb _ _ _ => e b o hb) (hT.ext e) (L.ext hO (ExtN.of e)) h
theorem tabs_keepX {a dx : Addr} {fs : List (Str × V)} {H H' : Hp} (hT : Tabs T H) (ha : H a = some (.ins C dx fs)) (k : KeepX a H H') : Tabs T H' := fun p hp => by
  obtain ⟨ps, h1, h2, h3⟩ := hT p hp
  refine ⟨ps, k _ _ h1 (ne_of h1 ha (by intro z; cases z)), h2, fun pos cv hc => ?_⟩
  obtain ⟨c, e1, e2⟩ := h3 pos cv hc
  exact ⟨c, e1, k _ _ e2 (ne_of e2 ha (by intro z; unfold CodeO at z; cases z))⟩
theorem ev_fld {σ : L2.St} {H : Hp} {ta : TE} {a dx : Addr} {fs : List (Str × V)} {x : Str} {v : V} (h : Ev ta σ H (.ref a)) (ha : H a = some (.ins C dx fs)) (c : Cls K C) (n : NoAttr K C x) (l : fs.lookup x = some v) : Ev (tFld K ta x) σ H v := fun H1 e Q q =>
  h H1 e _ fun H2 e2 => ⟨a, C, dx, fs, v, rfl, e2 _ _ (e _ _ ha), c, n, l, q H2 e2⟩
/-! ### methods called by name -/
structure Met (P : Program) (w : World) (K : PySem.W.Frag) (mg : Str → Option Value) (base : Heap) (C : Addr) (k : Nat) (m : Str) (sp : Sp) : Prop where
  ex : ∃ (f : Addr) (fd : FuncData) (ps : List Str), Meth K C m f ∧ FnOk P w K mg base CX0 k f fd ps sp ∧ Binds K fd ps []
theorem pe_met0 {X : Cx} {k j : Nat} {m : Str} {sp : Sp} {apos pos : Pos} {o : Expr} {ta : TE} {pl : Sem Bool} (c : Met X.prog X.w X.K X.mg X.base C k m sp) (cl : Cls X.K C) (hr : Room j X.A) (hk : k ≤ j) (he : PE X o ta)
    (ht : eval (.Call (.Attribute o m apos) [] [] pos) X.env = (do
      let ov ← eval o X.env
      standAt apos.atName
      let (f, first) ← holding [ov] (getMethod ov m pl)
      callWith pos f first (backTo pos (starEach [] X.env)) (backToKw pos (keywordEach [] X.env))) := by rfl) :
    PE X (.Call (.Attribute o m apos) [] [] pos) (tMeth C m sp [] E0 ta tNil) := by
  obtain ⟨f, fd, ps, M, F, b⟩ := c.ex
  exact pe_meth0 he cl M F (hr.mono hk) b .nil pass0 ht
theorem pe_met {X : Cx} {k j : Nat} {m : Str} {sp : Sp} {apos pos : Pos} {o e : Expr} {es : List Expr} {ta : TE} {t : TA} {pl : Sem Bool} (c : Met X.prog X.w X.K X.mg X.base C k m sp) (cl : Cls X.K C) (hr : Room j X.A) (hk : k ≤ j) (he : PE X o ta) (ha : PA X (e :: es) t)
    (hst : starEach (e :: es) X.env = (false, eval e X.env) :: starEach es X.env := by rfl) (hpl : (backTo pos (starEach es X.env)).any (·.1) = false := by rfl)
    (ht : eval (.Call (.Attribute o m apos) (e :: es) [] pos) X.env = (do
      let ov ← eval o X.env
      standAt apos.atName
      let (f, first) ← holding [ov] (getMethod ov m pl)
      callWith pos f first (backTo pos (starEach (e :: es) X.env)) (backToKw pos (keywordEach [] X.env))) := by rfl) :
    PE X (.Call (.Attribute o m apos) (e :: es) [] pos) (tMeth C m sp [] E0 ta t) := by
  obtain ⟨f, fd, ps, M, F, b⟩ := c.ex
  exact pe_meth he cl M F (hr.mono hk) b .nil pass0 ha hst hpl ht
theorem s_retCall {σ : L2.St} {H : Hp} {D : Ends} {sp : Sp} {ta : TA} {vs : List V} (h : EvA ta σ H vs) (k : ∀ H1, Ex H H1 → sp (vs ++ []) H1 D.rt E0) : tRet (tCall sp [] E0 ta) D σ H := h H (Ex.refl H) _ k
theorem s_retMeth {σ : L2.St} {H : Hp} {D : Ends} {sp : Sp} {to : TE} {ta : TA} {vs : List V} {m : Str} {a dx : Addr} {fs : List (Str × V)} (ho : Ev to σ H (.ref a)) (ha : H a = some (.ins C dx fs)) (hl : fs.lookup m = none) (h : EvA ta σ H vs) (k : ∀ H1, Ex H H1 → sp (.ref a :: (vs ++ [])) H1 D.rt E0) : tRet (tMeth C m sp [] E0 to ta) D σ H :=
  ho H (Ex.refl H) _ fun H1 e1 => ⟨a, dx, fs, rfl, e1 _ _ ha, hl, h H1 e1 _ fun H2 e2 => k H2 (e1.trans e2)⟩
/-- a refusal -/
theorem s_refuse {σ : L2.St} {H : Hp} {D : Ends} {z : Int} (k : ∀ p H1, H p = none → Ex H H1 → H1 p = some (.lst [.int z]) → D.rt (.ref p) H1) : tRet (tLst (tCons (tC (.int z)) tNil)) D σ H :=
  s_retL (el_lst (ea_cons ev_c ea_nil) (by show 1 ≤ 100000; decide)) fun p H1 n e h => k p H1 n e h
abbrev tNo (z : Int) : TS := tRet (tLst (tCons (tC (.int z)) tNil))
abbrev rGe : R2 := rI0 fun i j => .bl (decide (j ≤ i))
/-- rows(self) -/
def spRows (O : Rel) : Sp := fun vs H Q _ => ∃ (a : Addr) (A : Abs), vs = [.ref a] ∧ O H a A ∧ AbsOk A ∧ ∀ (p : Addr) (H' : Hp), H p = none → Ex H H' → RowsAt H' p A.now.g.n (dd A.now.g.n A.now.g.lines) → Q (.ref p) H'
theorem scRows : FnScope ["self"] ["self"] (defScope sRows) := ⟨rfl, rfl, rfl, by decide +kernel, rfl, by decide +kernel, by decide +kernel⟩
theorem ok_rows (F : Fun K "rows" "Places.rows" sRows f fd) (L : Lies C ms O) (X : Txt K C) (CD : Cal P w K mg base 1 "distances" spDist) : FnOk P w K mg base CX0 2 f fd ["self"] (spRows O) := by
  refine F.ok scRows (fun vs H Q E h => ?_) (fun cdv A outer s H vs Q E hr h => ⟨tRet (tCall spDist [] E0 (tCons (tFld K (tVar 0) "count") (tCons (tFld K (tVar 0) "lines") tNil))), ?_, ?_⟩)
  · obtain ⟨a, A, rfl, _⟩ := h; rfl
  · exact pss_one (ps_ret (pe_cal CD hr (by decide) rfl (pa_cons (pe_fld (pv 0) rfl) (pa_cons (pe_fld (pv 0) rfl) pa_nil))))
  · obtain ⟨a, A, rfl, hO, ok, k⟩ := h
    obtain ⟨dx, fs, l, ha, h1, h2, h3, h4, h5⟩ := L.view hO
    have e1 : EvA (tCons (tFld K (tVar 0) "count") (tCons (tFld K (tVar 0) "lines") tNil)) (start ["self"] [.ref a]) H [.int (A.now.g.n : Int), .ref l] := ea_cons (ev_fld (ev_var rfl) ha X.cl X.nC h1) (ea_cons (ev_fld (ev_var rfl) ha X.cl X.nL h2) ea_nil)
    refine s_retCall e1 fun H1 x1 => ⟨A.now.g.n, l, A.now.g.lines, rfl, ok.n8, ok.lines.toLinesOk, ok.lines.len, h3.ext x1, fun p H' hp x2 hR => k p H' (fresh_back x1 hp) (x1.trans x2) hR⟩
/-- chosen(self) -/
def spChosenM (O : Rel) : Sp := fun vs H Q _ => ∃ (a : Addr) (A : Abs), vs = [.ref a] ∧ O H a A ∧ AbsOk A ∧ RetL (nV (list_ A.now.g.n A.now.s)) H Q
theorem scChosenM : FnScope ["self"] ["self"] (defScope sChosenM) := ⟨rfl, rfl, rfl, by decide +kernel, rfl, by decide +kernel, by decide +kernel⟩
theorem ok_chosenM (F : Fun K "chosen" "Places.chosen" sChosenM f fd) (L : Lies C ms O) (X : Txt K C) (CC : Cal P w K mg base 1 "chosen_places" spChosen) : FnOk P w K mg base CX0 2 f fd ["self"] (spChosenM O) := by
  refine F.ok scChosenM (fun vs H Q E h => ?_) (fun cdv A outer s H vs Q E hr h => ⟨tRet (tCall spChosen [] E0 (tCons (tFld K (tVar 0) "choice") (tCons (tFld K (tVar 0) "count") tNil))), ?_, ?_⟩)
  · obtain ⟨a, A, rfl, _⟩ := h; rfl
  · exact pss_one (ps_ret (pe_cal CC hr (by decide) rfl (pa_cons (pe_fld (pv 0) rfl) (pa_cons (pe_fld (pv 0) rfl) pa_nil))))
  · obtain ⟨a, A, rfl, hO, ok, k⟩ := h
    obtain ⟨dx, fs, l, ha, h1, h2, h3, h4, h5⟩ := L.view hO
    exact s_retL (el_call (ea_cons (ev_fld (ev_var rfl) ha X.cl X.nS h4) (ea_cons (ev_fld (ev_var rfl) ha X.cl X.nC h1) ea_nil)) fun H1 x1 Q' q' E' => ⟨A.now.s, A.now.g.n, rfl, ok.n8, fun p H2 g1 g2 g3 => q' p H2 g1 g2 g3⟩) k
/-- change(self, lines, choice): what it leaves and tells -/
def spChange (O : Rel) : Sp := fun vs H Q _ => ∃ (a l : Addr) (A : Abs) (ls : List Line) (s : Nat), vs = [.ref a, .ref l, .int (s : Int)] ∧ O H a A ∧ AbsOk A ∧ LinesAt H l ls ∧ LinesIn A.now.g.n ls ∧
  ∀ p H', FreshN H p → KeepX a H H' → O H' a (A.to_ ⟨⟨A.now.g.n, ls⟩, s⟩).1 → H' p = some (.lst (ansV (A.to_ ⟨⟨A.now.g.n, ls⟩, s⟩).2)) → Q (.ref p) H'
/-- choose(self, s) -/
def spChoose (T : List (Addr × Str)) (O : Rel) : Sp := fun vs H Q _ => ∃ (a : Addr) (A : Abs) (s : Nat), vs = [.ref a, .int (s : Int)] ∧ O H a A ∧ AbsOk A ∧ Tabs T H ∧ RetC T O a (A.does (.choose s)) H Q
theorem scChoose : FnScope ["self", "s"] ["self", "s"] (defScope sChoose) := ⟨rfl, rfl, rfl, by decide +kernel, rfl, by decide +kernel, by decide +kernel⟩
theorem done_change {a p : Addr} {A : Abs} {ls : List Line} {s : Nat} {H H1 H' : Hp} {Q : VK} (L : Lies C ms O) (k : RetC T O a (A.to_ ⟨⟨A.now.g.n, ls⟩, s⟩) H Q) (hO : O H1 a A) (e : ExtN H H1) (hT : Tabs T H1) (n : FreshN H1 p) (kx : KeepX a H1 H') (o' : O H' a (A.to_ ⟨⟨A.now.g.n, ls⟩, s⟩).1) (h : H' p = some (.lst (ansV (A.to_ ⟨⟨A.now.g.n, ls⟩, s⟩).2))) : Q (.ref p) H' := by
  obtain ⟨dx, fs, l, ha, _⟩ := L.view hO
  exact k p H' (n.back e) (fun b o hb hne hno _ => kx b o (e b o hb hno) hne) (tabs_keepX hT ha kx) o' h
theorem ok_choose (F : Fun K "choose" "Places.choose" sChoose f fd) (L : Lies C ms O) (X : Txt K C) (N : Num mg) (hm : ("change" : Str) ∈ ms) (MC : Met P w K mg base C 4 "change" (spChange O)) : FnOk P w K mg base CX0 5 f fd ["self", "s"] (spChoose T O) := by
  refine F.ok scChoose (fun vs H Q E h => ?_) (fun cdv A outer s H vs Q E hr h => ⟨tSeq (tIfS (tTest (tOp rGe (tVar 1) (tOp rShl1 (tC (.int 1)) (tFld K (tVar 0) "count")))) (tNo (-22)) tNext) (tRet (tMeth C "change" (spChange O) [] E0 (tVar 0) (tCons (tFld K (tVar 0) "lines") (tCons (tVar 1) tNil)))), ?_, ?_⟩)
  · obtain ⟨a, A, s, rfl, _⟩ := h; rfl
  · exact pss_cons (ps_if (pt_cmpR op_ge (pv 1) (pe_op op_oneShl pe_int (pe_fld (pv 0) rfl)) (nomark _)) (pss_one (ps_ret (pe_lst (pa_cons (pe_gl rfl N.range) pa_nil)))) pss_nil)
      (pss_one (ps_ret (pe_met MC X.cl hr (by decide) (pv 0) (pa_cons (pe_fld (pv 0) rfl) (pa_cons (pv 1) pa_nil)))))
  · obtain ⟨a, A, s, rfl, hO, ok, hT, k⟩ := h
    obtain ⟨dx, fs, l, ha, h1, h2, h3, h4, h5⟩ := L.view hO
    have hn8 := ok.n8
    have e22 : Ev (tOp rShl1 (tC (.int 1)) (tFld K (tVar 0) "count")) (start ["self", "s"] [.ref a, .int (s : Int)]) H (.int ((2 ^ A.now.g.n : Nat) : Int)) := ev_op ev_c (ev_fld (ev_var rfl) ha X.cl X.nC h1) (rv_shl1 (by omega))
    refine q_when (b := decide (2 ^ A.now.g.n ≤ s)) (et_is (et_test (ev_op (ev_var rfl) e22 rv_I0)) (decide_eq_decide.mpr (by omega))) (fun hb H1 x1 => ?_) (fun hb H1 x1 => ?_)
    · have hb := of_decide_eq_true hb
      have ed : A.does (.choose s) = (A, Kv404.say (-22)) := if_pos hb
      rw [ed] at k
      exact s_refuse fun p H2 n2 x2 h2 => k.same L hO hT (freshN (ExtN.of x1) n2) (x1.trans x2) h2
    · have hb := of_decide_eq_false hb
      have ed : A.does (.choose s) = A.to_ ⟨⟨A.now.g.n, A.now.g.lines⟩, s⟩ := if_neg hb
      rw [ed] at k
      refine s_retMeth (ev_var rfl) (x1 _ _ ha) (h5 _ hm) (ea_cons (ev_fld (ev_var rfl) (x1 _ _ ha) X.cl X.nL h2) (ea_cons (ev_var rfl) ea_nil)) fun H2 x2 => ⟨a, l, A, A.now.g.lines, s, rfl, L.ext hO (ExtN.of (x1.trans x2)), ok, h3.ext (x1.trans x2), ok.lines, fun p H' nn kx o' h' => ?_⟩
      exact done_change L k (L.ext hO (ExtN.of (x1.trans x2))) (ExtN.of (x1.trans x2)) (hT.ext (x1.trans x2)) nn kx o' h'
end
end TP

/-! ## P8 -/
set_option Elab.async false
set_option linter.all false
set_option maxRecDepth 100000
set_option maxHeartbeats 2000000
namespace TP
open PySem PySem.Spec PyProof.Rows L2 Evl KeyL TT LamX
open Kv402 (Line)
open Kv404 (in_ list_ Abs Ans)
section
variable {P : Program} {w : World} {K : PySem.W.Frag} {mg : Str → Option Value} {base : Heap} {f : Addr} {fd : FuncData} {T : List (Addr × Str)} {C : Addr} {ms : List Str} {O : Rel}
theorem in_ge {s v : Nat} (h : in_ s v = true) : 2 ^ v ≤ s := by
  rw [in_testBit] at h
  exact Nat.ge_two_pow_of_testBit h
theorem xor_two (s v : Nat) : Builtin.bitXor (s : Int) ((2 ^ v : Nat) : Int) = (((if in_ s v = true then s - 2 ^ v else s + 2 ^ v) : Nat) : Int) := by
  have e : Builtin.bitAnd (s : Int) ((2 ^ v : Nat) : Int) = ((s &&& 2 ^ v : Nat) : Int) := by
    rw [bitAnd_pp (Int.natCast_nonneg _) (Int.natCast_nonneg _), Int.toNat_natCast, Int.toNat_natCast]
  rw [PyProof.Rows.bitXor_and, e, land_bit]
  by_cases h : in_ s v = true
  · have := in_ge h
    rw [if_pos h, if_pos h]
    omega
  · rw [if_neg h, if_neg h]
    omega
/-- turn(self, v) -/
def spTurn (T : List (Addr × Str)) (O : Rel) : Sp := fun vs H Q _ => ∃ (a : Addr) (A : Abs) (v : Nat), vs = [.ref a, .int (v : Int)] ∧ O H a A ∧ AbsOk A ∧ Tabs T H ∧ RetC T O a (A.does (.turn v)) H Q
theorem scTurn : FnScope ["self", "v"] ["self", "v"] (defScope sTurn) := ⟨rfl, rfl, rfl, by decide +kernel, rfl, by decide +kernel, by decide +kernel⟩
theorem ok_turn (F : Fun K "turn" "Places.turn" sTurn f fd) (L : Lies C ms O) (X : Txt K C) (N : Num mg) (hm : ("change" : Str) ∈ ms) (MC : Met P w K mg base C 4 "change" (spChange O)) : FnOk P w K mg base CX0 5 f fd ["self", "v"] (spTurn T O) := by
  refine F.ok scTurn (fun vs H Q E h => ?_) (fun cdv A outer s H vs Q E hr h => ⟨tSeq (tIfS (tTest (tOp rGe (tVar 1) (tFld K (tVar 0) "count"))) (tNo (-2)) tNext) (tRet (tMeth C "change" (spChange O) [] E0 (tVar 0) (tCons (tFld K (tVar 0) "lines") (tCons (tOp (rI0 fun i j => .int (Builtin.bitXor i j)) (tFld K (tVar 0) "choice") (tOp rShl1 (tC (.int 1)) (tVar 1))) tNil)))), ?_, ?_⟩)
  · obtain ⟨a, A, v, rfl, _⟩ := h; rfl
  · exact pss_cons (ps_if (pt_cmpR op_ge (pv 1) (pe_fld (pv 0) rfl) (nomark _)) (pss_one (ps_ret (pe_lst (pa_cons (pe_gl rfl N.noSuch) pa_nil)))) pss_nil)
      (pss_one (ps_ret (pe_met MC X.cl hr (by decide) (pv 0) (pa_cons (pe_fld (pv 0) rfl) (pa_cons (pe_op op_xor (pe_fld (pv 0) rfl) (pe_op op_oneShl pe_int (pv 1))) pa_nil)))))
  · obtain ⟨a, A, v, rfl, hO, ok, hT, k⟩ := h
    obtain ⟨dx, fs, l, ha, h1, h2, h3, h4, h5⟩ := L.view hO
    have hn8 := ok.n8
    refine q_when (b := decide (A.now.g.n ≤ v)) (et_is (et_test (ev_op (ev_var rfl) (ev_fld (ev_var rfl) ha X.cl X.nC h1) rv_I0)) (decide_eq_decide.mpr (by omega))) (fun hb H1 x1 => ?_) (fun hb H1 x1 => ?_)
    · have hb := of_decide_eq_true hb
      have ed : A.does (.turn v) = (A, Kv404.say (-2)) := if_pos hb
      rw [ed] at k
      exact s_refuse fun p H2 n2 x2 h2 => k.same L hO hT (freshN (ExtN.of x1) n2) (x1.trans x2) h2
    · have hb := of_decide_eq_false hb
      have ed : A.does (.turn v) = A.to_ ⟨⟨A.now.g.n, A.now.g.lines⟩, if in_ A.now.s v = true then A.now.s - 2 ^ v else A.now.s + 2 ^ v⟩ := if_neg hb
      rw [ed] at k
      refine s_retMeth (ev_var rfl) (x1 _ _ ha) (h5 _ hm) (vs := [.ref l, .int (((if in_ A.now.s v = true then A.now.s - 2 ^ v else A.now.s + 2 ^ v) : Nat) : Int)]) (ea_cons (ev_fld (ev_var rfl) (x1 _ _ ha) X.cl X.nL h2) (ea_cons (ev_is (ev_op (ev_fld (ev_var rfl) (x1 _ _ ha) X.cl X.nS h4) (ev_op ev_c (ev_var rfl) (rv_shl1 (by omega))) rv_I0) (by rw [xor_two])) ea_nil)) fun H2 x2 => ⟨a, l, A, A.now.g.lines, _, rfl, L.ext hO (ExtN.of (x1.trans x2)), ok, h3.ext (x1.trans x2), ok.lines, fun p H' nn kx o' h' => ?_⟩
      exact done_change L k (L.ext hO (ExtN.of (x1.trans x2))) (ExtN.of (x1.trans x2)) (hT.ext (x1.trans x2)) nn kx o' h'
theorem LinesL.erase {H : Hp} {ts : List Addr} {s : List Line} (h : LinesL H ts s) (i : Nat) : LinesL H (ts.eraseIdx i) (s.eraseIdx i) := by
  refine ⟨by rw [List.length_eraseIdx, List.length_eraseIdx, h.1], fun j t l h1 h2 => ?_⟩
  rw [List.getElem?_eraseIdx] at h1 h2
  split at h1
  · rw [if_pos (by assumption)] at h2; exact h.2 j t l h1 h2
  · rw [if_neg (by assumption)] at h2; exact h.2 _ t l h1 h2
/-- cut(self, i) -/
def spCut (T : List (Addr × Str)) (O : Rel) : Sp := fun vs H Q _ => ∃ (a : Addr) (A : Abs) (i : Nat), vs = [.ref a, .int (i : Int)] ∧ O H a A ∧ AbsOk A ∧ Tabs T H ∧ RetC T O a (A.does (.cut i)) H Q
theorem scCut : FnScope ["self", "i"] ["self", "i"] (defScope sCut) := ⟨rfl, rfl, rfl, by decide +kernel, rfl, by decide +kernel, by decide +kernel⟩
theorem el_cat {σ : L2.St} {H : Hp} {ta tb : TE} {xs ys : List V} (ha : EvL ta σ H xs) (hb : EvL tb σ H ys) (hz : xs.length + ys.length ≤ 100000) : EvL (tOp rCat ta tb) σ H (xs ++ ys) := fun H1 e Q q =>
  ha H1 e _ fun p H2 hp e2 h2 => hb H2 (e.trans e2) _ fun p2 H3 hp2 e3 h3 => ⟨p, p2, xs, ys, rfl, rfl, e3 _ _ h2, h3, sz_of hz, fun p4 hp4 => q p4 _ (fresh_back (e2.trans e3) hp4) ((e2.trans e3).trans (Ex.new hp4)) upd_same⟩
theorem ok_cut (F : Fun K "cut" "Places.cut" sCut f fd) (L : Lies C ms O) (X : Txt K C) (G : Glb mg) (N : Num mg) (hm : ("change" : Str) ∈ ms) (MC : Met P w K mg base C 4 "change" (spChange O)) : FnOk P w K mg base CX0 5 f fd ["self", "i"] (spCut T O) := by
  refine F.ok scCut (fun vs H Q E h => ?_) (fun cdv A outer s H vs Q E hr h => ⟨tSeq (tIfS (tTest (tOp rGe (tVar 1) (tLen K (tFld K (tVar 0) "lines")))) (tNo (-2)) tNext) (tRet (tMeth C "change" (spChange O) [] E0 (tVar 0) (tCons (tOp rCat (tSl (rSlL K) (tFld K (tVar 0) "lines") tNoPart (tPart (tVar 1))) (tSl (rSlL K) (tFld K (tVar 0) "lines") (tPart (tOp (rI0 fun i j => .int (i + j)) (tVar 1) (tC (.int 1)))) tNoPart)) (tCons (tFld K (tVar 0) "choice") tNil)))), ?_, ?_⟩)
  · obtain ⟨a, A, i, rfl, _⟩ := h; rfl
  · exact pss_cons (ps_if (pt_cmpR op_ge (pv 1) (pe_callB call_len_seq (by rfl) G.len boot_len (pa_cons (pe_fld (pv 0) rfl) pa_nil)) (nomark _)) (pss_one (ps_ret (pe_lst (pa_cons (pe_gl rfl N.noSuch) pa_nil)))) pss_nil)
      (pss_one (ps_ret (pe_met MC X.cl hr (by decide) (pv 0) (pa_cons (pe_op op_cat (pe_slice sl_list (pe_fld (pv 0) rfl) po_none (po_some (pv 1))) (pe_slice sl_list (pe_fld (pv 0) rfl) (po_some (pe_op op_add (pv 1) pe_int)) po_none)) (pa_cons (pe_fld (pv 0) rfl) pa_nil)))))
  · obtain ⟨a, A, i, rfl, hO, ok, hT, k⟩ := h
    obtain ⟨dx, fs, l, ha, h1, h2, ⟨ts, hts, hls⟩, h4, h5⟩ := L.view hO
    have ll : (ts.map V.ref).length = A.now.g.lines.length := by rw [List.length_map]; exact hls.1
    refine q_when (b := decide (A.now.g.lines.length ≤ i)) (et_is (et_test (ev_op (ev_var rfl) (ev_len (ev_fld (ev_var rfl) ha X.cl X.nL h2) (sq_of hts)) rv_I0)) (by rw [ll]; exact decide_eq_decide.mpr (by omega))) (fun hb H1 x1 => ?_) (fun hb H1 x1 => ?_)
    · have hb := of_decide_eq_true hb
      have ed : A.does (.cut i) = (A, Kv404.say (-2)) := if_pos hb
      rw [ed] at k
      exact s_refuse fun p H2 n2 x2 h2 => k.same L hO hT (freshN (ExtN.of x1) n2) (x1.trans x2) h2
    · have hb := of_decide_eq_false hb
      have ed : A.does (.cut i) = A.to_ ⟨⟨A.now.g.n, A.now.g.lines.eraseIdx i⟩, A.now.s⟩ := if_neg hb
      rw [ed] at k
      have hlen := ok.lines.len
      have ev1 := el_sl (K := K) (σ := start ["self", "i"] [.ref a, .int (i : Int)]) (ev_fld (ev_var (i := 0) rfl) (x1 _ _ ha) X.cl X.nL h2) eo_none (eo_some (ev_var (i := 1) (v := .int (i : Int)) rfl)) (sq_of (x1 _ _ hts))
      have ev2 := el_sl (K := K) (σ := start ["self", "i"] [.ref a, .int (i : Int)]) (ev_fld (ev_var (i := 0) rfl) (x1 _ _ ha) X.cl X.nL h2) (eo_some (ev_op (r := rI0 fun i j => .int (i + j)) (ev_var (i := 1) (v := .int (i : Int)) rfl) (ev_c (v := .int 1)) (rv_I0 (g := fun i j => .int (i + j))))) eo_none (sq_of (x1 _ _ hts))
      have c1 : cutV (ts.map V.ref) none (some (i : Int)) = (ts.map V.ref).take i := cut_to _ _
      have c2 : cutV (ts.map V.ref) (some ((i : Int) + 1)) none = (ts.map V.ref).drop (i + 1) := by
        have := cut_from (ts.map V.ref) (i + 1)
        rw [← this]
        congr 2
      rw [c1] at ev1
      rw [c2] at ev2
      have ec : (ts.map V.ref).take i ++ (ts.map V.ref).drop (i + 1) = (ts.eraseIdx i).map V.ref := by
        rw [List.eraseIdx_eq_take_drop_succ, List.map_append, List.map_take, List.map_drop]
      have evc := el_cat ev1 ev2 (by rw [List.length_take, List.length_drop, ll]; omega)
      rw [ec] at evc
      refine (fun H2 x2 => ?_ : ∀ H2, Ex H1 H2 → tRet _ _ _ H2) H1 (Ex.refl H1)
      refine ⟨.ref a, rfl, a, dx, fs, rfl, x2 _ _ (x1 _ _ ha), h5 _ hm, evc H2 x2 _ fun p H3 hp x3 h3 => ?_⟩
      have x4 := (x1.trans x2).trans x3
      refine (ev_fld (ev_var (i := 0) rfl) (x4 _ _ ha) X.cl X.nS h4) H3 (Ex.refl H3) _ fun H4 x5 => ?_
      have x6 := x4.trans x5
      refine ⟨a, p, A, A.now.g.lines.eraseIdx i, A.now.s, rfl, L.ext hO (ExtN.of x6), ok, ⟨ts.eraseIdx i, x5 _ _ h3, (hls.ext x6).erase i⟩, ok.lines.sub (List.eraseIdx_sublist ..), fun p' H' nn kx o' h' => ?_⟩
      exact done_change L k (L.ext hO (ExtN.of x6)) (ExtN.of x6) (hT.ext x6) nn kx o' h'
end
end TP

/-! ## P9 -/
set_option Elab.async false
set_option linter.all false
set_option maxRecDepth 100000
set_option maxHeartbeats 2000000
namespace TP
open PySem PySem.Spec PyProof.Rows L2 Evl KeyL TT LamX
open Kv402 (Line)
open Kv404 (in_ list_ Abs Ans)
section
variable {P : Program} {w : World} {K : PySem.W.Frag} {mg : Str → Option Value} {base : Heap} {f : Addr} {fd : FuncData} {T : List (Addr × Str)} {C : Addr} {ms : List Str} {O : Rel}
abbrev tRowsM (C : Addr) (O : Rel) : TE := tMeth C "rows" (spRows O) [] E0 (tVar 0) tNil
/-- best(self) -/
def spBestM (T : List (Addr × Str)) (O : Rel) : Sp := fun vs H Q _ => ∃ (a : Addr) (A : Abs), vs = [.ref a] ∧ O H a A ∧ AbsOk A ∧ Tabs T H ∧ RetC T O a (A.does .best) H Q
theorem scBestM : FnScope ["self"] ["self"] (defScope sBestM) := ⟨rfl, rfl, rfl, by decide +kernel, rfl, by decide +kernel, by decide +kernel⟩
theorem tbOf {A : Abs} (ok : AbsOk A) : Tb A.now.g.n A.now.g.table (dd A.now.g.n A.now.g.lines) := Tb.of ok.n8 ok.lines.toLinesOk
theorem ev_best {σ : L2.St} {H : Hp} {a dx : Addr} {fs : List (Str × V)} {A : Abs} (L : Lies C ms O) (hO : O H a A) (ok : AbsOk A) (hr : ("rows" : Str) ∈ ms) (h0 : σ[0]? = some (some (.ref a))) : Ev (tCall spBest [] E0 (tCons (tRowsM C O) tNil)) σ H (.int (Kv404.best A.now.g.n A.now.g.table : Int)) := fun H1 e Q q => by
  obtain ⟨dx, fs, l, ha, _, _, _, _, h5⟩ := L.view hO
  refine ⟨.ref a, h0, a, dx, fs, rfl, e _ _ ha, h5 _ hr, a, A, rfl, L.ext hO (ExtN.of e), ok, fun p H2 hp e2 R => ⟨p, A.now.g.n, dd A.now.g.n A.now.g.lines, rfl, R, ok.n8, dd_le, fun b hb H3 e3 => ?_⟩⟩
  rw [← best_is (tbOf ok) hb] 
  exact q H3 (e2.trans e3)
theorem ok_bestM (F : Fun K "best" "Places.best" sBestM f fd) (L : Lies C ms O) (X : Txt K C) (N : Num mg) (hm : ("change" : Str) ∈ ms) (hr1 : ("rows" : Str) ∈ ms) (MC : Met P w K mg base C 4 "change" (spChange O)) (MR : Met P w K mg base C 2 "rows" (spRows O)) (CB : Cal P w K mg base 4 "best_choice" spBest) : FnOk P w K mg base CX0 5 f fd ["self"] (spBestM T O) := by
  refine F.ok scBestM (fun vs H Q E h => ?_) (fun cdv A outer s H vs Q E hr h => ⟨tSeq (tIfS (tTest (tOp rGt (tFld K (tVar 0) "count") (tC (.int 6)))) (tNo (-28)) tNext) (tRet (tMeth C "change" (spChange O) [] E0 (tVar 0) (tCons (tFld K (tVar 0) "lines") (tCons (tCall spBest [] E0 (tCons (tRowsM C O) tNil)) tNil)))), ?_, ?_⟩)
  · obtain ⟨a, A, rfl, _⟩ := h; rfl
  · exact pss_cons (ps_if (pt_cmpR op_gt (pe_fld (pv 0) rfl) (pe_gl rfl N.mBest) (nomark _)) (pss_one (ps_ret (pe_lst (pa_cons (pe_gl rfl N.many) pa_nil)))) pss_nil)
      (pss_one (ps_ret (pe_met MC X.cl hr (by decide) (pv 0) (pa_cons (pe_fld (pv 0) rfl) (pa_cons (pe_cal CB hr (by decide) rfl (pa_cons (pe_met0 MR X.cl hr (by decide) (pv 0)) pa_nil)) pa_nil)))))
  · obtain ⟨a, A, rfl, hO, ok, hT, k⟩ := h
    obtain ⟨dx, fs, l, ha, h1, h2, h3, h4, h5⟩ := L.view hO
    have hn8 := ok.n8
    refine q_when (b := decide (6 < A.now.g.n)) (et_is (et_test (ev_op (ev_fld (ev_var rfl) ha X.cl X.nC h1) ev_c rv_I0)) (decide_eq_decide.mpr (by omega))) (fun hb H1 x1 => ?_) (fun hb H1 x1 => ?_)
    · have hb := of_decide_eq_true hb
      have ed : A.does .best = (A, Kv404.say (-28)) := if_pos hb
      rw [ed] at k
      exact s_refuse fun p H2 n2 x2 h2 => k.same L hO hT (freshN (ExtN.of x1) n2) (x1.trans x2) h2
    · have hb := of_decide_eq_false hb
      have ed : A.does .best = A.to_ ⟨⟨A.now.g.n, A.now.g.lines⟩, Kv404.best A.now.g.n A.now.g.table⟩ := if_neg hb
      rw [ed] at k
      refine s_retMeth (ev_var rfl) (x1 _ _ ha) (h5 _ hm) (ea_cons (ev_fld (ev_var rfl) (x1 _ _ ha) X.cl X.nL h2) (ea_cons (ev_best (dx := dx) (fs := fs) L (L.ext hO (ExtN.of x1)) ok hr1 rfl) ea_nil)) fun H2 x2 => ⟨a, l, A, A.now.g.lines, _, rfl, L.ext hO (ExtN.of (x1.trans x2)), ok, h3.ext (x1.trans x2), ok.lines, fun p H' nn kx o' h' => ?_⟩
      exact done_change L k (L.ext hO (ExtN.of (x1.trans x2))) (ExtN.of (x1.trans x2)) (hT.ext (x1.trans x2)) nn kx o' h'
/-- greedy(self, k) -/
def spGreedyM (T : List (Addr × Str)) (O : Rel) : Sp := fun vs H Q _ => ∃ (a : Addr) (A : Abs) (k : Nat), vs = [.ref a, .int (k : Int)] ∧ O H a A ∧ AbsOk A ∧ Tabs T H ∧ RetC T O a (A.does (.greedy k)) H Q
theorem scGreedyM : FnScope ["self", "k"] ["self", "k"] (defScope sGreedyM) := ⟨rfl, rfl, rfl, by decide +kernel, rfl, by decide +kernel, by decide +kernel⟩
theorem ok_greedyM (F : Fun K "greedy" "Places.greedy" sGreedyM f fd) (L : Lies C ms O) (X : Txt K C) (N : Num mg) (hm : ("change" : Str) ∈ ms) (hr1 : ("rows" : Str) ∈ ms) (MC : Met P w K mg base C 4 "change" (spChange O)) (MR : Met P w K mg base C 2 "rows" (spRows O)) (CG : Cal P w K mg base 2 "greedy_choice" (spGreedy T)) : FnOk P w K mg base CX0 5 f fd ["self", "k"] (spGreedyM T O) := by
  refine F.ok scGreedyM (fun vs H Q E h => ?_) (fun cdv A outer s H vs Q E hr h => ⟨tSeq (tIfS (tOr (tTest (tOp tLt (tVar 1) (tC (.int 1)))) (tTest (tOp rGt (tVar 1) (tC (.int 8))))) (tNo (-22)) tNext) (tRet (tMeth C "change" (spChange O) [] E0 (tVar 0) (tCons (tFld K (tVar 0) "lines") (tCons (tCall (spGreedy T) [] E0 (tCons (tRowsM C O) (tCons (tVar 1) tNil))) tNil)))), ?_, ?_⟩)
  · obtain ⟨a, A, k, rfl, _⟩ := h; rfl
  · exact pss_cons (ps_if (PW.pt (pw_or (pt_cmpR op_lt (pv 1) pe_int (nomark _)) (pw_or1 (pt_cmpR op_gt (pv 1) (pe_gl rfl N.mNear) (nomark _))))) (pss_one (ps_ret (pe_lst (pa_cons (pe_gl rfl N.range) pa_nil)))) pss_nil)
      (pss_one (ps_ret (pe_met MC X.cl hr (by decide) (pv 0) (pa_cons (pe_fld (pv 0) rfl) (pa_cons (pe_cal CG hr (by decide) rfl (pa_cons (pe_met0 MR X.cl hr (by decide) (pv 0)) (pa_cons (pv 1) pa_nil))) pa_nil)))))
  · obtain ⟨a, A, kk, rfl, hO, ok, hT, k⟩ := h
    obtain ⟨dx, fs, l, ha, h1, h2, h3, h4, h5⟩ := L.view hO
    refine q_when (b := decide (kk < 1) || decide (8 < kk)) (et_or (et_is (et_test (ev_op (ev_var rfl) ev_c rv_I0)) (decide_eq_decide.mpr (by omega))) (fun _ => et_is (et_test (ev_op (ev_var rfl) ev_c rv_I0)) (decide_eq_decide.mpr (by omega)))) (fun hb H1 x1 => ?_) (fun hb H1 x1 => ?_)
    · have hb : kk = 0 ∨ 8 < kk := by
        simp only [Bool.or_eq_true, decide_eq_true_eq] at hb
        omega
      have ed : A.does (.greedy kk) = (A, Kv404.say (-22)) := if_pos hb
      rw [ed] at k
      exact s_refuse fun p H2 n2 x2 h2 => k.same L hO hT (freshN (ExtN.of x1) n2) (x1.trans x2) h2
    · have hb : ¬ (kk = 0 ∨ 8 < kk) := by
        simp only [Bool.or_eq_false_iff, decide_eq_false_iff_not] at hb
        omega
      have ed : A.does (.greedy kk) = A.to_ ⟨⟨A.now.g.n, A.now.g.lines⟩, Kv404.greedy A.now.g.n A.now.g.table kk A.now.g.n 0⟩ := if_neg hb
      rw [ed] at k
      refine ⟨.ref a, rfl, a, dx, fs, rfl, x1 _ _ ha, h5 _ hm, (ev_fld (ev_var (i := 0) rfl) (x1 _ _ ha) X.cl X.nL h2) H1 (Ex.refl H1) _ fun H2 x2 => ?_⟩
      have y2 := x1.trans x2
      refine ⟨.ref a, rfl, a, dx, fs, rfl, y2 _ _ ha, h5 _ hr1, a, A, rfl, L.ext hO (ExtN.of y2), ok, fun p H3 hp x3 R => ⟨.int (kk : Int), rfl, p, A.now.g.n, kk, A.now.g.table, dd A.now.g.n A.now.g.lines, rfl, R, ok.n8, by omega, by omega, tbOf ok, hT.ext (y2.trans x3), fun H4 eN T4 => ?_⟩⟩
      have eN4 : ExtN H H4 := (ExtN.of (y2.trans x3)).trans eN
      refine ⟨a, l, A, A.now.g.lines, _, rfl, L.ext hO eN4, ok, ?_, ok.lines, fun p' H' nn kx o' h' => done_change L k (L.ext hO eN4) eN4 T4 nn kx o' h'⟩
      obtain ⟨ts, g1, g2⟩ := h3
      exact ⟨ts, eN4 _ _ g1 (fun _ z => nomatch z), g2.1, fun i t ln q1 q2 => eN4 _ _ (g2.2 i t ln q1 q2) fun _ z => nomatch z⟩
end
end TP

/-! ## P10 -/
set_option Elab.async false
set_option linter.all false
set_option maxRecDepth 100000
set_option maxHeartbeats 2000000
namespace TP
open PySem PySem.Spec PyProof.Rows L2 Evl KeyL TT LamX
open Kv402 (Line)
open Kv404 (in_ list_ Abs Ans)
theorem perm_map_inv {α β : Type} (g : α → β) {ys zs : List β} (h : ys.Perm zs) : ∀ xs : List α, zs = xs.map g → ∃ xs' : List α, xs'.Perm xs ∧ ys = xs'.map g := by
  induction h with
  | nil => intro xs e; exact ⟨[], by rw [List.map_eq_nil_iff.mp e.symm], rfl⟩
  | cons x _ ih =>
    intro xs e
    cases xs with
    | nil => cases e
    | cons a xs =>
      rw [List.map_cons] at e
      injection e with e1 e2
      obtain ⟨xs', p, q⟩ := ih xs e2
      exact ⟨a :: xs', p.cons a, by rw [List.map_cons, ← e1, q]⟩
  | swap x y l =>
    intro xs e
    match xs, e with
    | a :: b :: xs, e =>
      rw [List.map_cons, List.map_cons] at e
      injection e with e1 e2
      injection e2 with e2 e3
      exact ⟨b :: a :: xs, List.Perm.swap a b xs, by rw [List.map_cons, List.map_cons, ← e1, ← e2, ← e3]⟩
  | trans _ _ ih1 ih2 =>
    intro xs e
    obtain ⟨xs1, p1, q1⟩ := ih2 xs e
    obtain ⟨xs2, p2, q2⟩ := ih1 xs1 q1
    exact ⟨xs2, p2.trans p1, q2⟩
def lineI (l : Line) : List Int := [(l.w : Int), (l.a : Int), (l.b : Int)]
theorem code_line (l : Line) : TS.code 100 (lineI l) = (l.w : Int) * 10000 + l.a * 100 + l.b := by
  have e2 : (100 : Int) ^ 2 = 10000 := by decide
  have e1 : (100 : Int) ^ 1 = 100 := by decide
  have e0 : (100 : Int) ^ 0 = 1 := by decide
  show (l.w : Int) * 100 ^ 2 + ((l.a : Int) * 100 ^ 1 + ((l.b : Int) * 100 ^ 0 + 0)) = _
  rw [e2, e1, e0]
  omega
theorem ends_min {m : Line} {x y : Nat} (h : m.a < m.b) (hxy : x ≠ y) : Kv402.ends m x y = (m.a == min x y && m.b == max x y) := by
  unfold Kv402.ends
  rw [Bool.eq_iff_iff]
  simp only [Bool.or_eq_true, Bool.and_eq_true, beq_iff_eq]
  omega
section
variable {P : Program} {w : World} {K : PySem.W.Frag} {mg : Str → Option Value} {base : Heap} {f : Addr} {fd : FuncData} {T : List (Addr × Str)} {C : Addr} {ms : List Str} {O : Rel}
/-- line(self, a, b, w) -/
def spLine (T : List (Addr × Str)) (O : Rel) : Sp := fun vs H Q _ => ∃ (a : Addr) (A : Abs) (x y z : Nat), vs = [.ref a, .int (x : Int), .int (y : Int), .int (z : Int)] ∧ O H a A ∧ AbsOk A ∧ Tabs T H ∧ RetC T O a (A.does (.line x y z)) H Q
abbrev nLine : List Str := ["self", "a", "b", "w", "ends", "others", "old"]
theorem scLine : FnScope nLine ["self", "a", "b", "w"] (defScope sLine) := ⟨rfl, rfl, rfl, by decide +kernel, rfl, by decide +kernel, by decide +kernel⟩
def rMax2' : List V → Hp → VK → Prop := fun xs H Q => ∃ i j : Int, xs = [.int i, .int j] ∧ Q (.int (if j > i then j else i)) H
theorem ev_max2' {H : Hp} {σ : L2.St} {ta tb : TE} {i j : Nat} (ha : Ev ta σ H (.int (i : Int))) (hb : Ev tb σ H (.int (j : Int))) : Ev (tCB rMax2' (tCons ta (tCons tb tNil))) σ H (.int ((max i j : Nat) : Int)) :=
  ev_cb (ea_cons ha (ea_cons hb ea_nil)) fun H1 _ Q q => ⟨i, j, rfl, by
    have e : (if (j : Int) > (i : Int) then (j : Int) else (i : Int)) = ((max i j : Nat) : Int) := by
      split <;> omega
    rw [e]; exact q H1 (Ex.refl H1)⟩
abbrev tCnt (K : PySem.W.Frag) : TE := tFld K (tVar 0) "count"
def tLine1 (K : PySem.W.Frag) : TS := tIfS (tOr (tTest (tOp rGe (tVar 1) (tCnt K))) (tTest (tOp rGe (tVar 2) (tCnt K)))) (tNo (-2)) tNext
def tLine2 : TS := tIfS (tOr (tTest (tOp rEq (tVar 1) (tVar 2))) (tOr (tTest (tOp tLt (tVar 3) (tC (.int 1)))) (tTest (tOp rGt (tVar 3) (tC (.int 99)))))) (tNo (-22)) tNext
def tLine3 : TS := tAsg (tTup (tCons (tCB rMin2 (tCons (tVar 1) (tCons (tVar 2) tNil))) (tCons (tCB rMax2' (tCons (tVar 1) (tCons (tVar 2) tNil))) tNil))) (gName 4)
def tOldT (K : PySem.W.Frag) : TT := tTest (tOp (rNeD K) (tSl (rSlT K) (tVar 6) (tPart (tC (.int 1))) tNoPart) (tVar 4))
def tLine4 (K : PySem.W.Frag) : TS := tAsg (tLc (iList K (tFld K (tVar 0) "lines")) (gName 6) (tOldT K) (tVar 6) [6]) (gName 5)
def tLine5 (K : PySem.W.Frag) : TS := tIfS (tTest (tOp rGe (tLen K (tVar 5)) (tC (.int 14)))) (tNo (-28)) tNext
def tLine6 (K : PySem.W.Frag) (C : Addr) (O : Rel) : TS := tRet (tMeth C "change" (spChange O) [] E0 (tVar 0) (tCons (tCB (rSortU K 3 100) (tCons (tOp rCat (tVar 5) (tLst (tCons (tTup (tCons (tVar 3) (tCons (tOp (rIxT K) (tVar 4) (tC (.int 0))) (tCons (tOp (rIxT K) (tVar 4) (tC (.int 1))) tNil)))) tNil))) tNil)) (tCons (tFld K (tVar 0) "choice") tNil)))
def t_line (K : PySem.W.Frag) (C : Addr) (O : Rel) : TS := tSeq (tLine1 K) (tSeq tLine2 (tSeq tLine3 (tSeq (tLine4 K) (tSeq (tLine5 K) (tLine6 K C O)))))
theorem d_line {cdv : Value} {A : Around} {outer : List Env} {s : Shared} {H : Hp} {E : XK} (X : Txt K C) (G : Glb mg) (N : Num mg) (MC : Met P w K mg base C 4 "change" (spChange O)) (hr : Room 4 (A.deeper (envOfC "Places.line" (defScope sLine) s.heap.objs.size f cdv))) :
    PSs (cxOf CX0 P w K mg base nLine "Places.line" (defScope sLine) f cdv A outer s H E).nox (defBody sLine) (t_line K C O) :=
  pss_cons (ps_if (PW.pt (pw_or (pt_cmpR op_ge (pv 1) (pe_fld (pv 0) rfl) (nomark _)) (pw_or1 (pt_cmpR op_ge (pv 2) (pe_fld (pv 0) rfl) (nomark _))))) (pss_one (ps_ret (pe_lst (pa_cons (pe_gl rfl N.noSuch) pa_nil)))) pss_nil)
    (pss_cons (ps_if (PW.pt (pw_or (pt_cmpR op_eq (pv 1) (pv 2) (nomark _)) (pw_or (pt_cmpR op_lt (pv 3) pe_int (nomark _)) (pw_or1 (pt_cmpR op_gt (pv 3) (pe_gl rfl N.mLen) (nomark _)))))) (pss_one (ps_ret (pe_lst (pa_cons (pe_gl rfl N.range) pa_nil)))) pss_nil)
    (pss_cons (ps_set (i := 4) scLine.nd rfl (Or.inr rfl) (pe_tup (pa_cons (pe_callB (call_min2 rfl) (by rfl) G.min boot_min (pa_cons (pv 1) (pa_cons (pv 2) pa_nil))) (pa_cons (pe_callB (call_max2 rfl) (by rfl) G.max boot_max (pa_cons (pv 1) (pa_cons (pv 2) pa_nil))) pa_nil))))
    (pss_cons (ps_setLc (i := 5) (own := [("old", 6)]) (g := gName 6) rfl scLine.nd rfl rfl (sw_true rfl rfl rfl (by decide +kernel)) (pi_list (pe_fld (pv 0) rfl)) (blkOk_by (N := nLine) (sc := defScope sLine) (by decide +kernel))
        (fun _ _ _ _ _ => pg_name (i := 6) scLine.nd rfl (Or.inl rfl)) (fun _ _ _ _ _ => pts_one (pt_cmpR (op_neD (hr.units)) (pe_slice sl_tup (pv 6) (po_some pe_int) po_none) (pv 4) (nomark _))) (fun _ _ _ _ _ => pv 6))
    (pss_cons (ps_if (pt_cmpR op_ge (pe_callB call_len_seq (by rfl) G.len boot_len (pa_cons (pv 5) pa_nil)) (pe_gl rfl N.mLines) (nomark _)) (pss_one (ps_ret (pe_lst (pa_cons (pe_gl rfl N.many) pa_nil)))) pss_nil)
    (pss_one (ps_ret (pe_met MC X.cl hr (by decide) (pv 0) (pa_cons (pe_callB (cr_sortT (d := 3) (B := 100) (by decide)) (by rfl) G.sorted boot_sorted (pa_cons (pe_op op_cat (pv 5) (pe_lst (pa_cons (pe_tup (pa_cons (pv 3) (pa_cons (pe_ix ix_tup (pv 4) pe_int (fun _ _ => rfl)) (pa_cons (pe_ix ix_tup (pv 4) pe_int (fun _ _ => rfl)) pa_nil)))) pa_nil))) pa_nil)) (pa_cons (pe_fld (pv 0) rfl) pa_nil)))))))))
theorem ev_old {σ : L2.St} {H : Hp} {t e : Addr} {l : Line} {x y : Nat} (h6 : σ[6]? = some (some (.ref t))) (h4 : σ[4]? = some (some (.ref e))) (ht : H t = some (.tup (lineV l))) (he : H e = some (.tup [.int ((min x y : Nat) : Int), .int ((max x y : Nat) : Int)])) (hl : l.a < l.b) (hxy : x ≠ y) : EvT (tOldT K) σ H (!Kv402.ends l x y) := by
  refine et_test fun H1 e1 Q q => ?_
  refine ⟨.ref t, h6, 1, rfl, t, lineV l, rfl, st_of (e1 _ _ ht), fun z => absurd (show (1 : Nat) = 0 from z.1) (by decide), fun p hp => ?_⟩
  have e2 : Ex H1 (upd H1 p (.tup (cutV (lineV l) (some 1) none))) := Ex.new hp
  refine ⟨.ref e, h4, .tuple [.int (l.a : Int), .int (l.b : Int)], .tuple [.int ((min x y : Nat) : Int), .int ((max x y : Nat) : Int)], .tup (st_of upd_same) (.cons (.int _) (.cons (.int _) .nil)), .tup (st_of (e2 _ _ (e1 _ _ he))) (.cons (.int _) (.cons (.int _) .nil)), rfl, rfl, ?_⟩
  have eq : PyData.eqv (.tuple [.int (l.a : Int), .int (l.b : Int)]) (.tuple [.int ((min x y : Nat) : Int), .int ((max x y : Nat) : Int)]) = Kv402.ends l x y := by
    rw [ends_min hl hxy, Bool.eq_iff_iff]
    simp only [PyData.eqv, PyData.eqvAll, Bool.and_true, Bool.and_eq_true, beq_iff_eq]
    omega
  rw [eq]
  exact q _ e2
theorem lst_tup {σ : L2.St} {H : Hp} {ta : TA} {vs : List V} {R : VK} (h : EvA ta σ H vs) (hz : vs.length ≤ 100000) (k : ∀ H1 q pl, Ex H H1 → H1 q = none → (upd H1 q (.tup vs)) pl = none → R (.ref pl) (upd (upd H1 q (.tup vs)) pl (.lst [.ref q]))) : tLst (tCons (tTup ta) tNil) σ H R :=
  h H (Ex.refl H) _ fun H1 e => ⟨sz_of hz, fun q hq => ⟨by show 1 ≤ sizeLine; decide, fun pl hpl => k H1 q pl e hq hpl⟩⟩
/-- sorted by code, one line an end's pair: it is put -/
theorem put_code {others : List Line} {nl : Line} {zs : List Line} (hw : ∀ l ∈ others ++ [nl], l.w < 100 ∧ l.a < 100 ∧ l.b < 100) (hn : ∀ m ∈ others, ¬ (m.a = nl.a ∧ m.b = nl.b)) (honce : others.Pairwise fun l m => ¬ (l.a = m.a ∧ l.b = m.b)) (hord : others.Pairwise fun x y => Kv402.before x y = true)
    (hp : zs.Perm (others ++ [nl])) (hc : zs.Pairwise fun l m => TS.code 100 (lineI l) ≤ TS.code 100 (lineI m)) : zs = Kv402.put nl others := by
  refine put_is hn hord ?_ hp
  have h1 : (others ++ [nl]).Pairwise fun l m => ¬ (l.a = m.a ∧ l.b = m.b) := List.pairwise_append.mpr ⟨honce, List.pairwise_singleton _ _, fun a ha b hb => by rw [List.mem_singleton.mp hb]; exact hn a ha⟩
  have h2 : zs.Pairwise fun l m => ¬ (l.a = m.a ∧ l.b = m.b) := (hp.pairwise_iff (fun {a b} h q => h ⟨q.1.symm, q.2.symm⟩)).mpr h1
  refine (hc.and h2).imp_of_mem fun {a b} ha hb hab => ?_
  obtain ⟨q1, q2⟩ := hab
  rw [code_line, code_line] at q1
  have wa := hw a (hp.mem_iff.mp ha)
  have wb := hw b (hp.mem_iff.mp hb)
  rw [before_iff]
  omega
theorem pure_line (L : Lies C ms O) (X : Txt K C) (hm : ("change" : Str) ∈ ms) (vs : List V) (H : Hp) (Q : VK) (E : XK) (h : spLine T O vs H Q E) : t_line K C O { nx := fun _ H' => Q .non H', rt := Q } (start nLine vs) H := by
  obtain ⟨a, A, x, y, z, rfl, hO, ok, hT, k⟩ := h
  obtain ⟨dx, fs, l, ha, h1, h2, ⟨ts, hts, hls⟩, h4, h5⟩ := L.view hO
  have hn8 := ok.n8
  have hlen := ok.lines.len
  refine q_when (b := decide (A.now.g.n ≤ x) || decide (A.now.g.n ≤ y)) (et_or (et_is (et_test (ev_op (ev_var rfl) (ev_fld (ev_var rfl) ha X.cl X.nC h1) rv_I0)) (decide_eq_decide.mpr (by omega))) (fun _ => et_is (et_test (ev_op (ev_var rfl) (ev_fld (ev_var rfl) ha X.cl X.nC h1) rv_I0)) (decide_eq_decide.mpr (by omega)))) (fun hb H1 x1 => ?_) (fun hb H1 x1 => ?_)
  · have hb : A.now.g.n ≤ x ∨ A.now.g.n ≤ y := by simpa only [Bool.or_eq_true, decide_eq_true_eq] using hb
    have ed : A.does (.line x y z) = (A, Kv404.say (-2)) := if_pos hb
    rw [ed] at k
    exact s_refuse fun p H2 n2 x2 h2 => k.same L hO hT (freshN (ExtN.of x1) n2) (x1.trans x2) h2
  have hb1 : ¬ (A.now.g.n ≤ x ∨ A.now.g.n ≤ y) := by
    simp only [Bool.or_eq_false_iff, decide_eq_false_iff_not] at hb
    omega
  refine q_when (b := decide (x = y) || (decide (z < 1) || decide (99 < z))) (et_or (et_is (et_test (ev_op (ev_var rfl) (ev_var rfl) (rv_eq rfl))) ?_) (fun _ => et_or (et_is (et_test (ev_op (ev_var rfl) ev_c rv_I0)) (decide_eq_decide.mpr (by omega))) (fun _ => et_is (et_test (ev_op (ev_var rfl) ev_c rv_I0)) (decide_eq_decide.mpr (by omega))))) (fun hb H2 x2 => ?_) (fun hb H2 x2 => ?_)
  · exact decide_eq_decide.mpr ⟨fun q => by injection q with q; omega, fun q => by rw [q]⟩
  · have hb : x = y ∨ z = 0 ∨ 99 < z := by
      simp only [Bool.or_eq_true, decide_eq_true_eq] at hb
      omega
    have ed : A.does (.line x y z) = (A, Kv404.say (-22)) := (if_neg hb1).trans (if_pos hb)
    rw [ed] at k
    exact s_refuse fun p H3 n3 x3 h3 => k.same L hO hT (freshN (ExtN.of (x1.trans x2)) n3) ((x1.trans x2).trans x3) h3
  have hb2 : ¬ (x = y ∨ z = 0 ∨ 99 < z) := by
    simp only [Bool.or_eq_false_iff, decide_eq_false_iff_not] at hb
    omega
  have hxy : x ≠ y := fun q => hb2 (.inl q)
  have y2 := x1.trans x2
  -- ends
  refine q_asgU (eu_tup (ea_cons (ev_min2 (i := x) (j := y) (ev_var rfl) (ev_var rfl)) (ea_cons (ev_max2' (i := x) (j := y) (ev_var rfl) (ev_var rfl)) ea_nil)) (by show 2 ≤ 100000; decide)) fun e H3 he x3 he3 => ?_
  have y3 := y2.trans x3
  -- others
  have lz : ∀ i t, ts[i]? = some t → ∃ ln, A.now.g.lines[i]? = some ln ∧ H t = some (.tup (lineV ln)) ∧ ln.a < ln.b := fun i t ht => by
    have hi : i < A.now.g.lines.length := by rw [← hls.1]; exact (List.getElem?_eq_some_iff.mp ht).1
    obtain ⟨ln, hln⟩ : ∃ ln, A.now.g.lines[i]? = some ln := ⟨_, List.getElem?_eq_getElem hi⟩
    exact ⟨ln, hln, hls.2 i t ln ht hln, ok.lines.ab ln (List.mem_of_getElem? hln)⟩
  have ll : (ts.map V.ref).length = A.now.g.lines.length := by rw [List.length_map]; exact hls.1
  have key := el_lcL (K := K) (t := tOldT K) (te := tVar 6) (tl := tFld K (tVar 0) "lines") (j := 6) (vs := [6]) (σ := (start nLine [.ref a, .int (x : Int), .int (y : Int), .int (z : Int)]).set 4 (some (.ref e))) (H := H3) (xs := ts.map V.ref) (fun i => !Kv402.ends (A.now.g.lines.getD i ⟨0, 0, 0⟩) x y) (fun i => .ref (ts.getD i 0)) (ev_fld (ev_var rfl) (y3 _ _ ha) X.cl X.nL h2) (sq_of (y3 _ _ hts)) (by rw [ll]; omega) (fun x => rfl)
    (fun i v H4 x4 hv => ?_) (fun i v H4 x4 hv _ => ?_)
  · refine q_asgL key fun po H4 hpo x4 h4o => ?_
    have y4 := y3.trans x4
    rw [ll] at h4o
    -- the others as lines
    have eo : A.now.g.lines.filter (fun m => !Kv402.ends m x y) = ((List.range A.now.g.lines.length).filter fun i => !Kv402.ends (A.now.g.lines.getD i ⟨0, 0, 0⟩) x y).map fun i => A.now.g.lines.getD i ⟨0, 0, 0⟩ := (filter_places A.now.g.lines ⟨0, 0, 0⟩ fun m => !Kv402.ends m x y).symm
    have eg : given A.now.g.lines.length (fun i => !Kv402.ends (A.now.g.lines.getD i ⟨0, 0, 0⟩) x y) (fun i => V.ref (ts.getD i 0)) = (((List.range A.now.g.lines.length).filter fun i => !Kv402.ends (A.now.g.lines.getD i ⟨0, 0, 0⟩) x y).map fun i => ts.getD i 0).map V.ref := by
      unfold given
      rw [List.map_map]; rfl
    rw [eg] at h4o
    -- each with its tuple
    generalize hix : (List.range A.now.g.lines.length).filter (fun i => !Kv402.ends (A.now.g.lines.getD i ⟨0, 0, 0⟩) x y) = ix at eo h4o
    have hixl : ∀ i ∈ ix, i < A.now.g.lines.length := fun i hi => by
      rw [← hix] at hi
      exact List.mem_range.mp (List.mem_filter.mp hi).1
    have hpair : ∀ i ∈ ix, H (ts.getD i 0) = some (.tup (lineV (A.now.g.lines.getD i ⟨0, 0, 0⟩))) := fun i hi => by
      have hi2 := hixl i hi
      obtain ⟨t, ht⟩ : ∃ t, ts[i]? = some t := ⟨_, List.getElem?_eq_getElem (by rw [hls.1]; exact hi2)⟩
      obtain ⟨ln, hln⟩ : ∃ ln, A.now.g.lines[i]? = some ln := ⟨_, List.getElem?_eq_getElem hi2⟩
      rw [List.getD_eq_getElem?_getD, ht, List.getD_eq_getElem?_getD, hln]
      exact hls.2 i t ln ht hln
    have hcnt : (A.now.g.lines.filter fun m => !Kv402.ends m x y).length = ix.length := by rw [eo, List.length_map]
    refine q_when (b := decide (14 ≤ (A.now.g.lines.filter fun m => !Kv402.ends m x y).length)) (et_is (et_test (ev_op (ev_len (ev_var rfl) (sq_of h4o)) ev_c rv_I0)) (by rw [List.length_map, List.length_map, hcnt]; exact decide_eq_decide.mpr (by omega))) (fun hb H5 x5 => ?_) (fun hb H5 x5 => ?_)
    · have hb := of_decide_eq_true hb
      have ed : A.does (.line x y z) = (A, Kv404.say (-28)) := (if_neg hb1).trans ((if_neg hb2).trans (if_pos hb))
      rw [ed] at k
      exact s_refuse fun p H6 n6 x6 h6 => k.same L hO hT (freshN (ExtN.of (y4.trans x5)) n6) ((y4.trans x5).trans x6) h6
    · have hb3 := of_decide_eq_false hb
      have ed : A.does (.line x y z) = A.to_ ⟨⟨A.now.g.n, Kv402.put ⟨min x y, max x y, z⟩ (A.now.g.lines.filter fun m => !Kv402.ends m x y)⟩, A.now.s⟩ := (if_neg hb1).trans ((if_neg hb2).trans (if_neg hb3))
      rw [ed] at k
      have y5 := y4.trans x5
      have hin : LinesIn A.now.g.n (Kv402.put ⟨min x y, max x y, z⟩ (A.now.g.lines.filter fun m => !Kv402.ends m x y)) := ok.lines.put (by omega) (by omega) hxy (by omega) (by omega) (by omega)
      refine ⟨.ref a, rfl, a, dx, fs, rfl, y5 _ _ ha, h5 _ hm, .ref po, rfl, ?_⟩
      have evt : EvA (tCons (tVar 3) (tCons (tOp (rIxT K) (tVar 4) (tC (.int 0))) (tCons (tOp (rIxT K) (tVar 4) (tC (.int 1))) tNil))) (((start nLine [.ref a, .int (x : Int), .int (y : Int), .int (z : Int)]).set 4 (some (.ref e))).set 5 (some (.ref po))) H5 (lineV ⟨min x y, max x y, z⟩) :=
        ea_cons (ev_var rfl) (ea_cons (ev_op (ev_var rfl) ev_c (rv_ixT (st_of (x5 _ _ (x4 _ _ he3))) rfl)) (ea_cons (ev_op (ev_var rfl) ev_c (rv_ixT (st_of (x5 _ _ (x4 _ _ he3))) rfl)) ea_nil))
      refine lst_tup evt (by show 3 ≤ 100000; decide) fun H6 q pl x6 hq hpl => ?_
      have x7 : Ex H6 (upd H6 q (.tup (lineV ⟨min x y, max x y, z⟩))) := Ex.new hq
      have x8 : Ex (upd H6 q (.tup (lineV ⟨min x y, max x y, z⟩))) (upd (upd H6 q (.tup (lineV ⟨min x y, max x y, z⟩))) pl (.lst [.ref q])) := Ex.new hpl
      have x9 := (x5.trans x6).trans (x7.trans x8)
      refine ⟨po, pl, _, [.ref q], rfl, rfl, x9 _ _ h4o, upd_same, sz_of (by rw [List.length_map, List.length_map, ← hcnt]; show _ + 1 ≤ _; omega), fun pc hpc => ?_⟩
      generalize hH8 : upd (upd H6 q (.tup (lineV ⟨min x y, max x y, z⟩))) pl (.lst [.ref q]) = H8 at x9 x8 hpc ⊢
      have hq8 : H8 q = some (.tup (lineV ⟨min x y, max x y, z⟩)) := x8 _ _ upd_same
      have x10 : Ex H8 (upd H8 pc (.lst ((ix.map fun i => ts.getD i 0).map V.ref ++ [V.ref q]))) := Ex.new hpc
      have y8 : Ex H H8 := y4.trans x9
      -- tuples and lines beside each other
      have prsV : (ix.map fun i => ts.getD i 0).map V.ref ++ [V.ref q] = (ix.map (fun i => (ts.getD i 0, A.now.g.lines.getD i ⟨0, 0, 0⟩)) ++ [(q, (⟨min x y, max x y, z⟩ : Line))]).map fun pr => V.ref pr.1 := by
        rw [List.map_append, List.map_map, List.map_map]; rfl
      have prsL : (ix.map (fun i => (ts.getD i 0, A.now.g.lines.getD i ⟨0, 0, 0⟩)) ++ [(q, (⟨min x y, max x y, z⟩ : Line))]).map Prod.snd = (A.now.g.lines.filter fun m => !Kv402.ends m x y) ++ [⟨min x y, max x y, z⟩] := by
        rw [List.map_append, List.map_map, eo]; rfl
      have prsH : ∀ pr ∈ ix.map (fun i => (ts.getD i 0, A.now.g.lines.getD i ⟨0, 0, 0⟩)) ++ [(q, (⟨min x y, max x y, z⟩ : Line))], H8 pr.1 = some (.tup (lineV pr.2)) := fun pr hpr => by
        rcases List.mem_append.mp hpr with hpr | hpr
        · obtain ⟨i, hi, rfl⟩ := List.mem_map.mp hpr
          exact y8 _ _ (hpair i hi)
        · rw [List.mem_singleton.mp hpr]; exact hq8
      have prsB : ∀ pr ∈ ix.map (fun i => (ts.getD i 0, A.now.g.lines.getD i ⟨0, 0, 0⟩)) ++ [(q, (⟨min x y, max x y, z⟩ : Line))], pr.2.w < 100 ∧ pr.2.a < 100 ∧ pr.2.b < 100 := fun pr hpr => by
        have hmem : pr.2 ∈ (A.now.g.lines.filter fun m => !Kv402.ends m x y) ++ [⟨min x y, max x y, z⟩] := by rw [← prsL]; exact List.mem_map.mpr ⟨pr, hpr, rfl⟩
        rcases List.mem_append.mp hmem with hmem | hmem
        · have hml := (List.mem_filter.mp hmem).1
          have q1 := ok.lines.w99 _ hml
          have q2 := ok.lines.ab _ hml
          have q3 := ok.lines.bn _ hml
          omega
        · rw [List.mem_singleton.mp hmem]
          show z < 100 ∧ min x y < 100 ∧ max x y < 100
          omega
      generalize ix.map (fun i => (ts.getD i 0, A.now.g.lines.getD i ⟨0, 0, 0⟩)) ++ [(q, (⟨min x y, max x y, z⟩ : Line))] = prs at prsV prsL prsH prsB
      have prsN : prs.length ≤ 14 := by
        have e := congrArg List.length prsL
        rw [List.length_map, List.length_append] at e
        rw [e]
        show _ + 1 ≤ 14
        omega
      rw [prsV] at x10 ⊢
      refine ⟨pc, prs.map fun pr => V.ref pr.1, rfl, sq_of upd_same, by rw [List.length_map]; omega, fun v hv => ?_, fun ys ps hperm hpw hps => ?_⟩
      · obtain ⟨pr, hpr, rfl⟩ := List.mem_map.mp hv
        refine ⟨lineI pr.2, ⟨pr.1, rfl, st_of (x10 _ _ (prsH pr hpr))⟩, rfl, fun m hm => ?_⟩
        obtain ⟨b1, b2, b3⟩ := prsB pr hpr
        have hm : m = (pr.2.w : Int) ∨ m = (pr.2.a : Int) ∨ m = (pr.2.b : Int) := by simpa [lineI] using hm
        omega
      · obtain ⟨prs', pp, rfl⟩ := perm_map_inv (fun pr : Addr × Line => V.ref pr.1) hperm prs rfl
        have x11 : Ex (upd H8 pc (.lst (prs.map fun pr => V.ref pr.1))) (upd (upd H8 pc (.lst (prs.map fun pr => V.ref pr.1))) ps (.lst (prs'.map fun pr => V.ref pr.1))) := Ex.new hps
        have zs : prs'.map Prod.snd = Kv402.put ⟨min x y, max x y, z⟩ (A.now.g.lines.filter fun m => !Kv402.ends m x y) := by
          refine put_code (fun ln hln => ?_) (fun m hm => others_not ok.lines hm) (ok.lines.once.sublist List.filter_sublist) (ok.lines.ord.sublist List.filter_sublist) (by rw [← prsL]; exact pp.map _) ?_
          · rw [← prsL] at hln
            obtain ⟨pr, hpr, rfl⟩ := List.mem_map.mp hln
            exact prsB pr hpr
          · rw [List.pairwise_map] at hpw ⊢
            refine hpw.imp_of_mem fun {u v} hu hv huv => huv (lineI u.2) (lineI v.2) ⟨u.1, rfl, st_of (x10 _ _ (prsH u (pp.mem_iff.mp hu)))⟩ ⟨v.1, rfl, st_of (x10 _ _ (prsH v (pp.mem_iff.mp hv)))⟩
        have y11 := (y8.trans x10).trans x11
        refine (ev_fld (ev_var (i := 0) rfl) (y11 _ _ ha) X.cl X.nS h4) _ (Ex.refl _) _ fun H12 x12 => ?_
        have y12 := y11.trans x12
        refine ⟨a, ps, A, _, A.now.s, rfl, L.ext hO (ExtN.of y12), ok, ⟨prs'.map Prod.fst, ?_, ?_, fun i t ln hi1 hi2 => ?_⟩, hin, fun p' H' nn kx o' h' => done_change L k (L.ext hO (ExtN.of y12)) (ExtN.of y12) (hT.ext y12) nn kx o' h'⟩
        · rw [List.map_map]
          exact x12 _ _ upd_same
        · rw [← zs, List.length_map, List.length_map]
        · rw [← zs] at hi2
          rw [List.getElem?_map] at hi1 hi2
          cases ei : prs'[i]? with
          | none => rw [ei] at hi1; cases hi1
          | some pr =>
            rw [ei] at hi1 hi2
            cases hi1
            cases hi2
            exact x12 _ _ (x11 _ _ (x10 _ _ (prsH pr (pp.mem_iff.mp (List.mem_of_getElem? ei)))))
  · obtain ⟨t, ht, rfl⟩ := ref_item hv
    obtain ⟨ln, hln, htup, hab⟩ := lz i t ht
    have eld : A.now.g.lines.getD i ⟨0, 0, 0⟩ = ln := by rw [List.getD_eq_getElem?_getD, hln]; rfl
    rw [eld]
    exact ev_old rfl rfl (x4 _ _ (y3 _ _ htup)) (x4 _ _ he3) hab hxy
  · obtain ⟨t, ht, rfl⟩ := ref_item hv
    refine ev_is (ev_var rfl) ?_
    rw [List.getD_eq_getElem?_getD, ht]; rfl
theorem ok_line (F : Fun K "line" "Places.line" sLine f fd) (L : Lies C ms O) (X : Txt K C) (G : Glb mg) (N : Num mg) (hm : ("change" : Str) ∈ ms) (MC : Met P w K mg base C 4 "change" (spChange O)) : FnOk P w K mg base CX0 5 f fd ["self", "a", "b", "w"] (spLine T O) := by
  refine F.ok scLine (fun vs H Q E h => ?_) (fun cdv A outer s H vs Q E hr h => ⟨t_line K C O, d_line X G N MC hr, pure_line L X hm vs H Q E h⟩)
  obtain ⟨a, A, x, y, z, rfl, _⟩ := h; rfl
end
end TP

/-! ## P11 -/
set_option Elab.async false
set_option linter.all false
set_option maxRecDepth 100000
set_option maxHeartbeats 2000000
namespace TP
open PySem PySem.Spec PyProof.Rows L2 Evl KeyL TT LamX
open Kv402 (Line)
open Kv404 (in_ list_ Abs Ans)
abbrev sTLines : Stmt := inClass sPlaces 13
abbrev sTChosen : Stmt := inClass sPlaces 14
abbrev sTNearest : Stmt := inClass sPlaces 15
abbrev sTNear : Stmt := inClass sPlaces 16
/-- numbers told as an answer -/
theorem ansV_list (l : List Nat) : ansV (Kv404.list l) = nV (l.length :: l) := by
  show V.int (l.length : Int) :: ((l.map Int.ofNat).map V.int) = V.int (l.length : Int) :: nV l
  rw [List.map_map]; rfl
theorem ansV_nums (m : Nat) (l : List Nat) : ansV ⟨(m : Nat), l⟩ = nV (m :: l) := by
  show V.int (m : Int) :: ((l.map Int.ofNat).map V.int) = V.int (m : Int) :: nV l
  rw [List.map_map]; rfl
section
variable {P : Program} {w : World} {K : PySem.W.Frag} {mg : Str → Option Value} {base : Heap} {f : Addr} {fd : FuncData} {T : List (Addr × Str)} {C : Addr} {ms : List Str} {O : Rel}
/-- tell_lines(self) -/
def spTLines (T : List (Addr × Str)) (O : Rel) : Sp := fun vs H Q _ => ∃ (a : Addr) (A : Abs), vs = [.ref a] ∧ O H a A ∧ AbsOk A ∧ Tabs T H ∧ RetC T O a (A.does .lines) H Q
abbrev nTLines : List Str := ["self", "told", "length", "a", "b"]
theorem scTLines : FnScope nTLines ["self"] (defScope sTLines) := ⟨rfl, rfl, rfl, by decide +kernel, rfl, by decide +kernel, by decide +kernel⟩
def t_tlines (K : PySem.W.Frag) : TS := tSeq (tAsg (tLst (tCons (tLen K (tFld K (tVar 0) "lines")) tNil)) (gName 1))
  (tSeq (tFor (iList K (tFld K (tVar 0) "lines")) (gTup K 3 (gCons (gName 2) (gCons (gName 3) (gCons (gName 4) gNil)))) (tDrop (tBM K "list" rExtend (tVar 1) (tCons (tLst (tCons (tVar 3) (tCons (tVar 4) (tCons (tVar 2) tNil)))) tNil)))) (tRet (tVar 1)))
def flatL (s : List Line) : List Nat := s.flatMap fun l => [l.a, l.b, l.w]
theorem flatL_len (s : List Line) : (flatL s).length = 3 * s.length := by
  induction s with
  | nil => rfl
  | cons a s ih => unfold flatL at ih ⊢; rw [List.flatMap_cons, List.length_append, ih]; show 3 + 3 * s.length = 3 * (s.length + 1); omega
theorem ok_tlines (F : Fun K "tell_lines" "Places.tell_lines" sTLines f fd) (L : Lies C ms O) (X : Txt K C) (G : Glb mg) : FnOk P w K mg base CX0 1 f fd ["self"] (spTLines T O) := by
  refine F.ok scTLines (fun vs H Q E h => ?_) (fun cdv A outer s H vs Q E hr h => ⟨t_tlines K, ?_, ?_⟩)
  · obtain ⟨a, A, rfl, _⟩ := h; rfl
  · exact pss_cons (ps_set (i := 1) scTLines.nd rfl (Or.inl rfl) (pe_lst (pa_cons (pe_callB call_len_seq (by rfl) G.len boot_len (pa_cons (pe_fld (pv 0) rfl) pa_nil)) pa_nil)))
      (pss_cons (ps_for PassesOwn.never rfl (pi_list (pe_fld (pv 0) rfl)) (pg_tup rfl (pgs_cons (pg_name (i := 2) scTLines.nd rfl (Or.inl rfl)) (pgs_cons (pg_name (i := 3) scTLines.nd rfl (Or.inl rfl)) (pgs_cons (pg_name (i := 4) scTLines.nd rfl (Or.inl rfl)) pgs_nil))))
          (pss_one (ps_expr (pe_bm PySem.F.plainAttrs_list PySem.F.slot_list_extend PySem.F.type_list_extend mt_extend (pv 1) (pa_cons (pe_lst (pa_cons (pv 3) (pa_cons (pv 4) (pa_cons (pv 2) pa_nil)))) pa_nil)))))
      (pss_one (ps_ret (pv 1))))
  · obtain ⟨a, A, rfl, hO, ok, hT, k⟩ := h
    obtain ⟨dx, fs, l, ha, h1, h2, ⟨ts, hts, hls⟩, h4, h5⟩ := L.view hO
    have ll : (ts.map V.ref).length = A.now.g.lines.length := by rw [List.length_map]; exact hls.1
    have hlen := ok.lines.len
    refine q_asgL (xs := nV [A.now.g.lines.length]) (el_lst (ea_cons (ev_is (ev_len (ev_fld (ev_var rfl) ha X.cl X.nL h2) (sq_of hts)) (by rw [ll])) ea_nil) (by show 1 ≤ 100000; decide)) fun p H1 hp x1 hp1 => ?_
    refine q_forL (a := l) (xs := ts.map V.ref) (ev_fld (ev_var rfl) (x1 _ _ ha) X.cl X.nL h2) (sq_of (x1 _ _ hts)) (fun i σ' H' => σ'[1]? = some (some (.ref p)) ∧ σ'.length = 5 ∧ Ex H H' ∧ H' p = some (.lst (nV (A.now.g.lines.length :: flatL (A.now.g.lines.take i)))))
      (fun H2 x2 => ⟨rfl, rfl, x1.trans x2, x2 _ _ hp1⟩) (fun i σ' H' _ q => sq_of (q.2.2.1 _ _ hts)) (fun i x σ' H' hx ⟨q1, q2, q3, q4⟩ => ?_) (fun σ' H' ⟨q1, q2, q3, q4⟩ => ?_)
    · obtain ⟨t, ht, rfl⟩ := ref_item hx
      have hi : i < A.now.g.lines.length := by rw [← hls.1]; exact (List.getElem?_eq_some_iff.mp ht).1
      obtain ⟨ln, hln⟩ : ∃ ln, A.now.g.lines[i]? = some ln := ⟨_, List.getElem?_eq_getElem hi⟩
      refine ⟨t, lineV ln, rfl, st_of (q3 _ _ (hls.2 i t ln ht hln)), rfl, _, _, rfl, _, _, rfl, _, _, rfl, rfl, ?_⟩
      have g1 : (((σ'.set 2 (some (.int (ln.w : Int)))).set 3 (some (.int (ln.a : Int)))).set 4 (some (.int (ln.b : Int))))[1]? = some (some (.ref p)) := by rw [List.getElem?_set_ne (by omega), List.getElem?_set_ne (by omega), List.getElem?_set_ne (by omega)]; exact q1
      have g2 : (((σ'.set 2 (some (.int (ln.w : Int)))).set 3 (some (.int (ln.a : Int)))).set 4 (some (.int (ln.b : Int))))[2]? = some (some (.int (ln.w : Int))) := by rw [List.getElem?_set_ne (by omega), List.getElem?_set_ne (by omega), List.getElem?_set_self (by omega)]
      have g3 : (((σ'.set 2 (some (.int (ln.w : Int)))).set 3 (some (.int (ln.a : Int)))).set 4 (some (.int (ln.b : Int))))[3]? = some (some (.int (ln.a : Int))) := by rw [List.getElem?_set_ne (by omega), List.getElem?_set_self (by rw [List.length_set]; omega)]
      have g4 : (((σ'.set 2 (some (.int (ln.w : Int)))).set 3 (some (.int (ln.a : Int)))).set 4 (some (.int (ln.b : Int))))[4]? = some (some (.int (ln.b : Int))) := by rw [List.getElem?_set_self (by rw [List.length_set, List.length_set]; omega)]
      have et : A.now.g.lines.take (i + 1) = A.now.g.lines.take i ++ [ln] := by rw [List.take_add_one, hln]; rfl
      have el : (flatL (A.now.g.lines.take i)).length ≤ 42 := by rw [flatL_len, List.length_take]; omega
      refine ⟨.ref p, g1, Or.inl ⟨rfl, _, sq_of q4⟩, (el_lst (vs := nV [ln.a, ln.b, ln.w]) (ea_cons (ev_var g3) (ea_cons (ev_var g4) (ea_cons (ev_var g2) ea_nil))) (by show 3 ≤ 100000; decide)) H' (Ex.refl H') _ fun b H2 hb x2 h2b => ⟨p, b, _, _, rfl, rfl, x2 _ _ q4, h2b, sz_of ?_, ?_⟩⟩
      · rw [List.length_map, List.length_map, List.length_cons]; show _ + 3 ≤ _; omega
      · refine ⟨g1, by rw [List.length_set, List.length_set, List.length_set]; exact q2, (q3.trans x2).mut hp, ?_⟩
        rw [upd_same, et]
        unfold flatL
        rw [List.flatMap_append]
        show some (HO.lst (nV _ ++ nV _)) = some (HO.lst (nV _))
        rw [← List.map_append]; rfl
    · rw [ll, List.take_length] at q4
      refine s_ret (ev_var q1) fun H2 x2 => ?_
      refine RetC.same (A := A) (r := ⟨(A.now.g.lines.length : Nat), flatL A.now.g.lines⟩) L k hO hT (fun o ho => absurd ho (by rw [hp]; simp)) (q3.trans x2) ?_
      rw [ansV_nums]
      exact x2 _ _ q4
/-- a list behind how many it has -/
theorem el_told {σ : L2.St} {H : Hp} {i : Nat} {p : Addr} {ns : List Nat} (h : σ[i]? = some (some (.ref p))) (hp : H p = some (.lst (nV ns))) (hz : ns.length ≤ 50000) : EvL (tOp rCat (tLst (tCons (tLen K (tVar i)) tNil)) (tVar i)) σ H (nV (ns.length :: ns)) := fun H1 e Q q =>
  (el_lst (vs := nV [ns.length]) (ea_cons (ev_is (ev_len (ev_var h) (sq_of hp)) (by rw [List.length_map])) ea_nil) (by show 1 ≤ 100000; decide)) H1 e _ fun q1 H2 hq1 e2 h2 => ⟨.ref p, h, q1, p, _, _, rfl, rfl, h2, e2 _ _ (e _ _ hp), sz_of (by rw [List.length_map, List.length_map]; show 1 + _ ≤ _; omega), fun p4 hp4 => q p4 _ (fresh_back e2 hp4) (e2.trans (Ex.new hp4)) upd_same⟩
/-- tell_chosen(self) -/
def spTChosen (T : List (Addr × Str)) (O : Rel) : Sp := fun vs H Q _ => ∃ (a : Addr) (A : Abs), vs = [.ref a] ∧ O H a A ∧ AbsOk A ∧ Tabs T H ∧ RetC T O a (A.does .chosen) H Q
theorem scTChosen : FnScope ["self", "chosen"] ["self"] (defScope sTChosen) := ⟨rfl, rfl, rfl, by decide +kernel, rfl, by decide +kernel, by decide +kernel⟩
theorem ok_tchosen (F : Fun K "tell_chosen" "Places.tell_chosen" sTChosen f fd) (L : Lies C ms O) (X : Txt K C) (G : Glb mg) (hm : ("chosen" : Str) ∈ ms) (MC : Met P w K mg base C 2 "chosen" (spChosenM O)) : FnOk P w K mg base CX0 3 f fd ["self"] (spTChosen T O) := by
  refine F.ok scTChosen (fun vs H Q E h => ?_) (fun cdv A outer s H vs Q E hr h => ⟨tSeq (tAsg (tMeth C "chosen" (spChosenM O) [] E0 (tVar 0) tNil) (gName 1)) (tRet (tOp rCat (tLst (tCons (tLen K (tVar 1)) tNil)) (tVar 1))), ?_, ?_⟩)
  · obtain ⟨a, A, rfl, _⟩ := h; rfl
  · exact pss_cons (ps_set (i := 1) scTChosen.nd rfl (Or.inl rfl) (pe_met0 MC X.cl hr (by decide) (pv 0)))
      (pss_one (ps_ret (pe_op op_cat (pe_lst (pa_cons (pe_callB call_len_seq (by rfl) G.len boot_len (pa_cons (pv 1) pa_nil)) pa_nil)) (pv 1))))
  · obtain ⟨a, A, rfl, hO, ok, hT, k⟩ := h
    obtain ⟨dx, fs, l, ha, h1, h2, h3, h4, h5⟩ := L.view hO
    refine ⟨.ref a, rfl, a, dx, fs, rfl, ha, h5 _ hm, a, A, rfl, hO, ok, fun p H1 hp x1 hp1 => ?_⟩
    have hz := list_len A.now.g.n A.now.s
    have hn8 := ok.n8
    refine s_retL (el_told (i := 1) rfl hp1 (by omega)) fun p2 H2 hp2 x2 h2 => ?_
    refine RetC.same (A := A) (r := Kv404.list (list_ A.now.g.n A.now.s)) L k hO hT (freshN (ExtN.of x1) hp2) (x1.trans x2) ?_
    rw [ansV_list]
    exact h2
/-- self.rows()[v] -/
abbrev tRowAt (K : PySem.W.Frag) (C : Addr) (O : Rel) : TE := tOp (rIxL K) (tRowsM C O) (tVar 1)
theorem ask_row {σ : L2.St} {H : Hp} {a : Addr} {A : Abs} {v : Nat} {R : VK} (L : Lies C ms O) (hO : O H a A) (ok : AbsOk A) (hr : ("rows" : Str) ∈ ms) (h0 : σ[0]? = some (some (.ref a))) (h1 : σ[1]? = some (some (.int (v : Int)))) (hv : v < A.now.g.n)
    (k : ∀ x H1, Ex H H1 → H1 x = some (.lst (rowV A.now.g.n (dd A.now.g.n A.now.g.lines) v)) → R (.ref x) H1) : tRowAt K C O σ H R := by
  obtain ⟨dx, fs, l, ha, _, _, _, _, h5⟩ := L.view hO
  refine ⟨.ref a, h0, a, dx, fs, rfl, ha, h5 _ hr, a, A, rfl, hO, ok, fun p H1 hp x1 ⟨as, hl, RR⟩ => ⟨.int (v : Int), h1, ?_⟩⟩
  obtain ⟨x, hx⟩ : ∃ x, as[v]? = some x := ⟨_, List.getElem?_eq_getElem (by omega)⟩
  exact ⟨p, as.map V.ref, v, .ref x, rfl, rfl, sq_of RR.at_, at_of rfl (by rw [List.getElem?_map, hx]; rfl), k x H1 x1 (RR.row v x hx)⟩
/-- tell_near(self, v) -/
def spTNear (T : List (Addr × Str)) (O : Rel) : Sp := fun vs H Q _ => ∃ (a : Addr) (A : Abs) (v : Nat), vs = [.ref a, .int (v : Int)] ∧ O H a A ∧ AbsOk A ∧ Tabs T H ∧ RetC T O a (A.does (.near v)) H Q
theorem scTNear : FnScope ["self", "v", "near"] ["self", "v"] (defScope sTNear) := ⟨rfl, rfl, rfl, by decide +kernel, rfl, by decide +kernel, by decide +kernel⟩
theorem ok_tnear (F : Fun K "tell_near" "Places.tell_near" sTNear f fd) (L : Lies C ms O) (X : Txt K C) (G : Glb mg) (N : Num mg) (hm : ("chosen" : Str) ∈ ms) (hr1 : ("rows" : Str) ∈ ms) (MC : Met P w K mg base C 2 "chosen" (spChosenM O)) (MR : Met P w K mg base C 2 "rows" (spRows O)) (CN : Cal P w K mg base 1 "near_places" (spNear K)) : FnOk P w K mg base CX0 3 f fd ["self", "v"] (spTNear T O) := by
  refine F.ok scTNear (fun vs H Q E h => ?_) (fun cdv A outer s H vs Q E hr h => ⟨tSeq (tIfS (tTest (tOp rGe (tVar 1) (tCnt K))) (tNo (-2)) tNext) (tSeq (tAsg (tCall (spNear K) [] E0 (tCons (tRowAt K C O) (tCons (tMeth C "chosen" (spChosenM O) [] E0 (tVar 0) tNil) tNil))) (gName 2)) (tRet (tOp rCat (tLst (tCons (tLen K (tVar 2)) tNil)) (tVar 2)))), ?_, ?_⟩)
  · obtain ⟨a, A, v, rfl, _⟩ := h; rfl
  · exact pss_cons (ps_if (pt_cmpR op_ge (pv 1) (pe_fld (pv 0) rfl) (nomark _)) (pss_one (ps_ret (pe_lst (pa_cons (pe_gl rfl N.noSuch) pa_nil)))) pss_nil)
      (pss_cons (ps_set (i := 2) scTNear.nd rfl (Or.inl rfl) (pe_cal CN hr (by decide) rfl (pa_cons (pe_ix ix_list (pe_met0 MR X.cl hr (by decide) (pv 0)) (pv 1) (fun _ _ => rfl)) (pa_cons (pe_met0 MC X.cl hr (by decide) (pv 0)) pa_nil))))
      (pss_one (ps_ret (pe_op op_cat (pe_lst (pa_cons (pe_callB call_len_seq (by rfl) G.len boot_len (pa_cons (pv 2) pa_nil)) pa_nil)) (pv 2)))))
  · obtain ⟨a, A, v, rfl, hO, ok, hT, k⟩ := h
    obtain ⟨dx, fs, l, ha, h1, h2, h3, h4, h5⟩ := L.view hO
    have hn8 := ok.n8
    refine q_when (b := decide (A.now.g.n ≤ v)) (et_is (et_test (ev_op (ev_var rfl) (ev_fld (ev_var rfl) ha X.cl X.nC h1) rv_I0)) (decide_eq_decide.mpr (by omega))) (fun hb H1 x1 => ?_) (fun hb H1 x1 => ?_)
    · have hb := of_decide_eq_true hb
      have ed : A.does (.near v) = (A, Kv404.say (-2)) := if_pos hb
      rw [ed] at k
      exact s_refuse fun p H2 n2 x2 h2 => k.same L hO hT (freshN (ExtN.of x1) n2) (x1.trans x2) h2
    · have hb := of_decide_eq_false hb
      have hv : v < A.now.g.n := by omega
      have ed : A.does (.near v) = (A, Kv404.list (Kv404.near A.now.g.n A.now.g.table A.now.s v)) := if_neg hb
      rw [ed, near_eq (tbOf ok) hv] at k
      have O1 := L.ext hO (ExtN.of x1)
      refine ask_row (v := v) L O1 ok hr1 rfl rfl hv fun x H2 x2 hx => ?_
      have O2 := L.ext O1 (ExtN.of x2)
      obtain ⟨dx2, fs2, l2, ha2, _, _, _, _, h52⟩ := L.view O2
      refine ⟨.ref a, rfl, a, dx2, fs2, rfl, ha2, h52 _ hm, a, A, rfl, O2, ok, fun c H3 hc x3 hc3 => ⟨x, c, _, _, rfl, sq_of (x3 _ _ hx), sq_of hc3, ?_, ?_, ?_, ?_, fun p H4 hp x4 h4 => ?_⟩⟩
      · rw [List.length_map, List.length_range]; exact hn8
      · exact Nat.le_trans (list_len _ _) hn8
      · rw [List.length_map, List.length_range]; exact fun y hy => (mem_list hy).1
      · intro d hd
        obtain ⟨y, _, rfl⟩ := List.mem_map.mp hd
        exact dd_le _ _
      · rw [nearOf_row] at h4
        have hz := nearL_len A.now.g.n (dd A.now.g.n A.now.g.lines) A.now.s v
        refine s_retL (el_told (i := 2) rfl h4 (by omega)) fun p2 H5 hp5 x5 h5' => ?_
        refine RetC.same (A := A) (r := Kv404.list (nearL A.now.g.n (dd A.now.g.n A.now.g.lines) A.now.s v)) L k hO hT (freshN (ExtN.of (((x1.trans x2).trans x3).trans x4)) hp5) (((x1.trans x2).trans x3).trans (x4.trans x5)) ?_
        rw [ansV_list]
        exact h5'
/-- tell_nearest(self, v) -/
def spTNearest (T : List (Addr × Str)) (O : Rel) : Sp := fun vs H Q _ => ∃ (a : Addr) (A : Abs) (v : Nat), vs = [.ref a, .int (v : Int)] ∧ O H a A ∧ AbsOk A ∧ Tabs T H ∧ RetC T O a (A.does (.nearest v)) H Q
abbrev nTNearest : List Str := ["self", "v", "row", "nearest"]
theorem scTNearest : FnScope nTNearest ["self", "v"] (defScope sTNearest) := ⟨rfl, rfl, rfl, by decide +kernel, rfl, by decide +kernel, by decide +kernel⟩
abbrev rIsNone : R2 := fun x y H Q => y = .non ∧ Q (.bl (decide (x = .non))) H
def t_tnearest (K : PySem.W.Frag) (T : List (Addr × Str)) (C : Addr) (O : Rel) : TS := tSeq (tIfS (tTest (tOp rGe (tVar 1) (tCnt K))) (tNo (-2)) tNext) (tSeq (tAsg (tRowAt K C O) (gName 2)) (tSeq (tAsg (tCall (spNearest K T) [] E0 (tCons (tVar 2) (tCons (tMeth C "chosen" (spChosenM O) [] E0 (tVar 0) tNil) tNil))) (gName 3))
  (tSeq (tIfS (tTest (tOp rIsNone (tVar 3) (tC .non))) (tNo (-33)) tNext) (tRet (tLst (tCons (tVar 3) (tCons (tOp (rIxL K) (tVar 2) (tVar 3)) tNil)))))))
theorem reach_row {n v s : Nat} {D : Nat → Nat → Nat} : reachOf ((List.range n).map (D v)) (list_ n s) = reached D v (list_ n s) := by
  unfold reachOf reached
  exact List.filter_congr fun c hc => by rw [getD_row (mem_list hc).1]
theorem least_row {n v s x : Nat} {D : Nat → Nat → Nat} (h : Least ((List.range n).map (D v)) (reachOf ((List.range n).map (D v)) (list_ n s)) x) : x < n ∧ IsNearest D v (reached D v (list_ n s)) x := by
  rw [reach_row] at h
  have lt : ∀ y ∈ reached D v (list_ n s), y < n := fun y hy => (mem_list (List.mem_filter.mp hy).1).1
  refine ⟨lt x h.1, h.1, fun y hy => ?_⟩
  have q := h.2 y hy
  rw [getD_row (lt x h.1), getD_row (lt y hy)] at q
  exact q
theorem ok_tnearest (F : Fun K "tell_nearest" "Places.tell_nearest" sTNearest f fd) (L : Lies C ms O) (X : Txt K C) (G : Glb mg) (N : Num mg) (NN : ∃ u, mg "THERE_IS_NONE" = some u ∧ RelV (.int (-33)) u) (hm : ("chosen" : Str) ∈ ms) (hr1 : ("rows" : Str) ∈ ms) (MC : Met P w K mg base C 2 "chosen" (spChosenM O)) (MR : Met P w K mg base C 2 "rows" (spRows O)) (CN : Cal P w K mg base 1 "nearest_chosen" (spNearest K T)) : FnOk P w K mg base CX0 3 f fd ["self", "v"] (spTNearest T O) := by
  refine F.ok scTNearest (fun vs H Q E h => ?_) (fun cdv A outer s H vs Q E hr h => ⟨t_tnearest K T C O, ?_, ?_⟩)
  · obtain ⟨a, A, v, rfl, _⟩ := h; rfl
  · exact pss_cons (ps_if (pt_cmpR op_ge (pv 1) (pe_fld (pv 0) rfl) (nomark _)) (pss_one (ps_ret (pe_lst (pa_cons (pe_gl rfl N.noSuch) pa_nil)))) pss_nil)
      (pss_cons (ps_set (i := 2) scTNearest.nd rfl (Or.inl rfl) (pe_ix ix_list (pe_met0 MR X.cl hr (by decide) (pv 0)) (pv 1) (fun _ _ => rfl)))
      (pss_cons (ps_set (i := 3) scTNearest.nd rfl (Or.inl rfl) (pe_cal CN hr (by decide) rfl (pa_cons (pv 2) (pa_cons (pe_met0 MC X.cl hr (by decide) (pv 0)) pa_nil))))
      (pss_cons (ps_if (pt_cmpR op_isN (pv 3) pe_non (nomark _)) (pss_one (ps_ret (pe_lst (pa_cons (pe_gl rfl NN) pa_nil)))) pss_nil)
      (pss_one (ps_ret (pe_lst (pa_cons (pv 3) (pa_cons (pe_ix ix_list (pv 2) (pv 3) (fun _ _ => rfl)) pa_nil))))))))
  · obtain ⟨a, A, v, rfl, hO, ok, hT, k⟩ := h
    obtain ⟨dx, fs, l, ha, h1, h2, h3, h4, h5⟩ := L.view hO
    have hn8 := ok.n8
    refine q_when (b := decide (A.now.g.n ≤ v)) (et_is (et_test (ev_op (ev_var rfl) (ev_fld (ev_var rfl) ha X.cl X.nC h1) rv_I0)) (decide_eq_decide.mpr (by omega))) (fun hb H1 x1 => ?_) (fun hb H1 x1 => ?_)
    · have hb := of_decide_eq_true hb
      have ed : A.does (.nearest v) = (A, Kv404.say (-2)) := if_pos hb
      rw [ed] at k
      exact s_refuse fun p H2 n2 x2 h2 => k.same L hO hT (freshN (ExtN.of x1) n2) (x1.trans x2) h2
    · have hb := of_decide_eq_false hb
      have hv : v < A.now.g.n := by omega
      have ed : A.does (.nearest v) = match Kv404.nearest A.now.g.n A.now.g.table A.now.s v with
        | none => (A, Kv404.say (-33))
        | some q => (A, ⟨(q.1 : Nat), [q.2]⟩) := if_neg hb
      rw [ed] at k
      have O1 := L.ext hO (ExtN.of x1)
      refine ask_row (v := v) L O1 ok hr1 rfl rfl hv fun x H2 x2 hx => ?_
      have O2 := L.ext O1 (ExtN.of x2)
      obtain ⟨dx2, fs2, l2, ha2, _, _, _, _, h52⟩ := L.view O2
      refine ⟨.ref x, rfl, .ref a, rfl, a, dx2, fs2, rfl, ha2, h52 _ hm, a, A, rfl, O2, ok, fun c H3 hc x3 hc3 => ⟨x, c, _, _, rfl, sq_of (x3 _ _ hx), sq_of hc3, ?_, ?_, ?_, hT.ext ((x1.trans x2).trans x3), fun hz H4 eN T4 => ?_, fun y hy H4 eN T4 => ?_⟩⟩
      · rw [List.length_map, List.length_range]; exact hn8
      · exact Nat.le_trans (list_len _ _) hn8
      · rw [List.length_map, List.length_range]; exact fun y hy => (mem_list hy).1
      · rw [reach_row] at hz
        rw [nearest_none (tbOf ok) hv hz] at k
        have eN4 : ExtN H H4 := (ExtN.of ((x1.trans x2).trans x3)).trans eN
        refine q_when (b := true) (et_test (ev_op (ev_var rfl) ev_c fun H5 _ Q q => ⟨rfl, q H5 (Ex.refl H5)⟩)) (fun _ H5 x5 => ?_) (fun z => Bool.noConfusion z)
        exact s_refuse fun p H6 n6 x6 h6 => k p H6 (freshN (eN4.trans (ExtN.of x5)) n6) (fun b o hb' _ hno _ => x6 _ _ (x5 _ _ (eN4 b o hb' hno))) ((T4.ext x5).ext x6) (L.ext hO (eN4.trans (ExtN.of (x5.trans x6)))) h6
      · obtain ⟨hyn, hnear⟩ := least_row hy
        rw [nearest_some (tbOf ok) hv hnear] at k
        have eN4 : ExtN H H4 := (ExtN.of ((x1.trans x2).trans x3)).trans eN
        have hx4 : H4 x = some (.lst (rowV A.now.g.n (dd A.now.g.n A.now.g.lines) v)) := eN _ _ (x3 _ _ hx) fun _ z => nomatch z
        refine q_when (b := false) (et_test (ev_op (ev_var rfl) ev_c fun H5 _ Q q => ⟨rfl, q H5 (Ex.refl H5)⟩)) (fun z => Bool.noConfusion z) (fun _ H5 x5 => ?_)
        refine s_retL (el_lst (vs := nV [y, dd A.now.g.n A.now.g.lines v y]) (ea_cons (ev_var rfl) (ea_cons (ev_op (ev_var rfl) (ev_var rfl) (rv_ixL (sq_of (x5 _ _ hx4)) (row_get hyn))) ea_nil)) (by show 2 ≤ 100000; decide)) fun p H6 hp6 x6 h6 => ?_
        refine k p H6 (freshN (eN4.trans (ExtN.of x5)) hp6) (fun b o hb' _ hno _ => x6 _ _ (x5 _ _ (eN4 b o hb' hno))) ((T4.ext x5).ext x6) (L.ext hO (eN4.trans (ExtN.of (x5.trans x6)))) ?_
        rw [ansV_nums]
        exact h6
end
end TP

/-! ## P12 -/
set_option Elab.async false
set_option linter.all false
set_option maxRecDepth 100000
set_option maxHeartbeats 2000000
namespace TP
open PySem PySem.Spec PyProof.Rows L2 Evl KeyL TT LamX
open Kv402 (Line)
open Kv404 (in_ list_ Abs Ans State)
open Kv404Neutral (step)
/-! ### the loop over the list of calls; how the object lies is left open -/
abbrev sAnswers : Stmt := top 52
abbrev iV (l : List Int) : List V := l.map V.int
abbrev RelS := Hp → Addr → State → Prop
/-- what the loop knows of the object -/
structure Face (RS : RelS) : Prop where
  ins : ∀ {H a st}, RS H a st → ∃ C dx fs, H a = some (.ins C dx fs)
  ext : ∀ {H H' a st}, RS H a st → ExtN H H' → RS H' a st
  new : ∀ {H H' a}, RS H a none → H' a = H a → RS H' a none
/-- all but g stays -/
abbrev OffS (g : Addr) (H H' : Hp) : Prop := ∀ b o, H b = some o → b ≠ g → H' b = some o
/-- answered(places, number, values) -/
def spAnswered (T : List (Addr × Str)) (RS : RelS) : Sp := fun vs H Q _ => ∃ (a q : Addr) (p : Nat) (args : List Nat) (st : State), vs = [.ref a, .int (p : Int), .ref q] ∧ p ≤ 20 ∧ args.length = argc p ∧ (∀ x ∈ args, x ≤ 4294967295) ∧ H q = some (.lst (nV args)) ∧ RS H a st ∧ Tabs T H ∧
  ∀ r H', FreshN H r → Keep a H H' → Tabs T H' → H' r = some (.lst (iV (step st [(p : Int) :: up args]).2)) → RS H' a (step st [(p : Int) :: up args]).1 →
    (∀ g ns, H g = some (.lst (iV ns)) → (ns = [] → st = none) → ∀ H2, OffS g H' H2 → RS H2 a (step st [(p : Int) :: up args]).1) → Q (.ref r) H'
/-- __init__(self) -/
def spInit (C : Addr) (RS : RelS) : Sp := fun vs H Q _ => ∃ x dx, vs = [.ref x] ∧ H x = some (.ins C dx []) ∧ ∀ H', OffS x H H' → RS H' x none → Q .non H'
/-- answers(calls) -/
def spAnswers (K : PySem.W.Frag) (T : List (Addr × Str)) : Sp := fun vs H Q _ => ∃ (a : Addr) (l : List Int), vs = [.ref a] ∧ SqL K H a (iV l) ∧ PyKv404.answers_asked l = true ∧ Tabs T H ∧ ∀ r H', H' r = some (.lst (iV (PyKv404.answers l))) → Q (.ref r) H'
abbrev nAnswers : List Str := ["calls", "places", "given", "start", "number", "end", "answer"]
theorem scAnswers : FnScope nAnswers ["calls"] (defScope sAnswers) := ⟨rfl, rfl, rfl, by decide +kernel, rfl, by decide +kernel, by decide +kernel⟩
theorem sq_extN {K : PySem.W.Frag} {H H' : Hp} {a : Addr} {xs : List V} (h : SqL K H a xs) (e : ExtN H H') : SqL K H' a xs := by
  rcases h with h | h
  · rcases h with h | ⟨o, h⟩
    · exact .inl (.inl (e _ _ h fun _ z => nomatch z))
    · exact .inl (.inr ⟨o, e _ _ h fun _ z => nomatch z⟩)
  · exact .inr h
/-- all but tables and lists of references stays -/
def ExtI (H H' : Hp) : Prop := ∀ b o, H b = some o → (∀ ps, o ≠ .tbl ps) → NoRefs o → H' b = some o
theorem ExtI.of {H H' : Hp} (e : ExtN H H') : ExtI H H' := fun b o hb hn _ => e b o hb hn
theorem noRefs_iV (l : List Int) : NoRefs (.lst (iV l)) := fun es h => by
  injection h with h
  cases es with
  | nil => rfl
  | cons x es =>
    cases l with
    | nil => cases h
    | cons y l => cases h
theorem sq_extI {K : PySem.W.Frag} {H H' : Hp} {a : Addr} {l : List Int} (h : SqL K H a (iV l)) (e : ExtI H H') : SqL K H' a (iV l) := by
  rcases h with h | h
  · rcases h with h | ⟨o, h⟩
    · exact .inl (.inl (e _ _ h (fun _ z => nomatch z) (noRefs_iV l)))
    · exact .inl (.inr ⟨o, e _ _ h (fun _ z => nomatch z) fun _ z => nomatch z⟩)
  · exact .inr h
theorem tabs_off {T : List (Addr × Str)} {g : Addr} {xs : List V} {H H' : Hp} (hT : Tabs T H) (hg : H g = some (.lst xs)) (k : OffS g H H') : Tabs T H' := fun p hp => by
  obtain ⟨ps, h1, h2, h3⟩ := hT p hp
  refine ⟨ps, k _ _ h1 (ne_of h1 hg (by intro z; cases z)), h2, fun pos cv hc => ?_⟩
  obtain ⟨c, e1, e2⟩ := h3 pos cv hc
  exact ⟨c, e1, k _ _ e2 (ne_of e2 hg (by intro z; unfold CodeO at z; cases z))⟩
theorem off_upd {g : Addr} {H : Hp} {o : HO} : OffS g H (upd H g o) := fun b _ h n => by rw [upd_ne n]; exact h
abbrev tAdd1 : TE := tOp (rI0 fun i j => .int (i + j)) (tVar 3) (tC (.int 1))
def tAnsB (K : PySem.W.Frag) (T : List (Addr × Str)) (RS : RelS) (c : Addr) : TS := tSeq (tAsg (tOp (rIxL K) (tVar 0) (tVar 3)) (gName 4)) (tSeq (tAsg (tOp (rI0 fun i j => .int (i + j)) tAdd1 (tOp (rIxT K) (tC (.ref c)) (tVar 4))) (gName 5))
  (tSeq (tAsg (tCall (spAnswered T RS) [] E0 (tCons (tVar 1) (tCons (tVar 4) (tCons (tSl (rSlL K) (tVar 0) (tPart tAdd1) (tPart (tVar 5))) tNil)))) (gName 6))
  (tSeq (tDrop (tBM K "list" rAppend (tVar 2) (tCons (tLen K (tVar 6)) tNil))) (tSeq (tDrop (tBM K "list" rExtend (tVar 2) (tCons (tVar 6) tNil))) (tAsg (tVar 5) (gName 3))))))
def t_answers (K : PySem.W.Frag) (T : List (Addr × Str)) (RS : RelS) (C c : Addr) : TS := tSeq (tAsg (tMake C (spInit C RS) [] E0 tNil) (gName 1)) (tSeq (tAsg (tLst tNil) (gName 2)) (tSeq (tAsg (tC (.int 0)) (gName 3)) (tSeq (tWhile (tTest (tOp tLt (tVar 3) (tLen K (tVar 0)))) (tAnsB K T RS c)) (tRet (tVar 2)))))
theorem argc_at {p : Nat} (h : p ≤ 20) : ([1, 3, 1, 1, 1, 1, 0, 0, 0, 1, 1, 2, 2, 1, 0, 1, 2, 0, 0, 0, 0] : List Nat)[p]? = some (argc p) := by
  have : p = 0 ∨ p = 1 ∨ p = 2 ∨ p = 3 ∨ p = 4 ∨ p = 5 ∨ p = 6 ∨ p = 7 ∨ p = 8 ∨ p = 9 ∨ p = 10 ∨ p = 11 ∨ p = 12 ∨ p = 13 ∨ p = 14 ∨ p = 15 ∨ p = 16 ∨ p = 17 ∨ p = 18 ∨ p = 19 ∨ p = 20 := by omega
  rcases this with h | h | h | h | h | h | h | h | h | h | h | h | h | h | h | h | h | h | h | h | h <;> subst h <;> rfl
structure AInv (K : PySem.W.Frag) (T : List (Addr × Str)) (RS : RelS) (a x g : Addr) (l : List Int) (H : Hp) (i : Nat) (st : State) (ns : List Int) (σ : L2.St) (H' : Hp) : Prop where
  s0 : σ[0]? = some (some (.ref a))
  s1 : σ[1]? = some (some (.ref x))
  s2 : σ[2]? = some (some (.ref g))
  s3 : σ[3]? = some (some (.int (i : Int)))
  sl : σ.length = 7
  ex : ExtI H H'
  tabs : Tabs T H'
  rs : RS H' x st
  given : H' g = some (.lst (iV ns))
  first : ns = [] → st = none
section
variable {P : Program} {w : World} {K : PySem.W.Frag} {mg : Str → Option Value} {base : Heap} {f : Addr} {fd : FuncData} {T : List (Addr × Str)} {C c : Addr} {RS : RelS}
theorem pure_answers (Fc : Face RS) (hc : ∀ H, SqT K H c (nV [1, 3, 1, 1, 1, 1, 0, 0, 0, 1, 1, 2, 2, 1, 0, 1, 2, 0, 0, 0, 0])) (vs : List V) (H : Hp) (Q : VK) (E : XK) (h : spAnswers K T vs H Q E) : t_answers K T RS C c { nx := fun _ H' => Q .non H', rt := Q } (start nAnswers vs) H := by
  obtain ⟨a, l, rfl, hS, hask, hT, k⟩ := h
  obtain ⟨raw, hraw, hr256, hbd, hres, hlen⟩ := asked_raw hask
  -- places = Places()
  intro x dx nx ndx nex
  have e0 : ExtN H (upd (upd H dx (.own x)) x (.ins C dx [])) := fun b o hb _ => by
    rw [upd_ne (ne_of_none hb nx), upd_ne (ne_of_none hb ndx)]; exact hb
  refine ⟨x, dx, rfl, upd_same, fun H1 k1 R1 => ⟨rfl, ?_⟩⟩
  have e1 : ExtN H H1 := fun b o hb hn => k1 b o (e0 b o hb hn) (ne_of_none hb nx)
  have T1 : Tabs T H1 := fun p hp => by
    obtain ⟨ps, h1, h2, h3⟩ := hT p hp
    have up1 : ∀ b o, H b = some o → H1 b = some o := fun b o hb => k1 b o (by rw [upd_ne (ne_of_none hb nx), upd_ne (ne_of_none hb ndx)]; exact hb) (ne_of_none hb nx)
    exact ⟨ps, up1 _ _ h1, h2, fun pos cv hc => by obtain ⟨c', q1, q2⟩ := h3 pos cv hc; exact ⟨c', q1, up1 _ _ q2⟩⟩
  -- given = []
  refine q_asgL (el_lst ea_nil (by decide)) fun g H2 hg x2 hg2 => ?_
  obtain ⟨C', dx', fs', hx1⟩ := Fc.ins R1
  have R2 : RS H2 x none := Fc.new R1 (by rw [hx1]; exact x2 _ _ hx1)
  -- start = 0
  refine q_asg ev_c fun H3 x3 => ?_
  have R3 : RS H3 x none := Fc.new R2 (by rw [x2 _ _ hx1]; exact x3 _ _ (x2 _ _ hx1))
  have gx : FreshN H g := freshN e1 hg
  have inv0 : AInv K T RS a x g l H 0 none [] ((((start nAnswers [V.ref a]).set 1 (some (.ref x))).set 2 (some (.ref g))).set 3 (some (.int 0))) H3 := ⟨rfl, rfl, rfl, rfl, rfl, ExtI.of ((e1.trans (ExtN.of x2)).trans (ExtN.of x3)), (T1.ext x2).ext x3, R3, x3 _ _ hg2, fun _ => rfl⟩
  refine q_while (fun m σ' H' => ∃ (i fu : Nat) (st : State) (ns : List Int) (raw : List (List (List Int))), AInv K T RS a x g l H i st ns σ' H' ∧ m = l.length - i ∧ PyFlat.calls PyKv404.shape fu (l.drop i) = some raw ∧ PyInside.calls PyKv404.bound raw = true ∧ ns ++ rest st raw = PyKv404.answers l) l.length
    ⟨0, l.length, none, [], raw, inv0, rfl, hraw, hbd, hres.symm⟩ (fun m σ' H' ⟨i, fu, st, ns, raw, I, hm, hcs, hb, hrest⟩ => ?_)
  have S' := sq_extI hS I.ex
  refine ⟨decide (i < l.length), et_is (et_test (ev_op (ev_var I.s3) (ev_len (ev_var I.s0) S') rv_I0)) (by rw [List.length_map]; exact decide_eq_decide.mpr (by omega)), fun hi H4 x4 => ?_, fun hi H4 x4 => ?_⟩
  · have hi := of_decide_eq_true hi
    obtain ⟨p, fu', args, raw', hp, hal, hab, hget, hle, htake, hrl, hcs', hb', hst⟩ := turn_of st hcs hb hi
    refine ⟨_, fun σ2 H2 z => z, ?_⟩
    -- number = calls[start]
    have S4 := sq_extN S' (ExtN.of x4)
    refine q_asg (ev_op (ev_var I.s0) (ev_var I.s3) (rv_ixL (v := .int (p : Int)) S4 (at_of rfl (by rw [List.getElem?_map, hget]; rfl)))) fun H5 x5 => ?_
    have hσ : σ'.length = 7 := I.sl
    -- end
    refine q_asg (v := .int ((i + 1 + argc p : Nat) : Int)) (ev_is (ev_op (ev_op (ev_var (v := .int (i : Int)) (by rw [List.getElem?_set_ne (by omega)]; exact I.s3)) (ev_c (v := .int 1)) rv_I0) (ev_op ev_c (ev_var (v := .int (p : Int)) (by rw [List.getElem?_set_self (by omega)])) (rv_ixT (v := .int (argc p : Int)) (hc _) (at_of rfl (by rw [List.getElem?_map, argc_at hp]; rfl)))) rv_I0) (by congr 1)) fun H6 x6 => ?_
    have x46 := (x4.trans x5).trans x6
    have S6 := sq_extN S' (ExtN.of x46)
    obtain ⟨Cx, dxx, fsx, hx⟩ := Fc.ins I.rs
    -- answer
    have hcut : cutV (iV l) (some (((i : Int) + 1))) (some ((i + 1 + argc p : Nat) : Int)) = nV args := by
      have q := cut_mid (iV l) (i + 1) (i + 1 + argc p) (by omega) (by rw [List.length_map]; exact hle)
      have e : ((i + 1 : Nat) : Int) = (i : Int) + 1 := by omega
      rw [e] at q
      rw [q]
      have e2 : i + 1 + argc p - (i + 1) = argc p := by omega
      rw [e2, ← List.map_drop, ← List.map_take, htake, List.map_map]
      rfl
    have g4 : (σ'.set 4 (some (.int (p : Int))))[4]? = some (some (.int (p : Int))) := by rw [List.getElem?_set_self (by omega)]
    have y0 : ((σ'.set 4 (some (.int (p : Int)))).set 5 (some (.int ((i + 1 + argc p : Nat) : Int))))[0]? = some (some (.ref a)) := by rw [List.getElem?_set_ne (by omega), List.getElem?_set_ne (by omega)]; exact I.s0
    have y1 : ((σ'.set 4 (some (.int (p : Int)))).set 5 (some (.int ((i + 1 + argc p : Nat) : Int))))[1]? = some (some (.ref x)) := by rw [List.getElem?_set_ne (by omega), List.getElem?_set_ne (by omega)]; exact I.s1
    have y2 : ((σ'.set 4 (some (.int (p : Int)))).set 5 (some (.int ((i + 1 + argc p : Nat) : Int))))[2]? = some (some (.ref g)) := by rw [List.getElem?_set_ne (by omega), List.getElem?_set_ne (by omega)]; exact I.s2
    have y3 : ((σ'.set 4 (some (.int (p : Int)))).set 5 (some (.int ((i + 1 + argc p : Nat) : Int))))[3]? = some (some (.int (i : Int))) := by rw [List.getElem?_set_ne (by omega), List.getElem?_set_ne (by omega)]; exact I.s3
    have y4 : ((σ'.set 4 (some (.int (p : Int)))).set 5 (some (.int ((i + 1 + argc p : Nat) : Int))))[4]? = some (some (.int (p : Int))) := by rw [List.getElem?_set_ne (by omega)]; exact g4
    have y5 : ((σ'.set 4 (some (.int (p : Int)))).set 5 (some (.int ((i + 1 + argc p : Nat) : Int))))[5]? = some (some (.int ((i + 1 + argc p : Nat) : Int))) := by rw [List.getElem?_set_self (by rw [List.length_set]; omega)]
    have yl : ((σ'.set 4 (some (.int (p : Int)))).set 5 (some (.int ((i + 1 + argc p : Nat) : Int)))).length = 7 := by rw [List.length_set, List.length_set]; exact hσ
    revert y0 y1 y2 y3 y4 y5 yl
    generalize (σ'.set 4 (some (.int (p : Int)))).set 5 (some (.int ((i + 1 + argc p : Nat) : Int))) = τ
    intro y0 y1 y2 y3 y4 y5 yl
    have ev := el_sl (K := K) (σ := τ) (ev_var y0) (eo_some (ev_op (r := rI0 fun i j => .int (i + j)) (ev_var (v := .int (i : Int)) y3) (ev_c (v := .int 1)) (rv_I0 (g := fun i j => .int (i + j))))) (eo_some (ev_var y5)) S6
    rw [hcut] at ev
    refine ⟨.ref x, y1, .int (p : Int), y4, ev H6 (Ex.refl H6) _ fun q H7 hq x7 hq7 => ?_⟩
    have x47 := x46.trans x7
    have hg7 := x47 _ _ I.given
    refine ⟨x, q, p, args, st, rfl, hp, hal, hab, hq7, Fc.ext I.rs (ExtN.of x47), I.tabs.ext x47, fun r H8 nr kp T8 hr8 R8 off => ?_⟩
    have ngx : g ≠ x := ne_of I.given hx (by intro z; cases z)
    have hg8 := kp _ _ hg7 ngx (fun _ z => nomatch z) (noRefs_iV ns)
    have nrg : r ≠ g := fun z => by
      obtain ⟨ps, e⟩ := nr _ (by rw [z]; exact hg7)
      cases e
    rw [hst] at hrest
    have hsz : (ns ++ (((step st [(p : Int) :: up args]).2.length : Int) :: ((step st [(p : Int) :: up args]).2 ++ rest (step st [(p : Int) :: up args]).1 raw'))).length ≤ 10000000 := by rw [hrest]; exact hlen
    rw [List.length_append, List.length_cons, List.length_append] at hsz
    have hsl : sizeLine = 16777216 := by decide
    have z2 : (τ.set 6 (some (.ref r)))[2]? = some (some (.ref g)) := by rw [List.getElem?_set_ne (by omega)]; exact y2
    have z6 : (τ.set 6 (some (.ref r)))[6]? = some (some (.ref r)) := by rw [List.getElem?_set_self (by omega)]
    have z5 : (τ.set 6 (some (.ref r)))[5]? = some (some (.int ((i + 1 + argc p : Nat) : Int))) := by rw [List.getElem?_set_ne (by omega)]; exact y5
    -- given.append(len(answer))
    refine ⟨.ref g, z2, Or.inl ⟨rfl, _, sq_of hg8⟩, (ea_cons (ev_len (ev_var z6) (sq_of hr8)) ea_nil) H8 (Ex.refl H8) _ fun H9 x9 => ⟨g, _, _, rfl, rfl, x9 _ _ hg8, by rw [List.length_map]; omega, ?_⟩⟩
    -- given.extend(answer)
    refine ⟨.ref g, z2, Or.inl ⟨rfl, _, sq_of upd_same⟩, .ref r, z6, g, r, _, _, rfl, rfl, upd_same, (upd_ne nrg).trans (x9 _ _ hr8), by rw [List.length_append, List.length_map, List.length_map]; show _ + 1 + _ ≤ _; omega, ?_⟩
    -- start = end
    refine s_asg (ev_var z5) fun H12 x12 => ?_
    have k9 : OffS g H9 H12 := fun b o hb hn => x12 _ _ (by rw [upd_ne hn, upd_ne hn]; exact hb)
    have k8 : OffS g H8 H12 := fun b o hb hn => k9 b o (x9 _ _ hb) hn
    refine ⟨l.length - (i + 1 + argc p), by omega, i + 1 + argc p, fu', _, ns ++ (((step st [(p : Int) :: up args]).2.length : Int) :: (step st [(p : Int) :: up args]).2), raw', ⟨?_, ?_, ?_, ?_, ?_, ?_, ?_, off g ns hg7 I.first H12 k8, ?_, ?_⟩, rfl, hcs', hb', ?_⟩
    · rw [List.getElem?_set_ne (by omega), List.getElem?_set_ne (by omega)]; exact y0
    · rw [List.getElem?_set_ne (by omega), List.getElem?_set_ne (by omega)]; exact y1
    · rw [List.getElem?_set_ne (by omega)]; exact z2
    · rw [List.getElem?_set_self (by rw [List.length_set]; omega)]
    · rw [List.length_set, List.length_set]; exact yl
    · intro b o hb hn hnr
      have nbx : b ≠ x := ne_of_none hb nx
      have nbg : b ≠ g := fun z => by
        obtain ⟨ps, e⟩ := gx o (by rw [← z]; exact hb)
        exact hn ps e
      exact k8 b o (kp b o (x47 _ _ (I.ex b o hb hn hnr)) nbx hn hnr) nbg
    · exact tabs_off (T8.ext x9) (x9 _ _ hg8) k9
    · rw [x12 _ _ upd_same, List.length_map]
      show some (HO.lst _) = some (HO.lst _)
      congr 2
      show (iV ns ++ [_]) ++ iV _ = iV (ns ++ _)
      rw [List.append_assoc]
      exact (List.map_append (f := V.int) (l₁ := ns) (l₂ := ((step st [(p : Int) :: up args]).2.length : Int) :: (step st [(p : Int) :: up args]).2)).symm
    · intro z
      exact absurd z (by simp)
    · rw [List.append_assoc]
      exact hrest
  · have hi := of_decide_eq_false hi
    have hnil : l.drop i = [] := List.drop_eq_nil_of_le (by omega)
    rw [hnil] at hcs
    have := calls_nil hcs
    subst this
    rw [rest_nil, List.append_nil] at hrest
    refine s_ret (ev_var I.s2) fun H5 x5 => k g H5 ?_
    rw [← hrest]
    exact x5 _ _ (x4 _ _ I.given)
theorem ok_answers {k : Nat} {fI : Addr} {fdI : FuncData} (F : Fun K "answers" "answers" sAnswers f fd) (G : Glb mg) (Fc : Face RS) (hc : ∀ H, SqT K H c (nV [1, 3, 1, 1, 1, 1, 0, 0, 0, 1, 1, 2, 2, 1, 0, 1, 2, 0, 0, 0, 0])) (mc : mg "ARGUMENT_COUNTS" = some (.ref c)) (mC : mg "Places" = some (.ref C)) (M : Mk K C fI) (FI : FnOk P w K mg base CX0 1 fI fdI ["self"] (spInit C RS)) (bI : Binds K fdI ["self"] []) (hk : 2 ≤ k) (CA : Cal P w K mg base k "answered" (spAnswered T RS)) : FnOk P w K mg base CX0 (k + 1) f fd ["calls"] (spAnswers K T) := by
  refine F.ok scAnswers (fun vs H Q E h => ?_) (fun cdv A outer s H vs Q E hr h => ⟨t_answers K T RS C c, ?_, pure_answers Fc hc vs H Q E h⟩)
  · obtain ⟨a, l, rfl, _⟩ := h; rfl
  · exact pss_cons (ps_set (i := 1) scAnswers.nd rfl (Or.inl rfl) (pe_make0 M FI (hr.mono hk) rfl mC bI .nil pass0))
      (pss_cons (ps_set (i := 2) scAnswers.nd rfl (Or.inl rfl) (pe_lst pa_nil))
      (pss_cons (ps_set (i := 3) scAnswers.nd rfl (Or.inl rfl) pe_int)
      (pss_cons (ps_while PassesOwn.never (pt_cmpR op_lt (pv 3) (pe_callB call_len_seq (by rfl) G.len boot_len (pa_cons (pv 0) pa_nil)) (nomark _))
        (pss_cons (ps_set (i := 4) scAnswers.nd rfl (Or.inl rfl) (pe_ix ix_list (pv 0) (pv 3) (fun _ _ => rfl)))
        (pss_cons (ps_set (i := 5) scAnswers.nd rfl (Or.inl rfl) (pe_op op_add (pe_op op_add (pv 3) pe_int) (pe_ix ix_tup (pe_gl rfl ⟨_, mc, rfl⟩) (pv 4) (fun _ _ => rfl))))
        (pss_cons (ps_set (i := 6) scAnswers.nd rfl (Or.inl rfl) (pe_cal CA hr (Nat.le_refl _) rfl (pa_cons (pv 1) (pa_cons (pv 4) (pa_cons (pe_slice sl_list (pv 0) (po_some (pe_op op_add (pv 3) pe_int)) (po_some (pv 5))) pa_nil)))))
        (pss_cons (ps_expr (pe_bm PySem.F.plainAttrs_list PySem.F.slot_list_append PySem.F.type_list_append mt_append (pv 2) (pa_cons (pe_callB call_len_seq (by rfl) G.len boot_len (pa_cons (pv 6) pa_nil)) pa_nil)))
        (pss_cons (ps_expr (pe_bm PySem.F.plainAttrs_list PySem.F.slot_list_extend PySem.F.type_list_extend mt_extend (pv 2) (pa_cons (pv 6) pa_nil)))
        (pss_one (ps_set (i := 3) scAnswers.nd rfl (Or.inl rfl) (pv 5)))))))))
      (pss_one (ps_ret (pv 2))))))
end
end TP

/-! ## E1 -/
set_option Elab.async false
set_option linter.all false
set_option maxRecDepth 100000
set_option maxHeartbeats 2000000
/-! The end of a Spec row whose defs make lambdas: tables of code objects are tracked from the start. -/
namespace EndT
open PySem PySem.Spec PyProof.Rows L2 LamX
open PySem.W (WData Codec OpenSpec Well WellAll ReadsW)
/-- the tables beside the arguments -/
def tabH (H0 : Hp) (cs : List (Addr × Addr)) : Hp := fun x => if x ∈ cs.map Prod.snd then some (.tbl #[]) else H0 x
theorem tabH_in {H0 : Hp} {cs : List (Addr × Addr)} {x : Addr} (hx : x ∈ cs.map Prod.snd) : tabH H0 cs x = some (.tbl #[]) := if_pos hx
theorem tabH_out {H0 : Hp} {cs : List (Addr × Addr)} {x : Addr} (hx : x ∉ cs.map Prod.snd) : tabH H0 cs x = H0 x := if_neg hx
section
variable {prog : Program} {w : World} {K : PySem.W.Frag} {mg mb : Str → Option Value} {k : Nat} {fa : Addr} {fd : FuncData} {ps : List Str} {sp : Sp} {s1 : Shared} {vals : List Value} {ds : List WData} {R : PySem.W.WRecords} {cl : Str → Option Addr} {d0 : WData} {cs : List (Addr × Addr)}
theorem call_tabs (hK : K.In s1.heap) (hG : s1.heap.Ns mainGlobals mg) (hB : s1.heap.Ns builtinsNs mb) (hBB : ∀ x : Str, x ≠ "__name__" → mb x = bootBuiltins x) (hL : s1.heap.NoLimit) (hgen : s1.gens = #[])
    (tE : ∀ y ∈ cs, s1.heap.get? y.2 = some { cls := .none, data := .fields #[] }) (tK : ∀ y ∈ cs, K.lookup y.2 = none) (tC : ∀ y ∈ cs, PySem.W.CodeHd s1.heap y.1 y.2)
    (hBM : ∃ (bm : Addr) (ob : Obj), mg "__builtins__" = some (.ref bm) ∧ bm ≠ builtinsNs ∧ s1.heap.get? bm = some ob ∧ ob.cls = .type "module" ∧ ob.dict = some builtinsNs ∧ ob.data = .plain)
    (hW : WellAll w.params s1.heap vals ds) (hP : plWs ds = true) (hwt : ∀ d ∈ ds, d.weight ≤ 1048576) (hr : Room k callerA)
    (F : ∀ base : Heap, K.In base → base.Ns mainGlobals mg → (∀ y ∈ cs, TabB base mg y.1 y.2) → FnOk prog w K mg base CX0 k fa fd ps sp) (hbind : ∀ (s : Shared) (us : List Value), us.length = ps.length → BindsTo s fd ⟨us, []⟩ (ps.zip us)) (hlen : ds.length = ps.length)
    (hsp : ∀ (H0 H : Hp) (xs : List V), (∀ b o, H0 b = some o → H b = some o) → (∀ y ∈ cs, H y.2 = some (.tbl #[])) → DwAll K H0 xs ds → sp xs H (fun v H' => Dw K H' v d0) fun _ _ _ => False) :
    codeAny (model prog w) callerA (.call (.ref fa) ⟨vals, []⟩) (fun r s' => ∃ u as, r = .ok (.ret u) ∧ ReadsW R cl s'.heap u d0 as ∧ OldK s1.heap s'.heap ∧ s'.os = s1.os ∧ AllBare s'.gens) s1 := by
  obtain ⟨A, hA, har⟩ := area_all ds vals hW hP hwt
  have isTab : ∀ x, x ∈ cs.map Prod.snd → s1.heap.get? x = some { cls := .none, data := .fields #[] } := fun x hx => by
    obtain ⟨y, hy, rfl⟩ := List.mem_map.mp hx
    exact tE y hy
  have only := argH_only (K := K) har
  have notTab : ∀ x u, argH K s1.heap A x = some u → x ∉ cs.map Prod.snd := fun x u hu hx => by
    obtain ⟨_, vs, _, _, z⟩ := argH_is har hu
    have t := isTab x hx
    rcases z with ⟨z, _⟩ | ⟨z, _⟩
    · rw [z] at t; cases t
    · rw [z] at t; cases t
  -- what is tracked
  have up : ∀ x o, argH K s1.heap A x = some o → tabH (argH K s1.heap A) cs x = some o := fun x o ho => (tabH_out (notTab x o ho)).trans ho
  have hok : HOk prog w (tabH (argH K s1.heap A) cs) s1.heap := fun x u hu => by
    by_cases hx : x ∈ cs.map Prod.snd
    · rw [tabH_in hx] at hu
      cases hu
      exact isTab x hx
    · rw [tabH_out hx] at hu
      refine (argH_ok har x u hu).stay (fun _ _ _ q => q) (fun b q => ?_) fun b xs q => ?_
      · rcases only b with z | ⟨_, _, z⟩ <;> rw [z] at q <;> cases q
      · rcases only b with z | ⟨_, _, z⟩ <;> rw [z] at q <;> cases q
  have offData : ∀ {x : Addr} {o : Obj}, s1.heap.get? x = some o → (∀ vs n, o.data ≠ .seq vs n) → o.data ≠ .fields #[] → tabH (argH K s1.heap A) cs x = none := fun {x o} ho h1 h2 => by
    have hx : x ∉ cs.map Prod.snd := fun hx => by
      rw [isTab x hx] at ho
      cases ho
      exact h2 rfl
    rw [tabH_out hx]
    cases q : argH K s1.heap A x with
    | none => rfl
    | some u =>
      obtain ⟨_, vs, _, _, z⟩ := argH_is har q
      rcases z with ⟨z, _⟩ | ⟨z, _⟩
      · rw [z] at ho; cases ho; exact absurd rfl (h1 _ _)
      · rw [z] at ho; cases ho; exact absurd rfl (h1 _ _)
  have offK : ∀ x o, K.lookup x = some o → tabH (argH K s1.heap A) cs x = none := fun x o ho => by
    have hx : x ∉ cs.map Prod.snd := fun hx => by
      obtain ⟨y, hy, rfl⟩ := List.mem_map.mp hx
      rw [tK y hy] at ho
      cases ho
    rw [tabH_out hx]
    cases q : argH K s1.heap A x with
    | none => rfl
    | some u => rw [(argH_is har q).1] at ho; cases ho
  have hDw := dw_all hK har ds vals hW hP hA
  have hV := vals_toV hA
  have tIn : ∀ y ∈ cs, tabH (argH K s1.heap A) cs y.2 = some (.tbl #[]) := fun y hy => tabH_in (List.mem_map.mpr ⟨y, hy, rfl⟩)
  have hprom := hsp _ _ _ up tIn hDw
  have split : ∀ x o, tabH (argH K s1.heap A) cs x = some o → x ∈ cs.map Prod.snd ∨ ∃ ob u, o = .frz ob u := fun x o ho => by
    by_cases hx : x ∈ cs.map Prod.snd
    · exact .inl hx
    · rw [tabH_out hx] at ho
      rcases only x with z | ⟨ob, u, z⟩
      · rw [z] at ho; cases ho
      · rw [z] at ho; cases ho; exact .inr ⟨ob, u, rfl⟩
  clear up hDw hA
  generalize tabH (argH K s1.heap A) cs = H at hok offData offK tIn hprom split
  -- the base: what is not tracked
  have inBase : ∀ {x : Addr} {o : Obj}, s1.heap.get? x = some o → H x = none → (hidT s1.heap H).get? x = some o := fun ho hn => hidT_get ho hn
  have nsBase : ∀ {x : Addr} {m : Str → Option Value}, s1.heap.Ns x m → (hidT s1.heap H).Ns x m := fun {x m} ⟨o, es, ep, ho, hd, hrest⟩ =>
    ⟨o, es, ep, inBase ho (offData ho (fun vs n z => by rw [hd] at z; cases z) fun z => by rw [hd] at z; cases z), hd, hrest⟩
  have KB : K.In (hidT s1.heap H) := fun x o ho => inBase (hK x o ho) (offK x o ho)
  have modB : L2.Mod K mg (hidT s1.heap H) := ⟨KB, nsBase hG, ⟨mb, nsBase hB, hBB⟩, let ⟨mc, l1, l2⟩ := hL; ⟨mc, nsBase l1, l2⟩⟩
  have TBs : ∀ y ∈ cs, TabB (hidT s1.heap H) mg y.1 y.2 := fun y hy => by
    refine ⟨?_, ?_, fun z => ?_⟩
    · obtain ⟨o, us, fi, tf, fl, tg, iF, tx, tt, g1, r1, r2, r3, rest⟩ := tC y hy
      refine ⟨o, us, fi, tf, fl, tg, iF, tx, tt, inBase g1 (offData g1 (fun vs n z => by rw [r2] at z; cases z) fun z => ?_), r1, r2, r3, rest⟩
      rw [r2] at z
      cases z
      simp at r3
    · obtain ⟨bm, ob, b1, b2, b3, b4, b5, b6⟩ := hBM
      have n1 : bm ≠ mainGlobals := fun z => by
        obtain ⟨o, es, ep, ho, hd, _⟩ := hG
        rw [z, ho] at b3
        cases b3
        rw [hd] at b6
        cases b6
      have n2 : bm ≠ y.2 := fun z => by
        rw [z, tE y hy] at b3
        cases b3
        cases b6
      exact ⟨bm, ob, b1, b2, n1, n2, inBase b3 (offData b3 (fun vs n z => by rw [b6] at z; cases z) fun z => by rw [b6] at z; cases z), b4, b5, b6⟩
    · obtain ⟨o, es, ep, ho, hd, _⟩ := hG
      rw [z, tE y hy] at ho
      cases ho
      cases hd
  have env : Env0 prog w K mg (hidT s1.heap H) callerA [] s1 H := ⟨rfl, modB, fun x o ho => of_hidT ho, Nat.le_of_eq (hidT_size _ _), trivial, fun x hx => absurd (show x ∈ ([] : List Addr) from hx) (by simp), hok, .of_eq hgen⟩
  have hvl : vals.length = ps.length := (wellAll_len hW).trans hlen
  refine codeAny_mono ((F _ KB (nsBase hG) TBs).run callerA [] s1 H ⟨vals, []⟩ vals (vals.map toV) _ _ hr env (hbind s1 vals hvl) hV hprom) fun r s' hx => ?_
  cases r with
  | error e => exact False.elim hx
  | ok fl =>
    cases fl with
    | next => exact False.elim hx
    | brk => exact False.elim hx
    | cont => exact False.elim hx
    | ret u =>
      obtain ⟨v, H', hos, hbare, un, hok', hrel, hq⟩ := hx
      have keepO : ∀ x o, x ∉ cs.map Prod.snd → s1.heap.get? x = some o → s'.heap.get? x = some o := fun x o nx ho => by
        cases q : H x with
        | none => exact un.keep x o ho q (fun z => absurd (show x ∈ ([] : List Addr) from z) (by simp)) (by simp)
        | some ho2 =>
          rcases split x ho2 q with z | ⟨ob, u2, rfl⟩
          · exact absurd z nx
          · have g1 := (hok x _ q).1
            have g2 := (hok' x _ (un.frzs x ob u2 q)).1
            rw [ho] at g1
            cases g1
            exact g2
      have grew : ∀ y ∈ cs, ∃ more : Array Value, s'.heap.get? y.2 = some { cls := .none, data := .fields more } := fun y hy => by
        obtain ⟨more, z⟩ := un.tbls y.2 #[] (tIn y hy)
        exact ⟨_, hok' y.2 _ z⟩
      have tabO : ∀ x o, x ∈ cs.map Prod.snd → s1.heap.get? x = some o → ∃ y ∈ cs, y.2 = x ∧ o = { cls := .none, data := .fields #[] } := fun x o hx ho => by
        obtain ⟨y, hy, rfl⟩ := List.mem_map.mp hx
        rw [tE y hy] at ho
        exact ⟨y, hy, rfl, (Option.some.inj ho).symm⟩
      have KX' : K.In s'.heap := fun x o ho => keepO x o (fun hx => by
        obtain ⟨y, hy, rfl⟩ := List.mem_map.mp hx
        rw [tK y hy] at ho
        cases ho) (hK x o ho)
      obtain ⟨as, hrd⟩ := Dw.reads (R := R) (cl := cl) hok' KX' d0 v u hq hrel
      refine ⟨u, as, rfl, hrd, ⟨fun x o ho => ?_, fun x o ho => ?_⟩, hos, hbare⟩
      · by_cases hx : x ∈ cs.map Prod.snd
        · obtain ⟨y, hy, rfl, rfl⟩ := tabO x o hx ho
          obtain ⟨more, hm⟩ := grew y hy
          exact .inr (.inl ⟨((tC y hy).tab (tE y hy)).isCodeTable, rfl, #[], more, rfl, by rw [Array.empty_append]; exact hm⟩)
        · exact .inl (keepO x o hx ho)
      · by_cases hx : x ∈ cs.map Prod.snd
        · obtain ⟨y, hy, rfl, _⟩ := tabO x o hx ho
          obtain ⟨more, hm⟩ := grew y hy
          exact ⟨_, hm⟩
        · exact ⟨o, keepO x o hx ho⟩
end
/-- the row: what is to be known of its def at the head's heap -/
theorem walk_tabs {r : OpenSpec} {k : Nat} {q : Program} {loose : List Str} {XP : (Str → Option Value) → Heap → Prop} {YP : World → Heap → Prop} {d : DefRec} {K : Params → PySem.W.Frag} {ps : List Str}
    (hwell : r.wellSaid = true) (hdf : d.params.defaults = []) (hlen : r.args.length = ps.length) (hr : Room k callerA)
    (hY : ∀ (w : World) (h : Heap), YP w h → (K w.params).In h)
    (F : ∀ (w : World) (mg mb : Str → Option Value) (mean : ExcName → Option Value) (fa : Addr) (h : Heap), YP w h → (K w.params).In h → Top q (PySem.W.looseW q loose) mean mg mb h → mg d.name = some (.ref fa) →
      ∃ (fd : FuncData) (cs : List (Addr × Addr)) (sp : Sp), (∀ y ∈ cs, h.get? y.2 = some { cls := .none, data := .fields #[] }) ∧ (∀ y ∈ cs, (K w.params).lookup y.2 = none) ∧ (∀ y ∈ cs, PySem.W.CodeHd h y.1 y.2) ∧ (∀ (s : Shared) (us : List Value), us.length = ps.length → BindsTo s fd ⟨us, []⟩ (ps.zip us)) ∧
        (∀ (H0 H : Hp) (xs : List V) (a : Codec.denoteAll r.args), (∀ b o, H0 b = some o → H b = some o) → (∀ y ∈ cs, H y.2 = some (.tbl #[])) → Codec.withinAll r.args a = true → Codec.app r.args r.asked a = true → DwAll (K w.params) H0 xs (Codec.encAll r.args a) →
          sp xs H (fun v H' => Dw (K w.params) H' v (r.ret.enc (Codec.app r.args r.f a))) fun _ _ _ => False) ∧
        ∀ base : Heap, (K w.params).In base → base.Ns mainGlobals mg → (∀ y ∈ cs, TabB base mg y.1 y.2) → FnOk r.prog w (K w.params) mg base CX0 k fa fd ps sp) :
    PySem.W.WalkOS q loose XP YP r d [] (fun f vs => PySem.call f vs) := by
  intro w s0 s1 mg mb G Y fa o pm cd doc dV kV ho hd hcd hD hmg hg args vals as hpre hlay hrd hwl hlo
  obtain ⟨a, e1, e2⟩ := PySem.W.os_pre_some hpre
  obtain ⟨e3, hwi⟩ := Codec.encAll_of_decAll r.args args a e1
  subst e3
  have hK := hY w _ Y
  obtain ⟨fd, cs, sp, tE, tK, tC, hb, hsp, hF⟩ := F w mg mb _ fa _ Y hK G.T hmg
  refine PySem.W.enter_call (codeAny_mono (call_tabs (R := []) (cl := classAt s0.heap) (d0 := r.ret.enc (Codec.app r.args r.f a)) hK G.T.g G.T.b G.T.builtins G.T.nolimit hg tE tK tC G.T.bmain hwl (pl_encAll _ _) (layable_weight hlay) hr hF hb (by rw [encAll_len]; exact hlen)
    (fun H0 H xs up ht hdw => hsp H0 H xs a up ht hwi e2 hdw)) fun r' s' hq => ?_)
  obtain ⟨u, as', rfl, k1, k2, k3, k4⟩ := hq
  exact ⟨.inl ⟨u, _, as', rfl, fun _ => rfl, k1, (OpenSpec.post_iff hwell hwi _ _).mpr rfl, fun z => Bool.noConfusion (show false = true from z)⟩, k2, k3, k4⟩
end EndT

/-! ## Q1 -/
set_option Elab.async false
set_option linter.all false
set_option maxRecDepth 100000
set_option maxHeartbeats 2000000
namespace TP
open PySem PySem.Spec PyProof.Rows L2 Evl KeyL TT LamX
open Kv402 (Line)
open Kv404 (in_ list_ Abs Ans)
abbrev sToldBy : Stmt := top 38
abbrev sTold : Stmt := top 39
/-- a cell of the rows: rows[u][v], the rows in slot 0 -/
abbrev tAt0 (K : PySem.W.Frag) (i j : Nat) : TE := tOp (rIxL K) (tOp (rIxL K) (tVar 0) (tVar i)) (tVar j)
abbrev tRow0 (K : PySem.W.Frag) (i : Nat) : TE := tOp (rIxL K) (tVar 0) (tVar i)
theorem Rows.some {H : Hp} {p : Addr} {as : List Addr} {n u : Nat} {F : Nat → Nat → Nat} (hl : as.length = n) (hu : u < n) : ∃ x, as[u]? = some x := ⟨_, List.getElem?_eq_getElem (by omega)⟩
section
variable {P : Program} {w : World} {K : PySem.W.Frag} {mg : Str → Option Value} {base : Heap} {f : Addr} {fd : FuncData} {T : List (Addr × Str)}
theorem q_asgC {σ : L2.St} {H : Hp} {D : Ends} {sp : Sp} {ta : TA} {tz : TS} {vs : List V} {i : Nat} (h : EvA ta σ H vs) (k : ∀ H1, Ex H H1 → sp (vs ++ []) H1 (fun v H2 => tz D (σ.set i (some v)) H2) E0) : tSeq (tAsg (tCall sp [] E0 ta) (gName i)) tz D σ H := h H (Ex.refl H) _ k
theorem ev_row0 {H : Hp} {σ : L2.St} {p x : Addr} {as : List Addr} {n i u : Nat} {F : Nat → Nat → Nat} (R : Rows H p as n F) (h0 : σ[0]? = some (some (.ref p))) (hi : σ[i]? = some (some (.int (u : Int)))) (hx : as[u]? = some x) : Ev (tRow0 K i) σ H (.ref x) :=
  ev_op (ev_var h0) (ev_var hi) (rv_ixL (sq_of R.at_) (at_of rfl (by rw [List.getElem?_map, hx]; rfl)))
theorem ev_at0 {H : Hp} {σ : L2.St} {p x : Addr} {as : List Addr} {n i j u v : Nat} {F : Nat → Nat → Nat} (R : Rows H p as n F) (h0 : σ[0]? = some (some (.ref p))) (hi : σ[i]? = some (some (.int (u : Int)))) (hj : σ[j]? = some (some (.int (v : Int)))) (hx : as[u]? = some x) (hv : v < n) : Ev (tAt0 K i j) σ H (.int (F u v : Int)) :=
  ev_op (ev_row0 R h0 hi hx) (ev_var hj) (rv_ixL (sq_of (R.row u x hx)) (row_get hv))
/-- told_by_nearest(rows, chosen, u, v) -/
def spToldBy (K : PySem.W.Frag) (T : List (Addr × Str)) : Sp := fun vs H Q _ => ∃ (p c : Addr) (n s u v : Nat) (D : Nat → Nat → Nat), vs = [.ref p, .ref c, .int (u : Int), .int (v : Int)] ∧ RowsAt H p n D ∧ SqL K H c (nV (list_ n s)) ∧ n ≤ 8 ∧ u < n ∧ v < n ∧ Tabs T H ∧ reached D u (list_ n s) ≠ [] ∧
  ∀ x, IsNearest D u (reached D u (list_ n s)) x → BackV T (.int ((D u x + D v x : Nat) : Int)) H Q
abbrev nToldBy : List Str := ["rows", "chosen", "u", "v", "nearest"]
theorem scToldBy : FnScope nToldBy ["rows", "chosen", "u", "v"] (defScope sToldBy) := ⟨rfl, rfl, rfl, by decide +kernel, rfl, by decide +kernel, by decide +kernel⟩
theorem ok_toldBy (F : Fun K "told_by_nearest" "told_by_nearest" sToldBy f fd) (CN : Cal P w K mg base 1 "nearest_chosen" (spNearest K T)) : FnOk P w K mg base CX0 2 f fd ["rows", "chosen", "u", "v"] (spToldBy K T) := by
  refine F.ok scToldBy (fun vs H Q E h => ?_) (fun cdv A outer s H vs Q E hr h => ⟨tSeq (tAsg (tCall (spNearest K T) [] E0 (tCons (tRow0 K 2) (tCons (tVar 1) tNil))) (gName 4)) (tRet (tOp (rI0 fun i j => .int (i + j)) (tAt0 K 2 4) (tAt0 K 3 4))), ?_, ?_⟩)
  · obtain ⟨p, c, n, s, u, v, D, rfl, _⟩ := h; rfl
  · exact pss_cons (ps_set (i := 4) scToldBy.nd rfl (Or.inl rfl) (pe_cal CN hr (by decide) rfl (pa_cons (pe_ix ix_list (pv 0) (pv 2) (fun _ _ => rfl)) (pa_cons (pv 1) pa_nil))))
      (pss_one (ps_ret (pe_op op_add (pe_ix ix_list (pe_ix ix_list (pv 0) (pv 2) (fun _ _ => rfl)) (pv 4) (fun _ _ => rfl)) (pe_ix ix_list (pe_ix ix_list (pv 0) (pv 3) (fun _ _ => rfl)) (pv 4) (fun _ _ => rfl)))))
  · obtain ⟨p, c, n, s, u, v, D, rfl, ⟨as, hl, R⟩, hc, hn, hu, hv, hT, hne, k⟩ := h
    obtain ⟨xu, hxu⟩ : ∃ x, as[u]? = some x := ⟨_, List.getElem?_eq_getElem (by omega)⟩
    obtain ⟨xv, hxv⟩ : ∃ x, as[v]? = some x := ⟨_, List.getElem?_eq_getElem (by omega)⟩
    have ea : EvA (tCons (tRow0 K 2) (tCons (tVar 1) tNil)) (start nToldBy [.ref p, .ref c, .int (u : Int), .int (v : Int)]) H [.ref xu, .ref c] := ea_cons (ev_row0 R rfl rfl hxu) (ea_cons (ev_var rfl) ea_nil)
    refine q_asgC ea fun H1 x1 => ⟨xu, c, (List.range n).map (D u), list_ n s, rfl, sq_of (x1 _ _ (R.row u xu hxu)), ex_l x1 hc, ?_, ?_, ?_, hT.ext x1, fun hz => ?_, fun y hy H2 eN T2 => ?_⟩
    · rw [List.length_map, List.length_range]; exact hn
    · exact Nat.le_trans (list_len n s) hn
    · rw [List.length_map, List.length_range]; exact fun y hy => (mem_list hy).1
    · rw [reach_row] at hz; exact absurd hz hne
    · obtain ⟨hyn, hnear⟩ := least_row hy
      have eN2 : ExtN H H2 := (ExtN.of x1).trans eN
      have R2 := R.extN eN2
      refine s_ret (ev_is (ev_op (ev_at0 R2 rfl rfl rfl hxu hyn) (ev_at0 R2 rfl rfl rfl hxv hyn) rv_I0) ?_) fun H3 x3 => k y hnear H3 (eN2.trans (ExtN.of x3)) (T2.ext x3)
      rw [Int.natCast_add]
/-- None, or a number -/
def oV : Option Nat → V
  | none => .non
  | some d => .int (d : Int)
/-- told_distance(rows, chosen, u, v) -/
def spTold (K : PySem.W.Frag) (T : List (Addr × Str)) : Sp := fun vs H Q _ => ∃ (p c : Addr) (n s u v : Nat) (t : Kv402.Table) (D : Nat → Nat → Nat), vs = [.ref p, .ref c, .int (u : Int), .int (v : Int)] ∧ RowsAt H p n D ∧ SqL K H c (nV (list_ n s)) ∧ n ≤ 8 ∧ u < n ∧ v < n ∧ Tb n t D ∧ Trans n D ∧ Tabs T H ∧ BackV T (oV (Kv404.told n t s u v)) H Q
abbrev nTold : List Str := ["rows", "chosen", "u", "v"]
theorem scTold : FnScope nTold nTold (defScope sTold) := ⟨rfl, rfl, rfl, by decide +kernel, rfl, by decide +kernel, by decide +kernel⟩
abbrev tInNear (K : PySem.W.Frag) (i j : Nat) : TT := tTest (tOp (rIn K false) (tVar j) (tCall (spNear K) [] E0 (tCons (tRow0 K i) (tCons (tVar 1) tNil))))
abbrev tByC (K : PySem.W.Frag) (T : List (Addr × Str)) (i j : Nat) : TE := tCall (spToldBy K T) [] E0 (tCons (tVar 0) (tCons (tVar 1) (tCons (tVar i) (tCons (tVar j) tNil))))
def t_told (K : PySem.W.Frag) (T : List (Addr × Str)) : TS := tSeq (tIfS (tTest (tOp rEq (tAt0 K 2 3) (tC (.int 1000)))) (tRet (tC .non)) tNext)
  (tSeq (tIfS (tOr (tInNear K 2 3) (tInNear K 3 2)) (tRet (tAt0 K 2 3)) tNext) (tRet (tCB rMin2 (tCons (tByC K T 2 3) (tCons (tByC K T 3 2) tNil)))))
theorem et_inNear {H : Hp} {σ : L2.St} {p c x : Addr} {as : List Addr} {n s i j u v : Nat} {D : Nat → Nat → Nat} (R : Rows H p as n D) (hc : SqL K H c (nV (list_ n s))) (hn : n ≤ 8) (hle : ∀ u v, D u v ≤ 1000) (h0 : σ[0]? = some (some (.ref p))) (h1 : σ[1]? = some (some (.ref c))) (hi : σ[i]? = some (some (.int (u : Int)))) (hj : σ[j]? = some (some (.int (v : Int)))) (hx : as[u]? = some x) : EvT (tInNear K i j) σ H ((nearL n D s u).contains v) := by
  refine et_test (ev_opL (xs := nV (nearL n D s u)) (ev_var hj) (el_call (ea_cons (ev_row0 R h0 hi hx) (ea_cons (ev_var h1) ea_nil)) fun H1 e1 Q' q' E' => ⟨x, c, (List.range n).map (D u), list_ n s, rfl, sq_of (e1 _ _ (R.row u x hx)), ex_l e1 hc, ?_, ?_, ?_, ?_, fun p2 H4 q1 q2 q3 => q' p2 H4 q1 q2 ?_⟩) fun p1 H1 hp1 _ => ?_)
  · rw [List.length_map, List.length_range]; exact hn
  · exact Nat.le_trans (list_len n s) hn
  · rw [List.length_map, List.length_range]; exact fun y hy => (mem_list hy).1
  · intro d hd
    obtain ⟨y, _, rfl⟩ := List.mem_map.mp hd
    exact hle _ _
  · rw [q3, nearOf_row]
  · rw [← inV_nV]
    exact rv_isL (sq_of hp1) rfl (flat_nV _)
theorem pure_told (vs : List V) (H : Hp) (Q : VK) (E : XK) (h : spTold K T vs H Q E) : t_told K T { nx := fun _ H' => Q .non H', rt := Q } (start nTold vs) H := by
  obtain ⟨p, c, n, s, u, v, t, D, rfl, ⟨as, hl, R⟩, hc, hn, hu, hv, TB, tr, hT, k⟩ := h
  obtain ⟨xu, hxu⟩ : ∃ x, as[u]? = some x := ⟨_, List.getElem?_eq_getElem (by omega)⟩
  obtain ⟨xv, hxv⟩ : ∃ x, as[v]? = some x := ⟨_, List.getElem?_eq_getElem (by omega)⟩
  have hle := TB.le u v
  refine q_when (b := decide (D u v = 1000)) (et_is (et_test (ev_op (ev_at0 R rfl rfl rfl hxu hv) ev_c (rv_eq rfl))) (decide_eq_decide.mpr ⟨fun q => by injection q with q; omega, fun q => by rw [q]; rfl⟩)) (fun hb H1 x1 => ?_) (fun hb H1 x1 => ?_)
  · rw [told_none TB tr hu hv (of_decide_eq_true hb)] at k
    exact s_ret ev_c fun H2 x2 => k H2 (ExtN.of (x1.trans x2)) (hT.ext (x1.trans x2))
  have hd : D u v < 1000 := by have := of_decide_eq_false hb; omega
  have R1 := R.ext x1
  have hnear : ((nearL n D s u).contains v || (nearL n D s v).contains u) = true ↔ isNear n D s u v := by
    rw [Bool.or_eq_true, List.contains_iff_mem, List.contains_iff_mem, mem_nearL, mem_nearL, TB.comm v u]
    exact ⟨fun z => z.imp (·.2) (·.2), fun z => z.imp (fun q => ⟨hv, q⟩) (fun q => ⟨hu, q⟩)⟩
  refine q_when (b := (nearL n D s u).contains v || (nearL n D s v).contains u) (et_or (et_inNear R1 (ex_l x1 hc) hn TB.le rfl rfl rfl rfl hxu) (fun _ => et_inNear R1 (ex_l x1 hc) hn TB.le rfl rfl rfl rfl hxv)) (fun hb H2 x2 => ?_) (fun hb H2 x2 => ?_)
  · rw [told_near TB hu hv (hnear.mp hb)] at k
    exact s_ret (ev_at0 (R1.ext x2) rfl rfl rfl hxu hv) fun H3 x3 => k H3 (ExtN.of ((x1.trans x2).trans x3)) (hT.ext ((x1.trans x2).trans x3))
  · have hnn : ¬ isNear n D s u v := fun z => by rw [hnear.mpr z] at hb; cases hb
    obtain ⟨cu, hcu⟩ := nearest_ex TB (s := s) hu hd (fun z => hnn (.inl z))
    obtain ⟨cv, hcv⟩ := nearest_ex TB (s := s) (u := v) (v := u) hv (by rw [TB.comm]; exact hd) (fun z => hnn (.inr (by rw [TB.comm]; exact z)))
    rw [told_far TB tr hu hv hd hnn hcu hcv] at k
    have y2 := x1.trans x2
    have ne1 : reached D u (list_ n s) ≠ [] := fun z => by have := hcu.1; rw [z] at this; cases this
    have ne2 : reached D v (list_ n s) ≠ [] := fun z => by have := hcv.1; rw [z] at this; cases this
    refine ⟨.ref p, rfl, .ref c, rfl, .int (u : Int), rfl, .int (v : Int), rfl, p, c, n, s, u, v, D, rfl, ⟨as, hl, R.ext y2⟩, ex_l y2 hc, hn, hu, hv, hT.ext y2, ne1, fun x hx H3 e3 T3 => ?_⟩
    have e3' : ExtN H H3 := (ExtN.of y2).trans e3
    refine ⟨.ref p, rfl, .ref c, rfl, .int (v : Int), rfl, .int (u : Int), rfl, p, c, n, s, v, u, D, rfl, ⟨as, hl, R.extN e3'⟩, sql_ext e3' hc, hn, hv, hu, T3, ne2, fun y hy H4 e4 T4 => ⟨_, _, rfl, ?_⟩⟩
    rw [hx.one hcu, hy.one hcv]
    have em : (if ((D v cv + D u cv : Nat) : Int) < ((D u cu + D v cu : Nat) : Int) then ((D v cv + D u cv : Nat) : Int) else ((D u cu + D v cu : Nat) : Int)) = ((min (D u cu + D cu v) (D v cv + D cv u) : Nat) : Int) := by
      rw [TB.comm cu v, TB.comm cv u]
      split <;> omega
    rw [em]
    exact k H4 (e3'.trans e4) T4
theorem ok_told (F : Fun K "told_distance" "told_distance" sTold f fd) (G : Glb mg) (CN : Cal P w K mg base 1 "near_places" (spNear K)) (CB : Cal P w K mg base 2 "told_by_nearest" (spToldBy K T)) : FnOk P w K mg base CX0 3 f fd nTold (spTold K T) := by
  refine F.ok scTold (fun vs H Q E h => ?_) (fun cdv A outer s H vs Q E hr h => ⟨t_told K T, ?_, pure_told vs H Q E h⟩)
  · obtain ⟨p, c, n, s, u, v, t, D, rfl, _⟩ := h; rfl
  · exact pss_cons (ps_if (pt_cmpR op_eq (pe_ix ix_list (pe_ix ix_list (pv 0) (pv 2) (fun _ _ => rfl)) (pv 3) (fun _ _ => rfl)) (pe_gl rfl G.FAR) (nomark _)) (pss_one (ps_ret pe_non)) pss_nil)
      (pss_cons (ps_if (PW.pt (pw_or (pt_cmpR op_in_seq (pv 3) (pe_cal CN hr (by decide) rfl (pa_cons (pe_ix ix_list (pv 0) (pv 2) (fun _ _ => rfl)) (pa_cons (pv 1) pa_nil))) (by with_unfolding_all rfl)) (pw_or1 (pt_cmpR op_in_seq (pv 2) (pe_cal CN hr (by decide) rfl (pa_cons (pe_ix ix_list (pv 0) (pv 3) (fun _ _ => rfl)) (pa_cons (pv 1) pa_nil))) (by with_unfolding_all rfl)))))
        (pss_one (ps_ret (pe_ix ix_list (pe_ix ix_list (pv 0) (pv 2) (fun _ _ => rfl)) (pv 3) (fun _ _ => rfl)))) pss_nil)
      (pss_one (ps_ret (pe_callB (call_min2 rfl) (by rfl) G.min boot_min (pa_cons (pe_cal CB hr (by decide) rfl (pa_cons (pv 0) (pa_cons (pv 1) (pa_cons (pv 2) (pa_cons (pv 3) pa_nil))))) (pa_cons (pe_cal CB hr (by decide) rfl (pa_cons (pv 0) (pa_cons (pv 1) (pa_cons (pv 3) (pa_cons (pv 2) pa_nil))))) pa_nil))))))
end
end TP

/-! ## Q2 -/
set_option Elab.async false
set_option linter.all false
set_option maxRecDepth 100000
set_option maxHeartbeats 2000000
namespace TP
open PySem PySem.Spec PyProof.Rows L2 Evl KeyL TT LamX
open Kv402 (Line)
open Kv404 (in_ list_ Abs Ans)
abbrev sWorst : Stmt := top 40
/-- the worst pair so far: None, or a tuple -/
abbrev Wst := Option (Nat × Nat × Nat × Nat)
def wV (z : Nat × Nat × Nat × Nat) : List V := nV [z.1, z.2.1, z.2.2.1, z.2.2.2]
def WIs (H : Hp) (b : Wst) (x : V) : Prop := match b with
  | none => x = .non
  | some z => z.2.2.2 ≤ 1000 ∧ ∃ q, x = .ref q ∧ H q = some (.tup (wV z))
theorem WIs.extN {H H' : Hp} {b : Wst} {x : V} (h : WIs H b x) (e : ExtN H H') : WIs H' b x := by
  cases b with
  | none => exact h
  | some z =>
    obtain ⟨h1, q, h2, h3⟩ := h
    exact ⟨h1, q, h2, e _ _ h3 fun _ z => nomatch z⟩
section
variable {P : Program} {w : World} {K : PySem.W.Frag} {mg : Str → Option Value} {base : Heap} {f : Addr} {fd : FuncData} {T : List (Addr × Str)}
/-- worst_told(rows, chosen) -/
def spWorst (K : PySem.W.Frag) (T : List (Addr × Str)) : Sp := fun vs H Q _ => ∃ (p c : Addr) (n s : Nat) (t : Kv402.Table) (D : Nat → Nat → Nat), vs = [.ref p, .ref c] ∧ RowsAt H p n D ∧ SqL K H c (nV (list_ n s)) ∧ n ≤ 8 ∧ Tb n t D ∧ Trans n D ∧ Tabs T H ∧
  ∀ x H', ExtN H H' → Tabs T H' → WIs H' (Kv404.worst n t s) x → Q x H'
abbrev nWorst : List Str := ["rows", "chosen", "worst", "u", "v", "told"]
theorem scWorst : FnScope nWorst ["rows", "chosen"] (defScope sWorst) := ⟨rfl, rfl, rfl, by decide +kernel, rfl, by decide +kernel, by decide +kernel⟩
abbrev rNotNone : R2 := fun x y H Q => y = .non ∧ Q (.bl (!decide (x = .non))) H
def tWTest (K : PySem.W.Frag) : TT := tAnd (tTest (tOp rNotNone (tVar 5) (tC .non))) (tOr (tTest (tOp rIsNone (tVar 2) (tC .non))) (tTest (tOp rGt (tOp (rI CMul fun i j => .int (i * j)) (tVar 5) (tOp (rIxT K) (tVar 2) (tC (.int 3)))) (tOp (rI CMul fun i j => .int (i * j)) (tOp (rIxT K) (tVar 2) (tC (.int 2))) (tAt0 K 3 4)))))
def tWB (K : PySem.W.Frag) (T : List (Addr × Str)) : TS := tSeq (tAsg (tCall (spTold K T) [] E0 (tCons (tVar 0) (tCons (tVar 1) (tCons (tVar 3) (tCons (tVar 4) tNil))))) (gName 5))
  (tIfS (tWTest K) (tAsg (tTup (tCons (tVar 3) (tCons (tVar 4) (tCons (tVar 5) (tCons (tAt0 K 3 4) tNil))))) (gName 2)) tNext)
def tWF (K : PySem.W.Frag) (T : List (Addr × Str)) : TS := tFor (iRng2 (tCons (tOp (rI0 fun i j => .int (i + j)) (tVar 3) (tC (.int 1))) (tCons (tLen K (tVar 0)) tNil))) (gName 4) (tWB K T)
def t_worst (K : PySem.W.Frag) (T : List (Addr × Str)) : TS := tSeq (tAsg (tC .non) (gName 2)) (tSeq (tFor (iRng1 (tCons (tLen K (tVar 0)) tNil)) (gName 3) (tWF K T)) (tRet (tVar 2)))
structure WInv (K : PySem.W.Frag) (T : List (Addr × Str)) (p c : Addr) (as : List Addr) (n s : Nat) (D : Nat → Nat → Nat) (H0 : Hp) (b : Wst) (σ : L2.St) (H : Hp) : Prop where
  s0 : σ[0]? = some (some (.ref p))
  s1 : σ[1]? = some (some (.ref c))
  s2 : ∃ x, σ[2]? = some (some x) ∧ WIs H b x
  sl : σ.length = 6
  ex : ExtN H0 H
  tabs : Tabs T H
  rows : Rows H p as n D
  cs : SqL K H c (nV (list_ n s))
theorem WInv.put {p c : Addr} {as : List Addr} {n s j : Nat} {D : Nat → Nat → Nat} {H0 H : Hp} {b : Wst} {σ : L2.St} {v : Option V} (i : WInv K T p c as n s D H0 b σ H) (hj : 2 < j) : WInv K T p c as n s D H0 b (σ.set j v) H :=
  ⟨by rw [List.getElem?_set_ne (by omega)]; exact i.s0, by rw [List.getElem?_set_ne (by omega)]; exact i.s1, by rw [List.getElem?_set_ne (by omega)]; exact i.s2, by rw [List.length_set]; exact i.sl, i.ex, i.tabs, i.rows, i.cs⟩
theorem WInv.heapN {p c : Addr} {as : List Addr} {n s : Nat} {D : Nat → Nat → Nat} {H0 H H' : Hp} {b : Wst} {σ : L2.St} (i : WInv K T p c as n s D H0 b σ H) (e : ExtN H H') (t : Tabs T H') : WInv K T p c as n s D H0 b σ H' :=
  ⟨i.s0, i.s1, by obtain ⟨x, h1, h2⟩ := i.s2; exact ⟨x, h1, h2.extN e⟩, i.sl, i.ex.trans e, t, i.rows.extN e, sql_ext e i.cs⟩
theorem WInv.heap {p c : Addr} {as : List Addr} {n s : Nat} {D : Nat → Nat → Nat} {H0 H H' : Hp} {b : Wst} {σ : L2.St} (i : WInv K T p c as n s D H0 b σ H) (e : Ex H H') : WInv K T p c as n s D H0 b σ H' := i.heapN (ExtN.of e) (i.tabs.ext e)
theorem rv_none {H : Hp} {x : V} : RV rIsNone x .non H (.bl (decide (x = .non))) := fun H1 _ Q q => ⟨rfl, q H1 (Ex.refl H1)⟩
theorem rv_notNone {H : Hp} {x : V} : RV rNotNone x .non H (.bl (!decide (x = .non))) := fun H1 _ Q q => ⟨rfl, q H1 (Ex.refl H1)⟩
theorem pure_worst (vs : List V) (H : Hp) (Q : VK) (E : XK) (h : spWorst K T vs H Q E) : t_worst K T { nx := fun _ H' => Q .non H', rt := Q } (start nWorst vs) H := by
  obtain ⟨p, c, n, s, t, D, rfl, ⟨as, hl, R⟩, hc, hn, TB, tr, hT, k⟩ := h
  have ll : (as.map V.ref).length = n := by rw [List.length_map]; exact hl
  refine q_asg ev_c fun H1 x1 => ?_
  have i0 : WInv K T p c as n s D H (worstTo n t s 0 1) ((start nWorst [.ref p, .ref c]).set 2 (some .non)) H1 := ⟨rfl, rfl, ⟨.non, rfl, rfl⟩, rfl, ExtN.of x1, hT.ext x1, R.ext x1, ex_l x1 hc⟩
  refine q_forR1 (n := (n : Int)) (ea_cons (ev_is (ev_len (ev_var i0.s0) (sq_of i0.rows.at_)) (by rw [ll])) ea_nil) (by omega) (fun u σ' H' => WInv K T p c as n s D H (worstTo n t s u (u + 1)) σ' H') (fun H2 x2 => i0.heap x2) (fun u σ' H' hu i => ?_) (fun σ' H' i => ?_)
  · have hu : u < n := by omega
    have i1 := i.put (j := 3) (v := some (.int (u : Int))) (by omega)
    have g3 : (σ'.set 3 (some (.int (u : Int))))[3]? = some (some (.int (u : Int))) := by rw [List.getElem?_set_self (by rw [i.sl]; omega)]
    refine s_forR2 (lo := ((u + 1 : Nat) : Int)) (n := (n : Int)) (ea_cons (ev_is (ev_op (ev_var g3) (ev_c (v := .int 1)) rv_I0) (by congr 1)) (ea_cons (ev_is (ev_len (ev_var i1.s0) (sq_of i1.rows.at_)) (by rw [ll])) ea_nil)) (by omega)
      (fun j σ2 H2 => WInv K T p c as n s D H (worstTo n t s u (u + 1 + j)) σ2 H2 ∧ σ2[3]? = some (some (.int (u : Int)))) (fun H2 x2 => ⟨i1.heap x2, g3⟩) (fun j σ2 H2 hj ⟨i2, q3⟩ => ?_) (fun σ2 H2 ⟨i2, q3⟩ => ?_)
    · have hv : u + 1 + j < n := by omega
      have ev : ((u + 1 : Nat) : Int) + (j : Int) = ((u + 1 + j : Nat) : Int) := by omega
      rw [ev]
      have e1 : u + 1 + (j + 1) = u + 1 + j + 1 := by omega
      rw [e1, worstTo_turn n t s (show u < u + 1 + j by omega)]
      generalize hvv : u + 1 + j = v at hv i2
      have i3 := i2.put (j := 4) (v := some (.int (v : Int))) (by omega)
      have z3 : (σ2.set 4 (some (.int (v : Int))))[3]? = some (some (.int (u : Int))) := by rw [List.getElem?_set_ne (by omega)]; exact q3
      have z4 : (σ2.set 4 (some (.int (v : Int))))[4]? = some (some (.int (v : Int))) := by rw [List.getElem?_set_self (by rw [i2.sl]; omega)]
      obtain ⟨xu, hxu⟩ : ∃ x, as[u]? = some x := ⟨_, List.getElem?_eq_getElem (by omega)⟩
      have ea : EvA (tCons (tVar 0) (tCons (tVar 1) (tCons (tVar 3) (tCons (tVar 4) tNil)))) (σ2.set 4 (some (.int (v : Int)))) H2 [.ref p, .ref c, .int (u : Int), .int (v : Int)] := ea_cons (ev_var i3.s0) (ea_cons (ev_var i3.s1) (ea_cons (ev_var z3) (ea_cons (ev_var z4) ea_nil)))
      refine q_asgC ea fun H3 x3 => ⟨p, c, n, s, u, v, t, D, rfl, ⟨as, hl, i3.rows.ext x3⟩, ex_l x3 i3.cs, hn, hu, hv, TB, tr, i3.tabs.ext x3, fun H4 e4 T4 => ?_⟩
      show tIfS (tWTest K) (tAsg (tTup (tCons (tVar 3) (tCons (tVar 4) (tCons (tVar 5) (tCons (tAt0 K 3 4) tNil))))) (gName 2)) tNext _ ((σ2.set 4 (some (.int (v : Int)))).set 5 (some (oV (Kv404.told n t s u v)))) H4
      have i4 := ((i3.heap x3).heapN e4 T4).put (j := 5) (v := some (oV (Kv404.told n t s u v))) (by omega)
      have w3 : ((σ2.set 4 (some (.int (v : Int)))).set 5 (some (oV (Kv404.told n t s u v))))[3]? = some (some (.int (u : Int))) := by rw [List.getElem?_set_ne (by omega)]; exact z3
      have w4 : ((σ2.set 4 (some (.int (v : Int)))).set 5 (some (oV (Kv404.told n t s u v))))[4]? = some (some (.int (v : Int))) := by rw [List.getElem?_set_ne (by omega)]; exact z4
      have w5 : ((σ2.set 4 (some (.int (v : Int)))).set 5 (some (oV (Kv404.told n t s u v))))[5]? = some (some (oV (Kv404.told n t s u v))) := by rw [List.getElem?_set_self (by rw [List.length_set, i2.sl]; omega)]
      have wl : ((σ2.set 4 (some (.int (v : Int)))).set 5 (some (oV (Kv404.told n t s u v)))).length = 6 := i4.sl
      revert i4 w3 w4 w5 wl
      generalize (σ2.set 4 (some (.int (v : Int)))).set 5 (some (oV (Kv404.told n t s u v))) = τ
      intro i4 w3 w4 w5 wl
      have hle := TB.le u v
      cases et : Kv404.told n t s u v with
      | none =>
        have ew : worse n t s (worstTo n t s u v) (u, v) = worstTo n t s u v := by
          unfold worse
          show (match Kv404.told n t s u v, Kv402.at_ t u v with | some i, some j => _ | _, _ => _) = _
          rw [et]
        rw [ew]
        rw [et] at w5
        refine s_when (b := false) (et_and (a := false) (b := false) (et_test (ev_op (ev_var w5) ev_c rv_notNone)) (fun z => Bool.noConfusion z)) (fun z => Bool.noConfusion z) (fun _ H5 x5 => ⟨i4.heap x5, w3⟩)
      | some i =>
        have hd : D u v < 1000 := by
          refine Classical.byContradiction fun z => ?_
          rw [told_none TB tr hu hv (by omega)] at et
          cases et
        have eat : Kv402.at_ t u v = some (D u v) := by rw [TB.at_eq hu hv, if_pos hd]
        rw [et] at w5
        have w5 : τ[5]? = some (some (.int (i : Int))) := w5
        obtain ⟨xw, hs2, hw⟩ := i4.s2
        have mk : ∀ (DD : Ends) H5, Ex H4 H5 → (∀ σ2 H2, WInv K T p c as n s D H (some (u, v, i, D u v)) σ2 H2 ∧ σ2[3]? = some (some (.int (u : Int))) → DD.nx σ2 H2) → tAsg (tTup (tCons (tVar 3) (tCons (tVar 4) (tCons (tVar 5) (tCons (tAt0 K 3 4) tNil))))) (gName 2) DD τ H5 := fun DD H5 x5 kk => by
          have i5 := i4.heap x5
          refine s_asgU (xs := wV (u, v, i, D u v)) (eu_tup (ea_cons (ev_var w3) (ea_cons (ev_var w4) (ea_cons (ev_var w5) (ea_cons (ev_at0 i5.rows i5.s0 w3 w4 hxu hv) ea_nil)))) (by show 4 ≤ 100000; decide)) fun q H6 hq x6 h6 => ?_
          have i6 := i5.heap x6
          refine kk _ _ ⟨⟨?_, ?_, ⟨.ref q, ?_, hle, q, rfl, h6⟩, ?_, i6.ex, i6.tabs, i6.rows, i6.cs⟩, ?_⟩
          · rw [List.getElem?_set_ne (by omega)]; exact i6.s0
          · rw [List.getElem?_set_ne (by omega)]; exact i6.s1
          · rw [List.getElem?_set_self (by rw [wl]; omega)]
          · rw [List.length_set]; exact wl
          · rw [List.getElem?_set_ne (by omega)]; exact w3
        cases eb : worstTo n t s u v with
        | none =>
          have ew : worse n t s none (u, v) = some (u, v, i, D u v) := by
            show (match Kv404.told n t s u v, Kv402.at_ t u v with | some i, some j => _ | _, _ => _) = _
            rw [et, eat]
          rw [ew]
          rw [eb] at hw
          have hw : xw = .non := hw
          rw [hw] at hs2
          refine s_when (b := true) (et_and (a := true) (b := true) (et_test (ev_op (ev_var w5) ev_c rv_notNone)) (fun _ => et_or (a := true) (b := true) (et_test (ev_op (ev_var hs2) ev_c rv_none)) (fun z => Bool.noConfusion z))) (fun _ H5 x5 => mk _ H5 x5 fun _ _ z => z) (fun z => Bool.noConfusion z)
        | some z =>
          have ew : worse n t s (some z) (u, v) = if z.2.2.1 * D u v < i * z.2.2.2 then some (u, v, i, D u v) else some z := by
            show (match Kv404.told n t s u v, Kv402.at_ t u v with | some i, some j => _ | _, _ => _) = _
            rw [et, eat]
          rw [ew]
          rw [eb] at hw i4
          obtain ⟨hz, q, hxq, hq⟩ := hw
          rw [hxq] at hs2
          have et3 : Ev (tOp (rIxT K) (tVar 2) (tC (.int 3))) τ H4 (.int (z.2.2.2 : Int)) := ev_op (ev_var hs2) ev_c (rv_ixT (st_of hq) rfl)
          have et2 : Ev (tOp (rIxT K) (tVar 2) (tC (.int 2))) τ H4 (.int (z.2.2.1 : Int)) := ev_op (ev_var hs2) ev_c (rv_ixT (st_of hq) rfl)
          have ec := ev_at0 (K := K) i4.rows i4.s0 w3 w4 hxu hv
          refine s_when (b := decide (z.2.2.1 * D u v < i * z.2.2.2)) (et_is (et_and (a := true) (b := decide (z.2.2.1 * D u v < i * z.2.2.2)) (et_test (ev_op (ev_var w5) ev_c rv_notNone)) (fun _ => et_is (et_or (a := false) (b := decide (z.2.2.1 * D u v < i * z.2.2.2)) (et_test (ev_op (ev_var hs2) ev_c rv_none)) (fun _ => et_is (et_test (ev_op (ev_op (ev_var w5) et3 (rv_I (.inr ⟨by omega, by omega⟩))) (ev_op et2 ec (rv_I (.inr ⟨by omega, by omega⟩))) rv_I0)) ?_)) (Bool.false_or _))) (Bool.true_and _)) (fun hb H5 x5 => ?_) (fun hb H5 x5 => ?_)
          · refine decide_eq_decide.mpr ?_
            rw [← Int.natCast_mul, ← Int.natCast_mul]
            omega
          · rw [if_pos (of_decide_eq_true hb)]; exact mk _ H5 x5 fun _ _ z => z
          · rw [if_neg (of_decide_eq_false hb)]; exact ⟨i4.heap x5, w3⟩
    · have e : u + 1 + ((n : Int) - ((u + 1 : Nat) : Int)).toNat = n := by omega
      rw [e, ← worstTo_next] at i2
      exact i2
  · have e : (n : Int).toNat = n := Int.toNat_natCast n
    rw [e, worstTo_end] at i
    obtain ⟨x, h2, hw⟩ := i.s2
    exact s_ret (ev_var h2) fun H2 x2 => k x H2 (i.heap x2).ex (i.heap x2).tabs (hw.extN (ExtN.of x2))
theorem ok_worst (F : Fun K "worst_told" "worst_told" sWorst f fd) (G : Glb mg) (CT : Cal P w K mg base 3 "told_distance" (spTold K T)) : FnOk P w K mg base CX0 4 f fd ["rows", "chosen"] (spWorst K T) := by
  refine F.ok scWorst (fun vs H Q E h => ?_) (fun cdv A outer s H vs Q E hr h => ⟨t_worst K T, ?_, pure_worst vs H Q E h⟩)
  · obtain ⟨p, c, n, s, t, D, rfl, _⟩ := h; rfl
  · exact pss_cons (ps_set (i := 2) scWorst.nd rfl (Or.inl rfl) pe_non)
      (pss_cons (ps_for PassesOwn.never rfl (pi_range1 rfl G.range (pa_cons (pe_callB call_len_seq (by rfl) G.len boot_len (pa_cons (pv 0) pa_nil)) pa_nil)) (pg_name (i := 3) scWorst.nd rfl (Or.inl rfl))
        (pss_one (ps_for PassesOwn.never rfl (pi_range2 rfl G.range (pa_cons (pe_op op_add (pv 3) pe_int) (pa_cons (pe_callB call_len_seq (by rfl) G.len boot_len (pa_cons (pv 0) pa_nil)) pa_nil))) (pg_name (i := 4) scWorst.nd rfl (Or.inl rfl))
          (pss_cons (ps_set (i := 5) scWorst.nd rfl (Or.inl rfl) (pe_cal CT hr (by decide) rfl (pa_cons (pv 0) (pa_cons (pv 1) (pa_cons (pv 3) (pa_cons (pv 4) pa_nil))))))
          (pss_one (ps_if (PW.pt (pw_and (pt_cmpR op_notN (pv 5) pe_non (nomark _)) (pw_and1 (PW.pt (pw_or (pt_cmpR op_isN (pv 2) pe_non (nomark _)) (pw_or1 (pt_cmpR op_gt (pe_op op_mul (pv 5) (pe_ix ix_tup (pv 2) pe_int (fun _ _ => rfl))) (pe_op op_mul (pe_ix ix_tup (pv 2) pe_int (fun _ _ => rfl)) (pe_ix ix_list (pe_ix ix_list (pv 0) (pv 3) (fun _ _ => rfl)) (pv 4) (fun _ _ => rfl))) (nomark _))))))))
            (pss_one (ps_set (i := 2) scWorst.nd rfl (Or.inl rfl) (pe_tup (pa_cons (pv 3) (pa_cons (pv 4) (pa_cons (pv 5) (pa_cons (pe_ix ix_list (pe_ix ix_list (pv 0) (pv 3) (fun _ _ => rfl)) (pv 4) (fun _ _ => rfl)) pa_nil))))))) pss_nil))))))
      (pss_one (ps_ret (pv 2))))
end
end TP

/-! ## Q3 -/
set_option Elab.async false
set_option linter.all false
set_option maxRecDepth 100000
set_option maxHeartbeats 2000000
namespace TP
open PySem PySem.Spec PyProof.Rows L2 Evl KeyL TT LamX
open Kv402 (Line)
open Kv404 (in_ list_ Abs Ans)
abbrev sTFirst : Stmt := inClass sPlaces 17
abbrev sTDist : Stmt := inClass sPlaces 18
abbrev sTTold : Stmt := inClass sPlaces 19
abbrev sTKnows : Stmt := inClass sPlaces 20
abbrev sTAll : Stmt := inClass sPlaces 21
abbrev sTIf : Stmt := inClass sPlaces 22
abbrev sTLeast : Stmt := inClass sPlaces 23
abbrev sTWorst : Stmt := inClass sPlaces 24
theorem RowsAt.ext {H H' : Hp} {p : Addr} {n : Nat} {F : Nat → Nat → Nat} (R : RowsAt H p n F) (e : Ex H H') : RowsAt H' p n F := by
  obtain ⟨as, h1, h2⟩ := R
  exact ⟨as, h1, h2.ext e⟩
section
variable {P : Program} {w : World} {K : PySem.W.Frag} {mg : Str → Option Value} {base : Heap} {f : Addr} {fd : FuncData} {T : List (Addr × Str)} {C : Addr} {ms : List Str} {O : Rel}
theorem RetC.sameN {a p : Addr} {A : Abs} {r : Ans} {H H' : Hp} {Q : VK} (L : Lies C ms O) (k : RetC T O a (A, r) H Q) (hO : O H a A) (e : ExtN H H') (t : Tabs T H') (n : FreshN H p) (h : H' p = some (.lst (ansV r))) : Q (.ref p) H' :=
  k p H' n (fun b o hb _ hno _ => e b o hb hno) t (L.ext hO e) h
/-- what looking calls promise -/
def spLook0 (T : List (Addr × Str)) (O : Rel) (c : Kv404.Call) : Sp := fun vs H Q _ => ∃ (a : Addr) (A : Abs), vs = [.ref a] ∧ O H a A ∧ AbsOk A ∧ Tabs T H ∧ RetC T O a (A.does c) H Q
def spLook1 (T : List (Addr × Str)) (O : Rel) (c : Nat → Kv404.Call) : Sp := fun vs H Q _ => ∃ (a : Addr) (A : Abs) (v : Nat), vs = [.ref a, .int (v : Int)] ∧ O H a A ∧ AbsOk A ∧ Tabs T H ∧ RetC T O a (A.does (c v)) H Q
def spLook2 (T : List (Addr × Str)) (O : Rel) (c : Nat → Nat → Kv404.Call) : Sp := fun vs H Q _ => ∃ (a : Addr) (A : Abs) (u v : Nat), vs = [.ref a, .int (u : Int), .int (v : Int)] ∧ O H a A ∧ AbsOk A ∧ Tabs T H ∧ RetC T O a (A.does (c u v)) H Q
abbrev tChosenM (C : Addr) (O : Rel) : TE := tMeth C "chosen" (spChosenM O) [] E0 (tVar 0) tNil
/-- tell_first(self, v, k) -/
abbrev nTFirst : List Str := ["self", "v", "k", "first"]
theorem scTFirst : FnScope nTFirst ["self", "v", "k"] (defScope sTFirst) := ⟨rfl, rfl, rfl, by decide +kernel, rfl, by decide +kernel, by decide +kernel⟩
def t_tfirst (K : PySem.W.Frag) (T : List (Addr × Str)) (C : Addr) (O : Rel) : TS := tSeq (tIfS (tTest (tOp rGe (tVar 1) (tCnt K))) (tNo (-2)) tNext) (tSeq (tIfS (tOr (tTest (tOp tLt (tVar 2) (tC (.int 1)))) (tTest (tOp rGt (tVar 2) (tC (.int 8))))) (tNo (-22)) tNext)
  (tSeq (tAsg (tCall (spFirst K T) [] E0 (tCons (tRowAt K C O) (tCons (tVar 2) tNil))) (gName 3)) (tRet (tOp rCat (tLst (tCons (tLen K (tVar 3)) tNil)) (tVar 3)))))
theorem ok_tfirst (F : Fun K "tell_first" "Places.tell_first" sTFirst f fd) (L : Lies C ms O) (X : Txt K C) (G : Glb mg) (N : Num mg) (hr1 : ("rows" : Str) ∈ ms) (MR : Met P w K mg base C 2 "rows" (spRows O)) (CF : Cal P w K mg base 1 "nearest_places" (spFirst K T)) : FnOk P w K mg base CX0 3 f fd ["self", "v", "k"] (spLook2 T O .first) := by
  refine F.ok scTFirst (fun vs H Q E h => ?_) (fun cdv A outer s H vs Q E hr h => ⟨t_tfirst K T C O, ?_, ?_⟩)
  · obtain ⟨a, A, u, v, rfl, _⟩ := h; rfl
  · exact pss_cons (ps_if (pt_cmpR op_ge (pv 1) (pe_fld (pv 0) rfl) (nomark _)) (pss_one (ps_ret (pe_lst (pa_cons (pe_gl rfl N.noSuch) pa_nil)))) pss_nil)
      (pss_cons (ps_if (PW.pt (pw_or (pt_cmpR op_lt (pv 2) pe_int (nomark _)) (pw_or1 (pt_cmpR op_gt (pv 2) (pe_gl rfl N.mNear) (nomark _))))) (pss_one (ps_ret (pe_lst (pa_cons (pe_gl rfl N.range) pa_nil)))) pss_nil)
      (pss_cons (ps_set (i := 3) scTFirst.nd rfl (Or.inl rfl) (pe_cal CF hr (by decide) rfl (pa_cons (pe_ix ix_list (pe_met0 MR X.cl hr (by decide) (pv 0)) (pv 1) (fun _ _ => rfl)) (pa_cons (pv 2) pa_nil))))
      (pss_one (ps_ret (pe_op op_cat (pe_lst (pa_cons (pe_callB call_len_seq (by rfl) G.len boot_len (pa_cons (pv 3) pa_nil)) pa_nil)) (pv 3))))))
  · obtain ⟨a, A, v, kk, rfl, hO, ok, hT, k⟩ := h
    obtain ⟨dx, fs, l, ha, h1, h2, h3, h4, h5⟩ := L.view hO
    have hn8 := ok.n8
    refine q_when (b := decide (A.now.g.n ≤ v)) (et_is (et_test (ev_op (ev_var rfl) (ev_fld (ev_var rfl) ha X.cl X.nC h1) rv_I0)) (decide_eq_decide.mpr (by omega))) (fun hb H1 x1 => ?_) (fun hb H1 x1 => ?_)
    · have hb := of_decide_eq_true hb
      have ed : A.does (.first v kk) = (A, Kv404.say (-2)) := if_pos hb
      rw [ed] at k
      exact s_refuse fun p H2 n2 x2 h2 => k.same L hO hT (freshN (ExtN.of x1) n2) (x1.trans x2) h2
    have hb1 := of_decide_eq_false hb
    have hv : v < A.now.g.n := by omega
    refine q_when (b := decide (kk < 1) || decide (8 < kk)) (et_or (et_is (et_test (ev_op (ev_var rfl) ev_c rv_I0)) (decide_eq_decide.mpr (by omega))) (fun _ => et_is (et_test (ev_op (ev_var rfl) ev_c rv_I0)) (decide_eq_decide.mpr (by omega)))) (fun hb H2 x2 => ?_) (fun hb H2 x2 => ?_)
    · have hb : kk = 0 ∨ 8 < kk := by
        simp only [Bool.or_eq_true, decide_eq_true_eq] at hb
        omega
      have ed : A.does (.first v kk) = (A, Kv404.say (-22)) := (if_neg hb1).trans (if_pos hb)
      rw [ed] at k
      exact s_refuse fun p H3 n3 x3 h3 => k.same L hO hT (freshN (ExtN.of (x1.trans x2)) n3) ((x1.trans x2).trans x3) h3
    · have hb : ¬ (kk = 0 ∨ 8 < kk) := by
        simp only [Bool.or_eq_false_iff, decide_eq_false_iff_not] at hb
        omega
      have ed : A.does (.first v kk) = (A, Kv404.list (Kv404.first A.now.g.n A.now.g.table kk v)) := (if_neg hb1).trans (if_neg hb)
      rw [ed] at k
      have y2 := x1.trans x2
      refine ask_row (v := v) L (L.ext hO (ExtN.of y2)) ok hr1 rfl rfl hv fun x H3 x3 hx => ?_
      have y3 := y2.trans x3
      refine ⟨.int (kk : Int), rfl, x, kk, (List.range A.now.g.n).map (dd A.now.g.n A.now.g.lines v), rfl, sq_of hx, by rw [List.length_map, List.length_range]; exact hn8, by omega, hT.ext y3, fun nn hpw hpm p H4 hfr eN T4 h4 => ?_⟩
      obtain ⟨m1, m2⟩ := lex_of hpw hpm
      have e1 : nn.take kk = Kv404.first A.now.g.n A.now.g.table kk v := by rw [byDist_is (tbOf ok) hv m1 m2]; rfl
      rw [e1] at h4
      have hz : (Kv404.first A.now.g.n A.now.g.table kk v).length ≤ 8 := by
        unfold Kv404.first
        rw [List.length_take]; omega
      have eN4 : ExtN H H4 := (ExtN.of y3).trans eN
      refine s_retL (el_told (i := 3) rfl h4 (by omega)) fun p2 H5 hp5 x5 h5' => ?_
      refine k.sameN L hO (eN4.trans (ExtN.of x5)) (T4.ext x5) (freshN eN4 hp5) ?_
      rw [ansV_list]
      exact h5'
/-- tell_dist(self, u, v) -/
abbrev nTDist : List Str := ["self", "u", "v", "distance"]
theorem scTDist : FnScope nTDist ["self", "u", "v"] (defScope sTDist) := ⟨rfl, rfl, rfl, by decide +kernel, rfl, by decide +kernel, by decide +kernel⟩
abbrev tNoPlace (K : PySem.W.Frag) : TS := tIfS (tOr (tTest (tOp rGe (tVar 1) (tCnt K))) (tTest (tOp rGe (tVar 2) (tCnt K)))) (tNo (-2)) tNext
abbrev tGive (i : Nat) : TS := tRet (tLst (tCons (tVar i) tNil))
def t_tdist (K : PySem.W.Frag) (C : Addr) (O : Rel) : TS := tSeq (tNoPlace K) (tSeq (tAsg (tOp (rIxL K) (tRowAt K C O) (tVar 2)) (gName 3)) (tSeq (tIfS (tTest (tOp rEq (tVar 3) (tC (.int 1000)))) (tNo (-33)) tNext) (tGive 3)))
theorem ok_tdist (F : Fun K "tell_dist" "Places.tell_dist" sTDist f fd) (L : Lies C ms O) (X : Txt K C) (G : Glb mg) (N : Num mg) (NN : ∃ u, mg "THERE_IS_NONE" = some u ∧ RelV (.int (-33)) u) (hr1 : ("rows" : Str) ∈ ms) (MR : Met P w K mg base C 2 "rows" (spRows O)) : FnOk P w K mg base CX0 3 f fd ["self", "u", "v"] (spLook2 T O .dist) := by
  refine F.ok scTDist (fun vs H Q E h => ?_) (fun cdv A outer s H vs Q E hr h => ⟨t_tdist K C O, ?_, ?_⟩)
  · obtain ⟨a, A, u, v, rfl, _⟩ := h; rfl
  · exact pss_cons (ps_if (PW.pt (pw_or (pt_cmpR op_ge (pv 1) (pe_fld (pv 0) rfl) (nomark _)) (pw_or1 (pt_cmpR op_ge (pv 2) (pe_fld (pv 0) rfl) (nomark _))))) (pss_one (ps_ret (pe_lst (pa_cons (pe_gl rfl N.noSuch) pa_nil)))) pss_nil)
      (pss_cons (ps_set (i := 3) scTDist.nd rfl (Or.inl rfl) (pe_ix ix_list (pe_ix ix_list (pe_met0 MR X.cl hr (by decide) (pv 0)) (pv 1) (fun _ _ => rfl)) (pv 2) (fun _ _ => rfl)))
      (pss_cons (ps_if (pt_cmpR op_eq (pv 3) (pe_gl rfl G.FAR) (nomark _)) (pss_one (ps_ret (pe_lst (pa_cons (pe_gl rfl NN) pa_nil)))) pss_nil)
      (pss_one (ps_ret (pe_lst (pa_cons (pv 3) pa_nil))))))
  · obtain ⟨a, A, u, v, rfl, hO, ok, hT, k⟩ := h
    obtain ⟨dx, fs, l, ha, h1, h2, h3, h4, h5⟩ := L.view hO
    have hn8 := ok.n8
    refine q_when (b := decide (A.now.g.n ≤ u) || decide (A.now.g.n ≤ v)) (et_or (et_is (et_test (ev_op (ev_var rfl) (ev_fld (ev_var rfl) ha X.cl X.nC h1) rv_I0)) (decide_eq_decide.mpr (by omega))) (fun _ => et_is (et_test (ev_op (ev_var rfl) (ev_fld (ev_var rfl) ha X.cl X.nC h1) rv_I0)) (decide_eq_decide.mpr (by omega)))) (fun hb H1 x1 => ?_) (fun hb H1 x1 => ?_)
    · have hb : A.now.g.n ≤ u ∨ A.now.g.n ≤ v := by simpa only [Bool.or_eq_true, decide_eq_true_eq] using hb
      have ed : A.does (.dist u v) = (A, Kv404.say (-2)) := if_pos hb
      rw [ed] at k
      exact s_refuse fun p H2 n2 x2 h2 => k.same L hO hT (freshN (ExtN.of x1) n2) (x1.trans x2) h2
    · have hb : ¬ (A.now.g.n ≤ u ∨ A.now.g.n ≤ v) := by
        simp only [Bool.or_eq_false_iff, decide_eq_false_iff_not] at hb
        omega
      have hu : u < A.now.g.n := by omega
      have hv : v < A.now.g.n := by omega
      have ed : A.does (.dist u v) = match Kv402.at_ A.now.g.table u v with
        | none => (A, Kv404.say (-33))
        | some d => (A, Kv404.num d) := if_neg hb
      rw [ed, (tbOf ok).at_eq hu hv] at k
      have hle := (tbOf ok).le u v
      refine ask_row (v := u) L (L.ext hO (ExtN.of x1)) ok hr1 rfl rfl hu fun x H2 x2 hx => ?_
      have y2 := x1.trans x2
      refine ⟨.int (v : Int), rfl, x, _, v, .int (dd A.now.g.n A.now.g.lines u v : Int), rfl, rfl, sq_of hx, row_get hv, ?_⟩
      show tSeq (tIfS (tTest (tOp rEq (tVar 3) (tC (.int 1000)))) (tNo (-33)) tNext) (tGive 3) _ ((start nTDist [.ref a, .int (u : Int), .int (v : Int)]).set 3 (some (.int (dd A.now.g.n A.now.g.lines u v : Int)))) H2
      refine q_when (b := decide (dd A.now.g.n A.now.g.lines u v = 1000)) (et_is (et_test (ev_op (ev_var rfl) ev_c (rv_eq rfl))) (decide_eq_decide.mpr ⟨fun q => by injection q with q; omega, fun q => by rw [q]; rfl⟩)) (fun hb H3 x3 => ?_) (fun hb H3 x3 => ?_)
      · have hb := of_decide_eq_true hb
        rw [if_neg (by omega)] at k
        exact s_refuse fun p H4 n4 x4 h4 => RetC.same (A := A) (r := Kv404.say (-33)) L k hO hT (freshN (ExtN.of (y2.trans x3)) n4) ((y2.trans x3).trans x4) h4
      · have hb := of_decide_eq_false hb
        rw [if_pos (by omega)] at k
        refine s_retL (el_lst (ea_cons (ev_var rfl) ea_nil) (by show 1 ≤ 100000; decide)) fun p H4 n4 x4 h4 => RetC.same (A := A) (r := Kv404.num (dd A.now.g.n A.now.g.lines u v)) L k hO hT (freshN (ExtN.of (y2.trans x3)) n4) ((y2.trans x3).trans x4) h4
/-- tell_told(self, u, v) -/
abbrev nTTold : List Str := ["self", "u", "v", "told"]
theorem scTTold : FnScope nTTold ["self", "u", "v"] (defScope sTTold) := ⟨rfl, rfl, rfl, by decide +kernel, rfl, by decide +kernel, by decide +kernel⟩
def t_ttold (K : PySem.W.Frag) (T : List (Addr × Str)) (C : Addr) (O : Rel) : TS := tSeq (tNoPlace K) (tSeq (tAsg (tCall (spTold K T) [] E0 (tCons (tRowsM C O) (tCons (tChosenM C O) (tCons (tVar 1) (tCons (tVar 2) tNil))))) (gName 3)) (tSeq (tIfS (tTest (tOp rIsNone (tVar 3) (tC .non))) (tNo (-33)) tNext) (tGive 3)))
theorem trOf {A : Abs} (ok : AbsOk A) : Trans A.now.g.n (dd A.now.g.n A.now.g.lines) := dd_trans ok.n8 ok.lines.toLinesOk
theorem ok_ttold (F : Fun K "tell_told" "Places.tell_told" sTTold f fd) (L : Lies C ms O) (X : Txt K C) (N : Num mg) (NN : ∃ u, mg "THERE_IS_NONE" = some u ∧ RelV (.int (-33)) u) (hm : ("chosen" : Str) ∈ ms) (hr1 : ("rows" : Str) ∈ ms) (MC : Met P w K mg base C 2 "chosen" (spChosenM O)) (MR : Met P w K mg base C 2 "rows" (spRows O)) (CT : Cal P w K mg base 3 "told_distance" (spTold K T)) : FnOk P w K mg base CX0 4 f fd ["self", "u", "v"] (spLook2 T O .told) := by
  refine F.ok scTTold (fun vs H Q E h => ?_) (fun cdv A outer s H vs Q E hr h => ⟨t_ttold K T C O, ?_, ?_⟩)
  · obtain ⟨a, A, u, v, rfl, _⟩ := h; rfl
  · exact pss_cons (ps_if (PW.pt (pw_or (pt_cmpR op_ge (pv 1) (pe_fld (pv 0) rfl) (nomark _)) (pw_or1 (pt_cmpR op_ge (pv 2) (pe_fld (pv 0) rfl) (nomark _))))) (pss_one (ps_ret (pe_lst (pa_cons (pe_gl rfl N.noSuch) pa_nil)))) pss_nil)
      (pss_cons (ps_set (i := 3) scTTold.nd rfl (Or.inl rfl) (pe_cal CT hr (by decide) rfl (pa_cons (pe_met0 MR X.cl hr (by decide) (pv 0)) (pa_cons (pe_met0 MC X.cl hr (by decide) (pv 0)) (pa_cons (pv 1) (pa_cons (pv 2) pa_nil))))))
      (pss_cons (ps_if (pt_cmpR op_isN (pv 3) pe_non (nomark _)) (pss_one (ps_ret (pe_lst (pa_cons (pe_gl rfl NN) pa_nil)))) pss_nil)
      (pss_one (ps_ret (pe_lst (pa_cons (pv 3) pa_nil))))))
  · obtain ⟨a, A, u, v, rfl, hO, ok, hT, k⟩ := h
    obtain ⟨dx, fs, l, ha, h1, h2, h3, h4, h5⟩ := L.view hO
    have hn8 := ok.n8
    refine q_when (b := decide (A.now.g.n ≤ u) || decide (A.now.g.n ≤ v)) (et_or (et_is (et_test (ev_op (ev_var rfl) (ev_fld (ev_var rfl) ha X.cl X.nC h1) rv_I0)) (decide_eq_decide.mpr (by omega))) (fun _ => et_is (et_test (ev_op (ev_var rfl) (ev_fld (ev_var rfl) ha X.cl X.nC h1) rv_I0)) (decide_eq_decide.mpr (by omega)))) (fun hb H1 x1 => ?_) (fun hb H1 x1 => ?_)
    · have hb : A.now.g.n ≤ u ∨ A.now.g.n ≤ v := by simpa only [Bool.or_eq_true, decide_eq_true_eq] using hb
      have ed : A.does (.told u v) = (A, Kv404.say (-2)) := if_pos hb
      rw [ed] at k
      exact s_refuse fun p H2 n2 x2 h2 => k.same L hO hT (freshN (ExtN.of x1) n2) (x1.trans x2) h2
    · have hb : ¬ (A.now.g.n ≤ u ∨ A.now.g.n ≤ v) := by
        simp only [Bool.or_eq_false_iff, decide_eq_false_iff_not] at hb
        omega
      have hu : u < A.now.g.n := by omega
      have hv : v < A.now.g.n := by omega
      have ed : A.does (.told u v) = match Kv404.told A.now.g.n A.now.g.table A.now.s u v with
        | none => (A, Kv404.say (-33))
        | some d => (A, Kv404.num d) := if_neg hb
      rw [ed] at k
      refine ⟨.ref a, rfl, a, dx, fs, rfl, x1 _ _ ha, h5 _ hr1, a, A, rfl, L.ext hO (ExtN.of x1), ok, fun p H2 hp x2 RR => ?_⟩
      have y2 := x1.trans x2
      refine ⟨.ref a, rfl, a, dx, fs, rfl, y2 _ _ ha, h5 _ hm, a, A, rfl, L.ext hO (ExtN.of y2), ok, fun c H3 hc x3 hc3 => ⟨.int (u : Int), rfl, .int (v : Int), rfl, p, c, A.now.g.n, A.now.s, u, v, A.now.g.table, _, rfl, RR.ext x3, sq_of hc3, hn8, hu, hv, tbOf ok, trOf ok, hT.ext (y2.trans x3), fun H4 e4 T4 => ?_⟩⟩
      show tSeq (tIfS (tTest (tOp rIsNone (tVar 3) (tC .non))) (tNo (-33)) tNext) (tGive 3) _ ((start nTTold [.ref a, .int (u : Int), .int (v : Int)]).set 3 (some (oV (Kv404.told A.now.g.n A.now.g.table A.now.s u v)))) H4
      have eN4 : ExtN H H4 := (ExtN.of (y2.trans x3)).trans e4
      cases et : Kv404.told A.now.g.n A.now.g.table A.now.s u v with
      | none =>
        rw [et] at k
        refine q_when (b := true) (et_test (ev_op (ev_var rfl) ev_c rv_none)) (fun _ H5 x5 => ?_) (fun z => Bool.noConfusion z)
        exact s_refuse fun p H6 n6 x6 h6 => RetC.sameN (A := A) (r := Kv404.say (-33)) L k hO (eN4.trans (ExtN.of (x5.trans x6))) ((T4.ext x5).ext x6) (freshN (eN4.trans (ExtN.of x5)) n6) h6
      | some d =>
        rw [et] at k
        refine q_when (b := false) (et_test (ev_op (ev_var rfl) ev_c rv_none)) (fun z => Bool.noConfusion z) (fun _ H5 x5 => ?_)
        exact s_retL (el_lst (ea_cons (ev_var rfl) ea_nil) (by show 1 ≤ 100000; decide)) fun p H6 n6 x6 h6 => RetC.sameN (A := A) (r := Kv404.num d) L k hO (eN4.trans (ExtN.of (x5.trans x6))) ((T4.ext x5).ext x6) (freshN (eN4.trans (ExtN.of x5)) n6) h6
end
end TP

/-! ## Q4 -/
set_option Elab.async false
set_option linter.all false
set_option maxRecDepth 100000
set_option maxHeartbeats 2000000
namespace TP
open PySem PySem.Spec PyProof.Rows L2 Evl KeyL TT LamX
open Kv402 (Line)
open Kv404 (in_ list_ Abs Ans)
section
variable {P : Program} {w : World} {K : PySem.W.Frag} {mg : Str → Option Value} {base : Heap} {f : Addr} {fd : FuncData} {T : List (Addr × Str)} {C : Addr} {ms : List Str} {O : Rel}
/-- known_by_all(self.rows(), e) -/
theorem ev_all {σ : L2.St} {H : Hp} {a : Addr} {A : Abs} {ta : TE} {s : Nat} (L : Lies C ms O) (hO : O H a A) (ok : AbsOk A) (hr : ("rows" : Str) ∈ ms) (h0 : σ[0]? = some (some (.ref a))) (hs : Ev ta σ H (.int (s : Int))) : Ev (tCall spKnown [] E0 (tCons (tRowsM C O) (tCons ta tNil))) σ H (.int (Kv404.all A.now.g.n A.now.g.table s : Int)) := fun H1 e Q q => by
  obtain ⟨dx, fs, l, ha, _, _, _, _, h5⟩ := L.view hO
  refine ⟨.ref a, h0, a, dx, fs, rfl, e _ _ ha, h5 _ hr, a, A, rfl, L.ext hO (ExtN.of e), ok, fun p H2 hp e2 R => hs H2 (e.trans e2) _ fun H3 e3 => ⟨p, A.now.g.n, s, dd A.now.g.n A.now.g.lines, rfl, R.ext e3, ok.n8, dd_le, fun H4 e4 => ?_⟩⟩
  rw [← all_eq (tbOf ok)]
  exact q H4 ((e2.trans e3).trans e4)
/-- known_by_one(self.rows()[v], self.chosen()) -/
theorem ev_knows {σ : L2.St} {H : Hp} {a : Addr} {A : Abs} {v : Nat} (L : Lies C ms O) (hO : O H a A) (ok : AbsOk A) (hr : ("rows" : Str) ∈ ms) (hm : ("chosen" : Str) ∈ ms) (h0 : σ[0]? = some (some (.ref a))) (h1 : σ[1]? = some (some (.int (v : Int)))) (hv : v < A.now.g.n) : Ev (tCall (spOne K) [] E0 (tCons (tRowAt K C O) (tCons (tChosenM C O) tNil))) σ H (.int (Kv404.knows A.now.g.n A.now.g.table A.now.s v : Int)) := fun H1 e Q q => by
  refine ask_row (v := v) L (L.ext hO (ExtN.of e)) ok hr h0 h1 hv fun x H2 x2 hx => ?_
  have O2 := L.ext hO (ExtN.of (e.trans x2))
  obtain ⟨dx, fs, l, ha, _, _, _, _, h5⟩ := L.view O2
  refine ⟨.ref a, h0, a, dx, fs, rfl, ha, h5 _ hm, a, A, rfl, O2, ok, fun c H3 hc x3 hc3 => ⟨x, c, _, _, rfl, sq_of (x3 _ _ hx), sq_of hc3, ?_, ?_, ?_, ?_, fun H4 x4 => ?_⟩⟩
  · rw [List.length_map, List.length_range]; exact ok.n8
  · exact Nat.le_trans (list_len _ _) ok.n8
  · rw [List.length_map, List.length_range]; exact fun y hy => (mem_list hy).1
  · intro d hd
    obtain ⟨y, _, rfl⟩ := List.mem_map.mp hd
    exact dd_le _ _
  · rw [nearOf_row, ← knows_eq (tbOf ok) hv]
    exact q H4 ((x2.trans x3).trans x4)
/-- tell_knows(self, v) -/
theorem scTKnows : FnScope ["self", "v"] ["self", "v"] (defScope sTKnows) := ⟨rfl, rfl, rfl, by decide +kernel, rfl, by decide +kernel, by decide +kernel⟩
theorem ok_tknows (F : Fun K "tell_knows" "Places.tell_knows" sTKnows f fd) (L : Lies C ms O) (X : Txt K C) (N : Num mg) (hm : ("chosen" : Str) ∈ ms) (hr1 : ("rows" : Str) ∈ ms) (MC : Met P w K mg base C 2 "chosen" (spChosenM O)) (MR : Met P w K mg base C 2 "rows" (spRows O)) (CO : Cal P w K mg base 2 "known_by_one" (spOne K)) : FnOk P w K mg base CX0 3 f fd ["self", "v"] (spLook1 T O .knows) := by
  refine F.ok scTKnows (fun vs H Q E h => ?_) (fun cdv A outer s H vs Q E hr h => ⟨tSeq (tIfS (tTest (tOp rGe (tVar 1) (tCnt K))) (tNo (-2)) tNext) (tRet (tLst (tCons (tCall (spOne K) [] E0 (tCons (tRowAt K C O) (tCons (tChosenM C O) tNil))) tNil))), ?_, ?_⟩)
  · obtain ⟨a, A, v, rfl, _⟩ := h; rfl
  · exact pss_cons (ps_if (pt_cmpR op_ge (pv 1) (pe_fld (pv 0) rfl) (nomark _)) (pss_one (ps_ret (pe_lst (pa_cons (pe_gl rfl N.noSuch) pa_nil)))) pss_nil)
      (pss_one (ps_ret (pe_lst (pa_cons (pe_cal CO hr (by decide) rfl (pa_cons (pe_ix ix_list (pe_met0 MR X.cl hr (by decide) (pv 0)) (pv 1) (fun _ _ => rfl)) (pa_cons (pe_met0 MC X.cl hr (by decide) (pv 0)) pa_nil))) pa_nil))))
  · obtain ⟨a, A, v, rfl, hO, ok, hT, k⟩ := h
    obtain ⟨dx, fs, l, ha, h1, h2, h3, h4, h5⟩ := L.view hO
    refine q_when (b := decide (A.now.g.n ≤ v)) (et_is (et_test (ev_op (ev_var rfl) (ev_fld (ev_var rfl) ha X.cl X.nC h1) rv_I0)) (decide_eq_decide.mpr (by omega))) (fun hb H1 x1 => ?_) (fun hb H1 x1 => ?_)
    · have hb := of_decide_eq_true hb
      have ed : A.does (.knows v) = (A, Kv404.say (-2)) := if_pos hb
      rw [ed] at k
      exact s_refuse fun p H2 n2 x2 h2 => k.same L hO hT (freshN (ExtN.of x1) n2) (x1.trans x2) h2
    · have hb := of_decide_eq_false hb
      have ed : A.does (.knows v) = (A, Kv404.num (Kv404.knows A.now.g.n A.now.g.table A.now.s v)) := if_neg hb
      rw [ed] at k
      exact s_retL (el_lst (ea_cons (ev_knows L (L.ext hO (ExtN.of x1)) ok hr1 hm rfl rfl (by omega)) ea_nil) (by show 1 ≤ 100000; decide)) fun p H2 n2 x2 h2 => k.same L hO hT (freshN (ExtN.of x1) n2) (x1.trans x2) h2
/-- tell_all(self) -/
theorem scTAll : FnScope ["self"] ["self"] (defScope sTAll) := ⟨rfl, rfl, rfl, by decide +kernel, rfl, by decide +kernel, by decide +kernel⟩
theorem ok_tall (F : Fun K "tell_all" "Places.tell_all" sTAll f fd) (L : Lies C ms O) (X : Txt K C) (hr1 : ("rows" : Str) ∈ ms) (MR : Met P w K mg base C 2 "rows" (spRows O)) (CK : Cal P w K mg base 3 "known_by_all" spKnown) : FnOk P w K mg base CX0 4 f fd ["self"] (spLook0 T O .all) := by
  refine F.ok scTAll (fun vs H Q E h => ?_) (fun cdv A outer s H vs Q E hr h => ⟨tRet (tLst (tCons (tCall spKnown [] E0 (tCons (tRowsM C O) (tCons (tFld K (tVar 0) "choice") tNil))) tNil)), ?_, ?_⟩)
  · obtain ⟨a, A, rfl, _⟩ := h; rfl
  · exact pss_one (ps_ret (pe_lst (pa_cons (pe_cal CK hr (by decide) rfl (pa_cons (pe_met0 MR X.cl hr (by decide) (pv 0)) (pa_cons (pe_fld (pv 0) rfl) pa_nil))) pa_nil)))
  · obtain ⟨a, A, rfl, hO, ok, hT, k⟩ := h
    obtain ⟨dx, fs, l, ha, h1, h2, h3, h4, h5⟩ := L.view hO
    exact s_retL (el_lst (ea_cons (ev_all L hO ok hr1 rfl (ev_fld (ev_var rfl) ha X.cl X.nS h4)) ea_nil) (by show 1 ≤ 100000; decide)) fun p H2 n2 x2 h2 => RetC.same (A := A) (r := Kv404.num (Kv404.all A.now.g.n A.now.g.table A.now.s)) L k hO hT (freshN (ExtN.of (Ex.refl H)) n2) x2 h2
/-- tell_if_chosen(self, s) -/
theorem scTIf : FnScope ["self", "s"] ["self", "s"] (defScope sTIf) := ⟨rfl, rfl, rfl, by decide +kernel, rfl, by decide +kernel, by decide +kernel⟩
theorem ok_tif (F : Fun K "tell_if_chosen" "Places.tell_if_chosen" sTIf f fd) (L : Lies C ms O) (X : Txt K C) (N : Num mg) (hr1 : ("rows" : Str) ∈ ms) (MR : Met P w K mg base C 2 "rows" (spRows O)) (CK : Cal P w K mg base 3 "known_by_all" spKnown) : FnOk P w K mg base CX0 4 f fd ["self", "s"] (spLook1 T O .ifchosen) := by
  refine F.ok scTIf (fun vs H Q E h => ?_) (fun cdv A outer s H vs Q E hr h => ⟨tSeq (tIfS (tTest (tOp rGe (tVar 1) (tOp rShl1 (tC (.int 1)) (tFld K (tVar 0) "count")))) (tNo (-22)) tNext) (tRet (tLst (tCons (tCall spKnown [] E0 (tCons (tRowsM C O) (tCons (tVar 1) tNil))) tNil))), ?_, ?_⟩)
  · obtain ⟨a, A, v, rfl, _⟩ := h; rfl
  · exact pss_cons (ps_if (pt_cmpR op_ge (pv 1) (pe_op op_oneShl pe_int (pe_fld (pv 0) rfl)) (nomark _)) (pss_one (ps_ret (pe_lst (pa_cons (pe_gl rfl N.range) pa_nil)))) pss_nil)
      (pss_one (ps_ret (pe_lst (pa_cons (pe_cal CK hr (by decide) rfl (pa_cons (pe_met0 MR X.cl hr (by decide) (pv 0)) (pa_cons (pv 1) pa_nil))) pa_nil))))
  · obtain ⟨a, A, s, rfl, hO, ok, hT, k⟩ := h
    obtain ⟨dx, fs, l, ha, h1, h2, h3, h4, h5⟩ := L.view hO
    have hn8 := ok.n8
    have e22 : Ev (tOp rShl1 (tC (.int 1)) (tFld K (tVar 0) "count")) (start ["self", "s"] [.ref a, .int (s : Int)]) H (.int ((2 ^ A.now.g.n : Nat) : Int)) := ev_op ev_c (ev_fld (ev_var rfl) ha X.cl X.nC h1) (rv_shl1 (by omega))
    refine q_when (b := decide (2 ^ A.now.g.n ≤ s)) (et_is (et_test (ev_op (ev_var rfl) e22 rv_I0)) (decide_eq_decide.mpr (by omega))) (fun hb H1 x1 => ?_) (fun hb H1 x1 => ?_)
    · have hb := of_decide_eq_true hb
      have ed : A.does (.ifchosen s) = (A, Kv404.say (-22)) := if_pos hb
      rw [ed] at k
      exact s_refuse fun p H2 n2 x2 h2 => k.same L hO hT (freshN (ExtN.of x1) n2) (x1.trans x2) h2
    · have hb := of_decide_eq_false hb
      have ed : A.does (.ifchosen s) = (A, Kv404.num (Kv404.all A.now.g.n A.now.g.table s)) := if_neg hb
      rw [ed] at k
      exact s_retL (el_lst (ea_cons (ev_all L (L.ext hO (ExtN.of x1)) ok hr1 rfl (ev_var rfl)) ea_nil) (by show 1 ≤ 100000; decide)) fun p H2 n2 x2 h2 => k.same L hO hT (freshN (ExtN.of x1) n2) (x1.trans x2) h2
/-- tell_least_all(self) -/
abbrev nTLeast : List Str := ["self", "rows", "choice"]
theorem scTLeast : FnScope nTLeast ["self"] (defScope sTLeast) := ⟨rfl, rfl, rfl, by decide +kernel, rfl, by decide +kernel, by decide +kernel⟩
theorem ok_tleast (F : Fun K "tell_least_all" "Places.tell_least_all" sTLeast f fd) (L : Lies C ms O) (X : Txt K C) (N : Num mg) (hr1 : ("rows" : Str) ∈ ms) (MR : Met P w K mg base C 2 "rows" (spRows O)) (CK : Cal P w K mg base 3 "known_by_all" spKnown) (CB : Cal P w K mg base 4 "best_choice" spBest) : FnOk P w K mg base CX0 5 f fd ["self"] (spLook0 T O .leastall) := by
  refine F.ok scTLeast (fun vs H Q E h => ?_) (fun cdv A outer s H vs Q E hr h => ⟨tSeq (tIfS (tTest (tOp rGt (tFld K (tVar 0) "count") (tC (.int 6)))) (tNo (-28)) tNext) (tSeq (tAsg (tRowsM C O) (gName 1)) (tSeq (tAsg (tCall spBest [] E0 (tCons (tVar 1) tNil)) (gName 2)) (tRet (tLst (tCons (tCall spKnown [] E0 (tCons (tVar 1) (tCons (tVar 2) tNil))) (tCons (tVar 2) tNil)))))), ?_, ?_⟩)
  · obtain ⟨a, A, rfl, _⟩ := h; rfl
  · exact pss_cons (ps_if (pt_cmpR op_gt (pe_fld (pv 0) rfl) (pe_gl rfl N.mBest) (nomark _)) (pss_one (ps_ret (pe_lst (pa_cons (pe_gl rfl N.many) pa_nil)))) pss_nil)
      (pss_cons (ps_set (i := 1) scTLeast.nd rfl (Or.inl rfl) (pe_met0 MR X.cl hr (by decide) (pv 0)))
      (pss_cons (ps_set (i := 2) scTLeast.nd rfl (Or.inl rfl) (pe_cal CB hr (by decide) rfl (pa_cons (pv 1) pa_nil)))
      (pss_one (ps_ret (pe_lst (pa_cons (pe_cal CK hr (by decide) rfl (pa_cons (pv 1) (pa_cons (pv 2) pa_nil))) (pa_cons (pv 2) pa_nil)))))))
  · obtain ⟨a, A, rfl, hO, ok, hT, k⟩ := h
    obtain ⟨dx, fs, l, ha, h1, h2, h3, h4, h5⟩ := L.view hO
    have hn8 := ok.n8
    refine q_when (b := decide (6 < A.now.g.n)) (et_is (et_test (ev_op (ev_fld (ev_var rfl) ha X.cl X.nC h1) ev_c rv_I0)) (decide_eq_decide.mpr (by omega))) (fun hb H1 x1 => ?_) (fun hb H1 x1 => ?_)
    · have hb := of_decide_eq_true hb
      have ed : A.does .leastall = (A, Kv404.say (-28)) := if_pos hb
      rw [ed] at k
      exact s_refuse fun p H2 n2 x2 h2 => k.same L hO hT (freshN (ExtN.of x1) n2) (x1.trans x2) h2
    · have hb := of_decide_eq_false hb
      have ed : A.does .leastall = (A, ⟨(Kv404.all A.now.g.n A.now.g.table (Kv404.best A.now.g.n A.now.g.table) : Nat), [Kv404.best A.now.g.n A.now.g.table]⟩) := if_neg hb
      rw [ed] at k
      refine ⟨.ref a, rfl, a, dx, fs, rfl, x1 _ _ ha, h5 _ hr1, a, A, rfl, L.ext hO (ExtN.of x1), ok, fun p H2 hp x2 R => ?_⟩
      have y2 := x1.trans x2
      refine q_asg (v := .int (Kv404.best A.now.g.n A.now.g.table : Int)) (ev_call (ea_cons (ev_var (v := .ref p) rfl) ea_nil) fun H3 x3 Q' q' E' => ⟨p, A.now.g.n, dd A.now.g.n A.now.g.lines, rfl, R.ext x3, hn8, dd_le, fun b hb H4 x4 => by rw [← best_is (tbOf ok) hb]; exact q' H4 x4⟩) fun H3 x3 => ?_
      refine s_retL (xs := nV [Kv404.all A.now.g.n A.now.g.table (Kv404.best A.now.g.n A.now.g.table), Kv404.best A.now.g.n A.now.g.table]) (el_lst (ea_cons (ev_call (ea_cons (ev_var (v := .ref p) rfl) (ea_cons (ev_var (v := .int (Kv404.best A.now.g.n A.now.g.table : Int)) rfl) ea_nil)) fun H4 x4 Q' q' E' => ⟨p, A.now.g.n, Kv404.best A.now.g.n A.now.g.table, dd A.now.g.n A.now.g.lines, rfl, R.ext (x3.trans x4), hn8, dd_le, fun H5 x5 => by rw [← all_eq (tbOf ok)]; exact q' H5 x5⟩) (ea_cons (ev_var rfl) ea_nil)) (by show 2 ≤ 100000; decide)) fun p2 H4 n4 x4 h4 => ?_
      refine k.same L hO hT (freshN (ExtN.of (y2.trans x3)) n4) ((y2.trans x3).trans x4) ?_
      rw [ansV_nums]
      exact h4
/-- tell_worst(self) -/
abbrev nTWorst : List Str := ["self", "worst"]
theorem scTWorst : FnScope nTWorst ["self"] (defScope sTWorst) := ⟨rfl, rfl, rfl, by decide +kernel, rfl, by decide +kernel, by decide +kernel⟩
def t_tworst (K : PySem.W.Frag) (T : List (Addr × Str)) (C : Addr) (O : Rel) : TS := tSeq (tAsg (tCall (spWorst K T) [] E0 (tCons (tRowsM C O) (tCons (tChosenM C O) tNil))) (gName 1)) (tSeq (tIfS (tTest (tOp rIsNone (tVar 1) (tC .non))) (tNo (-33)) tNext)
  (tRet (tOp rCat (tLst (tCons (tC (.int 0)) tNil)) (tCB (rListS K) (tCons (tVar 1) tNil)))))
theorem el_listT {σ : L2.St} {H : Hp} {ta : TE} {p : Addr} {xs : List V} (ha : Ev ta σ H (.ref p)) (h : SqT K H p xs) : EvL (tCB (rListS K) (tCons ta tNil)) σ H xs := fun H1 e Q q =>
  ha H1 e _ fun H2 e2 => ⟨p, xs, rfl, Or.inr (ex_t (e.trans e2) h), fun l hl => q l _ (fresh_back e2 hl) (e2.trans (Ex.new hl)) upd_same⟩
theorem ok_tworst (F : Fun K "tell_worst" "Places.tell_worst" sTWorst f fd) (L : Lies C ms O) (X : Txt K C) (GL : mg "list" = none) (NN : ∃ u, mg "THERE_IS_NONE" = some u ∧ RelV (.int (-33)) u) (hm : ("chosen" : Str) ∈ ms) (hr1 : ("rows" : Str) ∈ ms) (MC : Met P w K mg base C 2 "chosen" (spChosenM O)) (MR : Met P w K mg base C 2 "rows" (spRows O)) (CW : Cal P w K mg base 4 "worst_told" (spWorst K T)) : FnOk P w K mg base CX0 5 f fd ["self"] (spLook0 T O .worst) := by
  refine F.ok scTWorst (fun vs H Q E h => ?_) (fun cdv A outer s H vs Q E hr h => ⟨t_tworst K T C O, ?_, ?_⟩)
  · obtain ⟨a, A, rfl, _⟩ := h; rfl
  · exact pss_cons (ps_set (i := 1) scTWorst.nd rfl (Or.inl rfl) (pe_cal CW hr (by decide) rfl (pa_cons (pe_met0 MR X.cl hr (by decide) (pv 0)) (pa_cons (pe_met0 MC X.cl hr (by decide) (pv 0)) pa_nil))))
      (pss_cons (ps_if (pt_cmpR op_isN (pv 1) pe_non (nomark _)) (pss_one (ps_ret (pe_lst (pa_cons (pe_gl rfl NN) pa_nil)))) pss_nil)
      (pss_one (ps_ret (pe_op op_cat (pe_lst (pa_cons pe_int pa_nil)) (pe_callTy call_list_of (by rfl) GL (by decide +kernel) (pa_cons (pv 1) pa_nil))))))
  · obtain ⟨a, A, rfl, hO, ok, hT, k⟩ := h
    obtain ⟨dx, fs, l, ha, h1, h2, h3, h4, h5⟩ := L.view hO
    have hn8 := ok.n8
    have ed : A.does .worst = match Kv404.worst A.now.g.n A.now.g.table A.now.s with
      | none => (A, Kv404.say (-33))
      | some q => (A, ⟨0, [q.1, q.2.1, q.2.2.1, q.2.2.2]⟩) := rfl
    rw [ed] at k
    refine ⟨.ref a, rfl, a, dx, fs, rfl, ha, h5 _ hr1, a, A, rfl, hO, ok, fun p H2 hp x2 RR => ?_⟩
    refine ⟨.ref a, rfl, a, dx, fs, rfl, x2 _ _ ha, h5 _ hm, a, A, rfl, L.ext hO (ExtN.of x2), ok, fun c H3 hc x3 hc3 => ⟨p, c, A.now.g.n, A.now.s, A.now.g.table, _, rfl, RR.ext x3, sq_of hc3, hn8, tbOf ok, trOf ok, hT.ext (x2.trans x3), fun x H4 e4 T4 hw => ?_⟩⟩
    show tSeq (tIfS (tTest (tOp rIsNone (tVar 1) (tC .non))) (tNo (-33)) tNext) (tRet (tOp rCat (tLst (tCons (tC (.int 0)) tNil)) (tCB (rListS K) (tCons (tVar 1) tNil)))) _ ((start nTWorst [.ref a]).set 1 (some x)) H4
    have eN4 : ExtN H H4 := (ExtN.of (x2.trans x3)).trans e4
    cases et : Kv404.worst A.now.g.n A.now.g.table A.now.s with
    | none =>
      rw [et] at k hw
      have hw : x = .non := hw
      subst hw
      refine q_when (b := true) (et_test (ev_op (ev_var rfl) ev_c rv_none)) (fun _ H5 x5 => ?_) (fun z => Bool.noConfusion z)
      exact s_refuse fun p H6 n6 x6 h6 => RetC.sameN (A := A) (r := Kv404.say (-33)) L k hO (eN4.trans (ExtN.of (x5.trans x6))) ((T4.ext x5).ext x6) (freshN (eN4.trans (ExtN.of x5)) n6) h6
    | some z =>
      rw [et] at k hw
      obtain ⟨_, q, hq, hq4⟩ := hw
      subst hq
      refine q_when (b := false) (et_test (ev_op (ev_var rfl) ev_c rv_none)) (fun z => Bool.noConfusion z) (fun _ H5 x5 => ?_)
      refine s_retL (el_cat (el_lst (vs := nV [0]) (ea_cons ev_c ea_nil) (by show 1 ≤ 100000; decide)) (el_listT (ev_var rfl) (st_of (x5 _ _ hq4))) (by show 1 + 4 ≤ 100000; decide)) fun p H6 n6 x6 h6 => ?_
      refine RetC.sameN (A := A) (r := ⟨((0 : Nat) : Int), [z.1, z.2.1, z.2.2.1, z.2.2.2]⟩) L k hO (eN4.trans (ExtN.of (x5.trans x6))) ((T4.ext x5).ext x6) (freshN (eN4.trans (ExtN.of x5)) n6) ?_
      rw [ansV_nums]
      exact h6
end
end TP

/-! ## Q5 -/
set_option Elab.async false
set_option linter.all false
set_option maxRecDepth 100000
set_option maxHeartbeats 2000000
namespace TP
open PySem PySem.Spec PyProof.Rows L2 Evl KeyL TT LamX
open Kv402 (Line)
open Kv404 (in_ list_ Abs Ans Now State)
abbrev sInit : Stmt := inClass sPlaces 0
abbrev sChange : Stmt := inClass sPlaces 3
abbrev sBegin : Stmt := inClass sPlaces 4
abbrev sBack : Stmt := inClass sPlaces 11
abbrev sTState : Stmt := inClass sPlaces 12
/-! ### the object as it lies -/
def flds (c l s e : V) : List (Str × V) := [("count", c), ("lines", l), ("choice", s), ("earlier", e)]
theorem flds_c (c l s e : V) : (flds c l s e).lookup ("count" : Str) = some c := rfl
theorem flds_l (c l s e : V) : (flds c l s e).lookup ("lines" : Str) = some l := rfl
theorem flds_s (c l s e : V) : (flds c l s e).lookup ("choice" : Str) = some s := rfl
theorem flds_e (c l s e : V) : (flds c l s e).lookup ("earlier" : Str) = some e := rfl
theorem flds_len (c l s e : V) : (flds c l s e).length < 1000 := by show 4 < 1000; decide
theorem put_c (c l s e v : V) : putF "count" v (flds c l s e) = flds v l s e := rfl
theorem put_l (c l s e v : V) : putF "lines" v (flds c l s e) = flds c v s e := rfl
theorem put_s (c l s e v : V) : putF "choice" v (flds c l s e) = flds c l v e := rfl
theorem put_e (c l s e v : V) : putF "earlier" v (flds c l s e) = flds c l s v := rfl
theorem flds_no {c l s e : V} {m : Str} (h : m ∉ (["count", "lines", "choice", "earlier"] : List Str)) : (flds c l s e).lookup m = none := by
  have k : ∀ k : Str, k ∈ (["count", "lines", "choice", "earlier"] : List Str) → (m == k) = false := fun k hk => by
    rw [beq_eq_false_iff_ne]
    exact fun z => h (by rw [z]; exact hk)
  unfold flds
  simp only [List.lookup]
  rw [k "count" (by simp), k "lines" (by simp), k "choice" (by simp), k "earlier" (by simp)]
def PastL (H : Hp) (es : List Addr) (ws : List Now) : Prop := es.length = ws.length ∧ ∀ (i : Nat) (t : Addr) (w : Now), es[i]? = some t → ws[i]? = some w → ∃ l, H t = some (.tup [.ref l, .int (w.s : Int)]) ∧ LinesAt H l w.g.lines
def PastAt (H : Hp) (e : Addr) (ws : List Now) : Prop := ∃ es : List Addr, H e = some (.lst (es.map V.ref)) ∧ PastL H es ws
def ObjAt (C : Addr) : Rel := fun H a A => ∃ (dx l e : Addr), H a = some (.ins C dx (flds (.int (A.now.g.n : Int)) (.ref l) (.int (A.now.s : Int)) (.ref e))) ∧ LinesAt H l A.now.g.lines ∧ PastAt H e A.past.reverse
theorem LinesAt.keep {H H' : Hp} {l : Addr} {s : List Line} (h : LinesAt H l s) (k1 : ∀ xs, H l = some (.lst xs) → H' l = some (.lst xs)) (k2 : ∀ t vs, H t = some (.tup vs) → H' t = some (.tup vs)) : LinesAt H' l s := by
  obtain ⟨ts, h1, h2⟩ := h
  exact ⟨ts, k1 _ h1, h2.1, fun i t ln q1 q2 => k2 _ _ (h2.2 i t ln q1 q2)⟩
theorem PastL.keep {H H' : Hp} {es : List Addr} {ws : List Now} (h : PastL H es ws) (k1 : ∀ l s, LinesAt H l s → LinesAt H' l s) (k2 : ∀ t vs, H t = some (.tup vs) → H' t = some (.tup vs)) : PastL H' es ws :=
  ⟨h.1, fun i t w q1 q2 => by
    obtain ⟨l, h1, h2⟩ := h.2 i t w q1 q2
    exact ⟨l, k2 _ _ h1, k1 _ _ h2⟩⟩
theorem lines_off {H H' : Hp} {g : Addr} (k : OffS g H H') (hl : ∀ l s, LinesAt H l s → l ≠ g) (ht : ∀ t vs, H t = some (.tup vs) → t ≠ g) (l : Addr) (s : List Line) (h : LinesAt H l s) : LinesAt H' l s :=
  h.keep (fun xs q => k _ _ q (hl l s h)) fun t vs q => k _ _ q (ht t vs q)
theorem tup_ne {H : Hp} {g : Addr} {o : HO} (hg : H g = some o) (hno : ∀ vs, o ≠ .tup vs) : ∀ t vs, H t = some (.tup vs) → t ≠ g := fun t vs h z => by
  rw [z, hg] at h
  exact hno vs (Option.some.inj h)
theorem lines_ne {H : Hp} {g : Addr} {o : HO} (hg : H g = some o) (hno : ∀ xs, o ≠ .lst xs) : ∀ l s, LinesAt H l s → l ≠ g := fun l s h z => by
  obtain ⟨ts, h1, _⟩ := h
  rw [z, hg] at h1
  exact hno _ (Option.some.inj h1)
theorem refs_ints {ts : List Addr} {ns : List Int} (h : ts.map V.ref = iV ns) : ns = [] := by
  cases ns with
  | nil => rfl
  | cons y ns =>
    cases ts with
    | nil => cases h
    | cons x ts => cases h
theorem lines_nei {H : Hp} {g : Addr} {ns : List Int} (hg : H g = some (.lst (iV ns))) (hn : ns ≠ []) : ∀ l s, LinesAt H l s → l ≠ g := fun l s h z => by
  obtain ⟨ts, h1, _⟩ := h
  rw [z, hg] at h1
  injection h1 with h1
  injection h1 with h1
  exact hn (refs_ints h1.symm)
/-- the object beside a change elsewhere -/
theorem ObjAt.off {C g a : Addr} {H H' : Hp} {A : Abs} (h : ObjAt C H a A) (k : OffS g H H') (ha : a ≠ g) (hl : ∀ l s, LinesAt H l s → l ≠ g) (ht : ∀ t vs, H t = some (.tup vs) → t ≠ g) (he : ∀ e es ws, H e = some (.lst (es.map V.ref)) → PastL H es ws → e ≠ g) : ObjAt C H' a A := by
  obtain ⟨dx, l, e, h1, h2, es, h3, h4⟩ := h
  exact ⟨dx, l, e, k _ _ h1 ha, lines_off k hl ht _ _ h2, es, k _ _ h3 (he e es _ h3 h4), h4.keep (lines_off k hl ht) fun t vs q => k _ _ q (ht t vs q)⟩
/-- the list of answers changes -/
theorem ObjAt.given {C g a : Addr} {H H' : Hp} {A : Abs} {ns : List Int} (h : ObjAt C H a A) (hg : H g = some (.lst (iV ns))) (hn : ns ≠ []) (k : OffS g H H') : ObjAt C H' a A := by
  refine h.off k ?_ (lines_nei hg hn) (tup_ne hg fun vs z => nomatch z) fun e es ws h1 h2 z => ?_
  · obtain ⟨dx, l, e, h1, _⟩ := h
    exact ne_of h1 hg (by intro z; cases z)
  · rw [z, hg] at h1
    injection h1 with h1
    injection h1 with h1
    exact hn (refs_ints h1.symm)
theorem ObjAt.ext {C a : Addr} {H H' : Hp} {A : Abs} (h : ObjAt C H a A) (k : ExtN H H') : ObjAt C H' a A := by
  obtain ⟨dx, l, e, h1, h2, es, h3, h4⟩ := h
  have kl : ∀ l s, LinesAt H l s → LinesAt H' l s := fun l s q => q.keep (fun xs q => k _ _ q fun _ z => nomatch z) fun t vs q => k _ _ q fun _ z => nomatch z
  exact ⟨dx, l, e, k _ _ h1 (fun _ z => nomatch z), kl _ _ h2, es, k _ _ h3 (fun _ z => nomatch z), h4.keep kl fun t vs q => k _ _ q fun _ z => nomatch z⟩
/-- the names of what the object can do: no field bears one -/
abbrev msAll : List Str := ["rows", "chosen", "change", "begin", "line", "cut", "choose", "turn", "greedy", "best", "back", "tell_state", "tell_lines", "tell_chosen", "tell_nearest", "tell_near", "tell_first", "tell_dist", "tell_told", "tell_knows", "tell_all", "tell_if_chosen", "tell_least_all", "tell_worst"]
theorem ms_no : ∀ m ∈ msAll, m ∉ (["count", "lines", "choice", "earlier"] : List Str) := by decide +kernel
theorem lies (C : Addr) : Lies C msAll (ObjAt C) where
  view := fun h => by
    obtain ⟨dx, l, e, h1, h2, h3⟩ := h
    exact ⟨dx, _, l, h1, rfl, rfl, h2, rfl, fun m hm => flds_no (ms_no m hm)⟩
  ext := fun h e => h.ext e
section
variable {P : Program} {w : World} {K : PySem.W.Frag} {mg : Str → Option Value} {base : Heap} {f : Addr} {fd : FuncData} {T : List (Addr × Str)} {C : Addr}
/-- a store to a field -/
theorem q_fld {σ : L2.St} {H : Hp} {D : Ends} {ta tv : TE} {tz : TS} {a dx : Addr} {fs : List (Str × V)} {x : Str} {v : V} (hv : Ev tv σ H v) (ho : Ev ta σ H (.ref a)) (ha : H a = some (.ins C dx fs)) (c : Cls K C) (n : NoAttr K C x) (hl : fs.length < 1000) (k : ∀ H1, Ex H H1 → tz D σ (upd H1 a (.ins C dx (putF x v fs)))) : tSeq (sFld K ta tv x) tz D σ H :=
  hv H (Ex.refl H) _ fun H1 e1 => ho H1 e1 _ fun H2 e2 => ⟨a, C, dx, fs, rfl, e2 _ _ (e1 _ _ ha), c, n, hl, k H2 (e1.trans e2)⟩
theorem q_fldL {σ : L2.St} {H : Hp} {D : Ends} {ta tv : TE} {tz : TS} {a dx : Addr} {fs : List (Str × V)} {x : Str} {xs : List V} (hv : EvL tv σ H xs) (ho : Ev ta σ H (.ref a)) (ha : H a = some (.ins C dx fs)) (c : Cls K C) (n : NoAttr K C x) (hl : fs.length < 1000) (k : ∀ p H1, H p = none → Ex H H1 → H1 p = some (.lst xs) → tz D σ (upd H1 a (.ins C dx (putF x (.ref p) fs)))) : tSeq (sFld K ta tv x) tz D σ H :=
  hv H (Ex.refl H) _ fun p H1 hp e1 h1 => ho H1 e1 _ fun H2 e2 => ⟨a, C, dx, fs, rfl, e2 _ _ (e1 _ _ ha), c, n, hl, k p H2 hp (e1.trans e2) (e2 _ _ h1)⟩
/-- tell_state(self) -/
theorem scTState : FnScope ["self"] ["self"] (defScope sTState) := ⟨rfl, rfl, rfl, by decide +kernel, rfl, by decide +kernel, by decide +kernel⟩
theorem ok_tstate (F : Fun K "tell_state" "Places.tell_state" sTState f fd) (X : Txt K C) (nE : NoAttr K C "earlier") (G : Glb mg) : FnOk P w K mg base CX0 1 f fd ["self"] (spLook0 T (ObjAt C) .state) := by
  refine F.ok scTState (fun vs H Q E h => ?_) (fun cdv A outer s H vs Q E hr h => ⟨tRet (tLst (tCons (tFld K (tVar 0) "count") (tCons (tLen K (tFld K (tVar 0) "lines")) (tCons (tFld K (tVar 0) "choice") (tCons (tLen K (tFld K (tVar 0) "earlier")) tNil))))), ?_, ?_⟩)
  · obtain ⟨a, A, rfl, _⟩ := h; rfl
  · exact pss_one (ps_ret (pe_lst (pa_cons (pe_fld (pv 0) rfl) (pa_cons (pe_callB call_len_seq (by rfl) G.len boot_len (pa_cons (pe_fld (pv 0) rfl) pa_nil)) (pa_cons (pe_fld (pv 0) rfl) (pa_cons (pe_callB call_len_seq (by rfl) G.len boot_len (pa_cons (pe_fld (pv 0) rfl) pa_nil)) pa_nil))))))
  · obtain ⟨a, A, rfl, hO, ok, hT, k⟩ := h
    obtain ⟨dx, l, e, h1, ⟨ts, hts, hls⟩, es, hes, hps⟩ := id hO
    refine s_retL (xs := nV [A.now.g.n, A.now.g.lines.length, A.now.s, A.past.length]) (el_lst (ea_cons (ev_fld (ev_var rfl) h1 X.cl X.nC rfl) (ea_cons (ev_is (ev_len (ev_fld (ev_var rfl) h1 X.cl X.nL rfl) (sq_of hts)) ?_) (ea_cons (ev_fld (ev_var rfl) h1 X.cl X.nS rfl) (ea_cons (ev_is (ev_len (ev_fld (ev_var rfl) h1 X.cl nE rfl) (sq_of hes)) ?_) ea_nil)))) (by show 4 ≤ 100000; decide)) fun p H1 n1 x1 hp => ?_
    · rw [List.length_map, hls.1]
    · rw [List.length_map, hps.1, List.length_reverse]
    · refine RetC.same (A := A) (r := ⟨(A.now.g.n : Nat), [A.now.g.lines.length, A.now.s, A.past.length]⟩) (lies C) k hO hT (freshN (ExtN.of (Ex.refl H)) n1) x1 ?_
      rw [ansV_nums]
      exact hp
/-- change(self, lines, choice) -/
abbrev nChange : List Str := ["self", "lines", "choice", "earlier"]
theorem scChange : FnScope nChange ["self", "lines", "choice"] (defScope sChange) := ⟨rfl, rfl, rfl, by decide +kernel, rfl, by decide +kernel, by decide +kernel⟩
def t_change (K : PySem.W.Frag) (C : Addr) : TS := tSeq (tAsg (tOp rCat (tFld K (tVar 0) "earlier") (tLst (tCons (tTup (tCons (tFld K (tVar 0) "lines") (tCons (tFld K (tVar 0) "choice") tNil))) tNil))) (gName 3))
  (tSeq (sFld K (tVar 0) (tSl (rSlL K) (tVar 3) (tPart (tUn (rU fun i => .int (-i)) (tC (.int 10)))) tNoPart) "earlier")
  (tSeq (sFld K (tVar 0) (tVar 1) "lines") (tSeq (sFld K (tVar 0) (tVar 2) "choice")
  (tRet (tLst (tCons (tCall spKnown [] E0 (tCons (tRowsM C (ObjAt C)) (tCons (tVar 2) tNil))) tNil))))))
theorem cut_back (xs : List V) : cutV xs (some (-10)) none = xs.drop (xs.length - 10) := by
  unfold cutV
  rw [HT.sIx_none]
  have e : HT.sIx xs.length 0 (some (-10)) = xs.length - 10 := by
    show (if (-10 : Int) < 0 then ((-10 : Int) + (xs.length : Int)).toNat else min (-10 : Int).toNat xs.length) = _
    rw [if_pos (by decide)]
    omega
  rw [e]
  exact List.take_of_length_le (by rw [List.length_drop]; omega)
theorem PastL.drop {H : Hp} {es : List Addr} {ws : List Now} (h : PastL H es ws) (k : Nat) : PastL H (es.drop k) (ws.drop k) := ⟨by rw [List.length_drop, List.length_drop, h.1], fun i t w q1 q2 => by
  rw [List.getElem?_drop] at q1 q2
  exact h.2 _ t w q1 q2⟩
theorem PastL.snoc {H : Hp} {es : List Addr} {ws : List Now} (h : PastL H es ws) {t l : Addr} {w : Now} (ht : H t = some (.tup [.ref l, .int (w.s : Int)])) (hl : LinesAt H l w.g.lines) : PastL H (es ++ [t]) (ws ++ [w]) := ⟨by rw [List.length_append, List.length_append, h.1]; rfl, fun i t' w' q1 q2 => by
  by_cases hi : i < es.length
  · rw [List.getElem?_append_left hi] at q1
    rw [List.getElem?_append_left (by rw [← h.1]; exact hi)] at q2
    exact h.2 i t' w' q1 q2
  · rw [List.getElem?_append_right (by omega)] at q1
    rw [List.getElem?_append_right (by rw [← h.1]; omega), ← h.1] at q2
    have e0 : i - es.length = 0 := by
      have := (List.getElem?_eq_some_iff.mp q1).1
      simp at this
      omega
    rw [e0] at q1 q2
    cases q1
    cases q2
    exact ⟨l, ht, hl⟩⟩
theorem past_to (x : Now) (l : List Now) : ((x :: l).take 10).reverse = (l.reverse ++ [x]).drop ((l.reverse ++ [x]).length - 10) := by
  rw [List.reverse_take, List.reverse_cons, List.length_append, List.length_reverse, List.length_cons, List.length_singleton]
theorem absok_to {A : Abs} {ls : List Line} {s : Nat} (ok : AbsOk A) (h : LinesIn A.now.g.n ls) : AbsOk (A.to_ ⟨⟨A.now.g.n, ls⟩, s⟩).1 := ⟨ok.n1, ok.n8, h, fun w hw => by
  rcases List.mem_cons.mp (List.mem_of_mem_take hw) with rfl | q
  · exact ⟨rfl, ok.lines⟩
  · exact ok.past w q, by
  show ((A.now :: A.past).take 10).length ≤ 10
  rw [List.length_take]; omega⟩
theorem pure_change (X : Txt K C) (nE : NoAttr K C "earlier") (vs : List V) (H : Hp) (Q : VK) (E : XK) (h : spChange (ObjAt C) vs H Q E) : t_change K C { nx := fun _ H' => Q .non H', rt := Q } (start nChange vs) H := by
  obtain ⟨a, l, A, ls, s, rfl, hO, ok, hL, hin, k⟩ := h
  obtain ⟨dx, l0, e0, ha, hl0, es, hes, hps⟩ := id hO
  have hpl := ok.plen
  -- earlier
  refine ⟨.ref a, rfl, a, C, dx, _, .ref e0, rfl, ha, X.cl, nE, rfl, ?_⟩
  have evt : EvA (tCons (tFld K (tVar 0) "lines") (tCons (tFld K (tVar 0) "choice") tNil)) (start nChange [.ref a, .ref l, .int (s : Int)]) H [.ref l0, .int (A.now.s : Int)] := ea_cons (ev_fld (ev_var rfl) ha X.cl X.nL rfl) (ea_cons (ev_fld (ev_var rfl) ha X.cl X.nS rfl) ea_nil)
  refine lst_tup evt (by show 2 ≤ 100000; decide) fun H1 q pl x1 hq hpl1 => ?_
  have x2 : Ex H1 (upd H1 q (.tup [.ref l0, .int (A.now.s : Int)])) := Ex.new hq
  have x3 : Ex (upd H1 q (.tup [.ref l0, .int (A.now.s : Int)])) (upd (upd H1 q (.tup [.ref l0, .int (A.now.s : Int)])) pl (.lst [.ref q])) := Ex.new hpl1
  have hq3 : upd (upd H1 q (.tup [.ref l0, .int (A.now.s : Int)])) pl (.lst [.ref q]) q = some (.tup [.ref l0, .int (A.now.s : Int)]) := x3 _ _ upd_same
  have hpl3 : upd (upd H1 q (.tup [.ref l0, .int (A.now.s : Int)])) pl (.lst [.ref q]) pl = some (.lst [.ref q]) := upd_same
  have y3 : Ex H (upd (upd H1 q (.tup [.ref l0, .int (A.now.s : Int)])) pl (.lst [.ref q])) := x1.trans (x2.trans x3)
  clear x2 x3 hpl1
  revert hq3 hpl3 y3
  generalize upd (upd H1 q (.tup [.ref l0, .int (A.now.s : Int)])) pl (.lst [.ref q]) = H3
  intro hq3 hpl3 y3
  have hlen : es.length = A.past.length := by rw [hps.1, List.length_reverse]
  refine ⟨e0, pl, _, [.ref q], rfl, rfl, y3 _ _ hes, hpl3, sz_of (by rw [List.length_map, hlen]; show _ + 1 ≤ _; omega), fun pc hpc => ?_⟩
  have ec : es.map V.ref ++ [V.ref q] = (es ++ [q]).map V.ref := by rw [List.map_append]; rfl
  rw [ec]
  have x4 : Ex H3 (upd H3 pc (.lst ((es ++ [q]).map V.ref))) := Ex.new hpc
  have hpc4 : upd H3 pc (.lst ((es ++ [q]).map V.ref)) pc = some (.lst ((es ++ [q]).map V.ref)) := upd_same
  revert x4 hpc4
  generalize upd H3 pc (.lst ((es ++ [q]).map V.ref)) = H4
  intro x4 hpc4
  have y4 := y3.trans x4
  show tSeq (sFld K (tVar 0) (tSl (rSlL K) (tVar 3) (tPart (tUn (rU fun i => .int (-i)) (tC (.int 10)))) tNoPart) "earlier")
    (tSeq (sFld K (tVar 0) (tVar 1) "lines") (tSeq (sFld K (tVar 0) (tVar 2) "choice")
    (tRet (tLst (tCons (tCall spKnown [] E0 (tCons (tRowsM C (ObjAt C)) (tCons (tVar 2) tNil))) tNil))))) _ ((start nChange [.ref a, .ref l, .int (s : Int)]).set 3 (some (.ref pc))) H4
  have evs := el_sl (K := K) (σ := (start nChange [.ref a, .ref l, .int (s : Int)]).set 3 (some (.ref pc))) (ev_var (i := 3) rfl) (eo_some (ev_un (ev_c (v := .int 10)) (ru_neg (H := H4)))) eo_none (sq_of hpc4)
  rw [cut_back, List.length_map, ← List.map_drop] at evs
  refine q_fldL evs (ev_var rfl) (y4 _ _ ha) X.cl nE (flds_len _ _ _ _) fun pe H5 hpe x5 h5 => ?_
  rw [put_e]
  have y5 := y4.trans x5
  refine q_fld (v := .ref l) (ev_var rfl) (ev_var rfl) upd_same X.cl X.nL (flds_len _ _ _ _) fun H6 x6 => ?_
  rw [put_l]
  refine q_fld (v := .int (s : Int)) (ev_var rfl) (ev_var rfl) upd_same X.cl X.nS (flds_len _ _ _ _) fun H7 x7 => ?_
  rw [put_s]
  -- what stands now
  have off6 : OffS a H5 H6 := fun b o hb hne => x6 _ _ (by rw [upd_ne hne]; exact hb)
  have off7 : OffS a H5 H7 := fun b o hb hne => x7 _ _ (by rw [upd_ne hne]; exact off6 b o hb hne)
  have off8 : OffS a H5 (upd H7 a (.ins C dx (flds (.int (A.now.g.n : Int)) (.ref l) (.int (s : Int)) (.ref pe)))) := fun b o hb hne => by rw [upd_ne hne]; exact off7 b o hb hne
  have ha8 : upd H7 a (.ins C dx (flds (.int (A.now.g.n : Int)) (.ref l) (.int (s : Int)) (.ref pe))) a = some (.ins C dx (flds (.int (A.now.g.n : Int)) (.ref l) (.int (s : Int)) (.ref pe))) := upd_same
  revert off8 ha8
  generalize upd H7 a (.ins C dx (flds (.int (A.now.g.n : Int)) (.ref l) (.int (s : Int)) (.ref pe))) = H8
  intro off8 ha8
  have ha5 := y5 _ _ ha
  have tn := tup_ne ha5 fun vs z => nomatch z
  have ln := lines_ne ha5 fun vs z => nomatch z
  have O8 : ObjAt C H8 a (A.to_ ⟨⟨A.now.g.n, ls⟩, s⟩).1 := by
    refine ⟨dx, l, pe, ha8, lines_off off8 ln tn _ _ (hL.ext y5), (es ++ [q]).drop ((es ++ [q]).length - 10), off8 _ _ h5 (ne_of h5 ha5 (by intro z; cases z)), ?_⟩
    have p5 : PastL H5 (es ++ [q]) (A.past.reverse ++ [A.now]) := (hps.keep (fun l s q => q.ext y5) fun t vs q => y5 _ _ q).snoc (x5 _ _ (x4 _ _ hq3)) (hl0.ext y5)
    have p6 := p5.drop ((es ++ [q]).length - 10)
    have e10 : (A.to_ ⟨⟨A.now.g.n, ls⟩, s⟩).1.past.reverse = (A.past.reverse ++ [A.now]).drop ((es ++ [q]).length - 10) := by
      show ((A.now :: A.past).take 10).reverse = _
      rw [past_to]
      congr 2
      rw [List.length_append, List.length_append, hps.1]; rfl
    rw [e10]
    exact p6.keep (lines_off off8 ln tn) fun t vs q => off8 _ _ q (tn t vs q)
  have kx : KeepX a H H8 := fun b o hb hne => off8 b o (y5 _ _ hb) hne
  refine s_retL (el_lst (ea_cons (ev_all (lies C) O8 (absok_to ok hin) (by simp) rfl (ev_var rfl)) ea_nil) (by show 1 ≤ 100000; decide)) fun p H9 hp x9 h9 => ?_
  refine k p H9 (fun o ho => ?_) (fun b o hb hne => x9 _ _ (kx b o hb hne)) (O8.ext (ExtN.of x9)) h9
  by_cases hpa : p = a
  · rw [hpa, ha8] at hp; cases hp
  · rw [kx p o ho hpa] at hp; cases hp
theorem ok_change (F : Fun K "change" "Places.change" sChange f fd) (X : Txt K C) (nE : NoAttr K C "earlier") (NB : ∃ u, mg "MOST_TAKEN_BACK" = some u ∧ RelV (.int 10) u) (MR : Met P w K mg base C 2 "rows" (spRows (ObjAt C))) (CK : Cal P w K mg base 3 "known_by_all" spKnown) : FnOk P w K mg base CX0 4 f fd ["self", "lines", "choice"] (spChange (ObjAt C)) := by
  refine F.ok scChange (fun vs H Q E h => ?_) (fun cdv A outer s H vs Q E hr h => ⟨t_change K C, ?_, pure_change X nE vs H Q E h⟩)
  · obtain ⟨a, l, A, ls, s, rfl, _⟩ := h; rfl
  · exact pss_cons (ps_set (i := 3) scChange.nd rfl (Or.inl rfl) (pe_op op_cat (pe_fld (pv 0) rfl) (pe_lst (pa_cons (pe_tup (pa_cons (pe_fld (pv 0) rfl) (pa_cons (pe_fld (pv 0) rfl) pa_nil))) pa_nil))))
      (pss_cons (ps_fld (pv 0) (pe_slice sl_list (pv 3) (po_some (pe_un un_neg (pe_gl rfl NB))) po_none) rfl)
      (pss_cons (ps_fld (pv 0) (pv 1) rfl)
      (pss_cons (ps_fld (pv 0) (pv 2) rfl)
      (pss_one (ps_ret (pe_lst (pa_cons (pe_cal CK hr (by decide) rfl (pa_cons (pe_met0 MR X.cl hr (by decide) (pv 0)) (pa_cons (pv 2) pa_nil))) pa_nil)))))))
end
end TP

/-! ## Q6 -/
set_option Elab.async false
set_option linter.all false
set_option maxRecDepth 100000
set_option maxHeartbeats 2000000
namespace TP
open PySem PySem.Spec PyProof.Rows L2 Evl KeyL TT LamX
open Kv402 (Line)
open Kv404 (in_ list_ Abs Ans Now State)
open Kv404Neutral (step)
/-- the object by its state -/
def StAt (C : Addr) : RelS := fun H a st => match st with
  | none => ∃ (dx : Addr) (l s e : V), H a = some (.ins C dx (flds (.int 0) l s e))
  | some A => ObjAt C H a A ∧ AbsOk A
theorem StAt.ins {C a : Addr} {H : Hp} {st : State} (h : StAt C H a st) : ∃ (dx : Addr) (c l s e : V), H a = some (.ins C dx (flds c l s e)) := by
  cases st with
  | none =>
    obtain ⟨dx, l, s, e, h⟩ := h
    exact ⟨dx, _, l, s, e, h⟩
  | some A =>
    obtain ⟨⟨dx, l, e, h, _⟩, _⟩ := h
    exact ⟨dx, _, _, _, _, h⟩
theorem face (C : Addr) : Face (StAt C) where
  ins := fun h => by
    obtain ⟨dx, c, l, s, e, h⟩ := h.ins
    exact ⟨C, dx, _, h⟩
  ext := fun {H H' a st} h k => by
    cases st with
    | none =>
      obtain ⟨dx, l, s, e, h⟩ := h
      exact ⟨dx, l, s, e, k _ _ h fun _ z => nomatch z⟩
    | some A => exact ⟨h.1.ext k, h.2⟩
  new := fun {H H' a} h k => by
    obtain ⟨dx, l, s, e, h⟩ := h
    exact ⟨dx, l, s, e, by rw [k]; exact h⟩
section
variable {P : Program} {w : World} {K : PySem.W.Frag} {mg : Str → Option Value} {base : Heap} {f : Addr} {fd : FuncData} {T : List (Addr × Str)} {C : Addr}
theorem s_fldL {σ : L2.St} {H : Hp} {D : Ends} {ta tv : TE} {a dx : Addr} {fs : List (Str × V)} {x : Str} {xs : List V} (hv : EvL tv σ H xs) (ho : Ev ta σ H (.ref a)) (ha : H a = some (.ins C dx fs)) (c : Cls K C) (n : NoAttr K C x) (hl : fs.length < 1000) (k : ∀ p H1, H p = none → Ex H H1 → H1 p = some (.lst xs) → D.nx σ (upd H1 a (.ins C dx (putF x (.ref p) fs)))) : sFld K ta tv x D σ H :=
  hv H (Ex.refl H) _ fun p H1 hp e1 h1 => ho H1 e1 _ fun H2 e2 => ⟨a, C, dx, fs, rfl, e2 _ _ (e1 _ _ ha), c, n, hl, k p H2 hp (e1.trans e2) (e2 _ _ h1)⟩
theorem off_step {a : Addr} {H H1 H2 : Hp} {o : HO} (k : OffS a H H1) (e : Ex H1 H2) : OffS a H (upd H2 a o) := fun b u hb hn => by
  rw [upd_ne hn]
  exact e _ _ (k b u hb hn)
/-- __init__(self) -/
theorem scInit : FnScope ["self"] ["self"] (defScope sInit) := ⟨rfl, rfl, rfl, by decide +kernel, rfl, by decide +kernel, by decide +kernel⟩
theorem ok_init (F : Fun K "__init__" "Places.__init__" sInit f fd) (X : Txt K C) (nE : NoAttr K C "earlier") : FnOk P w K mg base CX0 1 f fd ["self"] (spInit C (StAt C)) := by
  refine F.ok scInit (fun vs H Q E h => ?_) (fun cdv A outer s H vs Q E hr h => ⟨tSeq (sFld K (tVar 0) (tC (.int 0)) "count") (tSeq (sFld K (tVar 0) (tLst tNil) "lines") (tSeq (sFld K (tVar 0) (tC (.int 0)) "choice") (sFld K (tVar 0) (tLst tNil) "earlier"))), ?_, ?_⟩)
  · obtain ⟨x, dx, rfl, _⟩ := h; rfl
  · exact pss_cons (ps_fld (pv 0) pe_int rfl) (pss_cons (ps_fld (pv 0) (pe_lst pa_nil) rfl) (pss_cons (ps_fld (pv 0) pe_int rfl) (pss_one (ps_fld (pv 0) (pe_lst pa_nil) rfl))))
  · obtain ⟨x, dx, rfl, hx, k⟩ := h
    refine q_fld ev_c (ev_var rfl) hx X.cl X.nC (by show 0 < 1000; decide) fun H1 x1 => ?_
    have o1 := off_step (a := x) (o := .ins C dx (putF "count" (.int 0) [])) (fun b o hb _ => hb : OffS x H H) x1
    refine q_fldL (el_lst ea_nil (by decide)) (ev_var rfl) upd_same X.cl X.nL (by show 1 < 1000; decide) fun l H2 hl x2 h2 => ?_
    have o2 := off_step (o := .ins C dx (putF "lines" (.ref l) (putF "count" (.int 0) []))) o1 x2
    refine q_fld ev_c (ev_var rfl) upd_same X.cl X.nS (by show 2 < 1000; decide) fun H3 x3 => ?_
    have o3 := off_step (o := .ins C dx (putF "choice" (.int 0) (putF "lines" (.ref l) (putF "count" (.int 0) [])))) o2 x3
    refine s_fldL (el_lst ea_nil (by decide)) (ev_var rfl) upd_same X.cl nE (by show 3 < 1000; decide) fun e H4 he x4 h4 => ?_
    exact k _ (off_step o3 x4) ⟨dx, .ref l, .int 0, .ref e, upd_same⟩
/-! ### begin -/
theorem act_bad (st : State) {n : Nat} (h : n = 0 ∨ 8 < n) : Kv404.act st (.begin_ n) = (st, Kv404.say (-22)) := by
  cases st with
  | none =>
    have e : (Kv404.begun 1).does (.begin_ n) = (Kv404.begun 1, Kv404.say (-22)) := if_pos h
    show (if ((Kv404.begun 1).does (.begin_ n)).2.ret < 0 then ((none : State), ((Kv404.begun 1).does (.begin_ n)).2) else (some ((Kv404.begun 1).does (.begin_ n)).1, ((Kv404.begun 1).does (.begin_ n)).2)) = _
    rw [e]; rfl
  | some A =>
    have e : A.does (.begin_ n) = (A, Kv404.say (-22)) := if_pos h
    show (some (A.does (.begin_ n)).1, (A.does (.begin_ n)).2) = _
    rw [e]
theorem act_ok (st : State) {n : Nat} (h : ¬ (n = 0 ∨ 8 < n)) : Kv404.act st (.begin_ n) = (some (Kv404.begun n), Kv404.say 0) := by
  cases st with
  | none =>
    have e : (Kv404.begun 1).does (.begin_ n) = (Kv404.begun n, Kv404.say 0) := if_neg h
    show (if ((Kv404.begun 1).does (.begin_ n)).2.ret < 0 then ((none : State), ((Kv404.begun 1).does (.begin_ n)).2) else (some ((Kv404.begun 1).does (.begin_ n)).1, ((Kv404.begun 1).does (.begin_ n)).2)) = _
    rw [e]; rfl
  | some A =>
    have e : A.does (.begin_ n) = (Kv404.begun n, Kv404.say 0) := if_neg h
    show (some (A.does (.begin_ n)).1, (A.does (.begin_ n)).2) = _
    rw [e]
/-- what a call by its state promises -/
def RetS (T : List (Addr × Str)) (RS : RelS) (a : Addr) (st : State) (B : State × Ans) (H : Hp) (Q : VK) : Prop := ∀ r H', FreshN H r → Keep a H H' → Tabs T H' → H' r = some (.lst (ansV B.2)) → RS H' a B.1 →
    (∀ g ns, H g = some (.lst (iV ns)) → (ns = [] → st = none) → ∀ H2, OffS g H' H2 → RS H2 a B.1) → Q (.ref r) H'
theorem stAt_off {a g : Addr} {H H' : Hp} {st : State} {ns : List Int} (h : StAt C H a st) (hg : H g = some (.lst (iV ns))) (hn : ns = [] → st = none) (k : OffS g H H') : StAt C H' a st := by
  cases st with
  | none =>
    obtain ⟨dx, l, s, e, h⟩ := h
    exact ⟨dx, l, s, e, k _ _ h (ne_of h hg (by intro z; cases z))⟩
  | some A => exact ⟨h.1.given hg (fun z => by cases hn z) k, h.2⟩
/-- a call that leaves all as it was -/
theorem RetS.same {a p : Addr} {st : State} {r : Ans} {H H' : Hp} {Q : VK} (k : RetS T (StAt C) a st (st, r) H Q) (hS : StAt C H a st) (hT : Tabs T H) (n : FreshN H p) (e : Ex H H') (h : H' p = some (.lst (ansV r))) : Q (.ref p) H' := by
  have S' := (face C).ext hS (ExtN.of e)
  exact k p H' n (fun b o hb _ _ _ => e b o hb) (hT.ext e) h S' fun g ns hg hn H2 o2 => stAt_off S' (e _ _ hg) hn o2
/-- begin(self, n) -/
def spBegin (T : List (Addr × Str)) (C : Addr) : Sp := fun vs H Q _ => ∃ (a : Addr) (st : State) (n : Nat), vs = [.ref a, .int (n : Int)] ∧ StAt C H a st ∧ Tabs T H ∧ RetS T (StAt C) a st (Kv404.act st (.begin_ n)) H Q
theorem scBegin : FnScope ["self", "n"] ["self", "n"] (defScope sBegin) := ⟨rfl, rfl, rfl, by decide +kernel, rfl, by decide +kernel, by decide +kernel⟩
def t_begin (K : PySem.W.Frag) : TS := tSeq (tIfS (tOr (tTest (tOp tLt (tVar 1) (tC (.int 1)))) (tTest (tOp rGt (tVar 1) (tC (.int 8))))) (tNo (-22)) tNext)
  (tSeq (sFld K (tVar 0) (tVar 1) "count") (tSeq (sFld K (tVar 0) (tLst tNil) "lines") (tSeq (sFld K (tVar 0) (tC (.int 0)) "choice") (tSeq (sFld K (tVar 0) (tLst tNil) "earlier") (tRet (tLst (tCons (tC (.int 0)) tNil)))))))
theorem begun_ok {n : Nat} (h : ¬ (n = 0 ∨ 8 < n)) : AbsOk (Kv404.begun n) := ⟨by show 1 ≤ n; omega, by show n ≤ 8; omega, LinesIn.nil n, (fun w hw => by cases hw), (by show 0 ≤ 10; decide)⟩
theorem tabs_offI {a dx : Addr} {fs : List (Str × V)} {H H' : Hp} (hT : Tabs T H) (ha : H a = some (.ins C dx fs)) (k : OffS a H H') : Tabs T H' := tabs_keepX hT ha k
theorem ok_begin (F : Fun K "begin" "Places.begin" sBegin f fd) (X : Txt K C) (nE : NoAttr K C "earlier") (N : Num mg) (NP : ∃ u, mg "MOST_PLACES" = some u ∧ RelV (.int 8) u) : FnOk P w K mg base CX0 1 f fd ["self", "n"] (spBegin T C) := by
  refine F.ok scBegin (fun vs H Q E h => ?_) (fun cdv A outer s H vs Q E hr h => ⟨t_begin K, ?_, ?_⟩)
  · obtain ⟨a, st, n, rfl, _⟩ := h; rfl
  · exact pss_cons (ps_if (PW.pt (pw_or (pt_cmpR op_lt (pv 1) pe_int (nomark _)) (pw_or1 (pt_cmpR op_gt (pv 1) (pe_gl rfl NP) (nomark _))))) (pss_one (ps_ret (pe_lst (pa_cons (pe_gl rfl N.range) pa_nil)))) pss_nil)
      (pss_cons (ps_fld (pv 0) (pv 1) rfl) (pss_cons (ps_fld (pv 0) (pe_lst pa_nil) rfl) (pss_cons (ps_fld (pv 0) pe_int rfl) (pss_cons (ps_fld (pv 0) (pe_lst pa_nil) rfl)
      (pss_one (ps_ret (pe_lst (pa_cons pe_int pa_nil))))))))
  · obtain ⟨a, st, n, rfl, hS, hT, k⟩ := h
    refine q_when (b := decide (n < 1) || decide (8 < n)) (et_or (et_is (et_test (ev_op (ev_var rfl) ev_c rv_I0)) (decide_eq_decide.mpr (by omega))) (fun _ => et_is (et_test (ev_op (ev_var rfl) ev_c rv_I0)) (decide_eq_decide.mpr (by omega)))) (fun hb H1 x1 => ?_) (fun hb H1 x1 => ?_)
    · have hb : n = 0 ∨ 8 < n := by
        simp only [Bool.or_eq_true, decide_eq_true_eq] at hb
        omega
      rw [act_bad st hb] at k
      exact s_refuse fun p H2 n2 x2 h2 => k.same hS hT (freshN (ExtN.of x1) n2) (x1.trans x2) h2
    · have hb : ¬ (n = 0 ∨ 8 < n) := by
        simp only [Bool.or_eq_false_iff, decide_eq_false_iff_not] at hb
        omega
      rw [act_ok st hb] at k
      obtain ⟨dx, c0, l0, s0, e0, ha⟩ := hS.ins
      have o1 : OffS a H H1 := fun b o hb _ => x1 _ _ hb
      refine q_fld (v := .int (n : Int)) (ev_var rfl) (ev_var rfl) (x1 _ _ ha) X.cl X.nC (flds_len _ _ _ _) fun H2 x2 => ?_
      rw [put_c]
      have o2 := off_step (o := .ins C dx (flds (.int (n : Int)) l0 s0 e0)) o1 x2
      refine q_fldL (el_lst ea_nil (by decide)) (ev_var rfl) upd_same X.cl X.nL (flds_len _ _ _ _) fun l H3 hl x3 h3 => ?_
      rw [put_l]
      have nl : ∀ b o, H b = some o → b ≠ l := fun b o hb' z => by
        subst z
        by_cases hba : b = a
        · rw [hba, upd_same] at hl; cases hl
        · rw [o2 b o hb' hba] at hl; cases hl
      have o3 := off_step (o := .ins C dx (flds (.int (n : Int)) (.ref l) s0 e0)) o2 x3
      refine q_fld (v := .int 0) ev_c (ev_var rfl) upd_same X.cl X.nS (flds_len _ _ _ _) fun H4 x4 => ?_
      rw [put_s]
      have o4 := off_step (o := .ins C dx (flds (.int (n : Int)) (.ref l) (.int 0) e0)) o3 x4
      refine q_fldL (el_lst ea_nil (by decide)) (ev_var rfl) upd_same X.cl nE (flds_len _ _ _ _) fun e H5 he x5 h5 => ?_
      rw [put_e]
      have ne : ∀ b o, H b = some o → b ≠ e := fun b o hb' z => by
        subst z
        by_cases hba : b = a
        · rw [hba, upd_same] at he; cases he
        · rw [o4 b o hb' hba] at he; cases he
      have o5 := off_step (o := .ins C dx (flds (.int (n : Int)) (.ref l) (.int 0) (.ref e))) o4 x5
      have nla : l ≠ a := (nl a _ ha).symm
      have nea : e ≠ a := (ne a _ ha).symm
      refine s_retL (el_lst (ea_cons (ev_c (v := .int 0)) ea_nil) (by show 1 ≤ 100000; decide)) fun p H6 hp x6 h6 => ?_
      have o6 : OffS a H H6 := fun b o hb' hn => x6 _ _ (o5 b o hb' hn)
      have ha6 : H6 a = some (.ins C dx (flds (.int (n : Int)) (.ref l) (.int 0) (.ref e))) := x6 _ _ upd_same
      have hl6 : H6 l = some (.lst []) := x6 _ _ (by
        rw [upd_ne nla]
        refine x5 _ _ ?_
        rw [upd_ne nla]
        refine x4 _ _ ?_
        rw [upd_ne nla]
        exact h3)
      have he6 : H6 e = some (.lst []) := x6 _ _ (by rw [upd_ne nea]; exact h5)
      have mk : ∀ H7, H7 a = H6 a → H7 l = H6 l → H7 e = H6 e → StAt C H7 a (some (Kv404.begun n)) := fun H7 q1 q2 q3 => ⟨⟨dx, l, e, by rw [q1]; exact ha6, ⟨[], by rw [q2]; exact hl6, rfl, fun i t ln z => by cases z⟩, [], by rw [q3]; exact he6, rfl, fun i t ln z => by cases z⟩, begun_ok hb⟩
      refine k p H6 (fun o ho => ?_) (fun b o hb' hn _ _ => o6 b o hb' hn) (tabs_offI hT ha o6) h6 (mk H6 rfl rfl rfl) fun g ns hg _ H7 o7 => mk H7 ?_ ?_ ?_
      · by_cases hpa : p = a
        · rw [hpa, upd_same] at hp; cases hp
        · rw [o5 p o ho hpa] at hp; cases hp
      · rw [ha6]; exact o7 _ _ ha6 (ne_of ha hg (by intro z; cases z))
      · rw [hl6]; exact o7 _ _ hl6 (nl g _ hg).symm
      · rw [he6]; exact o7 _ _ he6 (ne g _ hg).symm
/-! ### back -/
theorem past_ne {H : Hp} {e : Addr} {es : List Addr} {ws : List Now} (he : H e = some (.lst (es.map V.ref))) (hp : PastL H es ws) (hn : es ≠ []) : ∀ l s, LinesAt H l s → l ≠ e := fun l s h z => by
  obtain ⟨ts, h1, h2⟩ := h
  rw [z, he] at h1
  injection h1 with h1
  injection h1 with h1
  have ee : es = ts := by
    have inj : ∀ (xs ys : List Addr), xs.map V.ref = ys.map V.ref → xs = ys := fun xs => by
      induction xs with
      | nil => intro ys q; cases ys with
        | nil => rfl
        | cons _ _ => cases q
      | cons x xs ih => intro ys q; cases ys with
        | nil => cases q
        | cons y ys =>
          rw [List.map_cons, List.map_cons] at q
          injection q with q1 q2
          injection q1 with q1
          rw [q1, ih ys q2]
    exact inj _ _ h1
  subst ee
  cases es with
  | nil => exact hn rfl
  | cons t es =>
    cases ws with
    | nil => exact absurd hp.1 (by simp)
    | cons w ws =>
      cases s with
      | nil => exact absurd h2.1 (by simp)
      | cons ln s =>
        obtain ⟨l', q1, _⟩ := hp.2 0 t w rfl rfl
        have q2 := h2.2 0 t ln rfl rfl
        rw [q1] at q2
        injection q2 with q2
        injection q2 with q2
        exact absurd (congrArg List.length q2) (by show ¬ (2 = 3); decide)
abbrev nBack : List Str := ["self", "ahead"]
theorem scBack : FnScope nBack ["self"] (defScope sBack) := ⟨rfl, rfl, rfl, by decide +kernel, rfl, by decide +kernel, by decide +kernel⟩
def t_back (K : PySem.W.Frag) : TS := tSeq (tIfS (tTest (tOp rEq (tLen K (tFld K (tVar 0) "earlier")) (tC (.int 0)))) (tNo (-6)) tNext) (tSeq (tAsg (tBM0 K "list" rPop (tFld K (tVar 0) "earlier")) (gName 1))
  (tSeq (sFld K (tVar 0) (tOp (rIxT K) (tVar 1) (tC (.int 0))) "lines") (tSeq (sFld K (tVar 0) (tOp (rIxT K) (tVar 1) (tC (.int 1))) "choice") (tRet (tLst (tCons (tLen K (tFld K (tVar 0) "earlier")) tNil))))))
theorem absok_back {w : Now} {l : List Now} {A : Abs} (ok : AbsOk A) (h : A.past = w :: l) : AbsOk ⟨w, l⟩ := by
  have h1 := ok.past w (by rw [h]; exact List.mem_cons_self)
  refine ⟨?_, ?_, ?_, fun w' hw' => ?_, ?_⟩
  · show 1 ≤ w.g.n; rw [h1.1]; exact ok.n1
  · show w.g.n ≤ 8; rw [h1.1]; exact ok.n8
  · show LinesIn w.g.n w.g.lines; rw [h1.1]; exact h1.2
  · have h2 := ok.past w' (by rw [h]; exact List.mem_cons_of_mem _ hw')
    show w'.g.n = w.g.n ∧ LinesIn w.g.n w'.g.lines
    rw [h1.1]; exact h2
  · have := ok.plen
    rw [h, List.length_cons] at this
    show l.length ≤ 10; omega
theorem ok_back (F : Fun K "back" "Places.back" sBack f fd) (X : Txt K C) (nE : NoAttr K C "earlier") (G : Glb mg) (NC : ∃ u, mg "NO_CHANGE" = some u ∧ RelV (.int (-6)) u) : FnOk P w K mg base CX0 1 f fd ["self"] (spLook0 T (ObjAt C) .back) := by
  refine F.ok scBack (fun vs H Q E h => ?_) (fun cdv A outer s H vs Q E hr h => ⟨t_back K, ?_, ?_⟩)
  · obtain ⟨a, A, rfl, _⟩ := h; rfl
  · exact pss_cons (ps_if (pt_cmpR op_eq (pe_callB call_len_seq (by rfl) G.len boot_len (pa_cons (pe_fld (pv 0) rfl) pa_nil)) pe_int (nomark _)) (pss_one (ps_ret (pe_lst (pa_cons (pe_gl rfl NC) pa_nil)))) pss_nil)
      (pss_cons (ps_set (i := 1) scBack.nd rfl (Or.inl rfl) (pe_bm0 PySem.F.plainAttrs_list PySem.F.slot_list_pop PySem.F.type_list_pop mt_pop (pe_fld (pv 0) rfl)))
      (pss_cons (ps_fld (pv 0) (pe_ix ix_tup (pv 1) pe_int (fun _ _ => rfl)) rfl) (pss_cons (ps_fld (pv 0) (pe_ix ix_tup (pv 1) pe_int (fun _ _ => rfl)) rfl)
      (pss_one (ps_ret (pe_lst (pa_cons (pe_callB call_len_seq (by rfl) G.len boot_len (pa_cons (pe_fld (pv 0) rfl) pa_nil)) pa_nil)))))))
  · obtain ⟨a, A, rfl, hO, ok, hT, k⟩ := h
    obtain ⟨dx, l0, e, ha, hl0, es, hes, hps⟩ := id hO
    have ll : (es.map V.ref).length = A.past.length := by rw [List.length_map, hps.1, List.length_reverse]
    refine q_when (b := decide (A.past.length = 0)) (et_is (et_test (ev_op (ev_len (ev_fld (ev_var rfl) ha X.cl nE rfl) (sq_of hes)) ev_c (rv_eq rfl))) (by rw [ll]; exact decide_eq_decide.mpr ⟨fun q => by injection q with q; omega, fun q => by rw [q]; rfl⟩)) (fun hb H1 x1 => ?_) (fun hb H1 x1 => ?_)
    · have hb := of_decide_eq_true hb
      have hnil : A.past = [] := List.eq_nil_of_length_eq_zero hb
      have ed : A.does .back = (A, Kv404.say (-6)) := by
        show (match A.past with | [] => (A, Kv404.say (-6)) | w :: l => ((⟨w, l⟩ : Abs), Kv404.num l.length)) = _
        rw [hnil]
      rw [ed] at k
      exact s_refuse fun p H2 n2 x2 h2 => k.same (lies C) hO hT (freshN (ExtN.of x1) n2) (x1.trans x2) h2
    · have hb := of_decide_eq_false hb
      obtain ⟨wn, lp, hpast⟩ : ∃ wn lp, A.past = wn :: lp := by
        cases hp : A.past with
        | nil => rw [hp] at hb; exact absurd rfl hb
        | cons wn lp => exact ⟨wn, lp, rfl⟩
      have ed : A.does .back = (⟨wn, lp⟩, Kv404.num lp.length) := by
        show (match A.past with | [] => (A, Kv404.say (-6)) | w :: l => ((⟨w, l⟩ : Abs), Kv404.num l.length)) = _
        rw [hpast]
      rw [ed] at k
      have ok2 := absok_back ok hpast
      have hwn : wn.g.n = A.now.g.n := (ok.past wn (by rw [hpast]; exact List.mem_cons_self)).1
      rw [hpast, List.reverse_cons] at hps
      rw [hpast, List.length_cons] at ll
      -- the last of earlier
      have hel : es.length = lp.length + 1 := by rw [List.length_map] at ll; exact ll
      have hne : es ≠ [] := fun z => by rw [z] at hel; cases hel
      obtain ⟨es', t, rfl⟩ : ∃ es' t, es = es' ++ [t] := ⟨es.dropLast, es.getLast hne, (List.dropLast_concat_getLast hne).symm⟩
      have hel' : es'.length = lp.length := by rw [List.length_append] at hel; simp at hel; exact hel
      obtain ⟨l1, ht, hl1⟩ := hps.2 lp.length t wn (by rw [List.getElem?_append_right (by omega), hel']; simp) (by rw [List.getElem?_append_right (by rw [List.length_reverse]; omega), List.length_reverse]; simp)
      have hps' : PastL H es' lp.reverse := ⟨by rw [hel', List.length_reverse], fun i t' w' q1 q2 => by
        have hi : i < es'.length := (List.getElem?_eq_some_iff.mp q1).1
        exact hps.2 i t' w' (by rw [List.getElem?_append_left hi]; exact q1) (by rw [List.getElem?_append_left (by rw [List.length_reverse]; omega)]; exact q2)⟩
      have eml : ((es' ++ [t]).map V.ref).length - 1 = es'.length := by rw [List.length_map, List.length_append]; simp
      refine ⟨.ref a, rfl, a, C, dx, _, .ref e, rfl, x1 _ _ ha, X.cl, nE, rfl, Or.inl ⟨rfl, _, sq_of (x1 _ _ hes)⟩, e, _, .ref t, rfl, rfl, x1 _ _ hes, by rw [eml, List.map_append, List.getElem?_append_right (by rw [List.length_map]; exact Nat.le_refl _), List.length_map, Nat.sub_self]; rfl, ?_⟩
      have edl : ((es' ++ [t]).map V.ref).dropLast = es'.map V.ref := by rw [List.map_append]; simp
      rw [edl]
      have nea : e ≠ a := ne_of hes ha (by intro z; cases z)
      -- what stands elsewhere
      have off1 : OffS e H (upd H1 e (.lst (es'.map V.ref))) := fun b o hb' hn => by rw [upd_ne hn]; exact x1 _ _ hb'
      have he1 : upd H1 e (.lst (es'.map V.ref)) e = some (.lst (es'.map V.ref)) := upd_same
      revert off1 he1
      generalize upd H1 e (.lst (es'.map V.ref)) = H2
      intro off1 he1
      show tSeq (sFld K (tVar 0) (tOp (rIxT K) (tVar 1) (tC (.int 0))) "lines") (tSeq (sFld K (tVar 0) (tOp (rIxT K) (tVar 1) (tC (.int 1))) "choice") (tRet (tLst (tCons (tLen K (tFld K (tVar 0) "earlier")) tNil)))) _ ((start nBack [.ref a]).set 1 (some (.ref t))) H2
      have tn := tup_ne hes fun vs z => nomatch z
      have ln := past_ne hes hps (by simp)
      have ha2 := off1 _ _ ha nea.symm
      have ht2 := off1 _ _ ht (tn _ _ ht)
      refine q_fld (v := .ref l1) (ev_op (ev_var rfl) ev_c (rv_ixT (st_of ht2) rfl)) (ev_var rfl) ha2 X.cl X.nL (flds_len _ _ _ _) fun H3 x3 => ?_
      rw [put_l]
      have hta : t ≠ a := ne_of ht ha (by intro z; cases z)
      refine q_fld (v := .int (wn.s : Int)) (ev_op (ev_var rfl) ev_c (rv_ixT (st_of (by rw [upd_ne hta]; exact x3 _ _ ht2)) rfl)) (ev_var rfl) upd_same X.cl X.nS (flds_len _ _ _ _) fun H4 x4 => ?_
      rw [put_s]
      have off4 : OffS a H2 (upd H4 a (.ins C dx (flds (.int (A.now.g.n : Int)) (.ref l1) (.int (wn.s : Int)) (.ref e)))) := off_step (off_step (fun b o hb' _ => hb') x3) x4
      have ha4 : upd H4 a (.ins C dx (flds (.int (A.now.g.n : Int)) (.ref l1) (.int (wn.s : Int)) (.ref e))) a = some (.ins C dx (flds (.int (A.now.g.n : Int)) (.ref l1) (.int (wn.s : Int)) (.ref e))) := upd_same
      revert off4 ha4
      generalize upd H4 a (.ins C dx (flds (.int (A.now.g.n : Int)) (.ref l1) (.int (wn.s : Int)) (.ref e))) = H5
      intro off4 ha4
      have offB : ∀ b o, H b = some o → b ≠ e → b ≠ a → H5 b = some o := fun b o hb' h1 h2 => off4 _ _ (off1 _ _ hb' h1) h2
      have tna := tup_ne ha fun vs z => nomatch z
      have lna := lines_ne ha fun vs z => nomatch z
      have kl : ∀ l s, LinesAt H l s → LinesAt H5 l s := fun l s q => q.keep (fun xs z => offB _ _ z (ln l s q) (lna l s q)) fun t vs z => offB _ _ z (tn t vs z) (tna t vs z)
      have he5 : H5 e = some (.lst (es'.map V.ref)) := off4 _ _ he1 nea
      have O5 : ObjAt C H5 a ⟨wn, lp⟩ := ⟨dx, l1, e, by rw [ha4]; show some (HO.ins C dx (flds (.int (A.now.g.n : Int)) _ _ _)) = some (HO.ins C dx (flds (.int (wn.g.n : Int)) _ _ _)); rw [hwn], kl _ _ hl1, es', he5, hps'.keep kl fun t vs z => offB _ _ z (tn t vs z) (tna t vs z)⟩
      refine s_retL (xs := [.int (lp.length : Int)]) (el_lst (ea_cons (ev_is (ev_len (ev_fld (ev_var rfl) ha4 X.cl nE rfl) (sq_of he5)) (by rw [List.length_map, hel'])) ea_nil) (by show 1 ≤ 100000; decide)) fun p H6 hp x6 h6 => ?_
      have T2 : Tabs T H2 := tabs_off hT hes off1
      refine k p H6 (fun o ho => ?_) (fun b o hb' hn _ hnr => x6 _ _ (offB b o hb' (fun z => ?_) hn)) ((tabs_offI T2 ha2 off4).ext x6) (O5.ext (ExtN.of x6)) h6
      · by_cases hpa : p = a
        · rw [hpa, ha4] at hp; cases hp
        · by_cases hpe : p = e
          · rw [hpe, he5] at hp; cases hp
          · rw [offB p o ho hpe hpa] at hp; cases hp
      · subst z
        rw [hes] at hb'
        exact absurd (hnr (es' ++ [t]) (Option.some.inj hb').symm) (by simp)
end
end TP

/-! ## Q7 -/
set_option Elab.async false
set_option linter.all false
set_option maxRecDepth 100000
set_option maxHeartbeats 2000000
namespace TP
open PySem PySem.Spec PyProof.Rows L2 Evl KeyL TT LamX
open Kv402 (Line)
open Kv404 (in_ list_ Abs Ans Now State)
open Kv404Neutral (step callOf)
abbrev sChanged : Stmt := top 48
abbrev sOver : Stmt := top 49
abbrev sAt : Stmt := top 50
abbrev sAnswered : Stmt := top 51
/-! ### what holds of the state stays -/
theorem absok_does {A : Abs} (ok : AbsOk A) (c : Kv404.Call) : AbsOk (A.does c).1 := by
  cases c with
  | begin_ n =>
    show AbsOk (if n = 0 ∨ 8 < n then (A, Kv404.say (-22)) else (Kv404.begun n, Kv404.say 0)).1
    split
    · exact ok
    · rename_i h; exact begun_ok h
  | line x y z =>
    by_cases h1 : A.now.g.n ≤ x ∨ A.now.g.n ≤ y
    · have e : A.does (.line x y z) = (A, Kv404.say (-2)) := if_pos h1
      rw [e]; exact ok
    · by_cases h2 : x = y ∨ z = 0 ∨ 99 < z
      · have e : A.does (.line x y z) = (A, Kv404.say (-22)) := (if_neg h1).trans (if_pos h2)
        rw [e]; exact ok
      · by_cases h3 : 14 ≤ (A.now.g.lines.filter fun m => !Kv402.ends m x y).length
        · have e : A.does (.line x y z) = (A, Kv404.say (-28)) := (if_neg h1).trans ((if_neg h2).trans (if_pos h3))
          rw [e]; exact ok
        · have e : A.does (.line x y z) = A.to_ ⟨⟨A.now.g.n, Kv402.put ⟨min x y, max x y, z⟩ (A.now.g.lines.filter fun m => !Kv402.ends m x y)⟩, A.now.s⟩ := (if_neg h1).trans ((if_neg h2).trans (if_neg h3))
          rw [e]
          exact absok_to ok (ok.lines.put (by omega) (by omega) (fun q => h2 (.inl q)) (by omega) (by omega) (by omega))
  | cut i =>
    show AbsOk (if A.now.g.lines.length ≤ i then (A, Kv404.say (-2)) else A.to_ ⟨⟨A.now.g.n, A.now.g.lines.eraseIdx i⟩, A.now.s⟩).1
    split
    · exact ok
    · exact absok_to ok (ok.lines.sub (List.eraseIdx_sublist ..))
  | choose s =>
    show AbsOk (if 2 ^ A.now.g.n ≤ s then (A, Kv404.say (-22)) else A.to_ ⟨⟨A.now.g.n, A.now.g.lines⟩, s⟩).1
    split
    · exact ok
    · exact absok_to ok ok.lines
  | turn v =>
    show AbsOk (if A.now.g.n ≤ v then (A, Kv404.say (-2)) else A.to_ ⟨⟨A.now.g.n, A.now.g.lines⟩, if in_ A.now.s v then A.now.s - 2 ^ v else A.now.s + 2 ^ v⟩).1
    split
    · exact ok
    · exact absok_to ok ok.lines
  | greedy k =>
    show AbsOk (if k = 0 ∨ 8 < k then (A, Kv404.say (-22)) else A.to_ ⟨⟨A.now.g.n, A.now.g.lines⟩, Kv404.greedy A.now.g.n A.now.g.table k A.now.g.n 0⟩).1
    split
    · exact ok
    · exact absok_to ok ok.lines
  | best =>
    show AbsOk (if 6 < A.now.g.n then (A, Kv404.say (-28)) else A.to_ ⟨⟨A.now.g.n, A.now.g.lines⟩, Kv404.best A.now.g.n A.now.g.table⟩).1
    split
    · exact ok
    · exact absok_to ok ok.lines
  | lines => exact ok
  | chosen => exact ok
  | nearest v => simp only [Abs.does]; split; exact ok; split <;> exact ok
  | near v => simp only [Abs.does]; split <;> exact ok
  | dist u v => simp only [Abs.does]; split; exact ok; split <;> exact ok
  | told u v => simp only [Abs.does]; split; exact ok; split <;> exact ok
  | knows v => simp only [Abs.does]; split <;> exact ok
  | all => exact ok
  | ifchosen s => simp only [Abs.does]; split <;> exact ok
  | first v k => simp only [Abs.does]; split; exact ok; split <;> exact ok
  | worst => simp only [Abs.does]; split <;> exact ok
  | leastall => simp only [Abs.does]; split <;> exact ok
  | back =>
    cases hp : A.past with
    | nil =>
      have ed : A.does .back = (A, Kv404.say (-6)) := by
        show (match A.past with | [] => (A, Kv404.say (-6)) | w :: l => ((⟨w, l⟩ : Abs), Kv404.num l.length)) = _
        rw [hp]
      rw [ed]; exact ok
    | cons wn lp =>
      have ed : A.does .back = (⟨wn, lp⟩, Kv404.num lp.length) := by
        show (match A.past with | [] => (A, Kv404.say (-6)) | w :: l => ((⟨w, l⟩ : Abs), Kv404.num l.length)) = _
        rw [hp]
      rw [ed]; exact absok_back ok hp
  | state => exact ok
theorem step_of {st : State} {x : List (List Int)} {c : Kv404.Call} (h : callOf x = some c) : step st x = ((Kv404.act st c).1, Kv404Neutral.row (Kv404.act st c).2) := by
  unfold Kv404Neutral.step
  rw [h]
theorem call_ex (p : Nat) (args : List Nat) (hp : p ≤ 20) : ∃ c, callOf [(p : Int) :: up args] = some c := by
  have : p = 0 ∨ p = 1 ∨ p = 2 ∨ p = 3 ∨ p = 4 ∨ p = 5 ∨ p = 6 ∨ p = 7 ∨ p = 8 ∨ p = 9 ∨ p = 10 ∨ p = 11 ∨ p = 12 ∨ p = 13 ∨ p = 14 ∨ p = 15 ∨ p = 16 ∨ p = 17 ∨ p = 18 ∨ p = 19 ∨ p = 20 := by omega
  rcases this with h | h | h | h | h | h | h | h | h | h | h | h | h | h | h | h | h | h | h | h | h <;> subst h <;> exact ⟨_, rfl⟩
theorem act_none (p : Nat) (args : List Nat) (hp : p ≤ 20) (h0 : p ≠ 0) {c : Kv404.Call} (h : callOf [(p : Int) :: up args] = some c) : Kv404.act none c = (none, Kv404.say (-11)) := by
  have : p = 1 ∨ p = 2 ∨ p = 3 ∨ p = 4 ∨ p = 5 ∨ p = 6 ∨ p = 7 ∨ p = 8 ∨ p = 9 ∨ p = 10 ∨ p = 11 ∨ p = 12 ∨ p = 13 ∨ p = 14 ∨ p = 15 ∨ p = 16 ∨ p = 17 ∨ p = 18 ∨ p = 19 ∨ p = 20 := by omega
  rcases this with h1 | h1 | h1 | h1 | h1 | h1 | h1 | h1 | h1 | h1 | h1 | h1 | h1 | h1 | h1 | h1 | h1 | h1 | h1 | h1 <;> subst h1 <;> (cases (Option.some.inj h); rfl)
section
variable {P : Program} {w : World} {K : PySem.W.Frag} {mg : Str → Option Value} {base : Heap} {f : Addr} {fd : FuncData} {T : List (Addr × Str)} {C : Addr}
theorem RetC.mono {O : Rel} {a : Addr} {B : Abs × Ans} {H H1 : Hp} {Q : VK} (k : RetC T O a B H Q) (e : Ex H H1) : RetC T O a B H1 Q := fun p H' n kp t o h => k p H' (n.back (ExtN.of e)) (fun b u hb hne hno hnr => kp b u (e b u hb) hne hno hnr) t o h
theorem RetS.toC {a : Addr} {A : Abs} {c : Kv404.Call} {H : Hp} {Q : VK} (k : RetS T (StAt C) a (some A) (some (A.does c).1, (A.does c).2) H Q) (hO : ObjAt C H a A) (ok : AbsOk A) : RetC T (ObjAt C) a (A.does c) H Q := fun p H' n kp t o h => by
  have ok2 := absok_does ok c
  obtain ⟨dx, l, e, ha, _⟩ := hO
  exact k p H' n kp t h ⟨o, ok2⟩ fun g ns hg hn H2 o2 => stAt_off ⟨o, ok2⟩ (kp g _ hg (ne_of hg ha (by intro z; cases z)) (fun _ z => nomatch z) (noRefs_iV ns)) (fun z => by cases hn z) o2
/-- one of the calls by its number -/
theorem q_pick {σ : L2.St} {H : Hp} {D : Ends} {tu tz : TS} {p : Nat} {m : Int} (h1 : σ[1]? = some (some (.int (p : Int)))) (hy : (p : Int) = m → ∀ H1, Ex H H1 → tu { D with nx := tz D } σ H1) (hn : (p : Int) ≠ m → ∀ H1, Ex H H1 → tz D σ H1) : tSeq (tIfS (tTest (tOp rEq (tVar 1) (tC (.int m)))) tu tNext) tz D σ H :=
  q_when (b := decide ((p : Int) = m)) (et_is (et_test (ev_op (ev_var h1) ev_c (rv_eq rfl))) (decide_eq_decide.mpr ⟨fun q => by injection q, fun q => by rw [q]⟩)) (fun hb => hy (of_decide_eq_true hb)) (fun hb => hn (of_decide_eq_false hb))
abbrev tPick (m : Int) (tu : TS) (tz : TS) : TS := tSeq (tIfS (tTest (tOp rEq (tVar 1) (tC (.int m)))) tu tNext) tz
abbrev tVal (K : PySem.W.Frag) (i : Int) : TE := tOp (rIxL K) (tVar 2) (tC (.int i))
theorem ev_val {σ : L2.St} {H : Hp} {q : Addr} {args : List Nat} {i : Nat} {x : Nat} (h2 : σ[2]? = some (some (.ref q))) (hq : H q = some (.lst (nV args))) (hx : args[i]? = some x) : Ev (tVal K (i : Int)) σ H (.int (x : Int)) :=
  ev_op (ev_var h2) ev_c (rv_ixL (sq_of hq) (at_of rfl (by rw [List.getElem?_map, hx]; rfl)))
abbrev tM (C : Addr) (m : Str) (sp : Sp) (ta : TA) : TS := tRet (tMeth C m sp [] E0 (tVar 0) ta)
abbrev nCh : List Str := ["places", "number", "values"]
/-- what the module's names of calls stand for -/
structure Nums (mg : Str → Option Value) : Prop where
  begin_ : ∃ u, mg "BEGIN" = some u ∧ RelV (.int 0) u
  line : ∃ u, mg "LINE" = some u ∧ RelV (.int 1) u
  cut : ∃ u, mg "CUT" = some u ∧ RelV (.int 2) u
  choose : ∃ u, mg "CHOOSE" = some u ∧ RelV (.int 3) u
  turn : ∃ u, mg "TURN" = some u ∧ RelV (.int 4) u
  greedy : ∃ u, mg "GREEDY" = some u ∧ RelV (.int 5) u
  best : ∃ u, mg "BEST" = some u ∧ RelV (.int 6) u
  lines : ∃ u, mg "LINES" = some u ∧ RelV (.int 7) u
  chosen : ∃ u, mg "CHOSEN" = some u ∧ RelV (.int 8) u
  nearest : ∃ u, mg "NEAREST" = some u ∧ RelV (.int 9) u
  near : ∃ u, mg "NEAR" = some u ∧ RelV (.int 10) u
  dist : ∃ u, mg "DIST" = some u ∧ RelV (.int 11) u
  told : ∃ u, mg "TOLD" = some u ∧ RelV (.int 12) u
  knows : ∃ u, mg "KNOWS" = some u ∧ RelV (.int 13) u
  all : ∃ u, mg "ALL" = some u ∧ RelV (.int 14) u
  ifchosen : ∃ u, mg "IFCHOSEN" = some u ∧ RelV (.int 15) u
  worst : ∃ u, mg "WORST" = some u ∧ RelV (.int 17) u
  leastall : ∃ u, mg "LEASTALL" = some u ∧ RelV (.int 18) u
  back : ∃ u, mg "BACK" = some u ∧ RelV (.int 19) u
  notBegun : ∃ u, mg "NOT_BEGUN" = some u ∧ RelV (.int (-11)) u
/-- changed, looked_at (places, number, values); looked_over (places, number) -/
def spPick (T : List (Addr × Str)) (C : Addr) (ps : List Nat) : Sp := fun vs H Q _ => ∃ (a q : Addr) (p : Nat) (args : List Nat) (A : Abs) (c : Kv404.Call), vs = [.ref a, .int (p : Int), .ref q] ∧ p ∈ ps ∧ args.length = argc p ∧ H q = some (.lst (nV args)) ∧ ObjAt C H a A ∧ AbsOk A ∧ Tabs T H ∧ callOf [(p : Int) :: up args] = some c ∧ RetC T (ObjAt C) a (A.does c) H Q
def spPick0 (T : List (Addr × Str)) (C : Addr) (ps : List Nat) : Sp := fun vs H Q _ => ∃ (a : Addr) (p : Nat) (A : Abs) (c : Kv404.Call), vs = [.ref a, .int (p : Int)] ∧ p ∈ ps ∧ ObjAt C H a A ∧ AbsOk A ∧ Tabs T H ∧ callOf [[(p : Int)]] = some c ∧ RetC T (ObjAt C) a (A.does c) H Q
theorem args1 {args : List Nat} (h : args.length = 1) : ∃ x, args = [x] := by
  match args, h with
  | [x], _ => exact ⟨x, rfl⟩
theorem args2 {args : List Nat} (h : args.length = 2) : ∃ x y, args = [x, y] := by
  match args, h with
  | [x, y], _ => exact ⟨x, y, rfl⟩
theorem args3 {args : List Nat} (h : args.length = 3) : ∃ x y z, args = [x, y, z] := by
  match args, h with
  | [x, y, z], _ => exact ⟨x, y, z, rfl⟩
/-- changed(places, number, values) -/
theorem scChanged : FnScope nCh nCh (defScope sChanged) := ⟨rfl, rfl, rfl, by decide +kernel, rfl, by decide +kernel, by decide +kernel⟩
def t_changed (K : PySem.W.Frag) (T : List (Addr × Str)) (C : Addr) : TS :=
  tSeq (tIfS (tTest (tOp rEq (tVar 1) (tC (.int 1)))) (tM C "line" (spLine T (ObjAt C)) (tCons (tVal K 0) (tCons (tVal K 1) (tCons (tVal K 2) tNil)))) tNext)
  (tSeq (tIfS (tTest (tOp rEq (tVar 1) (tC (.int 2)))) (tM C "cut" (spCut T (ObjAt C)) (tCons (tVal K 0) tNil)) tNext)
  (tSeq (tIfS (tTest (tOp rEq (tVar 1) (tC (.int 3)))) (tM C "choose" (spChoose T (ObjAt C)) (tCons (tVal K 0) tNil)) tNext)
  (tSeq (tIfS (tTest (tOp rEq (tVar 1) (tC (.int 4)))) (tM C "turn" (spTurn T (ObjAt C)) (tCons (tVal K 0) tNil)) tNext)
  (tSeq (tIfS (tTest (tOp rEq (tVar 1) (tC (.int 5)))) (tM C "greedy" (spGreedyM T (ObjAt C)) (tCons (tVal K 0) tNil)) tNext)
  (tM C "best" (spBestM T (ObjAt C)) tNil)))))
theorem pure_changed (vs : List V) (H : Hp) (Q : VK) (E : XK) (h : spPick T C [1, 2, 3, 4, 5, 6] vs H Q E) : t_changed K T C { nx := fun _ H' => Q .non H', rt := Q } (start nCh vs) H := by
  obtain ⟨a, q, p, args, A, c, rfl, hp, hal, hq, hO, ok, hT, hc, k⟩ := h
  have hp : p = 1 ∨ p = 2 ∨ p = 3 ∨ p = 4 ∨ p = 5 ∨ p = 6 := by simpa using hp
  obtain ⟨dx, fs, l, ha, _, _, _, _, h5⟩ := (lies C).view hO
  refine q_pick rfl (fun e H1 x1 => ?_) fun n1 H1 x1 => ?_
  · have : p = 1 := by omega
    subst this
    obtain ⟨x, y, z, rfl⟩ := args3 hal
    cases (Option.some.inj hc)
    refine s_retMeth (ev_var rfl) (x1 _ _ ha) (h5 _ (by simp)) (ea_cons (ev_val (i := 0) rfl (x1 _ _ hq) rfl) (ea_cons (ev_val (i := 1) rfl (x1 _ _ hq) rfl) (ea_cons (ev_val (i := 2) rfl (x1 _ _ hq) rfl) ea_nil))) fun H2 x2 => ⟨a, A, x, y, z, rfl, hO.ext (ExtN.of (x1.trans x2)), ok, hT.ext (x1.trans x2), k.mono (x1.trans x2)⟩
  refine q_pick rfl (fun e H2 x2 => ?_) fun n2 H2 x2 => ?_
  · have : p = 2 := by omega
    subst this
    obtain ⟨x, rfl⟩ := args1 hal
    cases (Option.some.inj hc)
    have y2 := x1.trans x2
    refine s_retMeth (ev_var rfl) (y2 _ _ ha) (h5 _ (by simp)) (ea_cons (ev_val (i := 0) rfl (y2 _ _ hq) rfl) ea_nil) fun H3 x3 => ⟨a, A, x, rfl, hO.ext (ExtN.of (y2.trans x3)), ok, hT.ext (y2.trans x3), k.mono (y2.trans x3)⟩
  have y2 := x1.trans x2
  refine q_pick rfl (fun e H3 x3 => ?_) fun n3 H3 x3 => ?_
  · have : p = 3 := by omega
    subst this
    obtain ⟨x, rfl⟩ := args1 hal
    cases (Option.some.inj hc)
    have y3 := y2.trans x3
    refine s_retMeth (ev_var rfl) (y3 _ _ ha) (h5 _ (by simp)) (ea_cons (ev_val (i := 0) rfl (y3 _ _ hq) rfl) ea_nil) fun H4 x4 => ⟨a, A, x, rfl, hO.ext (ExtN.of (y3.trans x4)), ok, hT.ext (y3.trans x4), k.mono (y3.trans x4)⟩
  have y3 := y2.trans x3
  refine q_pick rfl (fun e H4 x4 => ?_) fun n4 H4 x4 => ?_
  · have : p = 4 := by omega
    subst this
    obtain ⟨x, rfl⟩ := args1 hal
    cases (Option.some.inj hc)
    have y4 := y3.trans x4
    refine s_retMeth (ev_var rfl) (y4 _ _ ha) (h5 _ (by simp)) (ea_cons (ev_val (i := 0) rfl (y4 _ _ hq) rfl) ea_nil) fun H5 x5 => ⟨a, A, x, rfl, hO.ext (ExtN.of (y4.trans x5)), ok, hT.ext (y4.trans x5), k.mono (y4.trans x5)⟩
  have y4 := y3.trans x4
  refine q_pick rfl (fun e H5 x5 => ?_) fun n5 H5 x5 => ?_
  · have : p = 5 := by omega
    subst this
    obtain ⟨x, rfl⟩ := args1 hal
    cases (Option.some.inj hc)
    have y5 := y4.trans x5
    refine s_retMeth (ev_var rfl) (y5 _ _ ha) (h5 _ (by simp)) (ea_cons (ev_val (i := 0) rfl (y5 _ _ hq) rfl) ea_nil) fun H6 x6 => ⟨a, A, x, rfl, hO.ext (ExtN.of (y5.trans x6)), ok, hT.ext (y5.trans x6), k.mono (y5.trans x6)⟩
  have y5 := y4.trans x5
  have : p = 6 := by omega
  subst this
  cases (Option.some.inj hc)
  exact s_retMeth (ev_var rfl) (y5 _ _ ha) (h5 _ (by simp)) ea_nil fun H6 x6 => ⟨a, A, rfl, hO.ext (ExtN.of (y5.trans x6)), ok, hT.ext (y5.trans x6), k.mono (y5.trans x6)⟩
/-- what the object can do -/
structure Mets (P : Program) (w : World) (K : PySem.W.Frag) (mg : Str → Option Value) (base : Heap) (C : Addr) (T : List (Addr × Str)) : Prop where
  line : Met P w K mg base C 5 "line" (spLine T (ObjAt C))
  cut : Met P w K mg base C 5 "cut" (spCut T (ObjAt C))
  choose : Met P w K mg base C 5 "choose" (spChoose T (ObjAt C))
  turn : Met P w K mg base C 5 "turn" (spTurn T (ObjAt C))
  greedy : Met P w K mg base C 5 "greedy" (spGreedyM T (ObjAt C))
  best : Met P w K mg base C 5 "best" (spBestM T (ObjAt C))
  lines : Met P w K mg base C 1 "tell_lines" (spTLines T (ObjAt C))
  chosen : Met P w K mg base C 3 "tell_chosen" (spTChosen T (ObjAt C))
  nearest : Met P w K mg base C 3 "tell_nearest" (spTNearest T (ObjAt C))
  near : Met P w K mg base C 3 "tell_near" (spTNear T (ObjAt C))
  first : Met P w K mg base C 3 "tell_first" (spLook2 T (ObjAt C) .first)
  dist : Met P w K mg base C 3 "tell_dist" (spLook2 T (ObjAt C) .dist)
  told : Met P w K mg base C 4 "tell_told" (spLook2 T (ObjAt C) .told)
  knows : Met P w K mg base C 3 "tell_knows" (spLook1 T (ObjAt C) .knows)
  all : Met P w K mg base C 4 "tell_all" (spLook0 T (ObjAt C) .all)
  ifchosen : Met P w K mg base C 4 "tell_if_chosen" (spLook1 T (ObjAt C) .ifchosen)
  leastall : Met P w K mg base C 5 "tell_least_all" (spLook0 T (ObjAt C) .leastall)
  worst : Met P w K mg base C 5 "tell_worst" (spLook0 T (ObjAt C) .worst)
  state : Met P w K mg base C 1 "tell_state" (spLook0 T (ObjAt C) .state)
  back : Met P w K mg base C 1 "back" (spLook0 T (ObjAt C) .back)
  begin_ : Met P w K mg base C 1 "begin" (spBegin T C)
theorem ok_changed (F : Fun K "changed" "changed" sChanged f fd) (cl : Cls K C) (U : Nums mg) (M : Mets P w K mg base C T) : FnOk P w K mg base CX0 6 f fd nCh (spPick T C [1, 2, 3, 4, 5, 6]) := by
  refine F.ok scChanged (fun vs H Q E h => ?_) (fun cdv A outer s H vs Q E hr h => ⟨t_changed K T C, ?_, pure_changed vs H Q E h⟩)
  · obtain ⟨a, q, p, args, A, c, rfl, _⟩ := h; rfl
  · exact pss_cons (ps_if (pt_cmpR op_eq (pv 1) (pe_gl rfl U.line) (nomark _)) (pss_one (ps_ret (pe_met M.line cl hr (by decide) (pv 0) (pa_cons (pe_ix ix_list (pv 2) pe_int (fun _ _ => rfl)) (pa_cons (pe_ix ix_list (pv 2) pe_int (fun _ _ => rfl)) (pa_cons (pe_ix ix_list (pv 2) pe_int (fun _ _ => rfl)) pa_nil)))))) pss_nil)
      (pss_cons (ps_if (pt_cmpR op_eq (pv 1) (pe_gl rfl U.cut) (nomark _)) (pss_one (ps_ret (pe_met M.cut cl hr (by decide) (pv 0) (pa_cons (pe_ix ix_list (pv 2) pe_int (fun _ _ => rfl)) pa_nil)))) pss_nil)
      (pss_cons (ps_if (pt_cmpR op_eq (pv 1) (pe_gl rfl U.choose) (nomark _)) (pss_one (ps_ret (pe_met M.choose cl hr (by decide) (pv 0) (pa_cons (pe_ix ix_list (pv 2) pe_int (fun _ _ => rfl)) pa_nil)))) pss_nil)
      (pss_cons (ps_if (pt_cmpR op_eq (pv 1) (pe_gl rfl U.turn) (nomark _)) (pss_one (ps_ret (pe_met M.turn cl hr (by decide) (pv 0) (pa_cons (pe_ix ix_list (pv 2) pe_int (fun _ _ => rfl)) pa_nil)))) pss_nil)
      (pss_cons (ps_if (pt_cmpR op_eq (pv 1) (pe_gl rfl U.greedy) (nomark _)) (pss_one (ps_ret (pe_met M.greedy cl hr (by decide) (pv 0) (pa_cons (pe_ix ix_list (pv 2) pe_int (fun _ _ => rfl)) pa_nil)))) pss_nil)
      (pss_one (ps_ret (pe_met0 M.best cl hr (by decide) (pv 0))))))))
/-- looked_over(places, number) -/
abbrev nOv : List Str := ["places", "number"]
theorem scOver : FnScope nOv nOv (defScope sOver) := ⟨rfl, rfl, rfl, by decide +kernel, rfl, by decide +kernel, by decide +kernel⟩
def t_over (T : List (Addr × Str)) (C : Addr) : TS :=
  tSeq (tIfS (tTest (tOp rEq (tVar 1) (tC (.int 7)))) (tM C "tell_lines" (spTLines T (ObjAt C)) tNil) tNext)
  (tSeq (tIfS (tTest (tOp rEq (tVar 1) (tC (.int 8)))) (tM C "tell_chosen" (spTChosen T (ObjAt C)) tNil) tNext)
  (tSeq (tIfS (tTest (tOp rEq (tVar 1) (tC (.int 14)))) (tM C "tell_all" (spLook0 T (ObjAt C) .all) tNil) tNext)
  (tSeq (tIfS (tTest (tOp rEq (tVar 1) (tC (.int 17)))) (tM C "tell_worst" (spLook0 T (ObjAt C) .worst) tNil) tNext)
  (tSeq (tIfS (tTest (tOp rEq (tVar 1) (tC (.int 18)))) (tM C "tell_least_all" (spLook0 T (ObjAt C) .leastall) tNil) tNext)
  (tM C "tell_state" (spLook0 T (ObjAt C) .state) tNil)))))
theorem pure_over (vs : List V) (H : Hp) (Q : VK) (E : XK) (h : spPick0 T C [7, 8, 14, 17, 18, 20] vs H Q E) : t_over T C { nx := fun _ H' => Q .non H', rt := Q } (start nOv vs) H := by
  obtain ⟨a, p, A, c, rfl, hp, hO, ok, hT, hc, k⟩ := h
  have hp : p = 7 ∨ p = 8 ∨ p = 14 ∨ p = 17 ∨ p = 18 ∨ p = 20 := by simpa using hp
  obtain ⟨dx, fs, l, ha, _, _, _, _, h5⟩ := (lies C).view hO
  refine q_pick rfl (fun e H1 x1 => ?_) fun n1 H1 x1 => ?_
  · have : p = 7 := by omega
    subst this
    cases (Option.some.inj hc)
    exact s_retMeth (ev_var rfl) (x1 _ _ ha) (h5 _ (by simp)) ea_nil fun H2 x2 => ⟨a, A, rfl, hO.ext (ExtN.of (x1.trans x2)), ok, hT.ext (x1.trans x2), k.mono (x1.trans x2)⟩
  refine q_pick rfl (fun e H2 x2 => ?_) fun n2 H2 x2 => ?_
  · have : p = 8 := by omega
    subst this
    cases (Option.some.inj hc)
    have y2 := x1.trans x2
    exact s_retMeth (ev_var rfl) (y2 _ _ ha) (h5 _ (by simp)) ea_nil fun H3 x3 => ⟨a, A, rfl, hO.ext (ExtN.of (y2.trans x3)), ok, hT.ext (y2.trans x3), k.mono (y2.trans x3)⟩
  have y2 := x1.trans x2
  refine q_pick rfl (fun e H3 x3 => ?_) fun n3 H3 x3 => ?_
  · have : p = 14 := by omega
    subst this
    cases (Option.some.inj hc)
    have y3 := y2.trans x3
    exact s_retMeth (ev_var rfl) (y3 _ _ ha) (h5 _ (by simp)) ea_nil fun H4 x4 => ⟨a, A, rfl, hO.ext (ExtN.of (y3.trans x4)), ok, hT.ext (y3.trans x4), k.mono (y3.trans x4)⟩
  have y3 := y2.trans x3
  refine q_pick rfl (fun e H4 x4 => ?_) fun n4 H4 x4 => ?_
  · have : p = 17 := by omega
    subst this
    cases (Option.some.inj hc)
    have y4 := y3.trans x4
    exact s_retMeth (ev_var rfl) (y4 _ _ ha) (h5 _ (by simp)) ea_nil fun H5 x5 => ⟨a, A, rfl, hO.ext (ExtN.of (y4.trans x5)), ok, hT.ext (y4.trans x5), k.mono (y4.trans x5)⟩
  have y4 := y3.trans x4
  refine q_pick rfl (fun e H5 x5 => ?_) fun n5 H5 x5 => ?_
  · have : p = 18 := by omega
    subst this
    cases (Option.some.inj hc)
    have y5 := y4.trans x5
    exact s_retMeth (ev_var rfl) (y5 _ _ ha) (h5 _ (by simp)) ea_nil fun H6 x6 => ⟨a, A, rfl, hO.ext (ExtN.of (y5.trans x6)), ok, hT.ext (y5.trans x6), k.mono (y5.trans x6)⟩
  have y5 := y4.trans x5
  have : p = 20 := by omega
  subst this
  cases (Option.some.inj hc)
  exact s_retMeth (ev_var rfl) (y5 _ _ ha) (h5 _ (by simp)) ea_nil fun H6 x6 => ⟨a, A, rfl, hO.ext (ExtN.of (y5.trans x6)), ok, hT.ext (y5.trans x6), k.mono (y5.trans x6)⟩
theorem ok_over (F : Fun K "looked_over" "looked_over" sOver f fd) (cl : Cls K C) (U : Nums mg) (M : Mets P w K mg base C T) : FnOk P w K mg base CX0 6 f fd nOv (spPick0 T C [7, 8, 14, 17, 18, 20]) := by
  refine F.ok scOver (fun vs H Q E h => ?_) (fun cdv A outer s H vs Q E hr h => ⟨t_over T C, ?_, pure_over vs H Q E h⟩)
  · obtain ⟨a, p, A, c, rfl, _⟩ := h; rfl
  · exact pss_cons (ps_if (pt_cmpR op_eq (pv 1) (pe_gl rfl U.lines) (nomark _)) (pss_one (ps_ret (pe_met0 M.lines cl hr (by decide) (pv 0)))) pss_nil)
      (pss_cons (ps_if (pt_cmpR op_eq (pv 1) (pe_gl rfl U.chosen) (nomark _)) (pss_one (ps_ret (pe_met0 M.chosen cl hr (by decide) (pv 0)))) pss_nil)
      (pss_cons (ps_if (pt_cmpR op_eq (pv 1) (pe_gl rfl U.all) (nomark _)) (pss_one (ps_ret (pe_met0 M.all cl hr (by decide) (pv 0)))) pss_nil)
      (pss_cons (ps_if (pt_cmpR op_eq (pv 1) (pe_gl rfl U.worst) (nomark _)) (pss_one (ps_ret (pe_met0 M.worst cl hr (by decide) (pv 0)))) pss_nil)
      (pss_cons (ps_if (pt_cmpR op_eq (pv 1) (pe_gl rfl U.leastall) (nomark _)) (pss_one (ps_ret (pe_met0 M.leastall cl hr (by decide) (pv 0)))) pss_nil)
      (pss_one (ps_ret (pe_met0 M.state cl hr (by decide) (pv 0))))))))
/-- looked_at(places, number, values) -/
theorem scAt : FnScope nCh nCh (defScope sAt) := ⟨rfl, rfl, rfl, by decide +kernel, rfl, by decide +kernel, by decide +kernel⟩
def t_at (K : PySem.W.Frag) (T : List (Addr × Str)) (C : Addr) : TS :=
  tSeq (tIfS (tTest (tOp rEq (tVar 1) (tC (.int 9)))) (tM C "tell_nearest" (spTNearest T (ObjAt C)) (tCons (tVal K 0) tNil)) tNext)
  (tSeq (tIfS (tTest (tOp rEq (tVar 1) (tC (.int 10)))) (tM C "tell_near" (spTNear T (ObjAt C)) (tCons (tVal K 0) tNil)) tNext)
  (tSeq (tIfS (tTest (tOp rEq (tVar 1) (tC (.int 11)))) (tM C "tell_dist" (spLook2 T (ObjAt C) .dist) (tCons (tVal K 0) (tCons (tVal K 1) tNil))) tNext)
  (tSeq (tIfS (tTest (tOp rEq (tVar 1) (tC (.int 12)))) (tM C "tell_told" (spLook2 T (ObjAt C) .told) (tCons (tVal K 0) (tCons (tVal K 1) tNil))) tNext)
  (tSeq (tIfS (tTest (tOp rEq (tVar 1) (tC (.int 13)))) (tM C "tell_knows" (spLook1 T (ObjAt C) .knows) (tCons (tVal K 0) tNil)) tNext)
  (tSeq (tIfS (tTest (tOp rEq (tVar 1) (tC (.int 15)))) (tM C "tell_if_chosen" (spLook1 T (ObjAt C) .ifchosen) (tCons (tVal K 0) tNil)) tNext)
  (tM C "tell_first" (spLook2 T (ObjAt C) .first) (tCons (tVal K 0) (tCons (tVal K 1) tNil))))))))
theorem pure_at (vs : List V) (H : Hp) (Q : VK) (E : XK) (h : spPick T C [9, 10, 11, 12, 13, 15, 16] vs H Q E) : t_at K T C { nx := fun _ H' => Q .non H', rt := Q } (start nCh vs) H := by
  obtain ⟨a, q, p, args, A, c, rfl, hp, hal, hq, hO, ok, hT, hc, k⟩ := h
  have hp : p = 9 ∨ p = 10 ∨ p = 11 ∨ p = 12 ∨ p = 13 ∨ p = 15 ∨ p = 16 := by simpa using hp
  obtain ⟨dx, fs, l, ha, _, _, _, _, h5⟩ := (lies C).view hO
  refine q_pick rfl (fun e H1 x1 => ?_) fun n1 H1 x1 => ?_
  · have : p = 9 := by omega
    subst this
    obtain ⟨x, rfl⟩ := args1 hal
    cases (Option.some.inj hc)
    exact s_retMeth (ev_var rfl) (x1 _ _ ha) (h5 _ (by simp)) (ea_cons (ev_val (i := 0) rfl (x1 _ _ hq) rfl) ea_nil) fun H2 x2 => ⟨a, A, x, rfl, hO.ext (ExtN.of (x1.trans x2)), ok, hT.ext (x1.trans x2), k.mono (x1.trans x2)⟩
  refine q_pick rfl (fun e H2 x2 => ?_) fun n2 H2 x2 => ?_
  · have : p = 10 := by omega
    subst this
    obtain ⟨x, rfl⟩ := args1 hal
    cases (Option.some.inj hc)
    have y2 := x1.trans x2
    exact s_retMeth (ev_var rfl) (y2 _ _ ha) (h5 _ (by simp)) (ea_cons (ev_val (i := 0) rfl (y2 _ _ hq) rfl) ea_nil) fun H3 x3 => ⟨a, A, x, rfl, hO.ext (ExtN.of (y2.trans x3)), ok, hT.ext (y2.trans x3), k.mono (y2.trans x3)⟩
  have y2 := x1.trans x2
  refine q_pick rfl (fun e H3 x3 => ?_) fun n3 H3 x3 => ?_
  · have : p = 11 := by omega
    subst this
    obtain ⟨x, y, rfl⟩ := args2 hal
    cases (Option.some.inj hc)
    have y3 := y2.trans x3
    exact s_retMeth (ev_var rfl) (y3 _ _ ha) (h5 _ (by simp)) (ea_cons (ev_val (i := 0) rfl (y3 _ _ hq) rfl) (ea_cons (ev_val (i := 1) rfl (y3 _ _ hq) rfl) ea_nil)) fun H4 x4 => ⟨a, A, x, y, rfl, hO.ext (ExtN.of (y3.trans x4)), ok, hT.ext (y3.trans x4), k.mono (y3.trans x4)⟩
  have y3 := y2.trans x3
  refine q_pick rfl (fun e H4 x4 => ?_) fun n4 H4 x4 => ?_
  · have : p = 12 := by omega
    subst this
    obtain ⟨x, y, rfl⟩ := args2 hal
    cases (Option.some.inj hc)
    have y4 := y3.trans x4
    exact s_retMeth (ev_var rfl) (y4 _ _ ha) (h5 _ (by simp)) (ea_cons (ev_val (i := 0) rfl (y4 _ _ hq) rfl) (ea_cons (ev_val (i := 1) rfl (y4 _ _ hq) rfl) ea_nil)) fun H5 x5 => ⟨a, A, x, y, rfl, hO.ext (ExtN.of (y4.trans x5)), ok, hT.ext (y4.trans x5), k.mono (y4.trans x5)⟩
  have y4 := y3.trans x4
  refine q_pick rfl (fun e H5 x5 => ?_) fun n5 H5 x5 => ?_
  · have : p = 13 := by omega
    subst this
    obtain ⟨x, rfl⟩ := args1 hal
    cases (Option.some.inj hc)
    have y5 := y4.trans x5
    exact s_retMeth (ev_var rfl) (y5 _ _ ha) (h5 _ (by simp)) (ea_cons (ev_val (i := 0) rfl (y5 _ _ hq) rfl) ea_nil) fun H6 x6 => ⟨a, A, x, rfl, hO.ext (ExtN.of (y5.trans x6)), ok, hT.ext (y5.trans x6), k.mono (y5.trans x6)⟩
  have y5 := y4.trans x5
  refine q_pick rfl (fun e H6 x6 => ?_) fun n6 H6 x6 => ?_
  · have : p = 15 := by omega
    subst this
    obtain ⟨x, rfl⟩ := args1 hal
    cases (Option.some.inj hc)
    have y6 := y5.trans x6
    exact s_retMeth (ev_var rfl) (y6 _ _ ha) (h5 _ (by simp)) (ea_cons (ev_val (i := 0) rfl (y6 _ _ hq) rfl) ea_nil) fun H7 x7 => ⟨a, A, x, rfl, hO.ext (ExtN.of (y6.trans x7)), ok, hT.ext (y6.trans x7), k.mono (y6.trans x7)⟩
  have y6 := y5.trans x6
  have : p = 16 := by omega
  subst this
  obtain ⟨x, y, rfl⟩ := args2 hal
  cases (Option.some.inj hc)
  exact s_retMeth (ev_var rfl) (y6 _ _ ha) (h5 _ (by simp)) (ea_cons (ev_val (i := 0) rfl (y6 _ _ hq) rfl) (ea_cons (ev_val (i := 1) rfl (y6 _ _ hq) rfl) ea_nil)) fun H7 x7 => ⟨a, A, x, y, rfl, hO.ext (ExtN.of (y6.trans x7)), ok, hT.ext (y6.trans x7), k.mono (y6.trans x7)⟩
theorem ok_at (F : Fun K "looked_at" "looked_at" sAt f fd) (cl : Cls K C) (U : Nums mg) (M : Mets P w K mg base C T) : FnOk P w K mg base CX0 6 f fd nCh (spPick T C [9, 10, 11, 12, 13, 15, 16]) := by
  refine F.ok scAt (fun vs H Q E h => ?_) (fun cdv A outer s H vs Q E hr h => ⟨t_at K T C, ?_, pure_at vs H Q E h⟩)
  · obtain ⟨a, q, p, args, A, c, rfl, _⟩ := h; rfl
  · exact pss_cons (ps_if (pt_cmpR op_eq (pv 1) (pe_gl rfl U.nearest) (nomark _)) (pss_one (ps_ret (pe_met M.nearest cl hr (by decide) (pv 0) (pa_cons (pe_ix ix_list (pv 2) pe_int (fun _ _ => rfl)) pa_nil)))) pss_nil)
      (pss_cons (ps_if (pt_cmpR op_eq (pv 1) (pe_gl rfl U.near) (nomark _)) (pss_one (ps_ret (pe_met M.near cl hr (by decide) (pv 0) (pa_cons (pe_ix ix_list (pv 2) pe_int (fun _ _ => rfl)) pa_nil)))) pss_nil)
      (pss_cons (ps_if (pt_cmpR op_eq (pv 1) (pe_gl rfl U.dist) (nomark _)) (pss_one (ps_ret (pe_met M.dist cl hr (by decide) (pv 0) (pa_cons (pe_ix ix_list (pv 2) pe_int (fun _ _ => rfl)) (pa_cons (pe_ix ix_list (pv 2) pe_int (fun _ _ => rfl)) pa_nil))))) pss_nil)
      (pss_cons (ps_if (pt_cmpR op_eq (pv 1) (pe_gl rfl U.told) (nomark _)) (pss_one (ps_ret (pe_met M.told cl hr (by decide) (pv 0) (pa_cons (pe_ix ix_list (pv 2) pe_int (fun _ _ => rfl)) (pa_cons (pe_ix ix_list (pv 2) pe_int (fun _ _ => rfl)) pa_nil))))) pss_nil)
      (pss_cons (ps_if (pt_cmpR op_eq (pv 1) (pe_gl rfl U.knows) (nomark _)) (pss_one (ps_ret (pe_met M.knows cl hr (by decide) (pv 0) (pa_cons (pe_ix ix_list (pv 2) pe_int (fun _ _ => rfl)) pa_nil)))) pss_nil)
      (pss_cons (ps_if (pt_cmpR op_eq (pv 1) (pe_gl rfl U.ifchosen) (nomark _)) (pss_one (ps_ret (pe_met M.ifchosen cl hr (by decide) (pv 0) (pa_cons (pe_ix ix_list (pv 2) pe_int (fun _ _ => rfl)) pa_nil)))) pss_nil)
      (pss_one (ps_ret (pe_met M.first cl hr (by decide) (pv 0) (pa_cons (pe_ix ix_list (pv 2) pe_int (fun _ _ => rfl)) (pa_cons (pe_ix ix_list (pv 2) pe_int (fun _ _ => rfl)) pa_nil))))))))))
end
end TP

/-! ## Q8 -/
set_option Elab.async false
set_option linter.all false
set_option maxRecDepth 100000
set_option maxHeartbeats 2000000
namespace TP
open PySem PySem.Spec PyProof.Rows L2 Evl KeyL TT LamX
open Kv402 (Line)
open Kv404 (in_ list_ Abs Ans Now State)
open Kv404Neutral (step callOf)
section
variable {P : Program} {w : World} {K : PySem.W.Frag} {mg : Str → Option Value} {base : Heap} {f : Addr} {fd : FuncData} {T : List (Addr × Str)} {C : Addr}
/-- answered(places, number, values) -/
theorem scAnswered : FnScope nCh nCh (defScope sAnswered) := ⟨rfl, rfl, rfl, by decide +kernel, rfl, by decide +kernel, by decide +kernel⟩
abbrev psCh : List Nat := [1, 2, 3, 4, 5, 6]
abbrev psOv : List Nat := [7, 8, 14, 17, 18, 20]
abbrev psAt : List Nat := [9, 10, 11, 12, 13, 15, 16]
def t_answered (K : PySem.W.Frag) (T : List (Addr × Str)) (C : Addr) : TS :=
  tSeq (tIfS (tTest (tOp rEq (tVar 1) (tC (.int 0)))) (tM C "begin" (spBegin T C) (tCons (tVal K 0) tNil)) tNext)
  (tSeq (tIfS (tTest (tOp rEq (tFld K (tVar 0) "count") (tC (.int 0)))) (tNo (-11)) tNext)
  (tSeq (tIfS (tTest (tOp (rI0 fun i j => .bl (decide (i ≤ j))) (tVar 1) (tC (.int 6)))) (tRet (tCall (spPick T C psCh) [] E0 (tCons (tVar 0) (tCons (tVar 1) (tCons (tVar 2) tNil))))) tNext)
  (tSeq (tIfS (tTest (tOp rEq (tVar 1) (tC (.int 19)))) (tM C "back" (spLook0 T (ObjAt C) .back) tNil) tNext)
  (tSeq (tIfS (tTest (tOp rEq (tLen K (tVar 2)) (tC (.int 0)))) (tRet (tCall (spPick0 T C psOv) [] E0 (tCons (tVar 0) (tCons (tVar 1) tNil)))) tNext)
  (tRet (tCall (spPick T C psAt) [] E0 (tCons (tVar 0) (tCons (tVar 1) (tCons (tVar 2) tNil)))))))))
theorem RetS.mono {a : Addr} {st : State} {B : State × Ans} {H H1 : Hp} {Q : VK} (k : RetS T (StAt C) a st B H Q) (e : Ex H H1) : RetS T (StAt C) a st B H1 Q := fun r H' n kp t h s off =>
  k r H' (n.back (ExtN.of e)) (fun b u hb hne hno hnr => kp b u (e b u hb) hne hno hnr) t h s fun g ns hg hn H2 o2 => off g ns (e _ _ hg) hn H2 o2
theorem argc_pos {p : Nat} (hp : p ≤ 20) (h6 : 6 < p) (h19 : p ≠ 19) : (argc p = 0 ∧ p ∈ psOv) ∨ (argc p ≠ 0 ∧ p ∈ psAt) := by
  have : p = 7 ∨ p = 8 ∨ p = 9 ∨ p = 10 ∨ p = 11 ∨ p = 12 ∨ p = 13 ∨ p = 14 ∨ p = 15 ∨ p = 16 ∨ p = 17 ∨ p = 18 ∨ p = 20 := by omega
  rcases this with h | h | h | h | h | h | h | h | h | h | h | h | h <;> subst h <;> decide
theorem pure_answered (X : Txt K C) (vs : List V) (H : Hp) (Q : VK) (E : XK) (h : spAnswered T (StAt C) vs H Q E) : t_answered K T C { nx := fun _ H' => Q .non H', rt := Q } (start nCh vs) H := by
  obtain ⟨a, q, p, args, st, rfl, hp, hal, hab, hq, hS, hT, k0⟩ := h
  obtain ⟨c, hc⟩ := call_ex p args hp
  have k : RetS T (StAt C) a st (Kv404.act st c) H Q := fun r H' n kp t h s off => by
    have es := step_of (st := st) hc
    refine k0 r H' n kp t ?_ ?_ fun g ns hg hn H2 o2 => ?_
    · rw [es]; exact h
    · rw [es]; exact s
    · rw [es]; exact off g ns hg hn H2 o2
  clear k0
  obtain ⟨dx, c0, l0, s0, e0, ha⟩ := hS.ins
  have hms : ∀ m ∈ msAll, (flds c0 l0 s0 e0).lookup m = none := fun m hm => flds_no (ms_no m hm)
  refine q_pick rfl (fun e H1 x1 => ?_) fun n1 H1 x1 => ?_
  · have : p = 0 := by omega
    subst this
    obtain ⟨x, rfl⟩ := args1 hal
    cases (Option.some.inj hc)
    exact s_retMeth (ev_var rfl) (x1 _ _ ha) (hms _ (by simp)) (ea_cons (ev_val (i := 0) rfl (x1 _ _ hq) rfl) ea_nil) fun H2 x2 => ⟨a, st, x, rfl, (face C).ext hS (ExtN.of (x1.trans x2)), hT.ext (x1.trans x2), k.mono (x1.trans x2)⟩
  have hp0 : p ≠ 0 := fun z => n1 (by rw [z]; rfl)
  cases st with
  | none =>
    rw [act_none p args hp hp0 hc] at k
    obtain ⟨dx', l', s', e', ha'⟩ := id hS
    refine q_when (b := true) (et_is (et_test (ev_op (ev_fld (ev_var rfl) (x1 _ _ ha') X.cl X.nC rfl) ev_c (rv_eq rfl))) rfl) (fun _ H2 x2 => ?_) (fun z => Bool.noConfusion z)
    exact s_refuse fun p H3 n3 x3 h3 => k.same hS hT (freshN (ExtN.of (x1.trans x2)) n3) ((x1.trans x2).trans x3) h3
  | some A =>
    obtain ⟨hO, ok⟩ := hS
    have k : RetC T (ObjAt C) a (A.does c) H Q := RetS.toC k hO ok
    obtain ⟨dx', l', e', ha', hrest⟩ := id hO
    have hn1 := ok.n1
    refine q_when (b := false) (et_is (et_test (ev_op (ev_fld (ev_var rfl) (x1 _ _ ha') X.cl X.nC rfl) ev_c (rv_eq rfl))) (decide_eq_false fun z => by injection z with z; omega)) (fun z => Bool.noConfusion z) (fun _ H2 x2 => ?_)
    have y2 := x1.trans x2
    refine q_when (b := decide (p ≤ 6)) (et_is (et_test (ev_op (ev_var rfl) ev_c rv_I0)) (decide_eq_decide.mpr (by omega))) (fun hb H3 x3 => ?_) (fun hb H3 x3 => ?_)
    · have hb := of_decide_eq_true hb
      have y3 := y2.trans x3
      have hps : p ∈ psCh := by
        have : p = 1 ∨ p = 2 ∨ p = 3 ∨ p = 4 ∨ p = 5 ∨ p = 6 := by omega
        simpa using this
      exact s_retCall (vs := [.ref a, .int (p : Int), .ref q]) (ea_cons (ev_var rfl) (ea_cons (ev_var rfl) (ea_cons (ev_var rfl) ea_nil))) fun H4 x4 => ⟨a, q, p, args, A, c, rfl, hps, hal, (y3.trans x4) _ _ hq, hO.ext (ExtN.of (y3.trans x4)), ok, hT.ext (y3.trans x4), hc, k.mono (y3.trans x4)⟩
    have h6 := of_decide_eq_false hb
    have y3 := y2.trans x3
    refine q_pick rfl (fun e H4 x4 => ?_) fun n4 H4 x4 => ?_
    · have : p = 19 := by omega
      subst this
      cases (Option.some.inj hc)
      have y4 := y3.trans x4
      exact s_retMeth (ev_var rfl) (y4 _ _ ha) (hms _ (by simp)) ea_nil fun H5 x5 => ⟨a, A, rfl, hO.ext (ExtN.of (y4.trans x5)), ok, hT.ext (y4.trans x5), k.mono (y4.trans x5)⟩
    have y4 := y3.trans x4
    have h19 : p ≠ 19 := fun z => n4 (by rw [z]; rfl)
    refine q_when (b := decide (argc p = 0)) (et_is (et_test (ev_op (ev_len (ev_var rfl) (sq_of (y4 _ _ hq))) ev_c (rv_eq rfl))) (by rw [List.length_map, hal]; exact decide_eq_decide.mpr ⟨fun z => by injection z with z; omega, fun z => by rw [z]; rfl⟩)) (fun hb H5 x5 => ?_) (fun hb H5 x5 => ?_)
    · have hb := of_decide_eq_true hb
      have y5 := y4.trans x5
      have hps : p ∈ psOv := by
        rcases argc_pos hp (by omega) h19 with ⟨_, z⟩ | ⟨z, _⟩
        · exact z
        · exact absurd hb z
      rw [hb] at hal
      have hnil : args = [] := List.eq_nil_of_length_eq_zero hal
      subst hnil
      exact s_retCall (vs := [.ref a, .int (p : Int)]) (ea_cons (ev_var rfl) (ea_cons (ev_var rfl) ea_nil)) fun H6 x6 => ⟨a, p, A, c, rfl, hps, hO.ext (ExtN.of (y5.trans x6)), ok, hT.ext (y5.trans x6), hc, k.mono (y5.trans x6)⟩
    · have hb := of_decide_eq_false hb
      have y5 := y4.trans x5
      have hps : p ∈ psAt := by
        rcases argc_pos hp (by omega) h19 with ⟨z, _⟩ | ⟨_, z⟩
        · exact absurd z hb
        · exact z
      exact s_retCall (vs := [.ref a, .int (p : Int), .ref q]) (ea_cons (ev_var rfl) (ea_cons (ev_var rfl) (ea_cons (ev_var rfl) ea_nil))) fun H6 x6 => ⟨a, q, p, args, A, c, rfl, hps, hal, (y5.trans x6) _ _ hq, hO.ext (ExtN.of (y5.trans x6)), ok, hT.ext (y5.trans x6), hc, k.mono (y5.trans x6)⟩
theorem ok_answered (F : Fun K "answered" "answered" sAnswered f fd) (X : Txt K C) (G : Glb mg) (U : Nums mg) (M : Mets P w K mg base C T) (CC : Cal P w K mg base 6 "changed" (spPick T C psCh)) (CO : Cal P w K mg base 6 "looked_over" (spPick0 T C psOv)) (CA : Cal P w K mg base 6 "looked_at" (spPick T C psAt)) : FnOk P w K mg base CX0 7 f fd nCh (spAnswered T (StAt C)) := by
  refine F.ok scAnswered (fun vs H Q E h => ?_) (fun cdv A outer s H vs Q E hr h => ⟨t_answered K T C, ?_, pure_answered X vs H Q E h⟩)
  · obtain ⟨a, q, p, args, st, rfl, _⟩ := h; rfl
  · exact pss_cons (ps_if (pt_cmpR op_eq (pv 1) (pe_gl rfl U.begin_) (nomark _)) (pss_one (ps_ret (pe_met M.begin_ X.cl hr (by decide) (pv 0) (pa_cons (pe_ix ix_list (pv 2) pe_int (fun _ _ => rfl)) pa_nil)))) pss_nil)
      (pss_cons (ps_if (pt_cmpR op_eq (pe_fld (pv 0) rfl) pe_int (nomark _)) (pss_one (ps_ret (pe_lst (pa_cons (pe_gl rfl U.notBegun) pa_nil)))) pss_nil)
      (pss_cons (ps_if (pt_cmpR op_le (pv 1) (pe_gl rfl U.best) (nomark _)) (pss_one (ps_ret (pe_cal CC hr (by decide) rfl (pa_cons (pv 0) (pa_cons (pv 1) (pa_cons (pv 2) pa_nil)))))) pss_nil)
      (pss_cons (ps_if (pt_cmpR op_eq (pv 1) (pe_gl rfl U.back) (nomark _)) (pss_one (ps_ret (pe_met0 M.back X.cl hr (by decide) (pv 0)))) pss_nil)
      (pss_cons (ps_if (pt_cmpR op_eq (pe_callB call_len_seq (by rfl) G.len boot_len (pa_cons (pv 2) pa_nil)) pe_int (nomark _)) (pss_one (ps_ret (pe_cal CO hr (by decide) rfl (pa_cons (pv 0) (pa_cons (pv 1) pa_nil))))) pss_nil)
      (pss_one (ps_ret (pe_cal CA hr (by decide) rfl (pa_cons (pv 0) (pa_cons (pv 1) (pa_cons (pv 2) pa_nil))))))))))
end
end TP

/-! ## E4 -/
set_option Elab.async false
set_option linter.all false
set_option maxRecDepth 100000
set_option maxHeartbeats 2000000
namespace TP
open PySem PySem.Spec PyProof.Rows L2 Evl KeyL TT LamX
/-- a def of the top as it stands behind the top -/
def TopFun (K : PySem.W.Frag) (x : Str) (st : Stmt) : Prop := ∃ (f : Addr) (fd : FuncData), PySem.W.nsIn K mainGlobals x = some (some (.ref f)) ∧ Fun K x x st f fd
theorem topFun {K : PySem.W.Frag} {x : Str} {st : Stmt} {f : Addr} {oc : Value} {od an : Option Addr} {osl : Array (Option Value)} {kV doc pm cdv ct : Value} (a : PySem.W.nsIn K mainGlobals x = some (some (.ref f))) (l : K.lookup f = some ⟨oc, od, .func (PySem.W.fnOf x x (defArgs st) (defBody st) (defScope st) .none kV doc pm an cdv ct), osl⟩)
    (c : PySem.W.codeIn K cdv x = true) (k : PySem.W.keepIn K (.ref f) = true) : TopFun K x st := ⟨f, _, a, fun_mk l c k⟩
/-- the same, its code object and its table known -/
def TopLam (K : PySem.W.Frag) (x : Str) (st : Stmt) (c P0 : Addr) : Prop := ∃ (f : Addr) (fd : FuncData), PySem.W.nsIn K mainGlobals x = some (some (.ref f)) ∧ FunC K x x st f fd c ∧ PySem.W.tabIn K x = some (c, P0) ∧ K.lookup P0 = none
theorem topLam {K : PySem.W.Frag} {x : Str} {st : Stmt} {f c P0 : Addr} {oc occ : Value} {od an odc : Option Addr} {osl oslc : Array (Option Value)} {kV doc pm ct : Value} {vs : Array Value} (a : PySem.W.nsIn K mainGlobals x = some (some (.ref f))) (l : K.lookup f = some ⟨oc, od, .func (PySem.W.fnOf x x (defArgs st) (defBody st) (defScope st) .none kV doc pm an (.ref c) ct), osl⟩)
    (cc : PySem.W.codeIn K (.ref c) x = true) (k : PySem.W.keepIn K (.ref f) = true) (lc : K.lookup c = some ⟨occ, odc, .fields vs, oslc⟩) (t : vs[11]? = some (.ref P0)) (n : K.lookup P0 = none) : TopLam K x st c P0 := ⟨f, _, a, ⟨⟨oc, od, kV, doc, pm, an, ct, osl, rfl, l, cc⟩, k⟩, by
  unfold PySem.W.tabIn
  rw [a]
  show (match K.lookup f with
    | some ⟨_, _, .func fd, _⟩ => (match fd.code with
      | .ref c => (match K.lookup c with
        | some ⟨_, _, .fields vs, _⟩ => (match (vs[11]? : Option Value) with
          | some (.ref P) => some (c, P)
          | _ => none)
        | _ => none)
      | _ => none)
    | _ => none) = some (c, P0)
  rw [l]
  show (match K.lookup c with
        | some ⟨_, _, .fields vs, _⟩ => (match (vs[11]? : Option Value) with
          | some (.ref P) => some (c, P)
          | _ => none)
        | _ => none) = some (c, P0)
  rw [lc]
  show (match (vs[11]? : Option Value) with
          | some (.ref P) => some (c, P)
          | _ => none) = some (c, P0)
  rw [t], n⟩
/-- a method of the class at C -/
def ClsFun (K : PySem.W.Frag) (C : Addr) (m q : Str) (st : Stmt) : Prop := ∃ (f : Addr) (fd : FuncData), Meth K C m f ∧ Fun K m q st f fd
theorem clsFun {K : PySem.W.Frag} {C : Addr} {m q : Str} {st : Stmt} {f : Addr} {oc : Value} {od an : Option Addr} {osl : Array (Option Value)} {kV doc pm cdv ct : Value} (a : PySem.W.findIn K (.ref C) m = some (some (.ref f))) (i : PySem.W.isFn K (.ref f) = true) (l : K.lookup f = some ⟨oc, od, .func (PySem.W.fnOf m q (defArgs st) (defBody st) (defScope st) .none kV doc pm an cdv ct), osl⟩)
    (c : PySem.W.codeIn K cdv q = true) (k : PySem.W.keepIn K (.ref f) = true) : ClsFun K C m q st := ⟨f, _, ⟨a, i, k⟩, fun_mk l c k⟩
theorem cal_top {P : Program} {w : World} {K : PySem.W.Frag} {mg : Str → Option Value} {base h : Heap} {k : Nat} {x : Str} {st : Stmt} {sp : Sp} {ps : List Str} (X : K.In h) (G : h.Ns mainGlobals mg) (t : TopFun K x st) (ok : ∀ f fd, Fun K x x st f fd → FnOk P w K mg base CX0 k f fd ps sp)
    (hb : ∀ (kV doc pm : Value) (an : Option Addr) (cdv ct : Value) (us : List Value), us.length = ps.length → bindArgs (PySem.W.fnOf x x (defArgs st) (defBody st) (defScope st) .none kV doc pm an cdv ct) ⟨us, []⟩ = pure (ps.zip us)) : Cal P w K mg base k x sp := by
  obtain ⟨f, fd, a, F⟩ := t
  exact ⟨f, fd, ps, ok f fd F, PySem.W.mg_of X G a, F.kp, F.binds hb⟩
/-! ### from the promise of answers to what the row asks -/
theorem dw_ints {K : PySem.W.Frag} {H : Hp} : ∀ {vs : List V} {l : List Int}, DwAll K H vs (l.map PySem.W.WData.int) → vs = iV l
  | _, [], h => by cases h; rfl
  | _, i :: l, h => by
    cases h with
    | cons h1 h2 => cases h1; rw [dw_ints h2]; rfl
theorem ints_dw {K : PySem.W.Frag} {H : Hp} : ∀ (l : List Int), DwAll K H (iV l) (l.map PySem.W.WData.int)
  | [] => .nil
  | i :: l => .cons (.int i) (ints_dw l)
theorem tabs_start {T : List (Addr × Str)} {H : Hp} (h : ∀ p ∈ T, H p.1 = some (.tbl #[])) : Tabs T H := fun p hp => ⟨#[], h p hp, by first | trivial | rfl | (simp [TriplesOk]), fun pos cv hc => by
  exact absurd hc (by simp [codeAmong])⟩
theorem end_sp {K : PySem.W.Frag} {T : List (Addr × Str)} {H0 H : Hp} {xs : List V} {E : XK} (a : PySem.W.Codec.denoteAll PySem.Challenge.rw_threetimes_s01_answers.args) (up : ∀ b o, H0 b = some o → H b = some o) (ht : ∀ p ∈ T, H p.1 = some (.tbl #[])) (hask : PySem.W.Codec.app PySem.Challenge.rw_threetimes_s01_answers.args PySem.Challenge.rw_threetimes_s01_answers.asked a = true)
    (hd : DwAll K H0 xs (PySem.W.Codec.encAll PySem.Challenge.rw_threetimes_s01_answers.args a)) : spAnswers K T xs H (fun v H' => Dw K H' v (PySem.Challenge.rw_threetimes_s01_answers.ret.enc (PySem.W.Codec.app PySem.Challenge.rw_threetimes_s01_answers.args PySem.Challenge.rw_threetimes_s01_answers.f a))) E := by
  obtain ⟨l, u⟩ := a
  have hd : DwAll K H0 xs [PySem.W.WData.list ((l : List Int).map PySem.W.WData.int)] := hd
  cases hd with
  | cons h1 h2 =>
    cases h2
    cases h1 with
    | lst hs hx =>
      rename_i p vs
      refine ⟨p, l, rfl, ?_, hask, tabs_start ht, fun r H' hr => ?_⟩
      · rw [dw_ints hx] at hs
        exact sq_extN hs fun b o hb _ => up b o hb
      · exact Dw.lst (SqL.of hr) (ints_dw _)
theorem met_cls {P : Program} {w : World} {K : PySem.W.Frag} {mg : Str → Option Value} {base : Heap} {k : Nat} {C : Addr} {m q : Str} {st : Stmt} {sp : Sp} {ps : List Str} (t : ClsFun K C m q st) (ok : ∀ f fd, Fun K m q st f fd → FnOk P w K mg base CX0 k f fd ps sp)
    (hb : ∀ (kV doc pm : Value) (an : Option Addr) (cdv ct : Value) (us : List Value), us.length = ps.length → bindArgs (PySem.W.fnOf m q (defArgs st) (defBody st) (defScope st) .none kV doc pm an cdv ct) ⟨us, []⟩ = pure (ps.zip us)) : Met P w K mg base C k m sp := by
  obtain ⟨f, fd, a, F⟩ := t
  exact ⟨f, fd, ps, a, ok f fd F, F.binds hb⟩
theorem FunC.binds {K : PySem.W.Frag} {x qual : Str} {st : Stmt} {f c : Addr} {fd : FuncData} {ps : List Str} (F : FunC K x qual st f fd c)
    (h : ∀ (kV doc pm : Value) (an : Option Addr) (cdv ct : Value) (us : List Value), us.length = ps.length → bindArgs (PySem.W.fnOf x qual (defArgs st) (defBody st) (defScope st) .none kV doc pm an cdv ct) ⟨us, []⟩ = pure (ps.zip us)) : Binds K fd ps [] := by
  obtain ⟨oc, od, kV, doc, pm, an, ct, osl, rfl, lk, hcd⟩ := F.ex
  exact .all (h kV doc pm an (.ref c) ct)
def tabs2 (P1 P2 : Addr) : List (Addr × Str) := [(P1, "nearest_chosen.<locals>." ++ "<lambda>"), (P2, "nearest_places.<locals>." ++ "<lambda>")]
theorem all_mk {P : Program} {w : World} {K : PySem.W.Frag} {h : Heap} {mg mb : Str → Option Value} {q : Program} {loose : List Str} {mean : ExcName → Option Value} {d1 d2 : DefRec} {c1 P1 c2 P2 C cT : Addr} {odT : Option Addr} {its : Array Value} {nT : Nat} {slT : Array (Option Value)} {k_BEGIN k_LINE k_CUT k_CHOOSE k_TURN k_GREEDY k_BEST k_LINES k_CHOSEN k_NEAREST k_NEAR k_DIST k_TOLD k_KNOWS k_ALL k_IFCHOSEN k_WORST k_LEASTALL k_BACK k_NO_SUCH k_NO_CHANGE k_NOT_BEGUN k_OUT_OF_RANGE k_TOO_MANY k_THERE_IS_NONE k_MOST_PLACES k_MOST_LINES k_MOST_LENGTH k_MOST_NEAREST k_MOST_PLACES_FOR_BEST k_MOST_TAKEN_BACK k_FAR : Tok} (X : K.In h) (T0 : Top q loose mean mg mb h)
    (t_distances : TopFun K "distances" sDist)
    (t_chosen_places : TopFun K "chosen_places" sChosen)
    (t_near_places : TopFun K "near_places" sNear)
    (t_told_by_nearest : TopFun K "told_by_nearest" sToldBy)
    (t_told_distance : TopFun K "told_distance" sTold)
    (t_worst_told : TopFun K "worst_told" sWorst)
    (t_known_by_one : TopFun K "known_by_one" sOne)
    (t_known_by_all : TopFun K "known_by_all" sKnown)
    (t_how_many_hold : TopFun K "how_many_hold" sHold)
    (t_greedy_choice : TopFun K "greedy_choice" sGreedy)
    (t_best_choice : TopFun K "best_choice" sBest)
    (t_changed : TopFun K "changed" sChanged)
    (t_looked_over : TopFun K "looked_over" sOver)
    (t_looked_at : TopFun K "looked_at" sAt)
    (t_answered : TopFun K "answered" sAnswered)
    (t_answers : TopFun K "answers" sAnswers)
    (t_nearest_chosen : TopLam K "nearest_chosen" sNearest c1 P1)
    (t_nearest_places : TopLam K "nearest_places" sFirst c2 P2)
    (ne12 : P1 ≠ P2)
    (r1 : (recsOf q).find? (fun e => e.name == ("nearest_chosen" : Str)) = some d1)
    (r2 : (recsOf q).find? (fun e => e.name == ("nearest_places" : Str)) = some d2)
    (aC : PySem.W.nsIn K mainGlobals "Places" = some (some (.ref C)))
    (pg : PySem.W.plainGet K C Str.empty = true)
    (hd : PySem.W.hasDictIn K C = true)
    (po : PySem.W.plainOver K C = true)
    (sa : PySem.W.findIn K (.ref C) "__setattr__" = some (some (.builtin "object.__setattr__")))
    (mk : PySem.W.makesIn K C = true)
    (kc : PySem.W.keepIn K (.ref C) = true)
    (n_count : PySem.W.findIn K (.ref C) "count" = some none)
    (n_lines : PySem.W.findIn K (.ref C) "lines" = some none)
    (n_choice : PySem.W.findIn K (.ref C) "choice" = some none)
    (n_earlier : PySem.W.findIn K (.ref C) "earlier" = some none)
    (m_init : ClsFun K C "__init__" "Places.__init__" sInit)
    (m_rows : ClsFun K C "rows" "Places.rows" sRows)
    (m_chosen : ClsFun K C "chosen" "Places.chosen" sChosenM)
    (m_change : ClsFun K C "change" "Places.change" sChange)
    (m_begin : ClsFun K C "begin" "Places.begin" sBegin)
    (m_line : ClsFun K C "line" "Places.line" sLine)
    (m_cut : ClsFun K C "cut" "Places.cut" sCut)
    (m_choose : ClsFun K C "choose" "Places.choose" sChoose)
    (m_turn : ClsFun K C "turn" "Places.turn" sTurn)
    (m_greedy : ClsFun K C "greedy" "Places.greedy" sGreedyM)
    (m_best : ClsFun K C "best" "Places.best" sBestM)
    (m_back : ClsFun K C "back" "Places.back" sBack)
    (m_tell_state : ClsFun K C "tell_state" "Places.tell_state" sTState)
    (m_tell_lines : ClsFun K C "tell_lines" "Places.tell_lines" sTLines)
    (m_tell_chosen : ClsFun K C "tell_chosen" "Places.tell_chosen" sTChosen)
    (m_tell_nearest : ClsFun K C "tell_nearest" "Places.tell_nearest" sTNearest)
    (m_tell_near : ClsFun K C "tell_near" "Places.tell_near" sTNear)
    (m_tell_first : ClsFun K C "tell_first" "Places.tell_first" sTFirst)
    (m_tell_dist : ClsFun K C "tell_dist" "Places.tell_dist" sTDist)
    (m_tell_told : ClsFun K C "tell_told" "Places.tell_told" sTTold)
    (m_tell_knows : ClsFun K C "tell_knows" "Places.tell_knows" sTKnows)
    (m_tell_all : ClsFun K C "tell_all" "Places.tell_all" sTAll)
    (m_tell_if_chosen : ClsFun K C "tell_if_chosen" "Places.tell_if_chosen" sTIf)
    (m_tell_least_all : ClsFun K C "tell_least_all" "Places.tell_least_all" sTLeast)
    (m_tell_worst : ClsFun K C "tell_worst" "Places.tell_worst" sTWorst)
    (aT : PySem.W.nsIn K mainGlobals "ARGUMENT_COUNTS" = some (some (.ref cT)))
    (lT : K.lookup cT = some ⟨.type "tuple", odT, .seq its nT, slT⟩)
    (zT : its.size ≤ sizeLine)
    (vT : Vals (nV [1, 3, 1, 1, 1, 1, 0, 0, 0, 1, 1, 2, 2, 1, 0, 1, 2, 0, 0, 0, 0]) its.toList)
    (v_BEGIN : PySem.W.nsIn K mainGlobals "BEGIN" = some (some (.int (0) k_BEGIN)))
    (v_LINE : PySem.W.nsIn K mainGlobals "LINE" = some (some (.int (1) k_LINE)))
    (v_CUT : PySem.W.nsIn K mainGlobals "CUT" = some (some (.int (2) k_CUT)))
    (v_CHOOSE : PySem.W.nsIn K mainGlobals "CHOOSE" = some (some (.int (3) k_CHOOSE)))
    (v_TURN : PySem.W.nsIn K mainGlobals "TURN" = some (some (.int (4) k_TURN)))
    (v_GREEDY : PySem.W.nsIn K mainGlobals "GREEDY" = some (some (.int (5) k_GREEDY)))
    (v_BEST : PySem.W.nsIn K mainGlobals "BEST" = some (some (.int (6) k_BEST)))
    (v_LINES : PySem.W.nsIn K mainGlobals "LINES" = some (some (.int (7) k_LINES)))
    (v_CHOSEN : PySem.W.nsIn K mainGlobals "CHOSEN" = some (some (.int (8) k_CHOSEN)))
    (v_NEAREST : PySem.W.nsIn K mainGlobals "NEAREST" = some (some (.int (9) k_NEAREST)))
    (v_NEAR : PySem.W.nsIn K mainGlobals "NEAR" = some (some (.int (10) k_NEAR)))
    (v_DIST : PySem.W.nsIn K mainGlobals "DIST" = some (some (.int (11) k_DIST)))
    (v_TOLD : PySem.W.nsIn K mainGlobals "TOLD" = some (some (.int (12) k_TOLD)))
    (v_KNOWS : PySem.W.nsIn K mainGlobals "KNOWS" = some (some (.int (13) k_KNOWS)))
    (v_ALL : PySem.W.nsIn K mainGlobals "ALL" = some (some (.int (14) k_ALL)))
    (v_IFCHOSEN : PySem.W.nsIn K mainGlobals "IFCHOSEN" = some (some (.int (15) k_IFCHOSEN)))
    (v_WORST : PySem.W.nsIn K mainGlobals "WORST" = some (some (.int (17) k_WORST)))
    (v_LEASTALL : PySem.W.nsIn K mainGlobals "LEASTALL" = some (some (.int (18) k_LEASTALL)))
    (v_BACK : PySem.W.nsIn K mainGlobals "BACK" = some (some (.int (19) k_BACK)))
    (v_NO_SUCH : PySem.W.nsIn K mainGlobals "NO_SUCH" = some (some (.int (-2) k_NO_SUCH)))
    (v_NO_CHANGE : PySem.W.nsIn K mainGlobals "NO_CHANGE" = some (some (.int (-6) k_NO_CHANGE)))
    (v_NOT_BEGUN : PySem.W.nsIn K mainGlobals "NOT_BEGUN" = some (some (.int (-11) k_NOT_BEGUN)))
    (v_OUT_OF_RANGE : PySem.W.nsIn K mainGlobals "OUT_OF_RANGE" = some (some (.int (-22) k_OUT_OF_RANGE)))
    (v_TOO_MANY : PySem.W.nsIn K mainGlobals "TOO_MANY" = some (some (.int (-28) k_TOO_MANY)))
    (v_THERE_IS_NONE : PySem.W.nsIn K mainGlobals "THERE_IS_NONE" = some (some (.int (-33) k_THERE_IS_NONE)))
    (v_MOST_PLACES : PySem.W.nsIn K mainGlobals "MOST_PLACES" = some (some (.int (8) k_MOST_PLACES)))
    (v_MOST_LINES : PySem.W.nsIn K mainGlobals "MOST_LINES" = some (some (.int (14) k_MOST_LINES)))
    (v_MOST_LENGTH : PySem.W.nsIn K mainGlobals "MOST_LENGTH" = some (some (.int (99) k_MOST_LENGTH)))
    (v_MOST_NEAREST : PySem.W.nsIn K mainGlobals "MOST_NEAREST" = some (some (.int (8) k_MOST_NEAREST)))
    (v_MOST_PLACES_FOR_BEST : PySem.W.nsIn K mainGlobals "MOST_PLACES_FOR_BEST" = some (some (.int (6) k_MOST_PLACES_FOR_BEST)))
    (v_MOST_TAKEN_BACK : PySem.W.nsIn K mainGlobals "MOST_TAKEN_BACK" = some (some (.int (10) k_MOST_TAKEN_BACK)))
    (v_FAR : PySem.W.nsIn K mainGlobals "FAR" = some (some (.int (1000) k_FAR)))
    (f_range : PySem.W.nsIn K mainGlobals "range" = some none)
    (f_min : PySem.W.nsIn K mainGlobals "min" = some none)
    (f_max : PySem.W.nsIn K mainGlobals "max" = some none)
    (f_len : PySem.W.nsIn K mainGlobals "len" = some none)
    (f_sum : PySem.W.nsIn K mainGlobals "sum" = some none)
    (f_sorted : PySem.W.nsIn K mainGlobals "sorted" = some none)
    (f_list : PySem.W.nsIn K mainGlobals "list" = some none)
    {fa : Addr} (hmg : mg "answers" = some (.ref fa)) :
    ∃ (fd : FuncData) (cs : List (Addr × Addr)) (sp : Sp), (∀ y ∈ cs, h.get? y.2 = some { cls := .none, data := .fields #[] }) ∧ (∀ y ∈ cs, K.lookup y.2 = none) ∧ (∀ y ∈ cs, PySem.W.CodeHd h y.1 y.2) ∧ (∀ (s : Shared) (us : List Value), us.length = (["calls"] : List Str).length → BindsTo s fd ⟨us, []⟩ ((["calls"] : List Str).zip us)) ∧
      (∀ (H0 H : Hp) (xs : List V) (a : PySem.W.Codec.denoteAll PySem.Challenge.rw_threetimes_s01_answers.args), (∀ b o, H0 b = some o → H b = some o) → (∀ y ∈ cs, H y.2 = some (.tbl #[])) → PySem.W.Codec.withinAll PySem.Challenge.rw_threetimes_s01_answers.args a = true → PySem.W.Codec.app PySem.Challenge.rw_threetimes_s01_answers.args PySem.Challenge.rw_threetimes_s01_answers.asked a = true → DwAll K H0 xs (PySem.W.Codec.encAll PySem.Challenge.rw_threetimes_s01_answers.args a) →
        sp xs H (fun v H' => Dw K H' v (PySem.Challenge.rw_threetimes_s01_answers.ret.enc (PySem.W.Codec.app PySem.Challenge.rw_threetimes_s01_answers.args PySem.Challenge.rw_threetimes_s01_answers.f a))) fun _ _ _ => False) ∧
      ∀ base : Heap, K.In base → base.Ns mainGlobals mg → (∀ y ∈ cs, TabB base mg y.1 y.2) → FnOk P w K mg base CX0 8 fa fd ["calls"] sp := by
  have G0 := T0.g
  have iv : ∀ {x : Str} {i : Int} {t : Tok}, PySem.W.nsIn K mainGlobals x = some (some (.int i t)) → ∃ u, mg x = some u ∧ RelV (.int i) u := fun z => ⟨_, PySem.W.mg_of X G0 z, ⟨_, rfl⟩⟩
  have G : Glb mg := ⟨iv v_FAR, PySem.W.mg_none_of X G0 f_range, PySem.W.mg_none_of X G0 f_min, PySem.W.mg_none_of X G0 f_max, PySem.W.mg_none_of X G0 f_len, PySem.W.mg_none_of X G0 f_sum, PySem.W.mg_none_of X G0 f_sorted⟩
  have N : Num mg := ⟨iv v_NO_SUCH, iv v_OUT_OF_RANGE, iv v_TOO_MANY, iv v_MOST_LINES, iv v_MOST_LENGTH, iv v_MOST_NEAREST, iv v_MOST_PLACES_FOR_BEST⟩
  have U : Nums mg := ⟨iv v_BEGIN, iv v_LINE, iv v_CUT, iv v_CHOOSE, iv v_TURN, iv v_GREEDY, iv v_BEST, iv v_LINES, iv v_CHOSEN, iv v_NEAREST, iv v_NEAR, iv v_DIST, iv v_TOLD, iv v_KNOWS, iv v_ALL, iv v_IFCHOSEN, iv v_WORST, iv v_LEASTALL, iv v_BACK, iv v_NOT_BEGUN⟩
  have NN := iv v_THERE_IS_NONE
  have XT : Txt K C := ⟨⟨pg, hd, po, sa⟩, n_count, n_lines, n_choice⟩
  obtain ⟨fA, fdA, aA, FA⟩ := t_answers
  have e := hmg.symm.trans (PySem.W.mg_of X G0 aA)
  cases e
  obtain ⟨fN, fdN, aN, FN, tN, nN⟩ := t_nearest_chosen
  obtain ⟨fF, fdF, aF, FF, tF, nF⟩ := t_nearest_places
  obtain ⟨hN1, hN2⟩ := PySem.W.tab_of T0 X r1 tN
  obtain ⟨hF1, hF2⟩ := PySem.W.tab_of T0 X r2 tF
  have two : ∀ {Z : Addr × Addr → Prop}, Z (c1, P1) → Z (c2, P2) → ∀ y ∈ [(c1, P1), (c2, P2)], Z y := fun a b y hy => by
    rcases List.mem_cons.mp hy with rfl | hy
    · exact a
    · rw [List.mem_singleton.mp hy]; exact b
  refine ⟨fdA, [(c1, P1), (c2, P2)], spAnswers K (tabs2 P1 P2), two hN2 hF2, two nN nF, two hN1 hF1, ?_, ?_, ?_⟩
  · have bA : Binds K fdA ["calls"] [] := FA.binds (fun _ _ _ _ _ _ us hl => match us, hl with | [_], _ => rfl)
    obtain ⟨oc, od, kV, doc, pm, an, cdv, ct, osl, rfl, _⟩ := FA.ex
    exact fun s us hu => match us, hu with | [_], _ => .of_eq rfl
  · intro H0 H xs a up ht hwi hask hdw
    refine end_sp a up (fun p hp => ?_) hask hdw
    rcases List.mem_cons.mp hp with rfl | hp
    · exact ht (c1, P1) (by simp)
    · rw [List.mem_singleton.mp hp]; exact ht (c2, P2) (by simp)
  · intro base KB GB TB
    have TF1 : TabF (tabs2 P1 P2) base mg c1 P1 ("nearest_chosen.<locals>." ++ "<lambda>") := ⟨TB (c1, P1) (by simp), by simp [tabs2], fun p hp e => by
      rcases List.mem_cons.mp hp with rfl | hp
      · rfl
      · rw [List.mem_singleton.mp hp] at e; exact absurd e.symm ne12⟩
    have TF2 : TabF (tabs2 P1 P2) base mg c2 P2 ("nearest_places.<locals>." ++ "<lambda>") := ⟨TB (c2, P2) (by simp), by simp [tabs2], fun p hp e => by
      rcases List.mem_cons.mp hp with rfl | hp
      · exact absurd e ne12
      · rw [List.mem_singleton.mp hp]⟩
    have C_dist : Cal P w K mg base 1 "distances" spDist := cal_top X G0 t_distances (fun f fd F => ok_dist0 F G) (fun _ _ _ _ _ _ us hl => match us, hl with | [_, _], _ => rfl)
    have C_chosen : Cal P w K mg base 1 "chosen_places" spChosen := cal_top X G0 t_chosen_places (fun f fd F => ok_chosen F G) (fun _ _ _ _ _ _ us hl => match us, hl with | [_, _], _ => rfl)
    have C_near : Cal P w K mg base 1 "near_places" (spNear K) := cal_top X G0 t_near_places (fun f fd F => ok_near F G) (fun _ _ _ _ _ _ us hl => match us, hl with | [_, _], _ => rfl)
    have C_nearest : Cal P w K mg base 1 "nearest_chosen" (spNearest K (tabs2 P1 P2)) := ⟨fN, fdN, ["row", "chosen"], ok_nearest FN G TF1, PySem.W.mg_of X G0 aN, FN.kp, FN.binds (fun _ _ _ _ _ _ us hl => match us, hl with | [_, _], _ => rfl)⟩
    have C_first : Cal P w K mg base 1 "nearest_places" (spFirst K (tabs2 P1 P2)) := ⟨fF, fdF, ["row", "k"], ok_first FF G TF2, PySem.W.mg_of X G0 aF, FF.kp, FF.binds (fun _ _ _ _ _ _ us hl => match us, hl with | [_, _], _ => rfl)⟩
    have C_toldBy : Cal P w K mg base 2 "told_by_nearest" (spToldBy K (tabs2 P1 P2)) := cal_top X G0 t_told_by_nearest (fun f fd F => ok_toldBy F C_nearest) (fun _ _ _ _ _ _ us hl => match us, hl with | [_, _, _, _], _ => rfl)
    have C_told : Cal P w K mg base 3 "told_distance" (spTold K (tabs2 P1 P2)) := cal_top X G0 t_told_distance (fun f fd F => ok_told F G C_near C_toldBy) (fun _ _ _ _ _ _ us hl => match us, hl with | [_, _, _, _], _ => rfl)
    have C_worst : Cal P w K mg base 4 "worst_told" (spWorst K (tabs2 P1 P2)) := cal_top X G0 t_worst_told (fun f fd F => ok_worst F G C_told) (fun _ _ _ _ _ _ us hl => match us, hl with | [_, _], _ => rfl)
    have C_one : Cal P w K mg base 2 "known_by_one" (spOne K) := cal_top X G0 t_known_by_one (fun f fd F => ok_one F G C_near) (fun _ _ _ _ _ _ us hl => match us, hl with | [_, _], _ => rfl)
    have C_known : Cal P w K mg base 3 "known_by_all" spKnown := cal_top X G0 t_known_by_all (fun f fd F => ok_known F G C_chosen C_one) (fun _ _ _ _ _ _ us hl => match us, hl with | [_, _], _ => rfl)
    have C_hold : Cal P w K mg base 1 "how_many_hold" spHold := cal_top X G0 t_how_many_hold (fun f fd F => ok_hold F G) (fun _ _ _ _ _ _ us hl => match us, hl with | [_, _], _ => rfl)
    have C_greedy : Cal P w K mg base 2 "greedy_choice" (spGreedy (tabs2 P1 P2)) := cal_top X G0 t_greedy_choice (fun f fd F => ok_greedy F G C_first C_hold) (fun _ _ _ _ _ _ us hl => match us, hl with | [_, _], _ => rfl)
    have C_best : Cal P w K mg base 4 "best_choice" spBest := cal_top X G0 t_best_choice (fun f fd F => ok_best F G C_known) (fun _ _ _ _ _ _ us hl => match us, hl with | [_], _ => rfl)
    have L := lies C
    have M_rows : Met P w K mg base C 2 "rows" (spRows (ObjAt C)) := met_cls m_rows (fun f fd F => ok_rows F L XT C_dist) (fun _ _ _ _ _ _ us hl => match us, hl with | [_], _ => rfl)
    have M_chosen : Met P w K mg base C 2 "chosen" (spChosenM (ObjAt C)) := met_cls m_chosen (fun f fd F => ok_chosenM F L XT C_chosen) (fun _ _ _ _ _ _ us hl => match us, hl with | [_], _ => rfl)
    have M_change : Met P w K mg base C 4 "change" (spChange (ObjAt C)) := met_cls m_change (fun f fd F => ok_change F XT n_earlier (iv v_MOST_TAKEN_BACK) M_rows C_known) (fun _ _ _ _ _ _ us hl => match us, hl with | [_, _, _], _ => rfl)
    have hC : ("change" : Str) ∈ msAll := by simp
    have hR : ("rows" : Str) ∈ msAll := by simp
    have hH : ("chosen" : Str) ∈ msAll := by simp
    have MM : Mets P w K mg base C (tabs2 P1 P2) :=
      { line := met_cls m_line (fun f fd F => ok_line F L XT G N hC M_change) (fun _ _ _ _ _ _ us hl => match us, hl with | [_, _, _, _], _ => rfl)
        cut := met_cls m_cut (fun f fd F => ok_cut F L XT G N hC M_change) (fun _ _ _ _ _ _ us hl => match us, hl with | [_, _], _ => rfl)
        choose := met_cls m_choose (fun f fd F => ok_choose F L XT N hC M_change) (fun _ _ _ _ _ _ us hl => match us, hl with | [_, _], _ => rfl)
        turn := met_cls m_turn (fun f fd F => ok_turn F L XT N hC M_change) (fun _ _ _ _ _ _ us hl => match us, hl with | [_, _], _ => rfl)
        greedy := met_cls m_greedy (fun f fd F => ok_greedyM F L XT N hC hR M_change M_rows C_greedy) (fun _ _ _ _ _ _ us hl => match us, hl with | [_, _], _ => rfl)
        best := met_cls m_best (fun f fd F => ok_bestM F L XT N hC hR M_change M_rows C_best) (fun _ _ _ _ _ _ us hl => match us, hl with | [_], _ => rfl)
        lines := met_cls m_tell_lines (fun f fd F => ok_tlines F L XT G) (fun _ _ _ _ _ _ us hl => match us, hl with | [_], _ => rfl)
        chosen := met_cls m_tell_chosen (fun f fd F => ok_tchosen F L XT G hH M_chosen) (fun _ _ _ _ _ _ us hl => match us, hl with | [_], _ => rfl)
        nearest := met_cls m_tell_nearest (fun f fd F => ok_tnearest F L XT G N NN hH hR M_chosen M_rows C_nearest) (fun _ _ _ _ _ _ us hl => match us, hl with | [_, _], _ => rfl)
        near := met_cls m_tell_near (fun f fd F => ok_tnear F L XT G N hH hR M_chosen M_rows C_near) (fun _ _ _ _ _ _ us hl => match us, hl with | [_, _], _ => rfl)
        first := met_cls m_tell_first (fun f fd F => ok_tfirst F L XT G N hR M_rows C_first) (fun _ _ _ _ _ _ us hl => match us, hl with | [_, _, _], _ => rfl)
        dist := met_cls m_tell_dist (fun f fd F => ok_tdist F L XT G N NN hR M_rows) (fun _ _ _ _ _ _ us hl => match us, hl with | [_, _, _], _ => rfl)
        told := met_cls m_tell_told (fun f fd F => ok_ttold F L XT N NN hH hR M_chosen M_rows C_told) (fun _ _ _ _ _ _ us hl => match us, hl with | [_, _, _], _ => rfl)
        knows := met_cls m_tell_knows (fun f fd F => ok_tknows F L XT N hH hR M_chosen M_rows C_one) (fun _ _ _ _ _ _ us hl => match us, hl with | [_, _], _ => rfl)
        all := met_cls m_tell_all (fun f fd F => ok_tall F L XT hR M_rows C_known) (fun _ _ _ _ _ _ us hl => match us, hl with | [_], _ => rfl)
        ifchosen := met_cls m_tell_if_chosen (fun f fd F => ok_tif F L XT N hR M_rows C_known) (fun _ _ _ _ _ _ us hl => match us, hl with | [_, _], _ => rfl)
        leastall := met_cls m_tell_least_all (fun f fd F => ok_tleast F L XT N hR M_rows C_known C_best) (fun _ _ _ _ _ _ us hl => match us, hl with | [_], _ => rfl)
        worst := met_cls m_tell_worst (fun f fd F => ok_tworst F L XT (PySem.W.mg_none_of X G0 f_list) NN hH hR M_chosen M_rows C_worst) (fun _ _ _ _ _ _ us hl => match us, hl with | [_], _ => rfl)
        state := met_cls m_tell_state (fun f fd F => ok_tstate F XT n_earlier G) (fun _ _ _ _ _ _ us hl => match us, hl with | [_], _ => rfl)
        back := met_cls m_back (fun f fd F => ok_back F XT n_earlier G (iv v_NO_CHANGE)) (fun _ _ _ _ _ _ us hl => match us, hl with | [_], _ => rfl)
        begin_ := met_cls m_begin (fun f fd F => ok_begin F XT n_earlier N (iv v_MOST_PLACES)) (fun _ _ _ _ _ _ us hl => match us, hl with | [_, _], _ => rfl) }
    have C_changed : Cal P w K mg base 6 "changed" (spPick (tabs2 P1 P2) C psCh) := cal_top X G0 t_changed (fun f fd F => ok_changed F XT.cl U MM) (fun _ _ _ _ _ _ us hl => match us, hl with | [_, _, _], _ => rfl)
    have C_over : Cal P w K mg base 6 "looked_over" (spPick0 (tabs2 P1 P2) C psOv) := cal_top X G0 t_looked_over (fun f fd F => ok_over F XT.cl U MM) (fun _ _ _ _ _ _ us hl => match us, hl with | [_, _], _ => rfl)
    have C_at : Cal P w K mg base 6 "looked_at" (spPick (tabs2 P1 P2) C psAt) := cal_top X G0 t_looked_at (fun f fd F => ok_at F XT.cl U MM) (fun _ _ _ _ _ _ us hl => match us, hl with | [_, _, _], _ => rfl)
    have C_answered : Cal P w K mg base 7 "answered" (spAnswered (tabs2 P1 P2) (StAt C)) := cal_top X G0 t_answered (fun f fd F => ok_answered F XT G U MM C_changed C_over C_at) (fun _ _ _ _ _ _ us hl => match us, hl with | [_, _, _], _ => rfl)
    obtain ⟨fI, fdI, MI, FI⟩ := m_init
    exact ok_answers (k := 7) FA G (face C) (fun H => .inr ⟨_, its, nT, lT, rfl, rfl, zT, vT⟩) (PySem.W.mg_of X G0 aT) (PySem.W.mg_of X G0 aC) ⟨mk, MI.at_, MI.fn, kc⟩ (ok_init FI XT n_earlier) (FI.binds (fun _ _ _ _ _ _ us hl => match us, hl with | [_], _ => rfl)) (by decide) C_answered
end TP

/-! ## Fin -/
set_option Elab.async false
open PySem PySem.W PyProof.Rows
set_option maxRecDepth 100000 in
set_option maxHeartbeats 8000000 in
theorem PySem.Challenge.cw_threetimes_s01_answers_holds : PySem.Challenge.rw_threetimes_s01_answers.Holds := by
  w_on; k_headS; (case hw => exact ⟨[.list [.int 0, .int 1]], by decide +kernel, by decide +kernel⟩)
  k_fillS
  refine EndT.walk_tabs (r := PySem.Challenge.rw_threetimes_s01_answers) (k := 8) (ps := ["calls"]) (by decide +kernel) rfl rfl ⟨rfl, by decide, by decide⟩ (fun w h Y => PySem.W.kIn_of Y) ?F
  intro w mg mb mean fa h Y KX TT0 hmg
  refine' TP.all_mk KX TT0 ?t_distances ?t_chosen_places ?t_near_places ?t_told_by_nearest ?t_told_distance ?t_worst_told ?t_known_by_one ?t_known_by_all ?t_how_many_hold ?t_greedy_choice ?t_best_choice ?t_changed ?t_looked_over ?t_looked_at ?t_answered ?t_answers ?t_nearest_chosen ?t_nearest_places ?ne12 ?r1 ?r2 ?aC ?pg ?hd ?po ?sa ?mk ?kc ?n_count ?n_lines ?n_choice ?n_earlier ?m_init ?m_rows ?m_chosen ?m_change ?m_begin ?m_line ?m_cut ?m_choose ?m_turn ?m_greedy ?m_best ?m_back ?m_tell_state ?m_tell_lines ?m_tell_chosen ?m_tell_nearest ?m_tell_near ?m_tell_first ?m_tell_dist ?m_tell_told ?m_tell_knows ?m_tell_all ?m_tell_if_chosen ?m_tell_least_all ?m_tell_worst ?aT ?lT ?zT ?vT ?v_BEGIN ?v_LINE ?v_CUT ?v_CHOOSE ?v_TURN ?v_GREEDY ?v_BEST ?v_LINES ?v_CHOSEN ?v_NEAREST ?v_NEAR ?v_DIST ?v_TOLD ?v_KNOWS ?v_ALL ?v_IFCHOSEN ?v_WORST ?v_LEASTALL ?v_BACK ?v_NO_SUCH ?v_NO_CHANGE ?v_NOT_BEGUN ?v_OUT_OF_RANGE ?v_TOO_MANY ?v_THERE_IS_NONE ?v_MOST_PLACES ?v_MOST_LINES ?v_MOST_LENGTH ?v_MOST_NEAREST ?v_MOST_PLACES_FOR_BEST ?v_MOST_TAKEN_BACK ?v_FAR ?f_range ?f_min ?f_max ?f_len ?f_sum ?f_sorted ?f_list hmg
  (case t_distances => refine' TP.topFun ?a ?l ?c ?k; (case a => k_is); (case l => k_is); (case c => k_is); (case k => k_is))
  (case t_chosen_places => refine' TP.topFun ?a ?l ?c ?k; (case a => k_is); (case l => k_is); (case c => k_is); (case k => k_is))
  (case t_near_places => refine' TP.topFun ?a ?l ?c ?k; (case a => k_is); (case l => k_is); (case c => k_is); (case k => k_is))
  (case t_told_by_nearest => refine' TP.topFun ?a ?l ?c ?k; (case a => k_is); (case l => k_is); (case c => k_is); (case k => k_is))
  (case t_told_distance => refine' TP.topFun ?a ?l ?c ?k; (case a => k_is); (case l => k_is); (case c => k_is); (case k => k_is))
  (case t_worst_told => refine' TP.topFun ?a ?l ?c ?k; (case a => k_is); (case l => k_is); (case c => k_is); (case k => k_is))
  (case t_known_by_one => refine' TP.topFun ?a ?l ?c ?k; (case a => k_is); (case l => k_is); (case c => k_is); (case k => k_is))
  (case t_known_by_all => refine' TP.topFun ?a ?l ?c ?k; (case a => k_is); (case l => k_is); (case c => k_is); (case k => k_is))
  (case t_how_many_hold => refine' TP.topFun ?a ?l ?c ?k; (case a => k_is); (case l => k_is); (case c => k_is); (case k => k_is))
  (case t_greedy_choice => refine' TP.topFun ?a ?l ?c ?k; (case a => k_is); (case l => k_is); (case c => k_is); (case k => k_is))
  (case t_best_choice => refine' TP.topFun ?a ?l ?c ?k; (case a => k_is); (case l => k_is); (case c => k_is); (case k => k_is))
  (case t_changed => refine' TP.topFun ?a ?l ?c ?k; (case a => k_is); (case l => k_is); (case c => k_is); (case k => k_is))
  (case t_looked_over => refine' TP.topFun ?a ?l ?c ?k; (case a => k_is); (case l => k_is); (case c => k_is); (case k => k_is))
  (case t_looked_at => refine' TP.topFun ?a ?l ?c ?k; (case a => k_is); (case l => k_is); (case c => k_is); (case k => k_is))
  (case t_answered => refine' TP.topFun ?a ?l ?c ?k; (case a => k_is); (case l => k_is); (case c => k_is); (case k => k_is))
  (case t_answers => refine' TP.topFun ?a ?l ?c ?k; (case a => k_is); (case l => k_is); (case c => k_is); (case k => k_is))
  (case t_nearest_chosen => refine' TP.topLam ?a ?l ?c ?k ?lc ?t ?n; (case a => k_is); (case l => k_is); (case c => k_is); (case k => k_is); (case lc => k_is); (case t => rfl); (case n => first | k_is | rfl | decide +kernel))
  (case t_nearest_places => refine' TP.topLam ?a ?l ?c ?k ?lc ?t ?n; (case a => k_is); (case l => k_is); (case c => k_is); (case k => k_is); (case lc => k_is); (case t => rfl); (case n => first | k_is | rfl | decide +kernel))
  (case ne12 => decide)
  (case r1 => rfl)
  (case r2 => rfl)
  (case aC => k_is)
  (case pg => k_is)
  (case hd => k_is)
  (case po => k_is)
  (case sa => k_is)
  (case mk => k_is)
  (case kc => k_is)
  (case n_count => k_is)
  (case n_lines => k_is)
  (case n_choice => k_is)
  (case n_earlier => k_is)
  (case m_init => refine' TP.clsFun ?a ?i ?l ?c ?k; (case a => k_is); (case i => k_is); (case l => k_is); (case c => k_is); (case k => k_is))
  (case m_rows => refine' TP.clsFun ?a ?i ?l ?c ?k; (case a => k_is); (case i => k_is); (case l => k_is); (case c => k_is); (case k => k_is))
  (case m_chosen => refine' TP.clsFun ?a ?i ?l ?c ?k; (case a => k_is); (case i => k_is); (case l => k_is); (case c => k_is); (case k => k_is))
  (case m_change => refine' TP.clsFun ?a ?i ?l ?c ?k; (case a => k_is); (case i => k_is); (case l => k_is); (case c => k_is); (case k => k_is))
  (case m_begin => refine' TP.clsFun ?a ?i ?l ?c ?k; (case a => k_is); (case i => k_is); (case l => k_is); (case c => k_is); (case k => k_is))
  (case m_line => refine' TP.clsFun ?a ?i ?l ?c ?k; (case a => k_is); (case i => k_is); (case l => k_is); (case c => k_is); (case k => k_is))
  (case m_cut => refine' TP.clsFun ?a ?i ?l ?c ?k; (case a => k_is); (case i => k_is); (case l => k_is); (case c => k_is); (case k => k_is))
  (case m_choose => refine' TP.clsFun ?a ?i ?l ?c ?k; (case a => k_is); (case i => k_is); (case l => k_is); (case c => k_is); (case k => k_is))
  (case m_turn => refine' TP.clsFun ?a ?i ?l ?c ?k; (case a => k_is); (case i => k_is); (case l => k_is); (case c => k_is); (case k => k_is))
  (case m_greedy => refine' TP.clsFun ?a ?i ?l ?c ?k; (case a => k_is); (case i => k_is); (case l => k_is); (case c => k_is); (case k => k_is))
  (case m_best => refine' TP.clsFun ?a ?i ?l ?c ?k; (case a => k_is); (case i => k_is); (case l => k_is); (case c => k_is); (case k => k_is))
  (case m_back => refine' TP.clsFun ?a ?i ?l ?c ?k; (case a => k_is); (case i => k_is); (case l => k_is); (case c => k_is); (case k => k_is))
  (case m_tell_state => refine' TP.clsFun ?a ?i ?l ?c ?k; (case a => k_is); (case i => k_is); (case l => k_is); (case c => k_is); (case k => k_is))
  (case m_tell_lines => refine' TP.clsFun ?a ?i ?l ?c ?k; (case a => k_is); (case i => k_is); (case l => k_is); (case c => k_is); (case k => k_is))
  (case m_tell_chosen => refine' TP.clsFun ?a ?i ?l ?c ?k; (case a => k_is); (case i => k_is); (case l => k_is); (case c => k_is); (case k => k_is))
  (case m_tell_nearest => refine' TP.clsFun ?a ?i ?l ?c ?k; (case a => k_is); (case i => k_is); (case l => k_is); (case c => k_is); (case k => k_is))
  (case m_tell_near => refine' TP.clsFun ?a ?i ?l ?c ?k; (case a => k_is); (case i => k_is); (case l => k_is); (case c => k_is); (case k => k_is))
  (case m_tell_first => refine' TP.clsFun ?a ?i ?l ?c ?k; (case a => k_is); (case i => k_is); (case l => k_is); (case c => k_is); (case k => k_is))
  (case m_tell_dist => refine' TP.clsFun ?a ?i ?l ?c ?k; (case a => k_is); (case i => k_is); (case l => k_is); (case c => k_is); (case k => k_is))
  (case m_tell_told => refine' TP.clsFun ?a ?i ?l ?c ?k; (case a => k_is); (case i => k_is); (case l => k_is); (case c => k_is); (case k => k_is))
  (case m_tell_knows => refine' TP.clsFun ?a ?i ?l ?c ?k; (case a => k_is); (case i => k_is); (case l => k_is); (case c => k_is); (case k => k_is))
  (case m_tell_all => refine' TP.clsFun ?a ?i ?l ?c ?k; (case a => k_is); (case i => k_is); (case l => k_is); (case c => k_is); (case k => k_is))
  (case m_tell_if_chosen => refine' TP.clsFun ?a ?i ?l ?c ?k; (case a => k_is); (case i => k_is); (case l => k_is); (case c => k_is); (case k => k_is))
  (case m_tell_least_all => refine' TP.clsFun ?a ?i ?l ?c ?k; (case a => k_is); (case i => k_is); (case l => k_is); (case c => k_is); (case k => k_is))
  (case m_tell_worst => refine' TP.clsFun ?a ?i ?l ?c ?k; (case a => k_is); (case i => k_is); (case l => k_is); (case c => k_is); (case k => k_is))
  (case aT => k_is)
  (case lT => k_is)
  (case zT => decide)
  (case vT => repeat (first | exact .nil | refine .cons ⟨_, rfl⟩ ?_))
  (case v_BEGIN => k_is)
  (case v_LINE => k_is)
  (case v_CUT => k_is)
  (case v_CHOOSE => k_is)
  (case v_TURN => k_is)
  (case v_GREEDY => k_is)
  (case v_BEST => k_is)
  (case v_LINES => k_is)
  (case v_CHOSEN => k_is)
  (case v_NEAREST => k_is)
  (case v_NEAR => k_is)
  (case v_DIST => k_is)
  (case v_TOLD => k_is)
  (case v_KNOWS => k_is)
  (case v_ALL => k_is)
  (case v_IFCHOSEN => k_is)
  (case v_WORST => k_is)
  (case v_LEASTALL => k_is)
  (case v_BACK => k_is)
  (case v_NO_SUCH => k_is)
  (case v_NO_CHANGE => k_is)
  (case v_NOT_BEGUN => k_is)
  (case v_OUT_OF_RANGE => k_is)
  (case v_TOO_MANY => k_is)
  (case v_THERE_IS_NONE => k_is)
  (case v_MOST_PLACES => k_is)
  (case v_MOST_LINES => k_is)
  (case v_MOST_LENGTH => k_is)
  (case v_MOST_NEAREST => k_is)
  (case v_MOST_PLACES_FOR_BEST => k_is)
  (case v_MOST_TAKEN_BACK => k_is)
  (case v_FAR => k_is)
  (case f_range => k_is)
  (case f_min => k_is)
  (case f_max => k_is)
  (case f_len => k_is)
  (case f_sum => k_is)
  (case f_sorted => k_is)
  (case f_list => k_is)
#print axioms PySem.Challenge.cw_threetimes_s01_answers_holds
