import PyProof.Rows.All
import PyKp429
import Wide.All
import OpenK.AllK
import Wide.FinOn
import HandS.ForMost
import HandS.ForSpec
import HandS.Wide
import HandS.Codes
import HandS.CallLocal
import HandS.More
import HandS.Evl
import HandS.SortKw
import HandS.Lambda
import HandS.Nested
import HandS.EndTab
import KE.SortKeyHeap
import HandS.Steps
import HandS.Text
import KE.KSortKey
import HandS.Keys
import PyWideLaws
import Open.SpecLaws
import KE.OsGo
import KE.KLam
import PySem.Challenge.RW_likings_s01_answers
/-! Short names for facts of lists. -/
namespace Lk
theorem in_cons {α : Type _} {x y : α} {l : List α} (h : x ∈ y :: l) : x = y ∨ x ∈ l := by
  cases h with
  | head => exact .inl rfl
  | tail _ z => exact .inr z
theorem in_app {α : Type _} {x : α} {l r : List α} (h : x ∈ l ++ r) : x ∈ l ∨ x ∈ r := List.mem_append.mp h
theorem in_one {α : Type _} {x y : α} (h : x ∈ [y]) : x = y := List.mem_singleton.mp h
theorem in_map {α β : Type _} {f : α → β} {y : β} {l : List α} (h : y ∈ l.map f) : ∃ x, x ∈ l ∧ f x = y := List.mem_map.mp h
theorem in_head {α : Type _} {x : α} {l : List α} : x ∈ x :: l := .head l
theorem in_at {α : Type _} {x : α} {l : List α} (h : x ∈ l) : ∃ i : Nat, l[i]? = some x := List.mem_iff_getElem?.mp h
theorem getD_at {α : Type _} {l : List α} {i : Nat} {d : α} : l.getD i d = l[i]?.getD d := List.getD_eq_getElem?_getD
theorem ext_at {α : Type _} {l r : List α} (h : ∀ i : Nat, l[i]? = r[i]?) : l = r := List.ext_getElem? h
theorem at_map {α β : Type _} {f : α → β} {l : List α} {i : Nat} : (l.map f)[i]? = l[i]?.map f := List.getElem?_map
theorem map_two {α β γ : Type _} {g : β → γ} {f : α → β} {l : List α} : (l.map f).map g = l.map (g ∘ f) := List.map_map
theorem map_on {α β : Type _} {l : List α} {f g : α → β} (h : ∀ x, x ∈ l → f x = g x) : l.map f = l.map g := List.map_congr_left h
theorem and_two {a b : Bool} : ((a && b) = true) = (a = true ∧ b = true) := Bool.and_eq_true a b
theorem lt_at {α : Type _} {l : List α} {i : Nat} {x : α} (h : l[i]? = some x) : i < l.length := by
  obtain ⟨z, _⟩ := List.getElem?_eq_some_iff.mp h
  exact z
end Lk
set_option Elab.async false
/-! The ratings: the program's matrix and the specification's list. -/
namespace Lk
open Kp429

/-- the pairs (place, value) of a row's values that are not 0, from place i on -/
def obs : Nat → List Nat → List (Nat × Nat)
  | _, [] => []
  | i, v :: r => if v = 0 then obs (i + 1) r else (i, v) :: obs (i + 1) r
def rowR (u i : Nat) (r : List Nat) : List Rating := (obs i r).map fun x => ⟨u, x.1, x.2⟩
def flatR : Nat → List (List Nat) → List Rating
  | _, [] => []
  | u, r :: R => rowR u 0 r ++ flatR (u + 1) R
def rowOfR (R : List (List Nat)) (u : Nat) : List Nat := R.getD u []
def col (R : List (List Nat)) (i : Nat) : List Nat := R.map fun r => r.getD i 0
def ent (R : List (List Nat)) (u i : Nat) : Nat := (rowOfR R u).getD i 0
def setE (R : List (List Nat)) (u i v : Nat) : List (List Nat) := R.set u ((rowOfR R u).set i v)
def dropU (R : List (List Nat)) (u : Nat) : List (List Nat) := R.set u (List.replicate (rowOfR R u).length 0)

theorem rowR_cons0 (u i : Nat) (r : List Nat) : rowR u i (0 :: r) = rowR u (i + 1) r := by
  simp [rowR, obs]
theorem rowR_consS (u i v : Nat) (r : List Nat) (h : v ≠ 0) : rowR u i (v :: r) = ⟨u, i, v⟩ :: rowR u (i + 1) r := by
  simp [rowR, obs, h]
theorem rowR_user {u i : Nat} {r : List Nat} {x : Rating} (h : x ∈ rowR u i r) : x.user = u := by
  unfold rowR at h
  obtain ⟨y, _, rfl⟩ := in_map h
  rfl
theorem obs_ge : ∀ {i : Nat} {r : List Nat} {x : Nat × Nat}, x ∈ obs i r → i ≤ x.1 ∧ x.1 < i + r.length ∧ x.2 ≠ 0 ∧ r[x.1 - i]? = some x.2
  | i, [], x, h => by simp [obs] at h
  | i, v :: r, x, h => by
    unfold obs at h
    have rec1 : x ∈ obs (i + 1) r → i ≤ x.1 ∧ x.1 < i + (v :: r).length ∧ x.2 ≠ 0 ∧ (v :: r)[x.1 - i]? = some x.2 := fun h => by
      obtain ⟨a, b, c, d⟩ := obs_ge h
      have e : x.1 - i = (x.1 - (i + 1)) + 1 := by omega
      rw [e, List.getElem?_cons_succ]
      simp only [List.length_cons]
      exact ⟨by omega, by omega, c, d⟩
    by_cases hv : v = 0
    · rw [if_pos hv] at h
      exact rec1 h
    · rw [if_neg hv] at h
      rcases in_cons h with e | h
      · subst e
        simp [hv]
      · exact rec1 h
theorem flat_user : ∀ {k : Nat} {R : List (List Nat)} {x : Rating}, x ∈ flatR k R → k ≤ x.user
  | k, [], x, h => by simp [flatR] at h
  | k, r :: R, x, h => by
    unfold flatR at h
    rcases in_app h with h | h
    · rw [rowR_user h]
      exact Nat.le_refl _
    · have := flat_user h
      omega

/-! ### a user's ratings, an item's ratings -/
theorem filter_all {α : Type} {l : List α} {p : α → Bool} (h : ∀ x ∈ l, p x = true) : l.filter p = l := List.filter_eq_self.mpr h
theorem filter_none {α : Type} {l : List α} {p : α → Bool} (h : ∀ x ∈ l, p x = false) : l.filter p = [] := List.filter_eq_nil_iff.mpr fun x hx => by rw [h x hx]; exact Bool.false_ne_true
theorem filter_user : ∀ (R : List (List Nat)) (k u : Nat), (flatR k R).filter (fun r => r.user == k + u) = rowR (k + u) 0 (rowOfR R u)
  | [], k, u => by simp [flatR, rowOfR, rowR, obs]
  | r :: R, k, 0 => by
    unfold flatR
    rw [List.filter_append, filter_all (fun x hx => by simp [rowR_user hx]), filter_none (fun x hx => by
      have := flat_user hx
      simp
      omega)]
    simp [rowOfR]
  | r :: R, k, u + 1 => by
    unfold flatR
    rw [List.filter_append, filter_none (fun x hx => by
      rw [rowR_user hx]
      simp), show k + (u + 1) = k + 1 + u by omega, filter_user R (k + 1) u]
    simp [rowOfR]
theorem filter_user0 (R : List (List Nat)) (u : Nat) : (flatR 0 R).filter (fun r => r.user == u) = rowR u 0 (rowOfR R u) := by
  have h := filter_user R 0 u
  rw [Nat.zero_add] at h
  exact h
theorem row_item : ∀ (r : List Nat) (u j i : Nat), (rowR u j r).filter (fun x => x.item == j + i) = if r.getD i 0 = 0 then [] else [⟨u, j + i, r.getD i 0⟩]
  | [], u, j, i => by simp [rowR, obs]
  | v :: r, u, j, 0 => by
    have hn : (rowR u (j + 1) r).filter (fun x => x.item == j + 0) = [] := filter_none fun x hx => by
      unfold rowR at hx
      obtain ⟨y, hy, rfl⟩ := in_map hx
      have := (obs_ge hy).1
      simp
      omega
    by_cases hv : v = 0
    · subst hv
      rw [rowR_cons0, hn]
      simp
    · rw [rowR_consS _ _ _ _ hv, List.filter_cons, hn]
      simp [hv]
  | v :: r, u, j, i + 1 => by
    have ih := row_item r u (j + 1) i
    rw [show j + 1 + i = j + (i + 1) by omega] at ih
    by_cases hv : v = 0
    · subst hv
      rw [rowR_cons0, ih]
      simp
    · rw [rowR_consS _ _ _ _ hv, List.filter_cons, ih]
      simp
theorem filter_item : ∀ (R : List (List Nat)) (k i : Nat), (flatR k R).filter (fun r => r.item == i) = (obs k (col R i)).map fun x => ⟨x.1, i, x.2⟩
  | [], k, i => by simp [flatR, col, obs]
  | r :: R, k, i => by
    unfold flatR
    have h := row_item r k 0 i
    rw [Nat.zero_add] at h
    rw [List.filter_append, h, filter_item R (k + 1) i]
    have e : col (r :: R) i = r.getD i 0 :: col R i := rfl
    have e2 : obs k (r.getD i 0 :: col R i) = if r.getD i 0 = 0 then obs (k + 1) (col R i) else (k, r.getD i 0) :: obs (k + 1) (col R i) := rfl
    rw [e, e2]
    by_cases hv : r.getD i 0 = 0
    · rw [if_pos hv, if_pos hv]
      rfl
    · rw [if_neg hv, if_neg hv]
      rfl

/-! ### setting, clearing -/
theorem ins_skip {x : Rating} : ∀ {l rest : List Rating}, (∀ y ∈ l, isBefore x y = false ∧ ¬ (y.user = x.user ∧ y.item = x.item)) → insertRating x (l ++ rest) = l ++ insertRating x rest
  | [], _, _ => rfl
  | y :: l, rest, h => by
    obtain ⟨h1, h2⟩ := h y (List.mem_cons_self ..)
    show insertRating x (y :: (l ++ rest)) = y :: (l ++ insertRating x rest)
    rw [insertRating, if_neg (by rw [h1]; exact Bool.false_ne_true), if_neg h2, ins_skip fun z hz => h z (List.mem_cons_of_mem _ hz)]
theorem ins_front {x : Rating} {l : List Rating} (h : ∀ y ∈ l, isBefore x y = true) : insertRating x l = x :: l := by
  cases l with
  | nil => rfl
  | cons y l => rw [insertRating, if_pos (h y (List.mem_cons_self ..))]
theorem ins_row (u v : Nat) (hv : v ≠ 0) : ∀ (r : List Nat) (j i : Nat) (rest : List Rating), i < r.length → (∀ y ∈ rest, u < y.user) → insertRating ⟨u, j + i, v⟩ (rowR u j r ++ rest) = rowR u j (r.set i v) ++ rest
  | [], _, _, _, h, _ => absurd h (Nat.not_lt_zero _)
  | w :: r, j, 0, rest, _, hr => by
    have hb : ∀ y ∈ rowR u (j + 1) r ++ rest, isBefore ⟨u, j + 0, v⟩ y = true := fun y hy => by
      rcases in_app hy with hy | hy
      · have hu := rowR_user hy
        unfold rowR at hy
        obtain ⟨z, hz, rfl⟩ := in_map hy
        have := (obs_ge hz).1
        unfold isBefore
        simp
        omega
      · have := hr y hy
        unfold isBefore
        simp
        omega
    rw [List.set_cons_zero, rowR_consS _ _ _ _ hv]
    by_cases hw : w = 0
    · subst hw
      rw [rowR_cons0, ins_front hb]
      rfl
    · rw [rowR_consS _ _ _ _ hw, List.cons_append, insertRating, if_neg (by unfold isBefore; simp), if_pos (by simp)]
      rfl
  | w :: r, j, i + 1, rest, h, hr => by
    have ih := ins_row u v hv r (j + 1) i rest (by simpa using h) hr
    rw [show j + 1 + i = j + (i + 1) by omega] at ih
    rw [List.set_cons_succ]
    by_cases hw : w = 0
    · subst hw
      rw [rowR_cons0, rowR_cons0]
      exact ih
    · rw [rowR_consS _ _ _ _ hw, rowR_consS _ _ _ _ hw, List.cons_append, insertRating, if_neg (by
        unfold isBefore
        simp), if_neg (by
        intro h
        have h := h.2
        simp only at h
        omega), ih]
      rfl
theorem ins_flat (v : Nat) (hv : v ≠ 0) : ∀ (R : List (List Nat)) (k u i : Nat), u < R.length → i < (rowOfR R u).length → insertRating ⟨k + u, i, v⟩ (flatR k R) = flatR k (setE R u i v)
  | [], _, _, _, h, _ => absurd h (Nat.not_lt_zero _)
  | r :: R, k, 0, i, _, hi => by
    have hi : i < r.length := hi
    have h := ins_row (k + 0) v hv r 0 i (flatR (k + 1) R) hi fun y hy => by
      have := flat_user hy
      omega
    rw [Nat.zero_add] at h
    exact h
  | r :: R, k, u + 1, i, h, hi => by
    have ih := ins_flat v hv R (k + 1) u i (by simpa using h) hi
    show insertRating ⟨k + (u + 1), i, v⟩ (rowR k 0 r ++ flatR (k + 1) R) = rowR k 0 r ++ flatR (k + 1) (setE R u i v)
    rw [ins_skip fun y hy => by
      have := rowR_user hy
      unfold isBefore
      simp
      omega, show k + (u + 1) = k + 1 + u by omega, ih]
theorem ins_flat0 {R : List (List Nat)} {u i v : Nat} (hv : v ≠ 0) (hu : u < R.length) (hi : i < (rowOfR R u).length) : insertRating ⟨u, i, v⟩ (flatR 0 R) = flatR 0 (setE R u i v) := by
  have h := ins_flat v hv R 0 u i hu hi
  rw [Nat.zero_add] at h
  exact h
theorem row_clear (u : Nat) : ∀ (r : List Nat) (j i : Nat), (rowR u j r).filter (fun x => !(x.user == u && x.item == j + i)) = rowR u j (r.set i 0)
  | [], j, i => by simp [rowR, obs]
  | w :: r, j, 0 => by
    rw [List.set_cons_zero, rowR_cons0]
    have hn : (rowR u (j + 1) r).filter (fun x => !(x.user == u && x.item == j + 0)) = rowR u (j + 1) r := filter_all fun x hx => by
      unfold rowR at hx
      obtain ⟨z, hz, rfl⟩ := in_map hx
      have := (obs_ge hz).1
      simp
      omega
    by_cases hw : w = 0
    · subst hw
      rw [rowR_cons0, hn]
    · rw [rowR_consS _ _ _ _ hw, List.filter_cons, hn]
      simp
  | w :: r, j, i + 1 => by
    have ih := row_clear u r (j + 1) i
    rw [show j + 1 + i = j + (i + 1) by omega] at ih
    rw [List.set_cons_succ]
    by_cases hw : w = 0
    · subst hw
      rw [rowR_cons0, rowR_cons0, ih]
    · rw [rowR_consS _ _ _ _ hw, rowR_consS _ _ _ _ hw, List.filter_cons, ih]
      simp
theorem clear_flat : ∀ (R : List (List Nat)) (k u i : Nat), u < R.length → (flatR k R).filter (fun x => !(x.user == k + u && x.item == i)) = flatR k (setE R u i 0)
  | [], _, _, _, h => absurd h (Nat.not_lt_zero _)
  | r :: R, k, 0, i, _ => by
    have h := row_clear (k + 0) r 0 i
    rw [Nat.zero_add] at h
    show (rowR k 0 r ++ flatR (k + 1) R).filter _ = rowR k 0 (r.set i 0) ++ flatR (k + 1) R
    rw [List.filter_append]
    refine congr (congrArg _ h) ?_
    exact filter_all fun x hx => by
      have := flat_user hx
      simp
      omega
  | r :: R, k, u + 1, i, h => by
    have ih := clear_flat R (k + 1) u i (by simpa using h)
    show (rowR k 0 r ++ flatR (k + 1) R).filter _ = rowR k 0 r ++ flatR (k + 1) (setE R u i 0)
    rw [List.filter_append, show k + (u + 1) = k + 1 + u by omega, ih]
    refine congrArg (· ++ _) ?_
    exact filter_all fun x hx => by
      have := rowR_user hx
      simp
      omega
theorem clear_flat0 {R : List (List Nat)} {u i : Nat} (hu : u < R.length) : (flatR 0 R).filter (fun x => !(x.user == u && x.item == i)) = flatR 0 (setE R u i 0) := by
  have h := clear_flat R 0 u i hu
  rw [Nat.zero_add] at h
  exact h
theorem row_zero (u : Nat) : ∀ (n j : Nat), rowR u j (List.replicate n 0) = []
  | 0, j => rfl
  | n + 1, j => by rw [List.replicate_succ, rowR_cons0, row_zero u n (j + 1)]
theorem drop_flat : ∀ (R : List (List Nat)) (k u : Nat), u < R.length → (flatR k R).filter (fun x => x.user != k + u) = flatR k (dropU R u)
  | [], _, _, h => (Nat.not_lt_zero _ h).elim
  | r :: R, k, 0, _ => by
    show (rowR k 0 r ++ flatR (k + 1) R).filter _ = rowR k 0 (List.replicate r.length 0) ++ flatR (k + 1) R
    rw [List.filter_append, filter_none (fun x hx => by simp [rowR_user hx]), row_zero, filter_all fun x hx => by
      have := flat_user hx
      simp
      omega]
  | r :: R, k, u + 1, h => by
    have ih := drop_flat R (k + 1) u (by simpa using h)
    show (rowR k 0 r ++ flatR (k + 1) R).filter _ = rowR k 0 r ++ flatR (k + 1) (dropU R u)
    rw [List.filter_append, show k + (u + 1) = k + 1 + u by omega, ih]
    refine congrArg (· ++ _) ?_
    exact filter_all fun x hx => by
      have := rowR_user hx
      simp
      omega
theorem drop_flat0 {R : List (List Nat)} {u : Nat} (hu : u < R.length) : (flatR 0 R).filter (fun x => x.user != u) = flatR 0 (dropU R u) := by
  have h := drop_flat R 0 u hu
  rw [Nat.zero_add] at h
  exact h
theorem find_filter {α : Type} (p : α → Bool) : ∀ l : List α, l.find? p = (l.filter p).head?
  | [] => rfl
  | x :: l => by
    rw [List.find?_cons, List.filter_cons]
    cases p x with
    | true => rfl
    | false => exact find_filter p l
theorem rating_at (m : Model) (R : List (List Nat)) (hm : m.ratings = flatR 0 R) (u i : Nat) : ratingOf m u i = if ent R u i = 0 then none else some (ent R u i) := by
  unfold ratingOf
  have e : (fun r : Rating => r.user == u && r.item == i) = fun r => (r.item == i) && (r.user == u) := by
    funext r
    exact Bool.and_comm _ _
  rw [hm, find_filter, e, ← List.filter_filter, filter_user0]
  have h := row_item (rowOfR R u) u 0 i
  rw [Nat.zero_add] at h
  rw [h]
  unfold ent
  by_cases hv : (rowOfR R u).getD i 0 = 0
  · rw [if_pos hv, if_pos hv]
    rfl
  · rw [if_neg hv, if_neg hv]
    rfl
/-- the values of all ratings, user by user -/
def allV (R : List (List Nat)) : List Nat := R.flatMap fun r => (obs 0 r).map (·.2)
theorem row_values (u j : Nat) (r : List Nat) : (rowR u j r).map Rating.value = (obs j r).map (·.2) := by
  unfold rowR
  rw [List.map_map]
  rfl
theorem flat_values : ∀ (R : List (List Nat)) (k : Nat), (flatR k R).map Rating.value = allV R
  | [], _ => rfl
  | r :: R, k => by
    unfold flatR
    rw [List.map_append, row_values, flat_values R (k + 1)]
    rfl
theorem flat_length (R : List (List Nat)) : (flatR 0 R).length = (allV R).length := by
  rw [← flat_values R 0, List.length_map]
theorem obs_len : ∀ (r : List Nat) (i : Nat), (obs i r).length ≤ r.length
  | [], _ => Nat.le_refl _
  | v :: r, i => by
    unfold obs
    have := obs_len r (i + 1)
    split
    · exact Nat.le_succ_of_le this
    · exact Nat.succ_le_succ this
end Lk
set_option Elab.async false
set_option linter.all false
/-! The mirror's state and what each def computes. Plain Lean. -/
namespace Lk
open Kp429 (rowOf place products predict target quadratic bestValue step1 setRow rowPenalty)
/-! ### the mirror's state -/
structure Ms where
  s : Kp429.Settings
  R : List (List Nat)
  p : Kp429.Parameters
def Ms.mod (m : Ms) : Kp429.Model := ⟨m.s, flatR 0 m.R, m.p⟩
/-- the bound of every parameter -/
abbrev Bd (x : Int) : Prop := -1048576 ≤ x ∧ x ≤ 1048576
structure SetOk (s : Kp429.Settings) : Prop where
  u1 : 1 ≤ s.users
  u8 : s.users ≤ 8
  i1 : 1 ≤ s.items
  i8 : s.items ≤ 8
  f3 : s.factors ≤ 3
  l1 : 1 ≤ s.limit
  l4 : s.limit ≤ 4096
  pe : s.penalty ≤ 100000000
  bp : s.biasPenalty ≤ 1000
  sd : s.seed < 4294967296
structure RatOk (s : Kp429.Settings) (R : List (List Nat)) : Prop where
  len : R.length = s.users
  row : ∀ r ∈ R, r.length = s.items
  val : ∀ r ∈ R, ∀ v ∈ r, v ≤ 10
structure RowsOk (n w : Nat) (rows : List (List Int)) : Prop where
  len : rows.length = n
  row : ∀ r ∈ rows, r.length = w
  val : ∀ r ∈ rows, ∀ x ∈ r, Bd x
structure Ms.Ok (m : Ms) : Prop where
  s : SetOk m.s
  R : RatOk m.s m.R
  us : RowsOk m.s.users (m.s.factors + 1) m.p.users
  it : RowsOk m.s.items (m.s.factors + 1) m.p.items
  b : Bd m.p.base


def nnI (s : Kp429.Settings) : Int := if s.nonnegative then 1 else 0
def crs : List (Int × Int) := [(1, 8), (1, 8), (0, 3), (1, 4096), (0, 1), (0, 100000000), (0, 1000)]
def okAt (ns : List Int) (i : Nat) : Bool := decide ((crs.getD i (0, 0)).1 ≤ ns.getD i 0) && decide (ns.getD i 0 ≤ (crs.getD i (0, 0)).2)
def okS (ns : List Int) : Bool := (List.range 7).all (okAt ns)
def baseV (vs : List Nat) : Int := if vs.isEmpty then 0 else ((65536 * vs.sum / vs.length : Nat) : Int)
def freshM (s : Kp429.Settings) : Ms := ⟨s, List.replicate s.users (List.replicate s.items 0), Kp429.initial s []⟩
def again (m : Ms) : Ms := { m with p := Kp429.initial m.s (flatR 0 m.R) }
def Ms.drop (m : Ms) (u : Nat) : Ms := { m with R := dropU m.R u }
def lineR (R : List (List Nat)) (k n : Nat) : List Nat := if k = 0 then rowOfR R n else col R n
def partsP (p : Kp429.Parameters) (u i : Nat) : List Int := p.base :: place (rowOf p 0 u) 0 :: place (rowOf p 1 i) 0 :: products (rowOf p 0 u) (rowOf p 1 i)
def predK (p : Kp429.Parameters) (k n o : Nat) : Int := if k = 0 then predict p n o else predict p o n
def resL (m : Ms) (k n : Nat) : List (Nat × Int) := (obs 0 (lineR m.R k n)).map fun x => (x.1, target x.2 - predK m.p k n x.1)
def quadM (m : Ms) (k n q : Nat) : Kp429.Quadratic := quadratic m.s (Kp429.views m.mod m.p k n) (rowOf m.p k n) q
def stepV (m : Ms) (k n q : Nat) : Int := bestValue m.s (quadM m k n q) q (place (rowOf m.p k n) q)
def Ms.step (m : Ms) (k n q : Nat) : Ms := { m with p := step1 m.mod m.p ⟨k, n, q⟩ }
def chgV (m : Ms) (k n q : Nat) : Nat := if stepV m k n q = place (rowOf m.p k n) q then 0 else 1
def Ms.sweep (m : Ms) : Ms := { m with p := Kp429.sweep m.mod m.p }
def Ms.train (m : Ms) (n : Nat) : Ms := { m with p := (Kp429.train m.mod n m.p 0).1 }
def trainA (m : Ms) (n : Nat) : List Int := [((Kp429.train m.mod n m.p 0).2.1 : Int), ((Kp429.flag (Kp429.train m.mod n m.p 0).2.2 : Nat) : Int)]
def curveP (m : Ms) (n : Nat) : Kp429.Parameters × List Int := (List.range n).foldl (fun (x : Kp429.Parameters × List Int) (_ : Nat) => (Kp429.sweep m.mod x.1, x.2 ++ [Kp429.objective m.mod (Kp429.sweep m.mod x.1)])) (m.p, [])
def curveA (m : Ms) (n : Nat) : List Int := (curveP m n).2
def firstA (m : Ms) : List Int := match Kp429.firstImprovable m.mod m.p with
  | none => []
  | some c => [(c.kind : Int), (c.id : Int), (c.place : Int)]
def okN (s : Kp429.Settings) (ns : List Nat) : Bool := match Kp429.pairsOf ns with
  | none => false
  | some x => x.all (fun y => decide (y.1 < s.items) && decide (1 ≤ y.2) && decide (y.2 ≤ 10)) && Kp429.increasing x
def pairsN (ns : List Nat) : List (Nat × Nat) := (Kp429.pairsOf ns).getD []
/-- a row of ratings: these pairs alone -/
def rowN' (n : Nat) (ps : List (Nat × Nat)) : List Nat := ps.foldl (fun r x => r.set x.1 x.2) (List.replicate n 0)
def guestM (m : Ms) (ns : List Nat) : Ms := ⟨m.s, m.R.set 0 (rowN' m.s.items (pairsN ns)), { m.p with users := m.p.users.set 0 (List.replicate (m.s.factors + 1) 0) }⟩
def roundsM (m : Ms) : Ms × Nat :=
  let r := Kp429.foldIn m.s (Kp429.views m.mod m.p 0 0) 100 (rowOf m.p 0 0) 0
  ({ m with p := setRow m.p 0 0 r.1 }, r.2)
def meanE (m : Ms) : List Int :=
  let e := Kp429.errorPart m.mod m.p
  let d := (allV m.R).length * 4294967296
  let g := Nat.gcd e.natAbs d
  [e / (g : Int), ((d / g : Nat) : Int)]
/-! ### the coordinates, block by block -/
def cell (s : Kp429.Settings) (k u : Nat) : List Kp429.Coordinate := (List.range (s.factors + 1)).map fun q => ⟨k, u, q⟩
def blkN (s : Kp429.Settings) (k n : Nat) : List Kp429.Coordinate := (List.range n).flatMap (cell s k)
def preN (s : Kp429.Settings) (i : Nat) : List Kp429.Coordinate := (List.range i).flatMap fun k => blkN s k (Kp429.sizeOf s k)
theorem pre_two (s : Kp429.Settings) : preN s 2 = Kp429.coordinates s := by
  show blkN s 0 (Kp429.sizeOf s 0) ++ (blkN s 1 (Kp429.sizeOf s 1) ++ []) = _
  rw [List.append_nil]
  rfl
theorem pre_succ (s : Kp429.Settings) (i : Nat) : preN s (i + 1) = preN s i ++ blkN s i (Kp429.sizeOf s i) := by
  unfold preN
  rw [List.range_succ, List.flatMap_append]
  simp
theorem blk_succ (s : Kp429.Settings) (k n : Nat) : blkN s k (n + 1) = blkN s k n ++ cell s k n := by
  unfold blkN
  rw [List.range_succ, List.flatMap_append]
  simp
theorem flat_len {α : Type} (f : Nat → List α) (w : Nat) (h : ∀ u, (f u).length = w) : ∀ n, ((List.range n).flatMap f).length = n * w
  | 0 => by simp
  | n + 1 => by
    rw [List.range_succ, List.flatMap_append, List.length_append, flat_len f w h n]
    simp [h, Nat.succ_mul]
theorem blk_len (s : Kp429.Settings) (k n : Nat) : (blkN s k n).length = n * (s.factors + 1) := flat_len _ _ (fun u => by simp [cell]) n
theorem size_le {s : Kp429.Settings} (h : SetOk s) (k : Nat) : 1 ≤ Kp429.sizeOf s k ∧ Kp429.sizeOf s k ≤ 8 := by
  unfold Kp429.sizeOf
  split
  · exact ⟨h.u1, h.u8⟩
  · exact ⟨h.i1, h.i8⟩
theorem blk_le {s : Kp429.Settings} (h : SetOk s) (k n : Nat) (hn : n ≤ 8) : (blkN s k n).length ≤ 32 := by
  rw [blk_len]
  have := Nat.mul_le_mul hn (show s.factors + 1 ≤ 4 by have := h.f3; omega)
  omega
theorem pre_le {s : Kp429.Settings} (h : SetOk s) (i : Nat) (hi : i ≤ 2) : (preN s i).length ≤ 64 := by
  have l0 := blk_le h 0 _ (size_le h 0).2
  have l1 := blk_le h 1 _ (size_le h 1).2
  match i, hi with
  | 0, _ => exact Nat.zero_le _
  | 1, _ =>
    rw [pre_succ]
    show (([] : List Kp429.Coordinate) ++ _).length ≤ 64
    rw [List.nil_append]
    omega
  | 2, _ =>
    rw [pre_succ, pre_succ, List.length_append]
    show (([] : List Kp429.Coordinate) ++ _).length + _ ≤ 64
    rw [List.nil_append]
    omega
/-! ### the hash -/
def stepB (h b : Nat) : Nat := (h ^^^ b) * 1099511628211 % 2 ^ 64
def hashF (h : Nat) (l : List Nat) : Nat := l.foldl stepB h
def hashN (l : List Nat) : Nat := hashF 14695981039346656037 l
theorem hash_is (l : List Nat) : Kp429.hash l = hashN (l.flatMap Kp429.bytesOf) := by
  unfold Kp429.hash hashN hashF stepB
  exact Eq.refl _
theorem hashN_snoc (l : List Nat) (b : Nat) : hashN (l ++ [b]) = stepB (hashN l) b := by
  unfold hashN hashF
  rw [List.foldl_append, List.foldl_cons, List.foldl_nil]
def byteAt (n j : Nat) : Nat := n / 2 ^ (8 * j) % 256
theorem bytes_is (n : Nat) : Kp429.bytesOf n = (List.range 4).map (byteAt n) := by
  show [n % 256, n / 256 % 256, n / 65536 % 256, n / 16777216 % 256] = [n / 2 ^ (8 * 0) % 256, n / 2 ^ (8 * 1) % 256, n / 2 ^ (8 * 2) % 256, n / 2 ^ (8 * 3) % 256]
  simp
def frow (s : Kp429.Settings) (k u : Nat) : List Int := (List.range (s.factors + 1)).map fun q => Kp429.firstValue s ⟨k, u, q⟩
theorem firstRows_is (s : Kp429.Settings) (k n : Nat) : Kp429.firstRows s k n = (List.range n).map (frow s k) := rfl
theorem frow_ne (s : Kp429.Settings) (k u : Nat) : frow s k u ≠ [] := by
  intro h
  have z := congrArg List.length h
  simp [frow] at z
def rowsK (p : Kp429.Parameters) (k : Nat) : List (List Int) := if k = 0 then p.users else p.items
def addRows (p : Kp429.Parameters) (k : Nat) (rs : List (List Int)) : Kp429.Parameters := if k = 0 then { p with users := p.users ++ rs } else { p with items := p.items ++ rs }
theorem cast_sum : ∀ l : List Nat, (l.map fun (v : Nat) => (v : Int)).sum = ((l.sum : Nat) : Int)
  | [] => rfl
  | x :: l => by
    rw [List.map_cons, List.sum_cons, List.sum_cons, cast_sum l]
    omega
theorem sum_le (b : Nat) : ∀ l : List Nat, (∀ v ∈ l, v ≤ b) → l.sum ≤ l.length * b
  | [], _ => by simp
  | x :: l, h => by
    rw [List.sum_cons, List.length_cons, Nat.succ_mul]
    have h1 := h x in_head
    have h2 := sum_le b l fun v hv => h v (List.mem_cons_of_mem _ hv)
    omega
/-! ### bounds -/
theorem mem_allV {R : List (List Nat)} {v : Nat} (h : v ∈ allV R) : ∃ r ∈ R, v ∈ r := by
  unfold allV at h
  obtain ⟨r, hr, hv⟩ := List.mem_flatMap.mp h
  obtain ⟨x, hx, rfl⟩ := in_map hv
  exact ⟨r, hr, List.mem_of_getElem? (obs_ge hx).2.2.2⟩
theorem allV_len : ∀ (R : List (List Nat)) (w : Nat), (∀ r ∈ R, r.length = w) → (allV R).length ≤ R.length * w
  | [], w, _ => by simp [allV]
  | r :: R, w, h => by
    have h1 := allV_len R w fun r hr => h r (List.mem_cons_of_mem _ hr)
    have h2 := h r (List.mem_cons_self ..)
    have h3 := obs_len r 0
    show ((obs 0 r).map (·.2) ++ allV R).length ≤ (R.length + 1) * w
    rw [List.length_append, List.length_map, Nat.succ_mul]
    omega
theorem allV_le {s : Kp429.Settings} {R : List (List Nat)} (hs : SetOk s) (h : RatOk s R) : (allV R).length ≤ 64 ∧ ∀ v ∈ allV R, v ≤ 10 := by
  refine ⟨?_, fun v hv => ?_⟩
  · have h1 := allV_len R s.items h.row
    rw [h.len] at h1
    have := Nat.mul_le_mul hs.u8 hs.i8
    omega
  · obtain ⟨r, hr, hv⟩ := mem_allV hv
    exact h.val r hr v hv
theorem base_is (R : List (List Nat)) : Kp429.baseOf (flatR 0 R) = baseV (allV R) := by
  unfold Kp429.baseOf baseV
  rw [flat_values, flat_length]
  have e : (flatR 0 R).isEmpty = (allV R).isEmpty := by
    have h := flat_length R
    cases h1 : flatR 0 R with
    | nil =>
      rw [h1] at h
      rw [List.eq_nil_of_length_eq_zero h.symm]
      rfl
    | cons x l =>
      rw [h1] at h
      cases h2 : allV R with
      | nil =>
        rw [h2] at h
        cases h
      | cons y k => rfl
  rw [e]
theorem base_bd {l : List Nat} (h : ∀ v ∈ l, v ≤ 10) : Bd (baseV l) := by
  unfold baseV
  split
  · exact ⟨by decide, by decide⟩
  · have h1 := sum_le 10 l h
    have h2 : 65536 * l.sum / l.length ≤ 655360 := by
      refine Nat.div_le_of_le_mul ?_
      have := Nat.mul_le_mul_left 65536 h1
      omega
    have h3 : ((65536 * l.sum / l.length : Nat) : Int) ≤ 655360 := Int.ofNat_le.mpr h2
    have h4 : (0 : Int) ≤ ((65536 * l.sum / l.length : Nat) : Int) := Int.natCast_nonneg _
    exact ⟨Int.le_trans (by decide) h4, Int.le_trans h3 (by decide)⟩
theorem first_bd (s : Kp429.Settings) (c : Kp429.Coordinate) : Bd (Kp429.firstValue s c) := by
  unfold Kp429.firstValue
  split
  · exact ⟨by decide, by decide⟩
  · have hm : min s.limit 64 ≤ 64 := Nat.min_le_right _ _
    have h1 := Nat.mod_lt (Kp429.hash [s.seed, c.kind, c.id, c.place] / 65536) (show 0 < min s.limit 64 + 1 by omega)
    have h2 := Nat.mod_lt (Kp429.hash [s.seed, c.kind, c.id, c.place] / 65536) (show 0 < 2 * min s.limit 64 + 1 by omega)
    dsimp only
    split
    · exact ⟨by omega, by omega⟩
    · exact ⟨by omega, by omega⟩
theorem firstRows_ok (s : Kp429.Settings) (k n : Nat) : RowsOk n (s.factors + 1) (Kp429.firstRows s k n) := by
  refine ⟨by rw [firstRows_is, List.length_map, List.length_range], fun r hr => ?_, fun r hr x hx => ?_⟩
  · obtain ⟨u, _, rfl⟩ := in_map hr
    simp
  · obtain ⟨u, _, rfl⟩ := in_map hr
    obtain ⟨q, _, rfl⟩ := in_map hx
    exact first_bd s _
theorem fresh_ok {s : Kp429.Settings} (h : SetOk s) : (freshM s).Ok := by
  refine ⟨h, ⟨List.length_replicate, fun r hr => ?_, fun r hr v hv => ?_⟩, firstRows_ok s 0 s.users, firstRows_ok s 1 s.items, ⟨by show -1048576 ≤ (0 : Int); decide, by show (0 : Int) ≤ 1048576; decide⟩⟩
  · rw [List.eq_of_mem_replicate hr]
    exact List.length_replicate
  · rw [List.eq_of_mem_replicate hr] at hv
    rw [List.eq_of_mem_replicate hv]
    exact Nat.zero_le _
theorem again_ok {m : Ms} (h : m.Ok) : (again m).Ok := by
  refine ⟨h.s, h.R, firstRows_ok _ _ _, firstRows_ok _ _ _, ?_⟩
  show Bd (Kp429.baseOf (flatR 0 m.R))
  rw [base_is]
  exact base_bd (allV_le h.s h.R).2
theorem rowOfR_mem {R : List (List Nat)} {u : Nat} (h : u < R.length) : rowOfR R u ∈ R ∧ R[u]? = some (rowOfR R u) := by
  have e : R[u]? = some (rowOfR R u) := by
    unfold rowOfR
    rw [List.getD_eq_getElem?_getD, List.getElem?_eq_getElem h]
    rfl
  exact ⟨List.mem_of_getElem? e, e⟩
theorem set_ok {s : Kp429.Settings} {R : List (List Nat)} (h : RatOk s R) {u : Nat} {r : List Nat} (hl : r.length = s.items) (hv : ∀ v ∈ r, v ≤ 10) : RatOk s (R.set u r) := by
  refine ⟨by rw [List.length_set]; exact h.len, fun x hx => ?_, fun x hx => ?_⟩
  · rcases List.mem_or_eq_of_mem_set hx with m | e
    · exact h.row x m
    · rw [e]; exact hl
  · rcases List.mem_or_eq_of_mem_set hx with m | e
    · exact h.val x m
    · rw [e]; exact hv
theorem drop_ok {m : Ms} (h : m.Ok) {u : Nat} (hu : u < m.s.users) : (m.drop u).Ok := by
  have hm := (rowOfR_mem (R := m.R) (u := u) (by rw [h.R.len]; exact hu)).1
  refine ⟨h.s, set_ok h.R (by rw [List.length_replicate]; exact h.R.row _ hm) fun v hv => ?_, h.us, h.it, h.b⟩
  rw [List.eq_of_mem_replicate hv]
  exact Nat.zero_le _
theorem parts_sum (p : Kp429.Parameters) (u i : Nat) : (partsP p u i).sum = predict p u i := by
  unfold partsP predict Kp429.predictRows
  rw [List.sum_cons, List.sum_cons, List.sum_cons]
  omega
theorem prod_at : ∀ {x y : List Int} {j : Nat}, j + 1 < x.length → j + 1 < y.length → (products x y)[j]? = some (place x (j + 1) * place y (j + 1))
  | [], _, _, h, _ => absurd h (Nat.not_lt_zero _)
  | a :: x, [], _, _, h => absurd h (Nat.not_lt_zero _)
  | a :: x, b :: y, j, h, h' => by
    have h1 : j < x.length := by simpa using h
    have h2 : j < y.length := by simpa using h'
    unfold products place
    simp [List.getElem?_map, List.getElem?_zip_eq_some, List.getD_eq_getElem?_getD, h1, h2]
    exact ⟨_, _, ⟨rfl, rfl⟩, rfl⟩
theorem prod_len (x y : List Int) : (products x y).length = min (x.length - 1) (y.length - 1) := by
  unfold products
  rw [List.length_map, List.length_zip, List.length_tail, List.length_tail]
theorem prod_take {x y : List Int} {j : Nat} (h : j + 1 < x.length) (h' : j + 1 < y.length) : (products x y).take (j + 1) = (products x y).take j ++ [place x (j + 1) * place y (j + 1)] := by
  rw [List.take_add_one, prod_at h h']
  rfl
theorem obs_snoc : ∀ (l : List Nat) (k v : Nat), obs k (l ++ [v]) = obs k l ++ (if v = 0 then [] else [(k + l.length, v)])
  | [], k, v => by
    show (if v = 0 then obs (k + 1) [] else (k, v) :: obs (k + 1) []) = _
    by_cases h : v = 0 <;> simp [h, obs]
  | x :: l, k, v => by
    have ih := obs_snoc l (k + 1) v
    show (if x = 0 then obs (k + 1) (l ++ [v]) else (k, x) :: obs (k + 1) (l ++ [v])) = (if x = 0 then obs (k + 1) l else (k, x) :: obs (k + 1) l) ++ _
    rw [ih, show k + 1 + l.length = k + (x :: l).length by simp only [List.length_cons]; omega]
    by_cases h : x = 0
    · rw [if_pos h, if_pos h]
    · rw [if_neg h, if_neg h]
      rfl
theorem obs_take {l : List Nat} {i v : Nat} (h : l[i]? = some v) : obs 0 (l.take (i + 1)) = obs 0 (l.take i) ++ (if v = 0 then [] else [(i, v)]) := by
  have hl := (List.getElem?_eq_some_iff.mp h).1
  have e : l.take (i + 1) = l.take i ++ [v] := by rw [List.take_add_one, h] <;> rfl
  have e2 : 0 + (l.take i).length = i := by rw [List.length_take]; omega
  rw [e, obs_snoc, e2]
theorem allV_take {R : List (List Nat)} {i : Nat} {r : List Nat} (h : R[i]? = some r) : allV (R.take (i + 1)) = allV (R.take i) ++ (obs 0 r).map (·.2) := by
  have e : R.take (i + 1) = R.take i ++ [r] := by rw [List.take_add_one, h] <;> rfl
  unfold allV
  rw [e, List.flatMap_append, List.flatMap_singleton]
theorem col_len (R : List (List Nat)) (n : Nat) : (col R n).length = R.length := List.length_map ..
theorem line_len {m : Ms} (h : m.Ok) {k n : Nat} (hk : k ≤ 1) (hn : n < Kp429.sizeOf m.s k) : (lineR m.R k n).length = Kp429.sizeOf m.s (1 - k) := by
  have hk : k = 0 ∨ k = 1 := by omega
  rcases hk with rfl | rfl
  · exact h.R.row _ (rowOfR_mem (by rw [h.R.len]; exact hn)).1
  · show (col m.R n).length = _
    rw [col_len]
    exact h.R.len
theorem line_le {m : Ms} (h : m.Ok) {k n : Nat} (hk : k ≤ 1) (hn : n < Kp429.sizeOf m.s k) : (lineR m.R k n).length ≤ 8 := by
  rw [line_len h hk hn]
  exact (size_le h.s _).2
end Lk
set_option Elab.async false
set_option maxRecDepth 100000
set_option maxHeartbeats 5000000
/-! Rules of my own over the hand layer. -/
namespace Lk
open PySem PySem.Spec PyProof.Rows L2 Evl

abbrev rAdd2 : R2 := rI0 fun i j => .int (i + j)
abbrev rSub2 : R2 := rI0 fun i j => .int (i - j)
abbrev rMul : R2 := rI CMul fun i j => .int (i * j)
abbrev rMulW : R2 := rI CMulW fun i j => .int (i * j)
abbrev rDivW : R2 := rI CDivW fun i j => .int (i / j)
abbrev rMod : R2 := rI (fun _ j => 0 < j) fun i j => .int (i % j)
abbrev rShr : R2 := rI (fun _ j => 0 ≤ j) fun i j => .int (i / 2 ^ j.toNat)
abbrev rAnd : R2 := rI0 fun i j => .int (Builtin.bitAnd i j)
abbrev rXor : R2 := rI0 fun i j => .int (Builtin.bitXor i j)
abbrev rLt : R2 := rI0 fun i j => .bl (decide (i < j))
abbrev rLe : R2 := rI0 fun i j => .bl (decide (i ≤ j))
abbrev rGt2 : R2 := rI0 fun i j => .bl (decide (j < i))
abbrev rGe2 : R2 := rI0 fun i j => .bl (decide (j ≤ i))
abbrev rNeg : V → Hp → VK → Prop := rU fun i => .int (-i)
abbrev rMin2 : List V → Hp → VK → Prop := fun xs H Q => ∃ i j, xs = [.int i, .int j] ∧ Q (.int (if j < i then j else i)) H
abbrev ipMulW : TIp := rI CMulW fun i j => .int (i * j)
section
variable {X : Cx}
theorem ip_mulW : PIp X .Mult ipMulW := opI fun _ _ _ _ _ _ _ hc q => imul_int q hc.ok
/-- xs.extend(t), t a tuple -/
def rExtendT (K : PySem.W.Frag) : V → List V → Hp → VK → Prop := fun x vs H Q => ∃ l b xs zs, x = .ref l ∧ vs = [.ref b] ∧ H l = some (.lst xs) ∧ SqT K H b zs ∧ xs.length + zs.length ≤ sizeLine ∧ Q .non (upd H l (.lst (xs ++ zs)))
theorem ext_tup (l : Addr) (items : Array Value) (n : Nat) (b : Addr) (items2 : Array Value) (n2 : Nat) (d2 : Option Addr) (sl2 : Array (Option Value)) (hs0 : ¬(!items.isEmpty && Builtin.List.listTooLong (items.size + items2.size)) = true) (hs1 : items.size ≤ sizeLine) (hs2 : items.size + items2.size ≤ sizeLine + 1) :
    Meets (Builtin.«list.extend» ⟨[.ref l, .ref b], []⟩) (fun _ R s => s.heap.get? l = some { cls := .type "list", dict := none, data := .seq items n, slots := #[] } ∧ s.heap.get? b = some { cls := .type "tuple", dict := d2, data := .seq items2 n2, slots := sl2 } ∧ R (.ok (.ret Value.none)) { s with heap := s.heap.update l (Obj.mapSeq fun x => x ++ items2), toks := s.toks }) :=
  .of_wp fun pr wd around R s ⟨at_l, at_b, done⟩ => by
    have fits : (items ++ items2).size ≤ sizeLine + 1 := Array.size_append ▸ hs2
    have kind := AutoSeq1.sub_tuple_list
    cases s
    wp_walk using AutoSeq1.wpAny_loadPart' at_b, AutoSeq1.wpAny_loadPart' at_l, (wpAny_updateSeq at_l rfl (hz := hs1) (_hz' := fits))
    exact ⟨_, rfl, done⟩
theorem mt_extendT : MtM X "list.extend" (rExtendT X.K) := by
  intro _ s _ J _ _ _ us Q I rx rv h
  obtain ⟨l, t, xs, zs, rfl, rfl, at_l, at_t, fits, q⟩ := h
  cases rx
  obtain ⟨_, rfl, rt⟩ := rv.one
  cases rt
  obtain ⟨big, ls, n, r, hl, e⟩ := I.lstM at_l
  obtain ⟨ts, r2, ⟨o, eo, hc, n2, hd⟩, _⟩ := I.tuple at_t
  have len2 : zs.length = ts.length := r2.length
  have len1 : xs.length = ls.length := r.length
  have small : ls.toArray.size + ts.toArray.size ≤ sizeLine := by
    simp only [List.size_toArray]
    omega
  have whole : s.heap.get? t = some { cls := .type "tuple", dict := o.dict, data := .seq ts.toArray n2, slots := o.slots } := by
    rw [eo, ← hc, ← hd]
  have short : ¬ (!ls.toArray.isEmpty && Builtin.List.listTooLong (ls.toArray.size + ts.toArray.size)) = true := fun z => by
    rw [notLongL small] at z
    simp at z
  have one : ls.toArray.size ≤ sizeLine := Nat.le_trans (Nat.le_add_right _ _) small
  refine call_meets PySem.F.slot_list_extend ⟨_, e, rfl⟩ PySem.F.entry_list_extend (PySem.F.args_list_extend_2 _ _)
    (ext_tup l ls.toArray n t ts.toArray n2 o.dict o.slots short one (Nat.le_succ_of_le small)) ⟨e, whole, ?_⟩
  have both : (xs ++ zs).length ≤ sizeLine := by
    rw [List.length_append]
    exact fits
  exact ⟨.non, _, I.lset (its' := ls ++ ts) at_l e (by simp) (r.append r2) both, rfl, q⟩

/-- C(), C a class with its own __init__ -/
theorem pe_mk0 {k j : Nat} {C : Addr} {x : Str} {sp : Sp} {dvs : List V} {p pos : Pos} (c : C8.Mak X.prog X.w X.K X.mg X.base k x C sp dvs) (hr : Room j X.A) (hk : k + 1 ≤ j) (hg : Gl X x) (hdb : (x == ("__debug__" : Str)) = false := by decide) :
    PE X (.Call (.Name x p) [] [] pos) (tMake C sp dvs C8.E0 tNil) := by
  have ⟨_, _, _, _, M, F, hm, b, d⟩ := c.ex
  exact pe_make0 M F (hr.mono hk) hg hm b d C8.pass0 hdb
/-! ### d[k], d a dict of the written part whose keys are ints -/
def keysI (es : List DictEntry) : Bool := es.all fun e => match e.key with
  | .int k _ => decide (e.hash = hashInt k)
  | _ => false
def KDI (K : PySem.W.Frag) (a : Addr) (k : Int) (v : V) : Prop :=
  ∃ es n u, K.lookup a = some ⟨.type "dict", none, .dict es n, #[]⟩ ∧ keysI es.toList = true ∧ PySem.findBy Value.isInt es k = some u ∧ RelV v u
def tIxD (K : PySem.W.Frag) (ta tb : TE) : TE := fun σ H Q => ta σ H fun x H1 => tb σ H1 fun y H2 => ∃ p k v, x = .ref p ∧ y = .int k ∧ KDI K p k v ∧ Q v H2
theorem ix_ki : IxR X (fun x y H Q => ∃ p k v, x = .ref p ∧ y = .int k ∧ KDI X.K p k v ∧ Q v H) := by
  intro ve se pins s σ H x y v u Q I rx ry h hs
  obtain ⟨p, k, r, rfl, rfl, ⟨es, n, u0, hl, hk, e, ru⟩, q⟩ := h
  have ev : v = Value.ref p := rx
  subst ev
  obtain ⟨t, rfl⟩ := ry
  have hks : PySem.KeysOf (PySem.intKind X.prog X.w) es := fun e he => by
    have h1 := List.all_eq_true.mp hk e (Array.mem_toList_iff.mpr he)
    cases hq : e.key with
    | int j t =>
      simp only [hq] at h1
      exact ⟨j, by simp [PySem.intKind, Value.isInt], of_decide_eq_true h1⟩
    | _ =>
      simp only [hq] at h1
      cases h1
  have hm : s.heap.MapOf (PySem.intKind X.prog X.w) p (fun k => PySem.findBy Value.isInt es k) := ⟨_, es, n, I.kIn _ _ hl, ⟨rfl, rfl, rfl⟩, rfl, hks, fun _ => rfl⟩
  exact tail_any hm.typeIs slot_dict_getitem.lookup (wpAny_getItem_of (knd := PySem.intKind X.prog X.w) (k := k) (by simp [PySem.intKind, Value.isInt]) hm e ⟨r, H, I.tok _, ru, q⟩) hs
theorem pe_ixD {a b : Expr} {ta tb : TE} {pos : Pos} (ha : PE X a ta) (hb : PE X b tb) (hs : PlainIx b := by exact fun _ _ => rfl) : PE X (.Subscript a b pos) (tIxD X.K ta tb) := pe_ix ix_ki ha hb hs
end
end Lk
set_option Elab.async false
set_option maxRecDepth 100000
set_option maxHeartbeats 5000000
set_option linter.all false
/-! The text by places, and what the top has written. -/
namespace Lk
open PySem PySem.Spec PyProof.Rows L2 Evl
abbrev top (i : Nat) : Stmt := PySem.Challenge.pw_likings_s01_answers.main.body.getD i (.Pass ⟨0, 0, 0, 0⟩)
abbrev s_are_settings : Stmt := top 9
abbrev n_are_settings : List Str := ["numbers", "bounds", "position"]
theorem sc_are_settings : FnScope n_are_settings ["numbers"] (C8.fnScope s_are_settings) := C8.fnScope_by (by decide +kernel)
abbrev s_is_rating : Stmt := top 10
abbrev n_is_rating : List Str := ["value"]
theorem sc_is_rating : FnScope n_is_rating ["value"] (C8.fnScope s_is_rating) := C8.fnScope_by (by decide +kernel)
abbrev s_Settings_init : Stmt := inClass (top 11) 0
abbrev n_Settings_init : List Str := ["self", "numbers"]
theorem sc_Settings_init : FnScope n_Settings_init ["self", "numbers"] (C8.fnScope s_Settings_init) := C8.fnScope_by (by decide +kernel)
abbrev s_ordered_parameters : Stmt := inClass (top 11) 1
abbrev n_ordered_parameters : List Str := ["self", "found", "kind", "number", "place"]
theorem sc_ordered_parameters : FnScope n_ordered_parameters ["self"] (C8.fnScope s_ordered_parameters) := C8.fnScope_by (by decide +kernel)
abbrev s_has_user : Stmt := inClass (top 11) 2
abbrev n_has_user : List Str := ["self", "user"]
theorem sc_has_user : FnScope n_has_user ["self", "user"] (C8.fnScope s_has_user) := C8.fnScope_by (by decide +kernel)
abbrev s_has_item : Stmt := inClass (top 11) 3
abbrev n_has_item : List Str := ["self", "item"]
theorem sc_has_item : FnScope n_has_item ["self", "item"] (C8.fnScope s_has_item) := C8.fnScope_by (by decide +kernel)
abbrev s_has_pair : Stmt := inClass (top 11) 4
abbrev n_has_pair : List Str := ["self", "user", "item"]
theorem sc_has_pair : FnScope n_has_pair ["self", "user", "item"] (C8.fnScope s_has_pair) := C8.fnScope_by (by decide +kernel)
abbrev s_has_row : Stmt := inClass (top 11) 5
abbrev n_has_row : List Str := ["self", "kind", "number"]
theorem sc_has_row : FnScope n_has_row ["self", "kind", "number"] (C8.fnScope s_has_row) := C8.fnScope_by (by decide +kernel)
abbrev s_has_parameter : Stmt := inClass (top 11) 6
abbrev n_has_parameter : List Str := ["self", "kind", "number", "place"]
theorem sc_has_parameter : FnScope n_has_parameter ["self", "kind", "number", "place"] (C8.fnScope s_has_parameter) := C8.fnScope_by (by decide +kernel)
abbrev s_lowest : Stmt := inClass (top 11) 7
abbrev n_lowest : List Str := ["self", "place"]
theorem sc_lowest : FnScope n_lowest ["self", "place"] (C8.fnScope s_lowest) := C8.fnScope_by (by decide +kernel)
abbrev s_highest : Stmt := inClass (top 11) 8
abbrev n_highest : List Str := ["self", "place"]
theorem sc_highest : FnScope n_highest ["self", "place"] (C8.fnScope s_highest) := C8.fnScope_by (by decide +kernel)
abbrev s_is_in_range : Stmt := inClass (top 11) 9
abbrev n_is_in_range : List Str := ["self", "place", "value"]
theorem sc_is_in_range : FnScope n_is_in_range ["self", "place", "value"] (C8.fnScope s_is_in_range) := C8.fnScope_by (by decide +kernel)
abbrev s_penalty : Stmt := inClass (top 11) 10
abbrev n_penalty : List Str := ["self", "place"]
theorem sc_penalty : FnScope n_penalty ["self", "place"] (C8.fnScope s_penalty) := C8.fnScope_by (by decide +kernel)
abbrev s_hashed : Stmt := top 17
abbrev n_hashed : List Str := ["numbers", "number", "result", "shift"]
theorem sc_hashed : FnScope n_hashed ["numbers"] (C8.fnScope s_hashed) := C8.fnScope_by (by decide +kernel)
abbrev s_first_value : Stmt := top 18
abbrev n_first_value : List Str := ["settings", "kind", "number", "place", "mixed", "size"]
theorem sc_first_value : FnScope n_first_value ["settings", "kind", "number", "place"] (C8.fnScope s_first_value) := C8.fnScope_by (by decide +kernel)
abbrev s_first_rows : Stmt := top 19
abbrev n_first_rows : List Str := ["settings", "kind", "number", "row", "rows", "place"]
theorem sc_first_rows : FnScope n_first_rows ["settings"] (C8.fnScope s_first_rows) := C8.fnScope_by (by decide +kernel)
abbrev s_first_base : Stmt := top 20
abbrev n_first_base : List Str := ["values"]
theorem sc_first_base : FnScope n_first_base ["values"] (C8.fnScope s_first_base) := C8.fnScope_by (by decide +kernel)
abbrev s_Model_init : Stmt := inClass (top 23) 0
abbrev n_Model_init : List Str := ["self", "settings", "item_count", "user"]
theorem sc_Model_init : FnScope n_Model_init ["self", "settings"] (C8.fnScope s_Model_init) := C8.fnScope_by (by decide +kernel)
abbrev s_begin_again : Stmt := inClass (top 23) 1
abbrev n_begin_again : List Str := ["self"]
theorem sc_begin_again : FnScope n_begin_again ["self"] (C8.fnScope s_begin_again) := C8.fnScope_by (by decide +kernel)
abbrev s_drop_ratings : Stmt := inClass (top 23) 2
abbrev n_drop_ratings : List Str := ["self", "user", "removed_count"]
theorem sc_drop_ratings : FnScope n_drop_ratings ["self", "user"] (C8.fnScope s_drop_ratings) := C8.fnScope_by (by decide +kernel)
abbrev s_twin : Stmt := inClass (top 23) 3
abbrev n_twin : List Str := ["self", "other", "row"]
theorem sc_twin : FnScope n_twin ["self"] (C8.fnScope s_twin) := C8.fnScope_by (by decide +kernel)
abbrev s_all_ratings : Stmt := inClass (top 23) 4
abbrev n_all_ratings : List Str := ["self", "user", "values", "item", "value"]
theorem sc_all_ratings : FnScope n_all_ratings ["self"] (C8.fnScope s_all_ratings) := C8.fnScope_by (by decide +kernel)
abbrev s_ratings_of : Stmt := inClass (top 23) 5
abbrev n_ratings_of : List Str := ["self", "kind", "number", "values", "other", "value", "row"]
theorem sc_ratings_of : FnScope n_ratings_of ["self", "kind", "number"] (C8.fnScope s_ratings_of) := C8.fnScope_by (by decide +kernel)
abbrev s_prediction_parts : Stmt := inClass (top 23) 6
abbrev n_prediction_parts : List Str := ["self", "user", "item", "item_row", "parts", "place", "user_row"]
theorem sc_prediction_parts : FnScope n_prediction_parts ["self", "user", "item"] (C8.fnScope s_prediction_parts) := C8.fnScope_by (by decide +kernel)
abbrev s_prediction : Stmt := inClass (top 23) 7
abbrev n_prediction : List Str := ["self", "user", "item"]
theorem sc_prediction : FnScope n_prediction ["self", "user", "item"] (C8.fnScope s_prediction) := C8.fnScope_by (by decide +kernel)
abbrev s_residuals_of : Stmt := inClass (top 23) 8
abbrev n_residuals_of : List Str := ["self", "kind", "number", "other", "pairs", "predicted", "value"]
theorem sc_residuals_of : FnScope n_residuals_of ["self", "kind", "number"] (C8.fnScope s_residuals_of) := C8.fnScope_by (by decide +kernel)
abbrev s_recommended : Stmt := top 25
abbrev n_recommended : List Str := ["model", "user", "count", "item", "pairs", "value"]
theorem sc_recommended : FnScope n_recommended ["model", "user", "count"] (C8.fnScope s_recommended) := C8.fnScope_by (by decide +kernel)
abbrev s_factor_product : Stmt := top 26
abbrev n_factor_product : List Str := ["row", "other", "place"]
theorem sc_factor_product : FnScope n_factor_product ["row", "other"] (C8.fnScope s_factor_product) := C8.fnScope_by (by decide +kernel)
abbrev s_similar_rows : Stmt := top 27
abbrev n_similar_rows : List Str := ["model", "kind", "number", "count", "chosen", "closeness", "common", "other", "own", "rows"]
theorem sc_similar_rows : FnScope n_similar_rows ["model", "kind", "number", "count"] (C8.fnScope s_similar_rows) := C8.fnScope_by (by decide +kernel)
abbrev s_error_part : Stmt := top 29
abbrev n_error_part : List Str := ["model", "item", "residual", "total", "user"]
theorem sc_error_part : FnScope n_error_part ["model"] (C8.fnScope s_error_part) := C8.fnScope_by (by decide +kernel)
abbrev s_penalty_part : Stmt := top 30
abbrev n_penalty_part : List Str := ["model", "kind", "number", "place", "total", "value"]
theorem sc_penalty_part : FnScope n_penalty_part ["model"] (C8.fnScope s_penalty_part) := C8.fnScope_by (by decide +kernel)
abbrev s_whole_objective : Stmt := top 31
abbrev n_whole_objective : List Str := ["model"]
theorem sc_whole_objective : FnScope n_whole_objective ["model"] (C8.fnScope s_whole_objective) := C8.fnScope_by (by decide +kernel)
abbrev s_lowest_terms : Stmt := top 32
abbrev n_lowest_terms : List Str := ["numerator", "denominator", "divisor", "remainder", "rest"]
theorem sc_lowest_terms : FnScope n_lowest_terms ["numerator", "denominator"] (C8.fnScope s_lowest_terms) := C8.fnScope_by (by decide +kernel)
abbrev s_mean_error : Stmt := top 33
abbrev n_mean_error : List Str := ["model"]
theorem sc_mean_error : FnScope n_mean_error ["model"] (C8.fnScope s_mean_error) := C8.fnScope_by (by decide +kernel)
abbrev s_Quadratic_init : Stmt := inClass (top 34) 0
abbrev n_Quadratic_init : List Str := ["self", "curvature", "slope"]
theorem sc_Quadratic_init : FnScope n_Quadratic_init ["self", "curvature", "slope"] (C8.fnScope s_Quadratic_init) := C8.fnScope_by (by decide +kernel)
abbrev s_height : Stmt := inClass (top 34) 1
abbrev n_height : List Str := ["self", "value"]
theorem sc_height : FnScope n_height ["self", "value"] (C8.fnScope s_height) := C8.fnScope_by (by decide +kernel)
abbrev s_nearest : Stmt := inClass (top 34) 2
abbrev n_nearest : List Str := ["self"]
theorem sc_nearest : FnScope n_nearest ["self"] (C8.fnScope s_nearest) := C8.fnScope_by (by decide +kernel)
abbrev s_quadratic_of : Stmt := top 35
abbrev n_quadratic_of : List Str := ["model", "kind", "number", "place", "curvature", "other", "others", "present", "residual", "slope", "weight"]
theorem sc_quadratic_of : FnScope n_quadratic_of ["model", "kind", "number", "place"] (C8.fnScope s_quadratic_of) := C8.fnScope_by (by decide +kernel)
abbrev s_stepped_value : Stmt := top 37
abbrev n_stepped_value : List Str := ["model", "kind", "number", "place", "best", "form", "present", "settings"]
theorem sc_stepped_value : FnScope n_stepped_value ["model", "kind", "number", "place"] (C8.fnScope s_stepped_value) := C8.fnScope_by (by decide +kernel)
abbrev s_step : Stmt := top 38
abbrev n_step : List Str := ["model", "kind", "number", "place", "row", "value"]
theorem sc_step : FnScope n_step ["model", "kind", "number", "place"] (C8.fnScope s_step) := C8.fnScope_by (by decide +kernel)
abbrev s_sweep : Stmt := top 39
abbrev n_sweep : List Str := ["model", "change_count", "kind", "number", "place"]
theorem sc_sweep : FnScope n_sweep ["model"] (C8.fnScope s_sweep) := C8.fnScope_by (by decide +kernel)
abbrev s_train : Stmt := top 40
abbrev n_train : List Str := ["model", "most", "sweep_count"]
theorem sc_train : FnScope n_train ["model", "most"] (C8.fnScope s_train) := C8.fnScope_by (by decide +kernel)
abbrev s_coming_objectives : Stmt := top 41
abbrev n_coming_objectives : List Str := ["model", "count", "found", "number", "trial"]
theorem sc_coming_objectives : FnScope n_coming_objectives ["model", "count"] (C8.fnScope s_coming_objectives) := C8.fnScope_by (by decide +kernel)
abbrev s_first_improvable : Stmt := top 42
abbrev n_first_improvable : List Str := ["model", "kind", "number", "place"]
theorem sc_first_improvable : FnScope n_first_improvable ["model"] (C8.fnScope s_first_improvable) := C8.fnScope_by (by decide +kernel)
abbrev s_are_new_ratings : Stmt := top 46
abbrev n_are_new_ratings : List Str := ["settings", "numbers", "item", "last_item", "position"]
theorem sc_are_new_ratings : FnScope n_are_new_ratings ["settings", "numbers"] (C8.fnScope s_are_new_ratings) := C8.fnScope_by (by decide +kernel)
abbrev s_with_newcomer : Stmt := top 47
abbrev n_with_newcomer : List Str := ["model", "numbers", "guest", "position"]
theorem sc_with_newcomer : FnScope n_with_newcomer ["model", "numbers"] (C8.fnScope s_with_newcomer) := C8.fnScope_by (by decide +kernel)
abbrev s_make_rounds : Stmt := top 48
abbrev n_make_rounds : List Str := ["guest", "change_count", "place", "round_count"]
theorem sc_make_rounds : FnScope n_make_rounds ["guest"] (C8.fnScope s_make_rounds) := C8.fnScope_by (by decide +kernel)
abbrev s_Session_init : Stmt := inClass (top 57) 0
abbrev n_Session_init : List Str := ["self"]
theorem sc_Session_init : FnScope n_Session_init ["self"] (C8.fnScope s_Session_init) := C8.fnScope_by (by decide +kernel)
abbrev s_answer_create : Stmt := top 58
abbrev n_answer_create : List Str := ["session", "numbers", "settings"]
theorem sc_answer_create : FnScope n_answer_create ["session", "numbers"] (C8.fnScope s_answer_create) := C8.fnScope_by (by decide +kernel)
abbrev s_answer_set_rating : Stmt := top 59
abbrev n_answer_set_rating : List Str := ["model", "numbers", "item", "old_value", "user", "value"]
theorem sc_answer_set_rating : FnScope n_answer_set_rating ["model", "numbers"] (C8.fnScope s_answer_set_rating) := C8.fnScope_by (by decide +kernel)
abbrev s_answer_clear_rating : Stmt := top 60
abbrev n_answer_clear_rating : List Str := ["model", "numbers", "item", "old_value", "user"]
theorem sc_answer_clear_rating : FnScope n_answer_clear_rating ["model", "numbers"] (C8.fnScope s_answer_clear_rating) := C8.fnScope_by (by decide +kernel)
abbrev s_answer_delete_user : Stmt := top 61
abbrev n_answer_delete_user : List Str := ["model", "numbers", "user"]
theorem sc_answer_delete_user : FnScope n_answer_delete_user ["model", "numbers"] (C8.fnScope s_answer_delete_user) := C8.fnScope_by (by decide +kernel)
abbrev s_answer_reset : Stmt := top 62
abbrev n_answer_reset : List Str := ["model", "numbers"]
theorem sc_answer_reset : FnScope n_answer_reset ["model", "numbers"] (C8.fnScope s_answer_reset) := C8.fnScope_by (by decide +kernel)
abbrev s_answer_step : Stmt := top 63
abbrev n_answer_step : List Str := ["model", "numbers", "is_changed", "kind", "number", "old_value", "place"]
theorem sc_answer_step : FnScope n_answer_step ["model", "numbers"] (C8.fnScope s_answer_step) := C8.fnScope_by (by decide +kernel)
abbrev s_answer_sweep : Stmt := top 64
abbrev n_answer_sweep : List Str := ["model", "numbers", "change_count"]
theorem sc_answer_sweep : FnScope n_answer_sweep ["model", "numbers"] (C8.fnScope s_answer_sweep) := C8.fnScope_by (by decide +kernel)
abbrev s_answer_train : Stmt := top 65
abbrev n_answer_train : List Str := ["model", "numbers", "most"]
theorem sc_answer_train : FnScope n_answer_train ["model", "numbers"] (C8.fnScope s_answer_train) := C8.fnScope_by (by decide +kernel)
abbrev s_answer_objective : Stmt := top 66
abbrev n_answer_objective : List Str := ["model", "numbers", "error", "penalty"]
theorem sc_answer_objective : FnScope n_answer_objective ["model", "numbers"] (C8.fnScope s_answer_objective) := C8.fnScope_by (by decide +kernel)
abbrev s_answer_curve : Stmt := top 67
abbrev n_answer_curve : List Str := ["model", "numbers", "count"]
theorem sc_answer_curve : FnScope n_answer_curve ["model", "numbers"] (C8.fnScope s_answer_curve) := C8.fnScope_by (by decide +kernel)
abbrev s_answer_certificate : Stmt := top 68
abbrev n_answer_certificate : List Str := ["model", "numbers", "found"]
theorem sc_answer_certificate : FnScope n_answer_certificate ["model", "numbers"] (C8.fnScope s_answer_certificate) := C8.fnScope_by (by decide +kernel)
abbrev s_answer_quadratic : Stmt := top 69
abbrev n_answer_quadratic : List Str := ["model", "numbers", "form", "kind", "number", "place"]
theorem sc_answer_quadratic : FnScope n_answer_quadratic ["model", "numbers"] (C8.fnScope s_answer_quadratic) := C8.fnScope_by (by decide +kernel)
abbrev s_answer_parameter : Stmt := top 70
abbrev n_answer_parameter : List Str := ["model", "numbers", "kind", "number", "place"]
theorem sc_answer_parameter : FnScope n_answer_parameter ["model", "numbers"] (C8.fnScope s_answer_parameter) := C8.fnScope_by (by decide +kernel)
abbrev s_answer_set_parameter : Stmt := top 71
abbrev n_answer_set_parameter : List Str := ["model", "numbers", "kind", "negative", "number", "old_value", "place", "row", "size", "value"]
theorem sc_answer_set_parameter : FnScope n_answer_set_parameter ["model", "numbers"] (C8.fnScope s_answer_set_parameter) := C8.fnScope_by (by decide +kernel)
abbrev s_answer_predict : Stmt := top 72
abbrev n_answer_predict : List Str := ["model", "numbers", "item", "user"]
theorem sc_answer_predict : FnScope n_answer_predict ["model", "numbers"] (C8.fnScope s_answer_predict) := C8.fnScope_by (by decide +kernel)
abbrev s_answer_explain : Stmt := top 73
abbrev n_answer_explain : List Str := ["model", "numbers", "item", "parts", "user"]
theorem sc_answer_explain : FnScope n_answer_explain ["model", "numbers"] (C8.fnScope s_answer_explain) := C8.fnScope_by (by decide +kernel)
abbrev s_listed : Stmt := top 74
abbrev n_listed : List Str := ["pairs", "found", "pair"]
theorem sc_listed : FnScope n_listed ["pairs"] (C8.fnScope s_listed) := C8.fnScope_by (by decide +kernel)
abbrev s_answer_residuals : Stmt := top 75
abbrev n_answer_residuals : List Str := ["model", "numbers", "user"]
theorem sc_answer_residuals : FnScope n_answer_residuals ["model", "numbers"] (C8.fnScope s_answer_residuals) := C8.fnScope_by (by decide +kernel)
abbrev s_answer_mean_error : Stmt := top 76
abbrev n_answer_mean_error : List Str := ["model", "numbers"]
theorem sc_answer_mean_error : FnScope n_answer_mean_error ["model", "numbers"] (C8.fnScope s_answer_mean_error) := C8.fnScope_by (by decide +kernel)
abbrev s_answer_recommend : Stmt := top 77
abbrev n_answer_recommend : List Str := ["model", "numbers", "count", "user"]
theorem sc_answer_recommend : FnScope n_answer_recommend ["model", "numbers"] (C8.fnScope s_answer_recommend) := C8.fnScope_by (by decide +kernel)
abbrev s_answer_similar : Stmt := top 78
abbrev n_answer_similar : List Str := ["model", "numbers", "count", "found", "kind", "number"]
theorem sc_answer_similar : FnScope n_answer_similar ["model", "numbers"] (C8.fnScope s_answer_similar) := C8.fnScope_by (by decide +kernel)
abbrev s_answer_fold_in : Stmt := top 79
abbrev n_answer_fold_in : List Str := ["model", "numbers", "guest", "round_count"]
theorem sc_answer_fold_in : FnScope n_answer_fold_in ["model", "numbers"] (C8.fnScope s_answer_fold_in) := C8.fnScope_by (by decide +kernel)
abbrev s_answer_recommend_new : Stmt := top 80
abbrev n_answer_recommend_new : List Str := ["model", "numbers", "count", "guest", "ratings"]
theorem sc_answer_recommend_new : FnScope n_answer_recommend_new ["model", "numbers"] (C8.fnScope s_answer_recommend_new) := C8.fnScope_by (by decide +kernel)
abbrev s_answer_without : Stmt := top 81
abbrev n_answer_without : List Str := ["model", "numbers", "most", "user"]
theorem sc_answer_without : FnScope n_answer_without ["model", "numbers"] (C8.fnScope s_answer_without) := C8.fnScope_by (by decide +kernel)
abbrev s_answer_status : Stmt := top 82
abbrev n_answer_status : List Str := ["model", "numbers", "rating_count", "row_counts", "settings"]
theorem sc_answer_status : FnScope n_answer_status ["model", "numbers"] (C8.fnScope s_answer_status) := C8.fnScope_by (by decide +kernel)
abbrev s_execute : Stmt := top 84
abbrev n_execute : List Str := ["session", "call", "numbers", "answer"]
theorem sc_execute : FnScope n_execute ["session", "call", "numbers"] (C8.fnScope s_execute) := C8.fnScope_by (by decide +kernel)
abbrev s_answers : Stmt := top 86
abbrev n_answers : List Str := ["calls", "answer", "end", "found", "position", "session", "start"]
theorem sc_answers : FnScope n_answers ["calls"] (C8.fnScope s_answers) := C8.fnScope_by (by decide +kernel)
structure Cs where
  K : PySem.W.Frag
  S : Addr
  M : Addr
  Q : Addr
  E : Addr
  cr : Addr
  mc : Addr
structure Tx (c : Cs) (mg : Str → Option Value) : Prop where
  g_BIAS_LIMIT : ∃ u, mg "BIAS_LIMIT" = some u ∧ RelV (.int 655360) u
  g_BIAS_PLACE : ∃ u, mg "BIAS_PLACE" = some u ∧ RelV (.int 0) u
  g_CREATE : ∃ u, mg "CREATE" = some u ∧ RelV (.int 0) u
  g_HASH_FACTOR : ∃ u, mg "HASH_FACTOR" = some u ∧ RelV (.int 1099511628211) u
  g_HASH_MODULUS : ∃ u, mg "HASH_MODULUS" = some u ∧ RelV (.int 18446744073709551616) u
  g_HASH_START : ∃ u, mg "HASH_START" = some u ∧ RelV (.int 14695981039346656037) u
  g_HIGHEST_RATING : ∃ u, mg "HIGHEST_RATING" = some u ∧ RelV (.int 10) u
  g_ITEM : ∃ u, mg "ITEM" = some u ∧ RelV (.int 1) u
  g_LARGEST_FIRST_FACTOR : ∃ u, mg "LARGEST_FIRST_FACTOR" = some u ∧ RelV (.int 64) u
  g_LONGEST_CURVE : ∃ u, mg "LONGEST_CURVE" = some u ∧ RelV (.int 20) u
  g_LOWEST_RATING : ∃ u, mg "LOWEST_RATING" = some u ∧ RelV (.int 1) u
  g_MOST_ROUNDS : ∃ u, mg "MOST_ROUNDS" = some u ∧ RelV (.int 100) u
  g_MOST_SWEEPS : ∃ u, mg "MOST_SWEEPS" = some u ∧ RelV (.int 100) u
  g_NEWCOMER : ∃ u, mg "NEWCOMER" = some u ∧ RelV (.int 0) u
  g_NOT_THERE : ∃ u, mg "NOT_THERE" = some u ∧ RelV (.int (-2)) u
  g_NO_MODEL : ∃ u, mg "NO_MODEL" = some u ∧ RelV (.int (-11)) u
  g_NO_RATING : ∃ u, mg "NO_RATING" = some u ∧ RelV (.int 0) u
  g_NO_SUCH_RATING : ∃ u, mg "NO_SUCH_RATING" = some u ∧ RelV (.int (-33)) u
  g_OUTSIDE_LIMITS : ∃ u, mg "OUTSIDE_LIMITS" = some u ∧ RelV (.int (-22)) u
  g_UNIT : ∃ u, mg "UNIT" = some u ∧ RelV (.int 65536) u
  g_USER : ∃ u, mg "USER" = some u ∧ RelV (.int 0) u
  g_CREATE_RANGES : ∃ u, mg "CREATE_RANGES" = some u ∧ RelV (.ref c.cr) u
  g_MODEL_CALLS : ∃ u, mg "MODEL_CALLS" = some u ∧ RelV (.ref c.mc) u
  n_enumerate : mg "enumerate" = none
  n_len : mg "len" = none
  n_list : mg "list" = none
  n_max : mg "max" = none
  n_min : mg "min" = none
  n_range : mg "range" = none
  n_sorted : mg "sorted" = none
  n_sum : mg "sum" = none
  cl_S : Cls c.K c.S
  na_S_row_counts : NoAttr c.K c.S "row_counts"
  na_S_factor_count : NoAttr c.K c.S "factor_count"
  na_S_limit : NoAttr c.K c.S "limit"
  na_S_nonnegative : NoAttr c.K c.S "nonnegative"
  na_S_factor_penalty : NoAttr c.K c.S "factor_penalty"
  na_S_bias_penalty : NoAttr c.K c.S "bias_penalty"
  na_S_seed : NoAttr c.K c.S "seed"
  na_S_parameters : NoAttr c.K c.S "parameters"
  cl_M : Cls c.K c.M
  na_M_settings : NoAttr c.K c.M "settings"
  na_M_ratings : NoAttr c.K c.M "ratings"
  na_M_base : NoAttr c.K c.M "base"
  na_M_rows : NoAttr c.K c.M "rows"
  cl_Q : Cls c.K c.Q
  na_Q_curvature : NoAttr c.K c.Q "curvature"
  na_Q_slope : NoAttr c.K c.Q "slope"
  cl_E : Cls c.K c.E
  na_E_model : NoAttr c.K c.E "model"
theorem bt_len : bootBuiltins "len" = some (.builtin "len") := by decide +kernel
theorem bt_sum : bootBuiltins "sum" = some (.builtin "sum") := by decide +kernel
theorem bt_min : bootBuiltins "min" = some (.builtin "min") := by decide +kernel
theorem bt_max : bootBuiltins "max" = some (.builtin "max") := by decide +kernel
theorem bt_list : bootBuiltins "list" = some (.type "list") := by decide +kernel
theorem bt_sorted : bootBuiltins "sorted" = some (.builtin "sorted") := by decide +kernel
end Lk
set_option Elab.async false
set_option maxRecDepth 100000
set_option maxHeartbeats 5000000
/-! The attributes of the program's classes: lookups and stores. -/
namespace Lk
open PySem PySem.Spec PyProof.Rows L2
theorem lk_here {k : Str} {v : V} {r : List (Str × V)} : List.lookup k ((k, v) :: r) = some v := by
  have e : (k == k) = true := beq_self_eq_true k
  simp only [List.lookup, e]
theorem lk_past {k g : Str} {v : V} {r : List (Str × V)} (h : (k == g) = false) : List.lookup k ((g, v) :: r) = List.lookup k r := by
  simp only [List.lookup, h]
theorem put_here {f : Str} {v x : V} {r : List (Str × V)} : putF f v ((f, x) :: r) = (f, v) :: r := if_pos rfl
theorem put_past {f g : Str} {v x : V} {r : List (Str × V)} (h : ¬ g = f) : putF f v ((g, x) :: r) = (g, x) :: putF f v r := if_neg h
theorem ne_all_ratings_base : (("all_ratings" : Str) == "base") = false := by decide +kernel
theorem ne_all_ratings_ratings : (("all_ratings" : Str) == "ratings") = false := by decide +kernel
theorem ne_all_ratings_rows : (("all_ratings" : Str) == "rows") = false := by decide +kernel
theorem ne_all_ratings_settings : (("all_ratings" : Str) == "settings") = false := by decide +kernel
theorem ne_base_ratings : (("base" : Str) == "ratings") = false := by decide +kernel
theorem ne_base_rows : (("base" : Str) == "rows") = false := by decide +kernel
theorem ne_base_settings : (("base" : Str) == "settings") = false := by decide +kernel
theorem ne_begin_again_base : (("begin_again" : Str) == "base") = false := by decide +kernel
theorem ne_begin_again_ratings : (("begin_again" : Str) == "ratings") = false := by decide +kernel
theorem ne_begin_again_rows : (("begin_again" : Str) == "rows") = false := by decide +kernel
theorem ne_begin_again_settings : (("begin_again" : Str) == "settings") = false := by decide +kernel
theorem ne_bias_penalty_factor_count : (("bias_penalty" : Str) == "factor_count") = false := by decide +kernel
theorem ne_bias_penalty_factor_penalty : (("bias_penalty" : Str) == "factor_penalty") = false := by decide +kernel
theorem ne_bias_penalty_limit : (("bias_penalty" : Str) == "limit") = false := by decide +kernel
theorem ne_bias_penalty_nonnegative : (("bias_penalty" : Str) == "nonnegative") = false := by decide +kernel
theorem ne_bias_penalty_parameters : (("bias_penalty" : Str) == "parameters") = false := by decide +kernel
theorem ne_bias_penalty_row_counts : (("bias_penalty" : Str) == "row_counts") = false := by decide +kernel
theorem ne_bias_penalty_seed : (("bias_penalty" : Str) == "seed") = false := by decide +kernel
theorem ne_curvature_slope : (("curvature" : Str) == "slope") = false := by decide +kernel
theorem ne_drop_ratings_base : (("drop_ratings" : Str) == "base") = false := by decide +kernel
theorem ne_drop_ratings_ratings : (("drop_ratings" : Str) == "ratings") = false := by decide +kernel
theorem ne_drop_ratings_rows : (("drop_ratings" : Str) == "rows") = false := by decide +kernel
theorem ne_drop_ratings_settings : (("drop_ratings" : Str) == "settings") = false := by decide +kernel
theorem ne_factor_count_bias_penalty : (("factor_count" : Str) == "bias_penalty") = false := by decide +kernel
theorem ne_factor_count_factor_penalty : (("factor_count" : Str) == "factor_penalty") = false := by decide +kernel
theorem ne_factor_count_limit : (("factor_count" : Str) == "limit") = false := by decide +kernel
theorem ne_factor_count_nonnegative : (("factor_count" : Str) == "nonnegative") = false := by decide +kernel
theorem ne_factor_count_parameters : (("factor_count" : Str) == "parameters") = false := by decide +kernel
theorem ne_factor_count_row_counts : (("factor_count" : Str) == "row_counts") = false := by decide +kernel
theorem ne_factor_count_seed : (("factor_count" : Str) == "seed") = false := by decide +kernel
theorem ne_factor_penalty_bias_penalty : (("factor_penalty" : Str) == "bias_penalty") = false := by decide +kernel
theorem ne_factor_penalty_factor_count : (("factor_penalty" : Str) == "factor_count") = false := by decide +kernel
theorem ne_factor_penalty_limit : (("factor_penalty" : Str) == "limit") = false := by decide +kernel
theorem ne_factor_penalty_nonnegative : (("factor_penalty" : Str) == "nonnegative") = false := by decide +kernel
theorem ne_factor_penalty_parameters : (("factor_penalty" : Str) == "parameters") = false := by decide +kernel
theorem ne_factor_penalty_row_counts : (("factor_penalty" : Str) == "row_counts") = false := by decide +kernel
theorem ne_factor_penalty_seed : (("factor_penalty" : Str) == "seed") = false := by decide +kernel
theorem ne_has_item_bias_penalty : (("has_item" : Str) == "bias_penalty") = false := by decide +kernel
theorem ne_has_item_factor_count : (("has_item" : Str) == "factor_count") = false := by decide +kernel
theorem ne_has_item_factor_penalty : (("has_item" : Str) == "factor_penalty") = false := by decide +kernel
theorem ne_has_item_limit : (("has_item" : Str) == "limit") = false := by decide +kernel
theorem ne_has_item_nonnegative : (("has_item" : Str) == "nonnegative") = false := by decide +kernel
theorem ne_has_item_parameters : (("has_item" : Str) == "parameters") = false := by decide +kernel
theorem ne_has_item_row_counts : (("has_item" : Str) == "row_counts") = false := by decide +kernel
theorem ne_has_item_seed : (("has_item" : Str) == "seed") = false := by decide +kernel
theorem ne_has_pair_bias_penalty : (("has_pair" : Str) == "bias_penalty") = false := by decide +kernel
theorem ne_has_pair_factor_count : (("has_pair" : Str) == "factor_count") = false := by decide +kernel
theorem ne_has_pair_factor_penalty : (("has_pair" : Str) == "factor_penalty") = false := by decide +kernel
theorem ne_has_pair_limit : (("has_pair" : Str) == "limit") = false := by decide +kernel
theorem ne_has_pair_nonnegative : (("has_pair" : Str) == "nonnegative") = false := by decide +kernel
theorem ne_has_pair_parameters : (("has_pair" : Str) == "parameters") = false := by decide +kernel
theorem ne_has_pair_row_counts : (("has_pair" : Str) == "row_counts") = false := by decide +kernel
theorem ne_has_pair_seed : (("has_pair" : Str) == "seed") = false := by decide +kernel
theorem ne_has_parameter_bias_penalty : (("has_parameter" : Str) == "bias_penalty") = false := by decide +kernel
theorem ne_has_parameter_factor_count : (("has_parameter" : Str) == "factor_count") = false := by decide +kernel
theorem ne_has_parameter_factor_penalty : (("has_parameter" : Str) == "factor_penalty") = false := by decide +kernel
theorem ne_has_parameter_limit : (("has_parameter" : Str) == "limit") = false := by decide +kernel
theorem ne_has_parameter_nonnegative : (("has_parameter" : Str) == "nonnegative") = false := by decide +kernel
theorem ne_has_parameter_parameters : (("has_parameter" : Str) == "parameters") = false := by decide +kernel
theorem ne_has_parameter_row_counts : (("has_parameter" : Str) == "row_counts") = false := by decide +kernel
theorem ne_has_parameter_seed : (("has_parameter" : Str) == "seed") = false := by decide +kernel
theorem ne_has_row_bias_penalty : (("has_row" : Str) == "bias_penalty") = false := by decide +kernel
theorem ne_has_row_factor_count : (("has_row" : Str) == "factor_count") = false := by decide +kernel
theorem ne_has_row_factor_penalty : (("has_row" : Str) == "factor_penalty") = false := by decide +kernel
theorem ne_has_row_limit : (("has_row" : Str) == "limit") = false := by decide +kernel
theorem ne_has_row_nonnegative : (("has_row" : Str) == "nonnegative") = false := by decide +kernel
theorem ne_has_row_parameters : (("has_row" : Str) == "parameters") = false := by decide +kernel
theorem ne_has_row_row_counts : (("has_row" : Str) == "row_counts") = false := by decide +kernel
theorem ne_has_row_seed : (("has_row" : Str) == "seed") = false := by decide +kernel
theorem ne_has_user_bias_penalty : (("has_user" : Str) == "bias_penalty") = false := by decide +kernel
theorem ne_has_user_factor_count : (("has_user" : Str) == "factor_count") = false := by decide +kernel
theorem ne_has_user_factor_penalty : (("has_user" : Str) == "factor_penalty") = false := by decide +kernel
theorem ne_has_user_limit : (("has_user" : Str) == "limit") = false := by decide +kernel
theorem ne_has_user_nonnegative : (("has_user" : Str) == "nonnegative") = false := by decide +kernel
theorem ne_has_user_parameters : (("has_user" : Str) == "parameters") = false := by decide +kernel
theorem ne_has_user_row_counts : (("has_user" : Str) == "row_counts") = false := by decide +kernel
theorem ne_has_user_seed : (("has_user" : Str) == "seed") = false := by decide +kernel
theorem ne_height_curvature : (("height" : Str) == "curvature") = false := by decide +kernel
theorem ne_height_slope : (("height" : Str) == "slope") = false := by decide +kernel
theorem ne_highest_bias_penalty : (("highest" : Str) == "bias_penalty") = false := by decide +kernel
theorem ne_highest_factor_count : (("highest" : Str) == "factor_count") = false := by decide +kernel
theorem ne_highest_factor_penalty : (("highest" : Str) == "factor_penalty") = false := by decide +kernel
theorem ne_highest_limit : (("highest" : Str) == "limit") = false := by decide +kernel
theorem ne_highest_nonnegative : (("highest" : Str) == "nonnegative") = false := by decide +kernel
theorem ne_highest_parameters : (("highest" : Str) == "parameters") = false := by decide +kernel
theorem ne_highest_row_counts : (("highest" : Str) == "row_counts") = false := by decide +kernel
theorem ne_highest_seed : (("highest" : Str) == "seed") = false := by decide +kernel
theorem ne_is_in_range_bias_penalty : (("is_in_range" : Str) == "bias_penalty") = false := by decide +kernel
theorem ne_is_in_range_factor_count : (("is_in_range" : Str) == "factor_count") = false := by decide +kernel
theorem ne_is_in_range_factor_penalty : (("is_in_range" : Str) == "factor_penalty") = false := by decide +kernel
theorem ne_is_in_range_limit : (("is_in_range" : Str) == "limit") = false := by decide +kernel
theorem ne_is_in_range_nonnegative : (("is_in_range" : Str) == "nonnegative") = false := by decide +kernel
theorem ne_is_in_range_parameters : (("is_in_range" : Str) == "parameters") = false := by decide +kernel
theorem ne_is_in_range_row_counts : (("is_in_range" : Str) == "row_counts") = false := by decide +kernel
theorem ne_is_in_range_seed : (("is_in_range" : Str) == "seed") = false := by decide +kernel
theorem ne_limit_bias_penalty : (("limit" : Str) == "bias_penalty") = false := by decide +kernel
theorem ne_limit_factor_count : (("limit" : Str) == "factor_count") = false := by decide +kernel
theorem ne_limit_factor_penalty : (("limit" : Str) == "factor_penalty") = false := by decide +kernel
theorem ne_limit_nonnegative : (("limit" : Str) == "nonnegative") = false := by decide +kernel
theorem ne_limit_parameters : (("limit" : Str) == "parameters") = false := by decide +kernel
theorem ne_limit_row_counts : (("limit" : Str) == "row_counts") = false := by decide +kernel
theorem ne_limit_seed : (("limit" : Str) == "seed") = false := by decide +kernel
theorem ne_lowest_bias_penalty : (("lowest" : Str) == "bias_penalty") = false := by decide +kernel
theorem ne_lowest_factor_count : (("lowest" : Str) == "factor_count") = false := by decide +kernel
theorem ne_lowest_factor_penalty : (("lowest" : Str) == "factor_penalty") = false := by decide +kernel
theorem ne_lowest_limit : (("lowest" : Str) == "limit") = false := by decide +kernel
theorem ne_lowest_nonnegative : (("lowest" : Str) == "nonnegative") = false := by decide +kernel
theorem ne_lowest_parameters : (("lowest" : Str) == "parameters") = false := by decide +kernel
theorem ne_lowest_row_counts : (("lowest" : Str) == "row_counts") = false := by decide +kernel
theorem ne_lowest_seed : (("lowest" : Str) == "seed") = false := by decide +kernel
theorem ne_nearest_curvature : (("nearest" : Str) == "curvature") = false := by decide +kernel
theorem ne_nearest_slope : (("nearest" : Str) == "slope") = false := by decide +kernel
theorem ne_nonnegative_bias_penalty : (("nonnegative" : Str) == "bias_penalty") = false := by decide +kernel
theorem ne_nonnegative_factor_count : (("nonnegative" : Str) == "factor_count") = false := by decide +kernel
theorem ne_nonnegative_factor_penalty : (("nonnegative" : Str) == "factor_penalty") = false := by decide +kernel
theorem ne_nonnegative_limit : (("nonnegative" : Str) == "limit") = false := by decide +kernel
theorem ne_nonnegative_parameters : (("nonnegative" : Str) == "parameters") = false := by decide +kernel
theorem ne_nonnegative_row_counts : (("nonnegative" : Str) == "row_counts") = false := by decide +kernel
theorem ne_nonnegative_seed : (("nonnegative" : Str) == "seed") = false := by decide +kernel
theorem ne_ordered_parameters_bias_penalty : (("ordered_parameters" : Str) == "bias_penalty") = false := by decide +kernel
theorem ne_ordered_parameters_factor_count : (("ordered_parameters" : Str) == "factor_count") = false := by decide +kernel
theorem ne_ordered_parameters_factor_penalty : (("ordered_parameters" : Str) == "factor_penalty") = false := by decide +kernel
theorem ne_ordered_parameters_limit : (("ordered_parameters" : Str) == "limit") = false := by decide +kernel
theorem ne_ordered_parameters_nonnegative : (("ordered_parameters" : Str) == "nonnegative") = false := by decide +kernel
theorem ne_ordered_parameters_parameters : (("ordered_parameters" : Str) == "parameters") = false := by decide +kernel
theorem ne_ordered_parameters_row_counts : (("ordered_parameters" : Str) == "row_counts") = false := by decide +kernel
theorem ne_ordered_parameters_seed : (("ordered_parameters" : Str) == "seed") = false := by decide +kernel
theorem ne_parameters_bias_penalty : (("parameters" : Str) == "bias_penalty") = false := by decide +kernel
theorem ne_parameters_factor_count : (("parameters" : Str) == "factor_count") = false := by decide +kernel
theorem ne_parameters_factor_penalty : (("parameters" : Str) == "factor_penalty") = false := by decide +kernel
theorem ne_parameters_limit : (("parameters" : Str) == "limit") = false := by decide +kernel
theorem ne_parameters_nonnegative : (("parameters" : Str) == "nonnegative") = false := by decide +kernel
theorem ne_parameters_row_counts : (("parameters" : Str) == "row_counts") = false := by decide +kernel
theorem ne_parameters_seed : (("parameters" : Str) == "seed") = false := by decide +kernel
theorem ne_penalty_bias_penalty : (("penalty" : Str) == "bias_penalty") = false := by decide +kernel
theorem ne_penalty_factor_count : (("penalty" : Str) == "factor_count") = false := by decide +kernel
theorem ne_penalty_factor_penalty : (("penalty" : Str) == "factor_penalty") = false := by decide +kernel
theorem ne_penalty_limit : (("penalty" : Str) == "limit") = false := by decide +kernel
theorem ne_penalty_nonnegative : (("penalty" : Str) == "nonnegative") = false := by decide +kernel
theorem ne_penalty_parameters : (("penalty" : Str) == "parameters") = false := by decide +kernel
theorem ne_penalty_row_counts : (("penalty" : Str) == "row_counts") = false := by decide +kernel
theorem ne_penalty_seed : (("penalty" : Str) == "seed") = false := by decide +kernel
theorem ne_prediction_base : (("prediction" : Str) == "base") = false := by decide +kernel
theorem ne_prediction_ratings : (("prediction" : Str) == "ratings") = false := by decide +kernel
theorem ne_prediction_rows : (("prediction" : Str) == "rows") = false := by decide +kernel
theorem ne_prediction_settings : (("prediction" : Str) == "settings") = false := by decide +kernel
theorem ne_prediction_parts_base : (("prediction_parts" : Str) == "base") = false := by decide +kernel
theorem ne_prediction_parts_ratings : (("prediction_parts" : Str) == "ratings") = false := by decide +kernel
theorem ne_prediction_parts_rows : (("prediction_parts" : Str) == "rows") = false := by decide +kernel
theorem ne_prediction_parts_settings : (("prediction_parts" : Str) == "settings") = false := by decide +kernel
theorem ne_ratings_base : (("ratings" : Str) == "base") = false := by decide +kernel
theorem ne_ratings_rows : (("ratings" : Str) == "rows") = false := by decide +kernel
theorem ne_ratings_settings : (("ratings" : Str) == "settings") = false := by decide +kernel
theorem ne_ratings_of_base : (("ratings_of" : Str) == "base") = false := by decide +kernel
theorem ne_ratings_of_ratings : (("ratings_of" : Str) == "ratings") = false := by decide +kernel
theorem ne_ratings_of_rows : (("ratings_of" : Str) == "rows") = false := by decide +kernel
theorem ne_ratings_of_settings : (("ratings_of" : Str) == "settings") = false := by decide +kernel
theorem ne_residuals_of_base : (("residuals_of" : Str) == "base") = false := by decide +kernel
theorem ne_residuals_of_ratings : (("residuals_of" : Str) == "ratings") = false := by decide +kernel
theorem ne_residuals_of_rows : (("residuals_of" : Str) == "rows") = false := by decide +kernel
theorem ne_residuals_of_settings : (("residuals_of" : Str) == "settings") = false := by decide +kernel
theorem ne_row_counts_bias_penalty : (("row_counts" : Str) == "bias_penalty") = false := by decide +kernel
theorem ne_row_counts_factor_count : (("row_counts" : Str) == "factor_count") = false := by decide +kernel
theorem ne_row_counts_factor_penalty : (("row_counts" : Str) == "factor_penalty") = false := by decide +kernel
theorem ne_row_counts_limit : (("row_counts" : Str) == "limit") = false := by decide +kernel
theorem ne_row_counts_nonnegative : (("row_counts" : Str) == "nonnegative") = false := by decide +kernel
theorem ne_row_counts_parameters : (("row_counts" : Str) == "parameters") = false := by decide +kernel
theorem ne_row_counts_seed : (("row_counts" : Str) == "seed") = false := by decide +kernel
theorem ne_rows_base : (("rows" : Str) == "base") = false := by decide +kernel
theorem ne_rows_ratings : (("rows" : Str) == "ratings") = false := by decide +kernel
theorem ne_rows_settings : (("rows" : Str) == "settings") = false := by decide +kernel
theorem ne_seed_bias_penalty : (("seed" : Str) == "bias_penalty") = false := by decide +kernel
theorem ne_seed_factor_count : (("seed" : Str) == "factor_count") = false := by decide +kernel
theorem ne_seed_factor_penalty : (("seed" : Str) == "factor_penalty") = false := by decide +kernel
theorem ne_seed_limit : (("seed" : Str) == "limit") = false := by decide +kernel
theorem ne_seed_nonnegative : (("seed" : Str) == "nonnegative") = false := by decide +kernel
theorem ne_seed_parameters : (("seed" : Str) == "parameters") = false := by decide +kernel
theorem ne_seed_row_counts : (("seed" : Str) == "row_counts") = false := by decide +kernel
theorem ne_settings_base : (("settings" : Str) == "base") = false := by decide +kernel
theorem ne_settings_ratings : (("settings" : Str) == "ratings") = false := by decide +kernel
theorem ne_settings_rows : (("settings" : Str) == "rows") = false := by decide +kernel
theorem ne_slope_curvature : (("slope" : Str) == "curvature") = false := by decide +kernel
theorem ne_twin_base : (("twin" : Str) == "base") = false := by decide +kernel
theorem ne_twin_ratings : (("twin" : Str) == "ratings") = false := by decide +kernel
theorem ne_twin_rows : (("twin" : Str) == "rows") = false := by decide +kernel
theorem ne_twin_settings : (("twin" : Str) == "settings") = false := by decide +kernel
def fS (v0 v1 v2 v3 v4 v5 v6 v7 : V) : List (Str × V) := [("row_counts", v0), ("factor_count", v1), ("limit", v2), ("nonnegative", v3), ("factor_penalty", v4), ("bias_penalty", v5), ("seed", v6), ("parameters", v7)]
theorem lk_S_row_counts {v0 v1 v2 v3 v4 v5 v6 v7 : V} : (fS v0 v1 v2 v3 v4 v5 v6 v7).lookup ("row_counts" : Str) = some v0 := lk_here
theorem lk_S_factor_count {v0 v1 v2 v3 v4 v5 v6 v7 : V} : (fS v0 v1 v2 v3 v4 v5 v6 v7).lookup ("factor_count" : Str) = some v1 := (lk_past ne_factor_count_row_counts).trans (lk_here)
theorem lk_S_limit {v0 v1 v2 v3 v4 v5 v6 v7 : V} : (fS v0 v1 v2 v3 v4 v5 v6 v7).lookup ("limit" : Str) = some v2 := (lk_past ne_limit_row_counts).trans ((lk_past ne_limit_factor_count).trans (lk_here))
theorem lk_S_nonnegative {v0 v1 v2 v3 v4 v5 v6 v7 : V} : (fS v0 v1 v2 v3 v4 v5 v6 v7).lookup ("nonnegative" : Str) = some v3 := (lk_past ne_nonnegative_row_counts).trans ((lk_past ne_nonnegative_factor_count).trans ((lk_past ne_nonnegative_limit).trans (lk_here)))
theorem lk_S_factor_penalty {v0 v1 v2 v3 v4 v5 v6 v7 : V} : (fS v0 v1 v2 v3 v4 v5 v6 v7).lookup ("factor_penalty" : Str) = some v4 := (lk_past ne_factor_penalty_row_counts).trans ((lk_past ne_factor_penalty_factor_count).trans ((lk_past ne_factor_penalty_limit).trans ((lk_past ne_factor_penalty_nonnegative).trans (lk_here))))
theorem lk_S_bias_penalty {v0 v1 v2 v3 v4 v5 v6 v7 : V} : (fS v0 v1 v2 v3 v4 v5 v6 v7).lookup ("bias_penalty" : Str) = some v5 := (lk_past ne_bias_penalty_row_counts).trans ((lk_past ne_bias_penalty_factor_count).trans ((lk_past ne_bias_penalty_limit).trans ((lk_past ne_bias_penalty_nonnegative).trans ((lk_past ne_bias_penalty_factor_penalty).trans (lk_here)))))
theorem lk_S_seed {v0 v1 v2 v3 v4 v5 v6 v7 : V} : (fS v0 v1 v2 v3 v4 v5 v6 v7).lookup ("seed" : Str) = some v6 := (lk_past ne_seed_row_counts).trans ((lk_past ne_seed_factor_count).trans ((lk_past ne_seed_limit).trans ((lk_past ne_seed_nonnegative).trans ((lk_past ne_seed_factor_penalty).trans ((lk_past ne_seed_bias_penalty).trans (lk_here))))))
theorem lk_S_parameters {v0 v1 v2 v3 v4 v5 v6 v7 : V} : (fS v0 v1 v2 v3 v4 v5 v6 v7).lookup ("parameters" : Str) = some v7 := (lk_past ne_parameters_row_counts).trans ((lk_past ne_parameters_factor_count).trans ((lk_past ne_parameters_limit).trans ((lk_past ne_parameters_nonnegative).trans ((lk_past ne_parameters_factor_penalty).trans ((lk_past ne_parameters_bias_penalty).trans ((lk_past ne_parameters_seed).trans (lk_here)))))))
theorem lk_S_ordered_parameters {v0 v1 v2 v3 v4 v5 v6 v7 : V} : (fS v0 v1 v2 v3 v4 v5 v6 v7).lookup ("ordered_parameters" : Str) = none := (lk_past ne_ordered_parameters_row_counts).trans ((lk_past ne_ordered_parameters_factor_count).trans ((lk_past ne_ordered_parameters_limit).trans ((lk_past ne_ordered_parameters_nonnegative).trans ((lk_past ne_ordered_parameters_factor_penalty).trans ((lk_past ne_ordered_parameters_bias_penalty).trans ((lk_past ne_ordered_parameters_seed).trans ((lk_past ne_ordered_parameters_parameters).trans (rfl))))))))
theorem lk_S_has_user {v0 v1 v2 v3 v4 v5 v6 v7 : V} : (fS v0 v1 v2 v3 v4 v5 v6 v7).lookup ("has_user" : Str) = none := (lk_past ne_has_user_row_counts).trans ((lk_past ne_has_user_factor_count).trans ((lk_past ne_has_user_limit).trans ((lk_past ne_has_user_nonnegative).trans ((lk_past ne_has_user_factor_penalty).trans ((lk_past ne_has_user_bias_penalty).trans ((lk_past ne_has_user_seed).trans ((lk_past ne_has_user_parameters).trans (rfl))))))))
theorem lk_S_has_item {v0 v1 v2 v3 v4 v5 v6 v7 : V} : (fS v0 v1 v2 v3 v4 v5 v6 v7).lookup ("has_item" : Str) = none := (lk_past ne_has_item_row_counts).trans ((lk_past ne_has_item_factor_count).trans ((lk_past ne_has_item_limit).trans ((lk_past ne_has_item_nonnegative).trans ((lk_past ne_has_item_factor_penalty).trans ((lk_past ne_has_item_bias_penalty).trans ((lk_past ne_has_item_seed).trans ((lk_past ne_has_item_parameters).trans (rfl))))))))
theorem lk_S_has_pair {v0 v1 v2 v3 v4 v5 v6 v7 : V} : (fS v0 v1 v2 v3 v4 v5 v6 v7).lookup ("has_pair" : Str) = none := (lk_past ne_has_pair_row_counts).trans ((lk_past ne_has_pair_factor_count).trans ((lk_past ne_has_pair_limit).trans ((lk_past ne_has_pair_nonnegative).trans ((lk_past ne_has_pair_factor_penalty).trans ((lk_past ne_has_pair_bias_penalty).trans ((lk_past ne_has_pair_seed).trans ((lk_past ne_has_pair_parameters).trans (rfl))))))))
theorem lk_S_has_row {v0 v1 v2 v3 v4 v5 v6 v7 : V} : (fS v0 v1 v2 v3 v4 v5 v6 v7).lookup ("has_row" : Str) = none := (lk_past ne_has_row_row_counts).trans ((lk_past ne_has_row_factor_count).trans ((lk_past ne_has_row_limit).trans ((lk_past ne_has_row_nonnegative).trans ((lk_past ne_has_row_factor_penalty).trans ((lk_past ne_has_row_bias_penalty).trans ((lk_past ne_has_row_seed).trans ((lk_past ne_has_row_parameters).trans (rfl))))))))
theorem lk_S_has_parameter {v0 v1 v2 v3 v4 v5 v6 v7 : V} : (fS v0 v1 v2 v3 v4 v5 v6 v7).lookup ("has_parameter" : Str) = none := (lk_past ne_has_parameter_row_counts).trans ((lk_past ne_has_parameter_factor_count).trans ((lk_past ne_has_parameter_limit).trans ((lk_past ne_has_parameter_nonnegative).trans ((lk_past ne_has_parameter_factor_penalty).trans ((lk_past ne_has_parameter_bias_penalty).trans ((lk_past ne_has_parameter_seed).trans ((lk_past ne_has_parameter_parameters).trans (rfl))))))))
theorem lk_S_lowest {v0 v1 v2 v3 v4 v5 v6 v7 : V} : (fS v0 v1 v2 v3 v4 v5 v6 v7).lookup ("lowest" : Str) = none := (lk_past ne_lowest_row_counts).trans ((lk_past ne_lowest_factor_count).trans ((lk_past ne_lowest_limit).trans ((lk_past ne_lowest_nonnegative).trans ((lk_past ne_lowest_factor_penalty).trans ((lk_past ne_lowest_bias_penalty).trans ((lk_past ne_lowest_seed).trans ((lk_past ne_lowest_parameters).trans (rfl))))))))
theorem lk_S_highest {v0 v1 v2 v3 v4 v5 v6 v7 : V} : (fS v0 v1 v2 v3 v4 v5 v6 v7).lookup ("highest" : Str) = none := (lk_past ne_highest_row_counts).trans ((lk_past ne_highest_factor_count).trans ((lk_past ne_highest_limit).trans ((lk_past ne_highest_nonnegative).trans ((lk_past ne_highest_factor_penalty).trans ((lk_past ne_highest_bias_penalty).trans ((lk_past ne_highest_seed).trans ((lk_past ne_highest_parameters).trans (rfl))))))))
theorem lk_S_is_in_range {v0 v1 v2 v3 v4 v5 v6 v7 : V} : (fS v0 v1 v2 v3 v4 v5 v6 v7).lookup ("is_in_range" : Str) = none := (lk_past ne_is_in_range_row_counts).trans ((lk_past ne_is_in_range_factor_count).trans ((lk_past ne_is_in_range_limit).trans ((lk_past ne_is_in_range_nonnegative).trans ((lk_past ne_is_in_range_factor_penalty).trans ((lk_past ne_is_in_range_bias_penalty).trans ((lk_past ne_is_in_range_seed).trans ((lk_past ne_is_in_range_parameters).trans (rfl))))))))
theorem lk_S_penalty {v0 v1 v2 v3 v4 v5 v6 v7 : V} : (fS v0 v1 v2 v3 v4 v5 v6 v7).lookup ("penalty" : Str) = none := (lk_past ne_penalty_row_counts).trans ((lk_past ne_penalty_factor_count).trans ((lk_past ne_penalty_limit).trans ((lk_past ne_penalty_nonnegative).trans ((lk_past ne_penalty_factor_penalty).trans ((lk_past ne_penalty_bias_penalty).trans ((lk_past ne_penalty_seed).trans ((lk_past ne_penalty_parameters).trans (rfl))))))))
theorem pu_S_row_counts {v0 : V} : putF "row_counts" v0 [] = [(("row_counts" : Str), v0)] := rfl
theorem pu_S_factor_count {v0 v1 : V} : putF "factor_count" v1 [(("row_counts" : Str), v0)] = [(("row_counts" : Str), v0), (("factor_count" : Str), v1)] := (put_past (beq_eq_false_iff_ne.mp ne_row_counts_factor_count)).trans (congrArg _ (rfl))
theorem pu_S_limit {v0 v1 v2 : V} : putF "limit" v2 [(("row_counts" : Str), v0), (("factor_count" : Str), v1)] = [(("row_counts" : Str), v0), (("factor_count" : Str), v1), (("limit" : Str), v2)] := (put_past (beq_eq_false_iff_ne.mp ne_row_counts_limit)).trans (congrArg _ ((put_past (beq_eq_false_iff_ne.mp ne_factor_count_limit)).trans (congrArg _ (rfl))))
theorem pu_S_nonnegative {v0 v1 v2 v3 : V} : putF "nonnegative" v3 [(("row_counts" : Str), v0), (("factor_count" : Str), v1), (("limit" : Str), v2)] = [(("row_counts" : Str), v0), (("factor_count" : Str), v1), (("limit" : Str), v2), (("nonnegative" : Str), v3)] := (put_past (beq_eq_false_iff_ne.mp ne_row_counts_nonnegative)).trans (congrArg _ ((put_past (beq_eq_false_iff_ne.mp ne_factor_count_nonnegative)).trans (congrArg _ ((put_past (beq_eq_false_iff_ne.mp ne_limit_nonnegative)).trans (congrArg _ (rfl))))))
theorem pu_S_factor_penalty {v0 v1 v2 v3 v4 : V} : putF "factor_penalty" v4 [(("row_counts" : Str), v0), (("factor_count" : Str), v1), (("limit" : Str), v2), (("nonnegative" : Str), v3)] = [(("row_counts" : Str), v0), (("factor_count" : Str), v1), (("limit" : Str), v2), (("nonnegative" : Str), v3), (("factor_penalty" : Str), v4)] := (put_past (beq_eq_false_iff_ne.mp ne_row_counts_factor_penalty)).trans (congrArg _ ((put_past (beq_eq_false_iff_ne.mp ne_factor_count_factor_penalty)).trans (congrArg _ ((put_past (beq_eq_false_iff_ne.mp ne_limit_factor_penalty)).trans (congrArg _ ((put_past (beq_eq_false_iff_ne.mp ne_nonnegative_factor_penalty)).trans (congrArg _ (rfl))))))))
theorem pu_S_bias_penalty {v0 v1 v2 v3 v4 v5 : V} : putF "bias_penalty" v5 [(("row_counts" : Str), v0), (("factor_count" : Str), v1), (("limit" : Str), v2), (("nonnegative" : Str), v3), (("factor_penalty" : Str), v4)] = [(("row_counts" : Str), v0), (("factor_count" : Str), v1), (("limit" : Str), v2), (("nonnegative" : Str), v3), (("factor_penalty" : Str), v4), (("bias_penalty" : Str), v5)] := (put_past (beq_eq_false_iff_ne.mp ne_row_counts_bias_penalty)).trans (congrArg _ ((put_past (beq_eq_false_iff_ne.mp ne_factor_count_bias_penalty)).trans (congrArg _ ((put_past (beq_eq_false_iff_ne.mp ne_limit_bias_penalty)).trans (congrArg _ ((put_past (beq_eq_false_iff_ne.mp ne_nonnegative_bias_penalty)).trans (congrArg _ ((put_past (beq_eq_false_iff_ne.mp ne_factor_penalty_bias_penalty)).trans (congrArg _ (rfl))))))))))
theorem pu_S_seed {v0 v1 v2 v3 v4 v5 v6 : V} : putF "seed" v6 [(("row_counts" : Str), v0), (("factor_count" : Str), v1), (("limit" : Str), v2), (("nonnegative" : Str), v3), (("factor_penalty" : Str), v4), (("bias_penalty" : Str), v5)] = [(("row_counts" : Str), v0), (("factor_count" : Str), v1), (("limit" : Str), v2), (("nonnegative" : Str), v3), (("factor_penalty" : Str), v4), (("bias_penalty" : Str), v5), (("seed" : Str), v6)] := (put_past (beq_eq_false_iff_ne.mp ne_row_counts_seed)).trans (congrArg _ ((put_past (beq_eq_false_iff_ne.mp ne_factor_count_seed)).trans (congrArg _ ((put_past (beq_eq_false_iff_ne.mp ne_limit_seed)).trans (congrArg _ ((put_past (beq_eq_false_iff_ne.mp ne_nonnegative_seed)).trans (congrArg _ ((put_past (beq_eq_false_iff_ne.mp ne_factor_penalty_seed)).trans (congrArg _ ((put_past (beq_eq_false_iff_ne.mp ne_bias_penalty_seed)).trans (congrArg _ (rfl))))))))))))
theorem pu_S_parameters {v0 v1 v2 v3 v4 v5 v6 v7 : V} : putF "parameters" v7 [(("row_counts" : Str), v0), (("factor_count" : Str), v1), (("limit" : Str), v2), (("nonnegative" : Str), v3), (("factor_penalty" : Str), v4), (("bias_penalty" : Str), v5), (("seed" : Str), v6)] = [(("row_counts" : Str), v0), (("factor_count" : Str), v1), (("limit" : Str), v2), (("nonnegative" : Str), v3), (("factor_penalty" : Str), v4), (("bias_penalty" : Str), v5), (("seed" : Str), v6), (("parameters" : Str), v7)] := (put_past (beq_eq_false_iff_ne.mp ne_row_counts_parameters)).trans (congrArg _ ((put_past (beq_eq_false_iff_ne.mp ne_factor_count_parameters)).trans (congrArg _ ((put_past (beq_eq_false_iff_ne.mp ne_limit_parameters)).trans (congrArg _ ((put_past (beq_eq_false_iff_ne.mp ne_nonnegative_parameters)).trans (congrArg _ ((put_past (beq_eq_false_iff_ne.mp ne_factor_penalty_parameters)).trans (congrArg _ ((put_past (beq_eq_false_iff_ne.mp ne_bias_penalty_parameters)).trans (congrArg _ ((put_past (beq_eq_false_iff_ne.mp ne_seed_parameters)).trans (congrArg _ (rfl))))))))))))))
theorem st_S_row_counts {v0 v1 v2 v3 v4 v5 v6 v7 w : V} : putF "row_counts" w (fS v0 v1 v2 v3 v4 v5 v6 v7) = fS w v1 v2 v3 v4 v5 v6 v7 := put_here
theorem st_S_factor_count {v0 v1 v2 v3 v4 v5 v6 v7 w : V} : putF "factor_count" w (fS v0 v1 v2 v3 v4 v5 v6 v7) = fS v0 w v2 v3 v4 v5 v6 v7 := (put_past (beq_eq_false_iff_ne.mp ne_row_counts_factor_count)).trans (congrArg _ (put_here))
theorem st_S_limit {v0 v1 v2 v3 v4 v5 v6 v7 w : V} : putF "limit" w (fS v0 v1 v2 v3 v4 v5 v6 v7) = fS v0 v1 w v3 v4 v5 v6 v7 := (put_past (beq_eq_false_iff_ne.mp ne_row_counts_limit)).trans (congrArg _ ((put_past (beq_eq_false_iff_ne.mp ne_factor_count_limit)).trans (congrArg _ (put_here))))
theorem st_S_nonnegative {v0 v1 v2 v3 v4 v5 v6 v7 w : V} : putF "nonnegative" w (fS v0 v1 v2 v3 v4 v5 v6 v7) = fS v0 v1 v2 w v4 v5 v6 v7 := (put_past (beq_eq_false_iff_ne.mp ne_row_counts_nonnegative)).trans (congrArg _ ((put_past (beq_eq_false_iff_ne.mp ne_factor_count_nonnegative)).trans (congrArg _ ((put_past (beq_eq_false_iff_ne.mp ne_limit_nonnegative)).trans (congrArg _ (put_here))))))
theorem st_S_factor_penalty {v0 v1 v2 v3 v4 v5 v6 v7 w : V} : putF "factor_penalty" w (fS v0 v1 v2 v3 v4 v5 v6 v7) = fS v0 v1 v2 v3 w v5 v6 v7 := (put_past (beq_eq_false_iff_ne.mp ne_row_counts_factor_penalty)).trans (congrArg _ ((put_past (beq_eq_false_iff_ne.mp ne_factor_count_factor_penalty)).trans (congrArg _ ((put_past (beq_eq_false_iff_ne.mp ne_limit_factor_penalty)).trans (congrArg _ ((put_past (beq_eq_false_iff_ne.mp ne_nonnegative_factor_penalty)).trans (congrArg _ (put_here))))))))
theorem st_S_bias_penalty {v0 v1 v2 v3 v4 v5 v6 v7 w : V} : putF "bias_penalty" w (fS v0 v1 v2 v3 v4 v5 v6 v7) = fS v0 v1 v2 v3 v4 w v6 v7 := (put_past (beq_eq_false_iff_ne.mp ne_row_counts_bias_penalty)).trans (congrArg _ ((put_past (beq_eq_false_iff_ne.mp ne_factor_count_bias_penalty)).trans (congrArg _ ((put_past (beq_eq_false_iff_ne.mp ne_limit_bias_penalty)).trans (congrArg _ ((put_past (beq_eq_false_iff_ne.mp ne_nonnegative_bias_penalty)).trans (congrArg _ ((put_past (beq_eq_false_iff_ne.mp ne_factor_penalty_bias_penalty)).trans (congrArg _ (put_here))))))))))
theorem st_S_seed {v0 v1 v2 v3 v4 v5 v6 v7 w : V} : putF "seed" w (fS v0 v1 v2 v3 v4 v5 v6 v7) = fS v0 v1 v2 v3 v4 v5 w v7 := (put_past (beq_eq_false_iff_ne.mp ne_row_counts_seed)).trans (congrArg _ ((put_past (beq_eq_false_iff_ne.mp ne_factor_count_seed)).trans (congrArg _ ((put_past (beq_eq_false_iff_ne.mp ne_limit_seed)).trans (congrArg _ ((put_past (beq_eq_false_iff_ne.mp ne_nonnegative_seed)).trans (congrArg _ ((put_past (beq_eq_false_iff_ne.mp ne_factor_penalty_seed)).trans (congrArg _ ((put_past (beq_eq_false_iff_ne.mp ne_bias_penalty_seed)).trans (congrArg _ (put_here))))))))))))
theorem st_S_parameters {v0 v1 v2 v3 v4 v5 v6 v7 w : V} : putF "parameters" w (fS v0 v1 v2 v3 v4 v5 v6 v7) = fS v0 v1 v2 v3 v4 v5 v6 w := (put_past (beq_eq_false_iff_ne.mp ne_row_counts_parameters)).trans (congrArg _ ((put_past (beq_eq_false_iff_ne.mp ne_factor_count_parameters)).trans (congrArg _ ((put_past (beq_eq_false_iff_ne.mp ne_limit_parameters)).trans (congrArg _ ((put_past (beq_eq_false_iff_ne.mp ne_nonnegative_parameters)).trans (congrArg _ ((put_past (beq_eq_false_iff_ne.mp ne_factor_penalty_parameters)).trans (congrArg _ ((put_past (beq_eq_false_iff_ne.mp ne_bias_penalty_parameters)).trans (congrArg _ ((put_past (beq_eq_false_iff_ne.mp ne_seed_parameters)).trans (congrArg _ (put_here))))))))))))))
def fM (v0 v1 v2 v3 : V) : List (Str × V) := [("settings", v0), ("ratings", v1), ("base", v2), ("rows", v3)]
theorem lk_M_settings {v0 v1 v2 v3 : V} : (fM v0 v1 v2 v3).lookup ("settings" : Str) = some v0 := lk_here
theorem lk_M_ratings {v0 v1 v2 v3 : V} : (fM v0 v1 v2 v3).lookup ("ratings" : Str) = some v1 := (lk_past ne_ratings_settings).trans (lk_here)
theorem lk_M_base {v0 v1 v2 v3 : V} : (fM v0 v1 v2 v3).lookup ("base" : Str) = some v2 := (lk_past ne_base_settings).trans ((lk_past ne_base_ratings).trans (lk_here))
theorem lk_M_rows {v0 v1 v2 v3 : V} : (fM v0 v1 v2 v3).lookup ("rows" : Str) = some v3 := (lk_past ne_rows_settings).trans ((lk_past ne_rows_ratings).trans ((lk_past ne_rows_base).trans (lk_here)))
theorem lk_M_begin_again {v0 v1 v2 v3 : V} : (fM v0 v1 v2 v3).lookup ("begin_again" : Str) = none := (lk_past ne_begin_again_settings).trans ((lk_past ne_begin_again_ratings).trans ((lk_past ne_begin_again_base).trans ((lk_past ne_begin_again_rows).trans (rfl))))
theorem lk_M_drop_ratings {v0 v1 v2 v3 : V} : (fM v0 v1 v2 v3).lookup ("drop_ratings" : Str) = none := (lk_past ne_drop_ratings_settings).trans ((lk_past ne_drop_ratings_ratings).trans ((lk_past ne_drop_ratings_base).trans ((lk_past ne_drop_ratings_rows).trans (rfl))))
theorem lk_M_twin {v0 v1 v2 v3 : V} : (fM v0 v1 v2 v3).lookup ("twin" : Str) = none := (lk_past ne_twin_settings).trans ((lk_past ne_twin_ratings).trans ((lk_past ne_twin_base).trans ((lk_past ne_twin_rows).trans (rfl))))
theorem lk_M_all_ratings {v0 v1 v2 v3 : V} : (fM v0 v1 v2 v3).lookup ("all_ratings" : Str) = none := (lk_past ne_all_ratings_settings).trans ((lk_past ne_all_ratings_ratings).trans ((lk_past ne_all_ratings_base).trans ((lk_past ne_all_ratings_rows).trans (rfl))))
theorem lk_M_ratings_of {v0 v1 v2 v3 : V} : (fM v0 v1 v2 v3).lookup ("ratings_of" : Str) = none := (lk_past ne_ratings_of_settings).trans ((lk_past ne_ratings_of_ratings).trans ((lk_past ne_ratings_of_base).trans ((lk_past ne_ratings_of_rows).trans (rfl))))
theorem lk_M_prediction_parts {v0 v1 v2 v3 : V} : (fM v0 v1 v2 v3).lookup ("prediction_parts" : Str) = none := (lk_past ne_prediction_parts_settings).trans ((lk_past ne_prediction_parts_ratings).trans ((lk_past ne_prediction_parts_base).trans ((lk_past ne_prediction_parts_rows).trans (rfl))))
theorem lk_M_prediction {v0 v1 v2 v3 : V} : (fM v0 v1 v2 v3).lookup ("prediction" : Str) = none := (lk_past ne_prediction_settings).trans ((lk_past ne_prediction_ratings).trans ((lk_past ne_prediction_base).trans ((lk_past ne_prediction_rows).trans (rfl))))
theorem lk_M_residuals_of {v0 v1 v2 v3 : V} : (fM v0 v1 v2 v3).lookup ("residuals_of" : Str) = none := (lk_past ne_residuals_of_settings).trans ((lk_past ne_residuals_of_ratings).trans ((lk_past ne_residuals_of_base).trans ((lk_past ne_residuals_of_rows).trans (rfl))))
theorem pu_M_settings {v0 : V} : putF "settings" v0 [] = [(("settings" : Str), v0)] := rfl
theorem pu_M_ratings {v0 v1 : V} : putF "ratings" v1 [(("settings" : Str), v0)] = [(("settings" : Str), v0), (("ratings" : Str), v1)] := (put_past (beq_eq_false_iff_ne.mp ne_settings_ratings)).trans (congrArg _ (rfl))
theorem pu_M_base {v0 v1 v2 : V} : putF "base" v2 [(("settings" : Str), v0), (("ratings" : Str), v1)] = [(("settings" : Str), v0), (("ratings" : Str), v1), (("base" : Str), v2)] := (put_past (beq_eq_false_iff_ne.mp ne_settings_base)).trans (congrArg _ ((put_past (beq_eq_false_iff_ne.mp ne_ratings_base)).trans (congrArg _ (rfl))))
theorem pu_M_rows {v0 v1 v2 v3 : V} : putF "rows" v3 [(("settings" : Str), v0), (("ratings" : Str), v1), (("base" : Str), v2)] = [(("settings" : Str), v0), (("ratings" : Str), v1), (("base" : Str), v2), (("rows" : Str), v3)] := (put_past (beq_eq_false_iff_ne.mp ne_settings_rows)).trans (congrArg _ ((put_past (beq_eq_false_iff_ne.mp ne_ratings_rows)).trans (congrArg _ ((put_past (beq_eq_false_iff_ne.mp ne_base_rows)).trans (congrArg _ (rfl))))))
theorem st_M_settings {v0 v1 v2 v3 w : V} : putF "settings" w (fM v0 v1 v2 v3) = fM w v1 v2 v3 := put_here
theorem st_M_ratings {v0 v1 v2 v3 w : V} : putF "ratings" w (fM v0 v1 v2 v3) = fM v0 w v2 v3 := (put_past (beq_eq_false_iff_ne.mp ne_settings_ratings)).trans (congrArg _ (put_here))
theorem st_M_base {v0 v1 v2 v3 w : V} : putF "base" w (fM v0 v1 v2 v3) = fM v0 v1 w v3 := (put_past (beq_eq_false_iff_ne.mp ne_settings_base)).trans (congrArg _ ((put_past (beq_eq_false_iff_ne.mp ne_ratings_base)).trans (congrArg _ (put_here))))
theorem st_M_rows {v0 v1 v2 v3 w : V} : putF "rows" w (fM v0 v1 v2 v3) = fM v0 v1 v2 w := (put_past (beq_eq_false_iff_ne.mp ne_settings_rows)).trans (congrArg _ ((put_past (beq_eq_false_iff_ne.mp ne_ratings_rows)).trans (congrArg _ ((put_past (beq_eq_false_iff_ne.mp ne_base_rows)).trans (congrArg _ (put_here))))))
def fQ (v0 v1 : V) : List (Str × V) := [("curvature", v0), ("slope", v1)]
theorem lk_Q_curvature {v0 v1 : V} : (fQ v0 v1).lookup ("curvature" : Str) = some v0 := lk_here
theorem lk_Q_slope {v0 v1 : V} : (fQ v0 v1).lookup ("slope" : Str) = some v1 := (lk_past ne_slope_curvature).trans (lk_here)
theorem lk_Q_height {v0 v1 : V} : (fQ v0 v1).lookup ("height" : Str) = none := (lk_past ne_height_curvature).trans ((lk_past ne_height_slope).trans (rfl))
theorem lk_Q_nearest {v0 v1 : V} : (fQ v0 v1).lookup ("nearest" : Str) = none := (lk_past ne_nearest_curvature).trans ((lk_past ne_nearest_slope).trans (rfl))
theorem pu_Q_curvature {v0 : V} : putF "curvature" v0 [] = [(("curvature" : Str), v0)] := rfl
theorem pu_Q_slope {v0 v1 : V} : putF "slope" v1 [(("curvature" : Str), v0)] = [(("curvature" : Str), v0), (("slope" : Str), v1)] := (put_past (beq_eq_false_iff_ne.mp ne_curvature_slope)).trans (congrArg _ (rfl))
theorem st_Q_curvature {v0 v1 w : V} : putF "curvature" w (fQ v0 v1) = fQ w v1 := put_here
theorem st_Q_slope {v0 v1 w : V} : putF "slope" w (fQ v0 v1) = fQ v0 w := (put_past (beq_eq_false_iff_ne.mp ne_curvature_slope)).trans (congrArg _ (put_here))
def fE (v0 : V) : List (Str × V) := [("model", v0)]
theorem lk_E_model {v0 : V} : (fE v0).lookup ("model" : Str) = some v0 := lk_here
theorem pu_E_model {v0 : V} : putF "model" v0 [] = [(("model" : Str), v0)] := rfl
theorem st_E_model {v0 w : V} : putF "model" w (fE v0) = fE w := put_here
end Lk
set_option Elab.async false
set_option maxRecDepth 100000
set_option maxHeartbeats 5000000
set_option linter.all false
/-! How the program's objects lie in the heap; readings of expressions without calls. -/
namespace Lk
open PySem PySem.Spec PyProof.Rows L2
open Evl (Ex)

/-! ### the heap -/
abbrev nV (n : Nat) : V := .int (n : Int)
def sF (s : Kp429.Settings) (rc pl : Addr) : List (Str × V) := fS (.ref rc) (nV s.factors) (nV s.limit) (.int (nnI s)) (nV s.penalty) (nV s.biasPenalty) (nV s.seed) (.ref pl)
def mF (st ro rt : Addr) (b : Int) : List (Str × V) := fM (.ref st) (.ref ro) (.int b) (.ref rt)
/-- objects in a list, one by one -/
def Each {α : Type} (H : Hp) (F : α → HO) (ps : List Addr) (xs : List α) : Prop := ps.length = xs.length ∧ ∀ (j : Nat) (x : α), xs[j]? = some x → ∃ p, ps[j]? = some p ∧ H p = some (F x)
def coT (k : Kp429.Coordinate) : HO := .tup [nV k.kind, nV k.id, nV k.place]
def rowI (r : List Int) : HO := .lst (r.map V.int)
def rowN (r : List Nat) : HO := .lst (r.map nV)
def StAt (c : Cs) (H : Hp) (a : Addr) (s : Kp429.Settings) : Prop := ∃ dx rc pl pts, H a = some (.ins c.S dx (sF s rc pl)) ∧ H rc = some (.tup [nV s.users, nV s.items]) ∧ H pl = some (.lst (pts.map V.ref)) ∧ Each H coT pts (Kp429.coordinates s)
structure Lay where
  st : Addr
  ro : Addr
  rr : List Addr
  rt : Addr
  ul : Addr
  il : Addr
  ur : List Addr
  ir : List Addr
def Lay.own (L : Lay) (a : Addr) : List Addr := a :: L.ro :: (L.rr ++ (L.ur ++ L.ir))
structure RwAt (H : Hp) (L : Lay) (p : Kp429.Parameters) : Prop where
  rt : H L.rt = some (.tup [.ref L.ul, .ref L.il])
  ul : H L.ul = some (.lst (L.ur.map V.ref))
  il : H L.il = some (.lst (L.ir.map V.ref))
  ur : Each H rowI L.ur p.users
  ir : Each H rowI L.ir p.items
structure MdAt (c : Cs) (H : Hp) (a : Addr) (L : Lay) (m : Ms) : Prop where
  ok : m.Ok
  ob : ∃ dx, H a = some (.ins c.M dx (mF L.st L.ro L.rt m.p.base))
  st : StAt c H L.st m.s
  ro : H L.ro = some (.lst (L.rr.map V.ref))
  rr : Each H rowN L.rr m.R
  rw : RwAt H L m.p
  nd : (L.rr ++ (L.ur ++ L.ir)).Nodup
def QdAt (c : Cs) (H : Hp) (a : Addr) (q : Kp429.Quadratic) : Prop := ∃ dx, H a = some (.ins c.Q dx (fQ (.int q.curvature) (.int q.slope)))
section
variable {c : Cs} {H H' : Hp} {a : Addr} {L : Lay} {m : Ms} {s : Kp429.Settings}
theorem Each.ex {α : Type} {F : α → HO} {ps : List Addr} {xs : List α} (h : Each H F ps xs) (e : Ex H H') : Each H' F ps xs := ⟨h.1, fun j x hx => let ⟨p, h1, h2⟩ := h.2 j x hx; ⟨p, h1, e _ _ h2⟩⟩
theorem StAt.ex (h : StAt c H a s) (e : Ex H H') : StAt c H' a s := let ⟨dx, rc, pl, pts, h1, h2, h3, h4⟩ := h; ⟨dx, rc, pl, pts, e _ _ h1, e _ _ h2, e _ _ h3, h4.ex e⟩
theorem RwAt.ex {p : Kp429.Parameters} (h : RwAt H L p) (e : Ex H H') : RwAt H' L p := ⟨e _ _ h.rt, e _ _ h.ul, e _ _ h.il, h.ur.ex e, h.ir.ex e⟩
theorem MdAt.ex (h : MdAt c H a L m) (e : Ex H H') : MdAt c H' a L m := ⟨h.ok, let ⟨dx, h1⟩ := h.ob; ⟨dx, e _ _ h1⟩, h.st.ex e, e _ _ h.ro, h.rr.ex e, h.rw.ex e, h.nd⟩
theorem QdAt.ex {q : Kp429.Quadratic} (h : QdAt c H a q) (e : Ex H H') : QdAt c H' a q := let ⟨dx, h1⟩ := h; ⟨dx, e _ _ h1⟩
theorem Each.at {α : Type} {F : α → HO} {ps : List Addr} {xs : List α} (h : Each H F ps xs) {j : Nat} {x : α} (hx : xs[j]? = some x) : ∃ p, ps[j]? = some p ∧ (ps.map V.ref)[j]? = some (.ref p) ∧ H p = some (F x) := by
  obtain ⟨p, h1, h2⟩ := h.2 j x hx
  exact ⟨p, h1, by rw [List.getElem?_map, h1] <;> rfl, h2⟩
theorem Each.nil {α : Type} {F : α → HO} : Each H F [] ([] : List α) := ⟨rfl, fun j x h => by simp at h⟩
theorem Each.snoc {α : Type} {F : α → HO} {ps : List Addr} {xs : List α} (h : Each H F ps xs) {p : Addr} {x : α} (hp : H p = some (F x)) : Each H F (ps ++ [p]) (xs ++ [x]) := by
  refine ⟨by rw [List.length_append, List.length_append, h.1] <;> rfl, fun j y hy => ?_⟩
  by_cases hj : j < xs.length
  · rw [List.getElem?_append_left hj] at hy
    obtain ⟨q, h1, h2⟩ := h.2 j y hy
    exact ⟨q, by rw [List.getElem?_append_left (by rw [h.1]; exact hj)]; exact h1, h2⟩
  · rw [List.getElem?_append_right (by omega)] at hy
    have e0 : j - xs.length = 0 := by
      cases q : j - xs.length with
      | zero => rfl
      | succ k =>
        rw [q] at hy
        simp at hy
    rw [e0] at hy
    have ey : x = y := Option.some.inj hy
    subst ey
    refine ⟨p, ?_, hp⟩
    rw [List.getElem?_append_right (by rw [h.1]; omega), h.1, e0]
    rfl
end

/-! ### readings without calls -/
section
variable {σ : L2.St} {H H' : Hp} {i j k : Int} {v x y z : V} {ta tb tc te : TE} {a b : Bool} {K : PySem.W.Frag} {t u : TT} {p : Addr}
def VaA (ta : TA) (σ : L2.St) (H : Hp) (vs : List V) : Prop := ∀ Q : List V → Hp → Prop, Q vs H → ta σ H Q
theorem va0 : VaA tNil σ H [] := fun _ q => q
theorem va1 {tr : TA} {vs : List V} (h : Val te σ H x) (r : VaA tr σ H vs) : VaA (tCons te tr) σ H (x :: vs) := fun _ q => h _ (r _ q)
theorem vv {n : Nat} (h : σ[n]? = some (some v)) : Val (tVar n) σ H v := val_var h
theorem vc : Val (tC v) σ H v := val_c
theorem v_ixL {xs : List V} (ho : Val ta σ H (.ref p)) (hi : Val tb σ H (.int i)) (hs : SqL K H p xs) (h : atI xs i = some v) : Val (tOp (rIxL K) ta tb) σ H v := val_op ho hi fun Q q => ⟨p, xs, i, v, rfl, rfl, hs, h, q⟩
theorem v_ixT {xs : List V} (ho : Val ta σ H (.ref p)) (hi : Val tb σ H (.int i)) (hs : SqT K H p xs) (h : atI xs i = some v) : Val (tOp (rIxT K) ta tb) σ H v := val_op ho hi fun Q q => ⟨p, xs, i, v, rfl, rfl, hs, h, q⟩
theorem v_i0 {g : Int → Int → V} (ha : Val ta σ H (.int i)) (hb : Val tb σ H (.int j)) : Val (tOp (rI0 g) ta tb) σ H (g i j) := val_op ha hb fun Q q => ⟨i, j, rfl, rfl, q⟩
theorem v_iC {C : Int → Int → Prop} {g : Int → Int → V} (ha : Val ta σ H (.int i)) (hb : Val tb σ H (.int j)) (hc : C i j) : Val (tOp (rI C g) ta tb) σ H (g i j) := val_op ha hb fun Q q => ⟨i, j, rfl, rfl, hc, q⟩
theorem v_eq (ha : Val ta σ H x) (hb : Val tb σ H y) (h : scal x y = true) : Val (tOp rEq ta tb) σ H (.bl (decide (x = y))) := val_op ha hb fun Q q => ⟨h, q⟩
theorem v_eqI (ha : Val ta σ H (.int i)) (hb : Val tb σ H (.int j)) : Val (tOp rEq ta tb) σ H (.bl (decide (i = j))) := val_op ha hb fun Q q => ⟨rfl, by
  have e : decide (V.int i = V.int j) = decide (i = j) := by
    by_cases h : i = j
    · rw [decide_eq_true h, decide_eq_true (congrArg V.int h)]
    · rw [decide_eq_false h, decide_eq_false fun z => h (V.int.inj z)]
  rw [e]
  exact q⟩
theorem v_neI (ha : Val ta σ H (.int i)) (hb : Val tb σ H (.int j)) : Val (tOp rNe ta tb) σ H (.bl (!decide (i = j))) := val_op ha hb fun Q q => ⟨rfl, by
  have e : decide (V.int i = V.int j) = decide (i = j) := by
    by_cases h : i = j
    · rw [decide_eq_true h, decide_eq_true (congrArg V.int h)]
    · rw [decide_eq_false h, decide_eq_false fun z => h (V.int.inj z)]
  rw [e]
  exact q⟩
theorem v_neg (ha : Val ta σ H (.int i)) : Val (tUn rNeg ta) σ H (.int (-i)) := fun Q q => ha _ ⟨i, rfl, q⟩
theorem v_chain (ha : Val ta σ H (.int i)) (hb : Val tb σ H (.int j)) (hc : Val tc σ H (.int k)) : Val (tChain rLe rLe ta tb tc) σ H (.bl (decide (i ≤ j) && decide (j ≤ k))) := fun Q q =>
  ha _ (hb _ ⟨i, j, rfl, rfl, decide (i ≤ j), rfl, by
    cases h : decide (i ≤ j) with
    | true =>
      rw [h] at q
      exact iteT (hc _ ⟨j, k, rfl, rfl, q⟩)
    | false =>
      rw [h] at q
      exact iteF q⟩)
theorem v_and (h1 : Val ta σ H (.bl a)) (h2 : a = true → Val tb σ H (.bl b)) : Val (tAndV ta tb) σ H (.bl (a && b)) := fun Q q => h1 _ ⟨a, rfl, by
  cases a with
  | true => exact iteT (h2 rfl Q q)
  | false => exact iteF q⟩
theorem v_if (h : Ans t σ H b) (h1 : b = true → Val ta σ H v) (h2 : b = false → Val tb σ H v) : Val (tIf t ta tb) σ H v := fun Q q => h _ (by
  cases b with
  | true => exact iteT (h1 rfl Q q)
  | false => exact iteF (h2 rfl Q q))
theorem a_test (h : Val te σ H (.bl b)) : Ans (tTest te) σ H b := fun Q q => h _ ⟨b, rfl, q⟩
theorem a_B (h : Val te σ H (.bl b)) : Ans (tB te) σ H b := fun Q q => h _ ⟨b, rfl, q⟩
theorem a_and (h1 : Ans t σ H a) (h2 : a = true → Ans u σ H b) : Ans (tAnd t u) σ H (a && b) := fun Q q => h1 _ (by
  cases a with
  | true => exact iteT (h2 rfl Q q)
  | false => exact iteF q)
theorem a_or (h1 : Ans t σ H a) (h2 : a = false → Ans u σ H b) : Ans (tOr t u) σ H (a || b) := fun Q q => h1 _ (by
  cases a with
  | true => exact iteT q
  | false => exact iteF (h2 rfl Q q))
theorem Val.to {v' : V} (h : Val te σ H v) (e : v = v') : Val te σ H v' := e ▸ h
theorem v_fld {C dx : Addr} {fs : List (Str × V)} {f : Str} (ho : Val te σ H (.ref p)) (e : H p = some (.ins C dx fs)) (cl : Cls K C) (na : NoAttr K C f) (l : fs.lookup f = some v) : Val (tFld K te f) σ H v := val_fld ho e cl na l

/-! ### statements -/
variable {D : Ends} {ts t1 t2 : TS}
theorem sq (h : t1 { D with nx := t2 D } σ H) : tSeq t1 t2 D σ H := h
theorem st_if (h : Ans t σ H b) (h1 : b = true → t1 D σ H) (h2 : b = false → t2 D σ H) : tIfS t t1 t2 D σ H := h _ (by
  cases b with
  | true => exact iteT (h1 rfl)
  | false => exact iteF (h2 rfl))
theorem s_set {n : Nat} (h : Val te σ H v) (q : D.nx (σ.set n (some v)) H) : tAsg te (gName n) D σ H := h _ q
theorem s_ret (h : Val te σ H v) (q : D.rt v H) : tRet te D σ H := h _ q
theorem s_aug {n : Nat} {f : Int → Int → Int} (hx : σ[n]? = some (some (.int i))) (h : Val te σ H (.int j)) (q : D.nx (σ.set n (some (.int (f i j)))) H) : tAug n te (ipI f) D σ H := ⟨.int i, hx, h _ ⟨i, j, rfl, rfl, q⟩⟩
/-- a written list, a written tuple -/
theorem c_lst {ta : TA} {vs : List V} {Q : VK} (h : VaA ta σ H vs) (hl : vs.length ≤ 100000) (q : ∀ p, H p = none → Q (.ref p) (upd H p (.lst vs))) : tLst ta σ H Q := h _ ⟨Evl.sz_of hl, q⟩
theorem c_tup {ta : TA} {vs : List V} {Q : VK} (h : VaA ta σ H vs) (hl : vs.length ≤ 100000) (q : ∀ p, H p = none → Q (.ref p) (upd H p (.tup vs))) : tTup ta σ H Q := h _ ⟨Evl.sz_of hl, q⟩
/-! ### calls -/
variable {sp : Sp} {dvs vs : List V} {E : XK} {Q : VK} {tv : TA} {C dx : Addr} {fs : List (Str × V)} {mn : Str}
theorem c_call (h : VaA tv σ H vs) (q : sp (vs ++ dvs) H Q E) : tCall sp dvs E tv σ H Q := h _ q
theorem c_meth (ho : Val te σ H (.ref p)) (e : H p = some (.ins C dx fs)) (n : fs.lookup mn = none) (h : VaA tv σ H vs) (q : sp (.ref p :: (vs ++ dvs)) H Q E) : tMeth C mn sp dvs E te tv σ H Q := ho _ ⟨p, dx, fs, rfl, e, n, h _ q⟩
theorem c_make (h : VaA tv σ H vs) (q : ∀ x dx, H x = none → H dx = none → dx ≠ x → sp (.ref x :: (vs ++ dvs)) (upd (upd H dx (.own x)) x (.ins C dx [])) (fun v H2 => v = .non ∧ Q (.ref x) H2) E) : tMake C sp dvs E tv σ H Q := h _ q
theorem c_len {xs : List V} {Q : VK} (h : Val te σ H (.ref p)) (hs : SqL K H p xs) (q : Q (.int (xs.length : Int)) H) : tCB (Evl.rLenS K) (tCons te tNil) σ H Q := h _ ⟨p, xs, rfl, .inl hs, q⟩
theorem v_len {xs : List V} (h : Val te σ H (.ref p)) (hs : SqL K H p xs) : Val (tCB (Evl.rLenS K) (tCons te tNil)) σ H (.int (xs.length : Int)) := fun _ q => c_len h hs q
theorem v_lenT {xs : List V} (h : Val te σ H (.ref p)) (hs : SqT K H p xs) : Val (tCB (Evl.rLenS K) (tCons te tNil)) σ H (.int (xs.length : Int)) := fun _ q => h _ ⟨p, xs, rfl, .inr hs, q⟩
theorem v_sum {ns : List Int} (h : Val te σ H (.ref p)) (hs : SqL K H p (ns.map V.int)) : Val (tCB (rSum K) (tCons te tNil)) σ H (.int ns.sum) := fun _ q => h _ ⟨p, ns, rfl, hs, q⟩
theorem v_min (ha : Val ta σ H (.int i)) (hb : Val tb σ H (.int j)) : Val (tCB rMin2 (tCons ta (tCons tb tNil))) σ H (.int (min i j)) := fun _ q => ha _ (hb _ ⟨i, j, rfl, by
  have e : (if j < i then j else i) = min i j := by
    rw [Int.min_def]
    split <;> split <;> omega
  show _
  rw [e]
  exact q⟩)
theorem v_max (ha : Val ta σ H (.int i)) (hb : Val tb σ H (.int j)) : Val (tCB Evl.rMax2 (tCons ta (tCons tb tNil))) σ H (.int (max i j)) := fun _ q => ha _ (hb _ ⟨i, j, rfl, by
  have e : (if j > i then j else i) = max i j := by
    rw [Int.max_def]
    split <;> split <;> omega
  show _
  rw [e]
  exact q⟩)
/-! ### what is promised -/
/-- a value; a new list -/
def RV (v : V) (H : Hp) (Q : VK) : Prop := ∀ H2, Ex H H2 → Q v H2
def RL (xs : List V) (H : Hp) (Q : VK) : Prop := ∀ p H2, H p = none → Ex H H2 → H2 p = some (.lst xs) → Q (.ref p) H2
theorem RV.now {v : V} {Q : VK} (q : RV v H Q) : Q v H := q H (Ex.refl H)
theorem RV.at {v : V} {Q : VK} (q : RV v H Q) (e : Ex H H') : Q v H' := q H' e
theorem fresh {p : Addr} (e : Ex H H') (h : H' p = none) : H p = none := Evl.fresh_back e h
theorem exn {p : Addr} {o : HO} (h : H p = none) : Ex H (upd H p o) := Ex.new h
theorem RL.new {xs : List V} {Q : VK} (q : RL xs H Q) (e : Ex H H') {p : Addr} (hp : H' p = none) : Q (.ref p) (upd H' p (.lst xs)) := q p _ (fresh e hp) (e.trans (exn hp)) upd_same
end
end Lk
set_option Elab.async false
set_option maxRecDepth 100000
set_option maxHeartbeats 5000000
set_option linter.all false
/-! Reading the settings and the model. -/
namespace Lk
open PySem PySem.Spec PyProof.Rows L2
open Evl (Ex)
theorem k01 {k : Nat} (h : k ≤ 1) : k = 0 ∨ k = 1 := by omega
theorem sq_ {K : PySem.W.Frag} {H : Hp} {p : Addr} {xs : List V} (h : H p = some (.lst xs)) : SqL K H p xs := SqL.of h
theorem stq {K : PySem.W.Frag} {H : Hp} {p : Addr} {xs : List V} (h : H p = some (.tup xs)) : SqT K H p xs := SqT.of h
theorem at0 {x : V} {r : List V} : atI (x :: r) (0 : Int) = some x := atI_nat (j := 0) rfl
theorem at1 {x y : V} {r : List V} : atI (x :: y :: r) (1 : Int) = some y := atI_nat (j := 1) rfl
theorem at2 {x y z : V} {r : List V} : atI (x :: y :: z :: r) (2 : Int) = some z := atI_nat (j := 2) rfl
def Lay.kl (L : Lay) (k : Nat) : Addr := if k = 0 then L.ul else L.il
def Lay.ks (L : Lay) (k : Nat) : List Addr := if k = 0 then L.ur else L.ir
theorem rowOf_eq (p : Kp429.Parameters) (k n : Nat) : Kp429.rowOf p k n = (rowsK p k).getD n [] := by
  unfold Kp429.rowOf rowsK
  split <;> rfl
section
variable {c : Cs} {mg : Str → Option Value} {σ : L2.St} {H : Hp} {a : Addr} {L : Lay} {m : Ms} {s : Kp429.Settings} {te tk tn tq : TE} {k n q : Nat}
theorem StAt.lk (h : StAt c H a s) : ∃ dx rc pl pts, H a = some (.ins c.S dx (sF s rc pl)) ∧ H rc = some (.tup [nV s.users, nV s.items]) ∧ H pl = some (.lst (pts.map V.ref)) ∧ Each H coT pts (Kp429.coordinates s) := h
theorem v_factors (T : Tx c mg) (h : StAt c H a s) (ho : Val te σ H (.ref a)) : Val (tFld c.K te "factor_count") σ H (nV s.factors) := by
  obtain ⟨dx, rc, pl, pts, e, _⟩ := h
  exact v_fld ho e T.cl_S T.na_S_factor_count lk_S_factor_count
theorem v_limit (T : Tx c mg) (h : StAt c H a s) (ho : Val te σ H (.ref a)) : Val (tFld c.K te "limit") σ H (nV s.limit) := by
  obtain ⟨dx, rc, pl, pts, e, _⟩ := h
  exact v_fld ho e T.cl_S T.na_S_limit lk_S_limit
theorem v_nonneg (T : Tx c mg) (h : StAt c H a s) (ho : Val te σ H (.ref a)) : Val (tFld c.K te "nonnegative") σ H (.int (nnI s)) := by
  obtain ⟨dx, rc, pl, pts, e, _⟩ := h
  exact v_fld ho e T.cl_S T.na_S_nonnegative lk_S_nonnegative
theorem v_fpen (T : Tx c mg) (h : StAt c H a s) (ho : Val te σ H (.ref a)) : Val (tFld c.K te "factor_penalty") σ H (nV s.penalty) := by
  obtain ⟨dx, rc, pl, pts, e, _⟩ := h
  exact v_fld ho e T.cl_S T.na_S_factor_penalty lk_S_factor_penalty
theorem v_bpen (T : Tx c mg) (h : StAt c H a s) (ho : Val te σ H (.ref a)) : Val (tFld c.K te "bias_penalty") σ H (nV s.biasPenalty) := by
  obtain ⟨dx, rc, pl, pts, e, _⟩ := h
  exact v_fld ho e T.cl_S T.na_S_bias_penalty lk_S_bias_penalty
theorem v_seed (T : Tx c mg) (h : StAt c H a s) (ho : Val te σ H (.ref a)) : Val (tFld c.K te "seed") σ H (nV s.seed) := by
  obtain ⟨dx, rc, pl, pts, e, _⟩ := h
  exact v_fld ho e T.cl_S T.na_S_seed lk_S_seed
theorem v_rc (T : Tx c mg) (h : StAt c H a s) (hk : k ≤ 1) (ho : Val te σ H (.ref a)) (hi : Val tk σ H (nV k)) : Val (tOp (rIxT c.K) (tFld c.K te "row_counts") tk) σ H (nV (Kp429.sizeOf s k)) := by
  obtain ⟨dx, rc, pl, pts, e, e2, _⟩ := h
  refine v_ixT (v_fld ho e T.cl_S T.na_S_row_counts lk_S_row_counts) hi (stq e2) ?_
  rcases k01 hk with rfl | rfl
  · exact at0
  · exact at1
theorem v_pars (T : Tx c mg) (h : StAt c H a s) (ho : Val te σ H (.ref a)) : ∃ pl pts, Val (tFld c.K te "parameters") σ H (.ref pl) ∧ H pl = some (.lst (pts.map V.ref)) ∧ Each H coT pts (Kp429.coordinates s) := by
  obtain ⟨dx, rc, pl, pts, e, e2, e3, e4⟩ := h
  exact ⟨pl, pts, v_fld ho e T.cl_S T.na_S_parameters lk_S_parameters, e3, e4⟩
/-- a method of the settings -/
theorem StAt.mt (h : StAt c H a s) : ∃ dx fs, H a = some (.ins c.S dx fs) ∧ fs.lookup ("has_user" : Str) = none ∧ fs.lookup ("has_item" : Str) = none ∧ fs.lookup ("has_pair" : Str) = none ∧ fs.lookup ("has_row" : Str) = none ∧ fs.lookup ("has_parameter" : Str) = none ∧
    fs.lookup ("lowest" : Str) = none ∧ fs.lookup ("highest" : Str) = none ∧ fs.lookup ("is_in_range" : Str) = none ∧ fs.lookup ("penalty" : Str) = none := by
  obtain ⟨dx, rc, pl, pts, e, _⟩ := h
  exact ⟨dx, _, e, lk_S_has_user, lk_S_has_item, lk_S_has_pair, lk_S_has_row, lk_S_has_parameter, lk_S_lowest, lk_S_highest, lk_S_is_in_range, lk_S_penalty⟩
theorem c_has_user {sp : Sp} {tv : TA} {vs : List V} {E : XK} {Q : VK} (h : StAt c H a s) (ho : Val te σ H (.ref a)) (hv : VaA tv σ H vs) (q : sp (.ref a :: (vs ++ [])) H Q E) : tMeth c.S "has_user" sp [] E te tv σ H Q := by
  obtain ⟨dx, fs, e, h1, _⟩ := h.mt
  exact c_meth ho e h1 hv q
theorem c_has_item {sp : Sp} {tv : TA} {vs : List V} {E : XK} {Q : VK} (h : StAt c H a s) (ho : Val te σ H (.ref a)) (hv : VaA tv σ H vs) (q : sp (.ref a :: (vs ++ [])) H Q E) : tMeth c.S "has_item" sp [] E te tv σ H Q := by
  obtain ⟨dx, fs, e, _, h1, _⟩ := h.mt
  exact c_meth ho e h1 hv q
theorem c_has_pair {sp : Sp} {tv : TA} {vs : List V} {E : XK} {Q : VK} (h : StAt c H a s) (ho : Val te σ H (.ref a)) (hv : VaA tv σ H vs) (q : sp (.ref a :: (vs ++ [])) H Q E) : tMeth c.S "has_pair" sp [] E te tv σ H Q := by
  obtain ⟨dx, fs, e, _, _, h1, _⟩ := h.mt
  exact c_meth ho e h1 hv q
theorem c_has_row {sp : Sp} {tv : TA} {vs : List V} {E : XK} {Q : VK} (h : StAt c H a s) (ho : Val te σ H (.ref a)) (hv : VaA tv σ H vs) (q : sp (.ref a :: (vs ++ [])) H Q E) : tMeth c.S "has_row" sp [] E te tv σ H Q := by
  obtain ⟨dx, fs, e, _, _, _, h1, _⟩ := h.mt
  exact c_meth ho e h1 hv q
theorem c_has_parameter {sp : Sp} {tv : TA} {vs : List V} {E : XK} {Q : VK} (h : StAt c H a s) (ho : Val te σ H (.ref a)) (hv : VaA tv σ H vs) (q : sp (.ref a :: (vs ++ [])) H Q E) : tMeth c.S "has_parameter" sp [] E te tv σ H Q := by
  obtain ⟨dx, fs, e, _, _, _, _, h1, _⟩ := h.mt
  exact c_meth ho e h1 hv q
theorem c_lowest {sp : Sp} {tv : TA} {vs : List V} {E : XK} {Q : VK} (h : StAt c H a s) (ho : Val te σ H (.ref a)) (hv : VaA tv σ H vs) (q : sp (.ref a :: (vs ++ [])) H Q E) : tMeth c.S "lowest" sp [] E te tv σ H Q := by
  obtain ⟨dx, fs, e, _, _, _, _, _, h1, _⟩ := h.mt
  exact c_meth ho e h1 hv q
theorem c_highest {sp : Sp} {tv : TA} {vs : List V} {E : XK} {Q : VK} (h : StAt c H a s) (ho : Val te σ H (.ref a)) (hv : VaA tv σ H vs) (q : sp (.ref a :: (vs ++ [])) H Q E) : tMeth c.S "highest" sp [] E te tv σ H Q := by
  obtain ⟨dx, fs, e, _, _, _, _, _, _, h1, _⟩ := h.mt
  exact c_meth ho e h1 hv q
theorem c_is_in_range {sp : Sp} {tv : TA} {vs : List V} {E : XK} {Q : VK} (h : StAt c H a s) (ho : Val te σ H (.ref a)) (hv : VaA tv σ H vs) (q : sp (.ref a :: (vs ++ [])) H Q E) : tMeth c.S "is_in_range" sp [] E te tv σ H Q := by
  obtain ⟨dx, fs, e, _, _, _, _, _, _, _, h1, _⟩ := h.mt
  exact c_meth ho e h1 hv q
theorem c_penalty {sp : Sp} {tv : TA} {vs : List V} {E : XK} {Q : VK} (h : StAt c H a s) (ho : Val te σ H (.ref a)) (hv : VaA tv σ H vs) (q : sp (.ref a :: (vs ++ [])) H Q E) : tMeth c.S "penalty" sp [] E te tv σ H Q := by
  obtain ⟨dx, fs, e, _, _, _, _, _, _, _, _, h1⟩ := h.mt
  exact c_meth ho e h1 hv q

/-! ### the model -/
theorem v_settings (T : Tx c mg) (h : MdAt c H a L m) (ho : Val te σ H (.ref a)) : Val (tFld c.K te "settings") σ H (.ref L.st) := by
  obtain ⟨dx, e⟩ := h.ob
  exact v_fld ho e T.cl_M T.na_M_settings lk_M_settings
theorem v_ratings (T : Tx c mg) (h : MdAt c H a L m) (ho : Val te σ H (.ref a)) : Val (tFld c.K te "ratings") σ H (.ref L.ro) := by
  obtain ⟨dx, e⟩ := h.ob
  exact v_fld ho e T.cl_M T.na_M_ratings lk_M_ratings
theorem v_base (T : Tx c mg) (h : MdAt c H a L m) (ho : Val te σ H (.ref a)) : Val (tFld c.K te "base") σ H (.int m.p.base) := by
  obtain ⟨dx, e⟩ := h.ob
  exact v_fld ho e T.cl_M T.na_M_base lk_M_base
theorem v_rows (T : Tx c mg) (h : MdAt c H a L m) (ho : Val te σ H (.ref a)) : Val (tFld c.K te "rows") σ H (.ref L.rt) := by
  obtain ⟨dx, e⟩ := h.ob
  exact v_fld ho e T.cl_M T.na_M_rows lk_M_rows
theorem v_rowl (T : Tx c mg) (h : MdAt c H a L m) (hk : k ≤ 1) (ho : Val te σ H (.ref a)) (hi : Val tk σ H (nV k)) : Val (tOp (rIxT c.K) (tFld c.K te "rows") tk) σ H (.ref (L.kl k)) := by
  refine v_ixT (v_rows T h ho) hi (stq h.rw.rt) ?_
  rcases k01 hk with rfl | rfl
  · exact at0
  · exact at1
theorem MdAt.klist (h : MdAt c H a L m) (hk : k ≤ 1) : H (L.kl k) = some (.lst ((L.ks k).map V.ref)) ∧ Each H rowI (L.ks k) (rowsK m.p k) := by
  rcases k01 hk with rfl | rfl
  · exact ⟨h.rw.ul, h.rw.ur⟩
  · exact ⟨h.rw.il, h.rw.ir⟩
theorem rows_len (h : m.Ok) (hk : k ≤ 1) : (rowsK m.p k).length = Kp429.sizeOf m.s k := by
  rcases k01 hk with rfl | rfl
  · exact h.us.len
  · exact h.it.len
theorem row_get (h : m.Ok) (hk : k ≤ 1) (hn : n < Kp429.sizeOf m.s k) : (rowsK m.p k)[n]? = some (Kp429.rowOf m.p k n) := by
  have hl := rows_len h hk
  rw [rowOf_eq, List.getD_eq_getElem?_getD, List.getElem?_eq_getElem (by omega)]
  rfl
theorem row_mem (h : m.Ok) (hk : k ≤ 1) (hn : n < Kp429.sizeOf m.s k) : (Kp429.rowOf m.p k n).length = m.s.factors + 1 ∧ ∀ x ∈ Kp429.rowOf m.p k n, Bd x := by
  have hm := List.mem_of_getElem? (row_get h hk hn)
  rcases k01 hk with rfl | rfl
  · exact ⟨h.us.row _ hm, h.us.val _ hm⟩
  · exact ⟨h.it.row _ hm, h.it.val _ hm⟩
/-- a row's address, what stands there -/
theorem MdAt.row (h : MdAt c H a L m) (hk : k ≤ 1) (hn : n < Kp429.sizeOf m.s k) : ∃ p, (L.ks k)[n]? = some p ∧ ((L.ks k).map V.ref)[n]? = some (.ref p) ∧ H p = some (rowI (Kp429.rowOf m.p k n)) := (h.klist hk).2.at (row_get h.ok hk hn)
theorem v_rowp {p : Addr} (T : Tx c mg) (h : MdAt c H a L m) (hk : k ≤ 1) (hp : ((L.ks k).map V.ref)[n]? = some (.ref p)) (ho : Val te σ H (.ref a)) (hi : Val tk σ H (nV k)) (hj : Val tn σ H (nV n)) :
    Val (tOp (rIxL c.K) (tOp (rIxT c.K) (tFld c.K te "rows") tk) tn) σ H (.ref p) := v_ixL (v_rowl T h hk ho hi) hj (sq_ (h.klist hk).1) (atI_nat hp)
theorem v_row (T : Tx c mg) (h : MdAt c H a L m) (hk : k ≤ 1) (hn : n < Kp429.sizeOf m.s k) (ho : Val te σ H (.ref a)) (hi : Val tk σ H (nV k)) (hj : Val tn σ H (nV n)) :
    ∃ p, (L.ks k)[n]? = some p ∧ H p = some (rowI (Kp429.rowOf m.p k n)) ∧ Val (tOp (rIxL c.K) (tOp (rIxT c.K) (tFld c.K te "rows") tk) tn) σ H (.ref p) := by
  obtain ⟨p, h1, h2, h3⟩ := h.row hk hn
  exact ⟨p, h1, h3, v_ixL (v_rowl T h hk ho hi) hj (sq_ (h.klist hk).1) (atI_nat h2)⟩
theorem place_get {r : List Int} (h : q < r.length) : (r.map V.int)[q]? = some (.int (Kp429.place r q)) := by
  rw [List.getElem?_map, List.getElem?_eq_getElem h]
  unfold Kp429.place
  rw [List.getD_eq_getElem?_getD, List.getElem?_eq_getElem h]
  rfl
theorem place_bd {r : List Int} (h : ∀ x ∈ r, Bd x) : Bd (Kp429.place r q) := by
  unfold Kp429.place
  rw [getD_at]
  cases e : r[q]? with
  | none => exact ⟨by decide, by decide⟩
  | some x => exact h x (List.mem_of_getElem? e)
theorem v_cell (T : Tx c mg) (h : MdAt c H a L m) (hk : k ≤ 1) (hn : n < Kp429.sizeOf m.s k) (hq : q ≤ m.s.factors) (ho : Val te σ H (.ref a)) (hi : Val tk σ H (nV k)) (hj : Val tn σ H (nV n)) (hl : Val tq σ H (nV q)) :
    Val (tOp (rIxL c.K) (tOp (rIxL c.K) (tOp (rIxT c.K) (tFld c.K te "rows") tk) tn) tq) σ H (.int (Kp429.place (Kp429.rowOf m.p k n) q)) := by
  obtain ⟨p, h1, h2, h3⟩ := v_row T h hk hn ho hi hj
  exact v_ixL h3 hl (sq_ h2) (atI_nat (place_get (by rw [(row_mem h.ok hk hn).1]; omega)))
end
end Lk
set_option Elab.async false
set_option maxRecDepth 100000
set_option maxHeartbeats 5000000
set_option linter.all false
/-! Loops and comprehensions by their invariants; lists of new objects. -/
namespace Lk
open PySem PySem.Spec PyProof.Rows L2
open Evl (Ex)
/-- what a def's body is to reach -/
abbrev Dq (Q : VK) : Ends := { nx := fun _ H' => Q .non H', rt := Q }
theorem dle {a b : Nat} : decide ((a : Int) ≤ (b : Int)) = decide (a ≤ b) := by
  by_cases h : a ≤ b
  · rw [decide_eq_true h, decide_eq_true (Int.ofNat_le.mpr h)]
  · rw [decide_eq_false h, decide_eq_false fun z => h (Int.ofNat_le.mp z)]
theorem dlt {a b : Nat} : decide ((a : Int) < (b : Int)) = decide (a < b) := by
  by_cases h : a < b
  · rw [decide_eq_true h, decide_eq_true (Int.ofNat_lt.mpr h)]
  · rw [decide_eq_false h, decide_eq_false fun z => h (Int.ofNat_lt.mp z)]
theorem deq {a b : Nat} : decide ((a : Int) = (b : Int)) = decide (a = b) := by
  by_cases h : a = b
  · rw [decide_eq_true h, decide_eq_true (congrArg _ h)]
  · rw [decide_eq_false h]
    exact decide_eq_false fun z => h (Int.ofNat.inj z)
section
variable {K : PySem.W.Frag} {σ : L2.St} {H : Hp} {D : Ends} {tu : TS} {ta te tl : TE} {j : Nat} {g : TG}
theorem nV_zero (i : Nat) : nV i = .int ((0 : Int) + (i : Int)) := by rw [Int.zero_add]
theorem l_range1 {n : Nat} (h : Val ta σ H (nV n)) (hn : n ≤ 100000) (Pv : Nat → L2.St → Hp → Prop) (h0 : Pv 0 σ H)
    (hs : ∀ (i : Nat) σ' H', i < n → Pv i σ' H' → tu { D with nx := Pv (i + 1), ct := Pv (i + 1), bk := D.nx } (σ'.set j (some (nV i))) H') (hd : ∀ σ' H', Pv n σ' H' → D.nx σ' H') : tFor (iRng1 (tCons ta tNil)) (gName j) tu D σ H :=
  h _ ⟨(n : Int), rfl, by omega, by omega, for_range (lo := 0) (n := ((n : Nat) : Int).toNat) Pv h0 (fun i σ' H' hi p => by
    rw [Int.toNat_natCast] at hi
    have turn := hs i σ' H' hi p
    rwa [nV_zero] at turn) (fun σ' H' p => hd σ' H' (by rw [Int.toNat_natCast] at p; exact p))⟩
theorem l_range2 {lo n : Nat} {tb : TE} (h : Val ta σ H (nV lo)) (h' : Val tb σ H (nV n)) (hn : n ≤ 100000) (hlo : lo ≤ 100000) (Pv : Nat → L2.St → Hp → Prop) (h0 : Pv 0 σ H)
    (hs : ∀ (i : Nat) σ' H', i < n - lo → Pv i σ' H' → tu { D with nx := Pv (i + 1), ct := Pv (i + 1), bk := D.nx } (σ'.set j (some (nV (lo + i)))) H') (hd : ∀ σ' H', Pv (n - lo) σ' H' → D.nx σ' H') : tFor (iRng2 (tCons ta (tCons tb tNil))) (gName j) tu D σ H :=
  h _ (h' _ ⟨(lo : Int), (n : Int), rfl, ⟨by omega, by omega, by omega, by omega⟩, for_range (lo := (lo : Int)) (n := ((n : Int) - (lo : Int)).toNat) Pv h0 (fun i σ' H' hi p => hs i σ' H' (by omega) p) (fun σ' H' p => hd σ' H' (by
    have e : ((n : Int) - (lo : Int)).toNat = n - lo := by omega
    rw [e] at p
    exact p))⟩)
theorem l_list {a : Addr} {xs : List V} (h : Val tl σ H (.ref a)) (hx : SqL K H a xs) (Pv : Nat → L2.St → Hp → Prop) (h0 : Pv 0 σ H) (hl : ∀ i σ' H', i ≤ xs.length → Pv i σ' H' → SqL K H' a xs)
    (hs : ∀ k y τ J, xs[k]? = some y → Pv k τ J → g y τ J fun τ2 J2 => tu { D with nx := Pv (k + 1), ct := Pv (k + 1), bk := D.nx } τ2 J2) (hd : ∀ τ J, Pv xs.length τ J → D.nx τ J) : tFor (iList K tl) g tu D σ H :=
  h _ ⟨a, rfl, ⟨xs, hx⟩, for_list Pv h0 hl hs hd⟩
theorem l_tupV {a : Addr} {xs : List V} (h : Val tl σ H (.ref a)) (hx : SqT K H a xs) (Pv : Nat → L2.St → Hp → Prop) (h0 : Pv 0 σ H) (hl : ∀ i σ' H', i ≤ xs.length → Pv i σ' H' → SqT K H' a xs)
    (hs : ∀ k y τ J, xs[k]? = some y → Pv k τ J → g y τ J fun τ2 J2 => tu { D with nx := Pv (k + 1), ct := Pv (k + 1), bk := D.nx } τ2 J2) (hd : ∀ τ J, Pv xs.length τ J → D.nx τ J) : tFor (iTup K tl) g tu D σ H :=
  h _ ⟨a, rfl, ⟨xs, hx⟩, for_tup Pv h0 hl hs hd⟩
/-- over a written tuple -/
theorem l_tup {ta : TA} {vs : List V} (h : VaA ta σ H vs) (hz : vs.length ≤ 100000) (Pv : Addr → Nat → L2.St → Hp → Prop) (h0 : ∀ t, H t = none → Pv t 0 σ (upd H t (.tup vs))) (hl : ∀ t i σ' H', Pv t i σ' H' → H' t = some (.tup vs))
    (hs : ∀ t i x σ' H', vs[i]? = some x → Pv t i σ' H' → g x σ' H' fun σ2 H2 => tu { D with nx := Pv t (i + 1), ct := Pv t (i + 1), bk := D.nx } σ2 H2) (hd : ∀ t σ' H', Pv t vs.length σ' H' → D.nx σ' H') : tFor (iTup K (tTup ta)) g tu D σ H :=
  h _ ⟨Evl.sz_of hz, fun t ht => ⟨t, rfl, ⟨vs, SqT.of upd_same⟩, for_tup (Pv t) (h0 t ht) (fun i σ' H' _ p => SqT.of (hl t i σ' H' p)) (hs t) (hd t)⟩⟩
end

/-! ### the same with something behind -/
section
variable {K : PySem.W.Frag} {σ : L2.St} {H : Hp} {D : Ends} {tu tz : TS} {tl : TE} {j : Nat}
theorem l_tupn {ta : TA} {vs : List V} (h : VaA ta σ H vs) (hz : vs.length ≤ 100000) (Pv : Addr → Nat → L2.St → Hp → Prop) (h0 : ∀ t, H t = none → Pv t 0 σ (upd H t (.tup vs))) (hl : ∀ t i σ' H', Pv t i σ' H' → H' t = some (.tup vs))
    (hs : ∀ t i x σ' H', vs[i]? = some x → Pv t i σ' H' → tu { D with nx := Pv t (i + 1), ct := Pv t (i + 1), bk := D.nx } (σ'.set j (some x)) H') (hd : ∀ t σ' H', Pv t vs.length σ' H' → D.nx σ' H') : tFor (iTup K (tTup ta)) (gName j) tu D σ H := l_tup h hz Pv h0 hl hs hd
theorem q_tupn {ta : TA} {vs : List V} (h : VaA ta σ H vs) (hz : vs.length ≤ 100000) (Pv : Addr → Nat → L2.St → Hp → Prop) (h0 : ∀ t, H t = none → Pv t 0 σ (upd H t (.tup vs))) (hl : ∀ t i σ' H', Pv t i σ' H' → H' t = some (.tup vs))
    (hs : ∀ t i x σ' H', vs[i]? = some x → Pv t i σ' H' → tu { D with nx := Pv t (i + 1), ct := Pv t (i + 1), bk := tz D } (σ'.set j (some x)) H') (hd : ∀ t σ' H', Pv t vs.length σ' H' → tz D σ' H') : tSeq (tFor (iTup K (tTup ta)) (gName j) tu) tz D σ H := l_tup (D := { D with nx := tz D }) h hz Pv h0 hl hs hd
theorem q_tupVn {a : Addr} {xs : List V} (h : Val tl σ H (.ref a)) (hx : SqT K H a xs) (Pv : Nat → L2.St → Hp → Prop) (h0 : Pv 0 σ H) (hl : ∀ i σ' H', i ≤ xs.length → Pv i σ' H' → SqT K H' a xs)
    (hs : ∀ i x σ' H', xs[i]? = some x → Pv i σ' H' → tu { D with nx := Pv (i + 1), ct := Pv (i + 1), bk := tz D } (σ'.set j (some x)) H') (hd : ∀ σ' H', Pv xs.length σ' H' → tz D σ' H') : tSeq (tFor (iTup K tl) (gName j) tu) tz D σ H := l_tupV (D := { D with nx := tz D }) h hx Pv h0 hl hs hd
theorem q_lst {n : Nat} {ta : TA} {vs : List V} (h : VaA ta σ H vs) (hl : vs.length ≤ 100000) (q : ∀ p, H p = none → tz D (σ.set n (some (.ref p))) (upd H p (.lst vs))) : tSeq (tAsg (tLst ta) (gName n)) tz D σ H := h _ ⟨Evl.sz_of hl, q⟩
theorem q_tupA {n : Nat} {ta : TA} {vs : List V} (h : VaA ta σ H vs) (hl : vs.length ≤ 100000) (q : ∀ p, H p = none → tz D (σ.set n (some (.ref p))) (upd H p (.tup vs))) : tSeq (tAsg (tTup ta) (gName n)) tz D σ H := h _ ⟨Evl.sz_of hl, q⟩
theorem two_get {i : Nat} {x : V} (h : ([.int 0, .int 1] : List V)[i]? = some x) : i ≤ 1 ∧ x = nV i := by
  match i, h with
  | 0, h => exact ⟨Nat.zero_le _, (Option.some.inj h).symm⟩
  | 1, h => exact ⟨Nat.le_refl _, (Option.some.inj h).symm⟩
  | i + 2, h => simp at h
end
section
variable {K : PySem.W.Frag} {σ : L2.St} {H : Hp} {D : Ends} {tu tz t1 t2 : TS} {ta te tl : TE} {t : TT} {b : Bool} {j n : Nat} {g : TG} {v : V} {i k : Int}
theorem vt {v' : V} (e : v = v') (h : Val te σ H v) : Val te σ H v' := e ▸ h
theorem q_set (h : Val te σ H v) (q : tz D (σ.set n (some v)) H) : tSeq (tAsg te (gName n)) tz D σ H := h _ q
theorem q_if (h : Ans t σ H b) (h1 : b = true → t1 { D with nx := tz D } σ H) (h2 : b = false → t2 { D with nx := tz D } σ H) : tSeq (tIfS t t1 t2) tz D σ H := st_if (D := { D with nx := tz D }) h h1 h2
theorem q_when (h : Ans t σ H b) (h1 : b = true → t1 { D with nx := tz D } σ H) (h2 : b = false → tz D σ H) : tSeq (tIfS t t1 tNext) tz D σ H := st_if (D := { D with nx := tz D }) h h1 h2
theorem s_when (h : Ans t σ H b) (h1 : b = true → t1 D σ H) (h2 : b = false → D.nx σ H) : tIfS t t1 tNext D σ H := st_if h h1 h2
theorem q_aug {f : Int → Int → Int} (hx : σ[n]? = some (some (.int i))) (h : Val te σ H (.int k)) (q : tz D (σ.set n (some (.int (f i k)))) H) : tSeq (tAug n te (ipI f)) tz D σ H := s_aug (D := { D with nx := tz D }) hx h q
theorem q_range1 (h : Val ta σ H (nV n)) (hn : n ≤ 100000) (Pv : Nat → L2.St → Hp → Prop) (h0 : Pv 0 σ H)
    (hs : ∀ (i : Nat) σ' H', i < n → Pv i σ' H' → tu { D with nx := Pv (i + 1), ct := Pv (i + 1), bk := tz D } (σ'.set j (some (nV i))) H') (hd : ∀ σ' H', Pv n σ' H' → tz D σ' H') : tSeq (tFor (iRng1 (tCons ta tNil)) (gName j) tu) tz D σ H := l_range1 (D := { D with nx := tz D }) h hn Pv h0 hs hd
theorem q_range2 {lo : Nat} {tb : TE} (h : Val ta σ H (nV lo)) (h' : Val tb σ H (nV n)) (hn : n ≤ 100000) (hlo : lo ≤ 100000) (Pv : Nat → L2.St → Hp → Prop) (h0 : Pv 0 σ H)
    (hs : ∀ (i : Nat) σ' H', i < n - lo → Pv i σ' H' → tu { D with nx := Pv (i + 1), ct := Pv (i + 1), bk := tz D } (σ'.set j (some (nV (lo + i)))) H') (hd : ∀ σ' H', Pv (n - lo) σ' H' → tz D σ' H') : tSeq (tFor (iRng2 (tCons ta (tCons tb tNil))) (gName j) tu) tz D σ H := l_range2 (D := { D with nx := tz D }) h h' hn hlo Pv h0 hs hd
theorem q_list {a : Addr} {xs : List V} (h : Val tl σ H (.ref a)) (hx : SqL K H a xs) (Pv : Nat → L2.St → Hp → Prop) (h0 : Pv 0 σ H) (hl : ∀ i σ' H', i ≤ xs.length → Pv i σ' H' → SqL K H' a xs)
    (hs : ∀ i x σ' H', xs[i]? = some x → Pv i σ' H' → g x σ' H' fun σ2 H2 => tu { D with nx := Pv (i + 1), ct := Pv (i + 1), bk := tz D } σ2 H2) (hd : ∀ σ' H', Pv xs.length σ' H' → tz D σ' H') : tSeq (tFor (iList K tl) g tu) tz D σ H := l_list (D := { D with nx := tz D }) h hx Pv h0 hl hs hd
theorem q_tupV {a : Addr} {xs : List V} (h : Val tl σ H (.ref a)) (hx : SqT K H a xs) (Pv : Nat → L2.St → Hp → Prop) (h0 : Pv 0 σ H) (hl : ∀ i σ' H', i ≤ xs.length → Pv i σ' H' → SqT K H' a xs)
    (hs : ∀ i x σ' H', xs[i]? = some x → Pv i σ' H' → g x σ' H' fun σ2 H2 => tu { D with nx := Pv (i + 1), ct := Pv (i + 1), bk := tz D } σ2 H2) (hd : ∀ σ' H', Pv xs.length σ' H' → tz D σ' H') : tSeq (tFor (iTup K tl) g tu) tz D σ H := l_tupV (D := { D with nx := tz D }) h hx Pv h0 hl hs hd
theorem q_tup {ta : TA} {vs : List V} (h : VaA ta σ H vs) (hz : vs.length ≤ 100000) (Pv : Addr → Nat → L2.St → Hp → Prop) (h0 : ∀ t, H t = none → Pv t 0 σ (upd H t (.tup vs))) (hl : ∀ t i σ' H', Pv t i σ' H' → H' t = some (.tup vs))
    (hs : ∀ t i x σ' H', vs[i]? = some x → Pv t i σ' H' → g x σ' H' fun σ2 H2 => tu { D with nx := Pv t (i + 1), ct := Pv t (i + 1), bk := tz D } σ2 H2) (hd : ∀ t σ' H', Pv t vs.length σ' H' → tz D σ' H') : tSeq (tFor (iTup K (tTup ta)) g tu) tz D σ H := l_tup (D := { D with nx := tz D }) h hz Pv h0 hl hs hd
/-- a list that a call has made, walked -/
theorem w_list {a : Addr} {xs : List V} (hx : SqL K H a xs) (Pv : Nat → L2.St → Hp → Prop) (h0 : Pv 0 σ H) (hl : ∀ i σ' H', i ≤ xs.length → Pv i σ' H' → SqL K H' a xs)
    (hs : ∀ i x σ' H', xs[i]? = some x → Pv i σ' H' → g x σ' H' fun σ2 H2 => tu { D with nx := Pv (i + 1), ct := Pv (i + 1), bk := tz D } σ2 H2) (hd : ∀ σ' H', Pv xs.length σ' H' → tz D σ' H') :
    (fun (x : V) (H1 : Hp) => ∃ a, x = .ref a ∧ (∃ xs, SqL K H1 a xs) ∧ (fun (J : It) (H1 : Hp) => ∃ W : Nat → Nat → L2.St → Hp → Prop, (∃ m, W 0 m σ H1) ∧ ∀ i m σ H, W i m σ H →
      (J.stop i H ∧ ({ D with nx := tz D } : Ends).nx σ H) ∨ (J.go i H ∧ ∃ N : L2.St → Hp → Prop, (∀ σ' H', N σ' H' → ∃ m', m' < m ∧ W (i + 1) m' σ' H') ∧ ∀ x H', J.yld i H x H' → g x σ H' fun σ2 H2 => tu { { D with nx := tz D } with nx := N, ct := N, bk := tz D } σ2 H2)) (Itl K a) H1) (.ref a) H :=
  ⟨a, rfl, ⟨xs, hx⟩, for_list (D := { D with nx := tz D }) Pv h0 hl hs hd⟩
end
/-! ### a list of new objects -/
def Col {α : Type} (F : α → HO) (H0 : Hp) (p : Addr) (xs : List α) (H : Hp) : Prop := H0 p = none ∧ Ex H0 H ∧ ∃ ps, H p = some (.lst (ps.map V.ref)) ∧ Each H F ps xs
/-- a list of values -/
def Cov (H0 : Hp) (p : Addr) (xs : List V) (H : Hp) : Prop := H0 p = none ∧ Ex H0 H ∧ H p = some (.lst xs)
section
variable {α : Type} {F : α → HO} {H0 H H' : Hp} {p t : Addr} {xs : List α} {x : α} {vs : List V}
theorem Each.keep {ps : List Addr} (h : Each H F ps xs) (k : ∀ q o, H q = some o → q ≠ p → H' q = some o) (n : ∀ x ∈ xs, ∀ q, H q = some (F x) → q ≠ p) : Each H' F ps xs := ⟨h.1, fun j x hx => by
  obtain ⟨q, h1, h2⟩ := h.2 j x hx
  exact ⟨q, h1, k _ _ h2 (n x (List.mem_of_getElem? hx) q h2)⟩⟩
theorem tup_ne {q : Addr} {ys zs : List V} (h : H q = some (.tup ys)) (h' : H p = some (.lst zs)) : q ≠ p := ne_of h h' (by intro z; cases z)
theorem Col.start (hp : H p = none) : Col F H p [] (upd H p (.lst [])) := ⟨hp, exn hp, [], upd_same, Each.nil⟩
theorem Col.ex (h : Col F H0 p xs H) (e : Ex H H') : Col F H0 p xs H' := let ⟨h1, h2, ps, h3, h4⟩ := h; ⟨h1, h2.trans e, ps, e _ _ h3, h4.ex e⟩
theorem Col.get (hF : ∀ x, ∃ vs, F x = .tup vs) (h : Col F H0 p xs H) : ∃ ps : List Addr, H p = some (.lst (ps.map V.ref)) ∧ ps.length = xs.length ∧ ∀ t vs x, H t = none → F x = .tup vs → Col F H0 p (xs ++ [x]) (upd (upd H t (.tup vs)) p (.lst (ps.map V.ref ++ [.ref t]))) := by
  obtain ⟨h1, h2, ps, h3, h4⟩ := h
  refine ⟨ps, h3, h4.1, fun t vs x ht hx => ?_⟩
  have e1 : Ex H (upd H t (.tup vs)) := exn ht
  have e2 := e1 _ _ h3
  have ntp : t ≠ p := ne_of (show (upd H t (.tup vs)) t = some (.tup vs) from upd_same) e2 (by intro z; cases z)
  refine ⟨h1, fun a o ha => ?_, ps ++ [t], ?_, ?_⟩
  · have na : a ≠ p := ne_of_none ha h1
    rw [upd_ne na]
    exact e1 _ _ (h2 _ _ ha)
  · rw [upd_same, List.map_append]
    rfl
  · refine Each.snoc ((h4.ex e1).keep (p := p) (fun q o hq nq => by rw [upd_ne nq]; exact hq) fun y _ q hq => ?_) ?_
    · obtain ⟨ys, ey⟩ := hF y
      rw [ey] at hq
      exact tup_ne hq e2
    · rw [upd_ne ntp, upd_same, hx]
theorem ex_shield {o : HO} (e : Ex H0 H) (ht : H t = none) : Ex (upd H0 t o) (upd H t o) := fun a u ha => by
  by_cases h : a = t
  · subst h
    rw [upd_same] at ha ⊢
    exact ha
  · rw [upd_ne h] at ha ⊢
    exact e _ _ ha
/-- what is made beside the list stands from now on -/
theorem Col.shield {o : HO} (h : Col F H0 p xs H) (ht : H t = none) : Col F (upd H0 t o) p xs (upd H t o) := by
  obtain ⟨h1, h2, ps, h3, h4⟩ := h
  have npt : p ≠ t := ne_of_none h3 ht
  exact ⟨by rw [upd_ne npt]; exact h1, ex_shield h2 ht, ps, by rw [upd_ne npt]; exact h3, h4.ex (exn ht)⟩
theorem Col.weak {H1 : Hp} (h : Col F H0 p xs H) (e : Ex H1 H0) : Col F H1 p xs H := ⟨fresh e h.1, e.trans h.2.1, h.2.2⟩
theorem Cov.start (hp : H p = none) : Cov H p [] (upd H p (.lst [])) := ⟨hp, exn hp, upd_same⟩
theorem Cov.ex {xs : List V} (h : Cov H0 p xs H) (e : Ex H H') : Cov H0 p xs H' := ⟨h.1, h.2.1.trans e, e _ _ h.2.2⟩
theorem Cov.shield {o : HO} {xs : List V} (h : Cov H0 p xs H) (ht : H t = none) : Cov (upd H0 t o) p xs (upd H t o) := by
  have npt : p ≠ t := ne_of_none h.2.2 ht
  exact ⟨by rw [upd_ne npt]; exact h.1, ex_shield h.2.1 ht, by rw [upd_ne npt]; exact h.2.2⟩
theorem Cov.weak {H1 : Hp} {xs : List V} (h : Cov H0 p xs H) (e : Ex H1 H0) : Cov H1 p xs H := ⟨fresh e h.1, e.trans h.2.1, h.2.2⟩
theorem Cov.add {xs ys : List V} (h : Cov H0 p xs H) : Cov H0 p (xs ++ ys) (upd H p (.lst (xs ++ ys))) := ⟨h.1, fun a o ha => by
  rw [upd_ne (ne_of_none ha h.1)]
  exact h.2.1 _ _ ha, upd_same⟩
end
section
variable {K : PySem.W.Frag} {σ : L2.St} {H : Hp} {D : Ends} {to te : TE} {p : Addr} {xs : List V} {x : V}
/-- xs.append(e) as a statement, e without a call -/
theorem s_app (ho : Val to σ H (.ref p)) (hp : H p = some (.lst xs)) (h : Val te σ H x) (hz : xs.length < 100000) (q : D.nx σ (upd H p (.lst (xs ++ [x])))) : tDrop (tBM K "list" rAppend to (tCons te tNil)) D σ H :=
  ho _ ⟨.inl ⟨rfl, xs, sq_ hp⟩, h _ ⟨p, xs, x, rfl, rfl, hp, Evl.sz_lt hz, q⟩⟩
theorem q_app {tz : TS} (ho : Val to σ H (.ref p)) (hp : H p = some (.lst xs)) (h : Val te σ H x) (hz : xs.length < 100000) (q : tz D σ (upd H p (.lst (xs ++ [x])))) : tSeq (tDrop (tBM K "list" rAppend to (tCons te tNil))) tz D σ H := s_app (D := { D with nx := tz D }) ho hp h hz q
/-- xs.append((a, b, ..)) -/
theorem s_appT {ta : TA} {vs : List V} (ho : Val to σ H (.ref p)) (hp : H p = some (.lst xs)) (h : VaA ta σ H vs) (hv : vs.length ≤ 100000) (hz : xs.length < 100000) (q : ∀ t, H t = none → D.nx σ (upd (upd H t (.tup vs)) p (.lst (xs ++ [.ref t])))) : tDrop (tBM K "list" rAppend to (tCons (tTup ta) tNil)) D σ H :=
  ho _ ⟨.inl ⟨rfl, xs, sq_ hp⟩, c_tup h hv fun t ht => ⟨p, xs, .ref t, rfl, rfl, exn ht _ _ hp, Evl.sz_lt hz, q t ht⟩⟩
end
section
variable {σ : L2.St} {H : Hp} {D : Ends} {tu tz : TS} {ta tb te : TE} {t : TT} {n : Nat} {r : R2} {sp : Sp} {dvs : List V} {E : XK} {tv tr : TA} {Q : VK}
theorem q_while (W : Nat → L2.St → Hp → Prop) (m0 : Nat) (h0 : W m0 σ H) (hs : ∀ m σ' H', W m σ' H' → ∃ b, Ans t σ' H' b ∧ (b = true → tu { D with nx := fun σ2 H2 => ∃ m', m' < m ∧ W m' σ2 H2, ct := fun σ2 H2 => ∃ m', m' < m ∧ W m' σ2 H2, bk := tz D } σ' H') ∧ (b = false → tz D σ' H')) :
    tSeq (tWhile t tu) tz D σ H := ⟨W, ⟨m0, h0⟩, fun m σ' H' hw => by
  have ⟨b, hb, h1, h2⟩ := hs m σ' H' hw
  refine hb _ ?_
  cases b with
  | true => exact iteT ⟨_, fun _ _ x => x, h1 rfl⟩
  | false => exact iteF (h2 rfl)⟩
theorem q_asgK (h : te σ H (fun v H1 => tz D (σ.set n (some v)) H1)) : tSeq (tAsg te (gName n)) tz D σ H := h
theorem s_asgK (h : te σ H (fun v H1 => D.nx (σ.set n (some v)) H1)) : tAsg te (gName n) D σ H := h
theorem s_retK (h : te σ H D.rt) : tRet te D σ H := h
theorem op_1 (h : ta σ H (fun x H1 => tb σ H1 fun y H2 => r x y H2 Q)) : tOp r ta tb σ H Q := h
theorem op_2 {x : V} (hx : Val ta σ H x) (h : tb σ H fun y H2 => r x y H2 Q) : tOp r ta tb σ H Q := hx _ h
theorem call_k (h : tv σ H (fun vs H1 => sp (vs ++ dvs) H1 Q E)) : tCall sp dvs E tv σ H Q := h
theorem cons_k {Q : List V → Hp → Prop} (h : te σ H fun x H1 => tr σ H1 fun xs H2 => Q (x :: xs) H2) : tCons te tr σ H Q := h
theorem cb_k {r : List V → Hp → VK → Prop} (h : tv σ H fun vs H1 => r vs H1 Q) : tCB r tv σ H Q := h
end
/-! ### stores to attributes -/
theorem SqL.ne {K : PySem.W.Frag} {H H2 : Hp} {n a C dx : Addr} {xs : List V} {fs : List (Str × V)} (h : SqL K H n xs) (ha : H a = some (.ins C dx fs)) (k : ∀ b, b ≠ a → H2 b = H b) : SqL K H2 n xs := by
  obtain (h | ⟨o, h⟩) | h := h
  · exact .inl (.inl (by rw [k n (ne_of h ha (by intro z; cases z))]; exact h))
  · exact .inl (.inr ⟨o, by rw [k n (ne_of h ha (by intro z; cases z))]; exact h⟩)
  · exact .inr h
section
variable {K : PySem.W.Frag} {σ : L2.St} {H : Hp} {D : Ends} {to tv : TE} {tz : TS} {a C dx : Addr} {fs fs' : List (Str × V)} {f : Str} {y : V}
theorem s_fld (hv : Val tv σ H y) (ho : Val to σ H (.ref a)) (e : H a = some (.ins C dx fs)) (cl : Cls K C) (na : NoAttr K C f) (hl : fs.length < 1000) (hp : putF f y fs = fs')
    (q : ∀ H2, H2 a = some (.ins C dx fs') → (∀ b, b ≠ a → H2 b = H b) → D.nx σ H2) : sFld K to tv f D σ H :=
  hv _ (ho _ ⟨a, C, dx, fs, rfl, e, cl, na, hl, q _ (by rw [upd_same, hp]) fun b hb => upd_ne hb⟩)
theorem q_fld (hv : Val tv σ H y) (ho : Val to σ H (.ref a)) (e : H a = some (.ins C dx fs)) (cl : Cls K C) (na : NoAttr K C f) (hl : fs.length < 1000) (hp : putF f y fs = fs')
    (q : ∀ H2, H2 a = some (.ins C dx fs') → (∀ b, b ≠ a → H2 b = H b) → tz D σ H2) : tSeq (sFld K to tv f) tz D σ H := s_fld (D := { D with nx := tz D }) hv ho e cl na hl hp q
/-- the value comes from a call; what is behind it: the store -/
def Sto (K : PySem.W.Frag) (to : TE) (f : Str) (σ : L2.St) (N : L2.St → Hp → Prop) : VK := fun y H1 => to σ H1 fun x H2 => ∃ a C dx fs, x = .ref a ∧ H2 a = some (.ins C dx fs) ∧ Cls K C ∧ NoAttr K C f ∧ fs.length < 1000 ∧ N σ (upd H2 a (.ins C dx (putF f y fs)))
theorem s_fldK (h : tv σ H (Sto K to f σ D.nx)) : sFld K to tv f D σ H := h
theorem q_fldK (h : tv σ H (Sto K to f σ (tz D))) : tSeq (sFld K to tv f) tz D σ H := h
theorem sto {N : L2.St → Hp → Prop} (ho : Val to σ H (.ref a)) (e : H a = some (.ins C dx fs)) (cl : Cls K C) (na : NoAttr K C f) (hl : fs.length < 1000) (hp : putF f y fs = fs')
    (q : ∀ H2, H2 a = some (.ins C dx fs') → (∀ b, b ≠ a → H2 b = H b) → N σ H2) : Sto K to f σ N y H :=
  ho _ ⟨a, C, dx, fs, rfl, e, cl, na, hl, q _ (by rw [upd_same, hp]) fun b hb => upd_ne hb⟩
end
/-! ### a comprehension of values over range -/
section
variable {σ : L2.St} {H : Hp} {ta te : TE} {j n : Nat} {ws : List Nat} {Q : VK}
theorem k_range1 (h : Val ta σ H (nV n)) (hn : n ≤ 50000) (f : Nat → V) (hw : ∀ x, wipe ((wipe σ ws).set j (some x)) ws = wipe σ ws)
    (he : ∀ (i : Nat) H1, i < n → Ex H H1 → ∀ Q : VK, (∀ H2, Ex H1 H2 → Q (f i) H2) → te ((wipe σ ws).set j (some (nV i))) H1 Q) (q : ∀ D H2, Cov H D ((List.range n).map f) H2 → Q (.ref D) H2) :
    tLc (iRng1 (tCons ta tNil)) (gName j) tYes te ws σ H Q :=
  h _ ⟨(n : Int), rfl, by omega, by omega, fun D hD => lc_range (lo := 0) (n := ((n : Nat) : Int).toNat) (fun i H' => Cov H D ((List.range i).map f) H') (Cov.start hD) (fun i H' hi p => by
    rw [Int.toNat_natCast] at hi
    have e0 := Int.zero_add (i : Int)
    show wipe ((wipe σ ws).set j (some (.int ((0 : Int) + (i : Int))))) ws = wipe σ ws ∧ tYes ((wipe σ ws).set j (some (.int ((0 : Int) + (i : Int))))) H' fun b H3 => if b = true then te ((wipe σ ws).set j (some (.int ((0 : Int) + (i : Int))))) H3 fun y H4 => ∃ acc, H4 D = some (.lst acc) ∧ acc.length < sizeLine ∧ Cov H D ((List.range (i + 1)).map f) (upd H4 D (.lst (acc ++ [y]))) else Cov H D ((List.range (i + 1)).map f) H3
    rw [e0]
    refine ⟨hw _, ?_⟩
    show te ((wipe σ ws).set j (some (.int (i : Int)))) H' _
    refine he i H' hi p.2.1 _ fun H2 e2 => ?_
    have p2 := p.ex e2
    refine ⟨_, p2.2.2, Evl.sz_lt (by rw [List.length_map, List.length_range]; omega), ?_⟩
    rw [List.range_succ, List.map_append]
    exact p2.add) (fun H' p => q D H' (by rw [Int.toNat_natCast] at p; exact p))⟩
end
/-! ### a heap without one object -/
def off (p : Addr) (H : Hp) : Hp := fun b => if b = p then none else H b
section
variable {α : Type} {F : α → HO} {H0 H : Hp} {p q : Addr} {xs : List α} {o : HO}
theorem off_self : off p H p = none := if_pos rfl
theorem off_ne (h : q ≠ p) : off p H q = H q := if_neg h
theorem off_ex : Ex (off p H) H := fun b o hb => by
  by_cases h : b = p
  · rw [h, off_self] at hb
    cases hb
  · rw [off_ne h] at hb
    exact hb
theorem ex_off (e : Ex H0 H) (h : H0 p = none) : Ex H0 (off p H) := fun b o hb => by
  rw [off_ne (ne_of_none hb h)]
  exact e _ _ hb
theorem Col.here (h : Col F H0 p xs H) : Col F (off p H) p xs H := ⟨off_self, off_ex, h.2.2⟩
theorem Cov.here {xs : List V} (h : Cov H0 p xs H) : Cov (off p H) p xs H := ⟨off_self, off_ex, h.2.2⟩
theorem Col.off (hF : ∀ x, ∃ vs, F x = .tup vs) (h : Col F H0 q xs H) {ys : List V} (hp : H p = some (.lst ys)) (n : q ≠ p) : ∃ ps : List Addr, off p H q = some (.lst (ps.map V.ref)) ∧ Each (off p H) F ps xs := by
  obtain ⟨_, _, ps, h3, h4⟩ := h
  refine ⟨ps, by rw [off_ne n]; exact h3, h4.1, fun j x hx => ?_⟩
  obtain ⟨b, b1, b2⟩ := h4.2 j x hx
  refine ⟨b, b1, ?_⟩
  obtain ⟨vs, e⟩ := hF x
  rw [off_ne (tup_ne (by rw [b2, e]) hp)]
  exact b2
end
/-! ### a loop over what a call gives -/
section
variable {K : PySem.W.Frag} {σ : L2.St} {H : Hp} {D : Ends} {tu tz : TS} {tl : TE} {g : TG}
def Fk (K : PySem.W.Frag) (g : TG) (tu : TS) (N : L2.St → Hp → Prop) (D : Ends) (σ : L2.St) : VK := fun x H1 => ∃ a, x = .ref a ∧ (∃ xs, SqL K H1 a xs) ∧ ∃ W : Nat → Nat → L2.St → Hp → Prop, (∃ m, W 0 m σ H1) ∧ ∀ i m σ H, W i m σ H →
      ((Itl K a).stop i H ∧ N σ H) ∨ ((Itl K a).go i H ∧ ∃ N' : L2.St → Hp → Prop, (∀ σ' H', N' σ' H' → ∃ m', m' < m ∧ W (i + 1) m' σ' H') ∧ ∀ x H', (Itl K a).yld i H x H' → g x σ H' fun σ2 H2 => tu { D with nx := N', ct := N', bk := N } σ2 H2)
theorem q_forL (h : tl σ H (Fk K g tu (tz D) { D with nx := tz D } σ)) : tSeq (tFor (iList K tl) g tu) tz D σ H := h
theorem s_forL (h : tl σ H (Fk K g tu D.nx D σ)) : tFor (iList K tl) g tu D σ H := h
theorem fk_list {N : L2.St → Hp → Prop} {a : Addr} {xs : List V} (hx : SqL K H a xs) (Pv : Nat → L2.St → Hp → Prop) (h0 : Pv 0 σ H) (hl : ∀ i σ' H', i ≤ xs.length → Pv i σ' H' → SqL K H' a xs)
    (hs : ∀ i x σ' H', xs[i]? = some x → Pv i σ' H' → g x σ' H' fun σ2 H2 => tu { D with nx := Pv (i + 1), ct := Pv (i + 1), bk := N } σ2 H2) (hd : ∀ σ' H', Pv xs.length σ' H' → N σ' H') : Fk K g tu N D σ (.ref a) H :=
  ⟨a, rfl, ⟨xs, hx⟩, for_list (D := { D with nx := N }) Pv h0 hl hs hd⟩
end
end Lk
set_option Elab.async false
set_option maxRecDepth 100000
set_option maxHeartbeats 5000000
set_option linter.all false
namespace Lk
open PySem PySem.Spec PyProof.Rows L2 Evl
/-- are_settings -/
def t_are_settings (c : Cs) : TS :=
  tSeq (tFor (iRng1 (tCons (tCB (rLenS c.K) (tCons (tC (.ref c.cr)) (tNil))) (tNil))) (gName 2) (tSeq (tAsg (tOp (rIxT c.K) (tC (.ref c.cr)) (tVar 2)) (gName 1))
  (tIfS (tOr (tTest (tOp rLt (tOp (rIxL c.K) (tVar 0) (tVar 2)) (tOp (rIxT c.K) (tVar 1) (tC (.int 0))))) (tTest (tOp rGt2 (tOp (rIxL c.K) (tVar 0) (tVar 2)) (tOp (rIxT c.K) (tVar 1) (tC (.int 1)))))) (tRet (tC (.bl false))) (tNext))))
  (tRet (tC (.bl true)))
theorem d_are_settings {P : Program} {w : World} {mg : Str → Option Value} {base : Heap} {c : Cs} {f : Addr} {cdv : Value} {A : Around} {outer : List Env} {s : Shared} {H : Hp} {E : XK} (T : Tx c mg)
    (hr : Room 0 (A.deeper (envOfC "are_settings" (C8.fnScope s_are_settings) s.heap.objs.size f cdv))) : PSs (cxOf C8.CX0 P w c.K mg base n_are_settings "are_settings" (C8.fnScope s_are_settings) f cdv A outer s H E).nox (C8.fnBody s_are_settings) (t_are_settings c) :=
  pss_cons (ps_for PassesOwn.never rfl (pi_range1 (by rfl) T.n_range (pa_cons (pe_callB call_len_seq (by rfl) T.n_len bt_len (pa_cons (C8.pe_gc (by rfl) T.g_CREATE_RANGES) (pa_nil))) (pa_nil))) (pg_name (i := 2) sc_are_settings.nd rfl (Or.inl rfl)) (pss_cons (ps_set (i := 1) sc_are_settings.nd rfl (.inl rfl) (pe_ix ix_tup (C8.pe_gc (by rfl) T.g_CREATE_RANGES) (pv 2) (fun _ _ => rfl)))
  (pss_one (ps_if (PW.pt (pw_or (pt_cmpR op_lt (pe_ix ix_list (pv 0) (pv 2) (fun _ _ => rfl)) (pe_ix ix_tup (pv 1) (pe_int) (fun _ _ => rfl)) (nomark _)) (pw_or1 (pt_cmpR op_gt (pe_ix ix_list (pv 0) (pv 2) (fun _ _ => rfl)) (pe_ix ix_tup (pv 1) (pe_int) (fun _ _ => rfl)) (nomark _))))) (pss_one (ps_ret (pe_bl))) (pss_nil)))))
  (pss_one (ps_ret (pe_bl)))

/-- is_rating -/
def t_is_rating (c : Cs) : TS :=
  tRet (tChain rLe rLe (tC (.int 1)) (tVar 0) (tC (.int 10)))
theorem d_is_rating {P : Program} {w : World} {mg : Str → Option Value} {base : Heap} {c : Cs} {f : Addr} {cdv : Value} {A : Around} {outer : List Env} {s : Shared} {H : Hp} {E : XK} (T : Tx c mg)
    (hr : Room 0 (A.deeper (envOfC "is_rating" (C8.fnScope s_is_rating) s.heap.objs.size f cdv))) : PSs (cxOf C8.CX0 P w c.K mg base n_is_rating "is_rating" (C8.fnScope s_is_rating) f cdv A outer s H E).nox (C8.fnBody s_is_rating) (t_is_rating c) :=
  pss_one (ps_ret (pe_chain op_le op_le (C8.pe_gc (by rfl) T.g_LOWEST_RATING) (pv 0) (C8.pe_gc (by rfl) T.g_HIGHEST_RATING)))

/-- Settings_init -/
def t_Settings_init (c : Cs) (sp_ordered_parameters : Sp) : TS :=
  tSeq (sFld c.K (tVar 0) (tTup (tCons (tOp (rIxL c.K) (tVar 1) (tC (.int 0))) (tCons (tOp (rIxL c.K) (tVar 1) (tC (.int 1))) (tNil)))) "row_counts")
  (tSeq (sFld c.K (tVar 0) (tOp (rIxL c.K) (tVar 1) (tC (.int 2))) "factor_count")
  (tSeq (sFld c.K (tVar 0) (tOp (rIxL c.K) (tVar 1) (tC (.int 3))) "limit")
  (tSeq (sFld c.K (tVar 0) (tOp (rIxL c.K) (tVar 1) (tC (.int 4))) "nonnegative")
  (tSeq (sFld c.K (tVar 0) (tOp (rIxL c.K) (tVar 1) (tC (.int 5))) "factor_penalty")
  (tSeq (sFld c.K (tVar 0) (tOp (rIxL c.K) (tVar 1) (tC (.int 6))) "bias_penalty")
  (tSeq (sFld c.K (tVar 0) (tOp (rIxL c.K) (tVar 1) (tC (.int 7))) "seed")
  (sFld c.K (tVar 0) (tMeth c.S "ordered_parameters" sp_ordered_parameters [] C8.E0 (tVar 0) tNil) "parameters")))))))
theorem d_Settings_init {P : Program} {w : World} {mg : Str → Option Value} {base : Heap} {c : Cs} {sp_ordered_parameters : Sp} {f : Addr} {cdv : Value} {A : Around} {outer : List Env} {s : Shared} {H : Hp} {E : XK} (T : Tx c mg) (c_ordered_parameters : C8.Met P w c.K mg base 1 c.S "ordered_parameters" sp_ordered_parameters [])
    (hr : Room 1 (A.deeper (envOfC "Settings.__init__" (C8.fnScope s_Settings_init) s.heap.objs.size f cdv))) : PSs (cxOf C8.CX0 P w c.K mg base n_Settings_init "Settings.__init__" (C8.fnScope s_Settings_init) f cdv A outer s H E).nox (C8.fnBody s_Settings_init) (t_Settings_init c sp_ordered_parameters) :=
  pss_cons (ps_fld (pv 0) (pe_tup (pa_cons (pe_ix ix_list (pv 1) (pe_int) (fun _ _ => rfl)) (pa_cons (pe_ix ix_list (pv 1) (pe_int) (fun _ _ => rfl)) (pa_nil)))) rfl)
  (pss_cons (ps_fld (pv 0) (pe_ix ix_list (pv 1) (pe_int) (fun _ _ => rfl)) rfl)
  (pss_cons (ps_fld (pv 0) (pe_ix ix_list (pv 1) (pe_int) (fun _ _ => rfl)) rfl)
  (pss_cons (ps_fld (pv 0) (pe_ix ix_list (pv 1) (pe_int) (fun _ _ => rfl)) rfl)
  (pss_cons (ps_fld (pv 0) (pe_ix ix_list (pv 1) (pe_int) (fun _ _ => rfl)) rfl)
  (pss_cons (ps_fld (pv 0) (pe_ix ix_list (pv 1) (pe_int) (fun _ _ => rfl)) rfl)
  (pss_cons (ps_fld (pv 0) (pe_ix ix_list (pv 1) (pe_int) (fun _ _ => rfl)) rfl)
  (pss_one (ps_fld (pv 0) (C8.pe_mt0 c_ordered_parameters hr (by decide) (pv 0)) rfl))))))))

/-- ordered_parameters -/
def t_ordered_parameters (c : Cs) : TS :=
  tSeq (tAsg (tLst (tNil)) (gName 1))
  (tSeq (tFor (iTup c.K (tTup (tCons (tC (.int 0)) (tCons (tC (.int 1)) (tNil))))) (gName 2) (tFor (iRng1 (tCons (tOp (rIxT c.K) (tFld c.K (tVar 0) "row_counts") (tVar 2)) (tNil))) (gName 3) (tFor (iRng1 (tCons (tOp rAdd2 (tFld c.K (tVar 0) "factor_count") (tC (.int 1))) (tNil))) (gName 4) (tDrop (tBM c.K "list" rAppend (tVar 1) (tCons (tTup (tCons (tVar 2) (tCons (tVar 3) (tCons (tVar 4) (tNil))))) (tNil)))))))
  (tRet (tVar 1)))
theorem d_ordered_parameters {P : Program} {w : World} {mg : Str → Option Value} {base : Heap} {c : Cs} {f : Addr} {cdv : Value} {A : Around} {outer : List Env} {s : Shared} {H : Hp} {E : XK} (T : Tx c mg)
    (hr : Room 0 (A.deeper (envOfC "Settings.ordered_parameters" (C8.fnScope s_ordered_parameters) s.heap.objs.size f cdv))) : PSs (cxOf C8.CX0 P w c.K mg base n_ordered_parameters "Settings.ordered_parameters" (C8.fnScope s_ordered_parameters) f cdv A outer s H E).nox (C8.fnBody s_ordered_parameters) (t_ordered_parameters c) :=
  pss_cons (ps_set (i := 1) sc_ordered_parameters.nd rfl (.inl rfl) (pe_lst (pa_nil)))
  (pss_cons (ps_for PassesOwn.never rfl (pi_tup (pe_tup (pa_cons (C8.pe_gc (by rfl) T.g_USER) (pa_cons (C8.pe_gc (by rfl) T.g_ITEM) (pa_nil))))) (pg_name (i := 2) sc_ordered_parameters.nd rfl (Or.inl rfl)) (pss_one (ps_for PassesOwn.never rfl (pi_range1 (by rfl) T.n_range (pa_cons (pe_ix ix_tup (pe_fld (pv 0) rfl) (pv 2) (fun _ _ => rfl)) (pa_nil))) (pg_name (i := 3) sc_ordered_parameters.nd rfl (Or.inl rfl)) (pss_one (ps_for PassesOwn.never rfl (pi_range1 (by rfl) T.n_range (pa_cons (pe_op op_add (pe_fld (pv 0) rfl) (pe_int)) (pa_nil))) (pg_name (i := 4) sc_ordered_parameters.nd rfl (Or.inl rfl)) (pss_one (ps_expr (pe_bm PySem.F.plainAttrs_list PySem.F.slot_list_append PySem.F.type_list_append mt_append (pv 1) (pa_cons (pe_tup (pa_cons (pv 2) (pa_cons (pv 3) (pa_cons (pv 4) (pa_nil))))) (pa_nil))))))))))
  (pss_one (ps_ret (pv 1))))

/-- has_user -/
def t_has_user (c : Cs) : TS :=
  tRet (tOp rLt (tVar 1) (tOp (rIxT c.K) (tFld c.K (tVar 0) "row_counts") (tC (.int 0))))
theorem d_has_user {P : Program} {w : World} {mg : Str → Option Value} {base : Heap} {c : Cs} {f : Addr} {cdv : Value} {A : Around} {outer : List Env} {s : Shared} {H : Hp} {E : XK} (T : Tx c mg)
    (hr : Room 0 (A.deeper (envOfC "Settings.has_user" (C8.fnScope s_has_user) s.heap.objs.size f cdv))) : PSs (cxOf C8.CX0 P w c.K mg base n_has_user "Settings.has_user" (C8.fnScope s_has_user) f cdv A outer s H E).nox (C8.fnBody s_has_user) (t_has_user c) :=
  pss_one (ps_ret (pe_cmpR op_lt (pv 1) (pe_ix ix_tup (pe_fld (pv 0) rfl) (C8.pe_gc (by rfl) T.g_USER) (fun _ _ => rfl)) (nomark _)))

/-- has_item -/
def t_has_item (c : Cs) : TS :=
  tRet (tOp rLt (tVar 1) (tOp (rIxT c.K) (tFld c.K (tVar 0) "row_counts") (tC (.int 1))))
theorem d_has_item {P : Program} {w : World} {mg : Str → Option Value} {base : Heap} {c : Cs} {f : Addr} {cdv : Value} {A : Around} {outer : List Env} {s : Shared} {H : Hp} {E : XK} (T : Tx c mg)
    (hr : Room 0 (A.deeper (envOfC "Settings.has_item" (C8.fnScope s_has_item) s.heap.objs.size f cdv))) : PSs (cxOf C8.CX0 P w c.K mg base n_has_item "Settings.has_item" (C8.fnScope s_has_item) f cdv A outer s H E).nox (C8.fnBody s_has_item) (t_has_item c) :=
  pss_one (ps_ret (pe_cmpR op_lt (pv 1) (pe_ix ix_tup (pe_fld (pv 0) rfl) (C8.pe_gc (by rfl) T.g_ITEM) (fun _ _ => rfl)) (nomark _)))

/-- has_pair -/
def t_has_pair (c : Cs) (sp_has_item : Sp) (sp_has_user : Sp) : TS :=
  tRet (tAndV (tMeth c.S "has_user" sp_has_user [] C8.E0 (tVar 0) (tCons (tVar 1) (tNil))) (tMeth c.S "has_item" sp_has_item [] C8.E0 (tVar 0) (tCons (tVar 2) (tNil))))
theorem d_has_pair {P : Program} {w : World} {mg : Str → Option Value} {base : Heap} {c : Cs} {sp_has_item : Sp} {sp_has_user : Sp} {f : Addr} {cdv : Value} {A : Around} {outer : List Env} {s : Shared} {H : Hp} {E : XK} (T : Tx c mg) (c_has_item : C8.Met P w c.K mg base 1 c.S "has_item" sp_has_item []) (c_has_user : C8.Met P w c.K mg base 1 c.S "has_user" sp_has_user [])
    (hr : Room 1 (A.deeper (envOfC "Settings.has_pair" (C8.fnScope s_has_pair) s.heap.objs.size f cdv))) : PSs (cxOf C8.CX0 P w c.K mg base n_has_pair "Settings.has_pair" (C8.fnScope s_has_pair) f cdv A outer s H E).nox (C8.fnBody s_has_pair) (t_has_pair c sp_has_item sp_has_user) :=
  pss_one (ps_ret (pe_and (C8.pe_mt c_has_user hr (by decide) (pv 0) (pa_cons (pv 1) (pa_nil))) (pe_one (C8.pe_mt c_has_item hr (by decide) (pv 0) (pa_cons (pv 2) (pa_nil))))))

/-- has_row -/
def t_has_row (c : Cs) : TS :=
  tRet (tAndV (tOp rLe (tVar 1) (tC (.int 1))) (tOp rLt (tVar 2) (tOp (rIxT c.K) (tFld c.K (tVar 0) "row_counts") (tVar 1))))
theorem d_has_row {P : Program} {w : World} {mg : Str → Option Value} {base : Heap} {c : Cs} {f : Addr} {cdv : Value} {A : Around} {outer : List Env} {s : Shared} {H : Hp} {E : XK} (T : Tx c mg)
    (hr : Room 0 (A.deeper (envOfC "Settings.has_row" (C8.fnScope s_has_row) s.heap.objs.size f cdv))) : PSs (cxOf C8.CX0 P w c.K mg base n_has_row "Settings.has_row" (C8.fnScope s_has_row) f cdv A outer s H E).nox (C8.fnBody s_has_row) (t_has_row c) :=
  pss_one (ps_ret (pe_and (pe_cmpR op_le (pv 1) (C8.pe_gc (by rfl) T.g_ITEM) (nomark _)) (pe_one (pe_cmpR op_lt (pv 2) (pe_ix ix_tup (pe_fld (pv 0) rfl) (pv 1) (fun _ _ => rfl)) (nomark _)))))

/-- has_parameter -/
def t_has_parameter (c : Cs) (sp_has_row : Sp) : TS :=
  tRet (tAndV (tMeth c.S "has_row" sp_has_row [] C8.E0 (tVar 0) (tCons (tVar 1) (tCons (tVar 2) (tNil)))) (tOp rLe (tVar 3) (tFld c.K (tVar 0) "factor_count")))
theorem d_has_parameter {P : Program} {w : World} {mg : Str → Option Value} {base : Heap} {c : Cs} {sp_has_row : Sp} {f : Addr} {cdv : Value} {A : Around} {outer : List Env} {s : Shared} {H : Hp} {E : XK} (T : Tx c mg) (c_has_row : C8.Met P w c.K mg base 1 c.S "has_row" sp_has_row [])
    (hr : Room 1 (A.deeper (envOfC "Settings.has_parameter" (C8.fnScope s_has_parameter) s.heap.objs.size f cdv))) : PSs (cxOf C8.CX0 P w c.K mg base n_has_parameter "Settings.has_parameter" (C8.fnScope s_has_parameter) f cdv A outer s H E).nox (C8.fnBody s_has_parameter) (t_has_parameter c sp_has_row) :=
  pss_one (ps_ret (pe_and (C8.pe_mt c_has_row hr (by decide) (pv 0) (pa_cons (pv 1) (pa_cons (pv 2) (pa_nil)))) (pe_one (pe_cmpR op_le (pv 3) (pe_fld (pv 0) rfl) (nomark _)))))

/-- lowest -/
def t_lowest (c : Cs) : TS :=
  tSeq (tIfS (tTest (tOp rEq (tVar 1) (tC (.int 0)))) (tRet (tUn rNeg (tC (.int 655360)))) (tNext))
  (tSeq (tIfS (tTest (tOp rEq (tFld c.K (tVar 0) "nonnegative") (tC (.int 1)))) (tRet (tC (.int 0))) (tNext))
  (tRet (tUn rNeg (tFld c.K (tVar 0) "limit"))))
theorem d_lowest {P : Program} {w : World} {mg : Str → Option Value} {base : Heap} {c : Cs} {f : Addr} {cdv : Value} {A : Around} {outer : List Env} {s : Shared} {H : Hp} {E : XK} (T : Tx c mg)
    (hr : Room 0 (A.deeper (envOfC "Settings.lowest" (C8.fnScope s_lowest) s.heap.objs.size f cdv))) : PSs (cxOf C8.CX0 P w c.K mg base n_lowest "Settings.lowest" (C8.fnScope s_lowest) f cdv A outer s H E).nox (C8.fnBody s_lowest) (t_lowest c) :=
  pss_cons (ps_if (pt_cmpR op_eq (pv 1) (C8.pe_gc (by rfl) T.g_BIAS_PLACE) (nomark _)) (pss_one (ps_ret (pe_un un_neg (C8.pe_gc (by rfl) T.g_BIAS_LIMIT)))) (pss_nil))
  (pss_cons (ps_if (pt_cmpR op_eq (pe_fld (pv 0) rfl) (pe_int) (nomark _)) (pss_one (ps_ret (pe_int))) (pss_nil))
  (pss_one (ps_ret (pe_un un_neg (pe_fld (pv 0) rfl)))))

/-- highest -/
def t_highest (c : Cs) : TS :=
  tSeq (tIfS (tTest (tOp rEq (tVar 1) (tC (.int 0)))) (tRet (tC (.int 655360))) (tNext))
  (tRet (tFld c.K (tVar 0) "limit"))
theorem d_highest {P : Program} {w : World} {mg : Str → Option Value} {base : Heap} {c : Cs} {f : Addr} {cdv : Value} {A : Around} {outer : List Env} {s : Shared} {H : Hp} {E : XK} (T : Tx c mg)
    (hr : Room 0 (A.deeper (envOfC "Settings.highest" (C8.fnScope s_highest) s.heap.objs.size f cdv))) : PSs (cxOf C8.CX0 P w c.K mg base n_highest "Settings.highest" (C8.fnScope s_highest) f cdv A outer s H E).nox (C8.fnBody s_highest) (t_highest c) :=
  pss_cons (ps_if (pt_cmpR op_eq (pv 1) (C8.pe_gc (by rfl) T.g_BIAS_PLACE) (nomark _)) (pss_one (ps_ret (C8.pe_gc (by rfl) T.g_BIAS_LIMIT))) (pss_nil))
  (pss_one (ps_ret (pe_fld (pv 0) rfl)))

/-- is_in_range -/
def t_is_in_range (c : Cs) (sp_highest : Sp) (sp_lowest : Sp) : TS :=
  tRet (tChain rLe rLe (tMeth c.S "lowest" sp_lowest [] C8.E0 (tVar 0) (tCons (tVar 1) (tNil))) (tVar 2) (tMeth c.S "highest" sp_highest [] C8.E0 (tVar 0) (tCons (tVar 1) (tNil))))
theorem d_is_in_range {P : Program} {w : World} {mg : Str → Option Value} {base : Heap} {c : Cs} {sp_highest : Sp} {sp_lowest : Sp} {f : Addr} {cdv : Value} {A : Around} {outer : List Env} {s : Shared} {H : Hp} {E : XK} (T : Tx c mg) (c_highest : C8.Met P w c.K mg base 1 c.S "highest" sp_highest []) (c_lowest : C8.Met P w c.K mg base 1 c.S "lowest" sp_lowest [])
    (hr : Room 1 (A.deeper (envOfC "Settings.is_in_range" (C8.fnScope s_is_in_range) s.heap.objs.size f cdv))) : PSs (cxOf C8.CX0 P w c.K mg base n_is_in_range "Settings.is_in_range" (C8.fnScope s_is_in_range) f cdv A outer s H E).nox (C8.fnBody s_is_in_range) (t_is_in_range c sp_highest sp_lowest) :=
  pss_one (ps_ret (pe_chain op_le op_le (C8.pe_mt c_lowest hr (by decide) (pv 0) (pa_cons (pv 1) (pa_nil))) (pv 2) (C8.pe_mt c_highest hr (by decide) (pv 0) (pa_cons (pv 1) (pa_nil)))))

/-- penalty -/
def t_penalty (c : Cs) : TS :=
  tSeq (tIfS (tTest (tOp rEq (tVar 1) (tC (.int 0)))) (tRet (tFld c.K (tVar 0) "bias_penalty")) (tNext))
  (tRet (tFld c.K (tVar 0) "factor_penalty"))
theorem d_penalty {P : Program} {w : World} {mg : Str → Option Value} {base : Heap} {c : Cs} {f : Addr} {cdv : Value} {A : Around} {outer : List Env} {s : Shared} {H : Hp} {E : XK} (T : Tx c mg)
    (hr : Room 0 (A.deeper (envOfC "Settings.penalty" (C8.fnScope s_penalty) s.heap.objs.size f cdv))) : PSs (cxOf C8.CX0 P w c.K mg base n_penalty "Settings.penalty" (C8.fnScope s_penalty) f cdv A outer s H E).nox (C8.fnBody s_penalty) (t_penalty c) :=
  pss_cons (ps_if (pt_cmpR op_eq (pv 1) (C8.pe_gc (by rfl) T.g_BIAS_PLACE) (nomark _)) (pss_one (ps_ret (pe_fld (pv 0) rfl))) (pss_nil))
  (pss_one (ps_ret (pe_fld (pv 0) rfl)))

/-- hashed -/
def t_hashed (c : Cs) : TS :=
  tSeq (tAsg (tC (.int 14695981039346656037)) (gName 2))
  (tSeq (tFor (iTup c.K (tVar 0)) (gName 1) (tFor (iTup c.K (tTup (tCons (tC (.int 0)) (tCons (tC (.int 8)) (tCons (tC (.int 16)) (tCons (tC (.int 24)) (tNil))))))) (gName 3) (tAsg (tOp rMod (tOp rMul (tOp rXor (tVar 2) (tOp rAnd (tOp rShr (tVar 1) (tVar 3)) (tC (.int 255)))) (tC (.int 1099511628211))) (tC (.int 18446744073709551616))) (gName 2))))
  (tRet (tVar 2)))
theorem d_hashed {P : Program} {w : World} {mg : Str → Option Value} {base : Heap} {c : Cs} {f : Addr} {cdv : Value} {A : Around} {outer : List Env} {s : Shared} {H : Hp} {E : XK} (T : Tx c mg)
    (hr : Room 0 (A.deeper (envOfC "hashed" (C8.fnScope s_hashed) s.heap.objs.size f cdv))) : PSs (cxOf C8.CX0 P w c.K mg base n_hashed "hashed" (C8.fnScope s_hashed) f cdv A outer s H E).nox (C8.fnBody s_hashed) (t_hashed c) :=
  pss_cons (ps_set (i := 2) sc_hashed.nd rfl (.inl rfl) (C8.pe_gc (by rfl) T.g_HASH_START))
  (pss_cons (ps_for PassesOwn.never rfl (pi_tup (pv 0)) (pg_name (i := 1) sc_hashed.nd rfl (Or.inl rfl)) (pss_one (ps_for PassesOwn.never rfl (pi_tup (pe_tup (pa_cons (pe_int) (pa_cons (pe_int) (pa_cons (pe_int) (pa_cons (pe_int) (pa_nil))))))) (pg_name (i := 3) sc_hashed.nd rfl (Or.inl rfl)) (pss_one (ps_set (i := 2) sc_hashed.nd rfl (.inl rfl) (pe_op op_mod (pe_op op_mul (pe_op op_xor (pv 2) (pe_op op_and (pe_op op_shr (pv 1) (pv 3)) (pe_int))) (C8.pe_gc (by rfl) T.g_HASH_FACTOR)) (C8.pe_gc (by rfl) T.g_HASH_MODULUS)))))))
  (pss_one (ps_ret (pv 2))))

/-- first_value -/
def t_first_value (c : Cs) (sp_hashed : Sp) : TS :=
  tSeq (tIfS (tTest (tOp rEq (tVar 3) (tC (.int 0)))) (tRet (tC (.int 0))) (tNext))
  (tSeq (tAsg (tOp rDivW (tCall sp_hashed [] C8.E0 (tCons (tTup (tCons (tFld c.K (tVar 0) "seed") (tCons (tVar 1) (tCons (tVar 2) (tCons (tVar 3) (tNil)))))) (tNil))) (tC (.int 65536))) (gName 4))
  (tSeq (tAsg (tCB (rMin2) (tCons (tFld c.K (tVar 0) "limit") (tCons (tC (.int 64)) (tNil)))) (gName 5))
  (tSeq (tIfS (tTest (tOp rEq (tFld c.K (tVar 0) "nonnegative") (tC (.int 1)))) (tRet (tOp rMod (tVar 4) (tOp rAdd2 (tVar 5) (tC (.int 1))))) (tNext))
  (tRet (tOp rSub2 (tOp rMod (tVar 4) (tOp rAdd2 (tOp rMul (tC (.int 2)) (tVar 5)) (tC (.int 1)))) (tVar 5))))))
theorem d_first_value {P : Program} {w : World} {mg : Str → Option Value} {base : Heap} {c : Cs} {sp_hashed : Sp} {f : Addr} {cdv : Value} {A : Around} {outer : List Env} {s : Shared} {H : Hp} {E : XK} (T : Tx c mg) (c_hashed : C8.Cal P w c.K mg base 1 "hashed" sp_hashed [])
    (hr : Room 1 (A.deeper (envOfC "first_value" (C8.fnScope s_first_value) s.heap.objs.size f cdv))) : PSs (cxOf C8.CX0 P w c.K mg base n_first_value "first_value" (C8.fnScope s_first_value) f cdv A outer s H E).nox (C8.fnBody s_first_value) (t_first_value c sp_hashed) :=
  pss_cons (ps_if (pt_cmpR op_eq (pv 3) (C8.pe_gc (by rfl) T.g_BIAS_PLACE) (nomark _)) (pss_one (ps_ret (pe_int))) (pss_nil))
  (pss_cons (ps_set (i := 4) sc_first_value.nd rfl (.inl rfl) (pe_op op_fdivW (C8.pe_c c_hashed hr (by decide) (by rfl) (pa_cons (pe_tup (pa_cons (pe_fld (pv 0) rfl) (pa_cons (pv 1) (pa_cons (pv 2) (pa_cons (pv 3) (pa_nil)))))) (pa_nil))) (pe_int)))
  (pss_cons (ps_set (i := 5) sc_first_value.nd rfl (.inl rfl) (pe_callB (call_min2 rfl) (by rfl) T.n_min bt_min (pa_cons (pe_fld (pv 0) rfl) (pa_cons (C8.pe_gc (by rfl) T.g_LARGEST_FIRST_FACTOR) (pa_nil)))))
  (pss_cons (ps_if (pt_cmpR op_eq (pe_fld (pv 0) rfl) (pe_int) (nomark _)) (pss_one (ps_ret (pe_op op_mod (pv 4) (pe_op op_add (pv 5) (pe_int))))) (pss_nil))
  (pss_one (ps_ret (pe_op op_sub (pe_op op_mod (pv 4) (pe_op op_add (pe_op op_mul (pe_int) (pv 5)) (pe_int))) (pv 5)))))))

/-- first_rows -/
def t_first_rows (c : Cs) (sp_first_value : Sp) : TS :=
  tSeq (tAsg (tTup (tCons (tLst (tNil)) (tCons (tLst (tNil)) (tNil)))) (gName 4))
  (tSeq (tFor (iTup c.K (tTup (tCons (tC (.int 0)) (tCons (tC (.int 1)) (tNil))))) (gName 1) (tFor (iRng1 (tCons (tOp (rIxT c.K) (tFld c.K (tVar 0) "row_counts") (tVar 1)) (tNil))) (gName 2) (tSeq (tAsg (tLc (iRng1 (tCons (tOp rAdd2 (tFld c.K (tVar 0) "factor_count") (tC (.int 1))) (tNil))) (gName 5) (tYes) (tCall sp_first_value [] C8.E0 (tCons (tVar 0) (tCons (tVar 1) (tCons (tVar 2) (tCons (tVar 5) (tNil)))))) [5]) (gName 3))
  (tDrop (tBM c.K "list" rAppend (tOp (rIxT c.K) (tVar 4) (tVar 1)) (tCons (tVar 3) (tNil)))))))
  (tRet (tVar 4)))
theorem d_first_rows {P : Program} {w : World} {mg : Str → Option Value} {base : Heap} {c : Cs} {sp_first_value : Sp} {f : Addr} {cdv : Value} {A : Around} {outer : List Env} {s : Shared} {H : Hp} {E : XK} (T : Tx c mg) (c_first_value : C8.Cal P w c.K mg base 2 "first_value" sp_first_value [])
    (hr : Room 2 (A.deeper (envOfC "first_rows" (C8.fnScope s_first_rows) s.heap.objs.size f cdv))) : PSs (cxOf C8.CX0 P w c.K mg base n_first_rows "first_rows" (C8.fnScope s_first_rows) f cdv A outer s H E).nox (C8.fnBody s_first_rows) (t_first_rows c sp_first_value) :=
  pss_cons (ps_set (i := 4) sc_first_rows.nd rfl (.inl rfl) (pe_tup (pa_cons (pe_lst (pa_nil)) (pa_cons (pe_lst (pa_nil)) (pa_nil)))))
  (pss_cons (ps_for PassesOwn.never rfl (pi_tup (pe_tup (pa_cons (C8.pe_gc (by rfl) T.g_USER) (pa_cons (C8.pe_gc (by rfl) T.g_ITEM) (pa_nil))))) (pg_name (i := 1) sc_first_rows.nd rfl (.inr rfl)) (pss_one (ps_for PassesOwn.never rfl (pi_range1 (by rfl) T.n_range (pa_cons (pe_ix ix_tup (pe_fld (pv 0) rfl) (pv 1) (fun _ _ => rfl)) (pa_nil))) (pg_name (i := 2) sc_first_rows.nd rfl (.inr rfl)) (pss_cons (ps_setLc (i := 3) (own := [("place", 5)]) rfl sc_first_rows.nd rfl rfl (sw_true rfl rfl rfl (by decide +kernel)) (pi_range1 (by rfl) T.n_range (pa_cons (pe_op op_add (pe_fld (pv 0) rfl) (pe_int)) (pa_nil))) (blkOk_by (own := [("place", 5)]) (N := n_first_rows) (sc := C8.fnScope s_first_rows) (by decide +kernel)) (fun _ _ _ _ _ => pg_name (i := 5) sc_first_rows.nd rfl (Or.inl rfl)) (fun _ _ _ _ _ => pts_nil) (fun _ _ _ _ _ => C8.pe_c c_first_value hr (by decide) (by rfl) (pa_cons (pv 0) (pa_cons (pv 1) (pa_cons (pv 2) (pa_cons (pv 5) (pa_nil)))))))
  (pss_one (ps_expr (pe_bm PySem.F.plainAttrs_list PySem.F.slot_list_append PySem.F.type_list_append mt_append (pe_ix ix_tup (pv 4) (pv 1) (fun _ _ => rfl)) (pa_cons (pv 3) (pa_nil)))))))))
  (pss_one (ps_ret (pv 4))))

/-- first_base -/
def t_first_base (c : Cs) : TS :=
  tSeq (tIfS (tTest (tOp rEq (tCB (rLenS c.K) (tCons (tVar 0) (tNil))) (tC (.int 0)))) (tRet (tC (.int 0))) (tNext))
  (tRet (tOp rDivW (tOp rMul (tC (.int 65536)) (tCB (rSum c.K) (tCons (tVar 0) (tNil)))) (tCB (rLenS c.K) (tCons (tVar 0) (tNil)))))
theorem d_first_base {P : Program} {w : World} {mg : Str → Option Value} {base : Heap} {c : Cs} {f : Addr} {cdv : Value} {A : Around} {outer : List Env} {s : Shared} {H : Hp} {E : XK} (T : Tx c mg)
    (hr : Room 0 (A.deeper (envOfC "first_base" (C8.fnScope s_first_base) s.heap.objs.size f cdv))) : PSs (cxOf C8.CX0 P w c.K mg base n_first_base "first_base" (C8.fnScope s_first_base) f cdv A outer s H E).nox (C8.fnBody s_first_base) (t_first_base c) :=
  pss_cons (ps_if (pt_cmpR op_eq (pe_callB call_len_seq (by rfl) T.n_len bt_len (pa_cons (pv 0) (pa_nil))) (pe_int) (nomark _)) (pss_one (ps_ret (pe_int))) (pss_nil))
  (pss_one (ps_ret (pe_op op_fdivW (pe_op op_mul (C8.pe_gc (by rfl) T.g_UNIT) (pe_callB (cr_sum rfl) (by rfl) T.n_sum bt_sum (pa_cons (pv 0) (pa_nil)))) (pe_callB call_len_seq (by rfl) T.n_len bt_len (pa_cons (pv 0) (pa_nil))))))

end Lk
set_option Elab.async false
set_option maxRecDepth 100000
set_option maxHeartbeats 5000000
set_option linter.all false
namespace Lk
open PySem PySem.Spec PyProof.Rows L2 Evl
/-- Model_init -/
def t_Model_init (c : Cs) (sp_first_rows : Sp) : TS :=
  tSeq (sFld c.K (tVar 0) (tVar 1) "settings")
  (tSeq (tAsg (tOp (rIxT c.K) (tFld c.K (tVar 1) "row_counts") (tC (.int 1))) (gName 2))
  (tSeq (sFld c.K (tVar 0) (tLc (iRng1 (tCons (tOp (rIxT c.K) (tFld c.K (tVar 1) "row_counts") (tC (.int 0))) (tNil))) (gName 3) (tYes) (tOp rRep (tLst (tCons (tC (.int 0)) (tNil))) (tVar 2)) [3]) "ratings")
  (tSeq (sFld c.K (tVar 0) (tC (.int 0)) "base")
  (sFld c.K (tVar 0) (tCall sp_first_rows [] C8.E0 (tCons (tVar 1) (tNil))) "rows"))))
theorem d_Model_init {P : Program} {w : World} {mg : Str → Option Value} {base : Heap} {c : Cs} {sp_first_rows : Sp} {f : Addr} {cdv : Value} {A : Around} {outer : List Env} {s : Shared} {H : Hp} {E : XK} (T : Tx c mg) (c_first_rows : C8.Cal P w c.K mg base 3 "first_rows" sp_first_rows [])
    (hr : Room 3 (A.deeper (envOfC "Model.__init__" (C8.fnScope s_Model_init) s.heap.objs.size f cdv))) : PSs (cxOf C8.CX0 P w c.K mg base n_Model_init "Model.__init__" (C8.fnScope s_Model_init) f cdv A outer s H E).nox (C8.fnBody s_Model_init) (t_Model_init c sp_first_rows) :=
  pss_cons (ps_fld (pv 0) (pv 1) rfl)
  (pss_cons (ps_set (i := 2) sc_Model_init.nd rfl (.inr rfl) (pe_ix ix_tup (pe_fld (pv 1) rfl) (C8.pe_gc (by rfl) T.g_ITEM) (fun _ _ => rfl)))
  (pss_cons (ps_fld (pv 0) (pe_lc (own := [("user", 3)]) rfl sc_Model_init.nd (pi_range1 (by rfl) T.n_range (pa_cons (pe_ix ix_tup (pe_fld (pv 1) rfl) (C8.pe_gc (by rfl) T.g_USER) (fun _ _ => rfl)) (pa_nil))) (blkOk_by (own := [("user", 3)]) (N := n_Model_init) (sc := C8.fnScope s_Model_init) (by decide +kernel)) (fun _ _ _ _ _ => pg_name (i := 3) sc_Model_init.nd rfl (Or.inl rfl)) (fun _ _ _ _ _ => pts_nil) (fun _ _ _ _ _ => pe_op op_rep (pe_lst (pa_cons (C8.pe_gc (by rfl) T.g_NO_RATING) (pa_nil))) (pv 2))) rfl)
  (pss_cons (ps_fld (pv 0) (pe_int) rfl)
  (pss_one (ps_fld (pv 0) (C8.pe_c c_first_rows hr (by decide) (by rfl) (pa_cons (pv 1) (pa_nil))) rfl)))))

/-- begin_again -/
def t_begin_again (c : Cs) (sp_all_ratings : Sp) (sp_first_base : Sp) (sp_first_rows : Sp) : TS :=
  tSeq (sFld c.K (tVar 0) (tCall sp_first_base [] C8.E0 (tCons (tMeth c.M "all_ratings" sp_all_ratings [] C8.E0 (tVar 0) tNil) (tNil))) "base")
  (sFld c.K (tVar 0) (tCall sp_first_rows [] C8.E0 (tCons (tFld c.K (tVar 0) "settings") (tNil))) "rows")
theorem d_begin_again {P : Program} {w : World} {mg : Str → Option Value} {base : Heap} {c : Cs} {sp_all_ratings : Sp} {sp_first_base : Sp} {sp_first_rows : Sp} {f : Addr} {cdv : Value} {A : Around} {outer : List Env} {s : Shared} {H : Hp} {E : XK} (T : Tx c mg) (c_all_ratings : C8.Met P w c.K mg base 2 c.M "all_ratings" sp_all_ratings []) (c_first_base : C8.Cal P w c.K mg base 1 "first_base" sp_first_base []) (c_first_rows : C8.Cal P w c.K mg base 3 "first_rows" sp_first_rows [])
    (hr : Room 3 (A.deeper (envOfC "Model.begin_again" (C8.fnScope s_begin_again) s.heap.objs.size f cdv))) : PSs (cxOf C8.CX0 P w c.K mg base n_begin_again "Model.begin_again" (C8.fnScope s_begin_again) f cdv A outer s H E).nox (C8.fnBody s_begin_again) (t_begin_again c sp_all_ratings sp_first_base sp_first_rows) :=
  pss_cons (ps_fld (pv 0) (C8.pe_c c_first_base hr (by decide) (by rfl) (pa_cons (C8.pe_mt0 c_all_ratings hr (by decide) (pv 0)) (pa_nil))) rfl)
  (pss_one (ps_fld (pv 0) (C8.pe_c c_first_rows hr (by decide) (by rfl) (pa_cons (pe_fld (pv 0) rfl) (pa_nil))) rfl))

/-- drop_ratings -/
def t_drop_ratings (c : Cs) (sp_ratings_of : Sp) : TS :=
  tSeq (tAsg (tCB (rLenS c.K) (tCons (tMeth c.M "ratings_of" sp_ratings_of [] C8.E0 (tVar 0) (tCons (tC (.int 0)) (tCons (tVar 1) (tNil)))) (tNil))) (gName 2))
  (tSeq (tAsg (tOp rRep (tLst (tCons (tC (.int 0)) (tNil))) (tCB (rLenS c.K) (tCons (tOp (rIxL c.K) (tFld c.K (tVar 0) "ratings") (tVar 1)) (tNil)))) (gSub (tFld c.K (tVar 0) "ratings") (tVar 1) rSetL))
  (tRet (tVar 2)))
theorem d_drop_ratings {P : Program} {w : World} {mg : Str → Option Value} {base : Heap} {c : Cs} {sp_ratings_of : Sp} {f : Addr} {cdv : Value} {A : Around} {outer : List Env} {s : Shared} {H : Hp} {E : XK} (T : Tx c mg) (c_ratings_of : C8.Met P w c.K mg base 1 c.M "ratings_of" sp_ratings_of [])
    (hr : Room 1 (A.deeper (envOfC "Model.drop_ratings" (C8.fnScope s_drop_ratings) s.heap.objs.size f cdv))) : PSs (cxOf C8.CX0 P w c.K mg base n_drop_ratings "Model.drop_ratings" (C8.fnScope s_drop_ratings) f cdv A outer s H E).nox (C8.fnBody s_drop_ratings) (t_drop_ratings c sp_ratings_of) :=
  pss_cons (ps_set (i := 2) sc_drop_ratings.nd rfl (.inl rfl) (pe_callB call_len_seq (by rfl) T.n_len bt_len (pa_cons (C8.pe_mt c_ratings_of hr (by decide) (pv 0) (pa_cons (C8.pe_gc (by rfl) T.g_USER) (pa_cons (pv 1) (pa_nil)))) (pa_nil))))
  (pss_cons (ps_asg (pe_op op_rep (pe_lst (pa_cons (C8.pe_gc (by rfl) T.g_NO_RATING) (pa_nil))) (pe_callB call_len_seq (by rfl) T.n_len bt_len (pa_cons (pe_ix ix_list (pe_fld (pv 0) rfl) (pv 1) (fun _ _ => rfl)) (pa_nil)))) (pg_sub (pe_fld (pv 0) rfl) (pv 1) set_list))
  (pss_one (ps_ret (pv 2))))

/-- twin -/
def t_twin (c : Cs) (sp_Model_init : Sp) : TS :=
  tSeq (tAsg (tMake c.M sp_Model_init [] C8.E0 (tCons (tFld c.K (tVar 0) "settings") (tNil))) (gName 1))
  (tSeq (sFld c.K (tVar 1) (tLc (iList c.K (tFld c.K (tVar 0) "ratings")) (gName 2) (tYes) (tCB (rListS c.K) (tCons (tVar 2) (tNil))) [2]) "ratings")
  (tSeq (sFld c.K (tVar 1) (tFld c.K (tVar 0) "base") "base")
  (tSeq (sFld c.K (tVar 1) (tTup (tCons (tLc (iList c.K (tOp (rIxT c.K) (tFld c.K (tVar 0) "rows") (tC (.int 0)))) (gName 2) (tYes) (tCB (rListS c.K) (tCons (tVar 2) (tNil))) [2]) (tCons (tLc (iList c.K (tOp (rIxT c.K) (tFld c.K (tVar 0) "rows") (tC (.int 1)))) (gName 2) (tYes) (tCB (rListS c.K) (tCons (tVar 2) (tNil))) [2]) (tNil)))) "rows")
  (tRet (tVar 1)))))
theorem d_twin {P : Program} {w : World} {mg : Str → Option Value} {base : Heap} {c : Cs} {sp_Model_init : Sp} {f : Addr} {cdv : Value} {A : Around} {outer : List Env} {s : Shared} {H : Hp} {E : XK} (T : Tx c mg) (c_Model_init : C8.Mak P w c.K mg base 4 "Model" c.M sp_Model_init [])
    (hr : Room 5 (A.deeper (envOfC "Model.twin" (C8.fnScope s_twin) s.heap.objs.size f cdv))) : PSs (cxOf C8.CX0 P w c.K mg base n_twin "Model.twin" (C8.fnScope s_twin) f cdv A outer s H E).nox (C8.fnBody s_twin) (t_twin c sp_Model_init) :=
  pss_cons (ps_set (i := 1) sc_twin.nd rfl (.inl rfl) (C8.pe_mk c_Model_init hr (by decide) (by rfl) (pa_cons (pe_fld (pv 0) rfl) (pa_nil))))
  (pss_cons (ps_fld (pv 1) (pe_lc (own := [("row", 2)]) rfl sc_twin.nd (pi_list (pe_fld (pv 0) rfl)) (blkOk_by (own := [("row", 2)]) (N := n_twin) (sc := C8.fnScope s_twin) (by decide +kernel)) (fun _ _ _ _ _ => pg_name (i := 2) sc_twin.nd rfl (Or.inl rfl)) (fun _ _ _ _ _ => pts_nil) (fun _ _ _ _ _ => pe_callTy call_list_of (by rfl) T.n_list bt_list (pa_cons (pv 2) (pa_nil)))) rfl)
  (pss_cons (ps_fld (pv 1) (pe_fld (pv 0) rfl) rfl)
  (pss_cons (ps_fld (pv 1) (pe_tup (pa_cons (pe_lc (own := [("row", 2)]) rfl sc_twin.nd (pi_list (pe_ix ix_tup (pe_fld (pv 0) rfl) (C8.pe_gc (by rfl) T.g_USER) (fun _ _ => rfl))) (blkOk_by (own := [("row", 2)]) (N := n_twin) (sc := C8.fnScope s_twin) (by decide +kernel)) (fun _ _ _ _ _ => pg_name (i := 2) sc_twin.nd rfl (Or.inl rfl)) (fun _ _ _ _ _ => pts_nil) (fun _ _ _ _ _ => pe_callTy call_list_of (by rfl) T.n_list bt_list (pa_cons (pv 2) (pa_nil)))) (pa_cons (pe_lc (own := [("row", 2)]) rfl sc_twin.nd (pi_list (pe_ix ix_tup (pe_fld (pv 0) rfl) (C8.pe_gc (by rfl) T.g_ITEM) (fun _ _ => rfl))) (blkOk_by (own := [("row", 2)]) (N := n_twin) (sc := C8.fnScope s_twin) (by decide +kernel)) (fun _ _ _ _ _ => pg_name (i := 2) sc_twin.nd rfl (Or.inl rfl)) (fun _ _ _ _ _ => pts_nil) (fun _ _ _ _ _ => pe_callTy call_list_of (by rfl) T.n_list bt_list (pa_cons (pv 2) (pa_nil)))) (pa_nil)))) rfl)
  (pss_one (ps_ret (pv 1))))))

/-- all_ratings -/
def t_all_ratings (c : Cs) (sp_ratings_of : Sp) : TS :=
  tSeq (tAsg (tLst (tNil)) (gName 2))
  (tSeq (tFor (iRng1 (tCons (tOp (rIxT c.K) (tFld c.K (tFld c.K (tVar 0) "settings") "row_counts") (tC (.int 0))) (tNil))) (gName 1) (tDrop (tBM c.K "list" rExtend (tVar 2) (tCons (tLc (iList c.K (tMeth c.M "ratings_of" sp_ratings_of [] C8.E0 (tVar 0) (tCons (tC (.int 0)) (tCons (tVar 1) (tNil))))) (gTup c.K 2 (gCons (gName 3) (gCons (gName 4) (gNil)))) (tYes) (tVar 4) [3, 4]) (tNil)))))
  (tRet (tVar 2)))
theorem d_all_ratings {P : Program} {w : World} {mg : Str → Option Value} {base : Heap} {c : Cs} {sp_ratings_of : Sp} {f : Addr} {cdv : Value} {A : Around} {outer : List Env} {s : Shared} {H : Hp} {E : XK} (T : Tx c mg) (c_ratings_of : C8.Met P w c.K mg base 1 c.M "ratings_of" sp_ratings_of [])
    (hr : Room 1 (A.deeper (envOfC "Model.all_ratings" (C8.fnScope s_all_ratings) s.heap.objs.size f cdv))) : PSs (cxOf C8.CX0 P w c.K mg base n_all_ratings "Model.all_ratings" (C8.fnScope s_all_ratings) f cdv A outer s H E).nox (C8.fnBody s_all_ratings) (t_all_ratings c sp_ratings_of) :=
  pss_cons (ps_set (i := 2) sc_all_ratings.nd rfl (.inl rfl) (pe_lst (pa_nil)))
  (pss_cons (ps_for PassesOwn.never rfl (pi_range1 (by rfl) T.n_range (pa_cons (pe_ix ix_tup (pe_fld (pe_fld (pv 0) rfl) rfl) (C8.pe_gc (by rfl) T.g_USER) (fun _ _ => rfl)) (pa_nil))) (pg_name (i := 1) sc_all_ratings.nd rfl (Or.inl rfl)) (pss_one (ps_expr (pe_bm PySem.F.plainAttrs_list PySem.F.slot_list_extend PySem.F.type_list_extend mt_extend (pv 2) (pa_cons (pe_lc (own := [("item", 3), ("value", 4)]) rfl sc_all_ratings.nd (pi_list (C8.pe_mt c_ratings_of hr (by decide) (pv 0) (pa_cons (C8.pe_gc (by rfl) T.g_USER) (pa_cons (pv 1) (pa_nil))))) (blkOk_by (own := [("item", 3), ("value", 4)]) (N := n_all_ratings) (sc := C8.fnScope s_all_ratings) (by decide +kernel)) (fun _ _ _ _ _ => pg_tup rfl (pgs_cons (pg_name (i := 3) sc_all_ratings.nd rfl (Or.inl rfl)) (pgs_cons (pg_name (i := 4) sc_all_ratings.nd rfl (Or.inl rfl)) (pgs_nil)))) (fun _ _ _ _ _ => pts_nil) (fun _ _ _ _ _ => pv 4)) (pa_nil))))))
  (pss_one (ps_ret (pv 2))))

/-- ratings_of -/
def t_ratings_of (c : Cs) : TS :=
  tSeq (tIfS (tTest (tOp rEq (tVar 1) (tC (.int 0)))) (tAsg (tOp (rIxL c.K) (tFld c.K (tVar 0) "ratings") (tVar 2)) (gName 3)) (tAsg (tLc (iList c.K (tFld c.K (tVar 0) "ratings")) (gName 6) (tYes) (tOp (rIxL c.K) (tVar 6) (tVar 2)) [6]) (gName 3)))
  (tRet (tLc (iEnum c.K (tCons (tVar 3) (tNil))) (gTup c.K 2 (gCons (gName 4) (gCons (gName 5) (gNil)))) (tTest (tOp rNe (tVar 5) (tC (.int 0)))) (tTup (tCons (tVar 4) (tCons (tVar 5) (tNil)))) [4, 5]))
theorem d_ratings_of {P : Program} {w : World} {mg : Str → Option Value} {base : Heap} {c : Cs} {f : Addr} {cdv : Value} {A : Around} {outer : List Env} {s : Shared} {H : Hp} {E : XK} (T : Tx c mg)
    (hr : Room 0 (A.deeper (envOfC "Model.ratings_of" (C8.fnScope s_ratings_of) s.heap.objs.size f cdv))) : PSs (cxOf C8.CX0 P w c.K mg base n_ratings_of "Model.ratings_of" (C8.fnScope s_ratings_of) f cdv A outer s H E).nox (C8.fnBody s_ratings_of) (t_ratings_of c) :=
  pss_cons (ps_if (pt_cmpR op_eq (pv 1) (C8.pe_gc (by rfl) T.g_USER) (nomark _)) (pss_one (ps_set (i := 3) sc_ratings_of.nd rfl (.inl rfl) (pe_ix ix_list (pe_fld (pv 0) rfl) (pv 2) (fun _ _ => rfl)))) (pss_one (ps_setLc (i := 3) (own := [("row", 6)]) rfl sc_ratings_of.nd rfl rfl (sw_true rfl rfl rfl (by decide +kernel)) (pi_list (pe_fld (pv 0) rfl)) (blkOk_by (own := [("row", 6)]) (N := n_ratings_of) (sc := C8.fnScope s_ratings_of) (by decide +kernel)) (fun _ _ _ _ _ => pg_name (i := 6) sc_ratings_of.nd rfl (Or.inl rfl)) (fun _ _ _ _ _ => pts_nil) (fun _ _ _ _ _ => pe_ix ix_list (pv 6) (pv 2) (fun _ _ => rfl)))))
  (pss_one (ps_ret (pe_lc (own := [("other", 4), ("value", 5)]) rfl sc_ratings_of.nd (pi_enum (by rfl) T.n_enumerate (pa_cons (pv 3) (pa_nil))) (blkOk_by (own := [("other", 4), ("value", 5)]) (N := n_ratings_of) (sc := C8.fnScope s_ratings_of) (by decide +kernel)) (fun _ _ _ _ _ => pg_tup rfl (pgs_cons (pg_name (i := 4) sc_ratings_of.nd rfl (Or.inl rfl)) (pgs_cons (pg_name (i := 5) sc_ratings_of.nd rfl (Or.inl rfl)) (pgs_nil)))) (fun _ _ _ _ _ => pts_one (pt_cmpR op_ne (pv 5) (C8.pe_gc (by rfl) T.g_NO_RATING) (nomark _))) (fun _ _ _ _ _ => pe_tup (pa_cons (pv 4) (pa_cons (pv 5) (pa_nil)))))))

/-- prediction_parts -/
def t_prediction_parts (c : Cs) : TS :=
  tSeq (tAsg (tOp (rIxL c.K) (tOp (rIxT c.K) (tFld c.K (tVar 0) "rows") (tC (.int 0))) (tVar 1)) (gName 6))
  (tSeq (tAsg (tOp (rIxL c.K) (tOp (rIxT c.K) (tFld c.K (tVar 0) "rows") (tC (.int 1))) (tVar 2)) (gName 3))
  (tSeq (tAsg (tLst (tCons (tFld c.K (tVar 0) "base") (tCons (tOp (rIxL c.K) (tVar 6) (tC (.int 0))) (tCons (tOp (rIxL c.K) (tVar 3) (tC (.int 0))) (tNil))))) (gName 4))
  (tSeq (tFor (iRng2 (tCons (tC (.int 1)) (tCons (tCB (rLenS c.K) (tCons (tVar 6) (tNil))) (tNil)))) (gName 5) (tDrop (tBM c.K "list" rAppend (tVar 4) (tCons (tOp rMul (tOp (rIxL c.K) (tVar 6) (tVar 5)) (tOp (rIxL c.K) (tVar 3) (tVar 5))) (tNil)))))
  (tRet (tVar 4)))))
theorem d_prediction_parts {P : Program} {w : World} {mg : Str → Option Value} {base : Heap} {c : Cs} {f : Addr} {cdv : Value} {A : Around} {outer : List Env} {s : Shared} {H : Hp} {E : XK} (T : Tx c mg)
    (hr : Room 0 (A.deeper (envOfC "Model.prediction_parts" (C8.fnScope s_prediction_parts) s.heap.objs.size f cdv))) : PSs (cxOf C8.CX0 P w c.K mg base n_prediction_parts "Model.prediction_parts" (C8.fnScope s_prediction_parts) f cdv A outer s H E).nox (C8.fnBody s_prediction_parts) (t_prediction_parts c) :=
  pss_cons (ps_set (i := 6) sc_prediction_parts.nd rfl (.inl rfl) (pe_ix ix_list (pe_ix ix_tup (pe_fld (pv 0) rfl) (C8.pe_gc (by rfl) T.g_USER) (fun _ _ => rfl)) (pv 1) (fun _ _ => rfl)))
  (pss_cons (ps_set (i := 3) sc_prediction_parts.nd rfl (.inl rfl) (pe_ix ix_list (pe_ix ix_tup (pe_fld (pv 0) rfl) (C8.pe_gc (by rfl) T.g_ITEM) (fun _ _ => rfl)) (pv 2) (fun _ _ => rfl)))
  (pss_cons (ps_set (i := 4) sc_prediction_parts.nd rfl (.inl rfl) (pe_lst (pa_cons (pe_fld (pv 0) rfl) (pa_cons (pe_ix ix_list (pv 6) (C8.pe_gc (by rfl) T.g_BIAS_PLACE) (fun _ _ => rfl)) (pa_cons (pe_ix ix_list (pv 3) (C8.pe_gc (by rfl) T.g_BIAS_PLACE) (fun _ _ => rfl)) (pa_nil))))))
  (pss_cons (ps_for PassesOwn.never rfl (pi_range2 (by rfl) T.n_range (pa_cons (pe_int) (pa_cons (pe_callB call_len_seq (by rfl) T.n_len bt_len (pa_cons (pv 6) (pa_nil))) (pa_nil)))) (pg_name (i := 5) sc_prediction_parts.nd rfl (Or.inl rfl)) (pss_one (ps_expr (pe_bm PySem.F.plainAttrs_list PySem.F.slot_list_append PySem.F.type_list_append mt_append (pv 4) (pa_cons (pe_op op_mul (pe_ix ix_list (pv 6) (pv 5) (fun _ _ => rfl)) (pe_ix ix_list (pv 3) (pv 5) (fun _ _ => rfl))) (pa_nil))))))
  (pss_one (ps_ret (pv 4))))))

/-- prediction -/
def t_prediction (c : Cs) (sp_prediction_parts : Sp) : TS :=
  tRet (tCB (rSum c.K) (tCons (tMeth c.M "prediction_parts" sp_prediction_parts [] C8.E0 (tVar 0) (tCons (tVar 1) (tCons (tVar 2) (tNil)))) (tNil)))
theorem d_prediction {P : Program} {w : World} {mg : Str → Option Value} {base : Heap} {c : Cs} {sp_prediction_parts : Sp} {f : Addr} {cdv : Value} {A : Around} {outer : List Env} {s : Shared} {H : Hp} {E : XK} (T : Tx c mg) (c_prediction_parts : C8.Met P w c.K mg base 1 c.M "prediction_parts" sp_prediction_parts [])
    (hr : Room 1 (A.deeper (envOfC "Model.prediction" (C8.fnScope s_prediction) s.heap.objs.size f cdv))) : PSs (cxOf C8.CX0 P w c.K mg base n_prediction "Model.prediction" (C8.fnScope s_prediction) f cdv A outer s H E).nox (C8.fnBody s_prediction) (t_prediction c sp_prediction_parts) :=
  pss_one (ps_ret (pe_callB (cr_sum rfl) (by rfl) T.n_sum bt_sum (pa_cons (C8.pe_mt c_prediction_parts hr (by decide) (pv 0) (pa_cons (pv 1) (pa_cons (pv 2) (pa_nil)))) (pa_nil))))

/-- residuals_of -/
def t_residuals_of (c : Cs) (sp_prediction : Sp) (sp_ratings_of : Sp) : TS :=
  tSeq (tAsg (tLst (tNil)) (gName 4))
  (tSeq (tFor (iList c.K (tMeth c.M "ratings_of" sp_ratings_of [] C8.E0 (tVar 0) (tCons (tVar 1) (tCons (tVar 2) (tNil))))) (gTup c.K 2 (gCons (gName 3) (gCons (gName 6) (gNil)))) (tSeq (tIfS (tTest (tOp rEq (tVar 1) (tC (.int 0)))) (tAsg (tMeth c.M "prediction" sp_prediction [] C8.E0 (tVar 0) (tCons (tVar 2) (tCons (tVar 3) (tNil)))) (gName 5)) (tAsg (tMeth c.M "prediction" sp_prediction [] C8.E0 (tVar 0) (tCons (tVar 3) (tCons (tVar 2) (tNil)))) (gName 5)))
  (tDrop (tBM c.K "list" rAppend (tVar 4) (tCons (tTup (tCons (tVar 3) (tCons (tOp rSub2 (tOp rMul (tC (.int 65536)) (tVar 6)) (tVar 5)) (tNil)))) (tNil))))))
  (tRet (tVar 4)))
theorem d_residuals_of {P : Program} {w : World} {mg : Str → Option Value} {base : Heap} {c : Cs} {sp_prediction : Sp} {sp_ratings_of : Sp} {f : Addr} {cdv : Value} {A : Around} {outer : List Env} {s : Shared} {H : Hp} {E : XK} (T : Tx c mg) (c_prediction : C8.Met P w c.K mg base 2 c.M "prediction" sp_prediction []) (c_ratings_of : C8.Met P w c.K mg base 1 c.M "ratings_of" sp_ratings_of [])
    (hr : Room 2 (A.deeper (envOfC "Model.residuals_of" (C8.fnScope s_residuals_of) s.heap.objs.size f cdv))) : PSs (cxOf C8.CX0 P w c.K mg base n_residuals_of "Model.residuals_of" (C8.fnScope s_residuals_of) f cdv A outer s H E).nox (C8.fnBody s_residuals_of) (t_residuals_of c sp_prediction sp_ratings_of) :=
  pss_cons (ps_set (i := 4) sc_residuals_of.nd rfl (.inl rfl) (pe_lst (pa_nil)))
  (pss_cons (ps_for PassesOwn.never rfl (pi_list (C8.pe_mt c_ratings_of hr (by decide) (pv 0) (pa_cons (pv 1) (pa_cons (pv 2) (pa_nil))))) (pg_tup rfl (pgs_cons (pg_name (i := 3) sc_residuals_of.nd rfl (Or.inl rfl)) (pgs_cons (pg_name (i := 6) sc_residuals_of.nd rfl (Or.inl rfl)) (pgs_nil)))) (pss_cons (ps_if (pt_cmpR op_eq (pv 1) (C8.pe_gc (by rfl) T.g_USER) (nomark _)) (pss_one (ps_set (i := 5) sc_residuals_of.nd rfl (.inl rfl) (C8.pe_mt c_prediction hr (by decide) (pv 0) (pa_cons (pv 2) (pa_cons (pv 3) (pa_nil)))))) (pss_one (ps_set (i := 5) sc_residuals_of.nd rfl (.inl rfl) (C8.pe_mt c_prediction hr (by decide) (pv 0) (pa_cons (pv 3) (pa_cons (pv 2) (pa_nil)))))))
  (pss_one (ps_expr (pe_bm PySem.F.plainAttrs_list PySem.F.slot_list_append PySem.F.type_list_append mt_append (pv 4) (pa_cons (pe_tup (pa_cons (pv 3) (pa_cons (pe_op op_sub (pe_op op_mul (C8.pe_gc (by rfl) T.g_UNIT) (pv 6)) (pv 5)) (pa_nil)))) (pa_nil)))))))
  (pss_one (ps_ret (pv 4))))

/-- factor_product -/
def t_factor_product (c : Cs) : TS :=
  tRet (tCB (rSum c.K) (tCons (tLc (iRng2 (tCons (tC (.int 1)) (tCons (tCB (rLenS c.K) (tCons (tVar 0) (tNil))) (tNil)))) (gName 2) (tYes) (tOp rMul (tOp (rIxL c.K) (tVar 0) (tVar 2)) (tOp (rIxL c.K) (tVar 1) (tVar 2))) [2]) (tNil)))
theorem d_factor_product {P : Program} {w : World} {mg : Str → Option Value} {base : Heap} {c : Cs} {f : Addr} {cdv : Value} {A : Around} {outer : List Env} {s : Shared} {H : Hp} {E : XK} (T : Tx c mg)
    (hr : Room 0 (A.deeper (envOfC "factor_product" (C8.fnScope s_factor_product) s.heap.objs.size f cdv))) : PSs (cxOf C8.CX0 P w c.K mg base n_factor_product "factor_product" (C8.fnScope s_factor_product) f cdv A outer s H E).nox (C8.fnBody s_factor_product) (t_factor_product c) :=
  pss_one (ps_ret (pe_callB (cr_sum rfl) (by rfl) T.n_sum bt_sum (pa_cons (pe_lc (own := [("place", 2)]) rfl sc_factor_product.nd (pi_range2 (by rfl) T.n_range (pa_cons (pe_int) (pa_cons (pe_callB call_len_seq (by rfl) T.n_len bt_len (pa_cons (pv 0) (pa_nil))) (pa_nil)))) (blkOk_by (own := [("place", 2)]) (N := n_factor_product) (sc := C8.fnScope s_factor_product) (by decide +kernel)) (fun _ _ _ _ _ => pg_name (i := 2) sc_factor_product.nd rfl (Or.inl rfl)) (fun _ _ _ _ _ => pts_nil) (fun _ _ _ _ _ => pe_op op_mul (pe_ix ix_list (pv 0) (pv 2) (fun _ _ => rfl)) (pe_ix ix_list (pv 1) (pv 2) (fun _ _ => rfl)))) (pa_nil))))

/-- error_part -/
def t_error_part (c : Cs) (sp_residuals_of : Sp) : TS :=
  tSeq (tAsg (tC (.int 0)) (gName 3))
  (tSeq (tFor (iRng1 (tCons (tOp (rIxT c.K) (tFld c.K (tFld c.K (tVar 0) "settings") "row_counts") (tC (.int 0))) (tNil))) (gName 4) (tFor (iList c.K (tMeth c.M "residuals_of" sp_residuals_of [] C8.E0 (tVar 0) (tCons (tC (.int 0)) (tCons (tVar 4) (tNil))))) (gTup c.K 2 (gCons (gName 1) (gCons (gName 2) (gNil)))) (tAug 3 (tOp rMul (tVar 2) (tVar 2)) (ipI fun i j => i + j))))
  (tRet (tVar 3)))
theorem d_error_part {P : Program} {w : World} {mg : Str → Option Value} {base : Heap} {c : Cs} {sp_residuals_of : Sp} {f : Addr} {cdv : Value} {A : Around} {outer : List Env} {s : Shared} {H : Hp} {E : XK} (T : Tx c mg) (c_residuals_of : C8.Met P w c.K mg base 3 c.M "residuals_of" sp_residuals_of [])
    (hr : Room 3 (A.deeper (envOfC "error_part" (C8.fnScope s_error_part) s.heap.objs.size f cdv))) : PSs (cxOf C8.CX0 P w c.K mg base n_error_part "error_part" (C8.fnScope s_error_part) f cdv A outer s H E).nox (C8.fnBody s_error_part) (t_error_part c sp_residuals_of) :=
  pss_cons (ps_set (i := 3) sc_error_part.nd rfl (.inl rfl) (pe_int))
  (pss_cons (ps_for PassesOwn.never rfl (pi_range1 (by rfl) T.n_range (pa_cons (pe_ix ix_tup (pe_fld (pe_fld (pv 0) rfl) rfl) (C8.pe_gc (by rfl) T.g_USER) (fun _ _ => rfl)) (pa_nil))) (pg_name (i := 4) sc_error_part.nd rfl (Or.inl rfl)) (pss_one (ps_for PassesOwn.never rfl (pi_list (C8.pe_mt c_residuals_of hr (by decide) (pv 0) (pa_cons (C8.pe_gc (by rfl) T.g_USER) (pa_cons (pv 4) (pa_nil))))) (pg_tup rfl (pgs_cons (pg_name (i := 1) sc_error_part.nd rfl (Or.inl rfl)) (pgs_cons (pg_name (i := 2) sc_error_part.nd rfl (Or.inl rfl)) (pgs_nil)))) (pss_one (ps_aug (i := 3) sc_error_part.nd rfl (.inl rfl) (pe_op op_mul (pv 2) (pv 2)) ip_add)))))
  (pss_one (ps_ret (pv 3))))

/-- penalty_part -/
def t_penalty_part (c : Cs) (sp_penalty : Sp) : TS :=
  tSeq (tAsg (tC (.int 0)) (gName 4))
  (tSeq (tFor (iList c.K (tFld c.K (tFld c.K (tVar 0) "settings") "parameters")) (gTup c.K 3 (gCons (gName 1) (gCons (gName 2) (gCons (gName 3) (gNil))))) (tSeq (tAsg (tOp (rIxL c.K) (tOp (rIxL c.K) (tOp (rIxT c.K) (tFld c.K (tVar 0) "rows") (tVar 1)) (tVar 2)) (tVar 3)) (gName 5))
  (tAug 4 (tOp rMul (tOp rMul (tMeth c.S "penalty" sp_penalty [] C8.E0 (tFld c.K (tVar 0) "settings") (tCons (tVar 3) (tNil))) (tVar 5)) (tVar 5)) (ipI fun i j => i + j))))
  (tRet (tVar 4)))
theorem d_penalty_part {P : Program} {w : World} {mg : Str → Option Value} {base : Heap} {c : Cs} {sp_penalty : Sp} {f : Addr} {cdv : Value} {A : Around} {outer : List Env} {s : Shared} {H : Hp} {E : XK} (T : Tx c mg) (c_penalty : C8.Met P w c.K mg base 1 c.S "penalty" sp_penalty [])
    (hr : Room 1 (A.deeper (envOfC "penalty_part" (C8.fnScope s_penalty_part) s.heap.objs.size f cdv))) : PSs (cxOf C8.CX0 P w c.K mg base n_penalty_part "penalty_part" (C8.fnScope s_penalty_part) f cdv A outer s H E).nox (C8.fnBody s_penalty_part) (t_penalty_part c sp_penalty) :=
  pss_cons (ps_set (i := 4) sc_penalty_part.nd rfl (.inl rfl) (pe_int))
  (pss_cons (ps_for PassesOwn.never rfl (pi_list (pe_fld (pe_fld (pv 0) rfl) rfl)) (pg_tup rfl (pgs_cons (pg_name (i := 1) sc_penalty_part.nd rfl (Or.inl rfl)) (pgs_cons (pg_name (i := 2) sc_penalty_part.nd rfl (Or.inl rfl)) (pgs_cons (pg_name (i := 3) sc_penalty_part.nd rfl (Or.inl rfl)) (pgs_nil))))) (pss_cons (ps_set (i := 5) sc_penalty_part.nd rfl (.inl rfl) (pe_ix ix_list (pe_ix ix_list (pe_ix ix_tup (pe_fld (pv 0) rfl) (pv 1) (fun _ _ => rfl)) (pv 2) (fun _ _ => rfl)) (pv 3) (fun _ _ => rfl)))
  (pss_one (ps_aug (i := 4) sc_penalty_part.nd rfl (.inl rfl) (pe_op op_mul (pe_op op_mul (C8.pe_mt c_penalty hr (by decide) (pe_fld (pv 0) rfl) (pa_cons (pv 3) (pa_nil))) (pv 5)) (pv 5)) ip_add))))
  (pss_one (ps_ret (pv 4))))

/-- whole_objective -/
def t_whole_objective (c : Cs) (sp_error_part : Sp) (sp_penalty_part : Sp) : TS :=
  tRet (tOp rAdd2 (tCall sp_error_part [] C8.E0 (tCons (tVar 0) (tNil))) (tCall sp_penalty_part [] C8.E0 (tCons (tVar 0) (tNil))))
theorem d_whole_objective {P : Program} {w : World} {mg : Str → Option Value} {base : Heap} {c : Cs} {sp_error_part : Sp} {sp_penalty_part : Sp} {f : Addr} {cdv : Value} {A : Around} {outer : List Env} {s : Shared} {H : Hp} {E : XK} (T : Tx c mg) (c_error_part : C8.Cal P w c.K mg base 4 "error_part" sp_error_part []) (c_penalty_part : C8.Cal P w c.K mg base 2 "penalty_part" sp_penalty_part [])
    (hr : Room 4 (A.deeper (envOfC "whole_objective" (C8.fnScope s_whole_objective) s.heap.objs.size f cdv))) : PSs (cxOf C8.CX0 P w c.K mg base n_whole_objective "whole_objective" (C8.fnScope s_whole_objective) f cdv A outer s H E).nox (C8.fnBody s_whole_objective) (t_whole_objective c sp_error_part sp_penalty_part) :=
  pss_one (ps_ret (pe_op op_add (C8.pe_c c_error_part hr (by decide) (by rfl) (pa_cons (pv 0) (pa_nil))) (C8.pe_c c_penalty_part hr (by decide) (by rfl) (pa_cons (pv 0) (pa_nil)))))

/-- lowest_terms -/
def t_lowest_terms (c : Cs) : TS :=
  tSeq (tAsg (tVar 0) (gName 2))
  (tSeq (tAsg (tVar 1) (gName 4))
  (tSeq (tWhile (tTest (tOp rNe (tVar 4) (tC (.int 0)))) (tSeq (tAsg (tOp rMod (tVar 2) (tVar 4)) (gName 3))
  (tSeq (tAsg (tVar 4) (gName 2))
  (tAsg (tVar 3) (gName 4)))))
  (tRet (tLst (tCons (tOp rDivW (tVar 0) (tVar 2)) (tCons (tOp rDivW (tVar 1) (tVar 2)) (tNil)))))))
theorem d_lowest_terms {P : Program} {w : World} {mg : Str → Option Value} {base : Heap} {c : Cs} {f : Addr} {cdv : Value} {A : Around} {outer : List Env} {s : Shared} {H : Hp} {E : XK} (T : Tx c mg)
    (hr : Room 0 (A.deeper (envOfC "lowest_terms" (C8.fnScope s_lowest_terms) s.heap.objs.size f cdv))) : PSs (cxOf C8.CX0 P w c.K mg base n_lowest_terms "lowest_terms" (C8.fnScope s_lowest_terms) f cdv A outer s H E).nox (C8.fnBody s_lowest_terms) (t_lowest_terms c) :=
  pss_cons (ps_set (i := 2) sc_lowest_terms.nd rfl (.inl rfl) (pv 0))
  (pss_cons (ps_set (i := 4) sc_lowest_terms.nd rfl (.inl rfl) (pv 1))
  (pss_cons (ps_while PassesOwn.never (pt_cmpR op_ne (pv 4) (pe_int) (nomark _)) (pss_cons (ps_set (i := 3) sc_lowest_terms.nd rfl (.inl rfl) (pe_op op_mod (pv 2) (pv 4)))
  (pss_cons (ps_set (i := 2) sc_lowest_terms.nd rfl (.inl rfl) (pv 4))
  (pss_one (ps_set (i := 4) sc_lowest_terms.nd rfl (.inl rfl) (pv 3))))))
  (pss_one (ps_ret (pe_lst (pa_cons (pe_op op_fdivW (pv 0) (pv 2)) (pa_cons (pe_op op_fdivW (pv 1) (pv 2)) (pa_nil))))))))

/-- mean_error -/
def t_mean_error (c : Cs) (sp_all_ratings : Sp) (sp_error_part : Sp) (sp_lowest_terms : Sp) : TS :=
  tRet (tCall sp_lowest_terms [] C8.E0 (tCons (tCall sp_error_part [] C8.E0 (tCons (tVar 0) (tNil))) (tCons (tOp rMul (tOp rMul (tCB (rLenS c.K) (tCons (tMeth c.M "all_ratings" sp_all_ratings [] C8.E0 (tVar 0) tNil) (tNil))) (tC (.int 65536))) (tC (.int 65536))) (tNil))))
theorem d_mean_error {P : Program} {w : World} {mg : Str → Option Value} {base : Heap} {c : Cs} {sp_all_ratings : Sp} {sp_error_part : Sp} {sp_lowest_terms : Sp} {f : Addr} {cdv : Value} {A : Around} {outer : List Env} {s : Shared} {H : Hp} {E : XK} (T : Tx c mg) (c_all_ratings : C8.Met P w c.K mg base 2 c.M "all_ratings" sp_all_ratings []) (c_error_part : C8.Cal P w c.K mg base 4 "error_part" sp_error_part []) (c_lowest_terms : C8.Cal P w c.K mg base 1 "lowest_terms" sp_lowest_terms [])
    (hr : Room 4 (A.deeper (envOfC "mean_error" (C8.fnScope s_mean_error) s.heap.objs.size f cdv))) : PSs (cxOf C8.CX0 P w c.K mg base n_mean_error "mean_error" (C8.fnScope s_mean_error) f cdv A outer s H E).nox (C8.fnBody s_mean_error) (t_mean_error c sp_all_ratings sp_error_part sp_lowest_terms) :=
  pss_one (ps_ret (C8.pe_c c_lowest_terms hr (by decide) (by rfl) (pa_cons (C8.pe_c c_error_part hr (by decide) (by rfl) (pa_cons (pv 0) (pa_nil))) (pa_cons (pe_op op_mul (pe_op op_mul (pe_callB call_len_seq (by rfl) T.n_len bt_len (pa_cons (C8.pe_mt0 c_all_ratings hr (by decide) (pv 0)) (pa_nil))) (C8.pe_gc (by rfl) T.g_UNIT)) (C8.pe_gc (by rfl) T.g_UNIT)) (pa_nil)))))

end Lk
set_option Elab.async false
set_option maxRecDepth 100000
set_option maxHeartbeats 5000000
set_option linter.all false
namespace Lk
open PySem PySem.Spec PyProof.Rows L2 Evl
/-- Quadratic_init -/
def t_Quadratic_init (c : Cs) : TS :=
  tSeq (sFld c.K (tVar 0) (tVar 1) "curvature")
  (sFld c.K (tVar 0) (tVar 2) "slope")
theorem d_Quadratic_init {P : Program} {w : World} {mg : Str → Option Value} {base : Heap} {c : Cs} {f : Addr} {cdv : Value} {A : Around} {outer : List Env} {s : Shared} {H : Hp} {E : XK} (T : Tx c mg)
    (hr : Room 0 (A.deeper (envOfC "Quadratic.__init__" (C8.fnScope s_Quadratic_init) s.heap.objs.size f cdv))) : PSs (cxOf C8.CX0 P w c.K mg base n_Quadratic_init "Quadratic.__init__" (C8.fnScope s_Quadratic_init) f cdv A outer s H E).nox (C8.fnBody s_Quadratic_init) (t_Quadratic_init c) :=
  pss_cons (ps_fld (pv 0) (pv 1) rfl)
  (pss_one (ps_fld (pv 0) (pv 2) rfl))

/-- height -/
def t_height (c : Cs) : TS :=
  tRet (tOp rSub2 (tOp rMul (tOp rMul (tFld c.K (tVar 0) "curvature") (tVar 1)) (tVar 1)) (tOp rMul (tOp rMul (tC (.int 2)) (tFld c.K (tVar 0) "slope")) (tVar 1)))
theorem d_height {P : Program} {w : World} {mg : Str → Option Value} {base : Heap} {c : Cs} {f : Addr} {cdv : Value} {A : Around} {outer : List Env} {s : Shared} {H : Hp} {E : XK} (T : Tx c mg)
    (hr : Room 0 (A.deeper (envOfC "Quadratic.height" (C8.fnScope s_height) s.heap.objs.size f cdv))) : PSs (cxOf C8.CX0 P w c.K mg base n_height "Quadratic.height" (C8.fnScope s_height) f cdv A outer s H E).nox (C8.fnBody s_height) (t_height c) :=
  pss_one (ps_ret (pe_op op_sub (pe_op op_mul (pe_op op_mul (pe_fld (pv 0) rfl) (pv 1)) (pv 1)) (pe_op op_mul (pe_op op_mul (pe_int) (pe_fld (pv 0) rfl)) (pv 1))))

/-- nearest -/
def t_nearest (c : Cs) : TS :=
  tRet (tOp rDivW (tOp rAdd2 (tOp rMul (tC (.int 2)) (tFld c.K (tVar 0) "slope")) (tFld c.K (tVar 0) "curvature")) (tOp rMul (tC (.int 2)) (tFld c.K (tVar 0) "curvature")))
theorem d_nearest {P : Program} {w : World} {mg : Str → Option Value} {base : Heap} {c : Cs} {f : Addr} {cdv : Value} {A : Around} {outer : List Env} {s : Shared} {H : Hp} {E : XK} (T : Tx c mg)
    (hr : Room 0 (A.deeper (envOfC "Quadratic.nearest" (C8.fnScope s_nearest) s.heap.objs.size f cdv))) : PSs (cxOf C8.CX0 P w c.K mg base n_nearest "Quadratic.nearest" (C8.fnScope s_nearest) f cdv A outer s H E).nox (C8.fnBody s_nearest) (t_nearest c) :=
  pss_one (ps_ret (pe_op op_fdivW (pe_op op_add (pe_op op_mul (pe_int) (pe_fld (pv 0) rfl)) (pe_fld (pv 0) rfl)) (pe_op op_mul (pe_int) (pe_fld (pv 0) rfl))))

/-- quadratic_of -/
def t_quadratic_of (c : Cs) (sp_Quadratic_init : Sp) (sp_penalty : Sp) (sp_residuals_of : Sp) : TS :=
  tSeq (tAsg (tOp (rIxL c.K) (tOp (rIxL c.K) (tOp (rIxT c.K) (tFld c.K (tVar 0) "rows") (tVar 1)) (tVar 2)) (tVar 3)) (gName 7))
  (tSeq (tAsg (tOp (rIxT c.K) (tFld c.K (tVar 0) "rows") (tOp rSub2 (tC (.int 1)) (tVar 1))) (gName 6))
  (tSeq (tAsg (tMeth c.S "penalty" sp_penalty [] C8.E0 (tFld c.K (tVar 0) "settings") (tCons (tVar 3) (tNil))) (gName 4))
  (tSeq (tAsg (tC (.int 0)) (gName 9))
  (tSeq (tFor (iList c.K (tMeth c.M "residuals_of" sp_residuals_of [] C8.E0 (tVar 0) (tCons (tVar 1) (tCons (tVar 2) (tNil))))) (gTup c.K 2 (gCons (gName 5) (gCons (gName 8) (gNil)))) (tSeq (tAsg (tIf (tTest (tOp rEq (tVar 3) (tC (.int 0)))) (tC (.int 1)) (tOp (rIxL c.K) (tOp (rIxL c.K) (tVar 6) (tVar 5)) (tVar 3))) (gName 10))
  (tSeq (tAug 4 (tOp rMul (tVar 10) (tVar 10)) (ipI fun i j => i + j))
  (tAug 9 (tOp rMul (tVar 10) (tOp rAdd2 (tVar 8) (tOp rMul (tVar 10) (tVar 7)))) (ipI fun i j => i + j)))))
  (tRet (tMake c.Q sp_Quadratic_init [] C8.E0 (tCons (tVar 4) (tCons (tVar 9) (tNil)))))))))
theorem d_quadratic_of {P : Program} {w : World} {mg : Str → Option Value} {base : Heap} {c : Cs} {sp_Quadratic_init : Sp} {sp_penalty : Sp} {sp_residuals_of : Sp} {f : Addr} {cdv : Value} {A : Around} {outer : List Env} {s : Shared} {H : Hp} {E : XK} (T : Tx c mg) (c_Quadratic_init : C8.Mak P w c.K mg base 1 "Quadratic" c.Q sp_Quadratic_init []) (c_penalty : C8.Met P w c.K mg base 1 c.S "penalty" sp_penalty []) (c_residuals_of : C8.Met P w c.K mg base 3 c.M "residuals_of" sp_residuals_of [])
    (hr : Room 3 (A.deeper (envOfC "quadratic_of" (C8.fnScope s_quadratic_of) s.heap.objs.size f cdv))) : PSs (cxOf C8.CX0 P w c.K mg base n_quadratic_of "quadratic_of" (C8.fnScope s_quadratic_of) f cdv A outer s H E).nox (C8.fnBody s_quadratic_of) (t_quadratic_of c sp_Quadratic_init sp_penalty sp_residuals_of) :=
  pss_cons (ps_set (i := 7) sc_quadratic_of.nd rfl (.inl rfl) (pe_ix ix_list (pe_ix ix_list (pe_ix ix_tup (pe_fld (pv 0) rfl) (pv 1) (fun _ _ => rfl)) (pv 2) (fun _ _ => rfl)) (pv 3) (fun _ _ => rfl)))
  (pss_cons (ps_set (i := 6) sc_quadratic_of.nd rfl (.inl rfl) (pe_ix ix_tup (pe_fld (pv 0) rfl) (pe_op op_sub (pe_int) (pv 1)) (fun _ _ => rfl)))
  (pss_cons (ps_set (i := 4) sc_quadratic_of.nd rfl (.inl rfl) (C8.pe_mt c_penalty hr (by decide) (pe_fld (pv 0) rfl) (pa_cons (pv 3) (pa_nil))))
  (pss_cons (ps_set (i := 9) sc_quadratic_of.nd rfl (.inl rfl) (pe_int))
  (pss_cons (ps_for PassesOwn.never rfl (pi_list (C8.pe_mt c_residuals_of hr (by decide) (pv 0) (pa_cons (pv 1) (pa_cons (pv 2) (pa_nil))))) (pg_tup rfl (pgs_cons (pg_name (i := 5) sc_quadratic_of.nd rfl (Or.inl rfl)) (pgs_cons (pg_name (i := 8) sc_quadratic_of.nd rfl (Or.inl rfl)) (pgs_nil)))) (pss_cons (ps_set (i := 10) sc_quadratic_of.nd rfl (.inl rfl) (pe_ifExp (pt_cmpR op_eq (pv 3) (C8.pe_gc (by rfl) T.g_BIAS_PLACE) (nomark _)) (pe_int) (pe_ix ix_list (pe_ix ix_list (pv 6) (pv 5) (fun _ _ => rfl)) (pv 3) (fun _ _ => rfl))))
  (pss_cons (ps_aug (i := 4) sc_quadratic_of.nd rfl (.inl rfl) (pe_op op_mul (pv 10) (pv 10)) ip_add)
  (pss_one (ps_aug (i := 9) sc_quadratic_of.nd rfl (.inl rfl) (pe_op op_mul (pv 10) (pe_op op_add (pv 8) (pe_op op_mul (pv 10) (pv 7)))) ip_add)))))
  (pss_one (ps_ret (C8.pe_mk c_Quadratic_init hr (by decide) (by rfl) (pa_cons (pv 4) (pa_cons (pv 9) (pa_nil))))))))))

/-- stepped_value -/
def t_stepped_value (c : Cs) (sp_height : Sp) (sp_highest : Sp) (sp_lowest : Sp) (sp_nearest : Sp) (sp_quadratic_of : Sp) : TS :=
  tSeq (tAsg (tOp (rIxL c.K) (tOp (rIxL c.K) (tOp (rIxT c.K) (tFld c.K (tVar 0) "rows") (tVar 1)) (tVar 2)) (tVar 3)) (gName 6))
  (tSeq (tAsg (tCall sp_quadratic_of [] C8.E0 (tCons (tVar 0) (tCons (tVar 1) (tCons (tVar 2) (tCons (tVar 3) (tNil)))))) (gName 5))
  (tSeq (tIfS (tTest (tOp rEq (tFld c.K (tVar 5) "curvature") (tC (.int 0)))) (tRet (tVar 6)) (tNext))
  (tSeq (tAsg (tFld c.K (tVar 0) "settings") (gName 7))
  (tSeq (tAsg (tCB (rMax2) (tCons (tMeth c.S "lowest" sp_lowest [] C8.E0 (tVar 7) (tCons (tVar 3) (tNil))) (tCons (tCB (rMin2) (tCons (tMeth c.S "highest" sp_highest [] C8.E0 (tVar 7) (tCons (tVar 3) (tNil))) (tCons (tMeth c.Q "nearest" sp_nearest [] C8.E0 (tVar 5) tNil) (tNil)))) (tNil)))) (gName 4))
  (tSeq (tIfS (tTest (tOp rLt (tMeth c.Q "height" sp_height [] C8.E0 (tVar 5) (tCons (tVar 4) (tNil))) (tMeth c.Q "height" sp_height [] C8.E0 (tVar 5) (tCons (tVar 6) (tNil))))) (tRet (tVar 4)) (tNext))
  (tRet (tVar 6)))))))
theorem d_stepped_value {P : Program} {w : World} {mg : Str → Option Value} {base : Heap} {c : Cs} {sp_height : Sp} {sp_highest : Sp} {sp_lowest : Sp} {sp_nearest : Sp} {sp_quadratic_of : Sp} {f : Addr} {cdv : Value} {A : Around} {outer : List Env} {s : Shared} {H : Hp} {E : XK} (T : Tx c mg) (c_height : C8.Met P w c.K mg base 1 c.Q "height" sp_height []) (c_highest : C8.Met P w c.K mg base 1 c.S "highest" sp_highest []) (c_lowest : C8.Met P w c.K mg base 1 c.S "lowest" sp_lowest []) (c_nearest : C8.Met P w c.K mg base 1 c.Q "nearest" sp_nearest []) (c_quadratic_of : C8.Cal P w c.K mg base 4 "quadratic_of" sp_quadratic_of [])
    (hr : Room 4 (A.deeper (envOfC "stepped_value" (C8.fnScope s_stepped_value) s.heap.objs.size f cdv))) : PSs (cxOf C8.CX0 P w c.K mg base n_stepped_value "stepped_value" (C8.fnScope s_stepped_value) f cdv A outer s H E).nox (C8.fnBody s_stepped_value) (t_stepped_value c sp_height sp_highest sp_lowest sp_nearest sp_quadratic_of) :=
  pss_cons (ps_set (i := 6) sc_stepped_value.nd rfl (.inl rfl) (pe_ix ix_list (pe_ix ix_list (pe_ix ix_tup (pe_fld (pv 0) rfl) (pv 1) (fun _ _ => rfl)) (pv 2) (fun _ _ => rfl)) (pv 3) (fun _ _ => rfl)))
  (pss_cons (ps_set (i := 5) sc_stepped_value.nd rfl (.inl rfl) (C8.pe_c c_quadratic_of hr (by decide) (by rfl) (pa_cons (pv 0) (pa_cons (pv 1) (pa_cons (pv 2) (pa_cons (pv 3) (pa_nil)))))))
  (pss_cons (ps_if (pt_cmpR op_eq (pe_fld (pv 5) rfl) (pe_int) (nomark _)) (pss_one (ps_ret (pv 6))) (pss_nil))
  (pss_cons (ps_set (i := 7) sc_stepped_value.nd rfl (.inl rfl) (pe_fld (pv 0) rfl))
  (pss_cons (ps_set (i := 4) sc_stepped_value.nd rfl (.inl rfl) (pe_callB (call_max2 rfl) (by rfl) T.n_max bt_max (pa_cons (C8.pe_mt c_lowest hr (by decide) (pv 7) (pa_cons (pv 3) (pa_nil))) (pa_cons (pe_callB (call_min2 rfl) (by rfl) T.n_min bt_min (pa_cons (C8.pe_mt c_highest hr (by decide) (pv 7) (pa_cons (pv 3) (pa_nil))) (pa_cons (C8.pe_mt0 c_nearest hr (by decide) (pv 5)) (pa_nil)))) (pa_nil)))))
  (pss_cons (ps_if (pt_cmpR op_lt (C8.pe_mt c_height hr (by decide) (pv 5) (pa_cons (pv 4) (pa_nil))) (C8.pe_mt c_height hr (by decide) (pv 5) (pa_cons (pv 6) (pa_nil))) (nomark _)) (pss_one (ps_ret (pv 4))) (pss_nil))
  (pss_one (ps_ret (pv 6))))))))

/-- step -/
def t_step (c : Cs) (sp_stepped_value : Sp) : TS :=
  tSeq (tAsg (tOp (rIxL c.K) (tOp (rIxT c.K) (tFld c.K (tVar 0) "rows") (tVar 1)) (tVar 2)) (gName 4))
  (tSeq (tAsg (tCall sp_stepped_value [] C8.E0 (tCons (tVar 0) (tCons (tVar 1) (tCons (tVar 2) (tCons (tVar 3) (tNil)))))) (gName 5))
  (tSeq (tIfS (tTest (tOp rEq (tVar 5) (tOp (rIxL c.K) (tVar 4) (tVar 3)))) (tRet (tC (.int 0))) (tNext))
  (tSeq (tAsg (tVar 5) (gSub (tVar 4) (tVar 3) rSetL))
  (tRet (tC (.int 1))))))
theorem d_step {P : Program} {w : World} {mg : Str → Option Value} {base : Heap} {c : Cs} {sp_stepped_value : Sp} {f : Addr} {cdv : Value} {A : Around} {outer : List Env} {s : Shared} {H : Hp} {E : XK} (T : Tx c mg) (c_stepped_value : C8.Cal P w c.K mg base 5 "stepped_value" sp_stepped_value [])
    (hr : Room 5 (A.deeper (envOfC "step" (C8.fnScope s_step) s.heap.objs.size f cdv))) : PSs (cxOf C8.CX0 P w c.K mg base n_step "step" (C8.fnScope s_step) f cdv A outer s H E).nox (C8.fnBody s_step) (t_step c sp_stepped_value) :=
  pss_cons (ps_set (i := 4) sc_step.nd rfl (.inl rfl) (pe_ix ix_list (pe_ix ix_tup (pe_fld (pv 0) rfl) (pv 1) (fun _ _ => rfl)) (pv 2) (fun _ _ => rfl)))
  (pss_cons (ps_set (i := 5) sc_step.nd rfl (.inl rfl) (C8.pe_c c_stepped_value hr (by decide) (by rfl) (pa_cons (pv 0) (pa_cons (pv 1) (pa_cons (pv 2) (pa_cons (pv 3) (pa_nil)))))))
  (pss_cons (ps_if (pt_cmpR op_eq (pv 5) (pe_ix ix_list (pv 4) (pv 3) (fun _ _ => rfl)) (nomark _)) (pss_one (ps_ret (pe_int))) (pss_nil))
  (pss_cons (ps_asg (pv 5) (pg_sub (pv 4) (pv 3) set_list))
  (pss_one (ps_ret (pe_int))))))

/-- sweep -/
def t_sweep (c : Cs) (sp_step : Sp) : TS :=
  tSeq (tAsg (tC (.int 0)) (gName 1))
  (tSeq (tFor (iList c.K (tFld c.K (tFld c.K (tVar 0) "settings") "parameters")) (gTup c.K 3 (gCons (gName 2) (gCons (gName 3) (gCons (gName 4) (gNil))))) (tAug 1 (tCall sp_step [] C8.E0 (tCons (tVar 0) (tCons (tVar 2) (tCons (tVar 3) (tCons (tVar 4) (tNil)))))) (ipI fun i j => i + j)))
  (tRet (tVar 1)))
theorem d_sweep {P : Program} {w : World} {mg : Str → Option Value} {base : Heap} {c : Cs} {sp_step : Sp} {f : Addr} {cdv : Value} {A : Around} {outer : List Env} {s : Shared} {H : Hp} {E : XK} (T : Tx c mg) (c_step : C8.Cal P w c.K mg base 6 "step" sp_step [])
    (hr : Room 6 (A.deeper (envOfC "sweep" (C8.fnScope s_sweep) s.heap.objs.size f cdv))) : PSs (cxOf C8.CX0 P w c.K mg base n_sweep "sweep" (C8.fnScope s_sweep) f cdv A outer s H E).nox (C8.fnBody s_sweep) (t_sweep c sp_step) :=
  pss_cons (ps_set (i := 1) sc_sweep.nd rfl (.inl rfl) (pe_int))
  (pss_cons (ps_for PassesOwn.never rfl (pi_list (pe_fld (pe_fld (pv 0) rfl) rfl)) (pg_tup rfl (pgs_cons (pg_name (i := 2) sc_sweep.nd rfl (Or.inl rfl)) (pgs_cons (pg_name (i := 3) sc_sweep.nd rfl (Or.inl rfl)) (pgs_cons (pg_name (i := 4) sc_sweep.nd rfl (Or.inl rfl)) (pgs_nil))))) (pss_one (ps_aug (i := 1) sc_sweep.nd rfl (.inl rfl) (C8.pe_c c_step hr (by decide) (by rfl) (pa_cons (pv 0) (pa_cons (pv 2) (pa_cons (pv 3) (pa_cons (pv 4) (pa_nil)))))) ip_add)))
  (pss_one (ps_ret (pv 1))))

/-- train -/
def t_train (c : Cs) (sp_sweep : Sp) : TS :=
  tSeq (tAsg (tC (.int 0)) (gName 2))
  (tSeq (tWhile (tTest (tOp rLt (tVar 2) (tVar 1))) (tSeq (tAug 2 (tC (.int 1)) (ipI fun i j => i + j))
  (tIfS (tTest (tOp rEq (tCall sp_sweep [] C8.E0 (tCons (tVar 0) (tNil))) (tC (.int 0)))) (tRet (tLst (tCons (tVar 2) (tCons (tC (.int 1)) (tNil))))) (tNext))))
  (tRet (tLst (tCons (tVar 2) (tCons (tC (.int 0)) (tNil))))))
theorem d_train {P : Program} {w : World} {mg : Str → Option Value} {base : Heap} {c : Cs} {sp_sweep : Sp} {f : Addr} {cdv : Value} {A : Around} {outer : List Env} {s : Shared} {H : Hp} {E : XK} (T : Tx c mg) (c_sweep : C8.Cal P w c.K mg base 7 "sweep" sp_sweep [])
    (hr : Room 7 (A.deeper (envOfC "train" (C8.fnScope s_train) s.heap.objs.size f cdv))) : PSs (cxOf C8.CX0 P w c.K mg base n_train "train" (C8.fnScope s_train) f cdv A outer s H E).nox (C8.fnBody s_train) (t_train c sp_sweep) :=
  pss_cons (ps_set (i := 2) sc_train.nd rfl (.inl rfl) (pe_int))
  (pss_cons (ps_while PassesOwn.never (pt_cmpR op_lt (pv 2) (pv 1) (nomark _)) (pss_cons (ps_aug (i := 2) sc_train.nd rfl (.inl rfl) (pe_int) ip_add)
  (pss_one (ps_if (pt_cmpR op_eq (C8.pe_c c_sweep hr (by decide) (by rfl) (pa_cons (pv 0) (pa_nil))) (pe_int) (nomark _)) (pss_one (ps_ret (pe_lst (pa_cons (pv 2) (pa_cons (pe_int) (pa_nil)))))) (pss_nil)))))
  (pss_one (ps_ret (pe_lst (pa_cons (pv 2) (pa_cons (pe_int) (pa_nil)))))))

/-- coming_objectives -/
def t_coming_objectives (c : Cs) (sp_sweep : Sp) (sp_twin : Sp) (sp_whole_objective : Sp) : TS :=
  tSeq (tAsg (tMeth c.M "twin" sp_twin [] C8.E0 (tVar 0) tNil) (gName 4))
  (tSeq (tAsg (tLst (tNil)) (gName 2))
  (tSeq (tFor (iRng1 (tCons (tVar 1) (tNil))) (gName 3) (tSeq (tDrop (tCall sp_sweep [] C8.E0 (tCons (tVar 4) (tNil))))
  (tDrop (tBM c.K "list" rAppend (tVar 2) (tCons (tCall sp_whole_objective [] C8.E0 (tCons (tVar 4) (tNil))) (tNil))))))
  (tRet (tVar 2))))
theorem d_coming_objectives {P : Program} {w : World} {mg : Str → Option Value} {base : Heap} {c : Cs} {sp_sweep : Sp} {sp_twin : Sp} {sp_whole_objective : Sp} {f : Addr} {cdv : Value} {A : Around} {outer : List Env} {s : Shared} {H : Hp} {E : XK} (T : Tx c mg) (c_sweep : C8.Cal P w c.K mg base 7 "sweep" sp_sweep []) (c_twin : C8.Met P w c.K mg base 6 c.M "twin" sp_twin []) (c_whole_objective : C8.Cal P w c.K mg base 5 "whole_objective" sp_whole_objective [])
    (hr : Room 7 (A.deeper (envOfC "coming_objectives" (C8.fnScope s_coming_objectives) s.heap.objs.size f cdv))) : PSs (cxOf C8.CX0 P w c.K mg base n_coming_objectives "coming_objectives" (C8.fnScope s_coming_objectives) f cdv A outer s H E).nox (C8.fnBody s_coming_objectives) (t_coming_objectives c sp_sweep sp_twin sp_whole_objective) :=
  pss_cons (ps_set (i := 4) sc_coming_objectives.nd rfl (.inl rfl) (C8.pe_mt0 c_twin hr (by decide) (pv 0)))
  (pss_cons (ps_set (i := 2) sc_coming_objectives.nd rfl (.inl rfl) (pe_lst (pa_nil)))
  (pss_cons (ps_for PassesOwn.never rfl (pi_range1 (by rfl) T.n_range (pa_cons (pv 1) (pa_nil))) (pg_name (i := 3) sc_coming_objectives.nd rfl (Or.inl rfl)) (pss_cons (ps_expr (C8.pe_c c_sweep hr (by decide) (by rfl) (pa_cons (pv 4) (pa_nil))))
  (pss_one (ps_expr (pe_bm PySem.F.plainAttrs_list PySem.F.slot_list_append PySem.F.type_list_append mt_append (pv 2) (pa_cons (C8.pe_c c_whole_objective hr (by decide) (by rfl) (pa_cons (pv 4) (pa_nil))) (pa_nil)))))))
  (pss_one (ps_ret (pv 2)))))

/-- first_improvable -/
def t_first_improvable (c : Cs) (sp_stepped_value : Sp) : TS :=
  tSeq (tFor (iList c.K (tFld c.K (tFld c.K (tVar 0) "settings") "parameters")) (gTup c.K 3 (gCons (gName 1) (gCons (gName 2) (gCons (gName 3) (gNil))))) (tIfS (tTest (tOp rNe (tCall sp_stepped_value [] C8.E0 (tCons (tVar 0) (tCons (tVar 1) (tCons (tVar 2) (tCons (tVar 3) (tNil)))))) (tOp (rIxL c.K) (tOp (rIxL c.K) (tOp (rIxT c.K) (tFld c.K (tVar 0) "rows") (tVar 1)) (tVar 2)) (tVar 3)))) (tRet (tLst (tCons (tVar 1) (tCons (tVar 2) (tCons (tVar 3) (tNil)))))) (tNext)))
  (tRet (tLst (tNil)))
theorem d_first_improvable {P : Program} {w : World} {mg : Str → Option Value} {base : Heap} {c : Cs} {sp_stepped_value : Sp} {f : Addr} {cdv : Value} {A : Around} {outer : List Env} {s : Shared} {H : Hp} {E : XK} (T : Tx c mg) (c_stepped_value : C8.Cal P w c.K mg base 5 "stepped_value" sp_stepped_value [])
    (hr : Room 5 (A.deeper (envOfC "first_improvable" (C8.fnScope s_first_improvable) s.heap.objs.size f cdv))) : PSs (cxOf C8.CX0 P w c.K mg base n_first_improvable "first_improvable" (C8.fnScope s_first_improvable) f cdv A outer s H E).nox (C8.fnBody s_first_improvable) (t_first_improvable c sp_stepped_value) :=
  pss_cons (ps_for PassesOwn.never rfl (pi_list (pe_fld (pe_fld (pv 0) rfl) rfl)) (pg_tup rfl (pgs_cons (pg_name (i := 1) sc_first_improvable.nd rfl (Or.inl rfl)) (pgs_cons (pg_name (i := 2) sc_first_improvable.nd rfl (Or.inl rfl)) (pgs_cons (pg_name (i := 3) sc_first_improvable.nd rfl (Or.inl rfl)) (pgs_nil))))) (pss_one (ps_if (pt_cmpR op_ne (C8.pe_c c_stepped_value hr (by decide) (by rfl) (pa_cons (pv 0) (pa_cons (pv 1) (pa_cons (pv 2) (pa_cons (pv 3) (pa_nil)))))) (pe_ix ix_list (pe_ix ix_list (pe_ix ix_tup (pe_fld (pv 0) rfl) (pv 1) (fun _ _ => rfl)) (pv 2) (fun _ _ => rfl)) (pv 3) (fun _ _ => rfl)) (nomark _)) (pss_one (ps_ret (pe_lst (pa_cons (pv 1) (pa_cons (pv 2) (pa_cons (pv 3) (pa_nil))))))) (pss_nil))))
  (pss_one (ps_ret (pe_lst (pa_nil))))

/-- are_new_ratings -/
def t_are_new_ratings (c : Cs) (sp_has_item : Sp) (sp_is_rating : Sp) : TS :=
  tSeq (tIfS (tTest (tOp rEq (tOp rMod (tCB (rLenS c.K) (tCons (tVar 1) (tNil))) (tC (.int 2))) (tC (.int 1)))) (tRet (tC (.bl false))) (tNext))
  (tSeq (tAsg (tUn rNeg (tC (.int 1))) (gName 3))
  (tSeq (tFor (iRng3 (tCons (tC (.int 0)) (tCons (tCB (rLenS c.K) (tCons (tVar 1) (tNil))) (tCons (tC (.int 2)) (tNil))))) (gName 4) (tSeq (tAsg (tOp (rIxL c.K) (tVar 1) (tVar 4)) (gName 2))
  (tSeq (tIfS (tOr (tTest (tOp rLe (tVar 2) (tVar 3))) (tOr (tNot (tB (tMeth c.S "has_item" sp_has_item [] C8.E0 (tVar 0) (tCons (tVar 2) (tNil))))) (tNot (tB (tCall sp_is_rating [] C8.E0 (tCons (tOp (rIxL c.K) (tVar 1) (tOp rAdd2 (tVar 4) (tC (.int 1)))) (tNil))))))) (tRet (tC (.bl false))) (tNext))
  (tAsg (tVar 2) (gName 3)))))
  (tRet (tC (.bl true)))))
theorem d_are_new_ratings {P : Program} {w : World} {mg : Str → Option Value} {base : Heap} {c : Cs} {sp_has_item : Sp} {sp_is_rating : Sp} {f : Addr} {cdv : Value} {A : Around} {outer : List Env} {s : Shared} {H : Hp} {E : XK} (T : Tx c mg) (c_has_item : C8.Met P w c.K mg base 1 c.S "has_item" sp_has_item []) (c_is_rating : C8.Cal P w c.K mg base 1 "is_rating" sp_is_rating [])
    (hr : Room 1 (A.deeper (envOfC "are_new_ratings" (C8.fnScope s_are_new_ratings) s.heap.objs.size f cdv))) : PSs (cxOf C8.CX0 P w c.K mg base n_are_new_ratings "are_new_ratings" (C8.fnScope s_are_new_ratings) f cdv A outer s H E).nox (C8.fnBody s_are_new_ratings) (t_are_new_ratings c sp_has_item sp_is_rating) :=
  pss_cons (ps_if (pt_cmpR op_eq (pe_op op_mod (pe_callB call_len_seq (by rfl) T.n_len bt_len (pa_cons (pv 1) (pa_nil))) (pe_int)) (pe_int) (nomark _)) (pss_one (ps_ret (pe_bl))) (pss_nil))
  (pss_cons (ps_set (i := 3) sc_are_new_ratings.nd rfl (.inl rfl) (pe_un un_neg (pe_int)))
  (pss_cons (ps_for PassesOwn.never rfl (pi_range3 (by rfl) T.n_range (pa_cons (pe_int) (pa_cons (pe_callB call_len_seq (by rfl) T.n_len bt_len (pa_cons (pv 1) (pa_nil))) (pa_cons (pe_int) (pa_nil))))) (pg_name (i := 4) sc_are_new_ratings.nd rfl (Or.inl rfl)) (pss_cons (ps_set (i := 2) sc_are_new_ratings.nd rfl (.inl rfl) (pe_ix ix_list (pv 1) (pv 4) (fun _ _ => rfl)))
  (pss_cons (ps_if (PW.pt (pw_or (pt_cmpR op_le (pv 2) (pv 3) (nomark _)) (pw_or (pt_not (pt_val (C8.pe_mt c_has_item hr (by decide) (pv 0) (pa_cons (pv 2) (pa_nil))))) (pw_or1 (pt_not (pt_val (C8.pe_c c_is_rating hr (by decide) (by rfl) (pa_cons (pe_ix ix_list (pv 1) (pe_op op_add (pv 4) (pe_int)) (fun _ _ => rfl)) (pa_nil))))))))) (pss_one (ps_ret (pe_bl))) (pss_nil))
  (pss_one (ps_set (i := 3) sc_are_new_ratings.nd rfl (.inl rfl) (pv 2))))))
  (pss_one (ps_ret (pe_bl)))))

/-- with_newcomer -/
def t_with_newcomer (c : Cs) (sp_drop_ratings : Sp) (sp_twin : Sp) : TS :=
  tSeq (tAsg (tMeth c.M "twin" sp_twin [] C8.E0 (tVar 0) tNil) (gName 2))
  (tSeq (tAsg (tOp rRep (tLst (tCons (tC (.int 0)) (tNil))) (tCB (rLenS c.K) (tCons (tOp (rIxL c.K) (tOp (rIxT c.K) (tFld c.K (tVar 2) "rows") (tC (.int 0))) (tC (.int 0))) (tNil)))) (gSub (tOp (rIxT c.K) (tFld c.K (tVar 2) "rows") (tC (.int 0))) (tC (.int 0)) rSetL))
  (tSeq (tDrop (tMeth c.M "drop_ratings" sp_drop_ratings [] C8.E0 (tVar 2) (tCons (tC (.int 0)) (tNil))))
  (tSeq (tFor (iRng3 (tCons (tC (.int 0)) (tCons (tCB (rLenS c.K) (tCons (tVar 1) (tNil))) (tCons (tC (.int 2)) (tNil))))) (gName 3) (tAsg (tOp (rIxL c.K) (tVar 1) (tOp rAdd2 (tVar 3) (tC (.int 1)))) (gSub (tOp (rIxL c.K) (tFld c.K (tVar 2) "ratings") (tC (.int 0))) (tOp (rIxL c.K) (tVar 1) (tVar 3)) rSetL)))
  (tRet (tVar 2)))))
theorem d_with_newcomer {P : Program} {w : World} {mg : Str → Option Value} {base : Heap} {c : Cs} {sp_drop_ratings : Sp} {sp_twin : Sp} {f : Addr} {cdv : Value} {A : Around} {outer : List Env} {s : Shared} {H : Hp} {E : XK} (T : Tx c mg) (c_drop_ratings : C8.Met P w c.K mg base 2 c.M "drop_ratings" sp_drop_ratings []) (c_twin : C8.Met P w c.K mg base 6 c.M "twin" sp_twin [])
    (hr : Room 6 (A.deeper (envOfC "with_newcomer" (C8.fnScope s_with_newcomer) s.heap.objs.size f cdv))) : PSs (cxOf C8.CX0 P w c.K mg base n_with_newcomer "with_newcomer" (C8.fnScope s_with_newcomer) f cdv A outer s H E).nox (C8.fnBody s_with_newcomer) (t_with_newcomer c sp_drop_ratings sp_twin) :=
  pss_cons (ps_set (i := 2) sc_with_newcomer.nd rfl (.inl rfl) (C8.pe_mt0 c_twin hr (by decide) (pv 0)))
  (pss_cons (ps_asg (pe_op op_rep (pe_lst (pa_cons (pe_int) (pa_nil))) (pe_callB call_len_seq (by rfl) T.n_len bt_len (pa_cons (pe_ix ix_list (pe_ix ix_tup (pe_fld (pv 2) rfl) (C8.pe_gc (by rfl) T.g_USER) (fun _ _ => rfl)) (C8.pe_gc (by rfl) T.g_NEWCOMER) (fun _ _ => rfl)) (pa_nil)))) (pg_sub (pe_ix ix_tup (pe_fld (pv 2) rfl) (C8.pe_gc (by rfl) T.g_USER) (fun _ _ => rfl)) (C8.pe_gc (by rfl) T.g_NEWCOMER) set_list))
  (pss_cons (ps_expr (C8.pe_mt c_drop_ratings hr (by decide) (pv 2) (pa_cons (C8.pe_gc (by rfl) T.g_NEWCOMER) (pa_nil))))
  (pss_cons (ps_for PassesOwn.never rfl (pi_range3 (by rfl) T.n_range (pa_cons (pe_int) (pa_cons (pe_callB call_len_seq (by rfl) T.n_len bt_len (pa_cons (pv 1) (pa_nil))) (pa_cons (pe_int) (pa_nil))))) (pg_name (i := 3) sc_with_newcomer.nd rfl (Or.inl rfl)) (pss_one (ps_asg (pe_ix ix_list (pv 1) (pe_op op_add (pv 3) (pe_int)) (fun _ _ => rfl)) (pg_sub (pe_ix ix_list (pe_fld (pv 2) rfl) (C8.pe_gc (by rfl) T.g_NEWCOMER) (fun _ _ => rfl)) (pe_ix ix_list (pv 1) (pv 3) (fun _ _ => rfl)) set_list))))
  (pss_one (ps_ret (pv 2))))))

/-- make_rounds -/
def t_make_rounds (c : Cs) (sp_step : Sp) : TS :=
  tSeq (tAsg (tC (.int 0)) (gName 3))
  (tSeq (tAsg (tC (.int 1)) (gName 1))
  (tSeq (tWhile (tAnd (tTest (tOp rGt2 (tVar 1) (tC (.int 0)))) (tTest (tOp rLt (tVar 3) (tC (.int 100))))) (tSeq (tAug 3 (tC (.int 1)) (ipI fun i j => i + j))
  (tSeq (tAsg (tC (.int 0)) (gName 1))
  (tFor (iRng1 (tCons (tOp rAdd2 (tFld c.K (tFld c.K (tVar 0) "settings") "factor_count") (tC (.int 1))) (tNil))) (gName 2) (tAug 1 (tCall sp_step [] C8.E0 (tCons (tVar 0) (tCons (tC (.int 0)) (tCons (tC (.int 0)) (tCons (tVar 2) (tNil)))))) (ipI fun i j => i + j))))))
  (tRet (tVar 3))))
theorem d_make_rounds {P : Program} {w : World} {mg : Str → Option Value} {base : Heap} {c : Cs} {sp_step : Sp} {f : Addr} {cdv : Value} {A : Around} {outer : List Env} {s : Shared} {H : Hp} {E : XK} (T : Tx c mg) (c_step : C8.Cal P w c.K mg base 6 "step" sp_step [])
    (hr : Room 6 (A.deeper (envOfC "make_rounds" (C8.fnScope s_make_rounds) s.heap.objs.size f cdv))) : PSs (cxOf C8.CX0 P w c.K mg base n_make_rounds "make_rounds" (C8.fnScope s_make_rounds) f cdv A outer s H E).nox (C8.fnBody s_make_rounds) (t_make_rounds c sp_step) :=
  pss_cons (ps_set (i := 3) sc_make_rounds.nd rfl (.inl rfl) (pe_int))
  (pss_cons (ps_set (i := 1) sc_make_rounds.nd rfl (.inl rfl) (pe_int))
  (pss_cons (ps_while PassesOwn.never (PW.pt (pw_and (pt_cmpR op_gt (pv 1) (pe_int) (nomark _)) (pw_and1 (pt_cmpR op_lt (pv 3) (C8.pe_gc (by rfl) T.g_MOST_ROUNDS) (nomark _))))) (pss_cons (ps_aug (i := 3) sc_make_rounds.nd rfl (.inl rfl) (pe_int) ip_add)
  (pss_cons (ps_set (i := 1) sc_make_rounds.nd rfl (.inl rfl) (pe_int))
  (pss_one (ps_for PassesOwn.never rfl (pi_range1 (by rfl) T.n_range (pa_cons (pe_op op_add (pe_fld (pe_fld (pv 0) rfl) rfl) (pe_int)) (pa_nil))) (pg_name (i := 2) sc_make_rounds.nd rfl (Or.inl rfl)) (pss_one (ps_aug (i := 1) sc_make_rounds.nd rfl (.inl rfl) (C8.pe_c c_step hr (by decide) (by rfl) (pa_cons (pv 0) (pa_cons (C8.pe_gc (by rfl) T.g_USER) (pa_cons (C8.pe_gc (by rfl) T.g_NEWCOMER) (pa_cons (pv 2) (pa_nil)))))) ip_add)))))))
  (pss_one (ps_ret (pv 3)))))

/-- Session_init -/
def t_Session_init (c : Cs) : TS :=
  sFld c.K (tVar 0) (tC .non) "model"
theorem d_Session_init {P : Program} {w : World} {mg : Str → Option Value} {base : Heap} {c : Cs} {f : Addr} {cdv : Value} {A : Around} {outer : List Env} {s : Shared} {H : Hp} {E : XK} (T : Tx c mg)
    (hr : Room 0 (A.deeper (envOfC "Session.__init__" (C8.fnScope s_Session_init) s.heap.objs.size f cdv))) : PSs (cxOf C8.CX0 P w c.K mg base n_Session_init "Session.__init__" (C8.fnScope s_Session_init) f cdv A outer s H E).nox (C8.fnBody s_Session_init) (t_Session_init c) :=
  pss_one (ps_fld (pv 0) (pe_non) rfl)

end Lk
set_option Elab.async false
set_option maxRecDepth 100000
set_option maxHeartbeats 5000000
set_option linter.all false
namespace Lk
open PySem PySem.Spec PyProof.Rows L2 Evl
/-- answer_create -/
def t_answer_create (c : Cs) (sp_Model_init : Sp) (sp_Settings_init : Sp) (sp_are_settings : Sp) : TS :=
  tSeq (tIfS (tNot (tB (tCall sp_are_settings [] C8.E0 (tCons (tVar 1) (tNil))))) (tRet (tLst (tCons (tC (.int (-22))) (tNil)))) (tNext))
  (tSeq (tAsg (tMake c.S sp_Settings_init [] C8.E0 (tCons (tVar 1) (tNil))) (gName 2))
  (tSeq (sFld c.K (tVar 0) (tMake c.M sp_Model_init [] C8.E0 (tCons (tVar 2) (tNil))) "model")
  (tRet (tLst (tCons (tCB (rLenS c.K) (tCons (tFld c.K (tVar 2) "parameters") (tNil))) (tNil))))))
theorem d_answer_create {P : Program} {w : World} {mg : Str → Option Value} {base : Heap} {c : Cs} {sp_Model_init : Sp} {sp_Settings_init : Sp} {sp_are_settings : Sp} {f : Addr} {cdv : Value} {A : Around} {outer : List Env} {s : Shared} {H : Hp} {E : XK} (T : Tx c mg) (c_Model_init : C8.Mak P w c.K mg base 4 "Model" c.M sp_Model_init []) (c_Settings_init : C8.Mak P w c.K mg base 2 "Settings" c.S sp_Settings_init []) (c_are_settings : C8.Cal P w c.K mg base 1 "are_settings" sp_are_settings [])
    (hr : Room 5 (A.deeper (envOfC "answer_create" (C8.fnScope s_answer_create) s.heap.objs.size f cdv))) : PSs (cxOf C8.CX0 P w c.K mg base n_answer_create "answer_create" (C8.fnScope s_answer_create) f cdv A outer s H E).nox (C8.fnBody s_answer_create) (t_answer_create c sp_Model_init sp_Settings_init sp_are_settings) :=
  pss_cons (ps_if (pt_not (pt_val (C8.pe_c c_are_settings hr (by decide) (by rfl) (pa_cons (pv 1) (pa_nil))))) (pss_one (ps_ret (pe_lst (pa_cons (C8.pe_gc (by rfl) T.g_OUTSIDE_LIMITS) (pa_nil))))) (pss_nil))
  (pss_cons (ps_set (i := 2) sc_answer_create.nd rfl (.inl rfl) (C8.pe_mk c_Settings_init hr (by decide) (by rfl) (pa_cons (pv 1) (pa_nil))))
  (pss_cons (ps_fld (pv 0) (C8.pe_mk c_Model_init hr (by decide) (by rfl) (pa_cons (pv 2) (pa_nil))) rfl)
  (pss_one (ps_ret (pe_lst (pa_cons (pe_callB call_len_seq (by rfl) T.n_len bt_len (pa_cons (pe_fld (pv 2) rfl) (pa_nil))) (pa_nil)))))))

/-- answer_set_rating -/
def t_answer_set_rating (c : Cs) (sp_has_pair : Sp) (sp_is_rating : Sp) : TS :=
  tSeq (tAsg (tOp (rIxL c.K) (tVar 1) (tC (.int 0))) (gName 4))
  (tSeq (tAsg (tOp (rIxL c.K) (tVar 1) (tC (.int 1))) (gName 2))
  (tSeq (tAsg (tOp (rIxL c.K) (tVar 1) (tC (.int 2))) (gName 5))
  (tSeq (tIfS (tNot (tB (tMeth c.S "has_pair" sp_has_pair [] C8.E0 (tFld c.K (tVar 0) "settings") (tCons (tVar 4) (tCons (tVar 2) (tNil)))))) (tRet (tLst (tCons (tC (.int (-2))) (tNil)))) (tNext))
  (tSeq (tIfS (tNot (tB (tCall sp_is_rating [] C8.E0 (tCons (tVar 5) (tNil))))) (tRet (tLst (tCons (tC (.int (-22))) (tNil)))) (tNext))
  (tSeq (tAsg (tOp (rIxL c.K) (tOp (rIxL c.K) (tFld c.K (tVar 0) "ratings") (tVar 4)) (tVar 2)) (gName 3))
  (tSeq (tAsg (tVar 5) (gSub (tOp (rIxL c.K) (tFld c.K (tVar 0) "ratings") (tVar 4)) (tVar 2) rSetL))
  (tRet (tLst (tCons (tVar 3) (tNil))))))))))
theorem d_answer_set_rating {P : Program} {w : World} {mg : Str → Option Value} {base : Heap} {c : Cs} {sp_has_pair : Sp} {sp_is_rating : Sp} {f : Addr} {cdv : Value} {A : Around} {outer : List Env} {s : Shared} {H : Hp} {E : XK} (T : Tx c mg) (c_has_pair : C8.Met P w c.K mg base 2 c.S "has_pair" sp_has_pair []) (c_is_rating : C8.Cal P w c.K mg base 1 "is_rating" sp_is_rating [])
    (hr : Room 2 (A.deeper (envOfC "answer_set_rating" (C8.fnScope s_answer_set_rating) s.heap.objs.size f cdv))) : PSs (cxOf C8.CX0 P w c.K mg base n_answer_set_rating "answer_set_rating" (C8.fnScope s_answer_set_rating) f cdv A outer s H E).nox (C8.fnBody s_answer_set_rating) (t_answer_set_rating c sp_has_pair sp_is_rating) :=
  pss_cons (ps_set (i := 4) sc_answer_set_rating.nd rfl (.inl rfl) (pe_ix ix_list (pv 1) (pe_int) (fun _ _ => rfl)))
  (pss_cons (ps_set (i := 2) sc_answer_set_rating.nd rfl (.inl rfl) (pe_ix ix_list (pv 1) (pe_int) (fun _ _ => rfl)))
  (pss_cons (ps_set (i := 5) sc_answer_set_rating.nd rfl (.inl rfl) (pe_ix ix_list (pv 1) (pe_int) (fun _ _ => rfl)))
  (pss_cons (ps_if (pt_not (pt_val (C8.pe_mt c_has_pair hr (by decide) (pe_fld (pv 0) rfl) (pa_cons (pv 4) (pa_cons (pv 2) (pa_nil)))))) (pss_one (ps_ret (pe_lst (pa_cons (C8.pe_gc (by rfl) T.g_NOT_THERE) (pa_nil))))) (pss_nil))
  (pss_cons (ps_if (pt_not (pt_val (C8.pe_c c_is_rating hr (by decide) (by rfl) (pa_cons (pv 5) (pa_nil))))) (pss_one (ps_ret (pe_lst (pa_cons (C8.pe_gc (by rfl) T.g_OUTSIDE_LIMITS) (pa_nil))))) (pss_nil))
  (pss_cons (ps_set (i := 3) sc_answer_set_rating.nd rfl (.inl rfl) (pe_ix ix_list (pe_ix ix_list (pe_fld (pv 0) rfl) (pv 4) (fun _ _ => rfl)) (pv 2) (fun _ _ => rfl)))
  (pss_cons (ps_asg (pv 5) (pg_sub (pe_ix ix_list (pe_fld (pv 0) rfl) (pv 4) (fun _ _ => rfl)) (pv 2) set_list))
  (pss_one (ps_ret (pe_lst (pa_cons (pv 3) (pa_nil)))))))))))

/-- answer_clear_rating -/
def t_answer_clear_rating (c : Cs) (sp_has_pair : Sp) : TS :=
  tSeq (tAsg (tOp (rIxL c.K) (tVar 1) (tC (.int 0))) (gName 4))
  (tSeq (tAsg (tOp (rIxL c.K) (tVar 1) (tC (.int 1))) (gName 2))
  (tSeq (tIfS (tNot (tB (tMeth c.S "has_pair" sp_has_pair [] C8.E0 (tFld c.K (tVar 0) "settings") (tCons (tVar 4) (tCons (tVar 2) (tNil)))))) (tRet (tLst (tCons (tC (.int (-2))) (tNil)))) (tNext))
  (tSeq (tAsg (tOp (rIxL c.K) (tOp (rIxL c.K) (tFld c.K (tVar 0) "ratings") (tVar 4)) (tVar 2)) (gName 3))
  (tSeq (tIfS (tTest (tOp rEq (tVar 3) (tC (.int 0)))) (tRet (tLst (tCons (tC (.int (-33))) (tNil)))) (tNext))
  (tSeq (tAsg (tC (.int 0)) (gSub (tOp (rIxL c.K) (tFld c.K (tVar 0) "ratings") (tVar 4)) (tVar 2) rSetL))
  (tRet (tLst (tCons (tVar 3) (tNil)))))))))
theorem d_answer_clear_rating {P : Program} {w : World} {mg : Str → Option Value} {base : Heap} {c : Cs} {sp_has_pair : Sp} {f : Addr} {cdv : Value} {A : Around} {outer : List Env} {s : Shared} {H : Hp} {E : XK} (T : Tx c mg) (c_has_pair : C8.Met P w c.K mg base 2 c.S "has_pair" sp_has_pair [])
    (hr : Room 2 (A.deeper (envOfC "answer_clear_rating" (C8.fnScope s_answer_clear_rating) s.heap.objs.size f cdv))) : PSs (cxOf C8.CX0 P w c.K mg base n_answer_clear_rating "answer_clear_rating" (C8.fnScope s_answer_clear_rating) f cdv A outer s H E).nox (C8.fnBody s_answer_clear_rating) (t_answer_clear_rating c sp_has_pair) :=
  pss_cons (ps_set (i := 4) sc_answer_clear_rating.nd rfl (.inl rfl) (pe_ix ix_list (pv 1) (pe_int) (fun _ _ => rfl)))
  (pss_cons (ps_set (i := 2) sc_answer_clear_rating.nd rfl (.inl rfl) (pe_ix ix_list (pv 1) (pe_int) (fun _ _ => rfl)))
  (pss_cons (ps_if (pt_not (pt_val (C8.pe_mt c_has_pair hr (by decide) (pe_fld (pv 0) rfl) (pa_cons (pv 4) (pa_cons (pv 2) (pa_nil)))))) (pss_one (ps_ret (pe_lst (pa_cons (C8.pe_gc (by rfl) T.g_NOT_THERE) (pa_nil))))) (pss_nil))
  (pss_cons (ps_set (i := 3) sc_answer_clear_rating.nd rfl (.inl rfl) (pe_ix ix_list (pe_ix ix_list (pe_fld (pv 0) rfl) (pv 4) (fun _ _ => rfl)) (pv 2) (fun _ _ => rfl)))
  (pss_cons (ps_if (pt_cmpR op_eq (pv 3) (C8.pe_gc (by rfl) T.g_NO_RATING) (nomark _)) (pss_one (ps_ret (pe_lst (pa_cons (C8.pe_gc (by rfl) T.g_NO_SUCH_RATING) (pa_nil))))) (pss_nil))
  (pss_cons (ps_asg (C8.pe_gc (by rfl) T.g_NO_RATING) (pg_sub (pe_ix ix_list (pe_fld (pv 0) rfl) (pv 4) (fun _ _ => rfl)) (pv 2) set_list))
  (pss_one (ps_ret (pe_lst (pa_cons (pv 3) (pa_nil))))))))))

/-- answer_delete_user -/
def t_answer_delete_user (c : Cs) (sp_drop_ratings : Sp) (sp_has_user : Sp) : TS :=
  tSeq (tAsg (tOp (rIxL c.K) (tVar 1) (tC (.int 0))) (gName 2))
  (tSeq (tIfS (tNot (tB (tMeth c.S "has_user" sp_has_user [] C8.E0 (tFld c.K (tVar 0) "settings") (tCons (tVar 2) (tNil))))) (tRet (tLst (tCons (tC (.int (-2))) (tNil)))) (tNext))
  (tRet (tLst (tCons (tMeth c.M "drop_ratings" sp_drop_ratings [] C8.E0 (tVar 0) (tCons (tVar 2) (tNil))) (tNil)))))
theorem d_answer_delete_user {P : Program} {w : World} {mg : Str → Option Value} {base : Heap} {c : Cs} {sp_drop_ratings : Sp} {sp_has_user : Sp} {f : Addr} {cdv : Value} {A : Around} {outer : List Env} {s : Shared} {H : Hp} {E : XK} (T : Tx c mg) (c_drop_ratings : C8.Met P w c.K mg base 2 c.M "drop_ratings" sp_drop_ratings []) (c_has_user : C8.Met P w c.K mg base 1 c.S "has_user" sp_has_user [])
    (hr : Room 2 (A.deeper (envOfC "answer_delete_user" (C8.fnScope s_answer_delete_user) s.heap.objs.size f cdv))) : PSs (cxOf C8.CX0 P w c.K mg base n_answer_delete_user "answer_delete_user" (C8.fnScope s_answer_delete_user) f cdv A outer s H E).nox (C8.fnBody s_answer_delete_user) (t_answer_delete_user c sp_drop_ratings sp_has_user) :=
  pss_cons (ps_set (i := 2) sc_answer_delete_user.nd rfl (.inl rfl) (pe_ix ix_list (pv 1) (pe_int) (fun _ _ => rfl)))
  (pss_cons (ps_if (pt_not (pt_val (C8.pe_mt c_has_user hr (by decide) (pe_fld (pv 0) rfl) (pa_cons (pv 2) (pa_nil))))) (pss_one (ps_ret (pe_lst (pa_cons (C8.pe_gc (by rfl) T.g_NOT_THERE) (pa_nil))))) (pss_nil))
  (pss_one (ps_ret (pe_lst (pa_cons (C8.pe_mt c_drop_ratings hr (by decide) (pv 0) (pa_cons (pv 2) (pa_nil))) (pa_nil))))))

/-- answer_reset -/
def t_answer_reset (c : Cs) (sp_begin_again : Sp) : TS :=
  tSeq (tDrop (tMeth c.M "begin_again" sp_begin_again [] C8.E0 (tVar 0) tNil))
  (tRet (tLst (tCons (tFld c.K (tVar 0) "base") (tNil))))
theorem d_answer_reset {P : Program} {w : World} {mg : Str → Option Value} {base : Heap} {c : Cs} {sp_begin_again : Sp} {f : Addr} {cdv : Value} {A : Around} {outer : List Env} {s : Shared} {H : Hp} {E : XK} (T : Tx c mg) (c_begin_again : C8.Met P w c.K mg base 4 c.M "begin_again" sp_begin_again [])
    (hr : Room 4 (A.deeper (envOfC "answer_reset" (C8.fnScope s_answer_reset) s.heap.objs.size f cdv))) : PSs (cxOf C8.CX0 P w c.K mg base n_answer_reset "answer_reset" (C8.fnScope s_answer_reset) f cdv A outer s H E).nox (C8.fnBody s_answer_reset) (t_answer_reset c sp_begin_again) :=
  pss_cons (ps_expr (C8.pe_mt0 c_begin_again hr (by decide) (pv 0)))
  (pss_one (ps_ret (pe_lst (pa_cons (pe_fld (pv 0) rfl) (pa_nil)))))

/-- answer_step -/
def t_answer_step (c : Cs) (sp_has_parameter : Sp) (sp_step : Sp) : TS :=
  tSeq (tAsg (tOp (rIxL c.K) (tVar 1) (tC (.int 0))) (gName 3))
  (tSeq (tAsg (tOp (rIxL c.K) (tVar 1) (tC (.int 1))) (gName 4))
  (tSeq (tAsg (tOp (rIxL c.K) (tVar 1) (tC (.int 2))) (gName 6))
  (tSeq (tIfS (tNot (tB (tMeth c.S "has_parameter" sp_has_parameter [] C8.E0 (tFld c.K (tVar 0) "settings") (tCons (tVar 3) (tCons (tVar 4) (tCons (tVar 6) (tNil))))))) (tRet (tLst (tCons (tC (.int (-2))) (tNil)))) (tNext))
  (tSeq (tAsg (tOp (rIxL c.K) (tOp (rIxL c.K) (tOp (rIxT c.K) (tFld c.K (tVar 0) "rows") (tVar 3)) (tVar 4)) (tVar 6)) (gName 5))
  (tSeq (tAsg (tCall sp_step [] C8.E0 (tCons (tVar 0) (tCons (tVar 3) (tCons (tVar 4) (tCons (tVar 6) (tNil)))))) (gName 2))
  (tRet (tLst (tCons (tVar 2) (tCons (tVar 5) (tCons (tOp (rIxL c.K) (tOp (rIxL c.K) (tOp (rIxT c.K) (tFld c.K (tVar 0) "rows") (tVar 3)) (tVar 4)) (tVar 6)) (tNil)))))))))))
theorem d_answer_step {P : Program} {w : World} {mg : Str → Option Value} {base : Heap} {c : Cs} {sp_has_parameter : Sp} {sp_step : Sp} {f : Addr} {cdv : Value} {A : Around} {outer : List Env} {s : Shared} {H : Hp} {E : XK} (T : Tx c mg) (c_has_parameter : C8.Met P w c.K mg base 2 c.S "has_parameter" sp_has_parameter []) (c_step : C8.Cal P w c.K mg base 6 "step" sp_step [])
    (hr : Room 6 (A.deeper (envOfC "answer_step" (C8.fnScope s_answer_step) s.heap.objs.size f cdv))) : PSs (cxOf C8.CX0 P w c.K mg base n_answer_step "answer_step" (C8.fnScope s_answer_step) f cdv A outer s H E).nox (C8.fnBody s_answer_step) (t_answer_step c sp_has_parameter sp_step) :=
  pss_cons (ps_set (i := 3) sc_answer_step.nd rfl (.inl rfl) (pe_ix ix_list (pv 1) (pe_int) (fun _ _ => rfl)))
  (pss_cons (ps_set (i := 4) sc_answer_step.nd rfl (.inl rfl) (pe_ix ix_list (pv 1) (pe_int) (fun _ _ => rfl)))
  (pss_cons (ps_set (i := 6) sc_answer_step.nd rfl (.inl rfl) (pe_ix ix_list (pv 1) (pe_int) (fun _ _ => rfl)))
  (pss_cons (ps_if (pt_not (pt_val (C8.pe_mt c_has_parameter hr (by decide) (pe_fld (pv 0) rfl) (pa_cons (pv 3) (pa_cons (pv 4) (pa_cons (pv 6) (pa_nil))))))) (pss_one (ps_ret (pe_lst (pa_cons (C8.pe_gc (by rfl) T.g_NOT_THERE) (pa_nil))))) (pss_nil))
  (pss_cons (ps_set (i := 5) sc_answer_step.nd rfl (.inl rfl) (pe_ix ix_list (pe_ix ix_list (pe_ix ix_tup (pe_fld (pv 0) rfl) (pv 3) (fun _ _ => rfl)) (pv 4) (fun _ _ => rfl)) (pv 6) (fun _ _ => rfl)))
  (pss_cons (ps_set (i := 2) sc_answer_step.nd rfl (.inl rfl) (C8.pe_c c_step hr (by decide) (by rfl) (pa_cons (pv 0) (pa_cons (pv 3) (pa_cons (pv 4) (pa_cons (pv 6) (pa_nil)))))))
  (pss_one (ps_ret (pe_lst (pa_cons (pv 2) (pa_cons (pv 5) (pa_cons (pe_ix ix_list (pe_ix ix_list (pe_ix ix_tup (pe_fld (pv 0) rfl) (pv 3) (fun _ _ => rfl)) (pv 4) (fun _ _ => rfl)) (pv 6) (fun _ _ => rfl)) (pa_nil))))))))))))

/-- answer_sweep -/
def t_answer_sweep (c : Cs) (sp_sweep : Sp) (sp_whole_objective : Sp) : TS :=
  tSeq (tAsg (tCall sp_sweep [] C8.E0 (tCons (tVar 0) (tNil))) (gName 2))
  (tRet (tLst (tCons (tVar 2) (tCons (tCall sp_whole_objective [] C8.E0 (tCons (tVar 0) (tNil))) (tNil)))))
theorem d_answer_sweep {P : Program} {w : World} {mg : Str → Option Value} {base : Heap} {c : Cs} {sp_sweep : Sp} {sp_whole_objective : Sp} {f : Addr} {cdv : Value} {A : Around} {outer : List Env} {s : Shared} {H : Hp} {E : XK} (T : Tx c mg) (c_sweep : C8.Cal P w c.K mg base 7 "sweep" sp_sweep []) (c_whole_objective : C8.Cal P w c.K mg base 5 "whole_objective" sp_whole_objective [])
    (hr : Room 7 (A.deeper (envOfC "answer_sweep" (C8.fnScope s_answer_sweep) s.heap.objs.size f cdv))) : PSs (cxOf C8.CX0 P w c.K mg base n_answer_sweep "answer_sweep" (C8.fnScope s_answer_sweep) f cdv A outer s H E).nox (C8.fnBody s_answer_sweep) (t_answer_sweep c sp_sweep sp_whole_objective) :=
  pss_cons (ps_set (i := 2) sc_answer_sweep.nd rfl (.inl rfl) (C8.pe_c c_sweep hr (by decide) (by rfl) (pa_cons (pv 0) (pa_nil))))
  (pss_one (ps_ret (pe_lst (pa_cons (pv 2) (pa_cons (C8.pe_c c_whole_objective hr (by decide) (by rfl) (pa_cons (pv 0) (pa_nil))) (pa_nil))))))

/-- answer_train -/
def t_answer_train (c : Cs) (sp_train : Sp) (sp_whole_objective : Sp) : TS :=
  tSeq (tAsg (tOp (rIxL c.K) (tVar 1) (tC (.int 0))) (gName 2))
  (tSeq (tIfS (tTest (tOp rGt2 (tVar 2) (tC (.int 100)))) (tRet (tLst (tCons (tC (.int (-22))) (tNil)))) (tNext))
  (tRet (tOp rCat (tCall sp_train [] C8.E0 (tCons (tVar 0) (tCons (tVar 2) (tNil)))) (tLst (tCons (tCall sp_whole_objective [] C8.E0 (tCons (tVar 0) (tNil))) (tNil))))))
theorem d_answer_train {P : Program} {w : World} {mg : Str → Option Value} {base : Heap} {c : Cs} {sp_train : Sp} {sp_whole_objective : Sp} {f : Addr} {cdv : Value} {A : Around} {outer : List Env} {s : Shared} {H : Hp} {E : XK} (T : Tx c mg) (c_train : C8.Cal P w c.K mg base 8 "train" sp_train []) (c_whole_objective : C8.Cal P w c.K mg base 5 "whole_objective" sp_whole_objective [])
    (hr : Room 8 (A.deeper (envOfC "answer_train" (C8.fnScope s_answer_train) s.heap.objs.size f cdv))) : PSs (cxOf C8.CX0 P w c.K mg base n_answer_train "answer_train" (C8.fnScope s_answer_train) f cdv A outer s H E).nox (C8.fnBody s_answer_train) (t_answer_train c sp_train sp_whole_objective) :=
  pss_cons (ps_set (i := 2) sc_answer_train.nd rfl (.inl rfl) (pe_ix ix_list (pv 1) (pe_int) (fun _ _ => rfl)))
  (pss_cons (ps_if (pt_cmpR op_gt (pv 2) (C8.pe_gc (by rfl) T.g_MOST_SWEEPS) (nomark _)) (pss_one (ps_ret (pe_lst (pa_cons (C8.pe_gc (by rfl) T.g_OUTSIDE_LIMITS) (pa_nil))))) (pss_nil))
  (pss_one (ps_ret (pe_op op_cat (C8.pe_c c_train hr (by decide) (by rfl) (pa_cons (pv 0) (pa_cons (pv 2) (pa_nil)))) (pe_lst (pa_cons (C8.pe_c c_whole_objective hr (by decide) (by rfl) (pa_cons (pv 0) (pa_nil))) (pa_nil)))))))

/-- answer_objective -/
def t_answer_objective (c : Cs) (sp_error_part : Sp) (sp_penalty_part : Sp) : TS :=
  tSeq (tAsg (tCall sp_error_part [] C8.E0 (tCons (tVar 0) (tNil))) (gName 2))
  (tSeq (tAsg (tCall sp_penalty_part [] C8.E0 (tCons (tVar 0) (tNil))) (gName 3))
  (tRet (tLst (tCons (tC (.int 0)) (tCons (tOp rAdd2 (tVar 2) (tVar 3)) (tCons (tVar 2) (tCons (tVar 3) (tNil))))))))
theorem d_answer_objective {P : Program} {w : World} {mg : Str → Option Value} {base : Heap} {c : Cs} {sp_error_part : Sp} {sp_penalty_part : Sp} {f : Addr} {cdv : Value} {A : Around} {outer : List Env} {s : Shared} {H : Hp} {E : XK} (T : Tx c mg) (c_error_part : C8.Cal P w c.K mg base 4 "error_part" sp_error_part []) (c_penalty_part : C8.Cal P w c.K mg base 2 "penalty_part" sp_penalty_part [])
    (hr : Room 4 (A.deeper (envOfC "answer_objective" (C8.fnScope s_answer_objective) s.heap.objs.size f cdv))) : PSs (cxOf C8.CX0 P w c.K mg base n_answer_objective "answer_objective" (C8.fnScope s_answer_objective) f cdv A outer s H E).nox (C8.fnBody s_answer_objective) (t_answer_objective c sp_error_part sp_penalty_part) :=
  pss_cons (ps_set (i := 2) sc_answer_objective.nd rfl (.inl rfl) (C8.pe_c c_error_part hr (by decide) (by rfl) (pa_cons (pv 0) (pa_nil))))
  (pss_cons (ps_set (i := 3) sc_answer_objective.nd rfl (.inl rfl) (C8.pe_c c_penalty_part hr (by decide) (by rfl) (pa_cons (pv 0) (pa_nil))))
  (pss_one (ps_ret (pe_lst (pa_cons (pe_int) (pa_cons (pe_op op_add (pv 2) (pv 3)) (pa_cons (pv 2) (pa_cons (pv 3) (pa_nil)))))))))

/-- answer_curve -/
def t_answer_curve (c : Cs) (sp_coming_objectives : Sp) : TS :=
  tSeq (tAsg (tOp (rIxL c.K) (tVar 1) (tC (.int 0))) (gName 2))
  (tSeq (tIfS (tTest (tOp rGt2 (tVar 2) (tC (.int 20)))) (tRet (tLst (tCons (tC (.int (-22))) (tNil)))) (tNext))
  (tRet (tOp rCat (tLst (tCons (tVar 2) (tNil))) (tCall sp_coming_objectives [] C8.E0 (tCons (tVar 0) (tCons (tVar 2) (tNil)))))))
theorem d_answer_curve {P : Program} {w : World} {mg : Str → Option Value} {base : Heap} {c : Cs} {sp_coming_objectives : Sp} {f : Addr} {cdv : Value} {A : Around} {outer : List Env} {s : Shared} {H : Hp} {E : XK} (T : Tx c mg) (c_coming_objectives : C8.Cal P w c.K mg base 8 "coming_objectives" sp_coming_objectives [])
    (hr : Room 8 (A.deeper (envOfC "answer_curve" (C8.fnScope s_answer_curve) s.heap.objs.size f cdv))) : PSs (cxOf C8.CX0 P w c.K mg base n_answer_curve "answer_curve" (C8.fnScope s_answer_curve) f cdv A outer s H E).nox (C8.fnBody s_answer_curve) (t_answer_curve c sp_coming_objectives) :=
  pss_cons (ps_set (i := 2) sc_answer_curve.nd rfl (.inl rfl) (pe_ix ix_list (pv 1) (pe_int) (fun _ _ => rfl)))
  (pss_cons (ps_if (pt_cmpR op_gt (pv 2) (C8.pe_gc (by rfl) T.g_LONGEST_CURVE) (nomark _)) (pss_one (ps_ret (pe_lst (pa_cons (C8.pe_gc (by rfl) T.g_OUTSIDE_LIMITS) (pa_nil))))) (pss_nil))
  (pss_one (ps_ret (pe_op op_cat (pe_lst (pa_cons (pv 2) (pa_nil))) (C8.pe_c c_coming_objectives hr (by decide) (by rfl) (pa_cons (pv 0) (pa_cons (pv 2) (pa_nil))))))))

/-- answer_certificate -/
def t_answer_certificate (c : Cs) (sp_first_improvable : Sp) : TS :=
  tSeq (tAsg (tCall sp_first_improvable [] C8.E0 (tCons (tVar 0) (tNil))) (gName 2))
  (tSeq (tIfS (tTest (tOp rEq (tCB (rLenS c.K) (tCons (tVar 2) (tNil))) (tC (.int 0)))) (tRet (tLst (tCons (tC (.int 1)) (tNil)))) (tNext))
  (tRet (tOp rCat (tLst (tCons (tC (.int 0)) (tNil))) (tVar 2))))
theorem d_answer_certificate {P : Program} {w : World} {mg : Str → Option Value} {base : Heap} {c : Cs} {sp_first_improvable : Sp} {f : Addr} {cdv : Value} {A : Around} {outer : List Env} {s : Shared} {H : Hp} {E : XK} (T : Tx c mg) (c_first_improvable : C8.Cal P w c.K mg base 6 "first_improvable" sp_first_improvable [])
    (hr : Room 6 (A.deeper (envOfC "answer_certificate" (C8.fnScope s_answer_certificate) s.heap.objs.size f cdv))) : PSs (cxOf C8.CX0 P w c.K mg base n_answer_certificate "answer_certificate" (C8.fnScope s_answer_certificate) f cdv A outer s H E).nox (C8.fnBody s_answer_certificate) (t_answer_certificate c sp_first_improvable) :=
  pss_cons (ps_set (i := 2) sc_answer_certificate.nd rfl (.inl rfl) (C8.pe_c c_first_improvable hr (by decide) (by rfl) (pa_cons (pv 0) (pa_nil))))
  (pss_cons (ps_if (pt_cmpR op_eq (pe_callB call_len_seq (by rfl) T.n_len bt_len (pa_cons (pv 2) (pa_nil))) (pe_int) (nomark _)) (pss_one (ps_ret (pe_lst (pa_cons (pe_int) (pa_nil))))) (pss_nil))
  (pss_one (ps_ret (pe_op op_cat (pe_lst (pa_cons (pe_int) (pa_nil))) (pv 2)))))

/-- answer_quadratic -/
def t_answer_quadratic (c : Cs) (sp_has_parameter : Sp) (sp_quadratic_of : Sp) : TS :=
  tSeq (tAsg (tOp (rIxL c.K) (tVar 1) (tC (.int 0))) (gName 3))
  (tSeq (tAsg (tOp (rIxL c.K) (tVar 1) (tC (.int 1))) (gName 4))
  (tSeq (tAsg (tOp (rIxL c.K) (tVar 1) (tC (.int 2))) (gName 5))
  (tSeq (tIfS (tNot (tB (tMeth c.S "has_parameter" sp_has_parameter [] C8.E0 (tFld c.K (tVar 0) "settings") (tCons (tVar 3) (tCons (tVar 4) (tCons (tVar 5) (tNil))))))) (tRet (tLst (tCons (tC (.int (-2))) (tNil)))) (tNext))
  (tSeq (tAsg (tCall sp_quadratic_of [] C8.E0 (tCons (tVar 0) (tCons (tVar 3) (tCons (tVar 4) (tCons (tVar 5) (tNil)))))) (gName 2))
  (tRet (tLst (tCons (tC (.int 0)) (tCons (tFld c.K (tVar 2) "curvature") (tCons (tFld c.K (tVar 2) "slope") (tNil))))))))))
theorem d_answer_quadratic {P : Program} {w : World} {mg : Str → Option Value} {base : Heap} {c : Cs} {sp_has_parameter : Sp} {sp_quadratic_of : Sp} {f : Addr} {cdv : Value} {A : Around} {outer : List Env} {s : Shared} {H : Hp} {E : XK} (T : Tx c mg) (c_has_parameter : C8.Met P w c.K mg base 2 c.S "has_parameter" sp_has_parameter []) (c_quadratic_of : C8.Cal P w c.K mg base 4 "quadratic_of" sp_quadratic_of [])
    (hr : Room 4 (A.deeper (envOfC "answer_quadratic" (C8.fnScope s_answer_quadratic) s.heap.objs.size f cdv))) : PSs (cxOf C8.CX0 P w c.K mg base n_answer_quadratic "answer_quadratic" (C8.fnScope s_answer_quadratic) f cdv A outer s H E).nox (C8.fnBody s_answer_quadratic) (t_answer_quadratic c sp_has_parameter sp_quadratic_of) :=
  pss_cons (ps_set (i := 3) sc_answer_quadratic.nd rfl (.inl rfl) (pe_ix ix_list (pv 1) (pe_int) (fun _ _ => rfl)))
  (pss_cons (ps_set (i := 4) sc_answer_quadratic.nd rfl (.inl rfl) (pe_ix ix_list (pv 1) (pe_int) (fun _ _ => rfl)))
  (pss_cons (ps_set (i := 5) sc_answer_quadratic.nd rfl (.inl rfl) (pe_ix ix_list (pv 1) (pe_int) (fun _ _ => rfl)))
  (pss_cons (ps_if (pt_not (pt_val (C8.pe_mt c_has_parameter hr (by decide) (pe_fld (pv 0) rfl) (pa_cons (pv 3) (pa_cons (pv 4) (pa_cons (pv 5) (pa_nil))))))) (pss_one (ps_ret (pe_lst (pa_cons (C8.pe_gc (by rfl) T.g_NOT_THERE) (pa_nil))))) (pss_nil))
  (pss_cons (ps_set (i := 2) sc_answer_quadratic.nd rfl (.inl rfl) (C8.pe_c c_quadratic_of hr (by decide) (by rfl) (pa_cons (pv 0) (pa_cons (pv 3) (pa_cons (pv 4) (pa_cons (pv 5) (pa_nil)))))))
  (pss_one (ps_ret (pe_lst (pa_cons (pe_int) (pa_cons (pe_fld (pv 2) rfl) (pa_cons (pe_fld (pv 2) rfl) (pa_nil)))))))))))

/-- answer_parameter -/
def t_answer_parameter (c : Cs) (sp_has_parameter : Sp) : TS :=
  tSeq (tAsg (tOp (rIxL c.K) (tVar 1) (tC (.int 0))) (gName 2))
  (tSeq (tAsg (tOp (rIxL c.K) (tVar 1) (tC (.int 1))) (gName 3))
  (tSeq (tAsg (tOp (rIxL c.K) (tVar 1) (tC (.int 2))) (gName 4))
  (tSeq (tIfS (tNot (tB (tMeth c.S "has_parameter" sp_has_parameter [] C8.E0 (tFld c.K (tVar 0) "settings") (tCons (tVar 2) (tCons (tVar 3) (tCons (tVar 4) (tNil))))))) (tRet (tLst (tCons (tC (.int (-2))) (tNil)))) (tNext))
  (tRet (tLst (tCons (tC (.int 0)) (tCons (tOp (rIxL c.K) (tOp (rIxL c.K) (tOp (rIxT c.K) (tFld c.K (tVar 0) "rows") (tVar 2)) (tVar 3)) (tVar 4)) (tNil))))))))
theorem d_answer_parameter {P : Program} {w : World} {mg : Str → Option Value} {base : Heap} {c : Cs} {sp_has_parameter : Sp} {f : Addr} {cdv : Value} {A : Around} {outer : List Env} {s : Shared} {H : Hp} {E : XK} (T : Tx c mg) (c_has_parameter : C8.Met P w c.K mg base 2 c.S "has_parameter" sp_has_parameter [])
    (hr : Room 2 (A.deeper (envOfC "answer_parameter" (C8.fnScope s_answer_parameter) s.heap.objs.size f cdv))) : PSs (cxOf C8.CX0 P w c.K mg base n_answer_parameter "answer_parameter" (C8.fnScope s_answer_parameter) f cdv A outer s H E).nox (C8.fnBody s_answer_parameter) (t_answer_parameter c sp_has_parameter) :=
  pss_cons (ps_set (i := 2) sc_answer_parameter.nd rfl (.inl rfl) (pe_ix ix_list (pv 1) (pe_int) (fun _ _ => rfl)))
  (pss_cons (ps_set (i := 3) sc_answer_parameter.nd rfl (.inl rfl) (pe_ix ix_list (pv 1) (pe_int) (fun _ _ => rfl)))
  (pss_cons (ps_set (i := 4) sc_answer_parameter.nd rfl (.inl rfl) (pe_ix ix_list (pv 1) (pe_int) (fun _ _ => rfl)))
  (pss_cons (ps_if (pt_not (pt_val (C8.pe_mt c_has_parameter hr (by decide) (pe_fld (pv 0) rfl) (pa_cons (pv 2) (pa_cons (pv 3) (pa_cons (pv 4) (pa_nil))))))) (pss_one (ps_ret (pe_lst (pa_cons (C8.pe_gc (by rfl) T.g_NOT_THERE) (pa_nil))))) (pss_nil))
  (pss_one (ps_ret (pe_lst (pa_cons (pe_int) (pa_cons (pe_ix ix_list (pe_ix ix_list (pe_ix ix_tup (pe_fld (pv 0) rfl) (pv 2) (fun _ _ => rfl)) (pv 3) (fun _ _ => rfl)) (pv 4) (fun _ _ => rfl)) (pa_nil)))))))))

/-- answer_set_parameter -/
def t_answer_set_parameter (c : Cs) (sp_has_parameter : Sp) (sp_is_in_range : Sp) : TS :=
  tSeq (tAsg (tOp (rIxL c.K) (tVar 1) (tC (.int 0))) (gName 2))
  (tSeq (tAsg (tOp (rIxL c.K) (tVar 1) (tC (.int 1))) (gName 4))
  (tSeq (tAsg (tOp (rIxL c.K) (tVar 1) (tC (.int 2))) (gName 6))
  (tSeq (tAsg (tOp (rIxL c.K) (tVar 1) (tC (.int 3))) (gName 3))
  (tSeq (tAsg (tOp (rIxL c.K) (tVar 1) (tC (.int 4))) (gName 8))
  (tSeq (tIfS (tNot (tB (tMeth c.S "has_parameter" sp_has_parameter [] C8.E0 (tFld c.K (tVar 0) "settings") (tCons (tVar 2) (tCons (tVar 4) (tCons (tVar 6) (tNil))))))) (tRet (tLst (tCons (tC (.int (-2))) (tNil)))) (tNext))
  (tSeq (tAsg (tIf (tTest (tOp rEq (tVar 3) (tC (.int 1)))) (tUn rNeg (tVar 8)) (tVar 8)) (gName 9))
  (tSeq (tIfS (tOr (tTest (tOp rGt2 (tVar 3) (tC (.int 1)))) (tNot (tB (tMeth c.S "is_in_range" sp_is_in_range [] C8.E0 (tFld c.K (tVar 0) "settings") (tCons (tVar 6) (tCons (tVar 9) (tNil))))))) (tRet (tLst (tCons (tC (.int (-22))) (tNil)))) (tNext))
  (tSeq (tAsg (tOp (rIxL c.K) (tOp (rIxT c.K) (tFld c.K (tVar 0) "rows") (tVar 2)) (tVar 4)) (gName 7))
  (tSeq (tAsg (tOp (rIxL c.K) (tVar 7) (tVar 6)) (gName 5))
  (tSeq (tAsg (tVar 9) (gSub (tVar 7) (tVar 6) rSetL))
  (tRet (tLst (tCons (tC (.int 0)) (tCons (tVar 5) (tNil)))))))))))))))
theorem d_answer_set_parameter {P : Program} {w : World} {mg : Str → Option Value} {base : Heap} {c : Cs} {sp_has_parameter : Sp} {sp_is_in_range : Sp} {f : Addr} {cdv : Value} {A : Around} {outer : List Env} {s : Shared} {H : Hp} {E : XK} (T : Tx c mg) (c_has_parameter : C8.Met P w c.K mg base 2 c.S "has_parameter" sp_has_parameter []) (c_is_in_range : C8.Met P w c.K mg base 2 c.S "is_in_range" sp_is_in_range [])
    (hr : Room 2 (A.deeper (envOfC "answer_set_parameter" (C8.fnScope s_answer_set_parameter) s.heap.objs.size f cdv))) : PSs (cxOf C8.CX0 P w c.K mg base n_answer_set_parameter "answer_set_parameter" (C8.fnScope s_answer_set_parameter) f cdv A outer s H E).nox (C8.fnBody s_answer_set_parameter) (t_answer_set_parameter c sp_has_parameter sp_is_in_range) :=
  pss_cons (ps_set (i := 2) sc_answer_set_parameter.nd rfl (.inl rfl) (pe_ix ix_list (pv 1) (pe_int) (fun _ _ => rfl)))
  (pss_cons (ps_set (i := 4) sc_answer_set_parameter.nd rfl (.inl rfl) (pe_ix ix_list (pv 1) (pe_int) (fun _ _ => rfl)))
  (pss_cons (ps_set (i := 6) sc_answer_set_parameter.nd rfl (.inl rfl) (pe_ix ix_list (pv 1) (pe_int) (fun _ _ => rfl)))
  (pss_cons (ps_set (i := 3) sc_answer_set_parameter.nd rfl (.inl rfl) (pe_ix ix_list (pv 1) (pe_int) (fun _ _ => rfl)))
  (pss_cons (ps_set (i := 8) sc_answer_set_parameter.nd rfl (.inl rfl) (pe_ix ix_list (pv 1) (pe_int) (fun _ _ => rfl)))
  (pss_cons (ps_if (pt_not (pt_val (C8.pe_mt c_has_parameter hr (by decide) (pe_fld (pv 0) rfl) (pa_cons (pv 2) (pa_cons (pv 4) (pa_cons (pv 6) (pa_nil))))))) (pss_one (ps_ret (pe_lst (pa_cons (C8.pe_gc (by rfl) T.g_NOT_THERE) (pa_nil))))) (pss_nil))
  (pss_cons (ps_set (i := 9) sc_answer_set_parameter.nd rfl (.inl rfl) (pe_ifExp (pt_cmpR op_eq (pv 3) (pe_int) (nomark _)) (pe_un un_neg (pv 8)) (pv 8)))
  (pss_cons (ps_if (PW.pt (pw_or (pt_cmpR op_gt (pv 3) (pe_int) (nomark _)) (pw_or1 (pt_not (pt_val (C8.pe_mt c_is_in_range hr (by decide) (pe_fld (pv 0) rfl) (pa_cons (pv 6) (pa_cons (pv 9) (pa_nil))))))))) (pss_one (ps_ret (pe_lst (pa_cons (C8.pe_gc (by rfl) T.g_OUTSIDE_LIMITS) (pa_nil))))) (pss_nil))
  (pss_cons (ps_set (i := 7) sc_answer_set_parameter.nd rfl (.inl rfl) (pe_ix ix_list (pe_ix ix_tup (pe_fld (pv 0) rfl) (pv 2) (fun _ _ => rfl)) (pv 4) (fun _ _ => rfl)))
  (pss_cons (ps_set (i := 5) sc_answer_set_parameter.nd rfl (.inl rfl) (pe_ix ix_list (pv 7) (pv 6) (fun _ _ => rfl)))
  (pss_cons (ps_asg (pv 9) (pg_sub (pv 7) (pv 6) set_list))
  (pss_one (ps_ret (pe_lst (pa_cons (pe_int) (pa_cons (pv 5) (pa_nil))))))))))))))))

end Lk
set_option Elab.async false
set_option maxRecDepth 100000
set_option maxHeartbeats 5000000
set_option linter.all false
namespace Lk
open PySem PySem.Spec PyProof.Rows L2 Evl
/-- answer_predict -/
def t_answer_predict (c : Cs) (sp_has_pair : Sp) (sp_prediction : Sp) : TS :=
  tSeq (tAsg (tOp (rIxL c.K) (tVar 1) (tC (.int 0))) (gName 3))
  (tSeq (tAsg (tOp (rIxL c.K) (tVar 1) (tC (.int 1))) (gName 2))
  (tSeq (tIfS (tNot (tB (tMeth c.S "has_pair" sp_has_pair [] C8.E0 (tFld c.K (tVar 0) "settings") (tCons (tVar 3) (tCons (tVar 2) (tNil)))))) (tRet (tLst (tCons (tC (.int (-2))) (tNil)))) (tNext))
  (tRet (tLst (tCons (tC (.int 0)) (tCons (tMeth c.M "prediction" sp_prediction [] C8.E0 (tVar 0) (tCons (tVar 3) (tCons (tVar 2) (tNil)))) (tNil)))))))
theorem d_answer_predict {P : Program} {w : World} {mg : Str → Option Value} {base : Heap} {c : Cs} {sp_has_pair : Sp} {sp_prediction : Sp} {f : Addr} {cdv : Value} {A : Around} {outer : List Env} {s : Shared} {H : Hp} {E : XK} (T : Tx c mg) (c_has_pair : C8.Met P w c.K mg base 2 c.S "has_pair" sp_has_pair []) (c_prediction : C8.Met P w c.K mg base 2 c.M "prediction" sp_prediction [])
    (hr : Room 2 (A.deeper (envOfC "answer_predict" (C8.fnScope s_answer_predict) s.heap.objs.size f cdv))) : PSs (cxOf C8.CX0 P w c.K mg base n_answer_predict "answer_predict" (C8.fnScope s_answer_predict) f cdv A outer s H E).nox (C8.fnBody s_answer_predict) (t_answer_predict c sp_has_pair sp_prediction) :=
  pss_cons (ps_set (i := 3) sc_answer_predict.nd rfl (.inl rfl) (pe_ix ix_list (pv 1) (pe_int) (fun _ _ => rfl)))
  (pss_cons (ps_set (i := 2) sc_answer_predict.nd rfl (.inl rfl) (pe_ix ix_list (pv 1) (pe_int) (fun _ _ => rfl)))
  (pss_cons (ps_if (pt_not (pt_val (C8.pe_mt c_has_pair hr (by decide) (pe_fld (pv 0) rfl) (pa_cons (pv 3) (pa_cons (pv 2) (pa_nil)))))) (pss_one (ps_ret (pe_lst (pa_cons (C8.pe_gc (by rfl) T.g_NOT_THERE) (pa_nil))))) (pss_nil))
  (pss_one (ps_ret (pe_lst (pa_cons (pe_int) (pa_cons (C8.pe_mt c_prediction hr (by decide) (pv 0) (pa_cons (pv 3) (pa_cons (pv 2) (pa_nil)))) (pa_nil))))))))

/-- answer_explain -/
def t_answer_explain (c : Cs) (sp_has_pair : Sp) (sp_prediction_parts : Sp) : TS :=
  tSeq (tAsg (tOp (rIxL c.K) (tVar 1) (tC (.int 0))) (gName 4))
  (tSeq (tAsg (tOp (rIxL c.K) (tVar 1) (tC (.int 1))) (gName 2))
  (tSeq (tIfS (tNot (tB (tMeth c.S "has_pair" sp_has_pair [] C8.E0 (tFld c.K (tVar 0) "settings") (tCons (tVar 4) (tCons (tVar 2) (tNil)))))) (tRet (tLst (tCons (tC (.int (-2))) (tNil)))) (tNext))
  (tSeq (tAsg (tMeth c.M "prediction_parts" sp_prediction_parts [] C8.E0 (tVar 0) (tCons (tVar 4) (tCons (tVar 2) (tNil)))) (gName 3))
  (tRet (tOp rCat (tLst (tCons (tCB (rLenS c.K) (tCons (tVar 3) (tNil))) (tNil))) (tVar 3))))))
theorem d_answer_explain {P : Program} {w : World} {mg : Str → Option Value} {base : Heap} {c : Cs} {sp_has_pair : Sp} {sp_prediction_parts : Sp} {f : Addr} {cdv : Value} {A : Around} {outer : List Env} {s : Shared} {H : Hp} {E : XK} (T : Tx c mg) (c_has_pair : C8.Met P w c.K mg base 2 c.S "has_pair" sp_has_pair []) (c_prediction_parts : C8.Met P w c.K mg base 1 c.M "prediction_parts" sp_prediction_parts [])
    (hr : Room 2 (A.deeper (envOfC "answer_explain" (C8.fnScope s_answer_explain) s.heap.objs.size f cdv))) : PSs (cxOf C8.CX0 P w c.K mg base n_answer_explain "answer_explain" (C8.fnScope s_answer_explain) f cdv A outer s H E).nox (C8.fnBody s_answer_explain) (t_answer_explain c sp_has_pair sp_prediction_parts) :=
  pss_cons (ps_set (i := 4) sc_answer_explain.nd rfl (.inl rfl) (pe_ix ix_list (pv 1) (pe_int) (fun _ _ => rfl)))
  (pss_cons (ps_set (i := 2) sc_answer_explain.nd rfl (.inl rfl) (pe_ix ix_list (pv 1) (pe_int) (fun _ _ => rfl)))
  (pss_cons (ps_if (pt_not (pt_val (C8.pe_mt c_has_pair hr (by decide) (pe_fld (pv 0) rfl) (pa_cons (pv 4) (pa_cons (pv 2) (pa_nil)))))) (pss_one (ps_ret (pe_lst (pa_cons (C8.pe_gc (by rfl) T.g_NOT_THERE) (pa_nil))))) (pss_nil))
  (pss_cons (ps_set (i := 3) sc_answer_explain.nd rfl (.inl rfl) (C8.pe_mt c_prediction_parts hr (by decide) (pv 0) (pa_cons (pv 4) (pa_cons (pv 2) (pa_nil)))))
  (pss_one (ps_ret (pe_op op_cat (pe_lst (pa_cons (pe_callB call_len_seq (by rfl) T.n_len bt_len (pa_cons (pv 3) (pa_nil))) (pa_nil))) (pv 3)))))))

/-- listed -/
def t_listed (c : Cs) : TS :=
  tSeq (tAsg (tLst (tCons (tCB (rLenS c.K) (tCons (tVar 0) (tNil))) (tNil))) (gName 1))
  (tSeq (tFor (iList c.K (tVar 0)) (gName 2) (tDrop (tBM c.K "list" (rExtendT c.K) (tVar 1) (tCons (tVar 2) (tNil)))))
  (tRet (tVar 1)))
theorem d_listed {P : Program} {w : World} {mg : Str → Option Value} {base : Heap} {c : Cs} {f : Addr} {cdv : Value} {A : Around} {outer : List Env} {s : Shared} {H : Hp} {E : XK} (T : Tx c mg)
    (hr : Room 0 (A.deeper (envOfC "listed" (C8.fnScope s_listed) s.heap.objs.size f cdv))) : PSs (cxOf C8.CX0 P w c.K mg base n_listed "listed" (C8.fnScope s_listed) f cdv A outer s H E).nox (C8.fnBody s_listed) (t_listed c) :=
  pss_cons (ps_set (i := 1) sc_listed.nd rfl (.inl rfl) (pe_lst (pa_cons (pe_callB call_len_seq (by rfl) T.n_len bt_len (pa_cons (pv 0) (pa_nil))) (pa_nil))))
  (pss_cons (ps_for PassesOwn.never rfl (pi_list (pv 0)) (pg_name (i := 2) sc_listed.nd rfl (Or.inl rfl)) (pss_one (ps_expr (pe_bm PySem.F.plainAttrs_list PySem.F.slot_list_extend PySem.F.type_list_extend mt_extendT (pv 1) (pa_cons (pv 2) (pa_nil))))))
  (pss_one (ps_ret (pv 1))))

/-- answer_residuals -/
def t_answer_residuals (c : Cs) (sp_has_user : Sp) (sp_listed : Sp) (sp_residuals_of : Sp) : TS :=
  tSeq (tAsg (tOp (rIxL c.K) (tVar 1) (tC (.int 0))) (gName 2))
  (tSeq (tIfS (tNot (tB (tMeth c.S "has_user" sp_has_user [] C8.E0 (tFld c.K (tVar 0) "settings") (tCons (tVar 2) (tNil))))) (tRet (tLst (tCons (tC (.int (-2))) (tNil)))) (tNext))
  (tRet (tCall sp_listed [] C8.E0 (tCons (tMeth c.M "residuals_of" sp_residuals_of [] C8.E0 (tVar 0) (tCons (tC (.int 0)) (tCons (tVar 2) (tNil)))) (tNil)))))
theorem d_answer_residuals {P : Program} {w : World} {mg : Str → Option Value} {base : Heap} {c : Cs} {sp_has_user : Sp} {sp_listed : Sp} {sp_residuals_of : Sp} {f : Addr} {cdv : Value} {A : Around} {outer : List Env} {s : Shared} {H : Hp} {E : XK} (T : Tx c mg) (c_has_user : C8.Met P w c.K mg base 1 c.S "has_user" sp_has_user []) (c_listed : C8.Cal P w c.K mg base 1 "listed" sp_listed []) (c_residuals_of : C8.Met P w c.K mg base 3 c.M "residuals_of" sp_residuals_of [])
    (hr : Room 3 (A.deeper (envOfC "answer_residuals" (C8.fnScope s_answer_residuals) s.heap.objs.size f cdv))) : PSs (cxOf C8.CX0 P w c.K mg base n_answer_residuals "answer_residuals" (C8.fnScope s_answer_residuals) f cdv A outer s H E).nox (C8.fnBody s_answer_residuals) (t_answer_residuals c sp_has_user sp_listed sp_residuals_of) :=
  pss_cons (ps_set (i := 2) sc_answer_residuals.nd rfl (.inl rfl) (pe_ix ix_list (pv 1) (pe_int) (fun _ _ => rfl)))
  (pss_cons (ps_if (pt_not (pt_val (C8.pe_mt c_has_user hr (by decide) (pe_fld (pv 0) rfl) (pa_cons (pv 2) (pa_nil))))) (pss_one (ps_ret (pe_lst (pa_cons (C8.pe_gc (by rfl) T.g_NOT_THERE) (pa_nil))))) (pss_nil))
  (pss_one (ps_ret (C8.pe_c c_listed hr (by decide) (by rfl) (pa_cons (C8.pe_mt c_residuals_of hr (by decide) (pv 0) (pa_cons (C8.pe_gc (by rfl) T.g_USER) (pa_cons (pv 2) (pa_nil)))) (pa_nil))))))

/-- answer_mean_error -/
def t_answer_mean_error (c : Cs) (sp_all_ratings : Sp) (sp_mean_error : Sp) : TS :=
  tSeq (tIfS (tTest (tOp rEq (tCB (rLenS c.K) (tCons (tMeth c.M "all_ratings" sp_all_ratings [] C8.E0 (tVar 0) tNil) (tNil))) (tC (.int 0)))) (tRet (tLst (tCons (tC (.int (-33))) (tNil)))) (tNext))
  (tRet (tOp rCat (tLst (tCons (tC (.int 0)) (tNil))) (tCall sp_mean_error [] C8.E0 (tCons (tVar 0) (tNil)))))
theorem d_answer_mean_error {P : Program} {w : World} {mg : Str → Option Value} {base : Heap} {c : Cs} {sp_all_ratings : Sp} {sp_mean_error : Sp} {f : Addr} {cdv : Value} {A : Around} {outer : List Env} {s : Shared} {H : Hp} {E : XK} (T : Tx c mg) (c_all_ratings : C8.Met P w c.K mg base 2 c.M "all_ratings" sp_all_ratings []) (c_mean_error : C8.Cal P w c.K mg base 5 "mean_error" sp_mean_error [])
    (hr : Room 5 (A.deeper (envOfC "answer_mean_error" (C8.fnScope s_answer_mean_error) s.heap.objs.size f cdv))) : PSs (cxOf C8.CX0 P w c.K mg base n_answer_mean_error "answer_mean_error" (C8.fnScope s_answer_mean_error) f cdv A outer s H E).nox (C8.fnBody s_answer_mean_error) (t_answer_mean_error c sp_all_ratings sp_mean_error) :=
  pss_cons (ps_if (pt_cmpR op_eq (pe_callB call_len_seq (by rfl) T.n_len bt_len (pa_cons (C8.pe_mt0 c_all_ratings hr (by decide) (pv 0)) (pa_nil))) (pe_int) (nomark _)) (pss_one (ps_ret (pe_lst (pa_cons (C8.pe_gc (by rfl) T.g_NO_SUCH_RATING) (pa_nil))))) (pss_nil))
  (pss_one (ps_ret (pe_op op_cat (pe_lst (pa_cons (pe_int) (pa_nil))) (C8.pe_c c_mean_error hr (by decide) (by rfl) (pa_cons (pv 0) (pa_nil))))))

/-- answer_recommend -/
def t_answer_recommend (c : Cs) (sp_has_user : Sp) (sp_listed : Sp) (sp_recommended : Sp) : TS :=
  tSeq (tAsg (tOp (rIxL c.K) (tVar 1) (tC (.int 0))) (gName 3))
  (tSeq (tAsg (tOp (rIxL c.K) (tVar 1) (tC (.int 1))) (gName 2))
  (tSeq (tIfS (tNot (tB (tMeth c.S "has_user" sp_has_user [] C8.E0 (tFld c.K (tVar 0) "settings") (tCons (tVar 3) (tNil))))) (tRet (tLst (tCons (tC (.int (-2))) (tNil)))) (tNext))
  (tRet (tCall sp_listed [] C8.E0 (tCons (tCall sp_recommended [] C8.E0 (tCons (tVar 0) (tCons (tVar 3) (tCons (tVar 2) (tNil))))) (tNil))))))
theorem d_answer_recommend {P : Program} {w : World} {mg : Str → Option Value} {base : Heap} {c : Cs} {sp_has_user : Sp} {sp_listed : Sp} {sp_recommended : Sp} {f : Addr} {cdv : Value} {A : Around} {outer : List Env} {s : Shared} {H : Hp} {E : XK} (T : Tx c mg) (c_has_user : C8.Met P w c.K mg base 1 c.S "has_user" sp_has_user []) (c_listed : C8.Cal P w c.K mg base 1 "listed" sp_listed []) (c_recommended : C8.Cal P w c.K mg base 6 "recommended" sp_recommended [])
    (hr : Room 6 (A.deeper (envOfC "answer_recommend" (C8.fnScope s_answer_recommend) s.heap.objs.size f cdv))) : PSs (cxOf C8.CX0 P w c.K mg base n_answer_recommend "answer_recommend" (C8.fnScope s_answer_recommend) f cdv A outer s H E).nox (C8.fnBody s_answer_recommend) (t_answer_recommend c sp_has_user sp_listed sp_recommended) :=
  pss_cons (ps_set (i := 3) sc_answer_recommend.nd rfl (.inl rfl) (pe_ix ix_list (pv 1) (pe_int) (fun _ _ => rfl)))
  (pss_cons (ps_set (i := 2) sc_answer_recommend.nd rfl (.inl rfl) (pe_ix ix_list (pv 1) (pe_int) (fun _ _ => rfl)))
  (pss_cons (ps_if (pt_not (pt_val (C8.pe_mt c_has_user hr (by decide) (pe_fld (pv 0) rfl) (pa_cons (pv 3) (pa_nil))))) (pss_one (ps_ret (pe_lst (pa_cons (C8.pe_gc (by rfl) T.g_NOT_THERE) (pa_nil))))) (pss_nil))
  (pss_one (ps_ret (C8.pe_c c_listed hr (by decide) (by rfl) (pa_cons (C8.pe_c c_recommended hr (by decide) (by rfl) (pa_cons (pv 0) (pa_cons (pv 3) (pa_cons (pv 2) (pa_nil))))) (pa_nil)))))))

/-- answer_similar -/
def t_answer_similar (c : Cs) (sp_has_row : Sp) (sp_similar_rows : Sp) : TS :=
  tSeq (tAsg (tOp (rIxL c.K) (tVar 1) (tC (.int 0))) (gName 4))
  (tSeq (tAsg (tOp (rIxL c.K) (tVar 1) (tC (.int 1))) (gName 5))
  (tSeq (tAsg (tOp (rIxL c.K) (tVar 1) (tC (.int 2))) (gName 2))
  (tSeq (tIfS (tTest (tOp rGt2 (tVar 4) (tC (.int 1)))) (tRet (tLst (tCons (tC (.int (-22))) (tNil)))) (tNext))
  (tSeq (tIfS (tNot (tB (tMeth c.S "has_row" sp_has_row [] C8.E0 (tFld c.K (tVar 0) "settings") (tCons (tVar 4) (tCons (tVar 5) (tNil)))))) (tRet (tLst (tCons (tC (.int (-2))) (tNil)))) (tNext))
  (tSeq (tAsg (tCall sp_similar_rows [] C8.E0 (tCons (tVar 0) (tCons (tVar 4) (tCons (tVar 5) (tCons (tVar 2) (tNil)))))) (gName 3))
  (tRet (tOp rCat (tLst (tCons (tCB (rLenS c.K) (tCons (tVar 3) (tNil))) (tNil))) (tVar 3))))))))
theorem d_answer_similar {P : Program} {w : World} {mg : Str → Option Value} {base : Heap} {c : Cs} {sp_has_row : Sp} {sp_similar_rows : Sp} {f : Addr} {cdv : Value} {A : Around} {outer : List Env} {s : Shared} {H : Hp} {E : XK} (T : Tx c mg) (c_has_row : C8.Met P w c.K mg base 1 c.S "has_row" sp_has_row []) (c_similar_rows : C8.Cal P w c.K mg base 6 "similar_rows" sp_similar_rows [])
    (hr : Room 6 (A.deeper (envOfC "answer_similar" (C8.fnScope s_answer_similar) s.heap.objs.size f cdv))) : PSs (cxOf C8.CX0 P w c.K mg base n_answer_similar "answer_similar" (C8.fnScope s_answer_similar) f cdv A outer s H E).nox (C8.fnBody s_answer_similar) (t_answer_similar c sp_has_row sp_similar_rows) :=
  pss_cons (ps_set (i := 4) sc_answer_similar.nd rfl (.inl rfl) (pe_ix ix_list (pv 1) (pe_int) (fun _ _ => rfl)))
  (pss_cons (ps_set (i := 5) sc_answer_similar.nd rfl (.inl rfl) (pe_ix ix_list (pv 1) (pe_int) (fun _ _ => rfl)))
  (pss_cons (ps_set (i := 2) sc_answer_similar.nd rfl (.inl rfl) (pe_ix ix_list (pv 1) (pe_int) (fun _ _ => rfl)))
  (pss_cons (ps_if (pt_cmpR op_gt (pv 4) (C8.pe_gc (by rfl) T.g_ITEM) (nomark _)) (pss_one (ps_ret (pe_lst (pa_cons (C8.pe_gc (by rfl) T.g_OUTSIDE_LIMITS) (pa_nil))))) (pss_nil))
  (pss_cons (ps_if (pt_not (pt_val (C8.pe_mt c_has_row hr (by decide) (pe_fld (pv 0) rfl) (pa_cons (pv 4) (pa_cons (pv 5) (pa_nil)))))) (pss_one (ps_ret (pe_lst (pa_cons (C8.pe_gc (by rfl) T.g_NOT_THERE) (pa_nil))))) (pss_nil))
  (pss_cons (ps_set (i := 3) sc_answer_similar.nd rfl (.inl rfl) (C8.pe_c c_similar_rows hr (by decide) (by rfl) (pa_cons (pv 0) (pa_cons (pv 4) (pa_cons (pv 5) (pa_cons (pv 2) (pa_nil)))))))
  (pss_one (ps_ret (pe_op op_cat (pe_lst (pa_cons (pe_callB call_len_seq (by rfl) T.n_len bt_len (pa_cons (pv 3) (pa_nil))) (pa_nil))) (pv 3)))))))))

/-- answer_fold_in -/
def t_answer_fold_in (c : Cs) (sp_are_new_ratings : Sp) (sp_make_rounds : Sp) (sp_with_newcomer : Sp) : TS :=
  tSeq (tIfS (tNot (tB (tCall sp_are_new_ratings [] C8.E0 (tCons (tFld c.K (tVar 0) "settings") (tCons (tVar 1) (tNil)))))) (tRet (tLst (tCons (tC (.int (-22))) (tNil)))) (tNext))
  (tSeq (tAsg (tCall sp_with_newcomer [] C8.E0 (tCons (tVar 0) (tCons (tVar 1) (tNil)))) (gName 2))
  (tSeq (tAsg (tCall sp_make_rounds [] C8.E0 (tCons (tVar 2) (tNil))) (gName 3))
  (tRet (tOp rCat (tLst (tCons (tVar 3) (tNil))) (tOp (rIxL c.K) (tOp (rIxT c.K) (tFld c.K (tVar 2) "rows") (tC (.int 0))) (tC (.int 0)))))))
theorem d_answer_fold_in {P : Program} {w : World} {mg : Str → Option Value} {base : Heap} {c : Cs} {sp_are_new_ratings : Sp} {sp_make_rounds : Sp} {sp_with_newcomer : Sp} {f : Addr} {cdv : Value} {A : Around} {outer : List Env} {s : Shared} {H : Hp} {E : XK} (T : Tx c mg) (c_are_new_ratings : C8.Cal P w c.K mg base 2 "are_new_ratings" sp_are_new_ratings []) (c_make_rounds : C8.Cal P w c.K mg base 7 "make_rounds" sp_make_rounds []) (c_with_newcomer : C8.Cal P w c.K mg base 7 "with_newcomer" sp_with_newcomer [])
    (hr : Room 7 (A.deeper (envOfC "answer_fold_in" (C8.fnScope s_answer_fold_in) s.heap.objs.size f cdv))) : PSs (cxOf C8.CX0 P w c.K mg base n_answer_fold_in "answer_fold_in" (C8.fnScope s_answer_fold_in) f cdv A outer s H E).nox (C8.fnBody s_answer_fold_in) (t_answer_fold_in c sp_are_new_ratings sp_make_rounds sp_with_newcomer) :=
  pss_cons (ps_if (pt_not (pt_val (C8.pe_c c_are_new_ratings hr (by decide) (by rfl) (pa_cons (pe_fld (pv 0) rfl) (pa_cons (pv 1) (pa_nil)))))) (pss_one (ps_ret (pe_lst (pa_cons (C8.pe_gc (by rfl) T.g_OUTSIDE_LIMITS) (pa_nil))))) (pss_nil))
  (pss_cons (ps_set (i := 2) sc_answer_fold_in.nd rfl (.inl rfl) (C8.pe_c c_with_newcomer hr (by decide) (by rfl) (pa_cons (pv 0) (pa_cons (pv 1) (pa_nil)))))
  (pss_cons (ps_set (i := 3) sc_answer_fold_in.nd rfl (.inl rfl) (C8.pe_c c_make_rounds hr (by decide) (by rfl) (pa_cons (pv 2) (pa_nil))))
  (pss_one (ps_ret (pe_op op_cat (pe_lst (pa_cons (pv 3) (pa_nil))) (pe_ix ix_list (pe_ix ix_tup (pe_fld (pv 2) rfl) (C8.pe_gc (by rfl) T.g_USER) (fun _ _ => rfl)) (C8.pe_gc (by rfl) T.g_NEWCOMER) (fun _ _ => rfl)))))))

/-- answer_recommend_new -/
def t_answer_recommend_new (c : Cs) (sp_are_new_ratings : Sp) (sp_listed : Sp) (sp_make_rounds : Sp) (sp_recommended : Sp) (sp_with_newcomer : Sp) : TS :=
  tSeq (tAsg (tOp (rIxL c.K) (tVar 1) (tC (.int 0))) (gName 2))
  (tSeq (tAsg (tSl (rSlL c.K) (tVar 1) (tPart (tC (.int 1))) (tNoPart)) (gName 4))
  (tSeq (tIfS (tNot (tB (tCall sp_are_new_ratings [] C8.E0 (tCons (tFld c.K (tVar 0) "settings") (tCons (tVar 4) (tNil)))))) (tRet (tLst (tCons (tC (.int (-22))) (tNil)))) (tNext))
  (tSeq (tAsg (tCall sp_with_newcomer [] C8.E0 (tCons (tVar 0) (tCons (tVar 4) (tNil)))) (gName 3))
  (tSeq (tDrop (tCall sp_make_rounds [] C8.E0 (tCons (tVar 3) (tNil))))
  (tRet (tCall sp_listed [] C8.E0 (tCons (tCall sp_recommended [] C8.E0 (tCons (tVar 3) (tCons (tC (.int 0)) (tCons (tVar 2) (tNil))))) (tNil))))))))
theorem d_answer_recommend_new {P : Program} {w : World} {mg : Str → Option Value} {base : Heap} {c : Cs} {sp_are_new_ratings : Sp} {sp_listed : Sp} {sp_make_rounds : Sp} {sp_recommended : Sp} {sp_with_newcomer : Sp} {f : Addr} {cdv : Value} {A : Around} {outer : List Env} {s : Shared} {H : Hp} {E : XK} (T : Tx c mg) (c_are_new_ratings : C8.Cal P w c.K mg base 2 "are_new_ratings" sp_are_new_ratings []) (c_listed : C8.Cal P w c.K mg base 1 "listed" sp_listed []) (c_make_rounds : C8.Cal P w c.K mg base 7 "make_rounds" sp_make_rounds []) (c_recommended : C8.Cal P w c.K mg base 6 "recommended" sp_recommended []) (c_with_newcomer : C8.Cal P w c.K mg base 7 "with_newcomer" sp_with_newcomer [])
    (hr : Room 7 (A.deeper (envOfC "answer_recommend_new" (C8.fnScope s_answer_recommend_new) s.heap.objs.size f cdv))) : PSs (cxOf C8.CX0 P w c.K mg base n_answer_recommend_new "answer_recommend_new" (C8.fnScope s_answer_recommend_new) f cdv A outer s H E).nox (C8.fnBody s_answer_recommend_new) (t_answer_recommend_new c sp_are_new_ratings sp_listed sp_make_rounds sp_recommended sp_with_newcomer) :=
  pss_cons (ps_set (i := 2) sc_answer_recommend_new.nd rfl (.inl rfl) (pe_ix ix_list (pv 1) (pe_int) (fun _ _ => rfl)))
  (pss_cons (ps_set (i := 4) sc_answer_recommend_new.nd rfl (.inl rfl) (pe_slice sl_list (pv 1) (po_some (pe_int)) (po_none)))
  (pss_cons (ps_if (pt_not (pt_val (C8.pe_c c_are_new_ratings hr (by decide) (by rfl) (pa_cons (pe_fld (pv 0) rfl) (pa_cons (pv 4) (pa_nil)))))) (pss_one (ps_ret (pe_lst (pa_cons (C8.pe_gc (by rfl) T.g_OUTSIDE_LIMITS) (pa_nil))))) (pss_nil))
  (pss_cons (ps_set (i := 3) sc_answer_recommend_new.nd rfl (.inl rfl) (C8.pe_c c_with_newcomer hr (by decide) (by rfl) (pa_cons (pv 0) (pa_cons (pv 4) (pa_nil)))))
  (pss_cons (ps_expr (C8.pe_c c_make_rounds hr (by decide) (by rfl) (pa_cons (pv 3) (pa_nil))))
  (pss_one (ps_ret (C8.pe_c c_listed hr (by decide) (by rfl) (pa_cons (C8.pe_c c_recommended hr (by decide) (by rfl) (pa_cons (pv 3) (pa_cons (C8.pe_gc (by rfl) T.g_NEWCOMER) (pa_cons (pv 2) (pa_nil))))) (pa_nil)))))))))

/-- answer_without -/
def t_answer_without (c : Cs) (sp_begin_again : Sp) (sp_drop_ratings : Sp) (sp_has_user : Sp) (sp_train : Sp) (sp_whole_objective : Sp) : TS :=
  tSeq (tAsg (tOp (rIxL c.K) (tVar 1) (tC (.int 0))) (gName 3))
  (tSeq (tAsg (tOp (rIxL c.K) (tVar 1) (tC (.int 1))) (gName 2))
  (tSeq (tIfS (tNot (tB (tMeth c.S "has_user" sp_has_user [] C8.E0 (tFld c.K (tVar 0) "settings") (tCons (tVar 3) (tNil))))) (tRet (tLst (tCons (tC (.int (-2))) (tNil)))) (tNext))
  (tSeq (tIfS (tTest (tOp rGt2 (tVar 2) (tC (.int 100)))) (tRet (tLst (tCons (tC (.int (-22))) (tNil)))) (tNext))
  (tSeq (tDrop (tMeth c.M "drop_ratings" sp_drop_ratings [] C8.E0 (tVar 0) (tCons (tVar 3) (tNil))))
  (tSeq (tDrop (tMeth c.M "begin_again" sp_begin_again [] C8.E0 (tVar 0) tNil))
  (tRet (tOp rCat (tCall sp_train [] C8.E0 (tCons (tVar 0) (tCons (tVar 2) (tNil)))) (tLst (tCons (tCall sp_whole_objective [] C8.E0 (tCons (tVar 0) (tNil))) (tNil))))))))))
theorem d_answer_without {P : Program} {w : World} {mg : Str → Option Value} {base : Heap} {c : Cs} {sp_begin_again : Sp} {sp_drop_ratings : Sp} {sp_has_user : Sp} {sp_train : Sp} {sp_whole_objective : Sp} {f : Addr} {cdv : Value} {A : Around} {outer : List Env} {s : Shared} {H : Hp} {E : XK} (T : Tx c mg) (c_begin_again : C8.Met P w c.K mg base 4 c.M "begin_again" sp_begin_again []) (c_drop_ratings : C8.Met P w c.K mg base 2 c.M "drop_ratings" sp_drop_ratings []) (c_has_user : C8.Met P w c.K mg base 1 c.S "has_user" sp_has_user []) (c_train : C8.Cal P w c.K mg base 8 "train" sp_train []) (c_whole_objective : C8.Cal P w c.K mg base 5 "whole_objective" sp_whole_objective [])
    (hr : Room 8 (A.deeper (envOfC "answer_without" (C8.fnScope s_answer_without) s.heap.objs.size f cdv))) : PSs (cxOf C8.CX0 P w c.K mg base n_answer_without "answer_without" (C8.fnScope s_answer_without) f cdv A outer s H E).nox (C8.fnBody s_answer_without) (t_answer_without c sp_begin_again sp_drop_ratings sp_has_user sp_train sp_whole_objective) :=
  pss_cons (ps_set (i := 3) sc_answer_without.nd rfl (.inl rfl) (pe_ix ix_list (pv 1) (pe_int) (fun _ _ => rfl)))
  (pss_cons (ps_set (i := 2) sc_answer_without.nd rfl (.inl rfl) (pe_ix ix_list (pv 1) (pe_int) (fun _ _ => rfl)))
  (pss_cons (ps_if (pt_not (pt_val (C8.pe_mt c_has_user hr (by decide) (pe_fld (pv 0) rfl) (pa_cons (pv 3) (pa_nil))))) (pss_one (ps_ret (pe_lst (pa_cons (C8.pe_gc (by rfl) T.g_NOT_THERE) (pa_nil))))) (pss_nil))
  (pss_cons (ps_if (pt_cmpR op_gt (pv 2) (C8.pe_gc (by rfl) T.g_MOST_SWEEPS) (nomark _)) (pss_one (ps_ret (pe_lst (pa_cons (C8.pe_gc (by rfl) T.g_OUTSIDE_LIMITS) (pa_nil))))) (pss_nil))
  (pss_cons (ps_expr (C8.pe_mt c_drop_ratings hr (by decide) (pv 0) (pa_cons (pv 3) (pa_nil))))
  (pss_cons (ps_expr (C8.pe_mt0 c_begin_again hr (by decide) (pv 0)))
  (pss_one (ps_ret (pe_op op_cat (C8.pe_c c_train hr (by decide) (by rfl) (pa_cons (pv 0) (pa_cons (pv 2) (pa_nil)))) (pe_lst (pa_cons (C8.pe_c c_whole_objective hr (by decide) (by rfl) (pa_cons (pv 0) (pa_nil))) (pa_nil)))))))))))

/-- answer_status -/
def t_answer_status (c : Cs) (sp_all_ratings : Sp) : TS :=
  tSeq (tAsg (tFld c.K (tVar 0) "settings") (gName 4))
  (tSeq (tAsg (tFld c.K (tVar 4) "row_counts") (gName 3))
  (tSeq (tAsg (tCB (rLenS c.K) (tCons (tMeth c.M "all_ratings" sp_all_ratings [] C8.E0 (tVar 0) tNil) (tNil))) (gName 2))
  (tRet (tLst (tCons (tOp (rIxT c.K) (tVar 3) (tC (.int 0))) (tCons (tOp (rIxT c.K) (tVar 3) (tC (.int 1))) (tCons (tFld c.K (tVar 4) "factor_count") (tCons (tVar 2) (tCons (tCB (rLenS c.K) (tCons (tFld c.K (tVar 4) "parameters") (tNil))) (tNil))))))))))
theorem d_answer_status {P : Program} {w : World} {mg : Str → Option Value} {base : Heap} {c : Cs} {sp_all_ratings : Sp} {f : Addr} {cdv : Value} {A : Around} {outer : List Env} {s : Shared} {H : Hp} {E : XK} (T : Tx c mg) (c_all_ratings : C8.Met P w c.K mg base 2 c.M "all_ratings" sp_all_ratings [])
    (hr : Room 2 (A.deeper (envOfC "answer_status" (C8.fnScope s_answer_status) s.heap.objs.size f cdv))) : PSs (cxOf C8.CX0 P w c.K mg base n_answer_status "answer_status" (C8.fnScope s_answer_status) f cdv A outer s H E).nox (C8.fnBody s_answer_status) (t_answer_status c sp_all_ratings) :=
  pss_cons (ps_set (i := 4) sc_answer_status.nd rfl (.inl rfl) (pe_fld (pv 0) rfl))
  (pss_cons (ps_set (i := 3) sc_answer_status.nd rfl (.inl rfl) (pe_fld (pv 4) rfl))
  (pss_cons (ps_set (i := 2) sc_answer_status.nd rfl (.inl rfl) (pe_callB call_len_seq (by rfl) T.n_len bt_len (pa_cons (C8.pe_mt0 c_all_ratings hr (by decide) (pv 0)) (pa_nil))))
  (pss_one (ps_ret (pe_lst (pa_cons (pe_ix ix_tup (pv 3) (C8.pe_gc (by rfl) T.g_USER) (fun _ _ => rfl)) (pa_cons (pe_ix ix_tup (pv 3) (C8.pe_gc (by rfl) T.g_ITEM) (fun _ _ => rfl)) (pa_cons (pe_fld (pv 4) rfl) (pa_cons (pv 2) (pa_cons (pe_callB call_len_seq (by rfl) T.n_len bt_len (pa_cons (pe_fld (pv 4) rfl) (pa_nil))) (pa_nil)))))))))))

/-- execute -/
def t_execute (c : Cs) (sp_answer_create : Sp) (Sx : Addr → Option Sp) : TS :=
  tSeq (tIfS (tTest (tOp rEq (tVar 1) (tC (.int 0)))) (tRet (tCall sp_answer_create [] C8.E0 (tCons (tVar 0) (tCons (tVar 2) (tNil))))) (tNext))
  (tSeq (tIfS (tTest (tOp rIsN (tFld c.K (tVar 0) "model") (tC .non))) (tRet (tLst (tCons (tC (.int (-11))) (tNil)))) (tNext))
  (tSeq (tAsg (tIxD c.K (tC (.ref c.mc)) (tVar 1)) (gName 3))
  (tRet (tCallA 3 Sx (tCons (tFld c.K (tVar 0) "model") (tCons (tVar 2) (tNil)))))))
theorem d_execute {P : Program} {w : World} {mg : Str → Option Value} {base : Heap} {c : Cs} {sp_answer_create : Sp} {Sx : Addr → Option Sp} {f : Addr} {cdv : Value} {A : Around} {outer : List Env} {s : Shared} {H : Hp} {E : XK} (T : Tx c mg) (c_answer_create : C8.Cal P w c.K mg base 6 "answer_create" sp_answer_create []) (hA : ∀ f sp, Sx f = some sp → Held P w c.K mg base 9 f sp)
    (hr : Room 9 (A.deeper (envOfC "execute" (C8.fnScope s_execute) s.heap.objs.size f cdv))) : PSs (cxOf C8.CX0 P w c.K mg base n_execute "execute" (C8.fnScope s_execute) f cdv A outer s H E).nox (C8.fnBody s_execute) (t_execute c sp_answer_create Sx) :=
  pss_cons (ps_if (pt_cmpR op_eq (pv 1) (C8.pe_gc (by rfl) T.g_CREATE) (nomark _)) (pss_one (ps_ret (C8.pe_c c_answer_create hr (by decide) (by rfl) (pa_cons (pv 0) (pa_cons (pv 2) (pa_nil)))))) (pss_nil))
  (pss_cons (ps_if (pt_cmpR op_isN1 (pe_fld (pv 0) rfl) (pe_non) (nomark _)) (pss_one (ps_ret (pe_lst (pa_cons (C8.pe_gc (by rfl) T.g_NO_MODEL) (pa_nil))))) (pss_nil))
  (pss_cons (ps_set (i := 3) sc_execute.nd rfl (.inl rfl) (pe_ixD (C8.pe_gc (by rfl) T.g_MODEL_CALLS) (pv 1)))
  (pss_one (ps_ret (pe_callA hA hr rfl (.inl rfl) (pa_cons (pe_fld (pv 0) rfl) (pa_cons (pv 2) (pa_nil))))))))

/-- answers -/
def t_answers (c : Cs) (sp_Session_init : Sp) (sp_execute : Sp) : TS :=
  tSeq (tAsg (tMake c.E sp_Session_init [] C8.E0 tNil) (gName 5))
  (tSeq (tAsg (tLst (tNil)) (gName 3))
  (tSeq (tAsg (tC (.int 0)) (gName 4))
  (tSeq (tWhile (tTest (tOp rLt (tVar 4) (tCB (rLenS c.K) (tCons (tVar 0) (tNil))))) (tSeq (tAsg (tOp rAdd2 (tVar 4) (tC (.int 2))) (gName 6))
  (tSeq (tAsg (tOp rAdd2 (tVar 6) (tOp (rIxL c.K) (tVar 0) (tOp rAdd2 (tVar 4) (tC (.int 1))))) (gName 2))
  (tSeq (tAsg (tCall sp_execute [] C8.E0 (tCons (tVar 5) (tCons (tOp (rIxL c.K) (tVar 0) (tVar 4)) (tCons (tSl (rSlL c.K) (tVar 0) (tPart (tVar 6)) (tPart (tVar 2))) (tNil))))) (gName 1))
  (tSeq (tDrop (tBM c.K "list" rAppend (tVar 3) (tCons (tCB (rLenS c.K) (tCons (tVar 1) (tNil))) (tNil))))
  (tSeq (tDrop (tBM c.K "list" rExtend (tVar 3) (tCons (tVar 1) (tNil))))
  (tAsg (tOp rAdd2 (tVar 2) (tC (.int 1))) (gName 4))))))))
  (tRet (tVar 3)))))
theorem d_answers {P : Program} {w : World} {mg : Str → Option Value} {base : Heap} {c : Cs} {sp_Session_init : Sp} {sp_execute : Sp} {f : Addr} {cdv : Value} {A : Around} {outer : List Env} {s : Shared} {H : Hp} {E : XK} (T : Tx c mg) (c_Session_init : C8.Mak P w c.K mg base 1 "Session" c.E sp_Session_init []) (c_execute : C8.Cal P w c.K mg base 10 "execute" sp_execute [])
    (hr : Room 10 (A.deeper (envOfC "answers" (C8.fnScope s_answers) s.heap.objs.size f cdv))) : PSs (cxOf C8.CX0 P w c.K mg base n_answers "answers" (C8.fnScope s_answers) f cdv A outer s H E).nox (C8.fnBody s_answers) (t_answers c sp_Session_init sp_execute) :=
  pss_cons (ps_set (i := 5) sc_answers.nd rfl (.inl rfl) (pe_mk0 c_Session_init hr (by decide) (by rfl)))
  (pss_cons (ps_set (i := 3) sc_answers.nd rfl (.inl rfl) (pe_lst (pa_nil)))
  (pss_cons (ps_set (i := 4) sc_answers.nd rfl (.inl rfl) (pe_int))
  (pss_cons (ps_while PassesOwn.never (pt_cmpR op_lt (pv 4) (pe_callB call_len_seq (by rfl) T.n_len bt_len (pa_cons (pv 0) (pa_nil))) (nomark _)) (pss_cons (ps_set (i := 6) sc_answers.nd rfl (.inl rfl) (pe_op op_add (pv 4) (pe_int)))
  (pss_cons (ps_set (i := 2) sc_answers.nd rfl (.inl rfl) (pe_op op_add (pv 6) (pe_ix ix_list (pv 0) (pe_op op_add (pv 4) (pe_int)) (fun _ _ => rfl))))
  (pss_cons (ps_set (i := 1) sc_answers.nd rfl (.inl rfl) (C8.pe_c c_execute hr (by decide) (by rfl) (pa_cons (pv 5) (pa_cons (pe_ix ix_list (pv 0) (pv 4) (fun _ _ => rfl)) (pa_cons (pe_slice sl_list (pv 0) (po_some (pv 6)) (po_some (pv 2))) (pa_nil))))))
  (pss_cons (ps_expr (pe_bm PySem.F.plainAttrs_list PySem.F.slot_list_append PySem.F.type_list_append mt_append (pv 3) (pa_cons (pe_callB call_len_seq (by rfl) T.n_len bt_len (pa_cons (pv 1) (pa_nil))) (pa_nil))))
  (pss_cons (ps_expr (pe_bm PySem.F.plainAttrs_list PySem.F.slot_list_extend PySem.F.type_list_extend mt_extend (pv 3) (pa_cons (pv 1) (pa_nil))))
  (pss_one (ps_set (i := 4) sc_answers.nd rfl (.inl rfl) (pe_op op_add (pv 2) (pe_int))))))))))
  (pss_one (ps_ret (pv 3))))))

end Lk
set_option Elab.async false
set_option maxRecDepth 100000
set_option maxHeartbeats 5000000
set_option linter.all false
namespace Lk
open PySem PySem.Spec PyProof.Rows L2
open Evl (Ex)
/-! ### how the defs stand behind the top -/
structure DefF (K : PySem.W.Frag) (mg : Str → Option Value) (x : Str) (st : Stmt) (ps : List Str) : Prop where
  ex : ∃ (f : Addr) (fd : FuncData), C8.Def K mg x st f fd ∧ Binds K fd ps []
structure MetF (K : PySem.W.Frag) (C : Addr) (m qual : Str) (st : Stmt) (ps : List Str) : Prop where
  ex : ∃ (f : Addr) (fd : FuncData), Meth K C m f ∧ C8.Fun K m qual st f fd ∧ Binds K fd ps []
structure MakF (K : PySem.W.Frag) (mg : Str → Option Value) (x : Str) (C : Addr) (qual : Str) (st : Stmt) (ps : List Str) : Prop where
  ex : ∃ (f : Addr) (fd : FuncData), Mk K C f ∧ mg x = some (.ref C) ∧ C8.Fun K "__init__" qual st f fd ∧ Binds K fd ps []
/-- the written table of ranges -/
def Rg (c : Cs) : Prop := ∃ ts : List Addr, (∀ H, SqT c.K H c.cr (ts.map V.ref)) ∧ ts.length = 7 ∧ ∀ (i : Nat) (t : Addr), ts[i]? = some t → ∃ lo hi, crs[i]? = some (lo, hi) ∧ ∀ H, SqT c.K H t [.int lo, .int hi]
def setV (s : Kp429.Settings) : List V := [nV s.users, nV s.items, nV s.factors, nV s.limit, .int (nnI s), nV s.penalty, nV s.biasPenalty, nV s.seed]

def sp_are_settings (c : Cs) : Sp := fun vs H Q _ => ∃ (a : Addr) (ns : List Int), vs = [.ref a] ∧ SqL c.K H a (ns.map V.int) ∧ ns.length = 8 ∧ Rg c ∧ RV (.bl (okS ns)) H Q
def sp_is_rating (c : Cs) : Sp := fun vs H Q _ => ∃ (v : Nat), vs = [nV v] ∧ RV (.bl (decide (1 ≤ v) && decide (v ≤ 10))) H Q
def sp_has_user (c : Cs) : Sp := fun vs H Q _ => ∃ (a : Addr) (u : Nat) (s : Kp429.Settings), vs = [.ref a, nV u] ∧ StAt c H a s ∧ RV (.bl (decide (u < s.users))) H Q
def sp_has_item (c : Cs) : Sp := fun vs H Q _ => ∃ (a : Addr) (i : Nat) (s : Kp429.Settings), vs = [.ref a, nV i] ∧ StAt c H a s ∧ RV (.bl (decide (i < s.items))) H Q
def sp_has_pair (c : Cs) : Sp := fun vs H Q _ => ∃ (a : Addr) (u i : Nat) (s : Kp429.Settings), vs = [.ref a, nV u, nV i] ∧ StAt c H a s ∧ RV (.bl (decide (u < s.users) && decide (i < s.items))) H Q
def sp_has_row (c : Cs) : Sp := fun vs H Q _ => ∃ (a : Addr) (k n : Nat) (s : Kp429.Settings), vs = [.ref a, nV k, nV n] ∧ StAt c H a s ∧ RV (.bl (decide (k ≤ 1) && decide (n < Kp429.sizeOf s k))) H Q
def sp_has_parameter (c : Cs) : Sp := fun vs H Q _ => ∃ (a : Addr) (k n q : Nat) (s : Kp429.Settings), vs = [.ref a, nV k, nV n, nV q] ∧ StAt c H a s ∧ RV (.bl (Kp429.isCoordinate s ⟨k, n, q⟩)) H Q
def sp_lowest (c : Cs) : Sp := fun vs H Q _ => ∃ (a : Addr) (q : Nat) (s : Kp429.Settings), vs = [.ref a, nV q] ∧ StAt c H a s ∧ RV (.int (Kp429.lowest s q)) H Q
def sp_highest (c : Cs) : Sp := fun vs H Q _ => ∃ (a : Addr) (q : Nat) (s : Kp429.Settings), vs = [.ref a, nV q] ∧ StAt c H a s ∧ RV (.int (Kp429.highest s q)) H Q
def sp_is_in_range (c : Cs) : Sp := fun vs H Q _ => ∃ (a : Addr) (q : Nat) (v : Int) (s : Kp429.Settings), vs = [.ref a, nV q, .int v] ∧ StAt c H a s ∧ RV (.bl (decide (Kp429.lowest s q ≤ v) && decide (v ≤ Kp429.highest s q))) H Q
def sp_penalty (c : Cs) : Sp := fun vs H Q _ => ∃ (a : Addr) (q : Nat) (s : Kp429.Settings), vs = [.ref a, nV q] ∧ StAt c H a s ∧ RV (nV (if q = 0 then s.biasPenalty else s.penalty)) H Q

section
variable {c : Cs} {mg : Str → Option Value} {vs : List V} {H : Hp} {Q : VK} {E : XK}
theorem p_are_settings (T : Tx c mg) (h : sp_are_settings c vs H Q E) : t_are_settings c (Dq Q) (start n_are_settings vs) H := by
  obtain ⟨a, ns, rfl, hs, hl, ⟨ts, h1, h2, h3⟩, q⟩ := h
  refine q_range1 (n := 7) (vt (by rw [List.length_map, h2]) (v_lenT vc (h1 H))) (by decide) (fun i σ' H' => (∃ x y, σ' = [some (.ref a), x, y]) ∧ H' = H ∧ (List.range i).all (okAt ns) = true) ⟨⟨_, _, rfl⟩, rfl, rfl⟩ ?_ ?_
  · rintro i σ' H' hi ⟨⟨x, y, rfl⟩, rfl, hp⟩
    obtain ⟨t, ht⟩ : ∃ t, ts[i]? = some t := ⟨_, List.getElem?_eq_getElem (by omega)⟩
    obtain ⟨lo, up, e1, e2⟩ := h3 i t ht
    have hn : (ns.map V.int)[i]? = some (.int (ns.getD i 0)) := by
      rw [List.getElem?_map, List.getD_eq_getElem?_getD, List.getElem?_eq_getElem (by omega)]
      rfl
    have hc : crs.getD i (0, 0) = (lo, up) := by rw [List.getD_eq_getElem?_getD, e1] <;> rfl
    refine q_set (v_ixT vc (vv rfl) (h1 _) (atI_nat (show (ts.map V.ref)[i]? = some (.ref t) by rw [List.getElem?_map, ht] <;> rfl))) ?_
    refine s_when (a_or (a_test (v_i0 (v_ixL (vv rfl) (vv rfl) hs (atI_nat hn)) (v_ixT (vv rfl) vc (e2 _) at0))) fun _ => a_test (v_i0 (v_ixL (vv rfl) (vv rfl) hs (atI_nat hn)) (v_ixT (vv rfl) vc (e2 _) at1))) (fun hb => s_ret vc ?_) (fun hb => ⟨⟨_, _, rfl⟩, rfl, ?_⟩)
    · have e : okS ns = false := by
        rw [okS, List.all_eq_false]
        refine ⟨i, List.mem_range.mpr hi, ?_⟩
        unfold okAt
        rw [hc]
        simp only [Bool.or_eq_true, decide_eq_true_eq] at hb
        intro z
        simp only [Bool.and_eq_true, decide_eq_true_eq] at z
        omega
      rw [e] at q
      exact q.now
    · rw [List.range_succ, List.all_append, hp]
      simp only [List.all_cons, List.all_nil, Bool.and_true, Bool.true_and]
      unfold okAt
      rw [hc]
      simp only [Bool.or_eq_false_iff, decide_eq_false_iff_not] at hb
      simp only [and_two, decide_eq_true_eq]
      omega
  · rintro σ' H' ⟨_, rfl, hp⟩
    rw [show okS ns = true from hp] at q
    exact s_ret vc q.now
theorem p_is_rating (T : Tx c mg) (h : sp_is_rating c vs H Q E) : t_is_rating c (Dq Q) (start n_is_rating vs) H := by
  obtain ⟨v, rfl, q⟩ := h
  refine s_ret (vt (by rw [dle, dle]) (v_chain (i := ((1 : Nat) : Int)) (k := ((10 : Nat) : Int)) vc (vv rfl) vc)) q.now
theorem p_has_user (T : Tx c mg) (h : sp_has_user c vs H Q E) : t_has_user c (Dq Q) (start n_has_user vs) H := by
  obtain ⟨a, u, s, rfl, hs, q⟩ := h
  exact s_ret (vt (by rw [dlt] <;> rfl) (v_i0 (vv rfl) (v_rc T hs (k := 0) (by decide) (vv rfl) vc))) q.now
theorem p_has_item (T : Tx c mg) (h : sp_has_item c vs H Q E) : t_has_item c (Dq Q) (start n_has_item vs) H := by
  obtain ⟨a, u, s, rfl, hs, q⟩ := h
  exact s_ret (vt (by rw [dlt] <;> rfl) (v_i0 (vv rfl) (v_rc T hs (k := 1) (by decide) (vv rfl) vc))) q.now
/-- a method's value, as an expression -/
theorem p_has_pair (T : Tx c mg) (h : sp_has_pair c vs H Q E) : t_has_pair c (sp_has_item c) (sp_has_user c) (Dq Q) (start n_has_pair vs) H := by
  obtain ⟨a, u, i, s, rfl, hs, q⟩ := h
  refine c_has_user hs (vv rfl) (va1 (vv rfl) va0) ⟨a, u, s, rfl, hs, fun H1 e1 => ⟨_, rfl, ?_⟩⟩
  cases hb : decide (u < s.users) with
  | true =>
    rw [hb] at q
    exact iteT (c_has_item (hs.ex e1) (vv rfl) (va1 (vv rfl) va0) ⟨a, i, s, rfl, hs.ex e1, fun H2 e2 => q.at (e1.trans e2)⟩)
  | false =>
    rw [hb] at q
    exact iteF (q.at e1)
theorem p_has_row (T : Tx c mg) (h : sp_has_row c vs H Q E) : t_has_row c (Dq Q) (start n_has_row vs) H := by
  obtain ⟨a, k, n, s, rfl, hs, q⟩ := h
  refine s_ret (v_and (a := decide (k ≤ 1)) (vt (by rw [dle]) (v_i0 (i := (k : Int)) (j := ((1 : Nat) : Int)) (vv rfl) vc)) fun hk => vt (by rw [dlt]) (v_i0 (vv rfl) (v_rc T hs (of_decide_eq_true hk) (vv rfl) (vv rfl)))) q.now
theorem p_has_parameter (T : Tx c mg) (h : sp_has_parameter c vs H Q E) : t_has_parameter c (sp_has_row c) (Dq Q) (start n_has_parameter vs) H := by
  obtain ⟨a, k, n, p, s, rfl, hs, q⟩ := h
  have e : Kp429.isCoordinate s ⟨k, n, p⟩ = ((decide (k ≤ 1) && decide (n < Kp429.sizeOf s k)) && decide (p ≤ s.factors)) := rfl
  rw [e] at q
  refine c_has_row hs (vv rfl) (va1 (vv rfl) (va1 (vv rfl) va0)) ⟨a, k, n, s, rfl, hs, fun H1 e1 => ⟨_, rfl, ?_⟩⟩
  cases hb : (decide (k ≤ 1) && decide (n < Kp429.sizeOf s k)) with
  | true =>
    rw [hb] at q
    exact iteT (vt (by rw [dle] <;> rfl) (v_i0 (vv rfl) (v_factors T (hs.ex e1) (vv rfl))) _ (q.at e1))
  | false =>
    rw [hb] at q
    exact iteF (q.at e1)
theorem p_lowest (T : Tx c mg) (h : sp_lowest c vs H Q E) : t_lowest c (Dq Q) (start n_lowest vs) H := by
  obtain ⟨a, k, s, rfl, hs, q⟩ := h
  refine q_when (a_test (vt (by rw [deq]) (v_eqI (i := (k : Int)) (j := ((0 : Nat) : Int)) (vv rfl) vc))) (fun hb => ?_) (fun hb => ?_)
  · have hk : k = 0 := of_decide_eq_true hb
    subst hk
    exact s_ret (v_neg vc) q.now
  · have hk : k ≠ 0 := of_decide_eq_false hb
    refine q_when (a_test (v_eqI (v_nonneg T hs (vv rfl)) vc)) (fun hb => ?_) (fun hb => ?_)
    · have e : s.nonnegative = true := by
        have h1 : nnI s = 1 := of_decide_eq_true hb
        unfold nnI at h1
        split at h1
        · assumption
        · cases h1
      have e2 : Kp429.lowest s k = 0 := by
        unfold Kp429.lowest
        rw [if_neg hk, if_pos e]
      rw [e2] at q
      exact s_ret vc q.now
    · have e : ¬ s.nonnegative = true := by
        have h1 : nnI s ≠ 1 := of_decide_eq_false hb
        intro z
        unfold nnI at h1
        rw [if_pos z] at h1
        exact h1 rfl
      have e2 : Kp429.lowest s k = -(s.limit : Int) := by
        unfold Kp429.lowest
        rw [if_neg hk, if_neg e]
      rw [e2] at q
      exact s_ret (v_neg (v_limit T hs (vv rfl))) q.now
theorem p_highest (T : Tx c mg) (h : sp_highest c vs H Q E) : t_highest c (Dq Q) (start n_highest vs) H := by
  obtain ⟨a, k, s, rfl, hs, q⟩ := h
  refine q_when (a_test (vt (by rw [deq]) (v_eqI (i := (k : Int)) (j := ((0 : Nat) : Int)) (vv rfl) vc))) (fun hb => ?_) (fun hb => ?_)
  · have hk : k = 0 := of_decide_eq_true hb
    subst hk
    exact s_ret vc q.now
  · have hk : k ≠ 0 := of_decide_eq_false hb
    have e2 : Kp429.highest s k = (s.limit : Int) := by
      unfold Kp429.highest
      rw [if_neg hk]
    rw [e2] at q
    exact s_ret (v_limit T hs (vv rfl)) q.now
theorem p_is_in_range (T : Tx c mg) (h : sp_is_in_range c vs H Q E) : t_is_in_range c (sp_highest c) (sp_lowest c) (Dq Q) (start n_is_in_range vs) H := by
  obtain ⟨a, k, v, s, rfl, hs, q⟩ := h
  refine c_lowest hs (vv rfl) (va1 (vv rfl) va0) ⟨a, k, s, rfl, hs, fun H1 e1 => ⟨_, rfl, _, _, rfl, rfl, _, rfl, ?_⟩⟩
  cases hb : decide (Kp429.lowest s k ≤ v) with
  | true =>
    rw [hb] at q
    exact iteT (c_highest (hs.ex e1) (vv rfl) (va1 (vv rfl) va0) ⟨a, k, s, rfl, hs.ex e1, fun H2 e2 => ⟨_, _, rfl, rfl, q.at (e1.trans e2)⟩⟩)
  | false =>
    rw [hb] at q
    exact iteF (q.at e1)
theorem p_penalty (T : Tx c mg) (h : sp_penalty c vs H Q E) : t_penalty c (Dq Q) (start n_penalty vs) H := by
  obtain ⟨a, k, s, rfl, hs, q⟩ := h
  refine q_when (a_test (vt (by rw [deq]) (v_eqI (i := (k : Int)) (j := ((0 : Nat) : Int)) (vv rfl) vc))) (fun hb => ?_) (fun hb => ?_)
  · have hk : k = 0 := of_decide_eq_true hb
    rw [if_pos hk] at q
    exact s_ret (v_bpen T hs (vv rfl)) q.now
  · have hk : k ≠ 0 := of_decide_eq_false hb
    rw [if_neg hk] at q
    exact s_ret (v_fpen T hs (vv rfl)) q.now
end

theorem cal_are_settings {P : Program} {w : World} {mg : Str → Option Value} {base : Heap} {c : Cs} (T : Tx c mg) (D : DefF c.K mg "are_settings" s_are_settings ["numbers"]) : C8.Cal P w c.K mg base 1 "are_settings" (sp_are_settings c) [] := by
  obtain ⟨f, fd, D, b⟩ := D.ex
  exact C8.cal0 D b .nil sc_are_settings (fun vs H Q E h => by
    obtain ⟨a, ns, e, _⟩ := h
    rw [e]
    rfl) (fun cdv A outer s H vs Q E hr h => ⟨_, d_are_settings T hr, p_are_settings T h⟩)
theorem cal_is_rating {P : Program} {w : World} {mg : Str → Option Value} {base : Heap} {c : Cs} (T : Tx c mg) (D : DefF c.K mg "is_rating" s_is_rating ["value"]) : C8.Cal P w c.K mg base 1 "is_rating" (sp_is_rating c) [] := by
  obtain ⟨f, fd, D, b⟩ := D.ex
  exact C8.cal0 D b .nil sc_is_rating (fun vs H Q E h => by
    obtain ⟨v, e, _⟩ := h
    rw [e]
    rfl) (fun cdv A outer s H vs Q E hr h => ⟨_, d_is_rating T hr, p_is_rating T h⟩)
theorem cal_has_user {P : Program} {w : World} {mg : Str → Option Value} {base : Heap} {c : Cs} (T : Tx c mg) (D : MetF c.K c.S "has_user" "Settings.has_user" s_has_user ["self", "user"]) : C8.Met P w c.K mg base 1 c.S "has_user" (sp_has_user c) [] := by
  obtain ⟨f, fd, M, F, b⟩ := D.ex
  exact C8.met0 T.cl_S M F b sc_has_user (fun vs H Q E h => by
    obtain ⟨a, u, s, e, _⟩ := h
    rw [e]
    rfl) (fun cdv A outer s H vs Q E hr h => ⟨_, d_has_user T hr, p_has_user T h⟩)
theorem cal_has_item {P : Program} {w : World} {mg : Str → Option Value} {base : Heap} {c : Cs} (T : Tx c mg) (D : MetF c.K c.S "has_item" "Settings.has_item" s_has_item ["self", "item"]) : C8.Met P w c.K mg base 1 c.S "has_item" (sp_has_item c) [] := by
  obtain ⟨f, fd, M, F, b⟩ := D.ex
  exact C8.met0 T.cl_S M F b sc_has_item (fun vs H Q E h => by
    obtain ⟨a, i, s, e, _⟩ := h
    rw [e]
    rfl) (fun cdv A outer s H vs Q E hr h => ⟨_, d_has_item T hr, p_has_item T h⟩)
theorem cal_has_pair {P : Program} {w : World} {mg : Str → Option Value} {base : Heap} {c : Cs} (T : Tx c mg) (D : MetF c.K c.S "has_pair" "Settings.has_pair" s_has_pair ["self", "user", "item"]) (c_has_item : C8.Met P w c.K mg base 1 c.S "has_item" (sp_has_item c) []) (c_has_user : C8.Met P w c.K mg base 1 c.S "has_user" (sp_has_user c) []) : C8.Met P w c.K mg base 2 c.S "has_pair" (sp_has_pair c) [] := by
  obtain ⟨f, fd, M, F, b⟩ := D.ex
  exact C8.met0 T.cl_S M F b sc_has_pair (fun vs H Q E h => by
    obtain ⟨a, u, i, s, e, _⟩ := h
    rw [e]
    rfl) (fun cdv A outer s H vs Q E hr h => ⟨_, d_has_pair T c_has_item c_has_user hr, p_has_pair T h⟩)
theorem cal_has_row {P : Program} {w : World} {mg : Str → Option Value} {base : Heap} {c : Cs} (T : Tx c mg) (D : MetF c.K c.S "has_row" "Settings.has_row" s_has_row ["self", "kind", "number"]) : C8.Met P w c.K mg base 1 c.S "has_row" (sp_has_row c) [] := by
  obtain ⟨f, fd, M, F, b⟩ := D.ex
  exact C8.met0 T.cl_S M F b sc_has_row (fun vs H Q E h => by
    obtain ⟨a, k, n, s, e, _⟩ := h
    rw [e]
    rfl) (fun cdv A outer s H vs Q E hr h => ⟨_, d_has_row T hr, p_has_row T h⟩)
theorem cal_has_parameter {P : Program} {w : World} {mg : Str → Option Value} {base : Heap} {c : Cs} (T : Tx c mg) (D : MetF c.K c.S "has_parameter" "Settings.has_parameter" s_has_parameter ["self", "kind", "number", "place"]) (c_has_row : C8.Met P w c.K mg base 1 c.S "has_row" (sp_has_row c) []) : C8.Met P w c.K mg base 2 c.S "has_parameter" (sp_has_parameter c) [] := by
  obtain ⟨f, fd, M, F, b⟩ := D.ex
  exact C8.met0 T.cl_S M F b sc_has_parameter (fun vs H Q E h => by
    obtain ⟨a, k, n, q, s, e, _⟩ := h
    rw [e]
    rfl) (fun cdv A outer s H vs Q E hr h => ⟨_, d_has_parameter T c_has_row hr, p_has_parameter T h⟩)
theorem cal_lowest {P : Program} {w : World} {mg : Str → Option Value} {base : Heap} {c : Cs} (T : Tx c mg) (D : MetF c.K c.S "lowest" "Settings.lowest" s_lowest ["self", "place"]) : C8.Met P w c.K mg base 1 c.S "lowest" (sp_lowest c) [] := by
  obtain ⟨f, fd, M, F, b⟩ := D.ex
  exact C8.met0 T.cl_S M F b sc_lowest (fun vs H Q E h => by
    obtain ⟨a, q, s, e, _⟩ := h
    rw [e]
    rfl) (fun cdv A outer s H vs Q E hr h => ⟨_, d_lowest T hr, p_lowest T h⟩)
theorem cal_highest {P : Program} {w : World} {mg : Str → Option Value} {base : Heap} {c : Cs} (T : Tx c mg) (D : MetF c.K c.S "highest" "Settings.highest" s_highest ["self", "place"]) : C8.Met P w c.K mg base 1 c.S "highest" (sp_highest c) [] := by
  obtain ⟨f, fd, M, F, b⟩ := D.ex
  exact C8.met0 T.cl_S M F b sc_highest (fun vs H Q E h => by
    obtain ⟨a, q, s, e, _⟩ := h
    rw [e]
    rfl) (fun cdv A outer s H vs Q E hr h => ⟨_, d_highest T hr, p_highest T h⟩)
theorem cal_is_in_range {P : Program} {w : World} {mg : Str → Option Value} {base : Heap} {c : Cs} (T : Tx c mg) (D : MetF c.K c.S "is_in_range" "Settings.is_in_range" s_is_in_range ["self", "place", "value"]) (c_highest : C8.Met P w c.K mg base 1 c.S "highest" (sp_highest c) []) (c_lowest : C8.Met P w c.K mg base 1 c.S "lowest" (sp_lowest c) []) : C8.Met P w c.K mg base 2 c.S "is_in_range" (sp_is_in_range c) [] := by
  obtain ⟨f, fd, M, F, b⟩ := D.ex
  exact C8.met0 T.cl_S M F b sc_is_in_range (fun vs H Q E h => by
    obtain ⟨a, q, v, s, e, _⟩ := h
    rw [e]
    rfl) (fun cdv A outer s H vs Q E hr h => ⟨_, d_is_in_range T c_highest c_lowest hr, p_is_in_range T h⟩)
theorem cal_penalty {P : Program} {w : World} {mg : Str → Option Value} {base : Heap} {c : Cs} (T : Tx c mg) (D : MetF c.K c.S "penalty" "Settings.penalty" s_penalty ["self", "place"]) : C8.Met P w c.K mg base 1 c.S "penalty" (sp_penalty c) [] := by
  obtain ⟨f, fd, M, F, b⟩ := D.ex
  exact C8.met0 T.cl_S M F b sc_penalty (fun vs H Q E h => by
    obtain ⟨a, q, s, e, _⟩ := h
    rw [e]
    rfl) (fun cdv A outer s H vs Q E hr h => ⟨_, d_penalty T hr, p_penalty T h⟩)

end Lk
set_option Elab.async false
set_option maxRecDepth 100000
set_option maxHeartbeats 5000000
set_option linter.all false
namespace Lk
open PySem PySem.Spec PyProof.Rows L2
open Evl (Ex)

def sp_ordered_parameters (c : Cs) : Sp := fun vs H Q _ => ∃ (a dx rc : Addr) (s : Kp429.Settings) (fs : List (Str × V)), vs = [.ref a] ∧ SetOk s ∧ H a = some (.ins c.S dx fs) ∧ fs.lookup ("row_counts" : Str) = some (.ref rc) ∧ fs.lookup ("factor_count" : Str) = some (nV s.factors) ∧ H rc = some (.tup [nV s.users, nV s.items]) ∧ ∀ p H2, Col coT H p (Kp429.coordinates s) H2 → Q (.ref p) H2
def sp_Settings_init (c : Cs) : Sp := fun vs H Q _ => ∃ (a dx n : Addr) (s : Kp429.Settings), vs = [.ref a, .ref n] ∧ SetOk s ∧ H a = some (.ins c.S dx []) ∧ SqL c.K H n (setV s) ∧ ∀ H2, (∀ b o, H b = some o → b ≠ a → H2 b = some o) → StAt c H2 a s → Q .non H2

section
variable {c : Cs} {mg : Str → Option Value} {vs : List V} {H : Hp} {Q : VK} {E : XK}
theorem coT_tup (x : Kp429.Coordinate) : ∃ vs, coT x = .tup vs := ⟨_, rfl⟩
theorem p_ordered_parameters (T : Tx c mg) (h : sp_ordered_parameters c vs H Q E) : t_ordered_parameters c (Dq Q) (start n_ordered_parameters vs) H := by
  obtain ⟨a, dx, rc, s, fs, rfl, ok, ha, l1, l2, hrc, q⟩ := h
  refine q_lst va0 (by decide) fun p hp => ?_
  refine q_tupn (va1 vc (va1 vc va0)) (by decide) (fun t i σ' H' => ∃ x y z, σ' = [some (.ref a), some (.ref p), x, y, z] ∧ H t = none ∧ Col coT (upd H t (.tup [.int 0, .int 1])) p (preN s i) H')
    (fun t ht => ⟨_, _, _, rfl, fresh (exn hp) ht, (Col.start hp).shield ht⟩) (fun t i σ' H' ⟨_, _, _, _, _, hc⟩ => hc.2.1 _ _ upd_same) ?_ ?_
  · rintro t i w σ' H' hw ⟨x, y, z, rfl, ht, hc⟩
    obtain ⟨hi, rfl⟩ := two_get hw
    have ex0 := exn (o := .tup [.int 0, .int 1]) ht
    have e0 := ex0.trans hc.2.1
    have hz := size_le ok i
    refine l_range1 (n := Kp429.sizeOf s i) (v_ixT (v_fld (vv rfl) (e0 _ _ ha) T.cl_S T.na_S_row_counts l1) (vv rfl) (stq (e0 _ _ hrc)) ?_) (by omega)
      (fun j σ' H' => ∃ y z, σ' = [some (.ref a), some (.ref p), some (nV i), y, z] ∧ Col coT (upd H t (.tup [.int 0, .int 1])) p (preN s i ++ blkN s i j) H') ⟨_, _, rfl, ?_⟩ ?_ ?_
    · rcases k01 hi with rfl | rfl
      · exact at0
      · exact at1
    · show Col _ _ _ (_ ++ []) _
      rw [List.append_nil]
      exact hc
    · rintro j σ' H' hj ⟨y, z, rfl, hc⟩
      have e0 := ex0.trans hc.2.1
      refine l_range1 (n := s.factors + 1) (v_i0 (v_fld (vv rfl) (e0 _ _ ha) T.cl_S T.na_S_factor_count l2) vc) (by have := ok.f3; omega)
        (fun l σ' H' => ∃ z, σ' = [some (.ref a), some (.ref p), some (nV i), some (nV j), z] ∧ Col coT (upd H t (.tup [.int 0, .int 1])) p (preN s i ++ blkN s i j ++ (List.range l).map fun q => ⟨i, j, q⟩) H') ⟨_, rfl, ?_⟩ ?_ ?_
      · show Col _ _ _ (_ ++ []) _
        rw [List.append_nil]
        exact hc
      · rintro l σ' H' hl ⟨z, rfl, hc⟩
        obtain ⟨ps, hp', hlen, add⟩ := hc.get coT_tup
        have hlen2 : (ps.map V.ref).length < 100000 := by
          rw [List.length_map, hlen, List.length_append, List.length_append, List.length_map, List.length_range]
          have h1 := pre_le ok i (by omega)
          have h2 := blk_le ok i j (by omega)
          have := ok.f3
          omega
        refine s_appT (vv rfl) hp' (va1 (vv rfl) (va1 (vv rfl) (va1 (vv rfl) va0))) (by show 3 ≤ 100000; decide) hlen2 fun t' ht' => ⟨_, rfl, ?_⟩
        have := add t' _ ⟨i, j, l⟩ ht' rfl
        rw [List.range_succ, List.map_append, ← List.append_assoc]
        exact this
      · rintro σ' H' ⟨z, rfl, hc⟩
        refine ⟨_, _, rfl, ?_⟩
        rw [blk_succ, ← List.append_assoc]
        exact hc
    · rintro σ' H' ⟨y, z, rfl, hc⟩
      refine ⟨_, _, _, rfl, ht, ?_⟩
      rw [pre_succ]
      exact hc
  · rintro t σ' H' ⟨x, y, z, rfl, ht, hc⟩
    refine s_ret (vv rfl) (q p H' ?_)
    have hc2 := hc.weak (exn ht)
    rw [show ([.int 0, .int 1] : List V).length = 2 from rfl, pre_two] at hc2
    exact hc2
theorem p_Settings_init (T : Tx c mg) (h : sp_Settings_init c vs H Q E) : t_Settings_init c (sp_ordered_parameters c) (Dq Q) (start n_Settings_init vs) H := by
  obtain ⟨a, dx, n, s, rfl, ok, ha, hn, q⟩ := h
  refine q_fldK (c_tup (va1 (v_ixL (vv rfl) vc hn (atI_nat (j := 0) rfl)) (va1 (v_ixL (vv rfl) vc hn (atI_nat (j := 1) rfl)) va0)) (by show 2 ≤ 100000; decide) fun rc hrc => ?_)
  have na : rc ≠ a := (ne_of_none ha hrc).symm
  have hn0 : SqL c.K (upd H rc (.tup [nV s.users, nV s.items])) n (setV s) := Evl.ex_l (exn hrc) hn
  refine sto (vv rfl) (by rw [upd_ne na.symm]; exact ha) T.cl_S T.na_S_row_counts (by show 0 < 1000; decide) pu_S_row_counts fun H1 a1 k1 => ?_
  have n1 := SqL.ne hn0 (show (upd H rc _) a = _ by rw [upd_ne na.symm]; exact ha) k1
  refine q_fld (v_ixL (vv rfl) vc n1 (atI_nat (j := 2) rfl)) (vv rfl) a1 T.cl_S T.na_S_factor_count (by show 1 < 1000; decide) pu_S_factor_count fun H2 a2 k2 => ?_
  have n2 := SqL.ne n1 a1 k2
  refine q_fld (v_ixL (vv rfl) vc n2 (atI_nat (j := 3) rfl)) (vv rfl) a2 T.cl_S T.na_S_limit (by show 2 < 1000; decide) pu_S_limit fun H3 a3 k3 => ?_
  have n3 := SqL.ne n2 a2 k3
  refine q_fld (v_ixL (vv rfl) vc n3 (atI_nat (j := 4) rfl)) (vv rfl) a3 T.cl_S T.na_S_nonnegative (by show 3 < 1000; decide) pu_S_nonnegative fun H4 a4 k4 => ?_
  have n4 := SqL.ne n3 a3 k4
  refine q_fld (v_ixL (vv rfl) vc n4 (atI_nat (j := 5) rfl)) (vv rfl) a4 T.cl_S T.na_S_factor_penalty (by show 4 < 1000; decide) pu_S_factor_penalty fun H5 a5 k5 => ?_
  have n5 := SqL.ne n4 a4 k5
  refine q_fld (v_ixL (vv rfl) vc n5 (atI_nat (j := 6) rfl)) (vv rfl) a5 T.cl_S T.na_S_bias_penalty (by show 5 < 1000; decide) pu_S_bias_penalty fun H6 a6 k6 => ?_
  have n6 := SqL.ne n5 a5 k6
  refine q_fld (v_ixL (vv rfl) vc n6 (atI_nat (j := 7) rfl)) (vv rfl) a6 T.cl_S T.na_S_seed (by show 6 < 1000; decide) pu_S_seed fun H7 a7 k7 => ?_
  have k : ∀ b, b ≠ a → H7 b = upd H rc (.tup [nV s.users, nV s.items]) b := fun b hb => by rw [k7 b hb, k6 b hb, k5 b hb, k4 b hb, k3 b hb, k2 b hb, k1 b hb]
  have hrc7 : H7 rc = some (.tup [nV s.users, nV s.items]) := by rw [k rc na, upd_same]
  refine s_fldK (c_meth (vv rfl) a7 ((lk_past ne_ordered_parameters_row_counts).trans ((lk_past ne_ordered_parameters_factor_count).trans ((lk_past ne_ordered_parameters_limit).trans ((lk_past ne_ordered_parameters_nonnegative).trans ((lk_past ne_ordered_parameters_factor_penalty).trans ((lk_past ne_ordered_parameters_bias_penalty).trans ((lk_past ne_ordered_parameters_seed).trans rfl))))))) va0
    ⟨a, dx, rc, s, _, rfl, ok, a7, lk_here, (lk_past ne_factor_count_row_counts).trans lk_here, hrc7, fun p H8 hc => ?_⟩)
  have a8 := hc.2.1 _ _ a7
  refine sto (vv rfl) a8 T.cl_S T.na_S_parameters (by show 7 < 1000; decide) pu_S_parameters fun H9 a9 k9 => ?_
  obtain ⟨hp, hx, pts, hp8, each⟩ := hc
  have npa : p ≠ a := (ne_of_none a7 hp).symm
  refine q H9 (fun b o hb nb => ?_) ⟨dx, rc, p, pts, a9, ?_, ?_, ?_⟩
  · rw [k9 b nb]
    refine hx _ _ ?_
    rw [k b nb, upd_ne (ne_of_none hb hrc)]
    exact hb
  · rw [k9 rc na]
    exact hx _ _ hrc7
  · rw [k9 p npa]
    exact hp8
  · refine each.keep (p := a) (fun b o hb nb => by rw [k9 b nb]; exact hb) fun x _ b hb => ?_
    obtain ⟨ys, ey⟩ := coT_tup x
    rw [ey] at hb
    exact ne_of hb a8 (by intro z; cases z)
end

theorem cal_ordered_parameters {P : Program} {w : World} {mg : Str → Option Value} {base : Heap} {c : Cs} (T : Tx c mg) (D : MetF c.K c.S "ordered_parameters" "Settings.ordered_parameters" s_ordered_parameters ["self"]) : C8.Met P w c.K mg base 1 c.S "ordered_parameters" (sp_ordered_parameters c) [] := by
  obtain ⟨f, fd, M, F, b⟩ := D.ex
  exact C8.met0 T.cl_S M F b sc_ordered_parameters (fun vs H Q E h => by
    obtain ⟨a, dx, rc, s, fs, e, _⟩ := h
    rw [e]
    rfl) (fun cdv A outer s H vs Q E hr h => ⟨_, d_ordered_parameters T hr, p_ordered_parameters T h⟩)
theorem cal_Settings_init {P : Program} {w : World} {mg : Str → Option Value} {base : Heap} {c : Cs} (T : Tx c mg) (D : MakF c.K mg "Settings" c.S "Settings.__init__" s_Settings_init ["self", "numbers"]) (c_ordered_parameters : C8.Met P w c.K mg base 1 c.S "ordered_parameters" (sp_ordered_parameters c) []) : C8.Mak P w c.K mg base 2 "Settings" c.S (sp_Settings_init c) [] := by
  obtain ⟨f, fd, M, hm, F, b⟩ := D.ex
  exact C8.mak0 M hm F b .nil sc_Settings_init (fun vs H Q E h => by
    obtain ⟨a, dx, n, s, e, _⟩ := h
    rw [e]
    rfl) (fun cdv A outer s H vs Q E hr h => ⟨_, d_Settings_init T c_ordered_parameters hr, p_Settings_init T h⟩)

end Lk
set_option Elab.async false
set_option maxRecDepth 100000
set_option maxHeartbeats 5000000
set_option linter.all false
namespace Lk
open PySem PySem.Spec PyProof.Rows L2
open Evl (Ex)
theorem byte_val (n j : Nat) : Builtin.bitAnd ((n : Int) / 2 ^ (((8 * j : Nat) : Int)).toNat) 255 = ((byteAt n j : Nat) : Int) := by
  have e : ((n : Int) / 2 ^ (((8 * j : Nat) : Int)).toNat) = ((n / 2 ^ (8 * j) : Nat) : Int) := by
    rw [Int.toNat_natCast, Int.natCast_ediv, Int.natCast_pow] <;> rfl
  have e2 : (255 : Int) = 2 ^ 8 - 1 := rfl
  rw [e, e2, Bits.bitAnd_mask 8 (Int.natCast_nonneg _)]
  unfold byteAt
  rw [Int.natCast_emod]
  rfl
theorem hash_step (r b : Nat) : Builtin.bitXor (r : Int) (b : Int) * 1099511628211 % 18446744073709551616 = ((stepB r b : Nat) : Int) := by
  rw [Bits.bitXor_pp (Int.natCast_nonneg _) (Int.natCast_nonneg _), Int.toNat_natCast, Int.toNat_natCast]
  unfold stepB
  rw [Int.natCast_emod, Int.natCast_mul]
  rfl
theorem four_get {j : Nat} {x : V} (h : ([.int 0, .int 8, .int 16, .int 24] : List V)[j]? = some x) : j ≤ 3 ∧ x = nV (8 * j) := by
  match j, h with
  | 0, h => exact ⟨by decide, (Option.some.inj h).symm⟩
  | 1, h => exact ⟨by decide, (Option.some.inj h).symm⟩
  | 2, h => exact ⟨by decide, (Option.some.inj h).symm⟩
  | 3, h => exact ⟨by decide, (Option.some.inj h).symm⟩
  | j + 4, h => simp at h
theorem b64 {x : Int} (h : Bd x) : -(2 ^ 64) < x ∧ x < 2 ^ 64 := by
  have := h.1
  have := h.2
  omega
/-- the rows that first_rows is making -/
structure FRS (H0 : Hp) (L : Lay) (p : Kp429.Parameters) (H : Hp) : Prop where
  ex : Ex H0 H
  rw : RwAt H L p
  fr : ∀ b ∈ L.ur ++ L.ir, H0 b = none
  nd : (L.ur ++ L.ir).Nodup
  nu : H0 L.ul = none
  ni : H0 L.il = none
  ne : L.ul ≠ L.il
  pos : ∀ r ∈ p.users ++ p.items, r ≠ []
theorem row_ne {H : Hp} {a b : Addr} {r : List Int} {ps : List Addr} (h : H a = some (rowI r)) (h' : H b = some (.lst (ps.map V.ref))) (hr : r ≠ []) : a ≠ b := ne_of h h' fun z => by
  have z : r.map V.int = ps.map V.ref := HO.lst.inj z
  cases r with
  | nil => exact hr rfl
  | cons x r =>
    cases ps with
    | nil => cases z
    | cons p ps => cases z
theorem Each.addN {H : Hp} {l : Addr} {o : HO} {ps : List Addr} {xs : List (List Int)} (h : Each H rowI ps xs) (hl : ∃ qs : List Addr, H l = some (.lst (qs.map V.ref))) (pos : ∀ r ∈ xs, r ≠ []) : Each (upd H l o) rowI ps xs := by
  obtain ⟨qs, hl⟩ := hl
  exact h.keep (p := l) (fun q o hq nq => by rw [upd_ne nq]; exact hq) fun r hr q hq => row_ne hq hl (pos r hr)
theorem Each.mem {α : Type} {H : Hp} {F : α → HO} {ps : List Addr} {xs : List α} (h : Each H F ps xs) {q : Addr} (hq : q ∈ ps) : ∃ x ∈ xs, H q = some (F x) := by
  obtain ⟨j, hj⟩ := in_at hq
  have hl := (List.getElem?_eq_some_iff.mp hj).1
  obtain ⟨p, h1, h2⟩ := h.2 j _ (List.getElem?_eq_getElem (by rw [← h.1]; exact hl))
  rw [hj] at h1
  cases h1
  exact ⟨_, List.getElem_mem _, h2⟩
theorem FRS.add {H0 H : Hp} {L : Lay} {p : Kp429.Parameters} {k : Nat} {D : Addr} {r : List Int} {H2 : Hp} (h : FRS H0 L p H) (hk : k ≤ 1) (hD : Cov H D (r.map V.int) H2) (hr : r ≠ []) :
    H2 (L.kl k) = some (.lst ((L.ks k).map V.ref)) ∧ (L.ks k).length = (rowsK p k).length ∧ ∃ L' : Lay, L'.rt = L.rt ∧ FRS H0 L' (addRows p k [r]) (upd H2 (L.kl k) (.lst ((L.ks k).map V.ref ++ [.ref D]))) := by
  obtain ⟨dn, dx, d2⟩ := hD
  have hu := dx _ _ h.rw.ul
  have hi := dx _ _ h.rw.il
  have hur := h.rw.ur.ex dx
  have hir := h.rw.ir.ex dx
  have posU : ∀ r ∈ p.users, r ≠ [] := fun r hr => h.pos r (List.mem_append_left _ hr)
  have posI : ∀ r ∈ p.items, r ≠ [] := fun r hr => h.pos r (List.mem_append_right _ hr)
  have d0 : H0 D = none := fresh h.ex dn
  have nDu : D ≠ L.ul := row_ne (r := r) d2 hu hr
  have nDi : D ≠ L.il := row_ne (r := r) d2 hi hr
  have dU : D ∉ L.ur := fun m => by
    obtain ⟨x, _, hx⟩ := h.rw.ur.mem m
    rw [dn] at hx
    cases hx
  have dI : D ∉ L.ir := fun m => by
    obtain ⟨x, _, hx⟩ := h.rw.ir.mem m
    rw [dn] at hx
    cases hx
  have hrt := dx _ _ h.rw.rt
  have exU : Ex H0 (upd H2 L.ul (.lst (L.ur.map V.ref ++ [.ref D]))) := fun b o hb => by
    rw [upd_ne (ne_of_none hb h.nu)]
    exact dx _ _ (h.ex _ _ hb)
  have exI : Ex H0 (upd H2 L.il (.lst (L.ir.map V.ref ++ [.ref D]))) := fun b o hb => by
    rw [upd_ne (ne_of_none hb h.ni)]
    exact dx _ _ (h.ex _ _ hb)
  have nd := List.nodup_append.mp h.nd
  rcases k01 hk with rfl | rfl
  · refine ⟨hu, h.rw.ur.1, { L with ur := L.ur ++ [D] }, rfl, exU, ⟨?_, ?_, ?_, ?_, ?_⟩, ?_, ?_, h.nu, h.ni, h.ne, ?_⟩
    · show upd H2 L.ul _ L.rt = _
      rw [upd_ne (tup_ne hrt hu)]
      exact hrt
    · show upd H2 L.ul _ L.ul = _
      rw [upd_same, List.map_append]
      rfl
    · show upd H2 L.ul _ L.il = _
      rw [upd_ne h.ne.symm]
      exact hi
    · exact (hur.addN ⟨_, hu⟩ posU).snoc (by show upd H2 L.ul _ D = _; rw [upd_ne nDu]; exact d2)
    · exact hir.addN ⟨_, hu⟩ posI
    · intro b hb
      rcases in_app hb with m | m
      · rcases in_app m with m | m
        · exact h.fr b (List.mem_append_left _ m)
        · rw [List.mem_singleton.mp m]
          exact d0
      · exact h.fr b (List.mem_append_right _ m)
    · show ((L.ur ++ [D]) ++ L.ir).Nodup
      rw [List.append_assoc]
      refine List.nodup_append.mpr ⟨nd.1, List.nodup_cons.mpr ⟨dI, nd.2.1⟩, fun a ha b hb e => ?_⟩
      rcases in_cons hb with m | m
      · rw [e, m] at ha
        exact dU ha
      · exact nd.2.2 a ha b m e
    · intro x hx
      rcases in_app hx with m | m
      · rcases in_app m with m | m
        · exact posU x m
        · rw [List.mem_singleton.mp m]
          exact hr
      · exact posI x m
  · refine ⟨hi, h.rw.ir.1, { L with ir := L.ir ++ [D] }, rfl, exI, ⟨?_, ?_, ?_, ?_, ?_⟩, ?_, ?_, h.nu, h.ni, h.ne, ?_⟩
    · show upd H2 L.il _ L.rt = _
      rw [upd_ne (tup_ne hrt hi)]
      exact hrt
    · show upd H2 L.il _ L.ul = _
      rw [upd_ne h.ne]
      exact hu
    · show upd H2 L.il _ L.il = _
      rw [upd_same, List.map_append]
      rfl
    · exact hur.addN ⟨_, hi⟩ posU
    · exact (hir.addN ⟨_, hi⟩ posI).snoc (by show upd H2 L.il _ D = _; rw [upd_ne nDi]; exact d2)
    · intro b hb
      rcases in_app hb with m | m
      · exact h.fr b (List.mem_append_left _ m)
      · rcases in_app m with m | m
        · exact h.fr b (List.mem_append_right _ m)
        · rw [List.mem_singleton.mp m]
          exact d0
    · show (L.ur ++ (L.ir ++ [D])).Nodup
      refine List.nodup_append.mpr ⟨nd.1, List.nodup_append.mpr ⟨nd.2.1, List.nodup_cons.mpr ⟨by simp, List.nodup_nil⟩, fun a ha b hb e => ?_⟩, fun a ha b hb e => ?_⟩
      · rw [e, List.mem_singleton.mp hb] at ha
        exact dI ha
      · rcases in_app hb with m | m
        · exact nd.2.2 a ha b m e
        · rw [e, List.mem_singleton.mp m] at ha
          exact dU ha
    · intro x hx
      rcases in_app hx with m | m
      · exact posU x m
      · rcases in_app m with m | m
        · exact posI x m
        · rw [List.mem_singleton.mp m]
          exact hr
theorem add_rows (p : Kp429.Parameters) (k : Nat) (xs ys : List (List Int)) : addRows (addRows p k xs) k ys = addRows p k (xs ++ ys) := by
  unfold addRows
  split <;> simp [List.append_assoc]
theorem add_nil (p : Kp429.Parameters) (k : Nat) : addRows p k [] = p := by
  unfold addRows
  split <;> simp
theorem add_len (p : Kp429.Parameters) (k : Nat) (xs : List (List Int)) : (rowsK (addRows p k xs) k).length = (rowsK p k).length + xs.length := by
  unfold addRows rowsK
  split <;> simp
theorem QdAt.lk {c : Cs} {H : Hp} {a : Addr} {q : Kp429.Quadratic} (h : QdAt c H a q) : ∃ dx, H a = some (.ins c.Q dx (fQ (.int q.curvature) (.int q.slope))) := h

def sp_hashed (c : Cs) : Sp := fun vs H Q _ => ∃ (t : Addr) (l : List Nat), vs = [.ref t] ∧ SqT c.K H t (l.map nV) ∧ l.length ≤ 4 ∧ RV (nV (Kp429.hash l)) H Q
def sp_first_value (c : Cs) : Sp := fun vs H Q _ => ∃ (a : Addr) (k n q : Nat) (s : Kp429.Settings), vs = [.ref a, nV k, nV n, nV q] ∧ StAt c H a s ∧ RV (.int (Kp429.firstValue s ⟨k, n, q⟩)) H Q
def sp_first_rows (c : Cs) : Sp := fun vs H Q _ => ∃ (a : Addr) (s : Kp429.Settings), vs = [.ref a] ∧ SetOk s ∧ StAt c H a s ∧ ∀ (L : Lay) H2, Ex H H2 → RwAt H2 L ⟨0, Kp429.firstRows s 0 s.users, Kp429.firstRows s 1 s.items⟩ → (∀ b ∈ L.ur ++ L.ir, H b = none) → (L.ur ++ L.ir).Nodup → Q (.ref L.rt) H2
def sp_first_base (c : Cs) : Sp := fun vs H Q _ => ∃ (p : Addr) (l : List Nat), vs = [.ref p] ∧ SqL c.K H p (l.map nV) ∧ l.length ≤ 64 ∧ (∀ v ∈ l, v ≤ 10) ∧ RV (.int (baseV l)) H Q
def sp_Quadratic_init (c : Cs) : Sp := fun vs H Q _ => ∃ (a dx : Addr) (q : Kp429.Quadratic), vs = [.ref a, .int q.curvature, .int q.slope] ∧ H a = some (.ins c.Q dx []) ∧ ∀ H2, (∀ b o, H b = some o → b ≠ a → H2 b = some o) → QdAt c H2 a q → Q .non H2
def sp_height (c : Cs) : Sp := fun vs H Q _ => ∃ (a : Addr) (q : Kp429.Quadratic) (x : Int), vs = [.ref a, .int x] ∧ QdAt c H a q ∧ Bd x ∧ RV (.int (Kp429.costOf q x)) H Q
def sp_nearest (c : Cs) : Sp := fun vs H Q _ => ∃ (a : Addr) (q : Kp429.Quadratic), vs = [.ref a] ∧ QdAt c H a q ∧ 0 < q.curvature ∧ q.curvature < 2 ^ 60 ∧ RV (.int (Kp429.nearest q.slope q.curvature)) H Q
def sp_Session_init (c : Cs) : Sp := fun vs H Q _ => ∃ (a dx : Addr), vs = [.ref a] ∧ H a = some (.ins c.E dx []) ∧ ∀ H2, (∀ b o, H b = some o → b ≠ a → H2 b = some o) → H2 a = some (.ins c.E dx (fE .non)) → Q .non H2
def sp_lowest_terms (c : Cs) : Sp := fun vs H Q _ => ∃ (x y : Nat), vs = [nV x, nV y] ∧ 0 < y ∧ x < 2 ^ 200 ∧ y < 2 ^ 200 ∧ RL [nV (x / Nat.gcd x y), nV (y / Nat.gcd x y)] H Q

section
variable {c : Cs} {mg : Str → Option Value} {vs : List V} {H : Hp} {Q : VK} {E : XK}
theorem p_hashed (T : Tx c mg) (h : sp_hashed c vs H Q E) : t_hashed c (Dq Q) (start n_hashed vs) H := by
  obtain ⟨t0, l, rfl, hs, hl, q⟩ := h
  refine q_set vc (q_tupVn (vv rfl) hs (fun i σ' H' => ∃ x y, σ' = [some (.ref t0), x, some (nV (hashN ((l.take i).flatMap Kp429.bytesOf))), y] ∧ Ex H H') ⟨_, _, rfl, Ex.refl H⟩ (fun i σ' H' _ ⟨_, _, _, e⟩ => Evl.ex_t e hs) ?_ ?_)
  · rintro i x σ' H' hx ⟨x0, y0, rfl, e⟩
    obtain ⟨n, hn, rfl⟩ : ∃ n, l[i]? = some n ∧ x = nV n := by
      rw [List.getElem?_map] at hx
      cases hq : l[i]? with
      | none =>
        rw [hq] at hx
        cases hx
      | some n =>
        rw [hq] at hx
        exact ⟨n, rfl, (Option.some.inj hx).symm⟩
    refine l_tupn (va1 vc (va1 vc (va1 vc (va1 vc va0)))) (by decide) (fun t j σ' H2 => ∃ y, σ' = [some (.ref t0), some (nV n), some (nV (hashN ((l.take i).flatMap Kp429.bytesOf ++ (List.range j).map (byteAt n)))), y] ∧ Ex H H2 ∧ H2 t = some (.tup [.int 0, .int 8, .int 16, .int 24]))
      (fun t ht => ⟨_, by rw [show (List.range 0).map (byteAt n) = [] from rfl, List.append_nil]; rfl, e.trans (exn ht), upd_same⟩) (fun t j σ' H' ⟨_, _, _, z⟩ => z) ?_ ?_
    · rintro t j w σ' H2 hw ⟨y, rfl, e2, ht⟩
      obtain ⟨hj, rfl⟩ := four_get hw
      refine s_set (v_iC (v_iC (v_i0 (vv rfl) (v_i0 (v_iC (vv rfl) (vv rfl) (Int.natCast_nonneg _)) vc)) vc (.inr ⟨by decide, by decide⟩)) vc (by decide)) ⟨some (nV (8 * j)), ?_, e2, ht⟩
      rw [byte_val, hash_step, List.range_succ, List.map_append, ← List.append_assoc]
      show _ = [_, _, some (nV (hashN (_ ++ [byteAt n j]))), _]
      rw [hashN_snoc]
      rfl
    · rintro t σ' H2 ⟨y, rfl, e2, ht⟩
      refine ⟨some (nV n), y, ?_, e2⟩
      have e3 : l.take (i + 1) = l.take i ++ [n] := by rw [List.take_add_one, hn] <;> rfl
      rw [e3, List.flatMap_append, List.flatMap_singleton, bytes_is]
      rfl
  · rintro σ' H' ⟨x0, y0, rfl, e⟩
    have e3 : l.take (l.map nV).length = l := by rw [List.length_map, List.take_length]
    rw [e3, ← hash_is]
    exact s_ret (vv rfl) (q.at e)
theorem p_first_value (T : Tx c mg) (h : sp_first_value c vs H Q E) : t_first_value c (sp_hashed c) (Dq Q) (start n_first_value vs) H := by
  obtain ⟨a, k, n, p, s, rfl, hs, q⟩ := h
  refine q_when (a_test (vt (by rw [deq]) (v_eqI (i := (p : Int)) (j := ((0 : Nat) : Int)) (vv rfl) vc))) (fun hb => ?_) (fun hb => ?_)
  · have hp : p = 0 := of_decide_eq_true hb
    subst hp
    exact s_ret vc q.now
  · have hp : p ≠ 0 := of_decide_eq_false hb
    refine q_asgK (op_1 (call_k (cons_k (c_tup (va1 (v_seed T hs (vv rfl)) (va1 (vv rfl) (va1 (vv rfl) (va1 (vv rfl) va0)))) (by show 4 ≤ 100000; decide) fun t ht => ?_))))
    refine ⟨t, [s.seed, k, n, p], rfl, stq upd_same, (by show 4 ≤ 4; decide), fun H2 e2 => ⟨_, _, rfl, rfl, ⟨by decide, by decide⟩, ?_⟩⟩
    have hs2 := hs.ex ((exn ht).trans e2)
    have ex := (exn (o := .tup [nV s.seed, nV k, nV n, nV p]) ht).trans e2
    refine q_set (v_min (v_limit T hs2 (vv rfl)) vc) ?_
    have hm : min ((s.limit : Nat) : Int) 64 = ((min s.limit 64 : Nat) : Int) := by omega
    have hh : ((Kp429.hash [s.seed, k, n, p] : Nat) : Int) / 65536 = ((Kp429.hash [s.seed, k, n, p] / 65536 : Nat) : Int) := by omega
    rw [hm]
    dsimp only
    rw [hh]
    refine q_when (a_test (v_eqI (v_nonneg T hs2 (vv rfl)) vc)) (fun hb => ?_) (fun hb => ?_)
    · have e : s.nonnegative = true := by
        have h1 : nnI s = 1 := of_decide_eq_true hb
        unfold nnI at h1
        split at h1
        · assumption
        · cases h1
      refine s_ret (vt ?_ (v_iC (vv rfl) (v_i0 (vv rfl) vc) (by omega))) (q.at ex)
      unfold Kp429.firstValue
      rw [if_neg hp, if_pos e]
      exact congrArg V.int (by rw [Int.natCast_emod] <;> rfl)
    · have e : ¬ s.nonnegative = true := by
        have h1 : nnI s ≠ 1 := of_decide_eq_false hb
        intro z
        unfold nnI at h1
        rw [if_pos z] at h1
        exact h1 rfl
      refine s_ret (vt ?_ (v_i0 (v_iC (vv rfl) (v_i0 (v_iC vc (vv rfl) (.inl ⟨by decide, by decide⟩)) vc) (by omega)) (vv rfl))) (q.at ex)
      unfold Kp429.firstValue
      rw [if_neg hp, if_neg e]
      exact congrArg V.int (by rw [Int.natCast_emod, Int.natCast_add, Int.natCast_mul] <;> rfl)
theorem p_first_rows (T : Tx c mg) (h : sp_first_rows c vs H Q E) : t_first_rows c (sp_first_value c) (Dq Q) (start n_first_rows vs) H := by
  obtain ⟨a, s, rfl, ok, hs, q⟩ := h
  refine q_asgK ?_
  refine cons_k (c_lst va0 (by decide) fun ul hul => cons_k (c_lst va0 (by decide) fun il hil => ?_))
  refine ⟨by show 2 ≤ sizeLine; decide, fun rt hrt => ?_⟩
  have nui : ul ≠ il := ne_of_none upd_same hil
  have f0 : FRS H ⟨0, 0, [], rt, ul, il, [], []⟩ ⟨0, [], []⟩ (upd (upd (upd H ul (.lst [])) il (.lst [])) rt (.tup [.ref ul, .ref il])) := by
    have n1 : ul ≠ rt := ne_of_none (show upd (upd H ul (.lst [])) il (.lst []) ul = some (.lst []) by rw [upd_ne nui, upd_same]) hrt
    have n2 : il ≠ rt := ne_of_none upd_same hrt
    exact ⟨((exn hul).trans (exn hil)).trans (exn hrt), ⟨upd_same, by rw [upd_ne n1, upd_ne nui, upd_same] <;> rfl, by rw [upd_ne n2, upd_same] <;> rfl, Each.nil, Each.nil⟩, fun b hb => by simp at hb, by simp, hul, fresh (exn hul) hil, nui, fun r hr => by simp at hr⟩
  generalize (upd (upd (upd H ul (.lst [])) il (.lst [])) rt (.tup [.ref ul, .ref il])) = H3 at f0
  let pk : Nat → Kp429.Parameters := fun i => match i with
    | 0 => ⟨0, [], []⟩
    | 1 => ⟨0, Kp429.firstRows s 0 s.users, []⟩
    | _ => ⟨0, Kp429.firstRows s 0 s.users, Kp429.firstRows s 1 s.items⟩
  refine q_tupn (va1 vc (va1 vc va0)) (by decide) (fun t i σ' H' => ∃ x y z w, σ' = [some (.ref a), x, y, z, some (.ref rt), w] ∧ H' t = some (.tup [.int 0, .int 1]) ∧ ∃ L : Lay, L.rt = rt ∧ FRS H L (pk i) H')
    (fun t ht => ⟨_, _, _, _, rfl, upd_same, _, rfl, ⟨f0.ex.trans (exn ht), f0.rw.ex (exn ht), f0.fr, f0.nd, f0.nu, f0.ni, f0.ne, f0.pos⟩⟩) (fun t i σ' H' ⟨_, _, _, _, _, ht, _⟩ => ht) ?_ ?_
  · rintro t i w σ' H' hw ⟨x, y, z, w', rfl, ht, L, hL, hf⟩
    obtain ⟨hi, rfl⟩ := two_get hw
    have hz := size_le ok i
    refine l_range1 (n := Kp429.sizeOf s i) (v_rc T (hs.ex hf.ex) hi (vv rfl) (vv rfl)) (by omega)
      (fun j σ' H' => ∃ y z w, σ' = [some (.ref a), some (nV i), y, z, some (.ref rt), w] ∧ H' t = some (.tup [.int 0, .int 1]) ∧ ∃ L : Lay, L.rt = rt ∧ FRS H L (addRows (pk i) i ((List.range j).map (frow s i))) H')
      ⟨_, _, _, rfl, ht, L, hL, by rw [show (List.range 0).map (frow s i) = [] from rfl, add_nil]; exact hf⟩ ?_ ?_
    · rintro j σ' H' hj ⟨y, z, w, rfl, ht, L, hL, hf⟩
      have hs2 := hs.ex hf.ex
      refine q_asgK (k_range1 (n := s.factors + 1) (v_i0 (v_factors T hs2 (vv rfl)) vc) (by have := ok.f3; omega) (fun q => .int (Kp429.firstValue s ⟨i, j, q⟩)) (fun _ => rfl) ?_ ?_)
      · intro q H1 hq e1 Q' k
        exact c_call (va1 (vv rfl) (va1 (vv rfl) (va1 (vv rfl) (va1 (vv rfl) va0)))) ⟨a, i, j, q, s, rfl, hs2.ex e1, k⟩
      · intro D H2 hD
        have e2 : (List.range (s.factors + 1)).map (fun q => V.int (Kp429.firstValue s ⟨i, j, q⟩)) = (frow s i j).map V.int := by
          unfold frow
          rw [List.map_map]
          rfl
        rw [e2] at hD
        obtain ⟨h1, h2, L', h3, h4⟩ := hf.add hi hD (frow_ne s i j)
        have hrt2 : H2 rt = some (.tup [.ref L.ul, .ref L.il]) := by
          rw [← hL]
          exact hD.2.1 _ _ hf.rw.rt
        refine s_app (v_ixT (vv rfl) (vv rfl) (stq hrt2) ?_) h1 (vv rfl) ?_ ⟨_, _, _, rfl, ?_, L', h3.trans hL, ?_⟩
        · rcases k01 hi with rfl | rfl
          · exact at0
          · exact at1
        · rw [List.length_map, h2, add_len, List.length_map, List.length_range]
          have : (rowsK (pk i) i).length = 0 := by
            rcases k01 hi with rfl | rfl
            · rfl
            · rfl
          omega
        · have ht2 := hD.2.1 _ _ ht
          rw [upd_ne (tup_ne ht2 h1)]
          exact ht2
        · rw [add_rows] at h4
          rw [List.range_succ, List.map_append]
          exact h4
    · rintro σ' H' ⟨y, z, w, rfl, ht, L, hL, hf⟩
      refine ⟨_, _, _, _, rfl, ht, L, hL, ?_⟩
      rw [← firstRows_is] at hf
      rcases k01 hi with rfl | rfl
      · exact hf
      · exact hf
  · rintro t σ' H' ⟨x, y, z, w, rfl, ht, L, hL, hf⟩
    refine s_ret (vv rfl) ?_
    rw [← hL]
    exact q L H' hf.ex hf.rw hf.fr hf.nd
theorem p_first_base (T : Tx c mg) (h : sp_first_base c vs H Q E) : t_first_base c (Dq Q) (start n_first_base vs) H := by
  obtain ⟨p, l, rfl, hs, hl, hv, q⟩ := h
  have hlen : (l.map nV).length = l.length := List.length_map ..
  refine q_when (a_test (v_eqI (v_len (vv rfl) hs) vc)) (fun hb => ?_) (fun hb => ?_)
  · have h0 : (((l.map nV).length : Nat) : Int) = 0 := of_decide_eq_true hb
    have e : l = [] := List.eq_nil_of_length_eq_zero (by rw [hlen] at h0; omega)
    subst e
    exact s_ret vc q.now
  · have h0 : (((l.map nV).length : Nat) : Int) ≠ 0 := of_decide_eq_false hb
    have hpos : 0 < l.length := by rw [hlen] at h0; omega
    have hsum : SqL c.K H p ((l.map fun (v : Nat) => (v : Int)).map V.int) := by
      rw [List.map_map]
      exact hs
    refine s_ret (vt ?_ (v_iC (v_iC vc (v_sum (vv rfl) hsum) (.inl ⟨by decide, by decide⟩)) (v_len (vv rfl) hs) ?_)) q.now
    · rw [hlen, cast_sum]
      unfold baseV
      have : l.isEmpty = false := by
        cases l with
        | nil => cases hpos
        | cons x r => rfl
      rw [this]
      exact congrArg V.int (by rw [if_neg Bool.false_ne_true, Int.natCast_ediv, Int.natCast_mul]; rfl)
    · rw [hlen]
      exact wide_div (b := 30) (by omega) (by omega) (by decide) (by decide)
theorem p_Quadratic_init (T : Tx c mg) (h : sp_Quadratic_init c vs H Q E) : t_Quadratic_init c (Dq Q) (start n_Quadratic_init vs) H := by
  obtain ⟨a, dx, qd, rfl, ha, q⟩ := h
  refine q_fld (vv rfl) (vv rfl) ha T.cl_Q T.na_Q_curvature (by show 0 < 1000; decide) pu_Q_curvature fun H1 a1 k1 => ?_
  refine s_fld (vv rfl) (vv rfl) a1 T.cl_Q T.na_Q_slope (by show 1 < 1000; decide) pu_Q_slope fun H2 a2 k2 => ?_
  exact q H2 (fun b o hb nb => by rw [k2 b nb, k1 b nb]; exact hb) ⟨dx, a2⟩
theorem v_curv {te : TE} {σ : L2.St} {a : Addr} {qd : Kp429.Quadratic} (T : Tx c mg) (h : QdAt c H a qd) (ho : Val te σ H (.ref a)) : Val (tFld c.K te "curvature") σ H (.int qd.curvature) := by
  obtain ⟨dx, e⟩ := h
  exact v_fld ho e T.cl_Q T.na_Q_curvature lk_Q_curvature
theorem v_slope {te : TE} {σ : L2.St} {a : Addr} {qd : Kp429.Quadratic} (T : Tx c mg) (h : QdAt c H a qd) (ho : Val te σ H (.ref a)) : Val (tFld c.K te "slope") σ H (.int qd.slope) := by
  obtain ⟨dx, e⟩ := h
  exact v_fld ho e T.cl_Q T.na_Q_slope lk_Q_slope
theorem p_height (T : Tx c mg) (h : sp_height c vs H Q E) : t_height c (Dq Q) (start n_height vs) H := by
  obtain ⟨a, qd, x, rfl, hq, hx, q⟩ := h
  refine s_ret (vt ?_ (v_i0 (v_iC (v_iC (v_curv T hq (vv rfl)) (vv rfl) (.inr (b64 hx))) (vv rfl) (.inr (b64 hx))) (v_iC (v_iC vc (v_slope T hq (vv rfl)) (.inl ⟨by decide, by decide⟩)) (vv rfl) (.inr (b64 hx))))) q.now
  unfold Kp429.costOf
  rw [Int.mul_assoc, Int.mul_assoc]
theorem p_nearest (T : Tx c mg) (h : sp_nearest c vs H Q E) : t_nearest c (Dq Q) (start n_nearest vs) H := by
  obtain ⟨a, qd, rfl, hq, h0, h1, q⟩ := h
  refine s_ret (vt ?_ (v_iC (v_i0 (v_iC vc (v_slope T hq (vv rfl)) (.inl ⟨by decide, by decide⟩)) (v_curv T hq (vv rfl))) (v_iC vc (v_curv T hq (vv rfl)) (.inl ⟨by decide, by decide⟩)) (wide_div (b := 100) (by omega) (by omega) (by decide) (by decide)))) q.now
  unfold Kp429.nearest
  rw [Int.fdiv_eq_ediv_of_nonneg _ (by omega)]
theorem p_Session_init (T : Tx c mg) (h : sp_Session_init c vs H Q E) : t_Session_init c (Dq Q) (start n_Session_init vs) H := by
  obtain ⟨a, dx, rfl, ha, q⟩ := h
  exact s_fld vc (vv rfl) ha T.cl_E T.na_E_model (by show 0 < 1000; decide) pu_E_model fun H1 a1 k1 => q H1 (fun b o hb nb => by rw [k1 b nb]; exact hb) a1
theorem p_lowest_terms (T : Tx c mg) (h : sp_lowest_terms c vs H Q E) : t_lowest_terms c (Dq Q) (start n_lowest_terms vs) H := by
  obtain ⟨x, y, rfl, hy, bx, bY, q⟩ := h
  refine q_set (vv rfl) (q_set (vv rfl) ?_)
  refine q_while (fun m σ' H' => ∃ d z, σ' = [some (nV x), some (nV y), some (nV d), z, some (nV m)] ∧ H' = H ∧ Nat.gcd d m = Nat.gcd x y) y ⟨x, _, rfl, rfl, rfl⟩ ?_
  rintro m σ' H' ⟨d, z, rfl, rfl, hg⟩
  refine ⟨!decide (m = 0), a_test (vt (by rw [← deq]) (v_neI (i := (m : Int)) (j := ((0 : Nat) : Int)) (vv rfl) vc)), fun hb => ?_, fun hb => ?_⟩
  · have hm : 0 < m := by
      have : m ≠ 0 := by simpa using hb
      omega
    refine q_set (v_iC (vv rfl) (vv rfl) (by omega)) (q_set (vv rfl) (s_set (vv rfl) ⟨d % m, Nat.mod_lt _ hm, m, some (.int ((d : Int) % (m : Int))), ?_, rfl, ?_⟩))
    · rfl
    · rw [← hg, Nat.gcd_comm m, ← Nat.gcd_rec, Nat.gcd_comm]
  · have hm : m = 0 := by simpa using hb
    subst hm
    have hd : d = Nat.gcd x y := by rw [← hg, Nat.gcd_zero_right]
    subst hd
    have gp : 0 < Nat.gcd x y := Nat.gcd_pos_of_pos_right _ hy
    have gl : Nat.gcd x y ≤ y := Nat.gcd_le_right _ hy
    have hw : CDivW (x : Int) ((Nat.gcd x y : Nat) : Int) := wide_div (b := 200) (by omega) (by rw [Int.natAbs_natCast]; omega) (by decide) (by decide)
    have hw2 : CDivW (y : Int) ((Nat.gcd x y : Nat) : Int) := hw
    refine s_retK (c_lst (va1 (v_iC (vv rfl) (vv rfl) hw) (va1 (v_iC (vv rfl) (vv rfl) hw2) va0)) (by show 2 ≤ 100000; decide) fun p hp => ?_)
    rw [← Int.natCast_ediv, ← Int.natCast_ediv]
    exact q.new (Ex.refl _) hp
end

theorem cal_hashed {P : Program} {w : World} {mg : Str → Option Value} {base : Heap} {c : Cs} (T : Tx c mg) (D : DefF c.K mg "hashed" s_hashed ["numbers"]) : C8.Cal P w c.K mg base 1 "hashed" (sp_hashed c) [] := by
  obtain ⟨f, fd, D, b⟩ := D.ex
  exact C8.cal0 D b .nil sc_hashed (fun vs H Q E h => by
    obtain ⟨t, l, e, _⟩ := h
    rw [e]
    rfl) (fun cdv A outer s H vs Q E hr h => ⟨_, d_hashed T hr, p_hashed T h⟩)
theorem cal_first_value {P : Program} {w : World} {mg : Str → Option Value} {base : Heap} {c : Cs} (T : Tx c mg) (D : DefF c.K mg "first_value" s_first_value ["settings", "kind", "number", "place"]) (c_hashed : C8.Cal P w c.K mg base 1 "hashed" (sp_hashed c) []) : C8.Cal P w c.K mg base 2 "first_value" (sp_first_value c) [] := by
  obtain ⟨f, fd, D, b⟩ := D.ex
  exact C8.cal0 D b .nil sc_first_value (fun vs H Q E h => by
    obtain ⟨a, k, n, q, s, e, _⟩ := h
    rw [e]
    rfl) (fun cdv A outer s H vs Q E hr h => ⟨_, d_first_value T c_hashed hr, p_first_value T h⟩)
theorem cal_first_rows {P : Program} {w : World} {mg : Str → Option Value} {base : Heap} {c : Cs} (T : Tx c mg) (D : DefF c.K mg "first_rows" s_first_rows ["settings"]) (c_first_value : C8.Cal P w c.K mg base 2 "first_value" (sp_first_value c) []) : C8.Cal P w c.K mg base 3 "first_rows" (sp_first_rows c) [] := by
  obtain ⟨f, fd, D, b⟩ := D.ex
  exact C8.cal0 D b .nil sc_first_rows (fun vs H Q E h => by
    obtain ⟨a, s, e, _⟩ := h
    rw [e]
    rfl) (fun cdv A outer s H vs Q E hr h => ⟨_, d_first_rows T c_first_value hr, p_first_rows T h⟩)
theorem cal_first_base {P : Program} {w : World} {mg : Str → Option Value} {base : Heap} {c : Cs} (T : Tx c mg) (D : DefF c.K mg "first_base" s_first_base ["values"]) : C8.Cal P w c.K mg base 1 "first_base" (sp_first_base c) [] := by
  obtain ⟨f, fd, D, b⟩ := D.ex
  exact C8.cal0 D b .nil sc_first_base (fun vs H Q E h => by
    obtain ⟨p, l, e, _⟩ := h
    rw [e]
    rfl) (fun cdv A outer s H vs Q E hr h => ⟨_, d_first_base T hr, p_first_base T h⟩)
theorem cal_Quadratic_init {P : Program} {w : World} {mg : Str → Option Value} {base : Heap} {c : Cs} (T : Tx c mg) (D : MakF c.K mg "Quadratic" c.Q "Quadratic.__init__" s_Quadratic_init ["self", "curvature", "slope"]) : C8.Mak P w c.K mg base 1 "Quadratic" c.Q (sp_Quadratic_init c) [] := by
  obtain ⟨f, fd, M, hm, F, b⟩ := D.ex
  exact C8.mak0 M hm F b .nil sc_Quadratic_init (fun vs H Q E h => by
    obtain ⟨a, dx, q, e, _⟩ := h
    rw [e]
    rfl) (fun cdv A outer s H vs Q E hr h => ⟨_, d_Quadratic_init T hr, p_Quadratic_init T h⟩)
theorem cal_height {P : Program} {w : World} {mg : Str → Option Value} {base : Heap} {c : Cs} (T : Tx c mg) (D : MetF c.K c.Q "height" "Quadratic.height" s_height ["self", "value"]) : C8.Met P w c.K mg base 1 c.Q "height" (sp_height c) [] := by
  obtain ⟨f, fd, M, F, b⟩ := D.ex
  exact C8.met0 T.cl_Q M F b sc_height (fun vs H Q E h => by
    obtain ⟨a, q, x, e, _⟩ := h
    rw [e]
    rfl) (fun cdv A outer s H vs Q E hr h => ⟨_, d_height T hr, p_height T h⟩)
theorem cal_nearest {P : Program} {w : World} {mg : Str → Option Value} {base : Heap} {c : Cs} (T : Tx c mg) (D : MetF c.K c.Q "nearest" "Quadratic.nearest" s_nearest ["self"]) : C8.Met P w c.K mg base 1 c.Q "nearest" (sp_nearest c) [] := by
  obtain ⟨f, fd, M, F, b⟩ := D.ex
  exact C8.met0 T.cl_Q M F b sc_nearest (fun vs H Q E h => by
    obtain ⟨a, q, e, _⟩ := h
    rw [e]
    rfl) (fun cdv A outer s H vs Q E hr h => ⟨_, d_nearest T hr, p_nearest T h⟩)
theorem cal_Session_init {P : Program} {w : World} {mg : Str → Option Value} {base : Heap} {c : Cs} (T : Tx c mg) (D : MakF c.K mg "Session" c.E "Session.__init__" s_Session_init ["self"]) : C8.Mak P w c.K mg base 1 "Session" c.E (sp_Session_init c) [] := by
  obtain ⟨f, fd, M, hm, F, b⟩ := D.ex
  exact C8.mak0 M hm F b .nil sc_Session_init (fun vs H Q E h => by
    obtain ⟨a, dx, e, _⟩ := h
    rw [e]
    rfl) (fun cdv A outer s H vs Q E hr h => ⟨_, d_Session_init T hr, p_Session_init T h⟩)
theorem cal_lowest_terms {P : Program} {w : World} {mg : Str → Option Value} {base : Heap} {c : Cs} (T : Tx c mg) (D : DefF c.K mg "lowest_terms" s_lowest_terms ["numerator", "denominator"]) : C8.Cal P w c.K mg base 1 "lowest_terms" (sp_lowest_terms c) [] := by
  obtain ⟨f, fd, D, b⟩ := D.ex
  exact C8.cal0 D b .nil sc_lowest_terms (fun vs H Q E h => by
    obtain ⟨x, y, e, _⟩ := h
    rw [e]
    rfl) (fun cdv A outer s H vs Q E hr h => ⟨_, d_lowest_terms T hr, p_lowest_terms T h⟩)

end Lk
set_option Elab.async false
set_option maxRecDepth 100000
set_option maxHeartbeats 5000000
set_option linter.all false
namespace Lk
open PySem PySem.Spec PyProof.Rows L2
open Evl (Ex)
/-! ### changes -/
def Chg (W : List Addr) (H H2 : Hp) : Prop := ∀ b o, H b = some o → b ∉ W → H2 b = some o
structure Upd (c : Cs) (H H2 : Hp) (a : Addr) (L L2 : Lay) (m' : Ms) : Prop where
  md : MdAt c H2 a L2 m'
  chg : Chg (L.own a) H H2
  own : ∀ b ∈ L2.own a, b ∈ L.own a ∨ H b = none
theorem Upd.trans {c : Cs} {H H1 H2 : Hp} {a : Addr} {L L1 L2 : Lay} {m1 m2 : Ms} (x : Upd c H H1 a L L1 m1) (y : Upd c H1 H2 a L1 L2 m2) : Upd c H H2 a L L2 m2 := by
  have back : ∀ b, H1 b = none → b ∈ L.own a ∨ H b = none := fun b hb => by
    cases q : H b with
    | none => exact .inr rfl
    | some o =>
      by_cases hm : b ∈ L.own a
      · exact .inl hm
      · rw [x.chg b o q hm] at hb
        cases hb
  refine ⟨y.md, fun b o hb nb => y.chg b o (x.chg b o hb nb) fun m => ?_, fun b hb => ?_⟩
  · rcases x.own b m with z | z
    · exact nb z
    · rw [hb] at z
      cases z
  · rcases y.own b hb with z | z
    · exact x.own b z
    · exact back b z
theorem Upd.same {c : Cs} {H H2 : Hp} {a : Addr} {L : Lay} {m : Ms} (h : MdAt c H a L m) (e : Ex H H2) : Upd c H H2 a L L m := ⟨h.ex e, fun b o hb _ => e b o hb, fun b hb => .inl hb⟩
theorem Upd.ex {c : Cs} {H H1 H2 : Hp} {a : Addr} {L L1 : Lay} {m1 : Ms} (x : Upd c H H1 a L L1 m1) (e : Ex H1 H2) : Upd c H H2 a L L1 m1 := x.trans (Upd.same x.md e)
/-! ### objects of different kinds -/
section
variable {c : Cs} {H H2 : Hp} {a b p C dx : Addr} {L : Lay} {m : Ms} {s : Kp429.Settings} {fs : List (Str × V)} {xs : List V}
theorem ins_lst (h : H a = some (.ins C dx fs)) (h' : H b = some (.lst xs)) : b ≠ a := ne_of h' h (by intro z; cases z)
theorem ins_tup (h : H a = some (.ins C dx fs)) (h' : H b = some (.tup xs)) : b ≠ a := ne_of h' h (by intro z; cases z)
theorem st_ne {C' : Addr} {dx' : Addr} {fs' : List (Str × V)} (h : H a = some (.ins C dx fs)) (h' : H b = some (.ins C' dx' fs')) (hl : fs.length ≠ fs'.length) : b ≠ a := ne_of h' h fun z => by
  have z : fs' = fs := by cases z; rfl
  exact hl (by rw [z])
/-- the settings stand where an instance with other attributes changes -/
theorem StAt.off (h : StAt c H b s) (ha : H a = some (.ins C dx fs)) (hl : fs.length ≠ 8) (k : ∀ q, q ≠ a → H2 q = H q) : StAt c H2 b s := by
  obtain ⟨dx, rc, pl, pts, h1, h2, h3, h4⟩ := h
  have n1 : b ≠ a := st_ne ha h1 hl
  exact ⟨dx, rc, pl, pts, by rw [k b n1]; exact h1, by rw [k rc (ins_tup ha h2)]; exact h2, by rw [k pl (ins_lst ha h3)]; exact h3, h4.keep (p := a) (fun q o hq nq => by rw [k q nq]; exact hq) fun x _ q hq => ins_tup ha hq⟩
theorem Each.off {α : Type} {F : α → HO} {ps : List Addr} {xs : List α} (h : Each H F ps xs) (hF : ∀ x, ∃ vs, F x = .lst vs) (ha : H a = some (.ins C dx fs)) (k : ∀ q, q ≠ a → H2 q = H q) : Each H2 F ps xs :=
  h.keep (p := a) (fun q o hq nq => by rw [k q nq]; exact hq) fun x _ q hq => by
    obtain ⟨vs, e⟩ := hF x
    rw [e] at hq
    exact ins_lst ha hq
theorem rowI_lst (r : List Int) : ∃ vs, rowI r = .lst vs := ⟨_, rfl⟩
theorem rowN_lst (r : List Nat) : ∃ vs, rowN r = .lst vs := ⟨_, rfl⟩
theorem RwAt.off {pp : Kp429.Parameters} (h : RwAt H L pp) (ha : H a = some (.ins C dx fs)) (k : ∀ q, q ≠ a → H2 q = H q) : RwAt H2 L pp :=
  ⟨by rw [k _ (ins_tup ha h.rt)]; exact h.rt, by rw [k _ (ins_lst ha h.ul)]; exact h.ul, by rw [k _ (ins_lst ha h.il)]; exact h.il, h.ur.off rowI_lst ha k, h.ir.off rowI_lst ha k⟩
theorem mF_len {st ro rt : Addr} {z : Int} : (mF st ro rt z).length ≠ 8 := by
  show 4 ≠ 8
  decide
theorem RwAt.lay {L' : Lay} {pp : Kp429.Parameters} (h : RwAt H L pp) (e1 : L'.rt = L.rt) (e2 : L'.ul = L.ul) (e3 : L'.il = L.il) (e4 : L'.ur = L.ur) (e5 : L'.ir = L.ir) : RwAt H L' pp :=
  ⟨by rw [e1, e2, e3]; exact h.rt, by rw [e2, e4]; exact h.ul, by rw [e3, e5]; exact h.il, by rw [e4]; exact h.ur, by rw [e5]; exact h.ir⟩
theorem RwAt.par {pp qq : Kp429.Parameters} (h : RwAt H L pp) (e1 : qq.users = pp.users) (e2 : qq.items = pp.items) : RwAt H L qq := ⟨h.rt, h.ul, h.il, by rw [e1]; exact h.ur, by rw [e2]; exact h.ir⟩
theorem Each.there {α : Type} {F : α → HO} {ps : List Addr} {xs : List α} (h : Each H F ps xs) {q : Addr} (hq : q ∈ ps) : H q ≠ none := by
  obtain ⟨x, _, hx⟩ := h.mem hq
  rw [hx]
  intro z
  cases z
end
/-! ### a list of new lists -/
def Con (H0 : Hp) (p : Addr) (xs : List (List V)) (H : Hp) : Prop := H0 p = none ∧ Ex H0 H ∧ ∃ ps : List Addr, H p = some (.lst (ps.map V.ref)) ∧ Each H HO.lst ps xs ∧ ps.Nodup ∧ (∀ q ∈ ps, H0 q = none) ∧ p ∉ ps
section
variable {H0 H H' : Hp} {p t : Addr} {xs : List (List V)} {r : List V}
theorem Con.start (hp : H p = none) : Con H p [] (upd H p (.lst [])) := ⟨hp, exn hp, [], upd_same, Each.nil, List.nodup_nil, fun q hq => by simp at hq, by simp⟩
theorem Con.ex (h : Con H0 p xs H) (e : Ex H H') : Con H0 p xs H' := let ⟨h1, h2, ps, h3, h4, h5⟩ := h; ⟨h1, h2.trans e, ps, e _ _ h3, h4.ex e, h5⟩
theorem Con.weak {H1 : Hp} (h : Con H0 p xs H) (e : Ex H1 H0) : Con H1 p xs H := let ⟨h1, h2, ps, h3, h4, h5, h6, h7⟩ := h; ⟨fresh e h1, e.trans h2, ps, h3, h4, h5, fun q hq => fresh e (h6 q hq), h7⟩
/-- one more: what is behind the making of the item -/
theorem Con.add (h : Con H0 p xs H) (ht : H t = none) (e : Ex H H') (hr : H' t = some (.lst r)) : ∃ ps : List Addr, H' p = some (.lst (ps.map V.ref)) ∧ ps.length = xs.length ∧ Con H0 p (xs ++ [r]) (upd H' p (.lst (ps.map V.ref ++ [.ref t]))) := by
  obtain ⟨h1, h2, ps, h3, h4, h5, h6, h7⟩ := h
  have tp : t ≠ p := fun z => by
    rw [z, h3] at ht
    cases ht
  have tn : t ∉ ps := fun m => (h4.there m) ht
  refine ⟨ps, e _ _ h3, h4.1, h1, fun b o hb => ?_, ps ++ [t], ?_, ?_, ?_, ?_, ?_⟩
  · rw [upd_ne (ne_of_none hb h1)]
    exact e _ _ (h2 _ _ hb)
  · rw [upd_same, List.map_append]
    rfl
  · refine Each.snoc ⟨h4.1, fun j x hx => ?_⟩ (by rw [upd_ne tp]; exact hr)
    obtain ⟨q, q1, q2⟩ := h4.2 j x hx
    refine ⟨q, q1, ?_⟩
    rw [upd_ne fun z => h7 (by rw [← z]; exact List.mem_of_getElem? q1)]
    exact e _ _ q2
  · exact List.nodup_append.mpr ⟨h5, List.nodup_cons.mpr ⟨by simp, List.nodup_nil⟩, fun x hx y hy z => tn (by rw [← List.mem_singleton.mp hy, ← z]; exact hx)⟩
  · intro q hq
    rcases in_app hq with m | m
    · exact h6 q m
    · rw [List.mem_singleton.mp m]
      exact fresh h2 ht
  · intro m
    rcases in_app m with m | m
    · exact h7 m
    · exact tp (List.mem_singleton.mp m).symm
end
section
variable {K : PySem.W.Frag} {σ : L2.St} {H : Hp} {ta te tl to : TE} {j n a : Nat} {ws : List Nat} {Q : VK}
/-- [x] * n -/
theorem c_rep {x : V} {p : Nat} (h : Val ta σ H x) (hn : Val te σ H (nV p)) (hp : p ≤ 100000) (hn' : ∀ H1, Ex H H1 → Val te σ H1 (nV p)) (q : ∀ t H2, H t = none → Ex H H2 → H2 t = some (.lst (List.replicate p x)) → Q (.ref t) H2) : tOp rRep (tLst (tCons ta tNil)) te σ H Q :=
  c_lst (va1 h va0) (by show 1 ≤ 100000; decide) fun l hl => (hn' _ (exn hl)) _ ⟨l, (p : Int), [x], rfl, rfl, upd_same, by omega, by omega, (by rw [Int.toNat_natCast]; show 1 * p ≤ sizeLine; rw [Nat.one_mul]; exact Evl.sz_of hp), fun t ht => by
    rw [Int.toNat_natCast]
    refine q t _ (fresh (exn hl) ht) ((exn hl).trans (exn ht)) ?_
    rw [upd_same]
    have e : ∀ k : Nat, (List.replicate k [x]).flatten = List.replicate k x := fun k => by
      induction k with
      | zero => rfl
      | succ k ih => rw [List.replicate_succ, List.flatten_cons, ih, List.replicate_succ] <;> rfl
    rw [e]⟩
/-- [<a new list> for .. in range(n)] -/
theorem k_rangeN (h : Val ta σ H (nV n)) (hn : n ≤ 50000) (f : Nat → List V) (hw : ∀ x, wipe ((wipe σ ws).set j (some x)) ws = wipe σ ws)
    (he : ∀ (i : Nat) H1, i < n → Ex H H1 → ∀ Q : VK, (∀ t H2, H1 t = none → Ex H1 H2 → H2 t = some (.lst (f i)) → Q (.ref t) H2) → te ((wipe σ ws).set j (some (nV i))) H1 Q) (q : ∀ D H2, Con H D ((List.range n).map f) H2 → Q (.ref D) H2) :
    tLc (iRng1 (tCons ta tNil)) (gName j) tYes te ws σ H Q :=
  h _ ⟨(n : Int), rfl, by omega, by omega, fun D hD => lc_range (lo := 0) (n := ((n : Nat) : Int).toNat) (fun i H' => Con H D ((List.range i).map f) H') (Con.start hD) (fun i H' hi p => by
    rw [Int.toNat_natCast] at hi
    have e0 := Int.zero_add (i : Int)
    show wipe ((wipe σ ws).set j (some (.int ((0 : Int) + (i : Int))))) ws = wipe σ ws ∧ tYes ((wipe σ ws).set j (some (.int ((0 : Int) + (i : Int))))) H' fun b H3 => if b = true then te ((wipe σ ws).set j (some (.int ((0 : Int) + (i : Int))))) H3 fun y H4 => ∃ acc, H4 D = some (.lst acc) ∧ acc.length < sizeLine ∧ Con H D ((List.range (i + 1)).map f) (upd H4 D (.lst (acc ++ [y]))) else Con H D ((List.range (i + 1)).map f) H3
    rw [e0]
    refine ⟨hw _, ?_⟩
    show te ((wipe σ ws).set j (some (.int (i : Int)))) H' _
    refine he i H' hi p.2.1 _ fun t H2 ht e2 h2 => ?_
    obtain ⟨ps, h3, h4, h5⟩ := p.add ht e2 h2
    refine ⟨_, h3, Evl.sz_lt (by rw [List.length_map, h4, List.length_map, List.length_range]; omega), ?_⟩
    rw [List.range_succ, List.map_append]
    exact h5) (fun H' p => q D H' (by rw [Int.toNat_natCast] at p; exact p))⟩
/-- [e for x in xs], values -/
theorem k_list {a : Addr} {xs : List V} (h : Val tl σ H (.ref a)) (hx : SqL K H a xs) (hz : xs.length ≤ 50000) (f : Nat → V) (hw : ∀ x, wipe ((wipe σ ws).set j (some x)) ws = wipe σ ws)
    (he : ∀ (i : Nat) x H1, xs[i]? = some x → Ex H H1 → ∀ Q : VK, (∀ H2, Ex H1 H2 → Q (f i) H2) → te ((wipe σ ws).set j (some x)) H1 Q) (q : ∀ D H2, Cov H D ((List.range xs.length).map f) H2 → Q (.ref D) H2) :
    tLc (iList K tl) (gName j) tYes te ws σ H Q :=
  h _ ⟨a, rfl, ⟨xs, hx⟩, fun D hD => lc_list (xs := xs) (fun i H' => Cov H D ((List.range i).map f) H') (Cov.start hD) (fun i H' _ p => Evl.ex_l p.2.1 hx) (fun i x H' hi p => ⟨hw _, he i x H' hi p.2.1 _ fun H2 e2 => by
    have p2 := p.ex e2
    have hl := (List.getElem?_eq_some_iff.mp hi).1
    refine ⟨_, p2.2.2, Evl.sz_lt (by rw [List.length_map, List.length_range]; omega), ?_⟩
    rw [List.range_succ, List.map_append]
    exact p2.add⟩) (fun H' p => q D H' p)⟩
/-- [<a new list> for x in xs] -/
theorem k_listN {a : Addr} {α : Type} {F : α → V} {zs : List α} (h : Val tl σ H (.ref a)) (hx : SqL K H a (zs.map F)) (hz : zs.length ≤ 50000) (f : α → List V) (hw : ∀ x, wipe ((wipe σ ws).set j (some x)) ws = wipe σ ws)
    (he : ∀ (i : Nat) z H1, zs[i]? = some z → Ex H H1 → ∀ Q : VK, (∀ t H2, H1 t = none → Ex H1 H2 → H2 t = some (.lst (f z)) → Q (.ref t) H2) → te ((wipe σ ws).set j (some (F z))) H1 Q) (q : ∀ D H2, Con H D (zs.map f) H2 → Q (.ref D) H2) :
    tLc (iList K tl) (gName j) tYes te ws σ H Q :=
  h _ ⟨a, rfl, ⟨zs.map F, hx⟩, fun D hD => lc_list (xs := zs.map F) (fun i H' => Con H D ((zs.take i).map f) H') (Con.start hD) (fun i H' _ p => Evl.ex_l p.2.1 hx) (fun i x H' hi p => by
    obtain ⟨z, hz', rfl⟩ : ∃ z, zs[i]? = some z ∧ x = F z := by
      rw [List.getElem?_map] at hi
      cases e : zs[i]? with
      | none =>
        rw [e] at hi
        cases hi
      | some z =>
        rw [e] at hi
        exact ⟨z, rfl, (Option.some.inj hi).symm⟩
    refine ⟨hw _, he i z H' hz' p.2.1 _ fun t H2 ht e2 h2 => ?_⟩
    obtain ⟨ps, h3, h4, h5⟩ := p.add ht e2 h2
    have hl := (List.getElem?_eq_some_iff.mp hz').1
    refine ⟨_, h3, Evl.sz_lt (by rw [List.length_map, h4, List.length_map, List.length_take]; omega), ?_⟩
    rw [List.take_add_one, hz', List.map_append]
    exact h5) (fun H' p => q D H' (by rw [List.length_map, List.take_length] at p; exact p))⟩
/-- targets of two and three names -/
theorem g2 {i j : Nat} {t : Addr} {x y : V} {Q : L2.St → Hp → Prop} (ht : SqT K H t [x, y]) (q : Q ((σ.set i (some x)).set j (some y)) H) : gTup K 2 (gCons (gName i) (gCons (gName j) gNil)) (.ref t) σ H Q := ⟨t, _, rfl, ht, rfl, x, [y], rfl, y, [], rfl, rfl, q⟩
theorem g3 {i j k : Nat} {t : Addr} {x y z : V} {Q : L2.St → Hp → Prop} (ht : SqT K H t [x, y, z]) (q : Q (((σ.set i (some x)).set j (some y)).set k (some z)) H) : gTup K 3 (gCons (gName i) (gCons (gName j) (gCons (gName k) gNil))) (.ref t) σ H Q := ⟨t, _, rfl, ht, rfl, x, [y, z], rfl, y, [z], rfl, z, [], rfl, rfl, q⟩
/-- list(xs) -/
theorem c_list {p : Addr} {xs : List V} (h : Val te σ H (.ref p)) (hx : SqL K H p xs) (q : ∀ t, H t = none → Q (.ref t) (upd H t (.lst xs))) : tCB (Evl.rListS K) (tCons te tNil) σ H Q := h _ ⟨p, xs, rfl, .inl hx, q⟩
end
/-- a comprehension over enumerate(xs) -/
theorem lc_enum {K : PySem.W.Frag} {a : Addr} {xs : List V} {g : TG} {tt : TT} {te : TE} {vs : List Nat} {σ : L2.St} {H1 : Hp} {D : Addr} {Qd : Hp → Prop} (Pv : Nat → Hp → Prop) (h0 : Pv 0 (upd H1 D (.lst []))) (hl : ∀ i J, i ≤ xs.length → Pv i J → SqL K J a xs)
    (hs : ∀ i x T J, xs[i]? = some x → Pv i J → J T = none → g (.ref T) (wipe σ vs) (upd J T (.tup [nV i, x])) fun τ J1 => wipe τ vs = wipe σ vs ∧ tt τ J1 fun b J2 =>
      if b = true then te τ J2 fun y J3 => ∃ ys, J3 D = some (.lst ys) ∧ ys.length < sizeLine ∧ Pv (i + 1) (upd J3 D (.lst (ys ++ [y]))) else Pv (i + 1) J2) (hd : ∀ J, Pv xs.length J → Qd J) :
    ∃ Z : Nat → Nat → Hp → Prop, (∃ n, Z 0 n (upd H1 D (.lst []))) ∧ ∀ i n J, Z i n J →
      ((Ite K a).stop i J ∧ Qd J) ∨ ((Ite K a).go i J ∧ ∃ Y : Hp → Prop, (∀ J', Y J' → ∃ n', n' < n ∧ Z (i + 1) n' J') ∧ ∀ x J', (Ite K a).yld i J x J' → g x (wipe σ vs) J' fun τ J1 => wipe τ vs = wipe σ vs ∧ tt τ J1 fun b J2 =>
        if b = true then te τ J2 fun y J3 => ∃ ys, J3 D = some (.lst ys) ∧ ys.length < sizeLine ∧ Y (upd J3 D (.lst (ys ++ [y]))) else Y J2) := by
  refine ⟨fun i n J => n + i = xs.length ∧ Pv i J, ⟨xs.length, Nat.add_zero _, h0⟩, fun i n J ⟨sum, p⟩ => ?_⟩
  have here := hl i J (by omega) p
  cases n with
  | zero =>
    obtain rfl : i = xs.length := (Nat.zero_add i).symm.trans sum
    exact .inl ⟨⟨xs, here, Nat.le_refl _⟩, hd J p⟩
  | succ n =>
    have lt : i < xs.length := by omega
    right
    refine ⟨⟨xs, xs[i], here, List.getElem?_eq_getElem lt⟩, Pv (i + 1), fun J' p' => ⟨n, Nat.lt_succ_self n, by omega, p'⟩, ?_⟩
    rintro x J' ⟨T, z, rfl, free, rfl, at_⟩
    exact hs i z T J (at_ xs here) p free
section
variable {K : PySem.W.Frag} {σ : L2.St} {H : Hp} {D : Ends} {tz : TS} {ta te to : TE} {tt : TT} {g : TG} {ws : List Nat} {Q : VK} {t : TA} {p a : Addr} {xs : List V} {v : V}
theorem k_enum (h : Val ta σ H (.ref a)) (hx : SqL K H a xs) (Pv : Addr → Nat → Hp → Prop) (h0 : ∀ D, H D = none → Pv D 0 (upd H D (.lst []))) (hl : ∀ D i H, i ≤ xs.length → Pv D i H → SqL K H a xs)
    (hs : ∀ D i x T H, xs[i]? = some x → Pv D i H → H T = none → g (.ref T) (wipe σ ws) (upd H T (.tup [nV i, x])) fun σ2 H2 => wipe σ2 ws = wipe σ ws ∧ tt σ2 H2 fun b H3 =>
      if b = true then te σ2 H3 fun y H4 => ∃ acc, H4 D = some (.lst acc) ∧ acc.length < sizeLine ∧ Pv D (i + 1) (upd H4 D (.lst (acc ++ [y]))) else Pv D (i + 1) H3) (hd : ∀ D H, Pv D xs.length H → Q (.ref D) H) : tLc (iEnum K (tCons ta tNil)) g tt te ws σ H Q :=
  h _ ⟨a, xs, rfl, hx, fun D hD => lc_enum (Pv D) (h0 D hD) (hl D) (hs D) (hd D)⟩
theorem bm_k {r : V → List V → Hp → VK → Prop} (ho : Val to σ H (.ref p)) (hp : H p = some (.lst xs)) (h : t σ H fun vs H2 => r (.ref p) vs H2 Q) : tBM K "list" r to t σ H Q := ho _ ⟨.inl ⟨rfl, _, sq_ hp⟩, h⟩
theorem s_dropK (h : te σ H fun _ H1 => D.nx σ H1) : tDrop te D σ H := h
theorem q_dropK (h : te σ H fun _ H1 => tz D σ H1) : tSeq (tDrop te) tz D σ H := h
theorem yes_k {A B : Hp → Prop} (h : A H) : tYes σ H (fun b H3 => if b = true then A H3 else B H3) := h
theorem v_k (h : Val te σ H v) (q : Q v H) : te σ H Q := h _ q
end
def pairT (x : Nat × Nat) : HO := .tup [nV x.1, nV x.2]
def resT (x : Nat × Int) : HO := .tup [nV x.1, .int x.2]
theorem pairT_tup (x : Nat × Nat) : ∃ vs, pairT x = .tup vs := ⟨_, rfl⟩
theorem resT_tup (x : Nat × Int) : ∃ vs, resT x = .tup vs := ⟨_, rfl⟩
theorem kp {c : Cs} {H : Hp} {a : Addr} {L : Lay} {m : Ms} (h : MdAt c H a L m) : ∃ dx fs, H a = some (.ins c.M dx fs) ∧ fs.lookup ("begin_again" : Str) = none ∧ fs.lookup ("drop_ratings" : Str) = none ∧ fs.lookup ("twin" : Str) = none ∧ fs.lookup ("all_ratings" : Str) = none ∧ fs.lookup ("ratings_of" : Str) = none ∧
    fs.lookup ("prediction_parts" : Str) = none ∧ fs.lookup ("prediction" : Str) = none ∧ fs.lookup ("residuals_of" : Str) = none := by
  obtain ⟨dx, e⟩ := h.ob
  exact ⟨dx, _, e, lk_M_begin_again, lk_M_drop_ratings, lk_M_twin, lk_M_all_ratings, lk_M_ratings_of, lk_M_prediction_parts, lk_M_prediction, lk_M_residuals_of⟩
section
variable {c : Cs} {σ : L2.St} {H : Hp} {a : Addr} {L : Lay} {m : Ms} {te : TE} {sp : Sp} {tv : TA} {vs : List V} {E : XK} {Q : VK}
theorem c_begin_again (h : MdAt c H a L m) (ho : Val te σ H (.ref a)) (hv : VaA tv σ H vs) (q : sp (.ref a :: (vs ++ [])) H Q E) : tMeth c.M "begin_again" sp [] E te tv σ H Q := let ⟨_, _, e, h1, _⟩ := kp h; c_meth ho e h1 hv q
theorem c_drop_ratings (h : MdAt c H a L m) (ho : Val te σ H (.ref a)) (hv : VaA tv σ H vs) (q : sp (.ref a :: (vs ++ [])) H Q E) : tMeth c.M "drop_ratings" sp [] E te tv σ H Q := let ⟨_, _, e, _, h1, _⟩ := kp h; c_meth ho e h1 hv q
theorem c_twin (h : MdAt c H a L m) (ho : Val te σ H (.ref a)) (hv : VaA tv σ H vs) (q : sp (.ref a :: (vs ++ [])) H Q E) : tMeth c.M "twin" sp [] E te tv σ H Q := let ⟨_, _, e, _, _, h1, _⟩ := kp h; c_meth ho e h1 hv q
theorem c_all_ratings (h : MdAt c H a L m) (ho : Val te σ H (.ref a)) (hv : VaA tv σ H vs) (q : sp (.ref a :: (vs ++ [])) H Q E) : tMeth c.M "all_ratings" sp [] E te tv σ H Q := let ⟨_, _, e, _, _, _, h1, _⟩ := kp h; c_meth ho e h1 hv q
theorem c_ratings_of (h : MdAt c H a L m) (ho : Val te σ H (.ref a)) (hv : VaA tv σ H vs) (q : sp (.ref a :: (vs ++ [])) H Q E) : tMeth c.M "ratings_of" sp [] E te tv σ H Q := let ⟨_, _, e, _, _, _, _, h1, _⟩ := kp h; c_meth ho e h1 hv q
theorem c_prediction_parts (h : MdAt c H a L m) (ho : Val te σ H (.ref a)) (hv : VaA tv σ H vs) (q : sp (.ref a :: (vs ++ [])) H Q E) : tMeth c.M "prediction_parts" sp [] E te tv σ H Q := let ⟨_, _, e, _, _, _, _, _, h1, _⟩ := kp h; c_meth ho e h1 hv q
theorem c_prediction (h : MdAt c H a L m) (ho : Val te σ H (.ref a)) (hv : VaA tv σ H vs) (q : sp (.ref a :: (vs ++ [])) H Q E) : tMeth c.M "prediction" sp [] E te tv σ H Q := let ⟨_, _, e, _, _, _, _, _, _, h1, _⟩ := kp h; c_meth ho e h1 hv q
theorem c_residuals_of (h : MdAt c H a L m) (ho : Val te σ H (.ref a)) (hv : VaA tv σ H vs) (q : sp (.ref a :: (vs ++ [])) H Q E) : tMeth c.M "residuals_of" sp [] E te tv σ H Q := let ⟨_, _, e, _, _, _, _, _, _, _, h1⟩ := kp h; c_meth ho e h1 hv q
end

def sp_prediction_parts (c : Cs) : Sp := fun vs H Q _ => ∃ (a : Addr) (u i : Nat) (L : Lay) (m : Ms), vs = [.ref a, nV u, nV i] ∧ MdAt c H a L m ∧ u < m.s.users ∧ i < m.s.items ∧ RL ((partsP m.p u i).map V.int) H Q
def sp_prediction (c : Cs) : Sp := fun vs H Q _ => ∃ (a : Addr) (u i : Nat) (L : Lay) (m : Ms), vs = [.ref a, nV u, nV i] ∧ MdAt c H a L m ∧ u < m.s.users ∧ i < m.s.items ∧ RV (.int (Kp429.predict m.p u i)) H Q
def sp_ratings_of (c : Cs) : Sp := fun vs H Q _ => ∃ (a : Addr) (k n : Nat) (L : Lay) (m : Ms), vs = [.ref a, nV k, nV n] ∧ MdAt c H a L m ∧ k ≤ 1 ∧ n < Kp429.sizeOf m.s k ∧ ∀ p H2, Col pairT H p (obs 0 (lineR m.R k n)) H2 → Q (.ref p) H2
def sp_all_ratings (c : Cs) : Sp := fun vs H Q _ => ∃ (a : Addr) (L : Lay) (m : Ms), vs = [.ref a] ∧ MdAt c H a L m ∧ RL ((allV m.R).map nV) H Q
def sp_residuals_of (c : Cs) : Sp := fun vs H Q _ => ∃ (a : Addr) (k n : Nat) (L : Lay) (m : Ms), vs = [.ref a, nV k, nV n] ∧ MdAt c H a L m ∧ k ≤ 1 ∧ n < Kp429.sizeOf m.s k ∧ ∀ p H2, Col resT H p (resL m k n) H2 → Q (.ref p) H2

section
variable {c : Cs} {mg : Str → Option Value} {vs : List V} {H : Hp} {Q : VK} {E : XK}
theorem p_prediction_parts (T : Tx c mg) (h : sp_prediction_parts c vs H Q E) : t_prediction_parts c (Dq Q) (start n_prediction_parts vs) H := by
  obtain ⟨a, u, i, L, m, rfl, hm, hu, hi, q⟩ := h
  obtain ⟨pu, _, pu2, pu3⟩ := hm.row (k := 0) (by decide) hu
  obtain ⟨pi, _, pi2, pi3⟩ := hm.row (k := 1) (by decide) hi
  have ru := row_mem hm.ok (k := 0) (n := u) (by decide) hu
  have ri := row_mem hm.ok (k := 1) (n := i) (by decide) hi
  have f3 := hm.ok.s.f3
  refine q_set (v_rowp T hm (by decide) pu2 (vv rfl) vc (vv rfl)) (q_set (v_rowp T hm (by decide) pi2 (vv rfl) vc (vv rfl)) ?_)
  refine q_lst (va1 (v_base T hm (vv rfl)) (va1 (v_ixL (vv rfl) vc (sq_ pu3) (atI_nat (j := 0) (place_get (by omega)))) (va1 (v_ixL (vv rfl) vc (sq_ pi3) (atI_nat (j := 0) (place_get (by omega)))) va0))) (by show 3 ≤ 100000; decide) fun p hp => ?_
  refine q_range2 (lo := 1) (n := (Kp429.rowOf m.p 0 u).length) vc (vt (by rw [List.length_map]) (v_len (vv rfl) (sq_ (exn hp _ _ pu3)))) (by omega) (by decide)
    (fun j σ' H' => ∃ x, σ' = [some (.ref a), some (nV u), some (nV i), some (.ref pi), some (.ref p), x, some (.ref pu)] ∧ Cov H p (V.int m.p.base :: V.int (Kp429.place (Kp429.rowOf m.p 0 u) 0) :: V.int (Kp429.place (Kp429.rowOf m.p 1 i) 0) :: ((Kp429.products (Kp429.rowOf m.p 0 u) (Kp429.rowOf m.p 1 i)).take j).map V.int) H')
    ⟨_, rfl, hp, exn hp, upd_same⟩ ?_ ?_
  · rintro j σ' H' hj ⟨x, rfl, hc⟩
    have e0 := hc.2.1
    refine s_app (vv rfl) hc.2.2 (v_iC (v_ixL (vv rfl) (vv rfl) (sq_ (e0 _ _ pu3)) (atI_nat (place_get (by omega)))) (v_ixL (vv rfl) (vv rfl) (sq_ (e0 _ _ pi3)) (atI_nat (place_get (by omega)))) (.inl (b64 (place_bd ru.2)))) ?_ ⟨_, rfl, ?_⟩
    · rw [List.length_cons, List.length_cons, List.length_cons, List.length_map, List.length_take, prod_len]
      omega
    · rw [prod_take (by omega) (by omega), List.map_append, Nat.add_comm 1 j]
      exact hc.add
  · rintro σ' H' ⟨x, rfl, hc⟩
    refine s_ret (vv rfl) (q p H' hc.1 hc.2.1 ?_)
    have e : (Kp429.products (Kp429.rowOf m.p 0 u) (Kp429.rowOf m.p 1 i)).take ((Kp429.rowOf m.p 0 u).length - 1) = Kp429.products (Kp429.rowOf m.p 0 u) (Kp429.rowOf m.p 1 i) := List.take_of_length_le (by rw [prod_len]; omega)
    have h2 := hc.2.2
    rw [e] at h2
    exact h2
theorem p_prediction (T : Tx c mg) (h : sp_prediction c vs H Q E) : t_prediction c (sp_prediction_parts c) (Dq Q) (start n_prediction vs) H := by
  obtain ⟨a, u, i, L, m, rfl, hm, hu, hi, q⟩ := h
  refine s_retK (cb_k (cons_k (c_prediction_parts hm (vv rfl) (va1 (vv rfl) (va1 (vv rfl) va0)) ⟨a, u, i, L, m, rfl, hm, hu, hi, fun p H2 hp e hl => ⟨p, partsP m.p u i, rfl, sq_ hl, ?_⟩⟩)))
  rw [parts_sum]
  exact q.at e
theorem p_ratings_of (T : Tx c mg) (h : sp_ratings_of c vs H Q E) : t_ratings_of c (Dq Q) (start n_ratings_of vs) H := by
  obtain ⟨a, k, n, L, m, rfl, hm, hk, hn, q⟩ := h
  have hle := line_le hm.ok hk hn
  have fin : ∀ (H1 : Hp) (p1 : Addr) (x y z : Option V), Ex H H1 → SqL c.K H1 p1 ((lineR m.R k n).map nV) →
      tRet (tLc (iEnum c.K (tCons (tVar 3) tNil)) (gTup c.K 2 (gCons (gName 4) (gCons (gName 5) gNil))) (tTest (tOp rNe (tVar 5) (tC (.int 0)))) (tTup (tCons (tVar 4) (tCons (tVar 5) tNil))) [4, 5]) (Dq Q) [some (.ref a), some (nV k), some (nV n), some (.ref p1), x, y, z] H1 := by
    intro H1 p1 x y z e1 hs
    refine s_retK (k_enum (vv rfl) hs (fun D i H' => Col pairT H1 D (obs 0 ((lineR m.R k n).take i)) H') (fun D hD => Col.start hD) (fun D i H' _ hc => Evl.ex_l hc.2.1 hs) ?_ ?_)
    · intro D i w t H' hw hc ht
      obtain ⟨v, hv, rfl⟩ : ∃ v, (lineR m.R k n)[i]? = some v ∧ w = nV v := by
        rw [List.getElem?_map] at hw
        cases hq : (lineR m.R k n)[i]? with
        | none =>
          rw [hq] at hw
          cases hw
        | some v =>
          rw [hq] at hw
          exact ⟨v, rfl, (Option.some.inj hw).symm⟩
      have hi := (List.getElem?_eq_some_iff.mp hv).1
      refine g2 (stq upd_same) ⟨rfl, a_test (v_neI (vv rfl) vc) _ ?_⟩
      have hc2 := hc.ex (exn (o := .tup [nV i, nV v]) ht)
      rw [obs_take hv]
      by_cases h0 : v = 0
      · subst h0
        rw [if_pos rfl, List.append_nil]
        exact hc2
      · have hd : (!decide ((v : Int) = 0)) = true := by
          have nz : ¬ (v : Int) = 0 := by omega
          rw [decide_eq_false nz]
          rfl
        rw [if_neg h0, hd]
        refine iteT (c_tup (va1 (vv rfl) (va1 (vv rfl) va0)) (by show 2 ≤ 100000; decide) fun t' ht' => ?_)
        obtain ⟨ps, g1, g2', g3'⟩ := hc2.get pairT_tup
        refine ⟨_, exn ht' _ _ g1, Evl.sz_lt ?_, g3' t' _ (i, v) ht' rfl⟩
        have := obs_len ((lineR m.R k n).take i) 0
        rw [List.length_take] at this
        rw [List.length_map, g2']
        omega
    · intro D H' hc
      rw [List.length_map, List.take_length] at hc
      exact q D H' (hc.weak e1)
  refine q_if (a_test (vt (by rw [deq]) (v_eqI (i := (k : Int)) (j := ((0 : Nat) : Int)) (vv rfl) vc))) (fun hb => ?_) (fun hb => ?_)
  · have hk0 : k = 0 := of_decide_eq_true hb
    subst hk0
    have hr := rowOfR_mem (R := m.R) (u := n) (by rw [hm.ok.R.len]; exact hn)
    obtain ⟨p1, _, h2, h3⟩ := hm.rr.at hr.2
    exact s_set (v_ixL (v_ratings T hm (vv rfl)) (vv rfl) (sq_ hm.ro) (atI_nat h2)) (fin H p1 _ _ _ (Ex.refl H) (sq_ h3))
  · have hk1 : k = 1 := by
      have : k ≠ 0 := of_decide_eq_false hb
      omega
    subst hk1
    have hl : (L.rr.map V.ref).length = m.R.length := by rw [List.length_map, hm.rr.1]
    have hu8 := hm.ok.R.len
    have := hm.ok.s.u8
    refine s_asgK (k_list (v_ratings T hm (vv rfl)) (sq_ hm.ro) (by omega) (fun j => nV ((m.R.getD j []).getD n 0)) (fun _ => rfl) ?_ ?_)
    · intro j x H1 hx e1 Q' k'
      have hj : j < m.R.length := by
        have := (List.getElem?_eq_some_iff.mp hx).1
        omega
      have hr := rowOfR_mem (R := m.R) (u := j) hj
      obtain ⟨p1, h1, h2, h3⟩ := hm.rr.at hr.2
      rw [h2] at hx
      cases hx
      have hrl := hm.ok.R.row _ hr.1
      refine (v_ixL (vv rfl) (vv rfl) (sq_ (e1 _ _ h3)) (atI_nat ?_)) _ (k' _ (Ex.refl _))
      rw [List.getElem?_map, List.getElem?_eq_getElem (show n < (rowOfR m.R j).length by rw [hrl]; exact hn)]
      show _ = some (nV ((rowOfR m.R j).getD n 0))
      rw [List.getD_eq_getElem?_getD, List.getElem?_eq_getElem (show n < (rowOfR m.R j).length by rw [hrl]; exact hn)]
      rfl
    · intro D H2 hD
      refine fin H2 D _ _ _ hD.2.1 (sq_ ?_)
      rw [hD.2.2, hl]
      congr 2
      show _ = (col m.R n).map nV
      unfold col
      refine ext_at fun j => ?_
      rw [List.getElem?_map, List.getElem?_map, List.getElem?_map]
      by_cases hj : j < m.R.length
      · rw [List.getElem?_range hj, List.getElem?_eq_getElem hj]
        show some (nV ((m.R.getD j []).getD n 0)) = some (nV (m.R[j].getD n 0))
        rw [List.getD_eq_getElem?_getD (l := m.R), List.getElem?_eq_getElem hj]
        rfl
      · rw [List.getElem?_eq_none (by rw [List.length_range]; omega), List.getElem?_eq_none (by omega)]
        rfl
theorem p_all_ratings (T : Tx c mg) (h : sp_all_ratings c vs H Q E) : t_all_ratings c (sp_ratings_of c) (Dq Q) (start n_all_ratings vs) H := by
  obtain ⟨a, L, m, rfl, hm, q⟩ := h
  have u8 := hm.ok.s.u8
  have hR := hm.ok.R.len
  refine q_lst va0 (by decide) fun p hp => ?_
  refine q_range1 (n := m.s.users) (v_rc T (hm.st.ex (exn hp)) (k := 0) (by decide) (v_settings T (hm.ex (exn hp)) (vv rfl)) vc) (by omega)
    (fun i σ' H' => ∃ x y z, σ' = [some (.ref a), x, some (.ref p), y, z] ∧ Cov H p ((allV (m.R.take i)).map nV) H') ⟨_, _, _, rfl, Cov.start hp⟩ ?_ ?_
  · rintro i σ' H' hi ⟨x, y, z, rfl, hc⟩
    have e0 := hc.2.1
    have hm2 := hm.ex e0
    have hr := rowOfR_mem (R := m.R) (u := i) (by omega)
    have hle := line_le hm.ok (k := 0) (by decide) hi
    refine s_dropK (bm_k (vv rfl) hc.2.2 (cons_k (c_ratings_of hm2 (vv rfl) (va1 vc (va1 (vv rfl) va0)) ⟨a, 0, i, L, m, rfl, hm2, by decide, hi, fun p1 H2 hc1 => ?_⟩)))
    obtain ⟨f1, e1, ps, g1, g2'⟩ := hc1
    refine ⟨p1, rfl, ⟨_, sq_ g1⟩, fun D hD => lc_list (xs := ps.map V.ref) (fun j H' => Cov H2 D ((((obs 0 (rowOfR m.R i)).take j).map (·.2)).map nV) H') (Cov.start hD) (fun j H' _ hc => Evl.ex_l hc.2.1 (sq_ g1)) ?_ ?_⟩
    · intro j w H3 hw hc3
      have hj : j < (obs 0 (rowOfR m.R i)).length := by
        have := (List.getElem?_eq_some_iff.mp hw).1
        rw [List.length_map, g2'.1] at this
        exact this
      obtain ⟨t, t1, t2, t3⟩ := g2'.at (List.getElem?_eq_getElem hj)
      rw [t2] at hw
      cases hw
      refine g2 (stq (hc3.2.1 _ _ t3)) ⟨rfl, ?_⟩
      refine yes_k (v_k (vv rfl) ⟨_, hc3.2.2, Evl.sz_lt ?_, ?_⟩)
      · rw [List.length_map, List.length_map, List.length_take]
        have := obs_len (rowOfR m.R i) 0
        have : (rowOfR m.R i).length ≤ 8 := hle
        omega
      · rw [List.take_add_one, List.getElem?_eq_getElem hj, List.map_append, List.map_append]
        exact hc3.add
    · intro H3 hc3
      have hl0 : (ps.map V.ref).length = (obs 0 (rowOfR m.R i)).length := by
        rw [List.length_map, g2'.1]
        rfl
      rw [hl0, List.take_length] at hc3
      have hp3 := hc3.2.1 _ _ (e1 _ _ hc.2.2)
      refine ⟨p, D, _, _, rfl, rfl, hp3, hc3.2.2, Evl.sz_of ?_, _, _, _, rfl, ?_⟩
      · have h1 := (allV_le hm.ok.s hm.ok.R).1
        have h2 : (allV (m.R.take i)).length ≤ 64 := by
          have h3 := allV_len (m.R.take i) m.s.items fun r hr => hm.ok.R.row r (List.mem_of_mem_take hr)
          have h4 := Nat.mul_le_mul (show (m.R.take i).length ≤ 8 by rw [List.length_take]; omega) hm.ok.s.i8
          omega
        have h3 := obs_len (rowOfR m.R i) 0
        have : (rowOfR m.R i).length ≤ 8 := hle
        rw [List.length_map, List.length_map, List.length_map]
        omega
      · rw [allV_take hr.2, List.map_append]
        exact ((hc.ex e1).ex hc3.2.1).add
  · rintro σ' H' ⟨x, y, z, rfl, hc⟩
    rw [List.take_of_length_le (by omega)] at hc
    exact s_ret (vv rfl) (q p H' hc.1 hc.2.1 hc.2.2)
theorem p_residuals_of (T : Tx c mg) (h : sp_residuals_of c vs H Q E) : t_residuals_of c (sp_prediction c) (sp_ratings_of c) (Dq Q) (start n_residuals_of vs) H := by
  obtain ⟨a, k, n, L, m, rfl, hm, hk, hn, q⟩ := h
  have hle := line_le hm.ok hk hn
  have hll := line_len hm.ok hk hn
  refine q_lst va0 (by decide) fun p hp => ?_
  have hm1 := hm.ex (exn (o := .lst []) hp)
  refine q_forL (c_ratings_of hm1 (vv rfl) (va1 (vv rfl) (va1 (vv rfl) va0)) ⟨a, k, n, L, m, rfl, hm1, hk, hn, fun p1 H2 hc1 => ?_⟩)
  have hp2 : H2 p = some (.lst []) := hc1.2.1 _ _ upd_same
  have np : p1 ≠ p := (ne_of_none upd_same hc1.1).symm
  obtain ⟨ps, g1, g2'⟩ := hc1.off pairT_tup hp2 np
  have eH : Ex H (off p H2) := ex_off ((exn hp).trans hc1.2.1) hp
  have hmo := hm.ex eH
  have hlen : ps.length = (obs 0 (lineR m.R k n)).length := g2'.1
  have c0 : Col resT (off p H2) p [] H2 := ⟨off_self, off_ex, [], hp2, Each.nil⟩
  refine fk_list (sq_ (off_ex _ _ g1)) (fun i σ' H' => ∃ x y z, σ' = [some (.ref a), some (nV k), some (nV n), x, some (.ref p), y, z] ∧ Col resT (off p H2) p ((resL m k n).take i) H') ⟨_, _, _, rfl, c0⟩ (fun i σ' H' _ ⟨_, _, _, _, hc⟩ => sq_ (hc.2.1 _ _ g1)) ?_ ?_
  · rintro i w σ' H' hw ⟨x, y, z, rfl, hc⟩
    have hi : i < (obs 0 (lineR m.R k n)).length := by
      have := (List.getElem?_eq_some_iff.mp hw).1
      rw [List.length_map] at this
      omega
    obtain ⟨t, t1, t2, t3⟩ := g2'.at (List.getElem?_eq_getElem hi)
    rw [t2] at hw
    cases hw
    generalize hx : (obs 0 (lineR m.R k n))[i] = w at t3
    have hmem := obs_ge (hx ▸ List.getElem_mem hi)
    have ho : w.1 < Kp429.sizeOf m.s (1 - k) := by omega
    have hm3 := hmo.ex hc.2.1
    refine g2 (stq (hc.2.1 _ _ t3)) ?_
    have fin : ∀ H3, Ex H' H3 → tDrop (tBM c.K "list" rAppend (tVar 4) (tCons (tTup (tCons (tVar 3) (tCons (tOp rSub2 (tOp rMul (tC (.int 65536)) (tVar 6)) (tVar 5)) tNil))) tNil))
        { nx := fun σ' H' => ∃ x y z, σ' = [some (.ref a), some (nV k), some (nV n), x, some (.ref p), y, z] ∧ Col resT (off p H2) p ((resL m k n).take (i + 1)) H', rt := Q, bk := fun _ _ => False, ct := fun _ _ => False }
        [some (.ref a), some (nV k), some (nV n), some (nV w.1), some (.ref p), some (.int (predK m.p k n w.1)), some (nV w.2)] H3 := by
      intro H3 e3
      obtain ⟨qs, q1, q2, q3⟩ := (hc.ex e3).get resT_tup
      refine s_appT (vv rfl) q1 (va1 (vv rfl) (va1 (v_i0 (v_iC vc (vv rfl) (.inl ⟨by decide, by decide⟩)) (vv rfl)) va0)) (by show 2 ≤ 100000; decide) ?_ fun t' ht' => ⟨_, _, _, rfl, ?_⟩
      · rw [List.length_map, q2, List.length_take]
        have := obs_len (lineR m.R k n) 0
        omega
      · have e : (resL m k n)[i]? = some (w.1, Kp429.target w.2 - predK m.p k n w.1) := by
          unfold resL
          rw [List.getElem?_map, List.getElem?_eq_getElem hi, hx]
          rfl
        rw [List.take_add_one, e]
        exact q3 t' _ (w.1, Kp429.target w.2 - predK m.p k n w.1) ht' rfl
    refine q_if (a_test (vt (by rw [deq]) (v_eqI (i := (k : Int)) (j := ((0 : Nat) : Int)) (vv rfl) vc))) (fun hb => ?_) (fun hb => ?_)
    · have hk0 : k = 0 := of_decide_eq_true hb
      subst hk0
      exact s_asgK (c_prediction hm3 (vv rfl) (va1 (vv rfl) (va1 (vv rfl) va0)) ⟨a, n, w.1, L, m, rfl, hm3, hn, ho, fun H3 e3 => fin H3 e3⟩)
    · have hk1 : k = 1 := by
        have : k ≠ 0 := of_decide_eq_false hb
        omega
      subst hk1
      exact s_asgK (c_prediction hm3 (vv rfl) (va1 (vv rfl) (va1 (vv rfl) va0)) ⟨a, w.1, n, L, m, rfl, hm3, ho, hn, fun H3 e3 => fin H3 e3⟩)
  · rintro σ' H' ⟨x, y, z, rfl, hc⟩
    rw [List.length_map, hlen, show (obs 0 (lineR m.R k n)).length = (resL m k n).length by unfold resL; rw [List.length_map], List.take_length] at hc
    exact s_ret (vv rfl) (q p H' (hc.weak eH))
end

theorem cal_prediction_parts {P : Program} {w : World} {mg : Str → Option Value} {base : Heap} {c : Cs} (T : Tx c mg) (D : MetF c.K c.M "prediction_parts" "Model.prediction_parts" s_prediction_parts ["self", "user", "item"]) : C8.Met P w c.K mg base 1 c.M "prediction_parts" (sp_prediction_parts c) [] := by
  obtain ⟨f, fd, M, F, b⟩ := D.ex
  exact C8.met0 T.cl_M M F b sc_prediction_parts (fun vs H Q E h => by
    obtain ⟨a, u, i, L, m, e, _⟩ := h
    rw [e]
    rfl) (fun cdv A outer s H vs Q E hr h => ⟨_, d_prediction_parts T hr, p_prediction_parts T h⟩)
theorem cal_prediction {P : Program} {w : World} {mg : Str → Option Value} {base : Heap} {c : Cs} (T : Tx c mg) (D : MetF c.K c.M "prediction" "Model.prediction" s_prediction ["self", "user", "item"]) (c_prediction_parts : C8.Met P w c.K mg base 1 c.M "prediction_parts" (sp_prediction_parts c) []) : C8.Met P w c.K mg base 2 c.M "prediction" (sp_prediction c) [] := by
  obtain ⟨f, fd, M, F, b⟩ := D.ex
  exact C8.met0 T.cl_M M F b sc_prediction (fun vs H Q E h => by
    obtain ⟨a, u, i, L, m, e, _⟩ := h
    rw [e]
    rfl) (fun cdv A outer s H vs Q E hr h => ⟨_, d_prediction T c_prediction_parts hr, p_prediction T h⟩)
theorem cal_ratings_of {P : Program} {w : World} {mg : Str → Option Value} {base : Heap} {c : Cs} (T : Tx c mg) (D : MetF c.K c.M "ratings_of" "Model.ratings_of" s_ratings_of ["self", "kind", "number"]) : C8.Met P w c.K mg base 1 c.M "ratings_of" (sp_ratings_of c) [] := by
  obtain ⟨f, fd, M, F, b⟩ := D.ex
  exact C8.met0 T.cl_M M F b sc_ratings_of (fun vs H Q E h => by
    obtain ⟨a, k, n, L, m, e, _⟩ := h
    rw [e]
    rfl) (fun cdv A outer s H vs Q E hr h => ⟨_, d_ratings_of T hr, p_ratings_of T h⟩)
theorem cal_all_ratings {P : Program} {w : World} {mg : Str → Option Value} {base : Heap} {c : Cs} (T : Tx c mg) (D : MetF c.K c.M "all_ratings" "Model.all_ratings" s_all_ratings ["self"]) (c_ratings_of : C8.Met P w c.K mg base 1 c.M "ratings_of" (sp_ratings_of c) []) : C8.Met P w c.K mg base 2 c.M "all_ratings" (sp_all_ratings c) [] := by
  obtain ⟨f, fd, M, F, b⟩ := D.ex
  exact C8.met0 T.cl_M M F b sc_all_ratings (fun vs H Q E h => by
    obtain ⟨a, L, m, e, _⟩ := h
    rw [e]
    rfl) (fun cdv A outer s H vs Q E hr h => ⟨_, d_all_ratings T c_ratings_of hr, p_all_ratings T h⟩)
theorem cal_residuals_of {P : Program} {w : World} {mg : Str → Option Value} {base : Heap} {c : Cs} (T : Tx c mg) (D : MetF c.K c.M "residuals_of" "Model.residuals_of" s_residuals_of ["self", "kind", "number"]) (c_prediction : C8.Met P w c.K mg base 2 c.M "prediction" (sp_prediction c) []) (c_ratings_of : C8.Met P w c.K mg base 1 c.M "ratings_of" (sp_ratings_of c) []) : C8.Met P w c.K mg base 3 c.M "residuals_of" (sp_residuals_of c) [] := by
  obtain ⟨f, fd, M, F, b⟩ := D.ex
  exact C8.met0 T.cl_M M F b sc_residuals_of (fun vs H Q E h => by
    obtain ⟨a, k, n, L, m, e, _⟩ := h
    rw [e]
    rfl) (fun cdv A outer s H vs Q E hr h => ⟨_, d_residuals_of T c_prediction c_ratings_of hr, p_residuals_of T h⟩)

end Lk
set_option Elab.async false
set_option maxRecDepth 100000
set_option maxHeartbeats 5000000
set_option linter.all false
namespace Lk
open PySem PySem.Spec PyProof.Rows L2
open Evl (Ex)
theorem tup_k {σ : L2.St} {H : Hp} {t : TA} {Q : VK} (h : t σ H fun xs H1 => xs.length ≤ sizeLine ∧ ∀ p, H1 p = none → Q (.ref p) (upd H1 p (.tup xs))) : tTup t σ H Q := h
theorem q_asgG {σ : L2.St} {H : Hp} {D : Ends} {te : TE} {g : TG} {tz : TS} (h : te σ H fun x H1 => g x σ H1 (tz D)) : tSeq (tAsg te g) tz D σ H := h
theorem s_asgG {σ : L2.St} {H : Hp} {D : Ends} {te : TE} {g : TG} (h : te σ H fun x H1 => g x σ H1 D.nx) : tAsg te g D σ H := h
/-- xs[i] = v, the value there -/
theorem sub_k {σ : L2.St} {H : Hp} {to ti : TE} {l : Addr} {xs : List V} {j : Nat} {v : V} {N : L2.St → Hp → Prop} (ho : Val to σ H (.ref l)) (hi : Val ti σ H (nV j)) (hl : H l = some (.lst xs)) (hj : j < xs.length) (q : N σ (upd H l (.lst (xs.set j v)))) : gSub to ti rSetL v σ H N :=
  ho _ (hi _ ⟨l, xs, (j : Int), j, rfl, rfl, hl, Evl.ixN_nat hj, q⟩)
theorem Each.of_map {α β : Type} {H : Hp} {F : β → HO} {f : α → β} {ps : List Addr} {xs : List α} (h : Each H F ps (xs.map f)) : Each H (fun x => F (f x)) ps xs := ⟨by rw [h.1, List.length_map], fun j x hx => h.2 j (f x) (by rw [List.getElem?_map, hx] <;> rfl)⟩
theorem Each.skip {α : Type} {H : Hp} {F : α → HO} {ps : List Addr} {xs : List α} {p : Addr} {o : HO} (h : Each H F ps xs) (hp : p ∉ ps) : Each (upd H p o) F ps xs := ⟨h.1, fun j x hx => by
  obtain ⟨q, h1, h2⟩ := h.2 j x hx
  refine ⟨q, h1, ?_⟩
  rw [upd_ne fun z => hp (by rw [← z]; exact List.mem_of_getElem? h1)]
  exact h2⟩
theorem Each.put {α : Type} {H : Hp} {F : α → HO} {ps : List Addr} {xs : List α} {p : Addr} {n : Nat} {x : α} (h : Each H F ps xs) (nd : ps.Nodup) (hp : ps[n]? = some p) : Each (upd H p (F x)) F ps (xs.set n x) := ⟨by rw [List.length_set]; exact h.1, fun j y hy => by
  have hn := (List.getElem?_eq_some_iff.mp hp).1
  by_cases hj : n = j
  · subst hj
    rw [List.getElem?_set_self (by rw [← h.1]; exact hn)] at hy
    cases hy
    exact ⟨p, hp, upd_same⟩
  · rw [List.getElem?_set_ne hj] at hy
    obtain ⟨q, h1, h2⟩ := h.2 j y hy
    refine ⟨q, h1, ?_⟩
    rw [upd_ne fun z => hj (nd_ix nd hp (by rw [← z]; exact h1))]
    exact h2⟩
theorem StAt.keep {c : Cs} {H H2 : Hp} {b p : Addr} {s : Kp429.Settings} {xs : List V} (h : StAt c H b s) (k : ∀ q o, H q = some o → q ≠ p → H2 q = some o) (hp : H p = some (.lst xs)) (np : ∀ pts : List Addr, Each H coT pts (Kp429.coordinates s) → xs ≠ pts.map V.ref) : StAt c H2 b s := by
  obtain ⟨dx, rc, pl, pts, h1, h2, h3, h4⟩ := h
  refine ⟨dx, rc, pl, pts, k _ _ h1 (ne_of h1 hp (by intro z; cases z)), k _ _ h2 (tup_ne h2 hp), k _ _ h3 fun z => ?_, h4.keep k fun x _ q hq => tup_ne hq hp⟩
  rw [z, hp] at h3
  exact np pts h4 (HO.lst.inj (Option.some.inj h3))
theorem nodup_set {t : Addr} : ∀ {l : List Addr} {u : Nat}, l.Nodup → t ∉ l → (l.set u t).Nodup
  | [], _, _, _ => List.nodup_nil
  | x :: l, 0, nd, h => List.nodup_cons.mpr ⟨fun m => h (List.mem_cons_of_mem _ m), (List.nodup_cons.mp nd).2⟩
  | x :: l, u + 1, nd, h => by
    have nd := List.nodup_cons.mp nd
    refine List.nodup_cons.mpr ⟨fun m => ?_, nodup_set nd.2 fun m => h (List.mem_cons_of_mem _ m)⟩
    rcases List.mem_or_eq_of_mem_set m with m | m
    · exact nd.1 m
    · exact h (by rw [← m]; exact List.mem_cons_self ..)
theorem coords_ne {s : Kp429.Settings} (h : SetOk s) : ∃ x l, Kp429.coordinates s = x :: l := by
  have hl : 0 < (Kp429.coordinates s).length := by
    rw [← pre_two, pre_succ, List.length_append, blk_len]
    have := (size_le h 1).1
    have : 1 * 1 ≤ Kp429.sizeOf s 1 * (s.factors + 1) := Nat.mul_le_mul this (by omega)
    omega
  cases e : Kp429.coordinates s with
  | nil =>
    rw [e] at hl
    cases hl
  | cons x l => exact ⟨x, l, rfl⟩
/-- the list of the rating rows is none of the settings' lists -/
theorem refs_inj {ps qs : List Addr} (h : ps.map V.ref = qs.map V.ref) : ps = qs := by
  induction ps generalizing qs with
  | nil =>
    cases qs with
    | nil => rfl
    | cons q qs => cases h
  | cons p ps ih =>
    cases qs with
    | nil => cases h
    | cons q qs =>
      simp only [List.map_cons] at h
      injection h with h1 h2
      rw [V.ref.inj h1, ih h2]
section
variable {c : Cs} {H : Hp} {a p : Addr} {L : Lay} {m : Ms}
theorem rowN_ne {b : Addr} {r : List Nat} {ps : List Addr} (h : H p = some (rowN r)) (h' : H b = some (.lst (ps.map V.ref))) (hr : r ≠ []) : p ≠ b := ne_of h h' fun z => by
  have z : r.map nV = ps.map V.ref := HO.lst.inj z
  cases r with
  | nil => exact hr rfl
  | cons x r =>
    cases ps with
    | nil => cases z
    | cons p ps => cases z
theorem MdAt.posR (h : MdAt c H a L m) : ∀ r ∈ m.R, r ≠ [] := fun r hr e => by
  have h1 := h.ok.R.row r hr
  have h2 := h.ok.s.i1
  rw [e] at h1
  simp at h1
  omega
theorem MdAt.posP (h : MdAt c H a L m) : ∀ r ∈ m.p.users ++ m.p.items, r ≠ [] := fun r hr e => by
  rcases in_app hr with hr | hr
  · have h1 := h.ok.us.row r hr
    rw [e] at h1
    simp at h1
  · have h1 := h.ok.it.row r hr
    rw [e] at h1
    simp at h1
theorem MdAt.neRo (h : MdAt c H a L m) : (∀ q ∈ L.rr ++ (L.ur ++ L.ir), q ≠ L.ro) ∧ L.ul ≠ L.ro ∧ L.il ≠ L.ro := by
  have hrr : ∃ q l, L.rr = q :: l := by
    have h1 := h.rr.1
    have h2 := h.ok.R.len
    have h3 := h.ok.s.u1
    cases e : L.rr with
    | nil =>
      rw [e] at h1
      simp at h1
      omega
    | cons q l => exact ⟨q, l, rfl⟩
  obtain ⟨q0, l0, e0⟩ := hrr
  have nd := List.nodup_append.mp h.nd
  refine ⟨fun q hq => ?_, fun z => ?_, fun z => ?_⟩
  · rcases in_app hq with m' | m'
    · obtain ⟨r, hr, hx⟩ := h.rr.mem m'
      exact rowN_ne hx h.ro (h.posR r hr)
    · rcases List.mem_append.mp m' with m' | m'
      · obtain ⟨r, hr, hx⟩ := h.rw.ur.mem m'
        exact row_ne hx h.ro (h.posP r (List.mem_append_left _ hr))
      · obtain ⟨r, hr, hx⟩ := h.rw.ir.mem m'
        exact row_ne hx h.ro (h.posP r (List.mem_append_right _ hr))
  · have h1 := h.rw.ul
    rw [z, h.ro] at h1
    have e := refs_inj (HO.lst.inj (Option.some.inj h1))
    exact nd.2.2 q0 (by rw [e0]; exact List.mem_cons_self ..) q0 (List.mem_append_left _ (by rw [← e, e0]; exact List.mem_cons_self ..)) rfl
  · have h1 := h.rw.il
    rw [z, h.ro] at h1
    have e := refs_inj (HO.lst.inj (Option.some.inj h1))
    exact nd.2.2 q0 (by rw [e0]; exact List.mem_cons_self ..) q0 (List.mem_append_right _ (by rw [← e, e0]; exact List.mem_cons_self ..)) rfl
/-- another row of ratings is put in -/
theorem MdAt.setRo {u : Nat} {t : Addr} {r : List Nat} (h : MdAt c H a L m) (ht : H t = some (rowN r)) (tn : t ∉ L.rr ++ (L.ur ++ L.ir)) (hr : r ≠ []) (okR : RatOk m.s (m.R.set u r)) :
    MdAt c (upd H L.ro (.lst ((L.rr.map V.ref).set u (.ref t)))) a { L with rr := L.rr.set u t } { m with R := m.R.set u r } := by
  obtain ⟨n1, n2, n3⟩ := h.neRo
  obtain ⟨dx, ob⟩ := h.ob
  have k : ∀ q o, H q = some o → q ≠ L.ro → upd H L.ro (.lst ((L.rr.map V.ref).set u (.ref t))) q = some o := fun q o hq nq => by rw [upd_ne nq]; exact hq
  have tro : t ≠ L.ro := rowN_ne ht h.ro hr
  have nd := List.nodup_append.mp h.nd
  refine ⟨⟨h.ok.s, okR, h.ok.us, h.ok.it, h.ok.b⟩, ⟨dx, k _ _ ob (ins_lst ob h.ro).symm⟩, h.st.keep k h.ro fun pts he z => ?_, ?_, ⟨by rw [List.length_set, List.length_set]; exact h.rr.1, fun j x hx => ?_⟩, ⟨k _ _ h.rw.rt (tup_ne h.rw.rt h.ro), k _ _ h.rw.ul n2, k _ _ h.rw.il n3, ?_, ?_⟩, ?_⟩
  · have e := refs_inj z
    obtain ⟨x, l, hx⟩ := coords_ne h.ok.s
    rw [hx] at he
    obtain ⟨q, q1, q2⟩ := he.2 0 x rfl
    rw [← e] at q1
    obtain ⟨r', _, hr'⟩ := h.rr.mem (List.mem_of_getElem? q1)
    rw [hr'] at q2
    cases q2
  · show upd _ _ _ _ = some (.lst ((L.rr.set u t).map V.ref))
    rw [upd_same, List.map_set]
  · by_cases hj : u = j
    · subst hj
      have hu : u < m.R.length := by
        have := (List.getElem?_eq_some_iff.mp hx).1
        rw [List.length_set] at this
        exact this
      rw [List.getElem?_set_self hu] at hx
      cases hx
      exact ⟨t, by rw [List.getElem?_set_self (by rw [h.rr.1]; exact hu)], k _ _ ht tro⟩
    · rw [List.getElem?_set_ne hj] at hx
      obtain ⟨q, q1, q2⟩ := h.rr.2 j x hx
      exact ⟨q, by rw [List.getElem?_set_ne hj]; exact q1, k _ _ q2 (n1 q (List.mem_append_left _ (List.mem_of_getElem? q1)))⟩
  · exact h.rw.ur.skip fun m' => n1 _ (List.mem_append_right _ (List.mem_append_left _ m')) rfl
  · exact h.rw.ir.skip fun m' => n1 _ (List.mem_append_right _ (List.mem_append_right _ m')) rfl
  · show ((L.rr.set u t) ++ (L.ur ++ L.ir)).Nodup
    refine List.nodup_append.mpr ⟨?_, nd.2.1, fun x hx y hy e => ?_⟩
    · exact nodup_set nd.1 fun m' => tn (List.mem_append_left _ m')
    · rcases List.mem_or_eq_of_mem_set hx with m' | m'
      · exact nd.2.2 x m' y hy e
      · rw [← m', e] at tn
        exact tn (List.mem_append_right _ hy)
end
theorem map_range {α β : Type} (l : List α) (d : α) (f : α → β) : (List.range l.length).map (fun i => f (l.getD i d)) = l.map f := by
  refine ext_at fun j => ?_
  rw [at_map, at_map]
  by_cases hj : j < l.length
  · rw [List.getElem?_range hj, List.getElem?_eq_getElem hj]
    show some (f (l.getD j d)) = some (f l[j])
    rw [List.getD_eq_getElem?_getD, List.getElem?_eq_getElem hj]
    rfl
  · rw [List.getElem?_eq_none (by rw [List.length_range]; omega), List.getElem?_eq_none (by omega)]
    rfl

def sp_Model_init (c : Cs) : Sp := fun vs H Q _ => ∃ (a dx st : Addr) (s : Kp429.Settings), vs = [.ref a, .ref st] ∧ SetOk s ∧ H a = some (.ins c.M dx []) ∧ StAt c H st s ∧ ∀ (L : Lay) H2, (∀ b o, H b = some o → b ≠ a → H2 b = some o) → MdAt c H2 a L (freshM s) → L.st = st → (∀ b ∈ L.own a, b ≠ a → H b = none) → Q .non H2
def sp_begin_again (c : Cs) : Sp := fun vs H Q _ => ∃ (a : Addr) (L : Lay) (m : Ms), vs = [.ref a] ∧ MdAt c H a L m ∧ ∀ (L2 : Lay) H2, Upd c H H2 a L L2 (again m) → Q .non H2
def sp_drop_ratings (c : Cs) : Sp := fun vs H Q _ => ∃ (a : Addr) (u : Nat) (L : Lay) (m : Ms), vs = [.ref a, nV u] ∧ MdAt c H a L m ∧ u < m.s.users ∧ ∀ (L2 : Lay) H2, Upd c H H2 a L L2 (m.drop u) → Q (nV (obs 0 (rowOfR m.R u)).length) H2
def sp_twin (c : Cs) : Sp := fun vs H Q _ => ∃ (a : Addr) (L : Lay) (m : Ms), vs = [.ref a] ∧ MdAt c H a L m ∧ ∀ (b : Addr) (L2 : Lay) H2, Ex H H2 → MdAt c H2 b L2 m → (∀ x ∈ L2.own b, H x = none) → H L2.ul = none → Q (.ref b) H2

section
variable {c : Cs} {mg : Str → Option Value} {vs : List V} {H : Hp} {Q : VK} {E : XK}
theorem p_Model_init (T : Tx c mg) (h : sp_Model_init c vs H Q E) : t_Model_init c (sp_first_rows c) (Dq Q) (start n_Model_init vs) H := by
  obtain ⟨a, dx, st, s, rfl, ok, ha, hs, q⟩ := h
  have u8 := ok.u8
  have i8 := ok.i8
  refine q_fld (vv rfl) (vv rfl) ha T.cl_M T.na_M_settings (by show 0 < 1000; decide) pu_M_settings fun H1 a1 k1 => ?_
  have hs1 : StAt c H1 st s := hs.off ha (by show 0 ≠ 8; decide) k1
  refine q_set (v_rc T hs1 (k := 1) (by decide) (vv rfl) vc) ?_
  refine q_fldK (k_rangeN (n := s.users) (v_rc T hs1 (k := 0) (by decide) (vv rfl) vc) (by omega) (fun _ => List.replicate s.items (.int 0)) (fun _ => rfl) ?_ ?_)
  · intro i H2 hi e2 Q' k'
    exact c_rep (p := s.items) vc (vv rfl) (by omega) (fun H3 e3 => vv rfl) k'
  · intro ro H2 hcon
    obtain ⟨f2, e2, ps, g2', ge, gn, gf, gp⟩ := hcon
    have a2 := e2 _ _ a1
    have hs2 := hs1.ex e2
    refine sto (vv rfl) a2 T.cl_M T.na_M_ratings (by show 1 < 1000; decide) pu_M_ratings fun H3 a3 k3 => ?_
    refine q_fld vc (vv rfl) a3 T.cl_M T.na_M_base (by show 2 < 1000; decide) pu_M_base fun H4 a4 k4 => ?_
    have k34 : ∀ b, b ≠ a → H4 b = H2 b := fun b hb => by rw [k4 b hb, k3 b hb]
    have hs4 : StAt c H4 st s := hs2.off a2 (by show 1 ≠ 8; decide) k34
    refine s_fldK (c_call (va1 (vv rfl) va0) ⟨st, s, rfl, ok, hs4, fun L H5 e5 hrw hfr hnd => ?_⟩)
    have a5 := e5 _ _ a4
    refine sto (vv rfl) a5 T.cl_M T.na_M_rows (by show 3 < 1000; decide) pu_M_rows fun H6 a6 k6 => ?_
    have rone : ∀ b, H1 b = none → b ≠ a := fun b hb e => by
      rw [e, a1] at hb
      cases hb
    have fr1 : ∀ b, H1 b = none → H b = none := fun b hb => by rw [← k1 b (rone b hb)]; exact hb
    have p6 : ∀ b o, H2 b = some o → b ≠ a → H6 b = some o := fun b o hb nb => by
      rw [k6 b nb]
      refine e5 _ _ ?_
      rw [k34 b nb]
      exact hb
    have fr4 : ∀ b, H4 b = none → H1 b = none := fun b hb => by
      by_cases nb : b = a
      · rw [nb, a4] at hb
        cases hb
      · rw [k34 b nb] at hb
        exact fresh e2 hb
    have nro : ro ≠ a := rone ro f2
    have nps : ∀ x ∈ ps, x ≠ a := fun x hx => rone x (gf x hx)
    refine q { L with st := st, ro := ro, rr := ps } H6 (fun b o hb nb => p6 b o (e2 _ _ (by rw [k1 b nb]; exact hb)) nb) ⟨fresh_ok ok, ⟨dx, a6⟩, ?_, p6 _ _ g2' nro, ?_, ?_, ?_⟩ rfl ?_
    · exact (hs4.ex e5).off a5 (by show 3 ≠ 8; decide) k6
    · have e : (List.range s.users).map (fun _ => List.replicate s.items (V.int 0)) = (freshM s).R.map fun r => r.map nV := by
        rw [List.map_const', List.length_range]
        show _ = (List.replicate s.users (List.replicate s.items 0)).map fun r => r.map nV
        rw [List.map_replicate, List.map_replicate]
        rfl
      rw [e] at ge
      have ge2 := ge.of_map
      refine ⟨ge2.1, fun j x hx => ?_⟩
      obtain ⟨b, b1, b2⟩ := ge2.2 j x hx
      exact ⟨b, b1, p6 _ _ b2 (nps b (List.mem_of_getElem? b1))⟩
    · exact ((hrw.off a5 k6).lay (L' := { L with st := st, ro := ro, rr := ps }) rfl rfl rfl rfl rfl).par (qq := (freshM s).p) rfl rfl
    · show (ps ++ (L.ur ++ L.ir)).Nodup
      refine List.nodup_append.mpr ⟨gn, hnd, fun x hx y hy e => ?_⟩
      have hy := hfr y hy
      rw [← e, k34 x (nps x hx)] at hy
      exact (ge.there hx) hy
    · intro b hb nb
      rcases in_cons hb with e | hb
      · exact absurd e nb
      rcases in_cons hb with e | hb
      · rw [e]
        exact fr1 ro f2
      rcases in_app hb with hb | hb
      · exact fr1 b (gf b hb)
      · exact fr1 b (fr4 b (hfr b hb))
theorem p_begin_again (T : Tx c mg) (h : sp_begin_again c vs H Q E) : t_begin_again c (sp_all_ratings c) (sp_first_base c) (sp_first_rows c) (Dq Q) (start n_begin_again vs) H := by
  obtain ⟨a, L, m, rfl, hm, q⟩ := h
  have hle := allV_le hm.ok.s hm.ok.R
  refine q_fldK (call_k (cons_k (c_all_ratings hm (vv rfl) va0 ⟨a, L, m, rfl, hm, fun p H1 hp e1 hl => ?_⟩)))
  refine ⟨p, allV m.R, rfl, sq_ hl, hle.1, hle.2, fun H2 e2 => ?_⟩
  have e := e1.trans e2
  have hm2 := hm.ex e
  obtain ⟨dx, ob⟩ := hm2.ob
  refine sto (vv rfl) ob T.cl_M T.na_M_base (by show 4 < 1000; decide) st_M_base fun H3 a3 k3 => ?_
  have hst3 : StAt c H3 L.st m.s := hm2.st.off ob mF_len k3
  refine s_fldK (c_call (va1 (v_fld (vv rfl) a3 T.cl_M T.na_M_settings lk_M_settings) va0) ⟨L.st, m.s, rfl, hm.ok.s, hst3, fun L' H4 e4 hrw hfr hnd => ?_⟩)
  have a4 := e4 _ _ a3
  refine sto (vv rfl) a4 T.cl_M T.na_M_rows (by show 4 < 1000; decide) st_M_rows fun H5 a5 k5 => ?_
  have p5 : ∀ b o, H2 b = some o → b ≠ a → H5 b = some o := fun b o hb nb => by
    rw [k5 b nb]
    refine e4 _ _ ?_
    rw [k3 b nb]
    exact hb
  have fr3 : ∀ b, H3 b = none → H2 b = none := fun b hb => by
    by_cases nb : b = a
    · rw [nb, a3] at hb
      cases hb
    · rw [k3 b nb] at hb
      exact hb
  have nrr : ∀ x ∈ L.rr, x ≠ a := fun x hx => by
    obtain ⟨r, _, hr⟩ := hm2.rr.mem hx
    exact ins_lst ob hr
  have nd := List.nodup_append.mp hm.nd
  refine q { L with rt := L'.rt, ul := L'.ul, il := L'.il, ur := L'.ur, ir := L'.ir } H5 ⟨⟨again_ok hm.ok, ⟨dx, ?_⟩, ?_, p5 _ _ hm2.ro (ins_lst ob hm2.ro), ?_, ?_, ?_⟩, ?_, ?_⟩
  · rw [a5, ← base_is]
    rfl
  · exact (hst3.ex e4).off a4 (by show 4 ≠ 8; decide) k5
  · refine ⟨hm2.rr.1, fun j x hx => ?_⟩
    obtain ⟨b, b1, b2⟩ := hm2.rr.2 j x hx
    exact ⟨b, b1, p5 _ _ b2 (nrr b (List.mem_of_getElem? b1))⟩
  · exact ((hrw.off a4 k5).lay (L' := { L with rt := L'.rt, ul := L'.ul, il := L'.il, ur := L'.ur, ir := L'.ir }) rfl rfl rfl rfl rfl).par (qq := (again m).p) rfl rfl
  · show (L.rr ++ (L'.ur ++ L'.ir)).Nodup
    refine List.nodup_append.mpr ⟨nd.1, hnd, fun x hx y hy z => ?_⟩
    have hy := fr3 y (hfr y hy)
    rw [← z] at hy
    exact (hm2.rr.there hx) hy
  · intro b o hb nb
    exact p5 b o (e _ _ hb) fun z => nb (by rw [z]; exact List.mem_cons_self ..)
  · intro b hb
    rcases in_cons hb with z | hb
    · exact .inl (by rw [z]; exact List.mem_cons_self ..)
    rcases in_cons hb with z | hb
    · exact .inl (by rw [z]; exact List.mem_cons_of_mem _ (List.mem_cons_self ..))
    rcases in_app hb with hb | hb
    · exact .inl (List.mem_cons_of_mem _ (List.mem_cons_of_mem _ (List.mem_append_left _ hb)))
    · exact .inr (fresh e (fr3 b (hfr b hb)))
theorem p_drop_ratings (T : Tx c mg) (h : sp_drop_ratings c vs H Q E) : t_drop_ratings c (sp_ratings_of c) (Dq Q) (start n_drop_ratings vs) H := by
  obtain ⟨a, u, L, m, rfl, hm, hu, q⟩ := h
  have hr := rowOfR_mem (R := m.R) (u := u) (by rw [hm.ok.R.len]; exact hu)
  have hrl := hm.ok.R.row _ hr.1
  have i8 := hm.ok.s.i8
  have i1 := hm.ok.s.i1
  refine q_asgK (cb_k (cons_k (c_ratings_of hm (vv rfl) (va1 vc (va1 (vv rfl) va0)) ⟨a, 0, u, L, m, rfl, hm, by decide, hu, fun p1 H1 hc1 => ?_⟩)))
  obtain ⟨f1, e1, ps, g1, ge⟩ := hc1
  refine ⟨p1, _, rfl, .inl (sq_ g1), ?_⟩
  rw [List.length_map, ge.1]
  have hm1 := hm.ex e1
  obtain ⟨pr, pr1, pr2, pr3⟩ := hm1.rr.at hr.2
  have vr : ∀ H2, Ex H1 H2 → Val (tCB (Evl.rLenS c.K) (tCons (tOp (rIxL c.K) (tFld c.K (tVar 0) "ratings") (tVar 1)) tNil)) [some (.ref a), some (nV u), some (nV (obs 0 (rowOfR m.R u)).length)] H2 (nV (rowOfR m.R u).length) := fun H2 e2 =>
    vt (by rw [List.length_map]) (v_len (v_ixL (v_ratings T (hm1.ex e2) (vv rfl)) (vv rfl) (sq_ (hm1.ex e2).ro) (atI_nat pr2)) (sq_ (e2 _ _ pr3)))
  refine q_asgG (c_rep vc (vr H1 (Ex.refl _)) (by omega) vr fun t H2 ht e2 h2 => ?_)
  have hm2 := hm1.ex e2
  refine sub_k (v_ratings T hm2 (vv rfl)) (vv rfl) hm2.ro (by rw [List.length_map, hm2.rr.1, hm.ok.R.len]; exact hu) ?_
  have tn : t ∉ L.rr ++ (L.ur ++ L.ir) := fun m' => by
    rcases List.mem_append.mp m' with m' | m'
    · exact (hm1.rr.there m') ht
    rcases List.mem_append.mp m' with m' | m'
    · exact (hm1.rw.ur.there m') ht
    · exact (hm1.rw.ir.there m') ht
  have hrow : H2 t = some (rowN (List.replicate (rowOfR m.R u).length 0)) := by
    rw [h2]
    show _ = some (HO.lst ((List.replicate (rowOfR m.R u).length 0).map nV))
    rw [List.map_replicate]
    rfl
  have hm3 := hm2.setRo (u := u) hrow tn (by
    intro z
    have := congrArg List.length z
    rw [List.length_replicate, hrl] at this
    have this : m.s.items = 0 := this
    omega) (drop_ok hm.ok hu).R
  refine s_ret (vv rfl) (q { L with rr := L.rr.set u t } _ ⟨hm3, fun b o hb nb => ?_, fun b hb => ?_⟩)
  · rw [upd_ne fun z => nb (by rw [z]; exact List.mem_cons_of_mem _ (List.mem_cons_self ..))]
    exact e2 _ _ (e1 _ _ hb)
  · rcases in_cons hb with z | hb
    · exact .inl (by rw [z]; exact List.mem_cons_self ..)
    rcases in_cons hb with z | hb
    · exact .inl (by rw [z]; exact List.mem_cons_of_mem _ (List.mem_cons_self ..))
    rcases in_app hb with hb | hb
    · rcases List.mem_or_eq_of_mem_set hb with hb | z
      · exact .inl (List.mem_cons_of_mem _ (List.mem_cons_of_mem _ (List.mem_append_left _ hb)))
      · exact .inr (by rw [z]; exact fresh e1 ht)
    · exact .inl (List.mem_cons_of_mem _ (List.mem_cons_of_mem _ (List.mem_append_right _ hb)))
end
def getL (H : Hp) (p : Addr) : List V := match H p with
  | some (.lst ys) => ys
  | _ => []
theorem Each.got {α : Type} {H : Hp} {G : α → List V} {ps : List Addr} {xs : List α} (h : Each H (fun x => .lst (G x)) ps xs) : ps.map (getL H) = xs.map G := by
  refine ext_at fun j => ?_
  rw [at_map, at_map]
  cases e : xs[j]? with
  | some x =>
    obtain ⟨p, h1, h2⟩ := h.2 j x e
    rw [h1]
    show some (getL H p) = some (G x)
    unfold getL
    rw [h2]
  | none =>
    rw [List.getElem?_eq_none (by rw [h.1]; exact List.getElem?_eq_none_iff.mp e)]
    rfl
/-- [list(row) for row in rows] -/
theorem k_copy {K : PySem.W.Frag} {σ : L2.St} {H : Hp} {Q : VK} {tl : TE} {j : Nat} {ws : List Nat} {α : Type} {G : α → List V} {ps : List Addr} {xs : List α} {l : Addr} (h : Val tl σ H (.ref l)) (hl : H l = some (.lst (ps.map V.ref))) (he : Each H (fun x => .lst (G x)) ps xs) (hz : xs.length ≤ 50000)
    (hw : ∀ x, wipe ((wipe σ ws).set j (some x)) ws = wipe σ ws) (hj : ∀ x, ((wipe σ ws).set j (some x))[j]? = some (some x)) (q : ∀ D H2, Con H D (xs.map G) H2 → Q (.ref D) H2) :
    tLc (iList K tl) (gName j) tYes (tCB (Evl.rListS K) (tCons (tVar j) tNil)) ws σ H Q :=
  k_listN h (sq_ hl) (by rw [he.1]; exact hz) (getL H) hw (fun i p H1 hp e1 Q' k => by
    obtain ⟨x, _, hx⟩ := he.mem (List.mem_of_getElem? hp)
    refine c_list (vv (hj _)) (sq_ (e1 _ _ hx)) fun t ht => k t _ ht (exn ht) ?_
    rw [upd_same]
    show _ = some (HO.lst (getL H p))
    unfold getL
    rw [hx]) fun D H2 hc => q D H2 (by rw [he.got] at hc; exact hc)
theorem Con.each {H0 H : Hp} {p : Addr} {xs : List (List V)} (h : Con H0 p xs H) : H0 p = none ∧ Ex H0 H ∧ ∃ ps : List Addr, H p = some (.lst (ps.map V.ref)) ∧ Each H HO.lst ps xs ∧ ps.Nodup ∧ (∀ q ∈ ps, H0 q = none) ∧ p ∉ ps := h
section
variable {c : Cs} {mg : Str → Option Value} {vs : List V} {H : Hp} {Q : VK} {E : XK}
theorem p_twin (T : Tx c mg) (h : sp_twin c vs H Q E) : t_twin c (sp_Model_init c) (Dq Q) (start n_twin vs) H := by
  obtain ⟨a, L, m, rfl, hm, q⟩ := h
  have u8 := hm.ok.s.u8
  have i8 := hm.ok.s.i8
  refine q_asgK (c_make (va1 (v_settings T hm (vv rfl)) va0) fun x dx hx hdx ndx => ?_)
  have e0 : Ex H (upd H dx (.own x)) := exn hdx
  have hx0 : (upd H dx (.own x)) x = none := by rw [upd_ne (Ne.symm ndx)]; exact hx
  have e1 : Ex H (upd (upd H dx (.own x)) x (.ins c.M dx [])) := e0.trans (exn hx0)
  refine ⟨x, dx, L.st, m.s, rfl, hm.ok.s, upd_same, hm.st.ex e1, fun L1 H2 e2 hm2 hst hfr => ⟨rfl, ?_⟩⟩
  have ex2 : Ex H H2 := fun b o hb => e2 b o (e1 b o hb) fun z => by
    rw [z, hx] at hb
    cases hb
  have hma := hm.ex ex2
  obtain ⟨dx2, ob2⟩ := hm2.ob
  have st2 : StAt c H2 L.st m.s := by rw [← hst]; exact hm2.st
  -- the ratings
  refine q_fldK (k_copy (G := fun r : List Nat => r.map nV) (v_ratings T hma (vv rfl)) hma.ro hma.rr (by rw [hma.ok.R.len]; omega) (fun _ => rfl) (fun _ => rfl) fun ro H3 hc3 => ?_)
  obtain ⟨f3, e3, rr, g3', rrE, rrN, rrF, rrP⟩ := hc3.each
  have hxa : a ≠ x := fun z => by
    obtain ⟨d', o'⟩ := hm.ob
    rw [z, hx] at o'
    cases o'
  refine sto (vv rfl) (e3 _ _ ob2) T.cl_M T.na_M_ratings (by show 4 < 1000; decide) st_M_ratings fun H4 a4 k4 => ?_
  have x4 : ∀ b o, H b = some o → H4 b = some o := fun b o hb => by
    rw [k4 b (ne_of_none hb hx)]
    exact e3 _ _ (ex2 _ _ hb)
  have hm4 := hm.ex x4
  refine q_fld (v_base T hm4 (vv rfl)) (vv rfl) a4 T.cl_M T.na_M_base (by show 4 < 1000; decide) st_M_base fun H5 a5 k5 => ?_
  have x5 : Ex H H5 := fun b o hb => by
    rw [k5 b (ne_of_none hb hx)]
    exact x4 _ _ hb
  have hm5 := hm.ex x5
  -- the rows
  refine q_fldK (tup_k (cons_k (k_copy (G := fun r : List Int => r.map V.int) (v_rowl T hm5 (k := 0) (by decide) (vv rfl) vc) (hm5.klist (k := 0) (by decide)).1 (hm5.klist (k := 0) (by decide)).2 (by rw [rows_len hm.ok (by decide)]; exact Nat.le_trans hm.ok.s.u8 (by decide)) (fun _ => rfl) (fun _ => rfl) fun ul H6 hc6 => ?_)))
  obtain ⟨f6, e6, ur, g6', urE, urN, urF, urP⟩ := hc6.each
  have hm6 := hm5.ex e6
  refine cons_k (k_copy (G := fun r : List Int => r.map V.int) (v_rowl T hm6 (k := 1) (by decide) (vv rfl) vc) (hm6.klist (k := 1) (by decide)).1 (hm6.klist (k := 1) (by decide)).2 (by rw [rows_len hm.ok (by decide)]; exact Nat.le_trans hm.ok.s.i8 (by decide)) (fun _ => rfl) (fun _ => rfl) fun il H7 hc7 => ?_)
  obtain ⟨f7, e7, ir, g7', irE, irN, irF, irP⟩ := hc7.each
  refine ⟨by show 2 ≤ sizeLine; exact Evl.sz_of (by decide), fun rt hrt => ?_⟩
  have a8 : upd H7 rt (.tup [.ref ul, .ref il]) x = some (.ins c.M dx2 (mF L1.st ro L1.rt m.p.base)) := (exn hrt) _ _ (e7 _ _ (e6 _ _ (by rw [a5] <;> rfl)))
  refine sto (vv rfl) a8 T.cl_M T.na_M_rows (by show 4 < 1000; decide) st_M_rows fun H9 a9 k9 => ?_
  have x57 : Ex H5 H7 := e6.trans e7
  have fwd3 : ∀ b o, H3 b = some o → b ≠ x → H9 b = some o := fun b o hb nb => by
    rw [k9 b nb]
    refine (exn hrt) _ _ (x57 _ _ ?_)
    rw [k5 b nb, k4 b nb]
    exact hb
  have fwd2 : ∀ b o, H2 b = some o → b ≠ x → H9 b = some o := fun b o hb nb => fwd3 b o (e3 _ _ hb) nb
  have fwd7 : ∀ b o, H7 b = some o → b ≠ x → H9 b = some o := fun b o hb nb => by
    rw [k9 b nb]
    exact (exn hrt) _ _ hb
  have ex9 : Ex H H9 := fun b o hb => fwd2 b o (ex2 _ _ hb) (ne_of_none hb hx)
  have n2 : ∀ b, H2 b = none → b ≠ x := fun b hb z => by
    rw [z, ob2] at hb
    cases hb
  have n5 : ∀ b, H5 b = none → b ≠ x ∧ H3 b = none := fun b hb => by
    have nb : b ≠ x := fun z => by
      rw [z, a5] at hb
      cases hb
    refine ⟨nb, ?_⟩
    rw [k5 b nb, k4 b nb] at hb
    exact hb
  have n6 : ∀ b, H6 b = none → b ≠ x ∧ H3 b = none := fun b hb => n5 b (fresh e6 hb)
  have back2 : ∀ b, H2 b = none → H b = none := fun b hb => fresh ex2 hb
  have back3 : ∀ b, H3 b = none → H b = none := fun b hb => back2 b (fresh e3 hb)
  have rre : Each H9 rowN rr m.R := by
    have e := rrE.of_map
    exact ⟨e.1, fun j y hy => let ⟨p, p1, p2⟩ := e.2 j y hy; ⟨p, p1, fwd3 _ _ p2 (n2 p (rrF p (List.mem_of_getElem? p1)))⟩⟩
  have ure : Each H9 rowI ur m.p.users := by
    have e := urE.of_map
    exact ⟨e.1, fun j y hy => let ⟨p, p1, p2⟩ := e.2 j y hy; ⟨p, p1, fwd7 _ _ (e7 _ _ p2) (n5 p (urF p (List.mem_of_getElem? p1))).1⟩⟩
  have ire : Each H9 rowI ir m.p.items := by
    have e := irE.of_map
    exact ⟨e.1, fun j y hy => let ⟨p, p1, p2⟩ := e.2 j y hy; ⟨p, p1, fwd7 _ _ p2 (n6 p (irF p (List.mem_of_getElem? p1))).1⟩⟩
  refine s_ret (vv rfl) (q x { L1 with st := L.st, ro := ro, rr := rr, rt := rt, ul := ul, il := il, ur := ur, ir := ir } H9 ex9 ⟨hm.ok, ⟨dx2, by rw [a9, hst] <;> rfl⟩, hm.st.ex ex9, fwd3 _ _ g3' (n2 ro f3), rre, ⟨?_, fwd7 _ _ (e7 _ _ g6') (n5 ul f6).1, fwd7 _ _ g7' (n6 il f7).1, ure, ire⟩, ?_⟩ ?_ (back3 ul (n5 ul f6).2))
  · have nb : rt ≠ x := ne_of_none (x57 _ _ (by rw [a5] <;> rfl)) hrt |>.symm
    show H9 rt = _
    rw [k9 rt nb]
    exact upd_same
  · refine List.nodup_append.mpr ⟨rrN, List.nodup_append.mpr ⟨urN, irN, fun b hb d hd z => ?_⟩, fun b hb d hd z => ?_⟩
    · have h1 := irF d hd
      rw [← z] at h1
      exact (urE.there hb) h1
    · rcases in_app hd with hd | hd
      · have h1 := (n5 d (urF d hd)).2
        rw [← z] at h1
        exact (rrE.there hb) h1
      · have h1 := (n6 d (irF d hd)).2
        rw [← z] at h1
        exact (rrE.there hb) h1
  · intro b hb
    rcases in_cons hb with e | hb
    · rw [e]; exact hx
    rcases in_cons hb with e | hb
    · rw [e]; exact back2 ro f3
    rcases in_app hb with hb | hb
    · exact back2 b (rrF b hb)
    rcases in_app hb with hb | hb
    · exact back3 b (n5 b (urF b hb)).2
    · exact back3 b (n6 b (irF b hb)).2
end

theorem cal_Model_init {P : Program} {w : World} {mg : Str → Option Value} {base : Heap} {c : Cs} (T : Tx c mg) (D : MakF c.K mg "Model" c.M "Model.__init__" s_Model_init ["self", "settings"]) (c_first_rows : C8.Cal P w c.K mg base 3 "first_rows" (sp_first_rows c) []) : C8.Mak P w c.K mg base 4 "Model" c.M (sp_Model_init c) [] := by
  obtain ⟨f, fd, M, hm, F, b⟩ := D.ex
  exact C8.mak0 M hm F b .nil sc_Model_init (fun vs H Q E h => by
    obtain ⟨a, dx, st, s, e, _⟩ := h
    rw [e]
    rfl) (fun cdv A outer s H vs Q E hr h => ⟨_, d_Model_init T c_first_rows hr, p_Model_init T h⟩)
theorem cal_begin_again {P : Program} {w : World} {mg : Str → Option Value} {base : Heap} {c : Cs} (T : Tx c mg) (D : MetF c.K c.M "begin_again" "Model.begin_again" s_begin_again ["self"]) (c_all_ratings : C8.Met P w c.K mg base 2 c.M "all_ratings" (sp_all_ratings c) []) (c_first_base : C8.Cal P w c.K mg base 1 "first_base" (sp_first_base c) []) (c_first_rows : C8.Cal P w c.K mg base 3 "first_rows" (sp_first_rows c) []) : C8.Met P w c.K mg base 4 c.M "begin_again" (sp_begin_again c) [] := by
  obtain ⟨f, fd, M, F, b⟩ := D.ex
  exact C8.met0 T.cl_M M F b sc_begin_again (fun vs H Q E h => by
    obtain ⟨a, L, m, e, _⟩ := h
    rw [e]
    rfl) (fun cdv A outer s H vs Q E hr h => ⟨_, d_begin_again T c_all_ratings c_first_base c_first_rows hr, p_begin_again T h⟩)
theorem cal_drop_ratings {P : Program} {w : World} {mg : Str → Option Value} {base : Heap} {c : Cs} (T : Tx c mg) (D : MetF c.K c.M "drop_ratings" "Model.drop_ratings" s_drop_ratings ["self", "user"]) (c_ratings_of : C8.Met P w c.K mg base 1 c.M "ratings_of" (sp_ratings_of c) []) : C8.Met P w c.K mg base 2 c.M "drop_ratings" (sp_drop_ratings c) [] := by
  obtain ⟨f, fd, M, F, b⟩ := D.ex
  exact C8.met0 T.cl_M M F b sc_drop_ratings (fun vs H Q E h => by
    obtain ⟨a, u, L, m, e, _⟩ := h
    rw [e]
    rfl) (fun cdv A outer s H vs Q E hr h => ⟨_, d_drop_ratings T c_ratings_of hr, p_drop_ratings T h⟩)
theorem cal_twin {P : Program} {w : World} {mg : Str → Option Value} {base : Heap} {c : Cs} (T : Tx c mg) (D : MetF c.K c.M "twin" "Model.twin" s_twin ["self"]) (c_Model_init : C8.Mak P w c.K mg base 4 "Model" c.M (sp_Model_init c) []) : C8.Met P w c.K mg base 6 c.M "twin" (sp_twin c) [] := by
  obtain ⟨f, fd, M, F, b⟩ := D.ex
  exact C8.met0 T.cl_M M F b sc_twin (fun vs H Q E h => by
    obtain ⟨a, L, m, e, _⟩ := h
    rw [e]
    rfl) (fun cdv A outer s H vs Q E hr h => ⟨_, d_twin T c_Model_init hr, p_twin T h⟩)

end Lk
set_option Elab.async false
set_option linter.all false
/-! What each def computes: the mathematics. Plain Lean. -/
namespace Lk
open Kp429 (rowOf place products predict target quadratic bestValue step1 setRow rowPenalty)
theorem k01m {k : Nat} (h : k ≤ 1) : k = 0 ∨ k = 1 := by omega
/-! ### residuals and quadratics -/
theorem views_is (m : Ms) {k : Nat} (hk : k ≤ 1) (n : Nat) : Kp429.views m.mod m.p k n = (obs 0 (lineR m.R k n)).map fun x => ⟨rowOf m.p (1 - k) x.1, target x.2 - m.p.base⟩ := by
  rcases k01m hk with rfl | rfl
  · show ((flatR 0 m.R).filter fun r => r.user == n).map _ = _
    rw [filter_user0]
    unfold rowR
    rw [List.map_map]
    exact Eq.refl _
  · show ((flatR 0 m.R).filter fun r => r.item == n).map _ = _
    rw [filter_item, List.map_map]
    exact Eq.refl _
def wt (m : Ms) (k q o : Nat) : Int := if q = 0 then 1 else place (rowOf m.p (1 - k) o) q
theorem products_comm : ∀ a b : List Int, (a.zip b).map (fun (x : Int × Int) => x.1 * x.2) = (b.zip a).map (fun (x : Int × Int) => x.1 * x.2)
  | [], b => by simp
  | x :: a, [] => rfl
  | x :: a, y :: b => by
    show x * y :: (a.zip b).map (fun (x : Int × Int) => x.1 * x.2) = y * x :: (b.zip a).map (fun (x : Int × Int) => x.1 * x.2)
    rw [products_comm a b, Int.mul_comm]
theorem left_is (m : Ms) {k : Nat} (hk : k ≤ 1) (n q : Nat) (x : Nat × Nat) :
    Kp429.leftOver ⟨rowOf m.p (1 - k) x.1, target x.2 - m.p.base⟩ (rowOf m.p k n) q = (target x.2 - predK m.p k n x.1) + wt m k q x.1 * place (rowOf m.p k n) q := by
  unfold Kp429.leftOver Kp429.coefficient predK wt predict Kp429.predictRows
  have e : products (rowOf m.p 1 n) (rowOf m.p 0 x.1) = products (rowOf m.p 0 x.1) (rowOf m.p 1 n) := products_comm _ _
  rcases k01m hk with rfl | rfl
  · show target x.2 - m.p.base - place (rowOf m.p 1 x.1) 0 - place (rowOf m.p 0 n) 0 - (products (rowOf m.p 0 n) (rowOf m.p 1 x.1)).sum + place (rowOf m.p 0 n) q * (if q = 0 then 1 else place (rowOf m.p 1 x.1) q) = _
    rw [Int.mul_comm (place (rowOf m.p 0 n) q)]
    show _ = target x.2 - (m.p.base + place (rowOf m.p 0 n) 0 + place (rowOf m.p 1 x.1) 0 + (products (rowOf m.p 0 n) (rowOf m.p 1 x.1)).sum) + (if q = 0 then 1 else place (rowOf m.p 1 x.1) q) * place (rowOf m.p 0 n) q
    omega
  · show target x.2 - m.p.base - place (rowOf m.p 0 x.1) 0 - place (rowOf m.p 1 n) 0 - (products (rowOf m.p 1 n) (rowOf m.p 0 x.1)).sum + place (rowOf m.p 1 n) q * (if q = 0 then 1 else place (rowOf m.p 0 x.1) q) = _
    rw [Int.mul_comm (place (rowOf m.p 1 n) q), e]
    show _ = target x.2 - (m.p.base + place (rowOf m.p 0 x.1) 0 + place (rowOf m.p 1 n) 0 + (products (rowOf m.p 0 x.1) (rowOf m.p 1 n)).sum) + (if q = 0 then 1 else place (rowOf m.p 0 x.1) q) * place (rowOf m.p 1 n) q
    omega
def penQ (s : Kp429.Settings) (q : Nat) : Nat := if q = 0 then s.biasPenalty else s.penalty
def curT (m : Ms) (k q : Nat) (x : Nat × Int) : Int := wt m k q x.1 * wt m k q x.1
def sloT (m : Ms) (k n q : Nat) (x : Nat × Int) : Int := wt m k q x.1 * (x.2 + wt m k q x.1 * place (rowOf m.p k n) q)
theorem quad_is (m : Ms) {k : Nat} (hk : k ≤ 1) (n q : Nat) : quadM m k n q = ⟨((resL m k n).map (curT m k q)).sum + (penQ m.s q : Int), ((resL m k n).map (sloT m k n q)).sum⟩ := by
  unfold quadM quadratic
  rw [views_is m hk]
  refine congr (congrArg _ (congr (congrArg _ (congrArg _ ?_)) rfl)) (congrArg _ ?_)
  · unfold resL
    rw [map_two, map_two]
    exact Eq.refl _
  · unfold resL
    rw [map_two, map_two]
    refine map_on fun x _ => ?_
    show Kp429.coefficient _ q * Kp429.leftOver _ _ q = sloT m k n q (x.1, target x.2 - predK m.p k n x.1)
    rw [left_is m hk]
    exact Eq.refl _
/-! ### bounds -/
theorem bd_mul {x y : Int} {a b : Nat} (hx : x.natAbs ≤ a) (hy : y.natAbs ≤ b) : (x * y).natAbs ≤ a * b := by
  rw [Int.natAbs_mul]
  exact Nat.mul_le_mul hx hy
theorem bd_abs {x : Int} (h : Bd x) : x.natAbs ≤ 2 ^ 20 := by
  obtain ⟨h1, h2⟩ := h
  omega
theorem abs_sum (b : Nat) : ∀ l : List Int, (∀ x ∈ l, x.natAbs ≤ b) → l.sum.natAbs ≤ l.length * b
  | [], _ => by simp
  | x :: l, h => by
    have h1 := h x in_head
    have h2 := abs_sum b l fun v hv => h v (List.mem_cons_of_mem _ hv)
    rw [List.sum_cons, List.length_cons, Nat.succ_mul]
    omega
theorem rowOf_get (p : Kp429.Parameters) (k n : Nat) : rowOf p k n = (rowsK p k).getD n [] := by
  unfold rowOf rowsK
  split <;> rfl
theorem rowOf_bd {m : Ms} (h : m.Ok) (k n q : Nat) : Bd (place (rowOf m.p k n) q) := by
  have z : Bd 0 := ⟨by decide, by decide⟩
  unfold place
  rw [getD_at]
  cases e : (rowOf m.p k n)[q]? with
  | none => exact z
  | some x =>
    show Bd x
    have hx := List.mem_of_getElem? e
    rw [rowOf_get, List.getD_eq_getElem?_getD] at hx
    cases e2 : (rowsK m.p k)[n]? with
    | none =>
      rw [e2] at hx
      cases hx
    | some r =>
      rw [e2] at hx
      have hr := List.mem_of_getElem? e2
      unfold rowsK at hr
      split at hr
      · exact h.us.val r hr x hx
      · exact h.it.val r hr x hx
theorem rowOf_len {m : Ms} (h : m.Ok) (k n : Nat) : (rowOf m.p k n).length ≤ 4 := by
  rw [rowOf_get, List.getD_eq_getElem?_getD]
  have f3 := h.s.f3
  cases e2 : (rowsK m.p k)[n]? with
  | none => exact Nat.zero_le _
  | some r =>
    have hr := List.mem_of_getElem? e2
    show r.length ≤ 4
    unfold rowsK at hr
    split at hr
    · rw [h.us.row r hr]; omega
    · rw [h.it.row r hr]; omega
theorem wt_bd {m : Ms} (h : m.Ok) (k q o : Nat) : (wt m k q o).natAbs ≤ 2 ^ 20 := by
  unfold wt
  split
  · decide
  · exact bd_abs (rowOf_bd h _ _ _)
theorem sq_nn (x : Int) : 0 ≤ x * x := by
  obtain h | h := Int.le_total 0 x
  · exact Int.mul_nonneg h h
  · have h := Int.mul_nonneg (Int.neg_nonneg_of_nonpos h) (Int.neg_nonneg_of_nonpos h)
    rw [Int.neg_mul_neg] at h
    exact h
theorem sum_nn : ∀ l : List Int, (∀ x ∈ l, 0 ≤ x) → 0 ≤ l.sum
  | [], _ => Int.le_refl _
  | x :: l, h => by
    rw [List.sum_cons]
    have h1 := h x in_head
    have h2 := sum_nn l fun v hv => h v (List.mem_cons_of_mem _ hv)
    omega
theorem res_len {m : Ms} (h : m.Ok) {k n : Nat} (hk : k ≤ 1) (hn : n < Kp429.sizeOf m.s k) : (resL m k n).length ≤ 8 := by
  unfold resL
  rw [List.length_map]
  have := obs_len (lineR m.R k n) 0
  have := line_le h hk hn
  omega
theorem quad_bd {m : Ms} (h : m.Ok) {k n : Nat} (hk : k ≤ 1) (hn : n < Kp429.sizeOf m.s k) (q : Nat) : 0 ≤ (quadM m k n q).curvature ∧ (quadM m k n q).curvature < 2 ^ 60 := by
  rw [quad_is m hk]
  have h1 := sum_nn ((resL m k n).map (curT m k q)) fun x hx => by
    obtain ⟨y, _, rfl⟩ := in_map hx
    exact sq_nn _
  have h2 := abs_sum (2 ^ 40) ((resL m k n).map (curT m k q)) fun x hx => by
    obtain ⟨y, _, rfl⟩ := in_map hx
    exact bd_mul (a := 2 ^ 20) (b := 2 ^ 20) (wt_bd h _ _ _) (wt_bd h _ _ _)
  rw [List.length_map] at h2
  have h3 := Nat.mul_le_mul_right (2 ^ 40) (res_len h hk hn)
  have h4 : penQ m.s q ≤ 100000000 := by
    unfold penQ
    have := h.s.pe
    have := h.s.bp
    split <;> omega
  show 0 ≤ ((resL m k n).map (curT m k q)).sum + (penQ m.s q : Int) ∧ ((resL m k n).map (curT m k q)).sum + (penQ m.s q : Int) < 2 ^ 60
  have h5 := Nat.le_trans h2 h3
  constructor
  · omega
  · omega
/-! ### the best value -/
theorem lo_hi {s : Kp429.Settings} (h : SetOk s) (q : Nat) : Bd (Kp429.lowest s q) ∧ Bd (Kp429.highest s q) := by
  unfold Kp429.lowest Kp429.highest Kp429.biasLimit
  have := h.l4
  have := h.l1
  constructor
  · split
    · exact ⟨by decide, by decide⟩
    · split
      · exact ⟨by decide, by decide⟩
      · exact ⟨by omega, by omega⟩
  · split
    · exact ⟨by decide, by decide⟩
    · exact ⟨by omega, by omega⟩
theorem clamp_bd {s : Kp429.Settings} (h : SetOk s) (q : Nat) (x : Int) : Bd (max (Kp429.lowest s q) (min (Kp429.highest s q) x)) := by
  obtain ⟨⟨a, b⟩, ⟨c, d⟩⟩ := lo_hi h q
  constructor <;> omega
theorem stepV_bd {m : Ms} (h : m.Ok) (k n q : Nat) : Bd (stepV m k n q) := by
  unfold stepV bestValue
  split
  · exact rowOf_bd h _ _ _
  · show Bd (if Kp429.costOf _ _ ≤ Kp429.costOf _ _ then place (rowOf m.p k n) q else Kp429.clamp _ _ _)
    split
    · exact rowOf_bd h _ _ _
    · exact clamp_bd h.s q _
/-! ### a row is set -/
theorem rowsK_set (p : Kp429.Parameters) {k j : Nat} (hk : k ≤ 1) (hj : j ≤ 1) (n : Nat) (r : List Int) : rowsK (setRow p k n r) j = if j = k then (rowsK p k).set n r else rowsK p j := by
  rcases k01m hk with rfl | rfl <;> rcases k01m hj with rfl | rfl <;> rfl
theorem setRow_base (p : Kp429.Parameters) (k n : Nat) (r : List Int) : (setRow p k n r).base = p.base := by
  unfold setRow
  split <;> rfl
theorem set_same {α : Type} : ∀ (l : List α) (n : Nat) (x : α), l[n]? = some x → l.set n x = l
  | [], _, _, _ => rfl
  | y :: l, 0, x, h => by
    have h : y = x := Option.some.inj h
    rw [h]
    rfl
  | y :: l, n + 1, x, h => by
    show y :: l.set n x = y :: l
    rw [set_same l n x h]
theorem rowOf_set {p : Kp429.Parameters} {k j n i : Nat} {r : List Int} (hk : k ≤ 1) (hj : j ≤ 1) (hn : n < (rowsK p k).length) : rowOf (setRow p k n r) j i = if j = k ∧ i = n then r else rowOf p j i := by
  rw [rowOf_get, rowOf_get, rowsK_set p hk hj, List.getD_eq_getElem?_getD, List.getD_eq_getElem?_getD]
  by_cases h1 : j = k
  · subst h1
    rw [if_pos rfl]
    by_cases h2 : i = n
    · subst h2
      rw [List.getElem?_set_self hn, if_pos ⟨rfl, rfl⟩]
      rfl
    · rw [List.getElem?_set_ne (Ne.symm h2), if_neg fun z => h2 z.2]
  · rw [if_neg h1, if_neg fun z => h1 z.1]
structure Crd (s : Kp429.Settings) (k n q : Nat) : Prop where
  kle : k ≤ 1
  nlt : n < Kp429.sizeOf s k
  qle : q ≤ s.factors
theorem rowsK_ok {m : Ms} (h : m.Ok) {k : Nat} (hk : k ≤ 1) : RowsOk (Kp429.sizeOf m.s k) (m.s.factors + 1) (rowsK m.p k) := by
  rcases k01m hk with rfl | rfl
  · exact h.us
  · exact h.it
theorem rowOf_at {m : Ms} (h : m.Ok) {k n : Nat} (hk : k ≤ 1) (hn : n < Kp429.sizeOf m.s k) : (rowsK m.p k)[n]? = some (rowOf m.p k n) ∧ (rowOf m.p k n).length = m.s.factors + 1 := by
  have ok := rowsK_ok h hk
  have e : (rowsK m.p k)[n]? = some (rowOf m.p k n) := by
    rw [rowOf_get, List.getD_eq_getElem?_getD, List.getElem?_eq_getElem (by rw [ok.len]; exact hn)]
    rfl
  exact ⟨e, ok.row _ (List.mem_of_getElem? e)⟩
theorem rowsOk_set {n w i : Nat} {rows : List (List Int)} {r : List Int} (h : RowsOk n w rows) (hl : r.length = w) (hv : ∀ x ∈ r, Bd x) : RowsOk n w (rows.set i r) := by
  refine ⟨by rw [List.length_set]; exact h.len, fun x hx => ?_, fun x hx => ?_⟩
  · rcases List.mem_or_eq_of_mem_set hx with m | e
    · exact h.row x m
    · rw [e]; exact hl
  · rcases List.mem_or_eq_of_mem_set hx with m | e
    · exact h.val x m
    · rw [e]; exact hv
/-- one parameter is set -/
def Ms.put (m : Ms) (k n q : Nat) (v : Int) : Ms := { m with p := setRow m.p k n ((rowOf m.p k n).set q v) }
theorem put_ok {m : Ms} (h : m.Ok) {k n q : Nat} {v : Int} (hk : k ≤ 1) (hn : n < Kp429.sizeOf m.s k) (hv : Bd v) : (m.put k n q v).Ok := by
  have hr := rowOf_at h hk hn
  have hl : ((rowOf m.p k n).set q v).length = m.s.factors + 1 := by rw [List.length_set]; exact hr.2
  have hb : ∀ x ∈ (rowOf m.p k n).set q v, Bd x := fun x hx => by
    rcases List.mem_or_eq_of_mem_set hx with m' | e
    · exact (rowsK_ok h hk).val _ (List.mem_of_getElem? hr.1) x m'
    · rw [e]; exact hv
  rcases k01m hk with rfl | rfl
  · exact ⟨h.s, h.R, rowsOk_set h.us hl hb, h.it, h.b⟩
  · exact ⟨h.s, h.R, h.us, rowsOk_set h.it hl hb, h.b⟩
theorem step_is (m : Ms) (k n q : Nat) : m.step k n q = m.put k n q (stepV m k n q) := rfl
theorem step_ok {m : Ms} (h : m.Ok) {k n q : Nat} (c : Crd m.s k n q) : (m.step k n q).Ok := put_ok h c.kle c.nlt (stepV_bd h k n q)
theorem place_at {r : List Int} {q : Nat} (h : q < r.length) : r[q]? = some (place r q) := by
  unfold place
  rw [List.getD_eq_getElem?_getD, List.getElem?_eq_getElem h]
  rfl
theorem put_same {m : Ms} (h : m.Ok) {k n q : Nat} (c : Crd m.s k n q) : m.put k n q (place (rowOf m.p k n) q) = m := by
  have hr := rowOf_at h c.kle c.nlt
  have e : (rowOf m.p k n).set q (place (rowOf m.p k n) q) = rowOf m.p k n := set_same _ _ _ (place_at (by rw [hr.2]; have := c.qle; omega))
  unfold Ms.put
  rw [e]
  obtain ⟨s, R, p⟩ := m
  show Ms.mk s R _ = Ms.mk s R p
  refine congrArg _ ?_
  obtain ⟨b, us, it⟩ := p
  rcases k01m c.kle with rfl | rfl
  · show Kp429.Parameters.mk b (us.set n _) it = _
    rw [set_same us n _ hr.1]
  · show Kp429.Parameters.mk b us (it.set n _) = _
    rw [set_same it n _ hr.1]
/-- what one step does to every parameter -/
theorem put_place {m : Ms} (h : m.Ok) {k n q : Nat} {v : Int} (c : Crd m.s k n q) {j i t : Nat} (hj : j ≤ 1) : place (rowOf (m.put k n q v).p j i) t = if j = k ∧ i = n ∧ t = q then v else place (rowOf m.p j i) t := by
  have hr := rowOf_at h c.kle c.nlt
  have hn := (List.getElem?_eq_some_iff.mp hr.1).1
  show place (rowOf (setRow m.p k n _) j i) t = _
  rw [rowOf_set c.kle hj hn]
  by_cases h1 : j = k ∧ i = n
  · obtain ⟨rfl, rfl⟩ := h1
    rw [if_pos ⟨rfl, rfl⟩]
    unfold place
    rw [List.getD_eq_getElem?_getD, List.getD_eq_getElem?_getD]
    by_cases h2 : t = q
    · subst h2
      rw [if_pos ⟨rfl, rfl, rfl⟩, List.getElem?_set_self (by rw [hr.2]; have := c.qle; omega)]
      rfl
    · rw [if_neg fun z => h2 z.2.2, List.getElem?_set_ne (Ne.symm h2)]
  · rw [if_neg h1, if_neg fun z => h1 ⟨z.1, z.2.1⟩]
theorem chg_zero {m : Ms} (h : m.Ok) {k n q : Nat} (c : Crd m.s k n q) : chgV m k n q = 0 ↔ stepV m k n q = place (rowOf m.p k n) q := by
  unfold chgV
  constructor
  · intro z
    by_cases e : stepV m k n q = place (rowOf m.p k n) q
    · exact e
    · rw [if_neg e] at z
      cases z
  · intro z
    rw [if_pos z]
theorem step_same {m : Ms} (h : m.Ok) {k n q : Nat} (c : Crd m.s k n q) (e : stepV m k n q = place (rowOf m.p k n) q) : m.step k n q = m := by
  rw [step_is, e, put_same h c]
theorem step_ne {m : Ms} (h : m.Ok) {k n q : Nat} (c : Crd m.s k n q) (e : stepV m k n q ≠ place (rowOf m.p k n) q) : (m.step k n q).p ≠ m.p := fun z => by
  have e1 := put_place (v := stepV m k n q) h c (j := k) (i := n) (t := q) c.kle
  rw [if_pos ⟨rfl, rfl, rfl⟩] at e1
  have e2 : place (rowOf (m.step k n q).p k n) q = stepV m k n q := e1
  rw [z] at e2
  exact e e2.symm
/-! ### steps one after another -/
def Ms.walk (m : Ms) (l : List Kp429.Coordinate) : Ms := l.foldl (fun m c => m.step c.kind c.id c.place) m
def cnt : List Kp429.Coordinate → Ms → Nat
  | [], _ => 0
  | c :: l, m => chgV m c.kind c.id c.place + cnt l (m.step c.kind c.id c.place)
theorem walk_snoc (m : Ms) (l : List Kp429.Coordinate) (c : Kp429.Coordinate) : m.walk (l ++ [c]) = (m.walk l).step c.kind c.id c.place := by
  unfold Ms.walk
  rw [List.foldl_append]
  rfl
theorem cnt_snoc : ∀ (l : List Kp429.Coordinate) (m : Ms) (c : Kp429.Coordinate), cnt (l ++ [c]) m = cnt l m + chgV (m.walk l) c.kind c.id c.place
  | [], m, c => by
    show chgV m c.kind c.id c.place + 0 = 0 + chgV m c.kind c.id c.place
    omega
  | d :: l, m, c => by
    show chgV m d.kind d.id d.place + cnt (l ++ [c]) (m.step d.kind d.id d.place) = chgV m d.kind d.id d.place + cnt l (m.step d.kind d.id d.place) + _
    rw [cnt_snoc l, Nat.add_assoc]
    rfl
def Crds (s : Kp429.Settings) (l : List Kp429.Coordinate) : Prop := ∀ c ∈ l, Crd s c.kind c.id c.place
theorem walk_ok : ∀ (l : List Kp429.Coordinate) {m : Ms}, m.Ok → Crds m.s l → (m.walk l).Ok
  | [], m, h, _ => h
  | c :: l, m, h, hc => walk_ok l (m := m.step c.kind c.id c.place) (step_ok h (hc c (List.mem_cons_self ..))) fun d hd => hc d (List.mem_cons_of_mem _ hd)
theorem walk_s : ∀ (l : List Kp429.Coordinate) (m : Ms), (m.walk l).s = m.s ∧ (m.walk l).R = m.R
  | [], m => ⟨rfl, rfl⟩
  | c :: l, m => walk_s l (m.step c.kind c.id c.place)
theorem walk_p : ∀ (l : List Kp429.Coordinate) (m : Ms), (m.walk l).p = l.foldl (step1 m.mod) m.p
  | [], m => rfl
  | c :: l, m => walk_p l (m.step c.kind c.id c.place)
theorem ms_eq {m m' : Ms} (h1 : m.s = m'.s) (h2 : m.R = m'.R) (h3 : m.p = m'.p) : m = m' := by
  cases m
  cases m'
  cases h1
  cases h2
  cases h3
  rfl
theorem sweep_walk (m : Ms) : m.sweep = m.walk (Kp429.coordinates m.s) := ms_eq (walk_s _ m).1.symm (walk_s _ m).2.symm (walk_p _ m).symm
theorem cnt_zero : ∀ (l : List Kp429.Coordinate) {m : Ms}, m.Ok → Crds m.s l → cnt l m = 0 → m.walk l = m
  | [], m, _, _, _ => rfl
  | c :: l, m, h, hc, z => by
    have hz : chgV m c.kind c.id c.place + cnt l (m.step c.kind c.id c.place) = 0 := z
    have c1 := hc c (List.mem_cons_self ..)
    have e := step_same h c1 ((chg_zero h c1).mp (by omega))
    have ih := cnt_zero l (m := m.step c.kind c.id c.place) (step_ok h c1) (fun d hd => hc d (List.mem_cons_of_mem _ hd)) (by omega)
    show (m.step c.kind c.id c.place).walk l = m
    rw [ih, e]
theorem walk_place : ∀ (l : List Kp429.Coordinate) {m : Ms}, m.Ok → Crds m.s l → ∀ c : Kp429.Coordinate, c.kind ≤ 1 → c ∉ l → place (rowOf (m.walk l).p c.kind c.id) c.place = place (rowOf m.p c.kind c.id) c.place
  | [], m, _, _, c, _, _ => rfl
  | d :: l, m, h, hc, c, hk, hn => by
    have c1 := hc d (List.mem_cons_self ..)
    have ih := walk_place l (m := m.step d.kind d.id d.place) (step_ok h c1) (fun d hd => hc d (List.mem_cons_of_mem _ hd)) c hk (fun z => hn (List.mem_cons_of_mem _ z))
    show place (rowOf ((m.step d.kind d.id d.place).walk l).p c.kind c.id) c.place = _
    rw [ih, step_is, put_place h c1 hk, if_neg]
    rintro ⟨h1, h2, h3⟩
    refine hn ?_
    have e : c = d := by
      cases c
      cases d
      cases h1
      cases h2
      cases h3
      rfl
    rw [e]
    exact List.mem_cons_self ..
theorem countP_congr' {α : Type} {p q : α → Bool} : ∀ {l : List α}, (∀ x ∈ l, p x = q x) → l.countP p = l.countP q
  | [], _ => rfl
  | x :: l, h => by rw [List.countP_cons, List.countP_cons, h x (List.mem_cons_self ..), countP_congr' fun y hy => h y (List.mem_cons_of_mem _ hy)]
theorem cnt_is : ∀ (l : List Kp429.Coordinate) {m : Ms}, m.Ok → Crds m.s l → l.Nodup → cnt l m = l.countP fun c => place (rowOf m.p c.kind c.id) c.place != place (rowOf (m.walk l).p c.kind c.id) c.place
  | [], m, _, _, _ => rfl
  | c :: l, m, h, hc, nd => by
    have c1 := hc c (List.mem_cons_self ..)
    have cl : Crds m.s l := fun d hd => hc d (List.mem_cons_of_mem _ hd)
    have nd := List.nodup_cons.mp nd
    have h1 := step_ok h c1
    have ih := cnt_is l (m := m.step c.kind c.id c.place) h1 cl nd.2
    have ew : m.walk (c :: l) = (m.step c.kind c.id c.place).walk l := rfl
    rw [List.countP_cons, ew]
    show chgV m c.kind c.id c.place + cnt l (m.step c.kind c.id c.place) = _
    have e1 : place (rowOf (m.step c.kind c.id c.place).p c.kind c.id) c.place = stepV m c.kind c.id c.place := by rw [step_is, put_place h c1 c1.kle, if_pos ⟨rfl, rfl, rfl⟩]
    rw [ih, walk_place l h1 cl c c1.kle nd.1, e1]
    have e2 : (if (place (rowOf m.p c.kind c.id) c.place != stepV m c.kind c.id c.place) = true then 1 else 0) = chgV m c.kind c.id c.place := by
      unfold chgV
      by_cases z : stepV m c.kind c.id c.place = place (rowOf m.p c.kind c.id) c.place
      · rw [if_pos z, z, bne_self_eq_false]
        rfl
      · rw [if_neg z, if_pos]
        exact bne_iff_ne.mpr (Ne.symm z)
    rw [e2, Nat.add_comm]
    refine congrArg (· + _) (countP_congr' fun d hd => ?_)
    have hk := (cl d hd).kle
    rw [step_is, put_place h c1 hk, if_neg]
    rintro ⟨a1, a2, a3⟩
    refine nd.1 ?_
    have e : d = c := by
      cases c
      cases d
      cases a1
      cases a2
      cases a3
      rfl
    rw [← e]
    exact hd
/-! ### all coordinates -/
theorem mem_coords {s : Kp429.Settings} {c : Kp429.Coordinate} : c ∈ Kp429.coordinates s ↔ Crd s c.kind c.id c.place := by
  obtain ⟨k, n, q⟩ := c
  unfold Kp429.coordinates
  rw [List.mem_append, List.mem_flatMap, List.mem_flatMap]
  constructor
  · rintro (⟨u, hu, h⟩ | ⟨u, hu, h⟩)
    · obtain ⟨t, ht, e⟩ := in_map h
      cases e
      exact ⟨Nat.zero_le _, List.mem_range.mp hu, Nat.le_of_lt_succ (List.mem_range.mp ht)⟩
    · obtain ⟨t, ht, e⟩ := in_map h
      cases e
      exact ⟨Nat.le_refl _, List.mem_range.mp hu, Nat.le_of_lt_succ (List.mem_range.mp ht)⟩
  · rintro ⟨hk, hn, hq⟩
    rcases k01m hk with h | h
    · have h : k = 0 := h
      subst h
      exact .inl ⟨n, List.mem_range.mpr hn, List.mem_map.mpr ⟨q, List.mem_range.mpr (Nat.lt_succ_of_le hq), rfl⟩⟩
    · have h : k = 1 := h
      subst h
      exact .inr ⟨n, List.mem_range.mpr hn, List.mem_map.mpr ⟨q, List.mem_range.mpr (Nat.lt_succ_of_le hq), rfl⟩⟩
theorem crds (s : Kp429.Settings) : Crds s (Kp429.coordinates s) := fun c hc => mem_coords.mp hc
theorem nodup_map {α β : Type} {f : α → β} (hf : ∀ a b, f a = f b → a = b) : ∀ {l : List α}, l.Nodup → (l.map f).Nodup
  | [], _ => List.nodup_nil
  | x :: l, h => by
    have h := List.nodup_cons.mp h
    refine List.nodup_cons.mpr ⟨fun m => ?_, nodup_map hf h.2⟩
    obtain ⟨y, hy, e⟩ := in_map m
    exact h.1 (hf _ _ e ▸ hy)
theorem blk_nodup (s : Kp429.Settings) (k : Nat) : ∀ n, (blkN s k n).Nodup
  | 0 => List.nodup_nil
  | n + 1 => by
    rw [blk_succ]
    refine List.nodup_append.mpr ⟨blk_nodup s k n, ?_, fun x hx y hy e => ?_⟩
    · exact nodup_map (fun a b e => by cases e; rfl) List.nodup_range
    · unfold blkN at hx
      obtain ⟨u, hu, h⟩ := List.mem_flatMap.mp hx
      obtain ⟨t, _, rfl⟩ := in_map h
      obtain ⟨t', _, rfl⟩ := in_map hy
      have hu := List.mem_range.mp hu
      injection e with _ e2 _
      omega
theorem coords_nodup (s : Kp429.Settings) : (Kp429.coordinates s).Nodup := by
  refine List.nodup_append.mpr ⟨blk_nodup s 0 s.users, blk_nodup s 1 s.items, fun x hx y hy e => ?_⟩
  obtain ⟨u, hu, h⟩ := List.mem_flatMap.mp hx
  obtain ⟨t, _, rfl⟩ := in_map h
  obtain ⟨u', hu', h'⟩ := List.mem_flatMap.mp hy
  obtain ⟨t', _, rfl⟩ := List.mem_map.mp h'
  cases e
theorem sweep_ok {m : Ms} (h : m.Ok) : m.sweep.Ok := by
  rw [sweep_walk]
  exact walk_ok _ h (crds _)
theorem changes_is {m : Ms} (h : m.Ok) : Kp429.changes m.s m.p m.sweep.p = cnt (Kp429.coordinates m.s) m := by
  rw [cnt_is _ h (crds _) (coords_nodup _), ← sweep_walk]
  rfl
theorem changes_zero {m : Ms} (h : m.Ok) : Kp429.changes m.s m.p m.sweep.p = 0 ↔ Kp429.sweep m.mod m.p = m.p := by
  constructor
  · intro z
    rw [changes_is h] at z
    have e := cnt_zero _ h (crds _) z
    rw [← sweep_walk] at e
    have e2 : m.sweep.p = m.p := by rw [e]
    exact e2
  · intro z
    have z : m.sweep.p = m.p := z
    unfold Kp429.changes
    rw [z]
    refine List.countP_eq_zero.mpr fun c _ => ?_
    rw [bne_self_eq_false]
    exact Bool.false_ne_true
theorem coords_len {s : Kp429.Settings} (h : SetOk s) : (Kp429.coordinates s).length ≤ 64 := by
  rw [← pre_two]
  exact pre_le h 2 (Nat.le_refl _)
end Lk
set_option Elab.async false
set_option linter.all false
/-! Sums, training, new users: the mathematics. Plain Lean. -/
namespace Lk
open Kp429 (rowOf place products predict target quadratic bestValue step1 setRow rowPenalty)
/-! ### the error -/
def resQ (x : Nat × Int) : Int := x.2 * x.2
def errU (m : Ms) (u : Nat) : Int := ((resL m 0 u).map resQ).sum
theorem flat_sum (f : Kp429.Rating → Int) : ∀ (R : List (List Nat)) (k : Nat), ((flatR k R).map f).sum = ((List.range R.length).map fun u => ((rowR (k + u) 0 (rowOfR R u)).map f).sum).sum
  | [], _ => rfl
  | r :: R, k => by
    unfold flatR
    rw [List.map_append, List.sum_append, flat_sum f R (k + 1)]
    show _ = ((List.range (R.length + 1)).map _).sum
    rw [List.range_succ_eq_map, List.map_cons, List.sum_cons, List.map_map]
    refine congrArg (_ + ·) (congrArg _ (List.map_congr_left fun u _ => ?_))
    show _ = ((rowR (k + (u + 1)) 0 (rowOfR (r :: R) (u + 1))).map f).sum
    rw [show k + 1 + u = k + (u + 1) by omega]
    rfl
theorem err_is {m : Ms} (h : m.Ok) : Kp429.errorPart m.mod m.p = ((List.range m.s.users).map (errU m)).sum := by
  unfold Kp429.errorPart
  show ((flatR 0 m.R).map _).sum = _
  rw [flat_sum, h.R.len]
  refine congrArg _ (List.map_congr_left fun u _ => ?_)
  unfold errU resL rowR
  rw [Nat.zero_add, List.map_map, List.map_map]
  rfl
theorem sum_range_succ (f : Nat → Int) (n : Nat) : ((List.range (n + 1)).map f).sum = ((List.range n).map f).sum + f n := by
  rw [List.range_succ, List.map_append, List.sum_append]
  simp
theorem sum_take_succ {α : Type} (f : α → Int) {l : List α} {i : Nat} {x : α} (h : l[i]? = some x) : ((l.take (i + 1)).map f).sum = ((l.take i).map f).sum + f x := by
  rw [List.take_add_one, h, List.map_append, List.sum_append]
  simp
theorem pred_bd {m : Ms} (h : m.Ok) (u i : Nat) : (predict m.p u i).natAbs ≤ 2 ^ 43 := by
  unfold predict Kp429.predictRows
  have h1 := bd_abs h.b
  have h2 := bd_abs (rowOf_bd h 0 u 0)
  have h3 := bd_abs (rowOf_bd h 1 i 0)
  have h4 := abs_sum (2 ^ 40) (products (rowOf m.p 0 u) (rowOf m.p 1 i)) fun x hx => by
    obtain ⟨⟨a, b⟩, hab, rfl⟩ := List.mem_map.mp hx
    obtain ⟨ha, hb⟩ := List.of_mem_zip hab
    have bd : ∀ (k n : Nat) (x : Int), x ∈ (rowOf m.p k n).tail → x.natAbs ≤ 2 ^ 20 := fun k n x hx => by
      have hx := List.mem_of_mem_tail hx
      obtain ⟨j, hj⟩ := in_at hx
      have e := place_at (r := rowOf m.p k n) (q := j) (List.getElem?_eq_some_iff.mp hj).1
      rw [hj] at e
      rw [Option.some.inj e]
      exact bd_abs (rowOf_bd h k n j)
    exact bd_mul (a := 2 ^ 20) (b := 2 ^ 20) (bd 0 u a ha) (bd 1 i b hb)
  have h5 : (products (rowOf m.p 0 u) (rowOf m.p 1 i)).length ≤ 4 := by
    rw [prod_len]
    have := rowOf_len h 0 u
    omega
  have h6 := Nat.mul_le_mul_right (2 ^ 40) h5
  have h7 := Nat.le_trans h4 h6
  omega
theorem line_val {m : Ms} (h : m.Ok) {k n : Nat} {x : Nat × Nat} (hx : x ∈ obs 0 (lineR m.R k n)) : x.2 ≤ 10 := by
  have hx := List.mem_of_getElem? (obs_ge hx).2.2.2
  have val : ∀ r ∈ m.R, ∀ (j v : Nat), r[j]? = some v → v ≤ 10 := fun r hr j v hv => h.R.val r hr v (List.mem_of_getElem? hv)
  unfold lineR at hx
  split at hx
  · unfold rowOfR at hx
    rw [List.getD_eq_getElem?_getD] at hx
    cases e : m.R[n]? with
    | none =>
      rw [e] at hx
      cases hx
    | some r =>
      rw [e] at hx
      exact h.R.val r (List.mem_of_getElem? e) _ hx
  · unfold col at hx
    obtain ⟨r, hr, e⟩ := in_map hx
    rw [← e, List.getD_eq_getElem?_getD]
    cases e2 : r[n]? with
    | none => exact Nat.zero_le _
    | some v => exact val r hr n v e2
theorem res_bd {m : Ms} (h : m.Ok) {k n : Nat} {x : Nat × Int} (hx : x ∈ resL m k n) : x.2.natAbs ≤ 2 ^ 44 := by
  obtain ⟨y, hy, rfl⟩ := in_map hx
  have h1 := line_val h hy
  have h2 : (predK m.p k n y.1).natAbs ≤ 2 ^ 43 := by
    unfold predK
    split <;> exact pred_bd h _ _
  show (target y.2 - predK m.p k n y.1).natAbs ≤ 2 ^ 44
  unfold target Kp429.unit
  omega
theorem err_bd {m : Ms} (h : m.Ok) : 0 ≤ Kp429.errorPart m.mod m.p ∧ Kp429.errorPart m.mod m.p < 2 ^ 200 := by
  rw [err_is h]
  have nn : ∀ x ∈ (List.range m.s.users).map (errU m), 0 ≤ x := fun x hx => by
    obtain ⟨u, _, rfl⟩ := in_map hx
    refine sum_nn _ fun y hy => ?_
    obtain ⟨z, _, rfl⟩ := in_map hy
    exact sq_nn _
  refine ⟨sum_nn _ nn, ?_⟩
  have h1 := abs_sum (8 * (2 ^ 44 * 2 ^ 44)) ((List.range m.s.users).map (errU m)) fun x hx => by
    obtain ⟨u, hu, rfl⟩ := in_map hx
    have h2 := abs_sum (2 ^ 44 * 2 ^ 44) ((resL m 0 u).map resQ) fun y hy => by
      obtain ⟨z, hz, rfl⟩ := in_map hy
      exact bd_mul (res_bd h hz) (res_bd h hz)
    refine Nat.le_trans h2 (Nat.mul_le_mul_right _ ?_)
    rw [List.length_map]
    exact res_len h (Nat.zero_le _) (List.mem_range.mp hu)
  rw [List.length_map, List.length_range] at h1
  have h3 := Nat.mul_le_mul_right (8 * (2 ^ 44 * 2 ^ 44)) h.s.u8
  have h4 := Nat.le_trans h1 h3
  omega
/-! ### the penalty -/
def penT (m : Ms) (c : Kp429.Coordinate) : Int := (penQ m.s c.place : Int) * place (rowOf m.p c.kind c.id) c.place * place (rowOf m.p c.kind c.id) c.place
theorem flat_map_sum {α : Type} (f : α → Int) (g : Nat → List α) : ∀ l : List Nat, ((l.flatMap g).map f).sum = (l.map fun u => ((g u).map f).sum).sum
  | [] => rfl
  | x :: l => by
    rw [List.flatMap_cons, List.map_append, List.sum_append, flat_map_sum f g l]
    rfl
theorem mul_sum (c : Int) : ∀ l : List Int, c * l.sum = (l.map fun x => c * x).sum
  | [] => Int.mul_zero c
  | x :: l => by rw [List.sum_cons, Int.mul_add, mul_sum c l]; rfl
theorem row_range {r : List Int} {n : Nat} (h : r.length = n + 1) : r = place r 0 :: (List.range n).map fun j => place r (j + 1) := by
  refine ext_at fun j => ?_
  cases j with
  | zero => exact place_at (by omega)
  | succ j =>
    rw [List.getElem?_cons_succ, List.getElem?_map]
    by_cases hj : j < n
    · rw [List.getElem?_range hj, place_at (by omega)]
      rfl
    · rw [List.getElem?_eq_none (by omega), List.getElem?_eq_none (by rw [List.length_range]; omega)]
      rfl
theorem rowPen_is {s : Kp429.Settings} {r : List Int} (h : r.length = s.factors + 1) : rowPenalty s r = ((List.range (s.factors + 1)).map fun q => (penQ s q : Int) * place r q * place r q).sum := by
  unfold rowPenalty
  rw [List.range_succ_eq_map, List.map_cons, List.sum_cons, List.map_map]
  have e : r.tail = (List.range s.factors).map fun j => place r (j + 1) := by
    have e := row_range h
    have e2 := congrArg List.tail e
    exact e2
  rw [e, List.map_map, mul_sum, List.map_map]
  have e3 : (s.biasPenalty : Int) * (place r 0 * place r 0) = (penQ s 0 : Int) * place r 0 * place r 0 := (Int.mul_assoc _ _ _).symm
  rw [e3]
  refine congrArg (_ + ·) (congrArg _ (List.map_congr_left fun j _ => ?_))
  exact (Int.mul_assoc (s.penalty : Int) (place r (j + 1)) (place r (j + 1))).symm
theorem rows_range {m : Ms} (h : m.Ok) {k : Nat} (hk : k ≤ 1) (f : List Int → Int) : ((rowsK m.p k).map f).sum = ((List.range (Kp429.sizeOf m.s k)).map fun n => f (rowOf m.p k n)).sum := by
  refine congrArg _ (List.ext_getElem? fun j => ?_)
  rw [at_map, at_map]
  have ok := rowsK_ok h hk
  by_cases hj : j < Kp429.sizeOf m.s k
  · rw [List.getElem?_range hj, (rowOf_at h hk hj).1]
    rfl
  · rw [List.getElem?_eq_none (by rw [ok.len]; omega), List.getElem?_eq_none (by rw [List.length_range]; omega)]
    rfl
theorem pen_is {m : Ms} (h : m.Ok) : Kp429.penaltyPart m.s m.p = ((Kp429.coordinates m.s).map (penT m)).sum := by
  unfold Kp429.coordinates
  rw [List.map_append, List.sum_append, flat_map_sum, flat_map_sum]
  have e0 := rows_range h (k := 0) (by decide) (rowPenalty m.s)
  have e1 := rows_range h (k := 1) (by decide) (rowPenalty m.s)
  show ((rowsK m.p 0).map (rowPenalty m.s)).sum + ((rowsK m.p 1).map (rowPenalty m.s)).sum = _
  rw [e0, e1]
  refine congr (congrArg _ (congrArg _ (List.map_congr_left fun n hn => ?_))) (congrArg _ (List.map_congr_left fun n hn => ?_))
  · rw [rowPen_is (rowOf_at h (by decide) (List.mem_range.mp hn)).2, List.map_map]
    rfl
  · rw [rowPen_is (rowOf_at h (by decide) (List.mem_range.mp hn)).2, List.map_map]
    rfl
theorem objective_is (m : Ms) : Kp429.objective m.mod m.p = Kp429.errorPart m.mod m.p + Kp429.penaltyPart m.s m.p := rfl
/-! ### products -/
theorem prod_range {x y : List Int} (h : x.length = y.length) : products x y = (List.range (x.length - 1)).map fun j => place x (1 + j) * place y (1 + j) := by
  refine ext_at fun j => ?_
  rw [List.getElem?_map]
  by_cases hj : j + 1 < x.length
  · rw [prod_at hj (by omega), List.getElem?_range (by omega)]
    show _ = some (place x (1 + j) * place y (1 + j))
    rw [Nat.add_comm 1 j]
  · rw [List.getElem?_eq_none (by rw [prod_len]; omega), List.getElem?_eq_none (by rw [List.length_range]; omega)]
    rfl
/-! ### the mean error -/
theorem mean_is {m : Ms} (h : m.Ok) : meanE m = [((((Kp429.errorPart m.mod m.p).toNat / Nat.gcd (Kp429.errorPart m.mod m.p).toNat ((allV m.R).length * 4294967296) : Nat)) : Int), ((((allV m.R).length * 4294967296) / Nat.gcd (Kp429.errorPart m.mod m.p).toNat ((allV m.R).length * 4294967296) : Nat) : Int)] := by
  unfold meanE
  have e : (Kp429.errorPart m.mod m.p).natAbs = (Kp429.errorPart m.mod m.p).toNat := by
    have := (err_bd h).1
    omega
  have e2 : Kp429.errorPart m.mod m.p = (((Kp429.errorPart m.mod m.p).toNat : Nat) : Int) := by
    have := (err_bd h).1
    omega
  dsimp only
  rw [e]
  refine congrArg (· :: _) ?_
  conv => lhs; lhs; rw [e2]
  exact (Int.natCast_ediv _ _).symm
/-! ### training -/
theorem train_stop {m : Kp429.Model} {f n : Nat} {p : Kp429.Parameters} (h : Kp429.sweep m p = p) : Kp429.train m (f + 1) p n = (p, n + 1, true) := by
  rw [Kp429.train, if_pos h]
theorem train_go {m : Kp429.Model} {f n : Nat} {p : Kp429.Parameters} (h : Kp429.sweep m p ≠ p) : Kp429.train m (f + 1) p n = Kp429.train m f (Kp429.sweep m p) (n + 1) := by
  rw [Kp429.train, if_neg h]
theorem sweep_m (m : Ms) (p : Kp429.Parameters) : Kp429.sweep { m with p := p }.mod = Kp429.sweep m.mod := rfl
theorem train_m (m : Ms) (p : Kp429.Parameters) : ∀ (f : Nat) (q : Kp429.Parameters) (n : Nat), Kp429.train { m with p := p }.mod f q n = Kp429.train m.mod f q n
  | 0, q, n => rfl
  | f + 1, q, n => by
    rw [Kp429.train, Kp429.train, sweep_m, train_m m p f]
theorem train_ok : ∀ (f : Nat) {m : Ms} (n : Nat), m.Ok → ({ m with p := (Kp429.train m.mod f m.p n).1 } : Ms).Ok
  | 0, m, n, h => h
  | f + 1, m, n, h => by
    by_cases e : Kp429.sweep m.mod m.p = m.p
    · rw [train_stop e]
      exact h
    · rw [train_go e]
      have ih := train_ok f (m := m.sweep) (n + 1) (sweep_ok h)
      have e2 : Kp429.train m.sweep.mod f m.sweep.p (n + 1) = Kp429.train m.mod f (Kp429.sweep m.mod m.p) (n + 1) := train_m m _ f _ _
      rw [e2] at ih
      exact ih
theorem curve_succ (m : Ms) (n : Nat) : curveP m (n + 1) = (Kp429.sweep m.mod (curveP m n).1, (curveP m n).2 ++ [Kp429.objective m.mod (Kp429.sweep m.mod (curveP m n).1)]) := by
  unfold curveP
  rw [List.range_succ]
  rw [List.foldl_append]
  rfl
theorem curve_len (m : Ms) : ∀ n, (curveA m n).length = n
  | 0 => rfl
  | n + 1 => by
    unfold curveA
    rw [curve_succ, List.length_append]
    exact congrArg (· + 1) (curve_len m n)
theorem improvable {m : Ms} (h : m.Ok) {c : Kp429.Coordinate} (hc : Crd m.s c.kind c.id c.place) : (step1 m.mod m.p c != m.p) = !decide (stepV m c.kind c.id c.place = place (rowOf m.p c.kind c.id) c.place) := by
  have e0 : step1 m.mod m.p c = (m.step c.kind c.id c.place).p := rfl
  by_cases e : stepV m c.kind c.id c.place = place (rowOf m.p c.kind c.id) c.place
  · rw [decide_eq_true e, e0, step_same h hc e, bne_self_eq_false]
    rfl
  · rw [decide_eq_false e, e0]
    exact bne_iff_ne.mpr (step_ne h hc e)
theorem find_take {α : Type} {p : α → Bool} : ∀ {l : List α} {i : Nat} {x : α}, (l.take i).find? p = none → l[i]? = some x → p x = true → l.find? p = some x
  | [], _, _, _, h, _ => by cases h
  | y :: l, 0, x, _, h, hp => by
    cases h
    rw [List.find?_cons, hp]
  | y :: l, i + 1, x, h0, h, hp => by
    rw [List.take_succ_cons, List.find?_cons] at h0
    rw [List.find?_cons]
    cases q : p y with
    | true =>
      rw [q] at h0
      cases h0
    | false =>
      rw [q] at h0
      exact find_take h0 h hp
theorem find_take_succ {α : Type} {p : α → Bool} : ∀ {l : List α} {i : Nat} {x : α}, (l.take i).find? p = none → l[i]? = some x → p x = false → (l.take (i + 1)).find? p = none
  | [], _, _, _, h, _ => by cases h
  | y :: l, 0, x, _, h, hp => by
    cases h
    show List.find? p [y] = none
    rw [List.find?_cons, hp]
    rfl
  | y :: l, i + 1, x, h0, h, hp => by
    rw [List.take_succ_cons, List.find?_cons] at h0
    rw [List.take_succ_cons, List.find?_cons]
    cases q : p y with
    | true =>
      rw [q] at h0
      cases h0
    | false =>
      rw [q] at h0
      exact find_take_succ h0 h hp
/-! ### a round of a new user's -/
theorem cell_crds {s : Kp429.Settings} {k n : Nat} (hk : k ≤ 1) (hn : n < Kp429.sizeOf s k) : Crds s (cell s k n) := fun c hc => by
  obtain ⟨q, hq, rfl⟩ := in_map hc
  exact ⟨hk, hn, Nat.le_of_lt_succ (List.mem_range.mp hq)⟩
def V0 (m : Ms) : List Kp429.View := Kp429.views m.mod m.p 0 0
theorem row0_set (p : Kp429.Parameters) (r : List Int) (h : 0 < p.users.length) : rowOf (setRow p 0 0 r) 0 0 = r := by
  show (p.users.set 0 r).getD 0 [] = r
  rw [List.getD_eq_getElem?_getD, List.getElem?_set_self h]
  rfl
theorem set_set (p : Kp429.Parameters) (r r' : List Int) : setRow (setRow p 0 0 r) 0 0 r' = setRow p 0 0 r' := by
  show ({ p with users := (p.users.set 0 r).set 0 r' } : Kp429.Parameters) = { p with users := p.users.set 0 r' }
  rw [List.set_set]
def rnd (m : Ms) (qs : List Nat) (r : List Int) : List Int := qs.foldl (fun (r : List Int) (k : Nat) => Kp429.stepRow m.s (V0 m) r k) r
theorem walk_row (m : Ms) (h : 0 < m.p.users.length) : ∀ (qs : List Nat) (r : List Int), (({ m with p := setRow m.p 0 0 r } : Ms).walk (qs.map fun q => ⟨0, 0, q⟩)) = { m with p := setRow m.p 0 0 (rnd m qs r) }
  | [], r => rfl
  | q :: qs, r => by
    have e : ({ m with p := setRow m.p 0 0 r } : Ms).step 0 0 q = { m with p := setRow m.p 0 0 (Kp429.stepRow m.s (V0 m) r q) } := by
      refine ms_eq rfl rfl ?_
      show setRow (setRow m.p 0 0 r) 0 0 (Kp429.stepRow m.s _ (rowOf (setRow m.p 0 0 r) 0 0) q) = _
      rw [row0_set _ _ h, set_set]
      exact congrArg (fun v => setRow m.p 0 0 (Kp429.stepRow m.s v r q)) rfl
    show (({ m with p := setRow m.p 0 0 r } : Ms).step 0 0 q).walk _ = _
    rw [e, walk_row m h qs]
    rfl
theorem fold_stop {s : Kp429.Settings} {l : List Kp429.View} {f n : Nat} {r : List Int} (h : (List.range (s.factors + 1)).foldl (fun (r : List Int) (k : Nat) => Kp429.stepRow s l r k) r = r) : Kp429.foldIn s l (f + 1) r n = (r, n + 1) := by
  rw [Kp429.foldIn]
  rw [h, if_pos rfl]
theorem fold_go {s : Kp429.Settings} {l : List Kp429.View} {f n : Nat} {r : List Int} (h : (List.range (s.factors + 1)).foldl (fun (r : List Int) (k : Nat) => Kp429.stepRow s l r k) r ≠ r) :
    Kp429.foldIn s l (f + 1) r n = Kp429.foldIn s l f ((List.range (s.factors + 1)).foldl (fun (r : List Int) (k : Nat) => Kp429.stepRow s l r k) r) (n + 1) := by
  rw [Kp429.foldIn]
  rw [if_neg h]
theorem rnd_same {m : Ms} (h : m.Ok) {r : List Int} (ok : ({ m with p := setRow m.p 0 0 r } : Ms).Ok) : cnt (cell m.s 0 0) { m with p := setRow m.p 0 0 r } = 0 ↔ rnd m (List.range (m.s.factors + 1)) r = r := by
  have hu : 0 < m.p.users.length := by rw [h.us.len]; exact h.s.u1
  have e := walk_row m hu (List.range (m.s.factors + 1)) r
  have cc : Crds m.s (cell m.s 0 0) := cell_crds (by decide) h.s.u1
  have nd : (cell m.s 0 0).Nodup := nodup_map (fun a b e => by cases e; rfl) List.nodup_range
  constructor
  · intro z
    have e2 := cnt_zero _ ok cc z
    have e3 : ({ m with p := setRow m.p 0 0 r } : Ms) = { m with p := setRow m.p 0 0 (rnd m (List.range (m.s.factors + 1)) r) } := e2.symm.trans e
    have e4 : setRow m.p 0 0 r = setRow m.p 0 0 (rnd m (List.range (m.s.factors + 1)) r) := by injection e3
    have e5 : rowOf (setRow m.p 0 0 r) 0 0 = rowOf (setRow m.p 0 0 (rnd m (List.range (m.s.factors + 1)) r)) 0 0 := by rw [← e4]
    rw [row0_set _ _ hu, row0_set _ _ hu] at e5
    exact e5.symm
  · intro z
    rw [z] at e
    have e : ({ m with p := setRow m.p 0 0 r } : Ms).walk (cell m.s 0 0) = { m with p := setRow m.p 0 0 r } := e
    rw [cnt_is _ ok cc nd, e]
    refine List.countP_eq_zero.mpr fun c _ => ?_
    rw [bne_self_eq_false]
    exact Bool.false_ne_true
end Lk
set_option Elab.async false
set_option linter.all false
/-! New users' ratings, rounds. Plain Lean. -/
namespace Lk
open Kp429 (rowOf place products predict target quadratic bestValue step1 setRow rowPenalty)
/-! ### the numbers of a new user -/
def okL (s : Kp429.Settings) : Int → List Nat → Bool
  | _, [] => true
  | _, [_] => false
  | last, a :: b :: r => !(decide ((a : Int) ≤ last) || (!decide (a < s.items) || !(decide (1 ≤ b) && decide (b ≤ 10)))) && okL s a r
theorem pairs_odd : ∀ (ns : List Nat), ns.length % 2 = 1 → Kp429.pairsOf ns = none
  | [], h => by cases h
  | [_], _ => rfl
  | a :: b :: r, h => by
    have ih := pairs_odd r (by simp only [List.length_cons] at h; omega)
    show (Kp429.pairsOf r).map _ = none
    rw [ih]
    rfl
theorem pairs_even : ∀ (ns : List Nat), ns.length % 2 = 0 → ∃ x, Kp429.pairsOf ns = some x ∧ x.length = ns.length / 2 ∧ ∀ i y, x[i]? = some y → ns[2 * i]? = some y.1 ∧ ns[2 * i + 1]? = some y.2
  | [], _ => ⟨[], rfl, rfl, fun i y h => by cases h⟩
  | [_], h => by simp at h
  | a :: b :: r, h => by
    obtain ⟨x, h1, h2, h3⟩ := pairs_even r (by simp only [List.length_cons] at h; omega)
    refine ⟨(a, b) :: x, ?_, ?_, fun i y hy => ?_⟩
    · show (Kp429.pairsOf r).map _ = _
      rw [h1]
      rfl
    · simp only [List.length_cons, h2]
      omega
    · cases i with
      | zero =>
        cases hy
        exact ⟨rfl, rfl⟩
      | succ i =>
        have e1 : 2 * (i + 1) = 2 * i + 1 + 1 := rfl
        rw [e1]
        exact h3 i y hy
def okX (s : Kp429.Settings) (x : List (Nat × Nat)) : Bool := x.all (fun y => decide (y.1 < s.items) && decide (1 ≤ y.2) && decide (y.2 ≤ 10)) && Kp429.increasing x
def headOk (last : Int) : List (Nat × Nat) → Bool
  | [] => true
  | a :: _ => decide (last < (a.1 : Int))
theorem okX_cons (s : Kp429.Settings) (a b : Nat) (x : List (Nat × Nat)) : okX s ((a, b) :: x) = ((decide (a < s.items) && decide (1 ≤ b) && decide (b ≤ 10)) && (okX s x && headOk (a : Int) x)) := by
  unfold okX
  rw [List.all_cons]
  cases x with
  | nil => simp [Kp429.increasing, headOk]
  | cons y x =>
    have e : Kp429.increasing ((a, b) :: y :: x) = (decide (a < y.1) && Kp429.increasing (y :: x)) := rfl
    rw [e]
    have e2 : headOk (a : Int) (y :: x) = decide (a < y.1) := by
      show decide ((a : Int) < (y.1 : Int)) = _
      by_cases h : a < y.1
      · rw [decide_eq_true h, decide_eq_true (Int.ofNat_lt.mpr h)]
      · rw [decide_eq_false h, decide_eq_false fun z => h (Int.ofNat_lt.mp z)]
    rw [e2]
    cases decide (a < s.items) <;> cases decide (1 ≤ b) <;> cases decide (b ≤ 10) <;> cases (decide (a < y.1)) <;> cases (Kp429.increasing (y :: x)) <;> simp
theorem okL_is (s : Kp429.Settings) : ∀ (ns : List Nat) (last : Int) (x : List (Nat × Nat)), Kp429.pairsOf ns = some x → okL s last ns = (okX s x && headOk last x)
  | [], last, x, h => by
    cases h
    rfl
  | [_], last, x, h => by cases h
  | a :: b :: r, last, x, h => by
    cases e : Kp429.pairsOf r with
    | none =>
      have h : (Kp429.pairsOf r).map (fun l => (a, b) :: l) = some x := h
      rw [e] at h
      cases h
    | some x' =>
      have h : (Kp429.pairsOf r).map (fun l => (a, b) :: l) = some x := h
      rw [e] at h
      have hx : (a, b) :: x' = x := Option.some.inj h
      subst hx
      have ih := okL_is s r (a : Int) x' e
      rw [okX_cons]
      show (!(decide ((a : Int) ≤ last) || (!decide (a < s.items) || !(decide (1 ≤ b) && decide (b ≤ 10)))) && okL s a r) = _
      rw [ih]
      have e2 : headOk last ((a, b) :: x') = !decide ((a : Int) ≤ last) := by
        show decide (last < (a : Int)) = _
        by_cases h : (a : Int) ≤ last
        · rw [decide_eq_true h, decide_eq_false (by omega)]
          rfl
        · rw [decide_eq_false h, decide_eq_true (by omega)]
          rfl
      rw [e2]
      cases decide (a < s.items) <;> cases decide (1 ≤ b) <;> cases decide (b ≤ 10) <;> cases (decide ((a : Int) ≤ last)) <;> cases okX s x' <;> cases headOk (a : Int) x' <;> rfl
theorem okN_even {s : Kp429.Settings} {ns : List Nat} (h : ns.length % 2 = 0) : okN s ns = okL s (-1) ns := by
  obtain ⟨x, h1, _, _⟩ := pairs_even ns h
  rw [okL_is s ns (-1) x h1]
  unfold okN
  rw [h1]
  have e : headOk (-1) x = true := by
    cases x with
    | nil => rfl
    | cons y x =>
      show decide ((-1 : Int) < (y.1 : Int)) = true
      apply decide_eq_true
      omega
  rw [e, Bool.and_true]
  rfl
theorem okN_odd {s : Kp429.Settings} {ns : List Nat} (h : ns.length % 2 = 1) : okN s ns = false := by
  unfold okN
  rw [pairs_odd ns h]
theorem okL_drop (s : Kp429.Settings) {ns : List Nat} {i a b : Nat} (last : Int) (ha : ns[2 * i]? = some a) (hb : ns[2 * i + 1]? = some b) : okL s last (ns.drop (2 * i)) = (!(decide ((a : Int) ≤ last) || (!decide (a < s.items) || !(decide (1 ≤ b) && decide (b ≤ 10)))) && okL s a (ns.drop (2 * (i + 1)))) := by
  have e : ns.drop (2 * i) = a :: b :: ns.drop (2 * (i + 1)) := by
    have h1 := (List.getElem?_eq_some_iff.mp ha)
    have h2 := (List.getElem?_eq_some_iff.mp hb)
    obtain ⟨h1, e1⟩ := h1
    obtain ⟨h2, e2⟩ := h2
    rw [List.drop_eq_getElem_cons h1, List.drop_eq_getElem_cons h2, e1, e2, show 2 * i + 1 + 1 = 2 * (i + 1) by omega]
  rw [e]
  rfl
theorem okN_pairs {s : Kp429.Settings} {ns : List Nat} (h : okN s ns = true) : Kp429.pairsOf ns = some (pairsN ns) ∧ ns.length % 2 = 0 ∧ ∀ y ∈ pairsN ns, y.1 < s.items ∧ y.2 ≤ 10 ∧ 1 ≤ y.2 := by
  have he : ns.length % 2 = 0 := by
    rcases Nat.mod_two_eq_zero_or_one ns.length with e | e
    · exact e
    · rw [okN_odd e] at h
      cases h
  obtain ⟨x, h1, _, _⟩ := pairs_even ns he
  have ex : pairsN ns = x := by
    unfold pairsN
    rw [h1]
    rfl
  refine ⟨by rw [ex]; exact h1, he, fun y hy => ?_⟩
  unfold okN at h
  rw [h1] at h
  rw [ex] at hy
  have h := ((Bool.and_eq_true _ _).mp h).1
  have h := List.all_eq_true.mp h y hy
  simp at h
  exact ⟨h.1.1, h.2, h.1.2⟩
theorem newRatings_is (m : Ms) (ns : List Nat) : Kp429.newRatings m.mod ns = if okN m.s ns = true then some (pairsN ns) else none := by
  unfold Kp429.newRatings okN pairsN
  cases e : Kp429.pairsOf ns with
  | none => rfl
  | some x => rfl
/-! ### the newcomer's row of ratings -/
theorem rowN_take {n : Nat} {ps : List (Nat × Nat)} {i : Nat} {y : Nat × Nat} (h : ps[i]? = some y) : rowN' n (ps.take (i + 1)) = (rowN' n (ps.take i)).set y.1 y.2 := by
  unfold rowN'
  rw [List.take_add_one, h]
  rw [List.foldl_append]
  rfl
theorem rowN_len (n : Nat) (ps : List (Nat × Nat)) : (rowN' n ps).length = n := by
  unfold rowN'
  have : ∀ (l : List (Nat × Nat)) (r : List Nat), (l.foldl (fun r (x : Nat × Nat) => r.set x.1 x.2) r).length = r.length := fun l => by
    induction l with
    | nil => exact fun r => rfl
    | cons x l ih =>
      intro r
      rw [List.foldl_cons, ih, List.length_set]
  rw [this, List.length_replicate]
theorem rowN_val (n : Nat) (ps : List (Nat × Nat)) (h : ∀ y ∈ ps, y.2 ≤ 10) : ∀ v ∈ rowN' n ps, v ≤ 10 := by
  have : ∀ (l : List (Nat × Nat)) (r : List Nat), (∀ y ∈ l, y.2 ≤ 10) → (∀ v ∈ r, v ≤ 10) → ∀ v ∈ l.foldl (fun r (x : Nat × Nat) => r.set x.1 x.2) r, v ≤ 10 := fun l => by
    induction l with
    | nil => exact fun r _ hr => hr
    | cons x l ih =>
      intro r hl hr
      rw [List.foldl_cons]
      refine ih _ (fun y hy => hl y (List.mem_cons_of_mem _ hy)) fun v hv => ?_
      rcases List.mem_or_eq_of_mem_set hv with m | e
      · exact hr v m
      · rw [e]
        exact hl x (List.mem_cons_self ..)
  unfold rowN'
  exact this ps _ h fun v hv => by
    rw [List.eq_of_mem_replicate hv]
    exact Nat.zero_le _
/-- the newcomer, with some of the ratings -/
def guestI (m : Ms) (ns : List Nat) (i : Nat) : Ms := ⟨m.s, m.R.set 0 (rowN' m.s.items ((pairsN ns).take i)), { m.p with users := m.p.users.set 0 (List.replicate (m.s.factors + 1) 0) }⟩
def zeroU (m : Ms) : Ms := { m with p := { m.p with users := m.p.users.set 0 (List.replicate (m.s.factors + 1) 0) } }
theorem zeroU_ok {m : Ms} (h : m.Ok) : (zeroU m).Ok := ⟨h.s, h.R, rowsOk_set h.us List.length_replicate (fun x hx => by
  rw [List.eq_of_mem_replicate hx]
  exact ⟨by decide, by decide⟩), h.it, h.b⟩
theorem guest0 {m : Ms} (h : m.Ok) (ns : List Nat) : (zeroU m).drop 0 = guestI m ns 0 := by
  unfold Ms.drop zeroU guestI dropU
  have hl : (rowOfR m.R 0).length = m.s.items := h.R.row _ (rowOfR_mem (by rw [h.R.len]; exact h.s.u1)).1
  show Ms.mk m.s (m.R.set 0 (List.replicate (rowOfR m.R 0).length 0)) _ = _
  rw [hl]
  rfl
theorem guest_succ {m : Ms} (h : m.Ok) {ns : List Nat} {i : Nat} {y : Nat × Nat} (hy : (pairsN ns)[i]? = some y) : ({ guestI m ns i with R := (guestI m ns i).R.set 0 ((rowOfR (guestI m ns i).R 0).set y.1 y.2) } : Ms) = guestI m ns (i + 1) := by
  have hu : 0 < m.R.length := by rw [h.R.len]; exact h.s.u1
  have e : rowOfR (guestI m ns i).R 0 = rowN' m.s.items ((pairsN ns).take i) := by
    show (m.R.set 0 _).getD 0 [] = _
    rw [List.getD_eq_getElem?_getD, List.getElem?_set_self hu]
    rfl
  rw [e]
  unfold guestI
  show Ms.mk m.s ((m.R.set 0 _).set 0 _) _ = _
  rw [List.set_set, rowN_take hy]
theorem guest_end (m : Ms) (ns : List Nat) {i : Nat} (h : (pairsN ns).length ≤ i) : guestI m ns i = guestM m ns := by
  unfold guestI guestM
  rw [List.take_of_length_le h]
/-! ### rounds -/
def rowsOf (n : Nat) : List Kp429.Coordinate := (List.range n).map fun q => ⟨0, 0, q⟩
theorem rowsOf_succ (n : Nat) : rowsOf (n + 1) = rowsOf n ++ [⟨0, 0, n⟩] := by
  unfold rowsOf
  rw [List.range_succ, List.map_append]
  rfl
theorem rowsOf_cell (s : Kp429.Settings) : rowsOf (s.factors + 1) = cell s 0 0 := rfl
def atRow (m : Ms) (r : List Int) : Ms := { m with p := setRow m.p 0 0 r }
theorem atRow0 {m : Ms} (h : m.Ok) : atRow m (rowOf m.p 0 0) = m := by
  have hr := (rowOf_at h (k := 0) (n := 0) (by decide) h.s.u1).1
  obtain ⟨s, R, b, us, it⟩ := m
  show Ms.mk s R ⟨b, us.set 0 _, it⟩ = _
  rw [set_same us 0 _ hr]
end Lk
set_option Elab.async false
set_option linter.all false
/-! What is recommended, what is similar. Plain Lean. -/
namespace Lk
open Kp429 (rowOf place products predict target quadratic bestValue step1 setRow rowPenalty)
/-! ### sorting by insertion -/
def insG {α : Type} (lt : α → α → Bool) (x : α) : List α → List α
  | [] => [x]
  | y :: r => if lt x y = true then x :: y :: r else y :: insG lt x r
def ordG {α : Type} (K : α → Int) (ix : α → Nat) (x y : α) : Bool := decide (K y < K x ∨ (K x = K y ∧ ix x ≤ ix y))
section
variable {α : Type} {lt : α → α → Bool} {K : α → Int} {ix : α → Nat}
theorem insG_perm (x : α) : ∀ l : List α, (insG lt x l).Perm (x :: l)
  | [] => List.Perm.refl _
  | y :: r => by
    unfold insG
    split
    · exact List.Perm.refl _
    · exact ((insG_perm x r).cons y).trans (List.Perm.swap x y r)
theorem insG_sorted (x : α) : ∀ l : List α, (∀ y ∈ l, lt x y = decide (K y < K x)) → (∀ y ∈ l, ix y ≤ ix x) → l.Pairwise (fun a b => ordG K ix a b = true) → (insG lt x l).Pairwise (fun a b => ordG K ix a b = true)
  | [], _, _, _ => List.pairwise_singleton _ _
  | y :: r, h1, h2, hp => by
    have hp' := List.pairwise_cons.1 hp
    have hy := h1 y in_head
    unfold insG
    split
    · rename_i hlt
      rw [hy] at hlt
      have hlt := of_decide_eq_true hlt
      refine List.pairwise_cons.mpr ⟨fun z hz => decide_eq_true ?_, hp⟩
      rcases in_cons hz with e | hz
      · rw [e]; exact .inl hlt
      · have := of_decide_eq_true (hp'.1 z hz)
        omega
    · rename_i hlt
      rw [hy] at hlt
      have hlt : ¬ K y < K x := fun z => hlt (decide_eq_true z)
      refine List.pairwise_cons.mpr ⟨fun z hz => ?_, insG_sorted x r (fun z hz => h1 z (List.mem_cons_of_mem _ hz)) (fun z hz => h2 z (List.mem_cons_of_mem _ hz)) hp'.2⟩
      rcases List.mem_cons.mp ((insG_perm (lt := lt) x r).mem_iff.mp hz) with e | hz
      · rw [e]
        refine decide_eq_true ?_
        have := h2 y (List.mem_cons_self ..)
        omega
      · exact hp'.1 z hz
theorem foldG : ∀ (l acc : List α), (∀ x ∈ l, ∀ y ∈ acc ++ l, lt x y = decide (K y < K x)) → (∀ x ∈ l, ∀ y ∈ acc, ix y ≤ ix x) → l.Pairwise (fun a b => ix a < ix b) → acc.Pairwise (fun a b => ordG K ix a b = true) →
    (l.foldl (fun a x => insG lt x a) acc).Perm (acc ++ l) ∧ (l.foldl (fun a x => insG lt x a) acc).Pairwise (fun a b => ordG K ix a b = true)
  | [], acc, _, _, _, h4 => ⟨by rw [List.append_nil]; exact List.Perm.refl _, h4⟩
  | x :: l, acc, h1, h2, h3, h4 => by
    have h3' := List.pairwise_cons.mp h3
    have hp := insG_perm (lt := lt) x acc
    have sub : ∀ y ∈ insG lt x acc ++ l, y ∈ acc ++ x :: l := fun y hy => by
      rcases in_app hy with hy | hy
      · rcases List.mem_cons.mp (hp.mem_iff.mp hy) with e | hy
        · rw [e]; exact List.mem_append_right _ (List.mem_cons_self ..)
        · exact List.mem_append_left _ hy
      · exact List.mem_append_right _ (List.mem_cons_of_mem _ hy)
    have ih := foldG l (insG lt x acc) (fun z hz y hy => h1 z (List.mem_cons_of_mem _ hz) y (sub y hy)) (fun z hz y hy => by
      rcases List.mem_cons.mp (hp.mem_iff.mp hy) with e | hy
      · rw [e]; exact Nat.le_of_lt (h3'.1 z hz)
      · exact h2 z (List.mem_cons_of_mem _ hz) y hy) h3'.2 (insG_sorted x acc (fun y hy => h1 x (List.mem_cons_self ..) y (List.mem_append_left _ hy)) (h2 x (List.mem_cons_self ..)) h4)
    rw [List.foldl_cons]
    refine ⟨ih.1.trans ?_, ih.2⟩
    exact (hp.append_right l).trans ((List.perm_middle).symm)
theorem foldG_is (l : List α) (h1 : ∀ x ∈ l, ∀ y ∈ l, lt x y = decide (K y < K x)) (h3 : l.Pairwise (fun a b => ix a < ix b)) : l.foldl (fun a x => insG lt x a) [] = l.mergeSort (ordG K ix) := by
  obtain ⟨p, s⟩ := foldG (lt := lt) (K := K) (ix := ix) l [] (fun x hx y hy => h1 x hx y (by simpa using hy)) (fun x _ y hy => by simp at hy) h3 List.Pairwise.nil
  rw [List.nil_append] at p
  have s2 := List.pairwise_mergeSort (le := ordG K ix) (fun a b c hab hbc => by
    have h1 := of_decide_eq_true hab
    have h2 := of_decide_eq_true hbc
    exact decide_eq_true (by omega)) (fun a b => by
    unfold ordG
    by_cases h : K b < K a ∨ (K a = K b ∧ ix a ≤ ix b)
    · rw [decide_eq_true h]
      rfl
    · rw [decide_eq_true (show K a < K b ∨ (K b = K a ∧ ix b ≤ ix a) by omega), Bool.or_true]) l
  have inj : ∀ (l : List α), l.Pairwise (fun a b => ix a < ix b) → ∀ a ∈ l, ∀ b ∈ l, ix a = ix b → a = b := fun l => by
    induction l with
    | nil => intro _ a ha; cases ha
    | cons x l ih =>
      intro hp a ha b hb e
      have hp := List.pairwise_cons.mp hp
      rcases in_cons ha with e1 | ha <;> rcases in_cons hb with e2 | hb
      · rw [e1, e2]
      · have := hp.1 b hb
        rw [e1] at e
        omega
      · have := hp.1 a ha
        rw [e2] at e
        omega
      · exact ih hp.2 a ha b hb e
  refine List.Perm.eq_of_pairwise (fun a b ha hb hab hba => ?_) s s2 (p.trans (List.mergeSort_perm l _).symm)
  have h1 := of_decide_eq_true hab
  have h2 := of_decide_eq_true hba
  exact inj l h3 a (p.mem_iff.mp ha) b ((List.mergeSort_perm l _).mem_iff.mp hb) (by omega)
end
theorem insP_is (x : Nat × Int) : ∀ l, Kp429.insertPrediction x l = insG (fun a b : Nat × Int => decide (b.2 < a.2)) x l
  | [] => rfl
  | y :: r => by
    unfold Kp429.insertPrediction insG
    rw [insP_is x r]
    by_cases h : y.2 < x.2
    · rw [if_pos h, if_pos (decide_eq_true h)]
    · rw [if_neg h, if_neg (by rw [decide_eq_false h]; exact Bool.false_ne_true)]
theorem insS_is (x : Nat × Kp429.Similarity) : ∀ l, Kp429.insertSimilar x l = insG (fun a b : Nat × Kp429.Similarity => Kp429.isMoreSimilar a.2 b.2) x l
  | [] => rfl
  | y :: r => by
    unfold Kp429.insertSimilar insG
    rw [insS_is x r]
/-! ### recommendations -/
def keyP (x : Nat × Int) : Int × Int := (-x.2, (x.1 : Int))
def ordP (x y : Nat × Int) : Bool := decide ((keyP x).1 < (keyP y).1 ∨ ((keyP x).1 = (keyP y).1 ∧ (keyP x).2 ≤ (keyP y).2))
theorem ordP_is (x y : Nat × Int) : ordP x y = ordG (fun x : Nat × Int => x.2) (fun x => x.1) x y := by
  unfold ordP ordG keyP
  dsimp only
  refine decide_eq_decide.mpr ?_
  omega
theorem foldP_is {l : List (Nat × Int)} (h : l.Pairwise (fun a b => a.1 < b.1)) : l.foldl (fun (l : List (Nat × Int)) (x : Nat × Int) => Kp429.insertPrediction x l) [] = l.mergeSort ordP := by
  have e1 : (fun (l : List (Nat × Int)) (x : Nat × Int) => Kp429.insertPrediction x l) = fun a x => insG (fun a b : Nat × Int => decide (b.2 < a.2)) x a := by
    funext l x
    exact insP_is x l
  have e2 : ordP = ordG (fun x : Nat × Int => x.2) (fun x => x.1) := by
    funext x y
    exact ordP_is x y
  rw [e1, e2]
  exact foldG_is l (fun _ _ _ _ => rfl) h
def recI (m : Ms) (u i : Nat) : List (Nat × Int) := ((List.range i).filter fun j => decide (ent m.R u j = 0)).map fun j => (j, predict m.p u j)
def recL (m : Ms) (u : Nat) : List (Nat × Int) := recI m u m.s.items
def recM (m : Ms) (u n : Nat) : List (Nat × Int) := ((recL m u).mergeSort ordP).take n
theorem recI_succ (m : Ms) (u i : Nat) : recI m u (i + 1) = recI m u i ++ (if ent m.R u i = 0 then [(i, predict m.p u i)] else []) := by
  unfold recI
  rw [List.range_succ, List.filter_append, List.map_append]
  refine congrArg (_ ++ ·) ?_
  rw [List.filter_cons]
  by_cases h : ent m.R u i = 0
  · rw [if_pos (decide_eq_true h), if_pos h]
    rfl
  · rw [if_neg (by rw [decide_eq_false h]; exact Bool.false_ne_true), if_neg h]
    rfl
theorem rec_pair (m : Ms) (u : Nat) : (recL m u).Pairwise (fun a b => a.1 < b.1) := by
  unfold recL recI
  rw [List.pairwise_map]
  exact (List.pairwise_lt_range).filter _
theorem rec_is (m : Ms) (u : Nat) : Kp429.recommendations m.mod u = (recL m u).mergeSort ordP := by
  unfold Kp429.recommendations
  rw [foldP_is]
  · unfold recL recI
    refine congrArg (fun l => List.mergeSort (List.map _ l) ordP) ?_
    refine List.filter_congr fun i _ => ?_
    rw [rating_at m.mod m.R rfl]
    by_cases h : ent m.R u i = 0
    · rw [if_pos h, decide_eq_true h]
      rfl
    · rw [if_neg h, decide_eq_false h]
      rfl
  · rw [List.pairwise_map]
    exact (List.pairwise_lt_range).filter _
theorem recI_len (m : Ms) (u i : Nat) : (recI m u i).length ≤ i := by
  unfold recI
  rw [List.length_map]
  have := List.length_filter_le (fun j => decide (ent m.R u j = 0)) (List.range i)
  rw [List.length_range] at this
  exact this
/-! ### similar rows -/
def dotM (m : Ms) (k n o : Nat) : Int := (products (rowOf m.p k n) (rowOf m.p k o)).sum
def nnM (m : Ms) (k o : Nat) : Int := (products (rowOf m.p k o) (rowOf m.p k o)).sum
def simI (m : Ms) (k n i : Nat) : List Nat := (List.range i).filter fun o => decide (o ≠ n) && decide (0 < dotM m k n o)
def simL (m : Ms) (k n : Nat) : List Nat := simI m k n (Kp429.sizeOf m.s k)
def comI (m : Ms) (k : Nat) (l : List Nat) : Int := l.foldl (fun a o => a * nnM m k o) 1
def closV (m : Ms) (k n : Nat) (cm : Int) (o : Nat) : Int := dotM m k n o * dotM m k n o * (cm / nnM m k o)
def keyS (m : Ms) (k n : Nat) (cm : Int) (o : Nat) : Int × Int := (-(closV m k n cm o), (o : Int))
def ordS (m : Ms) (k n : Nat) (cm : Int) (x y : Nat) : Bool := decide ((keyS m k n cm x).1 < (keyS m k n cm y).1 ∨ ((keyS m k n cm x).1 = (keyS m k n cm y).1 ∧ (keyS m k n cm x).2 ≤ (keyS m k n cm y).2))
def simM (m : Ms) (k n c : Nat) : List Nat := ((simL m k n).mergeSort (ordS m k n (comI m k (simL m k n)))).take c
theorem simI_succ (m : Ms) (k n i : Nat) : simI m k n (i + 1) = simI m k n i ++ (if (decide (i ≠ n) && decide (0 < dotM m k n i)) = true then [i] else []) := by
  unfold simI
  rw [List.range_succ, List.filter_append, List.filter_cons]
  rfl
theorem sq_zero {x : Int} (h : x * x = 0) : x = 0 := (Int.mul_eq_zero.mp h).elim id id
theorem sqs_zero : ∀ {l : List Int}, (l.map fun (x : Int) => x * x).sum = 0 → ∀ x ∈ l, x = 0
  | [], _, x, hx => by cases hx
  | y :: l, h, x, hx => by
    rw [List.map_cons, List.sum_cons] at h
    have h1 := sq_nn y
    have h2 := sum_nn (l.map fun (x : Int) => x * x) fun z hz => by
      obtain ⟨w, _, rfl⟩ := in_map hz
      exact sq_nn w
    rcases in_cons hx with e | hx
    · rw [e]; exact sq_zero (by omega)
    · exact sqs_zero (by omega) x hx
theorem zip_zero {a b : List Int} (h : ∀ x ∈ a, x = 0) : ((a.zip b).map fun (x : Int × Int) => x.1 * x.2).sum = 0 := by
  have h2 : ∀ y ∈ (a.zip b).map fun (x : Int × Int) => x.1 * x.2, y = 0 := fun y hy => by
    obtain ⟨z, hz, rfl⟩ := in_map hy
    rw [h z.1 (List.of_mem_zip hz).1, Int.zero_mul]
  have : ∀ l : List Int, (∀ y ∈ l, y = 0) → l.sum = 0 := fun l => by
    induction l with
    | nil => exact fun _ => rfl
    | cons y l ih =>
      intro hl
      rw [List.sum_cons, hl y (List.mem_cons_self ..), ih fun z hz => hl z (List.mem_cons_of_mem _ hz)]
      rfl
  exact this _ h2
theorem prod_self (r : List Int) : (products r r).sum = (r.tail.map fun (x : Int) => x * x).sum := by
  unfold products
  have : ∀ l : List Int, (l.zip l).map (fun (x : Int × Int) => x.1 * x.2) = l.map fun (x : Int) => x * x := fun l => by
    induction l with
    | nil => rfl
    | cons y l ih => rw [List.zip_cons_cons, List.map_cons, List.map_cons, ih]
  rw [this]
theorem sqs_pos {a b : List Int} (h : 0 < (products a b).sum) : 0 < (a.tail.map fun (x : Int) => x * x).sum ∧ 0 < (b.tail.map fun (x : Int) => x * x).sum := by
  have nn : ∀ l : List Int, 0 ≤ (l.map fun (x : Int) => x * x).sum := fun l => sum_nn _ fun z hz => by
    obtain ⟨w, _, rfl⟩ := in_map hz
    exact sq_nn w
  constructor
  · have h1 := nn a.tail
    by_cases h0 : (a.tail.map fun (x : Int) => x * x).sum = 0
    · have h2 : (products a b).sum = 0 := zip_zero (sqs_zero h0)
      omega
    · omega
  · have h1 := nn b.tail
    by_cases h0 : (b.tail.map fun (x : Int) => x * x).sum = 0
    · have h2 : ((b.tail.zip a.tail).map fun (x : Int × Int) => x.1 * x.2).sum = 0 := zip_zero (sqs_zero h0)
      rw [products_comm] at h2
      have h2 : (products a b).sum = 0 := h2
      omega
    · omega
theorem com_pos (m : Ms) (k : Nat) : ∀ (l : List Nat) (a : Int), 0 < a → (∀ o ∈ l, 0 < nnM m k o) → 0 < l.foldl (fun a o => a * nnM m k o) a
  | [], a, h, _ => h
  | o :: l, a, h, hl => com_pos m k l (a * nnM m k o) (Int.mul_pos h (hl o (List.mem_cons_self ..))) fun x hx => hl x (List.mem_cons_of_mem _ hx)
theorem com_dvd' (m : Ms) (k : Nat) : ∀ (l : List Nat) (a d : Int), d ∣ a → d ∣ l.foldl (fun a o => a * nnM m k o) a
  | [], a, d, h => h
  | o :: l, a, d, h => com_dvd' m k l _ d (Int.dvd_mul_of_dvd_left h)
theorem com_dvd (m : Ms) (k : Nat) : ∀ (l : List Nat) (a : Int) (o : Nat), o ∈ l → nnM m k o ∣ l.foldl (fun a o => a * nnM m k o) a
  | x :: l, a, o, h => by
    rcases in_cons h with e | h
    · subst e
      exact com_dvd' m k l _ _ (Int.dvd_mul_left ..)
    · exact com_dvd m k l _ o h
theorem more_is {da db nb na N cm : Int} (hna : 0 < na) (hnb : 0 < nb) (hN : 0 < N) (hc : 0 < cm) (ha : na ∣ cm) (hb : nb ∣ cm) : decide (db * db * (N * na) < da * da * (N * nb)) = decide (db * db * (cm / nb) < da * da * (cm / na)) := by
  refine decide_eq_decide.mpr ?_
  obtain ⟨x, hx⟩ := ha
  obtain ⟨y, hy⟩ := hb
  have ex : cm / na = x := by rw [hx]; exact Int.mul_ediv_cancel_left x (by omega)
  have ey : cm / nb = y := by rw [hy]; exact Int.mul_ediv_cancel_left y (by omega)
  rw [ex, ey]
  have hxp : 0 < x := by
    rcases Int.lt_trichotomy x 0 with h | h | h
    · have := Int.mul_neg_of_pos_of_neg hna h
      omega
    · rw [h, Int.mul_zero] at hx
      omega
    · exact h
  have hyp : 0 < y := by
    rcases Int.lt_trichotomy y 0 with h | h | h
    · have := Int.mul_neg_of_pos_of_neg hnb h
      omega
    · rw [h, Int.mul_zero] at hy
      omega
    · exact h
  have e1 : db * db * (N * na) = N * (db * db * na) := by simp [Int.mul_comm, Int.mul_left_comm, Int.mul_assoc]
  have e2 : da * da * (N * nb) = N * (da * da * nb) := by simp [Int.mul_comm, Int.mul_left_comm, Int.mul_assoc]
  rw [e1, e2, Int.mul_lt_mul_left hN]
  have q : 0 < na * nb := Int.mul_pos hna hnb
  rw [← Int.mul_lt_mul_left q (b := db * db * y)]
  have e3 : na * nb * (db * db * y) = cm * (db * db * na) := by rw [hy]; simp [Int.mul_comm, Int.mul_left_comm, Int.mul_assoc]
  have e4 : na * nb * (da * da * x) = cm * (da * da * nb) := by rw [hx]; simp [Int.mul_comm, Int.mul_left_comm, Int.mul_assoc]
  rw [e3, e4, Int.mul_lt_mul_left hc]
theorem mem_simL {m : Ms} {k n o : Nat} (h : o ∈ simL m k n) : o < Kp429.sizeOf m.s k ∧ o ≠ n ∧ 0 < dotM m k n o := by
  unfold simL simI at h
  have h := List.mem_filter.mp h
  have h2 := (Bool.and_eq_true _ _).mp h.2
  exact ⟨List.mem_range.mp h.1, of_decide_eq_true h2.1, of_decide_eq_true h2.2⟩
theorem nn_pos {m : Ms} {k n o : Nat} (h : o ∈ simL m k n) : 0 < nnM m k o := by
  unfold nnM
  rw [prod_self]
  exact (sqs_pos (mem_simL h).2.2).2
theorem sim_is (m : Ms) (k n : Nat) : Kp429.similar m.mod k n = (simL m k n).mergeSort (ordS m k n (comI m k (simL m k n))) := by
  unfold Kp429.similar
  have e1 : (fun (l : List (Nat × Kp429.Similarity)) (x : Nat × Kp429.Similarity) => Kp429.insertSimilar x l) = fun a x => insG (fun a b : Nat × Kp429.Similarity => Kp429.isMoreSimilar a.2 b.2) x a := by
    funext l x
    exact insS_is x l
  let g : Nat → Nat × Kp429.Similarity := fun o => (o, Kp429.similarity (rowOf m.p k n) (rowOf m.p k o))
  have e2 : ((((List.range (Kp429.sizeOf m.mod.settings k)).filter fun x => x != n).map fun x => (x, Kp429.similarity (rowOf m.mod.parameters k n) (rowOf m.mod.parameters k x))).filter fun x => decide (0 < x.2.dot)) = (simL m k n).map g := by
    rw [List.filter_map]
    refine congrArg (List.map g) ?_
    rw [List.filter_filter]
    refine List.filter_congr fun o _ => ?_
    have e : (o != n) = decide (o ≠ n) := by
      by_cases h : o = n
      · rw [h, bne_self_eq_false, decide_eq_false (fun z => z rfl)]
      · rw [decide_eq_true h]
        exact bne_iff_ne.mpr h
    rw [e, Bool.and_comm]
    rfl
  rw [e2, e1]
  have pw : (simL m k n).Pairwise (fun a b => a < b) := (List.pairwise_lt_range).filter _
  have hlt : ∀ x ∈ (simL m k n).map g, ∀ y ∈ (simL m k n).map g, Kp429.isMoreSimilar x.2 y.2 = decide (closV m k n (comI m k (simL m k n)) y.1 < closV m k n (comI m k (simL m k n)) x.1) := fun x hx y hy => by
    obtain ⟨a, ha, rfl⟩ := in_map hx
    obtain ⟨b, hb, rfl⟩ := in_map hy
    have hN := (sqs_pos (mem_simL ha).2.2).1
    have pa := nn_pos ha
    have pb := nn_pos hb
    have hc : 0 < comI m k (simL m k n) := com_pos m k _ 1 (by decide) fun o ho => nn_pos ho
    have h := more_is (da := dotM m k n a) (db := dotM m k n b) pa pb hN hc (com_dvd m k _ 1 a ha) (com_dvd m k _ 1 b hb)
    unfold closV
    rw [← h]
    unfold Kp429.isMoreSimilar
    show decide (dotM m k n b * dotM m k n b * _ < dotM m k n a * dotM m k n a * _) = _
    unfold nnM
    rw [prod_self, prod_self]
    rfl
  rw [foldG_is (K := fun x : Nat × Kp429.Similarity => closV m k n (comI m k (simL m k n)) x.1) (ix := fun x => x.1) _ hlt (by rw [List.pairwise_map]; exact pw)]
  have h3 := List.map_mergeSort (f := g) (l := simL m k n) (r := ordS m k n (comI m k (simL m k n))) (s := ordG (fun x : Nat × Kp429.Similarity => closV m k n (comI m k (simL m k n)) x.1) (fun x => x.1)) fun a _ b _ => by
    unfold ordS ordG keyS
    dsimp only
    refine decide_eq_decide.mpr ?_
    show _ ↔ closV m k n _ b < closV m k n _ a ∨ (closV m k n _ a = closV m k n _ b ∧ a ≤ b)
    omega
  rw [← h3, List.map_map]
  have e5 : (fun x : Nat × Kp429.Similarity => x.1) ∘ g = id := rfl
  rw [e5, List.map_id]
/-! ### bounds -/
theorem prods_bd {m : Ms} (h : m.Ok) (k n o : Nat) : (products (rowOf m.p k n) (rowOf m.p k o)).sum.natAbs < 2 ^ 43 := by
  have h4 := abs_sum (2 ^ 40) (products (rowOf m.p k n) (rowOf m.p k o)) fun x hx => by
    obtain ⟨⟨a, b⟩, hab, rfl⟩ := List.mem_map.mp hx
    obtain ⟨ha, hb⟩ := List.of_mem_zip hab
    have bd : ∀ (k n : Nat) (x : Int), x ∈ (rowOf m.p k n).tail → x.natAbs ≤ 2 ^ 20 := fun k n x hx => by
      have hx := List.mem_of_mem_tail hx
      obtain ⟨j, hj⟩ := in_at hx
      have e := place_at (r := rowOf m.p k n) (q := j) (List.getElem?_eq_some_iff.mp hj).1
      rw [hj] at e
      rw [Option.some.inj e]
      exact bd_abs (rowOf_bd h k n j)
    exact bd_mul (a := 2 ^ 20) (b := 2 ^ 20) (bd k n a ha) (bd k o b hb)
  have h5 : (products (rowOf m.p k n) (rowOf m.p k o)).length ≤ 4 := by
    rw [prod_len]
    have := rowOf_len h k n
    omega
  have h6 := Nat.mul_le_mul_right (2 ^ 40) h5
  have h7 := Nat.le_trans h4 h6
  omega
theorem com_bd {m : Ms} (h : m.Ok) (k : Nat) (l : List Nat) : (comI m k l).natAbs < 2 ^ (43 * l.length + 1) := by
  have : ∀ (l : List Nat) (a : Int) (b : Nat), a.natAbs < 2 ^ b → (l.foldl (fun a o => a * nnM m k o) a).natAbs < 2 ^ (b + 43 * l.length) := fun l => by
    induction l with
    | nil => exact fun a b h => h
    | cons o l ih =>
      intro a b ha
      have h1 : (a * nnM m k o).natAbs < 2 ^ (b + 43) := by
        rw [Int.natAbs_mul]
        rw [Nat.pow_add]
        exact Nat.mul_lt_mul'' ha (prods_bd h k o o)
      have h2 := ih _ _ h1
      rw [List.foldl_cons]
      rw [List.length_cons]
      have e : b + 43 * (l.length + 1) = b + 43 + 43 * l.length := by omega
      rw [e]
      exact h2
  have h1 := this l 1 1 (by decide)
  have e : 43 * l.length + 1 = 1 + 43 * l.length := by omega
  rw [e]
  exact h1
theorem simI_len (m : Ms) (k n i : Nat) : (simI m k n i).length ≤ i := by
  unfold simI
  have := List.length_filter_le (fun o => decide (o ≠ n) && decide (0 < dotM m k n o)) (List.range i)
  rw [List.length_range] at this
  exact this
theorem comI_take (m : Ms) (k : Nat) {l : List Nat} {i o : Nat} (h : l[i]? = some o) : comI m k (l.take (i + 1)) = comI m k (l.take i) * nnM m k o := by
  unfold comI
  rw [List.take_add_one, h]
  rw [List.foldl_append]
  rfl
end Lk
set_option Elab.async false
set_option linter.all false
/-! New users against the specification; deleting. Plain Lean. -/
namespace Lk
open Kp429 (rowOf place products predict target quadratic bestValue step1 setRow rowPenalty)
theorem obs_zero : ∀ (r : List Nat) (j : Nat), (∀ v ∈ r, v = 0) → obs j r = []
  | [], _, _ => rfl
  | x :: r, j, h => by
    have h1 := h x in_head
    subst h1
    show obs (j + 1) r = []
    exact obs_zero r (j + 1) fun v hv => h v (List.mem_cons_of_mem _ hv)
theorem obs_set : ∀ (r : List Nat) (j i v : Nat), i < r.length → v ≠ 0 → (∀ x ∈ r.drop i, x = 0) → obs j (r.set i v) = obs j r ++ [(j + i, v)]
  | [], _, _, _, h, _, _ => absurd h (Nat.not_lt_zero _)
  | x :: r, j, 0, v, _, hv, hz => by
    have hx : x = 0 := hz x (List.mem_cons_self ..)
    subst hx
    have hr : obs (j + 1) r = [] := obs_zero r (j + 1) fun y hy => hz y (List.mem_cons_of_mem _ hy)
    show (if v = 0 then obs (j + 1) r else (j, v) :: obs (j + 1) r) = obs (j + 1) r ++ [(j + 0, v)]
    rw [if_neg hv, hr]
    rfl
  | x :: r, j, i + 1, v, h, hv, hz => by
    have ih := obs_set r (j + 1) i v (by simpa using h) hv hz
    rw [List.set_cons_succ]
    show (if x = 0 then obs (j + 1) (r.set i v) else (j, x) :: obs (j + 1) (r.set i v)) = (if x = 0 then obs (j + 1) r else (j, x) :: obs (j + 1) r) ++ [(j + (i + 1), v)]
    rw [ih, show j + 1 + i = j + (i + 1) by omega]
    by_cases h0 : x = 0
    · rw [if_pos h0, if_pos h0]
    · rw [if_neg h0, if_neg h0]
      rfl
def setAll (r : List Nat) (ps : List (Nat × Nat)) : List Nat := ps.foldl (fun r (x : Nat × Nat) => r.set x.1 x.2) r
theorem set_drop {r : List Nat} {i v k : Nat} (hk : i < k) : (r.set i v).drop k = r.drop k := by
  refine ext_at fun j => ?_
  rw [List.getElem?_drop, List.getElem?_drop, List.getElem?_set_ne (by omega)]
theorem drop_zero {r : List Nat} {i k : Nat} (h : ∀ x ∈ r.drop i, x = 0) (hk : i ≤ k) : ∀ x ∈ r.drop k, x = 0 := fun x hx => by
  refine h x ?_
  obtain ⟨j, hj⟩ := in_at hx
  rw [List.getElem?_drop] at hj
  refine List.mem_of_getElem? (i := k - i + j) ?_
  rw [List.getElem?_drop, show i + (k - i + j) = k + j by omega]
  exact hj
theorem inc_pair : ∀ {ps : List (Nat × Nat)}, Kp429.increasing ps = true → ps.Pairwise (fun a b => a.1 < b.1)
  | [], _ => List.Pairwise.nil
  | [a], _ => List.pairwise_singleton _ _
  | a :: b :: r, h => by
    have h := (Bool.and_eq_true _ _).mp (show (decide (a.1 < b.1) && Kp429.increasing (b :: r)) = true from h)
    have ih := inc_pair h.2
    have hab := of_decide_eq_true h.1
    refine List.pairwise_cons.mpr ⟨fun z hz => ?_, ih⟩
    rcases in_cons hz with e | hz
    · rw [e]; exact hab
    · exact Nat.lt_trans hab ((List.pairwise_cons.mp ih).1 z hz)
theorem obs_all : ∀ (ps : List (Nat × Nat)) (r : List Nat) (k : Nat), ps.Pairwise (fun a b => a.1 < b.1) → (∀ y ∈ ps, k ≤ y.1 ∧ y.1 < r.length ∧ y.2 ≠ 0) → (∀ x ∈ r.drop k, x = 0) → obs 0 (setAll r ps) = obs 0 r ++ ps
  | [], r, k, _, _, _ => (List.append_nil _).symm
  | y :: ps, r, k, hp, hy, hz => by
    have hp := List.pairwise_cons.mp hp
    obtain ⟨y1, y2, y3⟩ := hy y (List.mem_cons_self ..)
    have h1 := obs_set r 0 y.1 y.2 y2 y3 (drop_zero hz y1)
    have ih := obs_all ps (r.set y.1 y.2) (y.1 + 1) hp.2 (fun z hz' => ⟨hp.1 z hz', by rw [List.length_set]; exact (hy z (List.mem_cons_of_mem _ hz')).2.1, (hy z (List.mem_cons_of_mem _ hz')).2.2⟩) (by
      rw [set_drop (Nat.lt_succ_self _)]
      exact drop_zero hz (by omega))
    show obs 0 (setAll (r.set y.1 y.2) ps) = _
    rw [ih, h1, Nat.zero_add, List.append_assoc]
    rfl
theorem okN_inc {s : Kp429.Settings} {ns : List Nat} (h : okN s ns = true) : Kp429.increasing (pairsN ns) = true := by
  obtain ⟨h1, _, _⟩ := okN_pairs h
  unfold okN at h
  rw [h1] at h
  exact ((Bool.and_eq_true _ _).mp h).2
theorem obs_new {s : Kp429.Settings} {ns : List Nat} (h : okN s ns = true) : obs 0 (rowN' s.items (pairsN ns)) = pairsN ns := by
  obtain ⟨_, _, h3⟩ := okN_pairs h
  have e := obs_all (pairsN ns) (List.replicate s.items 0) 0 (inc_pair (okN_inc h)) (fun y hy => by
    obtain ⟨a, b, c⟩ := h3 y hy
    exact ⟨Nat.zero_le _, by rw [List.length_replicate]; exact a, by omega⟩) fun x hx => List.eq_of_mem_replicate (List.mem_of_mem_drop hx)
  rw [obs_zero (List.replicate s.items 0) 0 fun v hv => List.eq_of_mem_replicate hv, List.nil_append] at e
  exact e
theorem guest_line {m : Ms} (h : m.Ok) (ns : List Nat) : rowOfR (guestM m ns).R 0 = rowN' m.s.items (pairsN ns) := by
  have hu : 0 < m.R.length := by rw [h.R.len]; exact h.s.u1
  show (m.R.set 0 _).getD 0 [] = _
  rw [List.getD_eq_getElem?_getD, List.getElem?_set_self hu]
  rfl
theorem guest_row {m : Ms} (h : m.Ok) (ns : List Nat) : rowOf (guestM m ns).p 0 0 = List.replicate (m.s.factors + 1) 0 := by
  have hu : 0 < m.p.users.length := by rw [h.us.len]; exact h.s.u1
  show (m.p.users.set 0 _).getD 0 [] = _
  rw [List.getD_eq_getElem?_getD, List.getElem?_set_self hu]
  rfl
theorem guest_views {m : Ms} (h : m.Ok) {ns : List Nat} (ok : okN m.s ns = true) : Kp429.views (guestM m ns).mod (guestM m ns).p 0 0 = Kp429.viewsOf m.p (pairsN ns) := by
  rw [views_is (guestM m ns) (by decide) 0]
  show (obs 0 (rowOfR (guestM m ns).R 0)).map _ = _
  rw [guest_line h, obs_new ok]
  rfl
theorem rounds_new {m : Ms} (h : m.Ok) {ns : List Nat} (ok : okN m.s ns = true) : roundsM (guestM m ns) = ({ guestM m ns with p := setRow (guestM m ns).p 0 0 (Kp429.newRow m.mod (pairsN ns)).1 }, (Kp429.newRow m.mod (pairsN ns)).2) := by
  unfold roundsM Kp429.newRow
  rw [guest_views h ok, guest_row h]
  rfl
theorem rounds_row {m : Ms} (h : m.Ok) {ns : List Nat} (ok : okN m.s ns = true) : rowOf (roundsM (guestM m ns)).1.p 0 0 = (Kp429.newRow m.mod (pairsN ns)).1 := by
  rw [rounds_new h ok]
  refine row0_set _ _ ?_
  show 0 < (m.p.users.set 0 _).length
  rw [List.length_set, h.us.len]
  exact h.s.u1
theorem obs_mem : ∀ {r : List Nat} {j i v : Nat}, r[i]? = some v → v ≠ 0 → (j + i, v) ∈ obs j r
  | [], _, _, _, h, _ => by cases h
  | x :: r, j, 0, v, h, hv => by
    have h : x = v := Option.some.inj h
    subst h
    show (j + 0, x) ∈ (if x = 0 then obs (j + 1) r else (j, x) :: obs (j + 1) r)
    rw [if_neg hv]
    exact List.mem_cons_self ..
  | x :: r, j, i + 1, v, h, hv => by
    have ih := obs_mem (r := r) (j := j + 1) (i := i) h hv
    rw [show j + 1 + i = j + (i + 1) by omega] at ih
    show _ ∈ (if x = 0 then obs (j + 1) r else (j, x) :: obs (j + 1) r)
    by_cases h0 : x = 0
    · rw [if_pos h0]; exact ih
    · rw [if_neg h0]; exact List.mem_cons_of_mem _ ih
theorem new_any {m : Ms} (h : m.Ok) {ns : List Nat} (ok : okN m.s ns = true) {i : Nat} (hi : i < m.s.items) : decide (ent (roundsM (guestM m ns)).1.R 0 i = 0) = !((pairsN ns).any fun y => y.1 == i) := by
  have e1 : ent (roundsM (guestM m ns)).1.R 0 i = (rowN' m.s.items (pairsN ns)).getD i 0 := by
    rw [rounds_new h ok]
    show (rowOfR (guestM m ns).R 0).getD i 0 = _
    rw [guest_line h]
  rw [e1]
  have hl := rowN_len m.s.items (pairsN ns)
  have hg : (rowN' m.s.items (pairsN ns))[i]? = some ((rowN' m.s.items (pairsN ns)).getD i 0) := by
    rw [List.getD_eq_getElem?_getD, List.getElem?_eq_getElem (by omega)]
    rfl
  have ho := obs_new ok
  by_cases h0 : (rowN' m.s.items (pairsN ns)).getD i 0 = 0
  · rw [decide_eq_true h0]
    cases ha : (pairsN ns).any fun y => y.1 == i with
    | false => rfl
    | true =>
      obtain ⟨y, hy, e⟩ := List.any_eq_true.mp ha
      have e : y.1 = i := by simpa using e
      rw [← ho] at hy
      obtain ⟨_, _, g3, g4⟩ := obs_ge hy
      rw [Nat.sub_zero, e, hg] at g4
      exact absurd (Option.some.inj g4 ▸ h0) g3
  · rw [decide_eq_false h0]
    have hm := obs_mem (j := 0) hg h0
    rw [ho, Nat.zero_add] at hm
    have : ((pairsN ns).any fun y => y.1 == i) = true := List.any_eq_true.mpr ⟨_, hm, by simp⟩
    rw [this]
    rfl
theorem recNew_is {m : Ms} (h : m.Ok) {ns : List Nat} (ok : okN m.s ns = true) (n : Nat) :
    ((((List.range m.s.items).filter fun i => !((pairsN ns).any fun y => y.1 == i)).map fun i => (i, Kp429.predictRows m.p.base (Kp429.newRow m.mod (pairsN ns)).1 (rowOf m.p 1 i))).foldl (fun (l : List (Nat × Int)) (y : Nat × Int) => Kp429.insertPrediction y l) []).take n = recM (roundsM (guestM m ns)).1 0 n := by
  have e : (((List.range m.s.items).filter fun i => !((pairsN ns).any fun y => y.1 == i)).map fun i => (i, Kp429.predictRows m.p.base (Kp429.newRow m.mod (pairsN ns)).1 (rowOf m.p 1 i))) = recL (roundsM (guestM m ns)).1 0 := by
    unfold recL recI
    have es : (roundsM (guestM m ns)).1.s = m.s := rfl
    rw [es]
    have ef : ((List.range m.s.items).filter fun i => !((pairsN ns).any fun y => y.1 == i)) = (List.range m.s.items).filter fun j => decide (ent (roundsM (guestM m ns)).1.R 0 j = 0) :=
      List.filter_congr fun i hi => (new_any h ok (List.mem_range.mp hi)).symm
    rw [ef]
    refine map_on fun i _ => ?_
    refine congrArg (fun z => (i, z)) ?_
    unfold predict
    rw [rounds_row h ok, rounds_new h ok]
    rfl
  rw [e, foldP_is (rec_pair _ 0)]
  rfl
/-! ### the residuals of a user -/
theorem resid_is (m : Ms) (u : Nat) : ((flatR 0 m.R).filter fun r => r.user == u).length = (resL m 0 u).length ∧ (((flatR 0 m.R).filter fun r => r.user == u).flatMap fun r => [(r.item : Int), Kp429.residual m.p r]) = (resL m 0 u).flatMap fun x => [(x.1 : Int), x.2] := by
  rw [filter_user0]
  unfold rowR resL
  rw [List.length_map, List.length_map, List.flatMap_map, List.flatMap_map]
  exact ⟨rfl, rfl⟩
theorem empty_is (m : Ms) : (flatR 0 m.R).isEmpty = decide ((allV m.R).length = 0) := by
  have h := flat_length m.R
  cases e : flatR 0 m.R with
  | nil =>
    rw [e] at h
    have h0 : (allV m.R).length = 0 := h.symm
    rw [decide_eq_true h0]
    rfl
  | cons x l =>
    rw [e] at h
    have h0 : (allV m.R).length ≠ 0 := by rw [← h]; exact Nat.succ_ne_zero _
    rw [decide_eq_false h0]
    rfl
theorem forget_is {m : Ms} (h : m.Ok) {u : Nat} (hu : u < m.s.users) (n : Nat) : Kp429.train ({ m.mod with ratings := (flatR 0 m.R).filter fun r => r.user != u } : Kp429.Model) n (Kp429.initial m.s ((flatR 0 m.R).filter fun r => r.user != u)) 0 = Kp429.train (again (m.drop u)).mod n (again (m.drop u)).p 0 := by
  rw [drop_flat0 (by rw [h.R.len]; exact hu)]
  exact (train_m (m.drop u) (again (m.drop u)).p n _ 0).symm
end Lk
set_option Elab.async false
set_option maxRecDepth 100000
set_option maxHeartbeats 5000000
set_option linter.all false
namespace Lk
open PySem PySem.Spec PyProof.Rows L2
open Evl (Ex)
section
variable {σ : L2.St} {H : Hp} {ta tb te : TE} {j n : Nat} {ws : List Nat} {Q : VK} {D : Ends} {tz t1 t2 : TS} {to : TE} {i : Int} {f : Int → Int → Int}
theorem k_range2 {lo : Nat} (h : Val ta σ H (nV lo)) (h' : Val tb σ H (nV n)) (hn : n ≤ 50000) (hlo : lo ≤ 50000) (f : Nat → V) (hw : ∀ x, wipe ((wipe σ ws).set j (some x)) ws = wipe σ ws)
    (he : ∀ (i : Nat) H1, i < n - lo → Ex H H1 → ∀ Q : VK, (∀ H2, Ex H1 H2 → Q (f i) H2) → te ((wipe σ ws).set j (some (nV (lo + i)))) H1 Q) (q : ∀ D H2, Cov H D ((List.range (n - lo)).map f) H2 → Q (.ref D) H2) :
    tLc (iRng2 (tCons ta (tCons tb tNil))) (gName j) tYes te ws σ H Q :=
  h _ (h' _ ⟨(lo : Int), (n : Int), rfl, ⟨by omega, by omega, by omega, by omega⟩, fun D hD => lc_range (lo := (lo : Int)) (n := ((n : Int) - (lo : Int)).toNat) (fun i H' => Cov H D ((List.range i).map f) H') (Cov.start hD) (fun i H' hi p => ⟨hw _, he i H' (by omega) p.2.1 _ fun H2 e2 => by
    have p2 := p.ex e2
    refine ⟨_, p2.2.2, Evl.sz_lt (by rw [List.length_map, List.length_range]; omega), ?_⟩
    rw [List.range_succ, List.map_append]
    exact p2.add⟩) (fun H' p => q D H' (by
    have e : ((n : Int) - (lo : Int)).toNat = n - lo := by omega
    rw [e] at p
    exact p))⟩)
theorem s_augK (hx : σ[n]? = some (some (.int i))) (h : te σ H fun y H1 => ∃ k, y = .int k ∧ D.nx (σ.set n (some (.int (f i k)))) H1) : tAug n te (ipI f) D σ H := by
  refine ⟨.int i, hx, ?_⟩
  have e : (fun y H1 => ∃ k, y = .int k ∧ D.nx (σ.set n (some (.int (f i k)))) H1) = fun y H1 => ipI f (.int i) y H1 fun z H2 => D.nx (σ.set n (some z)) H2 := by
    funext y H1
    refine propext ⟨fun ⟨k, e, q⟩ => ⟨i, k, rfl, e, q⟩, fun ⟨i', k, e1, e, q⟩ => ⟨k, e, ?_⟩⟩
    rw [V.int.inj e1]
    exact q
  rw [← e]
  exact h
end
theorem b64n {x : Int} {b : Nat} (h : x.natAbs ≤ b) (hb : b < 2 ^ 64) : -(2 ^ 64) < x ∧ x < 2 ^ 64 := by omega

def sp_factor_product (c : Cs) : Sp := fun vs H Q _ => ∃ (a b : Addr) (x y : List Int), vs = [.ref a, .ref b] ∧ H a = some (rowI x) ∧ H b = some (rowI y) ∧ x.length = y.length ∧ x.length ≤ 4 ∧ (∀ z ∈ x, Bd z) ∧ RV (.int (Kp429.products x y).sum) H Q
def sp_error_part (c : Cs) : Sp := fun vs H Q _ => ∃ (a : Addr) (L : Lay) (m : Ms), vs = [.ref a] ∧ MdAt c H a L m ∧ RV (.int (Kp429.errorPart m.mod m.p)) H Q
def sp_penalty_part (c : Cs) : Sp := fun vs H Q _ => ∃ (a : Addr) (L : Lay) (m : Ms), vs = [.ref a] ∧ MdAt c H a L m ∧ RV (.int (Kp429.penaltyPart m.s m.p)) H Q
def sp_whole_objective (c : Cs) : Sp := fun vs H Q _ => ∃ (a : Addr) (L : Lay) (m : Ms), vs = [.ref a] ∧ MdAt c H a L m ∧ RV (.int (Kp429.objective m.mod m.p)) H Q
def sp_mean_error (c : Cs) : Sp := fun vs H Q _ => ∃ (a : Addr) (L : Lay) (m : Ms), vs = [.ref a] ∧ MdAt c H a L m ∧ allV m.R ≠ [] ∧ RL ((meanE m).map V.int) H Q
def sp_quadratic_of (c : Cs) : Sp := fun vs H Q _ => ∃ (a : Addr) (k n q : Nat) (L : Lay) (m : Ms), vs = [.ref a, nV k, nV n, nV q] ∧ MdAt c H a L m ∧ k ≤ 1 ∧ n < Kp429.sizeOf m.s k ∧ q ≤ m.s.factors ∧ ∀ p H2, Ex H H2 → H p = none → QdAt c H2 p (quadM m k n q) → Q (.ref p) H2

section
variable {c : Cs} {mg : Str → Option Value} {vs : List V} {H : Hp} {Q : VK} {E : XK}
theorem p_factor_product (T : Tx c mg) (h : sp_factor_product c vs H Q E) : t_factor_product c (Dq Q) (start n_factor_product vs) H := by
  obtain ⟨a, b, x, y, rfl, hx, hy, hl, h4, hb, q⟩ := h
  refine s_retK (cb_k (cons_k (k_range2 (lo := 1) (n := x.length) vc (vt (by rw [List.length_map]) (v_len (vv rfl) (sq_ hx))) (by omega) (by decide) (fun j => .int (Kp429.place x (1 + j) * Kp429.place y (1 + j))) (fun _ => rfl) ?_ ?_)))
  · intro j H1 hj e1 Q' k
    exact (v_iC (v_ixL (vv rfl) (vv rfl) (sq_ (e1 _ _ hx)) (atI_nat (place_get (by omega)))) (v_ixL (vv rfl) (vv rfl) (sq_ (e1 _ _ hy)) (atI_nat (place_get (by omega)))) (.inl (b64 (place_bd hb)))) _ (k _ (Ex.refl _))
  · intro D H2 hD
    refine ⟨D, Kp429.products x y, rfl, sq_ ?_, q.at hD.2.1⟩
    rw [hD.2.2, prod_range hl, List.map_map]
    rfl
theorem p_error_part (T : Tx c mg) (h : sp_error_part c vs H Q E) : t_error_part c (sp_residuals_of c) (Dq Q) (start n_error_part vs) H := by
  obtain ⟨a, L, m, rfl, hm, q⟩ := h
  have u8 := hm.ok.s.u8
  refine q_set vc (q_range1 (n := m.s.users) (v_rc T hm.st (k := 0) (by decide) (v_settings T hm (vv rfl)) vc) (by omega)
    (fun i σ' H' => ∃ x y z, σ' = [some (.ref a), x, y, some (.int ((List.range i).map (errU m)).sum), z] ∧ Ex H H') ⟨_, _, _, rfl, Ex.refl H⟩ ?_ ?_)
  · rintro i σ' H' hi ⟨x, y, z, rfl, e⟩
    have hm2 := hm.ex e
    refine s_forL (c_residuals_of hm2 (vv rfl) (va1 vc (va1 (vv rfl) va0)) ⟨a, 0, i, L, m, rfl, hm2, by decide, hi, fun p1 H2 hc1 => ?_⟩)
    obtain ⟨f1, e1, ps, g1, ge⟩ := hc1
    refine fk_list (sq_ g1) (fun j σ' H' => ∃ x y, σ' = [some (.ref a), x, y, some (.int (((List.range i).map (errU m)).sum + (((resL m 0 i).take j).map resQ).sum)), some (nV i)] ∧ Ex H2 H')
      ⟨_, _, by rw [show (((resL m 0 i).take 0).map resQ).sum = 0 from rfl, Int.add_zero]; rfl, Ex.refl _⟩ (fun j σ' H' _ ⟨_, _, _, e2⟩ => sq_ (e2 _ _ g1)) ?_ ?_
    · rintro j w σ' H3 hw ⟨x, y, rfl, e2⟩
      have hj : j < (resL m 0 i).length := by
        have := (List.getElem?_eq_some_iff.mp hw).1
        rw [List.length_map, ge.1] at this
        exact this
      obtain ⟨t, t1, t2, t3⟩ := ge.at (List.getElem?_eq_getElem hj)
      rw [t2] at hw
      cases hw
      have hb := res_bd hm.ok (List.getElem_mem hj)
      refine g2 (stq (e2 _ _ t3)) (s_aug rfl (v_iC (vv rfl) (vv rfl) (.inl (b64n hb (by decide)))) ?_)
      rw [sum_take_succ resQ (List.getElem?_eq_getElem hj), ← Int.add_assoc]
      exact ⟨_, _, rfl, e2⟩
    · rintro σ' H3 ⟨x, y, rfl, e2⟩
      rw [List.length_map, ge.1, List.take_length]
      rw [sum_range_succ]
      exact ⟨_, _, _, rfl, (e.trans e1).trans e2⟩
  · rintro σ' H' ⟨x, y, z, rfl, e⟩
    rw [← err_is hm.ok]
    exact s_ret (vv rfl) (q.at e)
theorem p_penalty_part (T : Tx c mg) (h : sp_penalty_part c vs H Q E) : t_penalty_part c (sp_penalty c) (Dq Q) (start n_penalty_part vs) H := by
  obtain ⟨a, L, m, rfl, hm, q⟩ := h
  obtain ⟨pl, pts, v1, h3, h4⟩ := v_pars T hm.st (v_settings T hm (vv (σ := (start n_penalty_part [.ref a]).set 4 (some (.int 0))) (n := 0) rfl))
  refine q_set vc (q_list v1 (sq_ h3) (fun i σ' H' => ∃ x y z w, σ' = [some (.ref a), x, y, z, some (.int (((Kp429.coordinates m.s).take i).map (penT m)).sum), w] ∧ Ex H H') ⟨_, _, _, _, rfl, Ex.refl H⟩ (fun i σ' H' _ ⟨_, _, _, _, _, e⟩ => sq_ (e _ _ h3)) ?_ ?_)
  · rintro i w σ' H' hw ⟨x, y, z, w', rfl, e⟩
    have hi : i < (Kp429.coordinates m.s).length := by
      have := (List.getElem?_eq_some_iff.mp hw).1
      rw [List.length_map, h4.1] at this
      exact this
    obtain ⟨t, t1, t2, t3⟩ := h4.at (List.getElem?_eq_getElem hi)
    rw [t2] at hw
    cases hw
    have cr := crds m.s _ (List.getElem_mem hi)
    generalize hco : (Kp429.coordinates m.s)[i] = co at t3 cr
    have hm2 := hm.ex e
    have hb := rowOf_bd hm.ok co.kind co.id co.place
    refine g3 (stq (e _ _ t3)) (q_set (v_cell T hm2 cr.kle cr.nlt cr.qle (vv rfl) (vv rfl) (vv rfl) (vv rfl)) ?_)
    refine s_augK rfl (op_1 (op_1 (c_penalty (hm2.st) (v_settings T hm2 (vv rfl)) (va1 (vv rfl) va0) ⟨L.st, co.place, m.s, rfl, hm2.st, fun H3 e3 => v_k (vv rfl) ?_⟩)))
    refine ⟨_, _, rfl, rfl, .inr (b64 hb), v_k (vv rfl) ⟨_, _, rfl, rfl, .inr (b64 hb), _, rfl, ?_⟩⟩
    rw [sum_take_succ (penT m) (x := co) (by rw [List.getElem?_eq_getElem hi, hco])]
    exact ⟨_, _, _, _, rfl, e.trans e3⟩
  · rintro σ' H' ⟨x, y, z, w, rfl, e⟩
    rw [List.length_map, h4.1, List.take_length, ← pen_is hm.ok]
    exact s_ret (vv rfl) (q.at e)
theorem p_whole_objective (T : Tx c mg) (h : sp_whole_objective c vs H Q E) : t_whole_objective c (sp_error_part c) (sp_penalty_part c) (Dq Q) (start n_whole_objective vs) H := by
  obtain ⟨a, L, m, rfl, hm, q⟩ := h
  refine s_retK (op_1 (c_call (va1 (vv rfl) va0) ⟨a, L, m, rfl, hm, fun H1 e1 => c_call (va1 (vv rfl) va0) ⟨a, L, m, rfl, hm.ex e1, fun H2 e2 => ⟨_, _, rfl, rfl, ?_⟩⟩⟩))
  exact q.at (e1.trans e2)
theorem p_mean_error (T : Tx c mg) (h : sp_mean_error c vs H Q E) : t_mean_error c (sp_all_ratings c) (sp_error_part c) (sp_lowest_terms c) (Dq Q) (start n_mean_error vs) H := by
  obtain ⟨a, L, m, rfl, hm, hne, q⟩ := h
  have hb := err_bd hm.ok
  have hl := (allV_le hm.ok.s hm.ok.R).1
  have hpos : 0 < (allV m.R).length := List.length_pos_iff.mpr hne
  refine s_retK (call_k (cons_k (c_call (va1 (vv rfl) va0) ⟨a, L, m, rfl, hm, fun H1 e1 => cons_k (op_1 (op_1 (cb_k (cons_k (c_all_ratings (hm.ex e1) (vv rfl) va0 ⟨a, L, m, rfl, hm.ex e1, fun p H2 hp e2 hp2 => ?_⟩)))))⟩)))
  refine ⟨p, _, rfl, .inl (sq_ hp2), v_k vc ⟨_, _, rfl, rfl, .inl ⟨?_, ?_⟩, v_k vc ⟨_, _, rfl, rfl, .inr ⟨by decide, by decide⟩, ?_⟩⟩⟩
  · rw [List.length_map]; omega
  · rw [List.length_map]; omega
  · refine ⟨(Kp429.errorPart m.mod m.p).toNat, (allV m.R).length * 4294967296, ?_, by omega, by omega, by omega, fun p3 H3 hp3 e3 h3 => q p3 H3 (fresh (e1.trans e2) hp3) ((e1.trans e2).trans e3) ?_⟩
    · rw [List.length_map]
      have e4 : Kp429.errorPart m.mod m.p = (((Kp429.errorPart m.mod m.p).toNat : Nat) : Int) := by omega
      show [V.int (Kp429.errorPart m.mod m.p), V.int (((allV m.R).length : Int) * 65536 * 65536)] = [V.int (((Kp429.errorPart m.mod m.p).toNat : Nat) : Int), nV ((allV m.R).length * 4294967296)]
      rw [← e4]
      have e5 : ((allV m.R).length : Int) * 65536 * 65536 = (((allV m.R).length * 4294967296 : Nat) : Int) := by omega
      rw [e5]
    · rw [h3, mean_is hm.ok]
      rfl
theorem p_quadratic_of (T : Tx c mg) (h : sp_quadratic_of c vs H Q E) : t_quadratic_of c (sp_Quadratic_init c) (sp_penalty c) (sp_residuals_of c) (Dq Q) (start n_quadratic_of vs) H := by
  obtain ⟨a, k, n, r, L, m, rfl, hm, hk, hn, hr, q⟩ := h
  refine q_set (v_cell T hm hk hn hr (vv rfl) (vv rfl) (vv rfl) (vv rfl)) ?_
  have h1k : 1 - k ≤ 1 := by omega
  refine q_set (v_rowl T hm h1k (vv rfl) (vt (show V.int ((1 : Int) - (k : Int)) = nV (1 - k) from congrArg V.int (by omega)) (v_i0 vc (vv rfl)))) ?_
  refine q_asgK (c_penalty hm.st (v_settings T hm (vv rfl)) (va1 (vv rfl) va0) ⟨L.st, r, m.s, rfl, hm.st, fun H1 e1 => q_set vc ?_⟩)
  have hm1 := hm.ex e1
  refine q_forL (c_residuals_of hm1 (vv rfl) (va1 (vv rfl) (va1 (vv rfl) va0)) ⟨a, k, n, L, m, rfl, hm1, hk, hn, fun p1 H2 hc1 => ?_⟩)
  obtain ⟨f1, e2, ps, g1, ge⟩ := hc1
  have hm2 := hm1.ex e2
  refine fk_list (sq_ g1) (fun j σ' H' => ∃ x y z, σ' = [some (.ref a), some (nV k), some (nV n), some (nV r), some (.int ((penQ m.s r : Int) + (((resL m k n).take j).map (curT m k r)).sum)), x, some (.ref (L.kl (1 - k))), some (.int (Kp429.place (Kp429.rowOf m.p k n) r)), y, some (.int (((resL m k n).take j).map (sloT m k n r)).sum), z] ∧ Ex H2 H')
    ⟨_, _, _, by rw [show (((resL m k n).take 0).map (curT m k r)).sum = 0 from rfl, Int.add_zero]; rfl, Ex.refl _⟩ (fun j σ' H' _ ⟨_, _, _, _, e3⟩ => sq_ (e3 _ _ g1)) ?_ ?_
  · rintro j w σ' H3 hw ⟨x, y, z, rfl, e3⟩
    have hj : j < (resL m k n).length := by
      have := (List.getElem?_eq_some_iff.mp hw).1
      rw [List.length_map, ge.1] at this
      exact this
    obtain ⟨t, t1, t2, t3⟩ := ge.at (List.getElem?_eq_getElem hj)
    rw [t2] at hw
    cases hw
    have hmem := List.getElem_mem hj
    generalize hxr : (resL m k n)[j] = xr at t3 hmem
    have hm3 := hm2.ex e3
    have ho : xr.1 < Kp429.sizeOf m.s (1 - k) := by
      obtain ⟨y, hy, rfl⟩ := in_map hmem
      have := (obs_ge hy).2.1
      rw [line_len hm.ok hk hn] at this
      show y.1 < _
      omega
    have hwb := wt_bd hm.ok k r xr.1
    obtain ⟨po, _, po2, po3⟩ := hm3.row h1k ho
    have hb := rowOf_bd hm.ok k n r
    have hrl := (row_mem hm.ok h1k ho).1
    refine g2 (stq (e3 _ _ t3)) (q_set (v := .int (wt m k r xr.1)) (v_if (b := decide (r = 0)) (a_test (vt (by rw [deq]) (v_eqI (i := (r : Int)) (j := ((0 : Nat) : Int)) (vv rfl) vc))) (fun hz => ?_) (fun hz => ?_)) ?_)
    · have hz : r = 0 := of_decide_eq_true hz
      refine vt ?_ vc
      unfold wt
      rw [if_pos hz]
    · have hz : ¬ r = 0 := of_decide_eq_false hz
      refine vt ?_ (v_ixL (v_ixL (vv rfl) (vv rfl) (sq_ (hm3.klist h1k).1) (atI_nat po2)) (vv rfl) (sq_ po3) (atI_nat (place_get (by omega))))
      unfold wt
      rw [if_neg hz]
    · refine q_aug rfl (v_iC (vv rfl) (vv rfl) (.inl (b64n hwb (by decide)))) (s_aug rfl (v_iC (vv rfl) (v_i0 (vv rfl) (v_iC (vv rfl) (vv rfl) (.inl (b64n hwb (by decide))))) (.inl (b64n hwb (by decide)))) ?_)
      have eg : (resL m k n)[j]? = some xr := by rw [List.getElem?_eq_getElem hj, hxr]
      rw [sum_take_succ (curT m k r) eg, sum_take_succ (sloT m k n r) eg, ← Int.add_assoc]
      exact ⟨_, _, _, rfl, e3⟩
  · rintro σ' H3 ⟨x, y, z, rfl, e3⟩
    rw [List.length_map, ge.1, List.take_length]
    have eq : quadM m k n r = ⟨(penQ m.s r : Int) + ((resL m k n).map (curT m k r)).sum, ((resL m k n).map (sloT m k n r)).sum⟩ := by
      rw [quad_is m hk, Int.add_comm]
    refine s_retK (c_make (va1 (vv rfl) (va1 (vv rfl) va0)) fun x dx hx hdx ndx => ⟨x, dx, quadM m k n r, by rw [eq]; rfl, upd_same, fun H4 e4 hq => ⟨rfl, q x H4 ?_ ?_ hq⟩⟩)
    · refine ((e1.trans e2).trans e3).trans fun b o hb => e4 b o ?_ (ne_of_none hb hx)
      rw [upd_ne (ne_of_none hb hx), upd_ne (ne_of_none hb hdx)]
      exact hb
    · exact fresh ((e1.trans e2).trans e3) hx
end

theorem cal_factor_product {P : Program} {w : World} {mg : Str → Option Value} {base : Heap} {c : Cs} (T : Tx c mg) (D : DefF c.K mg "factor_product" s_factor_product ["row", "other"]) : C8.Cal P w c.K mg base 1 "factor_product" (sp_factor_product c) [] := by
  obtain ⟨f, fd, D, b⟩ := D.ex
  exact C8.cal0 D b .nil sc_factor_product (fun vs H Q E h => by
    obtain ⟨a, b, x, y, e, _⟩ := h
    rw [e]
    rfl) (fun cdv A outer s H vs Q E hr h => ⟨_, d_factor_product T hr, p_factor_product T h⟩)
theorem cal_error_part {P : Program} {w : World} {mg : Str → Option Value} {base : Heap} {c : Cs} (T : Tx c mg) (D : DefF c.K mg "error_part" s_error_part ["model"]) (c_residuals_of : C8.Met P w c.K mg base 3 c.M "residuals_of" (sp_residuals_of c) []) : C8.Cal P w c.K mg base 4 "error_part" (sp_error_part c) [] := by
  obtain ⟨f, fd, D, b⟩ := D.ex
  exact C8.cal0 D b .nil sc_error_part (fun vs H Q E h => by
    obtain ⟨a, L, m, e, _⟩ := h
    rw [e]
    rfl) (fun cdv A outer s H vs Q E hr h => ⟨_, d_error_part T c_residuals_of hr, p_error_part T h⟩)
theorem cal_penalty_part {P : Program} {w : World} {mg : Str → Option Value} {base : Heap} {c : Cs} (T : Tx c mg) (D : DefF c.K mg "penalty_part" s_penalty_part ["model"]) (c_penalty : C8.Met P w c.K mg base 1 c.S "penalty" (sp_penalty c) []) : C8.Cal P w c.K mg base 2 "penalty_part" (sp_penalty_part c) [] := by
  obtain ⟨f, fd, D, b⟩ := D.ex
  exact C8.cal0 D b .nil sc_penalty_part (fun vs H Q E h => by
    obtain ⟨a, L, m, e, _⟩ := h
    rw [e]
    rfl) (fun cdv A outer s H vs Q E hr h => ⟨_, d_penalty_part T c_penalty hr, p_penalty_part T h⟩)
theorem cal_whole_objective {P : Program} {w : World} {mg : Str → Option Value} {base : Heap} {c : Cs} (T : Tx c mg) (D : DefF c.K mg "whole_objective" s_whole_objective ["model"]) (c_error_part : C8.Cal P w c.K mg base 4 "error_part" (sp_error_part c) []) (c_penalty_part : C8.Cal P w c.K mg base 2 "penalty_part" (sp_penalty_part c) []) : C8.Cal P w c.K mg base 5 "whole_objective" (sp_whole_objective c) [] := by
  obtain ⟨f, fd, D, b⟩ := D.ex
  exact C8.cal0 D b .nil sc_whole_objective (fun vs H Q E h => by
    obtain ⟨a, L, m, e, _⟩ := h
    rw [e]
    rfl) (fun cdv A outer s H vs Q E hr h => ⟨_, d_whole_objective T c_error_part c_penalty_part hr, p_whole_objective T h⟩)
theorem cal_mean_error {P : Program} {w : World} {mg : Str → Option Value} {base : Heap} {c : Cs} (T : Tx c mg) (D : DefF c.K mg "mean_error" s_mean_error ["model"]) (c_all_ratings : C8.Met P w c.K mg base 2 c.M "all_ratings" (sp_all_ratings c) []) (c_error_part : C8.Cal P w c.K mg base 4 "error_part" (sp_error_part c) []) (c_lowest_terms : C8.Cal P w c.K mg base 1 "lowest_terms" (sp_lowest_terms c) []) : C8.Cal P w c.K mg base 5 "mean_error" (sp_mean_error c) [] := by
  obtain ⟨f, fd, D, b⟩ := D.ex
  exact C8.cal0 D b .nil sc_mean_error (fun vs H Q E h => by
    obtain ⟨a, L, m, e, _⟩ := h
    rw [e]
    rfl) (fun cdv A outer s H vs Q E hr h => ⟨_, d_mean_error T c_all_ratings c_error_part c_lowest_terms hr, p_mean_error T h⟩)
theorem cal_quadratic_of {P : Program} {w : World} {mg : Str → Option Value} {base : Heap} {c : Cs} (T : Tx c mg) (D : DefF c.K mg "quadratic_of" s_quadratic_of ["model", "kind", "number", "place"]) (c_Quadratic_init : C8.Mak P w c.K mg base 1 "Quadratic" c.Q (sp_Quadratic_init c) []) (c_penalty : C8.Met P w c.K mg base 1 c.S "penalty" (sp_penalty c) []) (c_residuals_of : C8.Met P w c.K mg base 3 c.M "residuals_of" (sp_residuals_of c) []) : C8.Cal P w c.K mg base 4 "quadratic_of" (sp_quadratic_of c) [] := by
  obtain ⟨f, fd, D, b⟩ := D.ex
  exact C8.cal0 D b .nil sc_quadratic_of (fun vs H Q E h => by
    obtain ⟨a, k, n, q, L, m, e, _⟩ := h
    rw [e]
    rfl) (fun cdv A outer s H vs Q E hr h => ⟨_, d_quadratic_of T c_Quadratic_init c_penalty c_residuals_of hr, p_quadratic_of T h⟩)

end Lk
set_option Elab.async false
set_option maxRecDepth 100000
set_option maxHeartbeats 5000000
set_option linter.all false
namespace Lk
open PySem PySem.Spec PyProof.Rows L2
open Evl (Ex)
section
variable {σ : L2.St} {H : Hp} {D : Ends} {te : TE} {tz t1 : TS} {i j : Int} {Q : VK}
theorem q_whenK (h : te σ H fun x H1 => ∃ b, x = .bl b ∧ (b = true → t1 { D with nx := tz D } σ H1) ∧ (b = false → tz D σ H1)) : tSeq (tIfS (tTest te) t1 tNext) tz D σ H := by
  have e : (fun x H1 => ∃ b, x = V.bl b ∧ (b = true → t1 { D with nx := tz D } σ H1) ∧ (b = false → tz D σ H1)) = fun x H1 => ∃ b, x = V.bl b ∧ (if b = true then t1 { D with nx := tz D } σ H1 else tz D σ H1) := by
    funext x H1
    refine propext ⟨fun ⟨b, h0, h1, h2⟩ => ⟨b, h0, ?_⟩, fun ⟨b, h0, h1⟩ => ⟨b, h0, fun hb => ?_, fun hb => ?_⟩⟩
    · cases b with
      | true => exact iteT (h1 rfl)
      | false => exact iteF (h2 rfl)
    · rw [if_pos hb] at h1
      exact h1
    · subst hb
      exact h1
  rw [e] at h
  exact h
theorem s_whenK (h : te σ H fun x H1 => ∃ b, x = .bl b ∧ (b = true → t1 D σ H1) ∧ (b = false → D.nx σ H1)) : tIfS (tTest te) t1 tNext D σ H := q_whenK (tz := fun D => D.nx) h
theorem eqI_k (q : Q (.bl (decide (i = j))) H) : rEq (.int i) (.int j) H Q := (v_eqI (ta := tC (.int i)) (tb := tC (.int j)) (σ := []) val_c val_c) Q q
theorem neI_k (q : Q (.bl (!decide (i = j))) H) : rNe (.int i) (.int j) H Q := (v_neI (ta := tC (.int i)) (tb := tC (.int j)) (σ := []) val_c val_c) Q q
theorem max_k (q : Q (.int (max i j)) H) : Evl.rMax2 [.int i, .int j] H Q := (v_max (ta := tC (.int i)) (tb := tC (.int j)) (σ := []) val_c val_c) Q q
theorem min_k (q : Q (.int (min i j)) H) : rMin2 [.int i, .int j] H Q := (v_min (ta := tC (.int i)) (tb := tC (.int j)) (σ := []) val_c val_c) Q q
end
section
variable {c : Cs} {mg : Str → Option Value} {σ : L2.St} {H H' : Hp} {a p : Addr} {L : Lay} {m : Ms} {k n r : Nat} {v : Int} {te : TE}
theorem ks_own (L : Lay) (hk : k ≤ 1) : ∀ q ∈ L.ks k, q ∈ L.ur ++ L.ir := fun q hq => by
  rcases k01 hk with rfl | rfl
  · exact List.mem_append.2 (.inl hq)
  · exact List.mem_append.mpr (.inr hq)
/-- a parameter is set, in its row -/
theorem MdAt.putP (h : MdAt c H a L m) (hk : k ≤ 1) (hn : n < Kp429.sizeOf m.s k) (hp : (L.ks k)[n]? = some p) (hx : H p = some (rowI (Kp429.rowOf m.p k n))) (hb : Bd v) : MdAt c (upd H p (rowI ((Kp429.rowOf m.p k n).set r v))) a L (m.put k n r v) := by
  obtain ⟨n1, n2, n3⟩ := h.neRo
  obtain ⟨dx, ob⟩ := h.ob
  have nd := List.nodup_append.mp h.nd
  have nd2 := List.nodup_append.mp nd.2.1
  have hmem := List.mem_of_getElem? hp
  have hpo := ks_own L hk p hmem
  have hne : Kp429.rowOf m.p k n ≠ [] := fun z => by
    have := (row_mem h.ok hk hn).1
    rw [z] at this
    cases this
  have kp : ∀ q o, H q = some o → q ≠ p → upd H p (rowI ((Kp429.rowOf m.p k n).set r v)) q = some o := fun q o hq nq => by rw [upd_ne nq]; exact hq
  have prr : p ∉ L.rr := fun z => nd.2.2 p z p hpo rfl
  have skU : k = 1 → p ∉ L.ur := fun e z => by
    subst e
    exact nd2.2.2 p z p hmem rfl
  have skI : k = 0 → p ∉ L.ir := fun e z => by
    subst e
    exact nd2.2.2 p hmem p z rfl
  refine ⟨put_ok h.ok hk hn hb, ⟨dx, ?_⟩, h.st.keep kp hx fun pts he z => ?_, kp _ _ h.ro (Ne.symm (n1 p (List.mem_append_right _ hpo))), h.rr.skip prr, ⟨kp _ _ h.rw.rt (tup_ne h.rw.rt hx), kp _ _ h.rw.ul (Ne.symm (row_ne hx h.rw.ul hne)), kp _ _ h.rw.il (Ne.symm (row_ne hx h.rw.il hne)), ?_, ?_⟩, h.nd⟩
  · have e : (m.put k n r v).p.base = m.p.base := setRow_base _ _ _ _
    rw [e]
    exact kp _ _ ob (ins_lst ob hx).symm
  · cases hr : Kp429.rowOf m.p k n with
    | nil => exact hne hr
    | cons x l =>
      rw [hr] at z
      cases pts with
      | nil => cases z
      | cons q qs => cases z
  · rcases k01 hk with rfl | rfl
    · exact h.rw.ur.put nd2.1 hp
    · exact h.rw.ur.skip (skU rfl)
  · rcases k01 hk with rfl | rfl
    · exact h.rw.ir.skip (skI rfl)
    · exact h.rw.ir.put nd2.2.1 hp
theorem MdAt.updP (h : MdAt c H a L m) (hk : k ≤ 1) (hn : n < Kp429.sizeOf m.s k) (hp : (L.ks k)[n]? = some p) (hx : H p = some (rowI (Kp429.rowOf m.p k n))) (hb : Bd v) : Upd c H (upd H p (rowI ((Kp429.rowOf m.p k n).set r v))) a L L (m.put k n r v) :=
  ⟨h.putP hk hn hp hx hb, fun b o hb nb => by
    rw [upd_ne fun z => nb (by rw [z]; exact List.mem_cons_of_mem _ (List.mem_cons_of_mem _ (List.mem_append_right _ (ks_own L hk p (List.mem_of_getElem? hp)))))]
    exact hb, fun b hb => .inl hb⟩
/-- the ordered parameters stand while the model changes -/
theorem MdAt.pars (T : Tx c mg) (h : MdAt c H a L m) (ho : Val te σ H (.ref a)) : ∃ pl pts, Val (tFld c.K (tFld c.K te "settings") "parameters") σ H (.ref pl) ∧ pts.length = (Kp429.coordinates m.s).length ∧ ∀ H', Chg (L.own a) H H' → H' pl = some (.lst (pts.map V.ref)) ∧ Each H' coT pts (Kp429.coordinates m.s) := by
  obtain ⟨pl, pts, v1, h3, h4⟩ := v_pars T h.st (v_settings T h ho)
  obtain ⟨dx, ob⟩ := h.ob
  obtain ⟨x, l, hx⟩ := coords_ne h.ok.s
  have hp0 : ∃ q, pts[0]? = some q ∧ H q = some (coT x) := h4.2 0 x (by rw [hx] <;> rfl)
  obtain ⟨q0, q1, q2⟩ := hp0
  have pne : pts ≠ [] := fun z => by
    rw [z] at q1
    cases q1
  have refs : ∀ r : List V, (∀ y ∈ r, ∀ b, y ≠ .ref b) → r ≠ pts.map V.ref := fun r hr z => by
    have m0 : V.ref q0 ∈ pts.map V.ref := List.mem_map.mpr ⟨q0, List.mem_of_getElem? q1, rfl⟩
    rw [← z] at m0
    exact hr _ m0 q0 rfl
  have out : ∀ q o, H q = some o → (∀ r : List V, o = .lst r → r = pts.map V.ref) → (∀ C dx fs, o ≠ .ins C dx fs) → q ∉ L.own a := fun q o hq hl hi hm => by
    rcases in_cons hm with e | hm
    · rw [e, ob] at hq
      exact hi _ _ _ (Option.some.inj hq).symm
    rcases in_cons hm with e | hm
    · rw [e, h.ro] at hq
      have e2 := refs_inj (hl _ (Option.some.inj hq).symm)
      rw [← e2] at q1
      obtain ⟨r', _, hr'⟩ := h.rr.mem (List.mem_of_getElem? q1)
      rw [hr'] at q2
      cases q2
    rcases in_app hm with hm | hm
    · obtain ⟨r', _, hr'⟩ := h.rr.mem hm
      rw [hr'] at hq
      refine refs (r'.map nV) (fun y hy b z => ?_) (hl _ (Option.some.inj hq).symm)
      obtain ⟨w, _, rfl⟩ := in_map hy
      cases z
    · have : ∃ r' : List Int, H q = some (rowI r') := by
        rcases in_app hm with hm | hm
        · obtain ⟨r', _, hr'⟩ := h.rw.ur.mem hm
          exact ⟨r', hr'⟩
        · obtain ⟨r', _, hr'⟩ := h.rw.ir.mem hm
          exact ⟨r', hr'⟩
      obtain ⟨r', hr'⟩ := this
      rw [hr'] at hq
      refine refs (r'.map V.int) (fun y hy b z => ?_) (hl _ (Option.some.inj hq).symm)
      obtain ⟨w, _, rfl⟩ := in_map hy
      cases z
  refine ⟨pl, pts, v1, h4.1, fun H' ch => ⟨ch _ _ h3 (out _ _ h3 (fun r e => (HO.lst.inj e).symm) (fun _ _ _ e => by cases e)), h4.1, fun j y hy => ?_⟩⟩
  obtain ⟨b, b1, b2⟩ := h4.2 j y hy
  exact ⟨b, b1, ch _ _ b2 (out _ _ b2 (fun r e => by cases e) (fun _ _ _ e => by cases e))⟩
theorem refs_of {xs : List V} {ps : List Addr} (hx : ∀ y ∈ xs, ∀ q, y ≠ .ref q) (hp : ps ≠ []) : xs ≠ ps.map V.ref := fun z => by
  cases ps with
  | nil => exact hp rfl
  | cons q ps => exact hx (.ref q) (by rw [z]; exact List.mem_cons_self ..) q rfl
theorem Each.ne {α : Type} {F : α → HO} {ps : List Addr} {xs : List α} (h : Each H F ps xs) (hl : 0 < xs.length) : ps ≠ [] := fun z => by
  have := h.1
  rw [z] at this
  simp at this
  omega
/-- a list beside the model changes -/
theorem MdAt.keepI {xs : List V} {o : HO} (h : MdAt c H a L m) (hp : H p = some (.lst xs)) (hx : ∀ y ∈ xs, ∀ q, y ≠ .ref q) (np : p ∉ L.own a) : MdAt c (upd H p o) a L m := by
  obtain ⟨dx, ob⟩ := h.ob
  have kp : ∀ q o', H q = some o' → q ≠ p → upd H p o q = some o' := fun q o' hq nq => by rw [upd_ne nq]; exact hq
  have own : ∀ q ∈ L.own a, q ≠ p := fun q hq z => np (by rw [← z]; exact hq)
  have li : ∀ q (ps : List Addr), H q = some (.lst (ps.map V.ref)) → ps ≠ [] → q ≠ p := fun q ps hq hps z => by
    rw [z, hp] at hq
    exact refs_of hx hps (HO.lst.inj (Option.some.inj hq))
  have rows : ∀ q ∈ L.rr ++ (L.ur ++ L.ir), q ≠ p := fun q hq => own q (List.mem_cons_of_mem _ (List.mem_cons_of_mem _ hq))
  have eu : 0 < m.p.users.length := by rw [h.ok.us.len]; exact h.ok.s.u1
  have ei : 0 < m.p.items.length := by rw [h.ok.it.len]; exact h.ok.s.i1
  refine ⟨h.ok, ⟨dx, kp _ _ ob (own _ (List.mem_cons_self ..))⟩, h.st.keep kp hp fun pts he z => ?_, kp _ _ h.ro (own _ (List.mem_cons_of_mem _ (List.mem_cons_self ..))), ⟨h.rr.1, fun j x hj => ?_⟩, ⟨kp _ _ h.rw.rt (tup_ne h.rw.rt hp), kp _ _ h.rw.ul (li _ _ h.rw.ul (h.rw.ur.ne eu)), kp _ _ h.rw.il (li _ _ h.rw.il (h.rw.ir.ne ei)), ⟨h.rw.ur.1, fun j x hj => ?_⟩, ⟨h.rw.ir.1, fun j x hj => ?_⟩⟩, h.nd⟩
  · obtain ⟨x, l, e⟩ := coords_ne h.ok.s
    exact refs_of hx (he.ne (by rw [e]; exact Nat.succ_pos _)) z
  · obtain ⟨q, q1, q2⟩ := h.rr.2 j x hj
    exact ⟨q, q1, kp _ _ q2 (rows q (List.mem_append_left _ (List.mem_of_getElem? q1)))⟩
  · obtain ⟨q, q1, q2⟩ := h.rw.ur.2 j x hj
    exact ⟨q, q1, kp _ _ q2 (rows q (List.mem_append_right _ (List.mem_append_left _ (List.mem_of_getElem? q1))))⟩
  · obtain ⟨q, q1, q2⟩ := h.rw.ir.2 j x hj
    exact ⟨q, q1, kp _ _ q2 (rows q (List.mem_append_right _ (List.mem_append_right _ (List.mem_of_getElem? q1))))⟩
theorem ints_ne {xs : List Int} : ∀ y ∈ xs.map V.int, ∀ q, y ≠ .ref q := fun y hy q z => by
  obtain ⟨w, _, rfl⟩ := in_map hy
  cases z
/-- every address of the model's stands -/
theorem MdAt.own_some (h : MdAt c H a L m) : ∀ t, H t = none → t ∉ L.own a := fun t ht z => by
  have nn : H t ≠ none := by
    rcases in_cons z with e | z
    · obtain ⟨dx, ob⟩ := h.ob
      rw [e, ob]
      intro z
      cases z
    rcases in_cons z with e | z
    · rw [e, h.ro]
      intro z
      cases z
    rcases in_app z with z | z
    · exact h.rr.there z
    rcases in_app z with z | z
    · exact h.rw.ur.there z
    · exact h.rw.ir.there z
  exact nn ht
end

def sp_stepped_value (c : Cs) : Sp := fun vs H Q _ => ∃ (a : Addr) (k n q : Nat) (L : Lay) (m : Ms), vs = [.ref a, nV k, nV n, nV q] ∧ MdAt c H a L m ∧ k ≤ 1 ∧ n < Kp429.sizeOf m.s k ∧ q ≤ m.s.factors ∧ RV (.int (stepV m k n q)) H Q
def sp_step (c : Cs) : Sp := fun vs H Q _ => ∃ (a : Addr) (k n q : Nat) (L : Lay) (m : Ms), vs = [.ref a, nV k, nV n, nV q] ∧ MdAt c H a L m ∧ k ≤ 1 ∧ n < Kp429.sizeOf m.s k ∧ q ≤ m.s.factors ∧ ∀ H2, Upd c H H2 a L L (m.step k n q) → Q (nV (chgV m k n q)) H2
def sp_sweep (c : Cs) : Sp := fun vs H Q _ => ∃ (a : Addr) (L : Lay) (m : Ms), vs = [.ref a] ∧ MdAt c H a L m ∧ ∀ H2, Upd c H H2 a L L m.sweep → Q (nV (Kp429.changes m.s m.p m.sweep.p)) H2
def sp_train (c : Cs) : Sp := fun vs H Q _ => ∃ (a : Addr) (n : Nat) (L : Lay) (m : Ms), vs = [.ref a, nV n] ∧ MdAt c H a L m ∧ n ≤ 100 ∧ ∀ p H2, H p = none → Upd c H H2 a L L (m.train n) → H2 p = some (.lst ((trainA m n).map V.int)) → p ∉ L.own a → Q (.ref p) H2
def sp_coming_objectives (c : Cs) : Sp := fun vs H Q _ => ∃ (a : Addr) (n : Nat) (L : Lay) (m : Ms), vs = [.ref a, nV n] ∧ MdAt c H a L m ∧ n ≤ 20 ∧ RL ((curveA m n).map V.int) H Q
def sp_first_improvable (c : Cs) : Sp := fun vs H Q _ => ∃ (a : Addr) (L : Lay) (m : Ms), vs = [.ref a] ∧ MdAt c H a L m ∧ RL ((firstA m).map V.int) H Q

section
variable {c : Cs} {mg : Str → Option Value} {vs : List V} {H : Hp} {Q : VK} {E : XK}
theorem p_stepped_value (T : Tx c mg) (h : sp_stepped_value c vs H Q E) : t_stepped_value c (sp_height c) (sp_highest c) (sp_lowest c) (sp_nearest c) (sp_quadratic_of c) (Dq Q) (start n_stepped_value vs) H := by
  obtain ⟨a, k, n, r, L, m, rfl, hm, hk, hn, hr, q⟩ := h
  have hb := rowOf_bd hm.ok k n r
  refine q_set (v_cell T hm hk hn hr (vv rfl) (vv rfl) (vv rfl) (vv rfl)) ?_
  refine q_asgK (c_call (va1 (vv rfl) (va1 (vv rfl) (va1 (vv rfl) (va1 (vv rfl) va0)))) ⟨a, k, n, r, L, m, rfl, hm, hk, hn, hr, fun p H1 e1 hp hq => ?_⟩)
  have hm1 := hm.ex e1
  have qb := quad_bd hm.ok hk hn r
  refine q_when (a_test (v_eqI (v_curv T hq (vv rfl)) vc)) (fun hz => ?_) (fun hz => ?_)
  · have hz : (quadM m k n r).curvature = 0 := of_decide_eq_true hz
    refine s_ret (vv rfl) ?_
    have e : stepV m k n r = Kp429.place (Kp429.rowOf m.p k n) r := by
      unfold stepV Kp429.bestValue
      rw [if_pos hz]
    rw [e] at q
    exact q.at e1
  · have hz : (quadM m k n r).curvature ≠ 0 := of_decide_eq_false hz
    refine q_set (v_settings T hm1 (vv rfl)) ?_
    refine q_asgK (cb_k (cons_k (c_lowest hm1.st (vv rfl) (va1 (vv rfl) va0) ⟨L.st, r, m.s, rfl, hm1.st, fun H2 e2 => cons_k (cb_k (cons_k (c_highest (hm1.ex e2).st (vv rfl) (va1 (vv rfl) va0) ⟨L.st, r, m.s, rfl, (hm1.ex e2).st, fun H3 e3 => ?_⟩)))⟩)))
    have hq3 := (hq.ex e2).ex e3
    obtain ⟨dq, oq⟩ := hq3
    refine cons_k (c_meth (vv rfl) oq lk_Q_nearest va0 ⟨p, quadM m k n r, rfl, ⟨dq, oq⟩, by omega, qb.2, fun H4 e4 => va0 _ (min_k (va0 _ (max_k ?_)))⟩)
    have hq4 := (show QdAt c H3 p (quadM m k n r) from ⟨dq, oq⟩).ex e4
    obtain ⟨dq4, oq4⟩ := hq4
    have hcb := clamp_bd hm.ok.s r (Kp429.nearest (quadM m k n r).slope (quadM m k n r).curvature)
    have e04 : Ex H H4 := ((e1.trans e2).trans e3).trans e4
    have es : stepV m k n r = if Kp429.costOf (quadM m k n r) (Kp429.place (Kp429.rowOf m.p k n) r) ≤ Kp429.costOf (quadM m k n r) (max (Kp429.lowest m.s r) (min (Kp429.highest m.s r) (Kp429.nearest (quadM m k n r).slope (quadM m k n r).curvature))) then Kp429.place (Kp429.rowOf m.p k n) r else max (Kp429.lowest m.s r) (min (Kp429.highest m.s r) (Kp429.nearest (quadM m k n r).slope (quadM m k n r).curvature)) := by
      unfold stepV Kp429.bestValue
      rw [if_neg hz]
      rfl
    rw [es] at q
    refine q_whenK (op_1 (c_meth (vv rfl) oq4 lk_Q_height (va1 (vv rfl) va0) ⟨p, quadM m k n r, _, rfl, ⟨dq4, oq4⟩, hcb, fun H5 e5 => c_meth (vv rfl) (e5 _ _ oq4) lk_Q_height (va1 (vv rfl) va0) ⟨p, quadM m k n r, _, rfl, ⟨dq4, e5 _ _ oq4⟩, hb, fun H6 e6 => ⟨_, _, rfl, rfl, ⟨_, rfl, fun hd => ?_, fun hd => ?_⟩⟩⟩⟩))
    · have hd := of_decide_eq_true hd
      rw [if_neg (by omega)] at q
      exact s_ret (vv rfl) (q.at ((e04.trans e5).trans e6))
    · have hd := of_decide_eq_false hd
      rw [if_pos (by omega)] at q
      exact s_ret (vv rfl) (q.at ((e04.trans e5).trans e6))
theorem p_step (T : Tx c mg) (h : sp_step c vs H Q E) : t_step c (sp_stepped_value c) (Dq Q) (start n_step vs) H := by
  obtain ⟨a, k, n, r, L, m, rfl, hm, hk, hn, hr, q⟩ := h
  obtain ⟨p, p1, p2, p3⟩ := hm.row hk hn
  have hrl := (row_mem hm.ok hk hn).1
  have hc : Crd m.s k n r := ⟨hk, hn, hr⟩
  refine q_set (v_rowp T hm hk p2 (vv rfl) (vv rfl) (vv rfl)) (q_asgK (c_call (va1 (vv rfl) (va1 (vv rfl) (va1 (vv rfl) (va1 (vv rfl) va0)))) ⟨a, k, n, r, L, m, rfl, hm, hk, hn, hr, fun H1 e1 => ?_⟩))
  have hm1 := hm.ex e1
  refine q_when (a_test (v_eqI (vv rfl) (v_ixL (vv rfl) (vv rfl) (sq_ (e1 _ _ p3)) (atI_nat (place_get (by omega)))))) (fun hz => ?_) (fun hz => ?_)
  · have hz := of_decide_eq_true hz
    have e0 : chgV m k n r = 0 := (chg_zero hm.ok hc).mpr hz
    rw [e0, step_same hm.ok hc hz] at q
    exact s_ret vc (q H1 (Upd.same hm e1))
  · have hz := of_decide_eq_false hz
    have e0 : chgV m k n r = 1 := by
      unfold chgV
      rw [if_neg hz]
    rw [e0, step_is] at q
    refine q_asgG (v_k (vv rfl) (sub_k (vv rfl) (vv rfl) (e1 _ _ p3) (by rw [List.length_map]; omega) ?_))
    refine s_ret vc (q _ ?_)
    have u := (hm1.updP hk hn p1 (e1 _ _ p3) (r := r) (stepV_bd hm.ok k n r))
    have e2 : ((Kp429.rowOf m.p k n).map V.int).set r (.int (stepV m k n r)) = ((Kp429.rowOf m.p k n).set r (stepV m k n r)).map V.int := by rw [List.map_set]
    rw [e2]
    exact (Upd.same hm e1).trans u
theorem p_sweep (T : Tx c mg) (h : sp_sweep c vs H Q E) : t_sweep c (sp_step c) (Dq Q) (start n_sweep vs) H := by
  obtain ⟨a, L, m, rfl, hm, q⟩ := h
  obtain ⟨pl, pts, v1, hlen, hk⟩ := hm.pars T (te := tVar 0) (σ := (start n_sweep [.ref a]).set 1 (some (.int 0))) (vv rfl)
  obtain ⟨h3, _⟩ := hk H fun _ _ x _ => x
  refine q_set vc (q_list v1 (sq_ h3) (fun i σ' H' => ∃ x y z, σ' = [some (.ref a), some (nV (cnt ((Kp429.coordinates m.s).take i) m)), x, y, z] ∧ Upd c H H' a L L (m.walk ((Kp429.coordinates m.s).take i))) ⟨_, _, _, rfl, Upd.same hm (Ex.refl H)⟩ (fun i σ' H' _ ⟨_, _, _, _, u⟩ => sq_ (hk H' u.chg).1) ?_ ?_)
  · rintro i w σ' H' hw ⟨x, y, z, rfl, u⟩
    have hi : i < (Kp429.coordinates m.s).length := by
      have := (List.getElem?_eq_some_iff.mp hw).1
      rw [List.length_map, hlen] at this
      exact this
    obtain ⟨t, t1, t2, t3⟩ := (hk H' u.chg).2.at (List.getElem?_eq_getElem hi)
    rw [t2] at hw
    cases hw
    have cr := crds m.s _ (List.getElem_mem hi)
    generalize hco : (Kp429.coordinates m.s)[i] = co at t3 cr
    have es := (walk_s ((Kp429.coordinates m.s).take i) m).1
    have et : (Kp429.coordinates m.s).take (i + 1) = (Kp429.coordinates m.s).take i ++ [co] := by
      rw [List.take_add_one, List.getElem?_eq_getElem hi, hco]
      rfl
    refine g3 (stq t3) (s_augK rfl (c_call (va1 (vv rfl) (va1 (vv rfl) (va1 (vv rfl) (va1 (vv rfl) va0)))) ⟨a, co.kind, co.id, co.place, L, _, rfl, u.md, cr.kle, by rw [es]; exact cr.nlt, by rw [es]; exact cr.qle, fun H2 u2 => ⟨_, rfl, ?_⟩⟩))
    rw [et, cnt_snoc, walk_snoc]
    exact ⟨_, _, _, rfl, u.trans u2⟩
  · rintro σ' H' ⟨x, y, z, rfl, u⟩
    rw [List.length_map, hlen, List.take_length] at u ⊢
    rw [← sweep_walk] at u
    refine s_ret (vv rfl) ?_
    rw [← changes_is hm.ok]
    exact q H' u
theorem p_train (T : Tx c mg) (h : sp_train c vs H Q E) : t_train c (sp_sweep c) (Dq Q) (start n_train vs) H := by
  obtain ⟨a, n, L, m, rfl, hm, hn, q⟩ := h
  refine q_set vc (q_while (fun w σ' H' => ∃ r p, w = n - r ∧ r ≤ n ∧ σ' = [some (.ref a), some (nV n), some (nV r)] ∧ Upd c H H' a L L { m with p := p } ∧ Kp429.train m.mod (n - r) p r = Kp429.train m.mod n m.p 0) n ⟨0, m.p, rfl, Nat.zero_le _, rfl, Upd.same hm (Ex.refl H), rfl⟩ ?_)
  rintro w σ' H' ⟨r, p, rfl, hr, rfl, u, ht⟩
  have fin : ∀ (b : Nat) (H2 : Hp) (r' : Nat) (p' : Kp429.Parameters), Upd c H H2 a L L { m with p := p' } → Kp429.train m.mod n m.p 0 = (p', r', decide (b = 1)) → (b = 0 ∨ b = 1) → ∀ t, H2 t = none → Q (.ref t) (upd H2 t (.lst [nV r', .int (b : Int)])) := fun b H2 r' p' u e hb t ht => by
    have no := u.md.own_some t ht
    have f0 : H t = none := by
      cases z : H t with
      | none => rfl
      | some o =>
        have := u.chg t o z no
        rw [ht] at this
        cases this
    refine q t _ f0 ?_ ?_ no
    · have em : m.train n = { m with p := p' } := by
        unfold Ms.train
        rw [e]
      rw [em]
      exact u.ex (exn ht)
    · rw [upd_same]
      unfold trainA
      rw [e]
      rcases hb with rfl | rfl
      · rfl
      · rfl
  refine ⟨decide (r < n), a_test (vt (by rw [dlt]) (v_i0 (vv rfl) (vv rfl))), fun hb => ?_, fun hb => ?_⟩
  · have hlt : r < n := of_decide_eq_true hb
    have ok := u.md.ok
    refine q_aug rfl vc (s_whenK (op_1 (c_call (va1 (vv rfl) va0) ⟨a, L, _, rfl, u.md, fun H2 u2 => v_k vc (eqI_k ⟨_, rfl, fun hd => ?_, fun hd => ?_⟩)⟩)))
    · have hd := of_decide_eq_true hd
      have hz := (changes_zero ok).mp (by omega)
      have hz2 : Kp429.sweep m.mod p = p := hz
      have e2 : n - r = (n - r - 1) + 1 := by omega
      rw [e2, train_stop hz2] at ht
      refine s_retK (c_lst (va1 (vv rfl) (va1 vc va0)) (by show 2 ≤ 100000; decide) fun t htn => ?_)
      have es : ({ m with p := p } : Ms).sweep = { m with p := p } := ms_eq rfl rfl hz2
      rw [es] at u2
      exact fin 1 H2 (r + 1) p (u.trans u2) ht.symm (.inr rfl) t htn
    · have hd := of_decide_eq_false hd
      have hz : Kp429.sweep m.mod p ≠ p := fun z => hd (by rw [(changes_zero ok).mpr z]; rfl)
      have e2 : n - r = (n - r - 1) + 1 := by omega
      rw [e2, train_go hz] at ht
      exact ⟨n - (r + 1), by omega, r + 1, Kp429.sweep m.mod p, rfl, by omega, rfl, u.trans u2, ht⟩
  · have hge : ¬ r < n := of_decide_eq_false hb
    have e2 : n - r = 0 := by omega
    rw [e2] at ht
    exact s_retK (c_lst (va1 (vv rfl) (va1 vc va0)) (by show 2 ≤ 100000; decide) fun t htn => fin 0 H' r p u ht.symm (.inl rfl) t htn)
theorem p_coming_objectives (T : Tx c mg) (h : sp_coming_objectives c vs H Q E) : t_coming_objectives c (sp_sweep c) (sp_twin c) (sp_whole_objective c) (Dq Q) (start n_coming_objectives vs) H := by
  obtain ⟨a, n, L, m, rfl, hm, hn, q⟩ := h
  refine q_asgK (c_twin hm (vv rfl) va0 ⟨a, L, m, rfl, hm, fun b L2 H1 e1 hm1 hfr _ => ?_⟩)
  refine q_lst va0 (by decide) fun p hp => ?_
  have hm2 := hm1.ex (exn (o := .lst []) hp)
  have np : p ∉ L2.own b := hm1.own_some p hp
  refine q_range1 (n := n) (vv rfl) (by omega) (fun i σ' H' => ∃ z, σ' = [some (.ref a), some (nV n), some (.ref p), z, some (.ref b)] ∧ Ex H H' ∧ MdAt c H' b L2 { m with p := (curveP m i).1 } ∧ H' p = some (.lst ((curveA m i).map V.int))) ⟨_, rfl, e1.trans (exn hp), hm2, upd_same⟩ ?_ ?_
  · rintro i σ' H' hi ⟨z, rfl, e, hm3, h3⟩
    refine q_dropK (c_call (va1 (vv rfl) va0) ⟨b, L2, _, rfl, hm3, fun H2 u2 => ?_⟩)
    have no : ∀ x ∈ L2.own b, H x = none := hfr
    have e2 : Ex H H2 := fun x o hx => u2.chg x o (e x o hx) fun z => by
      rw [no x z] at hx
      cases hx
    have h4 : H2 p = some (.lst ((curveA m i).map V.int)) := u2.chg _ _ h3 np
    refine s_dropK (bm_k (vv rfl) h4 (cons_k (c_call (va1 (vv rfl) va0) ⟨b, L2, _, rfl, u2.md, fun H5 e5 => ?_⟩)))
    have h5 := e5 _ _ h4
    refine ⟨p, _, _, rfl, rfl, h5, Evl.sz_lt (by rw [List.length_map, curve_len]; omega), _, rfl, ?_, ?_, ?_⟩
    · intro x o hx
      rw [upd_ne (ne_of_none hx (fresh e1 hp))]
      exact e5 _ _ (e2 _ _ hx)
    · rw [curve_succ]
      exact (u2.md.ex e5).keepI h5 ints_ne np
    · rw [upd_same]
      unfold curveA
      rw [curve_succ, List.map_append]
      rfl
  · rintro σ' H' ⟨z, rfl, e, hm3, h3⟩
    exact s_ret (vv rfl) (q p H' (fresh e1 hp) e h3)
theorem p_first_improvable (T : Tx c mg) (h : sp_first_improvable c vs H Q E) : t_first_improvable c (sp_stepped_value c) (Dq Q) (start n_first_improvable vs) H := by
  obtain ⟨a, L, m, rfl, hm, q⟩ := h
  obtain ⟨pl, pts, v1, h3, h4⟩ := v_pars T hm.st (v_settings T hm (vv (σ := start n_first_improvable [.ref a]) (n := 0) rfl))
  refine q_list v1 (sq_ h3) (fun i σ' H' => ∃ x y z, σ' = [some (.ref a), x, y, z] ∧ Ex H H' ∧ ((Kp429.coordinates m.s).take i).find? (fun c => Kp429.step1 m.mod m.p c != m.p) = none) ⟨_, _, _, rfl, Ex.refl H, rfl⟩ (fun i σ' H' _ ⟨_, _, _, _, e, _⟩ => sq_ (e _ _ h3)) ?_ ?_
  · rintro i w σ' H' hw ⟨x, y, z, rfl, e, hf⟩
    have hi : i < (Kp429.coordinates m.s).length := by
      have := (List.getElem?_eq_some_iff.mp hw).1
      rw [List.length_map, h4.1] at this
      exact this
    have hco := List.getElem?_eq_getElem hi
    obtain ⟨t, t1, t2, t3⟩ := h4.at hco
    rw [t2] at hw
    cases hw
    have cr := crds m.s _ (List.getElem_mem hi)
    generalize (Kp429.coordinates m.s)[i] = co at t3 cr hco
    have hm2 := hm.ex e
    have im := improvable hm.ok cr
    refine g3 (stq (e _ _ t3)) (s_whenK (op_1 (c_call (va1 (vv rfl) (va1 (vv rfl) (va1 (vv rfl) (va1 (vv rfl) va0)))) ⟨a, co.kind, co.id, co.place, L, m, rfl, hm2, cr.kle, cr.nlt, cr.qle, fun H2 e2 => v_k (v_cell T (hm2.ex e2) cr.kle cr.nlt cr.qle (vv rfl) (vv rfl) (vv rfl) (vv rfl)) (neI_k ⟨_, rfl, fun hd => ?_, fun hd => ?_⟩)⟩)))
    · rw [hd] at im
      have hfi : Kp429.firstImprovable m.mod m.p = some co := find_take hf hco im
      refine s_retK (c_lst (va1 (vv rfl) (va1 (vv rfl) (va1 (vv rfl) va0))) (by show 3 ≤ 100000; decide) fun p hp => ?_)
      have ea : firstA m = [(co.kind : Int), (co.id : Int), (co.place : Int)] := by
        unfold firstA
        rw [hfi]
      rw [ea] at q
      exact q.new (e.trans e2) hp
    · rw [hd] at im
      exact ⟨_, _, _, rfl, e.trans e2, find_take_succ hf hco im⟩
  · rintro σ' H' ⟨x, y, z, rfl, e, hf⟩
    rw [List.length_map, h4.1, List.take_length] at hf
    have ea : firstA m = [] := by
      unfold firstA
      have : Kp429.firstImprovable m.mod m.p = none := hf
      rw [this]
    rw [ea] at q
    exact s_retK (c_lst va0 (by decide) fun p hp => q.new e hp)
end

theorem cal_stepped_value {P : Program} {w : World} {mg : Str → Option Value} {base : Heap} {c : Cs} (T : Tx c mg) (D : DefF c.K mg "stepped_value" s_stepped_value ["model", "kind", "number", "place"]) (c_height : C8.Met P w c.K mg base 1 c.Q "height" (sp_height c) []) (c_highest : C8.Met P w c.K mg base 1 c.S "highest" (sp_highest c) []) (c_lowest : C8.Met P w c.K mg base 1 c.S "lowest" (sp_lowest c) []) (c_nearest : C8.Met P w c.K mg base 1 c.Q "nearest" (sp_nearest c) []) (c_quadratic_of : C8.Cal P w c.K mg base 4 "quadratic_of" (sp_quadratic_of c) []) : C8.Cal P w c.K mg base 5 "stepped_value" (sp_stepped_value c) [] := by
  obtain ⟨f, fd, D, b⟩ := D.ex
  exact C8.cal0 D b .nil sc_stepped_value (fun vs H Q E h => by
    obtain ⟨a, k, n, q, L, m, e, _⟩ := h
    rw [e]
    rfl) (fun cdv A outer s H vs Q E hr h => ⟨_, d_stepped_value T c_height c_highest c_lowest c_nearest c_quadratic_of hr, p_stepped_value T h⟩)
theorem cal_step {P : Program} {w : World} {mg : Str → Option Value} {base : Heap} {c : Cs} (T : Tx c mg) (D : DefF c.K mg "step" s_step ["model", "kind", "number", "place"]) (c_stepped_value : C8.Cal P w c.K mg base 5 "stepped_value" (sp_stepped_value c) []) : C8.Cal P w c.K mg base 6 "step" (sp_step c) [] := by
  obtain ⟨f, fd, D, b⟩ := D.ex
  exact C8.cal0 D b .nil sc_step (fun vs H Q E h => by
    obtain ⟨a, k, n, q, L, m, e, _⟩ := h
    rw [e]
    rfl) (fun cdv A outer s H vs Q E hr h => ⟨_, d_step T c_stepped_value hr, p_step T h⟩)
theorem cal_sweep {P : Program} {w : World} {mg : Str → Option Value} {base : Heap} {c : Cs} (T : Tx c mg) (D : DefF c.K mg "sweep" s_sweep ["model"]) (c_step : C8.Cal P w c.K mg base 6 "step" (sp_step c) []) : C8.Cal P w c.K mg base 7 "sweep" (sp_sweep c) [] := by
  obtain ⟨f, fd, D, b⟩ := D.ex
  exact C8.cal0 D b .nil sc_sweep (fun vs H Q E h => by
    obtain ⟨a, L, m, e, _⟩ := h
    rw [e]
    rfl) (fun cdv A outer s H vs Q E hr h => ⟨_, d_sweep T c_step hr, p_sweep T h⟩)
theorem cal_train {P : Program} {w : World} {mg : Str → Option Value} {base : Heap} {c : Cs} (T : Tx c mg) (D : DefF c.K mg "train" s_train ["model", "most"]) (c_sweep : C8.Cal P w c.K mg base 7 "sweep" (sp_sweep c) []) : C8.Cal P w c.K mg base 8 "train" (sp_train c) [] := by
  obtain ⟨f, fd, D, b⟩ := D.ex
  exact C8.cal0 D b .nil sc_train (fun vs H Q E h => by
    obtain ⟨a, n, L, m, e, _⟩ := h
    rw [e]
    rfl) (fun cdv A outer s H vs Q E hr h => ⟨_, d_train T c_sweep hr, p_train T h⟩)
theorem cal_coming_objectives {P : Program} {w : World} {mg : Str → Option Value} {base : Heap} {c : Cs} (T : Tx c mg) (D : DefF c.K mg "coming_objectives" s_coming_objectives ["model", "count"]) (c_sweep : C8.Cal P w c.K mg base 7 "sweep" (sp_sweep c) []) (c_twin : C8.Met P w c.K mg base 6 c.M "twin" (sp_twin c) []) (c_whole_objective : C8.Cal P w c.K mg base 5 "whole_objective" (sp_whole_objective c) []) : C8.Cal P w c.K mg base 8 "coming_objectives" (sp_coming_objectives c) [] := by
  obtain ⟨f, fd, D, b⟩ := D.ex
  exact C8.cal0 D b .nil sc_coming_objectives (fun vs H Q E h => by
    obtain ⟨a, n, L, m, e, _⟩ := h
    rw [e]
    rfl) (fun cdv A outer s H vs Q E hr h => ⟨_, d_coming_objectives T c_sweep c_twin c_whole_objective hr, p_coming_objectives T h⟩)
theorem cal_first_improvable {P : Program} {w : World} {mg : Str → Option Value} {base : Heap} {c : Cs} (T : Tx c mg) (D : DefF c.K mg "first_improvable" s_first_improvable ["model"]) (c_stepped_value : C8.Cal P w c.K mg base 5 "stepped_value" (sp_stepped_value c) []) : C8.Cal P w c.K mg base 6 "first_improvable" (sp_first_improvable c) [] := by
  obtain ⟨f, fd, D, b⟩ := D.ex
  exact C8.cal0 D b .nil sc_first_improvable (fun vs H Q E h => by
    obtain ⟨a, L, m, e, _⟩ := h
    rw [e]
    rfl) (fun cdv A outer s H vs Q E hr h => ⟨_, d_first_improvable T c_stepped_value hr, p_first_improvable T h⟩)

end Lk
set_option Elab.async false
set_option maxRecDepth 100000
set_option maxHeartbeats 5000000
set_option linter.all false
namespace Lk
open PySem PySem.Spec PyProof.Rows L2
open Evl (Ex)
/-! ### answers that make objects on the way -/
def ValE (te : TE) (σ : L2.St) (H : Hp) (v : V) : Prop := ∀ Q : VK, RV v H Q → te σ H Q
def AnsE (t : TT) (σ : L2.St) (H : Hp) (b : Bool) : Prop := ∀ Q : Bool → Hp → Prop, (∀ H2, Ex H H2 → Q b H2) → t σ H Q
section
variable {σ : L2.St} {H H' : Hp} {te : TE} {t u : TT} {a b : Bool} {v : V} {D : Ends} {t1 t2 tz : TS}
theorem Ans.e (h : Ans t σ H b) : AnsE t σ H b := fun Q q => h Q (q H (Ex.refl H))
theorem Val.e (h : Val te σ H v) : ValE te σ H v := fun Q q => h Q (q H (Ex.refl H))
theorem e_B (h : ValE te σ H (.bl b)) : AnsE (tB te) σ H b := fun Q q => h _ fun H2 e => ⟨b, rfl, q H2 e⟩
theorem e_test (h : ValE te σ H (.bl b)) : AnsE (tTest te) σ H b := fun Q q => h _ fun H2 e => ⟨b, rfl, q H2 e⟩
theorem e_not (h : AnsE t σ H b) : AnsE (tNot t) σ H (!b) := fun Q q => h _ q
theorem e_or (h : AnsE t σ H a) (h2 : ∀ H2, Ex H H2 → a = false → AnsE u σ H2 b) : AnsE (tOr t u) σ H (a || b) := fun Q q => h _ fun H2 e => by
  cases a with
  | true => exact iteT (q H2 e)
  | false => exact iteF (h2 H2 e rfl Q fun H3 e3 => q H3 (e.trans e3))
theorem e_and (h : AnsE t σ H a) (h2 : ∀ H2, Ex H H2 → a = true → AnsE u σ H2 b) : AnsE (tAnd t u) σ H (a && b) := fun Q q => h _ fun H2 e => by
  cases a with
  | true => exact iteT (h2 H2 e rfl Q fun H3 e3 => q H3 (e.trans e3))
  | false => exact iteF (q H2 e)
theorem q_ifE (h : AnsE t σ H b) (h1 : ∀ H2, Ex H H2 → b = true → t1 { D with nx := tz D } σ H2) (h2 : ∀ H2, Ex H H2 → b = false → t2 { D with nx := tz D } σ H2) : tSeq (tIfS t t1 t2) tz D σ H := h _ fun H2 e => by
  cases b with
  | true => exact iteT (h1 H2 e rfl)
  | false => exact iteF (h2 H2 e rfl)
theorem q_whenE (h : AnsE t σ H b) (h1 : ∀ H2, Ex H H2 → b = true → t1 { D with nx := tz D } σ H2) (h2 : ∀ H2, Ex H H2 → b = false → tz D σ H2) : tSeq (tIfS t t1 tNext) tz D σ H := q_ifE h h1 h2
theorem s_whenE (h : AnsE t σ H b) (h1 : ∀ H2, Ex H H2 → b = true → t1 D σ H2) (h2 : ∀ H2, Ex H H2 → b = false → D.nx σ H2) : tIfS t t1 tNext D σ H := h _ fun H2 e => by
  cases b with
  | true => exact iteT (h1 H2 e rfl)
  | false => exact iteF (h2 H2 e rfl)
end
theorem rgc2 : ∀ k : Nat, k < 9 → Builtin.Range.small 0 ((2 * k : Nat) : Int) 2 = true ∧ Builtin.Range.rangeSize 0 ((2 * k : Nat) : Int) 2 = ((k : Nat) : Int) := by decide +kernel
theorem rgc {k : Nat} (h : k < 9) : RgC 0 ((2 * k : Nat) : Int) 2 k := ⟨by decide, by decide, (rgc2 k h).1, (rgc2 k h).2⟩
section
variable {σ : L2.St} {H : Hp} {D : Ends} {tu tz : TS} {ta tb tc te : TE} {j k : Nat}
theorem l_range3 (h : Val ta σ H (.int 0)) (h' : Val tb σ H (nV (2 * k))) (h'' : Val tc σ H (.int 2)) (hk : k < 9) (Pv : Nat → L2.St → Hp → Prop) (h0 : Pv 0 σ H)
    (hs : ∀ (i : Nat) σ' H', i < k → Pv i σ' H' → tu { D with nx := Pv (i + 1), ct := Pv (i + 1), bk := D.nx } (σ'.set j (some (nV (2 * i)))) H') (hd : ∀ σ' H', Pv k σ' H' → D.nx σ' H') : tFor (iRng3 (tCons ta (tCons tb (tCons tc tNil)))) (gName j) tu D σ H :=
  h _ (h' _ (h'' _ ⟨0, ((2 * k : Nat) : Int), 2, k, rfl, rgc hk, for_rangeC Pv h0 (fun i σ' H' hi p => by
    have e0 : (0 : Int) + (i : Int) * 2 = ((2 * i : Nat) : Int) := by omega
    show tu { D with nx := Pv (i + 1), ct := Pv (i + 1), bk := D.nx } (σ'.set j (some (.int ((0 : Int) + (i : Int) * 2)))) H'
    rw [e0]
    exact hs i σ' H' hi p) hd⟩))
theorem q_range3 (h : Val ta σ H (.int 0)) (h' : Val tb σ H (nV (2 * k))) (h'' : Val tc σ H (.int 2)) (hk : k < 9) (Pv : Nat → L2.St → Hp → Prop) (h0 : Pv 0 σ H)
    (hs : ∀ (i : Nat) σ' H', i < k → Pv i σ' H' → tu { D with nx := Pv (i + 1), ct := Pv (i + 1), bk := tz D } (σ'.set j (some (nV (2 * i)))) H') (hd : ∀ σ' H', Pv k σ' H' → tz D σ' H') : tSeq (tFor (iRng3 (tCons ta (tCons tb (tCons tc tNil)))) (gName j) tu) tz D σ H :=
  l_range3 (D := { D with nx := tz D }) h h' h'' hk Pv h0 hs hd
end
section
variable {c : Cs} {mg : Str → Option Value} {σ : L2.St} {H H' : Hp} {a p t : Addr} {L : Lay} {m : Ms} {te : TE}
/-- another row is laid in for the user 0 -/
theorem MdAt.setUo {r : List Int} (h : MdAt c H a L m) (ht : H t = some (rowI r)) (tn : t ∉ L.rr ++ (L.ur ++ L.ir)) (hr : r ≠ []) (ok : ({ m with p := { m.p with users := m.p.users.set 0 r } } : Ms).Ok) :
    MdAt c (upd H L.ul (.lst ((L.ur.map V.ref).set 0 (.ref t)))) a { L with ur := L.ur.set 0 t } { m with p := { m.p with users := m.p.users.set 0 r } } := by
  obtain ⟨dx, ob⟩ := h.ob
  have kp : ∀ q o, H q = some o → q ≠ L.ul → upd H L.ul (.lst ((L.ur.map V.ref).set 0 (.ref t))) q = some o := fun q o hq nq => by rw [upd_ne nq]; exact hq
  have nd := List.nodup_append.mp h.nd
  have nd2 := List.nodup_append.mp nd.2.1
  have tul : t ≠ L.ul := row_ne ht h.rw.ul hr
  have eu : 0 < m.p.users.length := by rw [h.ok.us.len]; exact h.ok.s.u1
  have hur := h.rw.ur.ne eu
  have u0 : ∃ q, L.ur[0]? = some q ∧ q ∈ L.ur := by
    cases e : L.ur with
    | nil => exact absurd e hur
    | cons q l => exact ⟨q, rfl, List.mem_cons_self ..⟩
  obtain ⟨q0, q1, q2⟩ := u0
  have nil : L.il ≠ L.ul := fun z => by
    have h1 := h.rw.il
    rw [z, h.rw.ul] at h1
    have e := refs_inj (HO.lst.inj (Option.some.inj h1))
    exact nd2.2.2 q0 q2 q0 (by rw [← e]; exact q2) rfl
  have nro : L.ro ≠ L.ul := Ne.symm h.neRo.2.1
  have rowsU : ∀ q ∈ L.ur ++ L.ir, q ≠ L.ul := fun q hq => by
    rcases in_app hq with m' | m'
    · obtain ⟨r', hr', hx⟩ := h.rw.ur.mem m'
      exact row_ne hx h.rw.ul (h.posP r' (List.mem_append_left _ hr'))
    · obtain ⟨r', hr', hx⟩ := h.rw.ir.mem m'
      exact row_ne hx h.rw.ul (h.posP r' (List.mem_append_right _ hr'))
  refine ⟨ok, ⟨dx, kp _ _ ob (ins_lst ob h.rw.ul).symm⟩, h.st.keep kp h.rw.ul fun pts he z => ?_, kp _ _ h.ro nro, ⟨h.rr.1, fun j x hx => ?_⟩, ⟨kp _ _ h.rw.rt (tup_ne h.rw.rt h.rw.ul), ?_, kp _ _ h.rw.il nil, ⟨by rw [List.length_set]; show _ = (m.p.users.set 0 r).length; rw [List.length_set]; exact h.rw.ur.1, fun j x hx => ?_⟩, ⟨h.rw.ir.1, fun j x hx => ?_⟩⟩, ?_⟩
  · have e := refs_inj z
    obtain ⟨x, l, hx⟩ := coords_ne h.ok.s
    rw [hx] at he
    obtain ⟨b, b1, b2⟩ := he.2 0 x rfl
    rw [← e, q1] at b1
    cases b1
    obtain ⟨r', _, hr'⟩ := h.rw.ur.mem q2
    rw [hr'] at b2
    cases b2
  · obtain ⟨b, b1, b2⟩ := h.rr.2 j x hx
    exact ⟨b, b1, kp _ _ b2 (rowN_ne b2 h.rw.ul (h.posR x (List.mem_of_getElem? hx)))⟩
  · show upd _ _ _ _ = some (.lst ((L.ur.set 0 t).map V.ref))
    rw [upd_same, List.map_set]
  · by_cases hj : 0 = j
    · subst hj
      have hx : (m.p.users.set 0 r)[0]? = some x := hx
      rw [List.getElem?_set_self eu] at hx
      cases hx
      exact ⟨t, by rw [List.getElem?_set_self (by rw [h.rw.ur.1]; exact eu)], kp _ _ ht tul⟩
    · have hx : (m.p.users.set 0 r)[j]? = some x := hx
      rw [List.getElem?_set_ne hj] at hx
      obtain ⟨b, b1, b2⟩ := h.rw.ur.2 j x hx
      exact ⟨b, by rw [List.getElem?_set_ne hj]; exact b1, kp _ _ b2 (rowsU b (List.mem_append_left _ (List.mem_of_getElem? b1)))⟩
  · obtain ⟨b, b1, b2⟩ := h.rw.ir.2 j x hx
    exact ⟨b, b1, kp _ _ b2 (rowsU b (List.mem_append_right _ (List.mem_of_getElem? b1)))⟩
  · show (L.rr ++ ((L.ur.set 0 t) ++ L.ir)).Nodup
    have no := fun m' => tn (List.mem_append_right _ (List.mem_append_left _ m'))
    refine List.nodup_append.mpr ⟨nd.1, List.nodup_append.mpr ⟨nodup_set nd2.1 no, nd2.2.1, fun x hx y hy e => ?_⟩, fun x hx y hy e => ?_⟩
    · rcases List.mem_or_eq_of_mem_set hx with m' | m'
      · exact nd2.2.2 x m' y hy e
      · rw [← m', e] at tn
        exact tn (List.mem_append_right _ (List.mem_append_right _ hy))
    · rcases in_app hy with hy | hy
      · rcases List.mem_or_eq_of_mem_set hy with m' | m'
        · exact nd.2.2 x hx y (List.mem_append_left _ m') e
        · rw [← m', ← e] at tn
          exact tn (List.mem_append_left _ hx)
      · exact nd.2.2 x hx y (List.mem_append_right _ hy) e
/-- a rating is set, in its row -/
theorem MdAt.putR {u i v : Nat} (h : MdAt c H a L m) (hp : L.rr[u]? = some p) (hx : H p = some (rowN (rowOfR m.R u))) (hu : u < m.s.users) (hv : v ≤ 10) :
    MdAt c (upd H p (rowN ((rowOfR m.R u).set i v))) a L { m with R := m.R.set u ((rowOfR m.R u).set i v) } := by
  obtain ⟨n1, n2, n3⟩ := h.neRo
  obtain ⟨dx, ob⟩ := h.ob
  have nd := List.nodup_append.mp h.nd
  have hmem := List.mem_of_getElem? hp
  have hr := rowOfR_mem (R := m.R) (u := u) (by rw [h.ok.R.len]; exact hu)
  have hne := h.posR _ hr.1
  have kp : ∀ q o, H q = some o → q ≠ p → upd H p (rowN ((rowOfR m.R u).set i v)) q = some o := fun q o hq nq => by rw [upd_ne nq]; exact hq
  have out : p ∉ L.ur ++ L.ir := fun z => nd.2.2 p hmem p z rfl
  refine ⟨⟨h.ok.s, set_ok h.ok.R (by rw [List.length_set]; exact h.ok.R.row _ hr.1) fun w hw => ?_, h.ok.us, h.ok.it, h.ok.b⟩, ⟨dx, kp _ _ ob (ins_lst ob hx).symm⟩, h.st.keep kp hx fun pts he z => ?_, kp _ _ h.ro (Ne.symm (rowN_ne hx h.ro hne)), h.rr.put nd.1 hp, ⟨kp _ _ h.rw.rt (tup_ne h.rw.rt hx), kp _ _ h.rw.ul (Ne.symm (rowN_ne hx h.rw.ul hne)), kp _ _ h.rw.il (Ne.symm (rowN_ne hx h.rw.il hne)), h.rw.ur.skip fun z => out (List.mem_append_left _ z), h.rw.ir.skip fun z => out (List.mem_append_right _ z)⟩, h.nd⟩
  · rcases List.mem_or_eq_of_mem_set hw with m' | e
    · exact h.ok.R.val _ hr.1 w m'
    · rw [e]; exact hv
  · cases hq : rowOfR m.R u with
    | nil => exact hne hq
    | cons x l =>
      rw [hq] at z
      cases pts with
      | nil => cases z
      | cons q qs => cases z
theorem MdAt.updR {u i v : Nat} (h : MdAt c H a L m) (hp : L.rr[u]? = some p) (hx : H p = some (rowN (rowOfR m.R u))) (hu : u < m.s.users) (hv : v ≤ 10) :
    Upd c H (upd H p (rowN ((rowOfR m.R u).set i v))) a L L { m with R := m.R.set u ((rowOfR m.R u).set i v) } :=
  ⟨h.putR hp hx hu hv, fun b o hb nb => by
    rw [upd_ne fun z => nb (by rw [z]; exact List.mem_cons_of_mem _ (List.mem_cons_of_mem _ (List.mem_append_left _ (List.mem_of_getElem? hp))))]
    exact hb, fun b hb => .inl hb⟩
end

def sp_are_new_ratings (c : Cs) : Sp := fun vs H Q _ => ∃ (a p : Addr) (ns : List Nat) (s : Kp429.Settings), vs = [.ref a, .ref p] ∧ StAt c H a s ∧ SqL c.K H p (ns.map nV) ∧ ns.length ≤ 16 ∧ RV (.bl (okN s ns)) H Q
def sp_make_rounds (c : Cs) : Sp := fun vs H Q _ => ∃ (a : Addr) (L : Lay) (m : Ms), vs = [.ref a] ∧ MdAt c H a L m ∧ ∀ H2, Upd c H H2 a L L (roundsM m).1 → Q (nV (roundsM m).2) H2
def sp_with_newcomer (c : Cs) : Sp := fun vs H Q _ => ∃ (a p : Addr) (ns : List Nat) (L : Lay) (m : Ms), vs = [.ref a, .ref p] ∧ MdAt c H a L m ∧ SqL c.K H p (ns.map nV) ∧ ns.length ≤ 16 ∧ okN m.s ns = true ∧ ∀ (b : Addr) (L2 : Lay) H2, Ex H H2 → MdAt c H2 b L2 (guestM m ns) → (∀ x ∈ L2.own b, H x = none) → Q (.ref b) H2

section
variable {c : Cs} {mg : Str → Option Value} {vs : List V} {H : Hp} {Q : VK} {E : XK}
theorem p_are_new_ratings (T : Tx c mg) (h : sp_are_new_ratings c vs H Q E) : t_are_new_ratings c (sp_has_item c) (sp_is_rating c) (Dq Q) (start n_are_new_ratings vs) H := by
  obtain ⟨a, p, ns, s, rfl, hs, hp, hl, q⟩ := h
  have hlen : (ns.map nV).length = ns.length := List.length_map ..
  refine q_when (b := decide (ns.length % 2 = 1)) (a_test (vt ?_ (v_eqI (v_iC (v_len (vv rfl) hp) vc (by decide)) vc))) (fun hb => ?_) (fun hb => ?_)
  · rw [hlen]
    refine congrArg V.bl ?_
    by_cases h : ns.length % 2 = 1
    · rw [decide_eq_true h, decide_eq_true (by omega)]
    · rw [decide_eq_false h, decide_eq_false (by omega)]
  · have hb := of_decide_eq_true hb
    rw [okN_odd hb] at q
    exact s_ret vc q.now
  · have hb := of_decide_eq_false hb
    have he : ns.length % 2 = 0 := by omega
    have hk : ns.length = 2 * (ns.length / 2) := by omega
    rw [okN_even he] at q
    refine q_set (v_neg vc) ?_
    refine q_range3 (k := ns.length / 2) vc (vt (by rw [hlen, ← hk]) (v_len (vv rfl) hp)) vc (by omega)
      (fun i σ' H' => ∃ x last z, σ' = [some (.ref a), some (.ref p), x, some (.int last), z] ∧ Ex H H' ∧ okL s (-1) ns = okL s last (ns.drop (2 * i))) ⟨_, _, _, rfl, Ex.refl H, rfl⟩ ?_ ?_
    · rintro i σ' H' hi ⟨x, last, z, rfl, e, hok⟩
      have h0 : 2 * i < ns.length := by omega
      have h1 : 2 * i + 1 < ns.length := by omega
      have g0 := List.getElem?_eq_getElem h0
      have g1 := List.getElem?_eq_getElem h1
      generalize ns[2 * i] = va at g0
      generalize ns[2 * i + 1] = vb at g1
      rw [okL_drop s last g0 g1] at hok
      have hs2 := hs.ex e
      have hp2 := Evl.ex_l e hp
      refine q_set (v_ixL (vv rfl) (vv rfl) hp2 (atI_nat (show _ = some (nV va) by rw [List.getElem?_map, g0] <;> rfl))) ?_
      refine q_whenE (b := decide ((va : Int) ≤ last) || (!decide (va < s.items) || !(decide (1 ≤ vb) && decide (vb ≤ 10)))) (e_or (Ans.e (a_test (b := decide ((va : Int) ≤ last)) (v_i0 (i := (va : Int)) (j := last) (vv rfl) (vv rfl)))) fun H2 e2 _ => e_or (e_not (e_B fun Q' q' => c_has_item (hs2.ex e2) (vv rfl) (va1 (vv rfl) va0) ⟨a, va, s, rfl, hs2.ex e2, q'⟩)) fun H3 e3 _ => e_not (e_B fun Q' q' => c_call (va1 (v_ixL (vv rfl) (v_i0 (vv rfl) vc) (Evl.ex_l e3 (Evl.ex_l e2 hp2)) ?_) va0) ⟨vb, rfl, q'⟩)) (fun H2 e2 hd => ?_) (fun H2 e2 hd => ?_)
      · show atI (ns.map nV) (((2 * i : Nat) : Int) + 1) = some (nV vb)
        exact atI_nat (j := 2 * i + 1) (show _ = some (nV vb) by rw [List.getElem?_map, g1] <;> rfl)
      · rw [hd] at hok
        have e3 : okL s (-1) ns = false := hok
        rw [e3] at q
        exact s_ret vc (q.at (e.trans e2))
      · rw [hd] at hok
        exact s_set (vv rfl) ⟨_, (va : Int), _, rfl, e.trans e2, hok⟩
    · rintro σ' H' ⟨x, last, z, rfl, e, hok⟩
      have e2 : ns.drop (2 * (ns.length / 2)) = [] := List.drop_of_length_le (by omega)
      rw [e2] at hok
      have e3 : okL s (-1) ns = true := hok
      rw [e3] at q
      exact s_ret vc (q.at e)
theorem p_make_rounds (T : Tx c mg) (h : sp_make_rounds c vs H Q E) : t_make_rounds c (sp_step c) (Dq Q) (start n_make_rounds vs) H := by
  obtain ⟨a, L, m, rfl, hm, q⟩ := h
  have hu : 0 < m.p.users.length := by rw [hm.ok.us.len]; exact hm.ok.s.u1
  have f3 := hm.ok.s.f3
  refine q_set vc (q_set vc (q_while (fun w σ' H' => ∃ (ch r : Nat) (row : List Int) (z : Option V), w = 100 - r ∧ r ≤ 100 ∧ σ' = [some (.ref a), some (nV ch), z, some (nV r)] ∧ Upd c H H' a L L (atRow m row) ∧ (ch ≠ 0 → Kp429.foldIn m.s (V0 m) (100 - r) row r = Kp429.foldIn m.s (V0 m) 100 (Kp429.rowOf m.p 0 0) 0) ∧ (ch = 0 → Kp429.foldIn m.s (V0 m) 100 (Kp429.rowOf m.p 0 0) 0 = (row, r))) 100
    ⟨1, 0, Kp429.rowOf m.p 0 0, _, rfl, Nat.zero_le _, rfl, by rw [atRow0 hm.ok]; exact Upd.same hm (Ex.refl H), fun _ => rfl, fun h => by cases h⟩ ?_))
  rintro w σ' H' ⟨ch, r, row, z, rfl, hr, rfl, u, hgo, hstop⟩
  refine ⟨decide (ch ≠ 0) && decide (r < 100), a_and (a_test (vt ?_ (v_i0 (vv rfl) vc))) (fun _ => a_test (vt (by rw [show (100 : Int) = ((100 : Nat) : Int) from rfl, dlt]) (v_i0 (vv rfl) vc))), fun hb => ?_, fun hb => ?_⟩
  · refine congrArg V.bl ?_
    by_cases h : ch ≠ 0
    · rw [decide_eq_true h, decide_eq_true (by omega)]
    · rw [decide_eq_false h, decide_eq_false (by omega)]
  · have hb := (Bool.and_eq_true _ _).mp hb
    have h1 : ch ≠ 0 := of_decide_eq_true hb.1
    have h2 : r < 100 := of_decide_eq_true hb.2
    have ok := u.md.ok
    refine q_aug rfl vc (q_set vc ?_)
    refine l_range1 (n := m.s.factors + 1) (v_i0 (v_factors T u.md.st (v_settings T u.md (vv rfl))) vc) (by omega)
      (fun j σ' H2 => ∃ z, σ' = [some (.ref a), some (nV (cnt (rowsOf j) (atRow m row))), z, some (nV (r + 1))] ∧ Upd c H H2 a L L ((atRow m row).walk (rowsOf j))) ⟨_, rfl, u⟩ ?_ ?_
    · rintro j σ' H2 hj ⟨z, rfl, u2⟩
      have es := (walk_s (rowsOf j) (atRow m row)).1
      refine s_augK rfl (c_call (va1 (vv rfl) (va1 vc (va1 vc (va1 (vv rfl) va0)))) ⟨a, 0, 0, j, L, _, rfl, u2.md, by decide, by rw [es]; exact hm.ok.s.u1, by rw [es]; exact Nat.le_of_lt_succ hj, fun H3 u3 => ⟨_, rfl, ?_⟩⟩)
      rw [rowsOf_succ, cnt_snoc, walk_snoc]
      exact ⟨_, rfl, u2.trans u3⟩
    · rintro σ' H2 ⟨z, rfl, u2⟩
      have ew : (atRow m row).walk (rowsOf (m.s.factors + 1)) = atRow m (rnd m (List.range (m.s.factors + 1)) row) := walk_row m hu _ _
      rw [ew] at u2
      have hg := hgo h1
      have hs := rnd_same hm.ok (r := row) ok
      refine ⟨100 - (r + 1), by omega, cnt (rowsOf (m.s.factors + 1)) (atRow m row), r + 1, rnd m (List.range (m.s.factors + 1)) row, _, rfl, by omega, rfl, u2, fun hc => ?_, fun hc => ?_⟩
      · have hne : rnd m (List.range (m.s.factors + 1)) row ≠ row := fun e => hc (hs.mpr e)
        rw [show 100 - r = (100 - (r + 1)) + 1 by omega, fold_go hne] at hg
        exact hg
      · have he : rnd m (List.range (m.s.factors + 1)) row = row := hs.mp hc
        rw [show 100 - r = (100 - (r + 1)) + 1 by omega, fold_stop he] at hg
        rw [he]
        exact hg.symm
  · have hfin : Kp429.foldIn m.s (V0 m) 100 (Kp429.rowOf m.p 0 0) 0 = (row, r) := by
      by_cases h1 : ch = 0
      · exact hstop h1
      · have h2 : ¬ r < 100 := fun h2 => by
          have : (decide (ch ≠ 0) && decide (r < 100)) = true := by rw [decide_eq_true h1, decide_eq_true h2]; rfl
          rw [this] at hb
          cases hb
        have e : 100 - r = 0 := by omega
        have hg := hgo h1
        rw [e] at hg
        exact hg.symm
    have er : roundsM m = (atRow m row, r) := by
      unfold roundsM
      have : Kp429.foldIn m.s (Kp429.views m.mod m.p 0 0) 100 (Kp429.rowOf m.p 0 0) 0 = (row, r) := hfin
      rw [this]
      rfl
    rw [er] at q
    exact s_ret (vv rfl) (q H' u)
theorem p_with_newcomer (T : Tx c mg) (h : sp_with_newcomer c vs H Q E) : t_with_newcomer c (sp_drop_ratings c) (sp_twin c) (Dq Q) (start n_with_newcomer vs) H := by
  obtain ⟨a, p, ns, L, m, rfl, hm, hp, hl, hok, q⟩ := h
  obtain ⟨hpa, he, hpv⟩ := okN_pairs hok
  obtain ⟨x, hx1, hx2, hx3⟩ := pairs_even ns he
  have hxe : x = pairsN ns := by
    rw [hpa] at hx1
    exact (Option.some.inj hx1).symm
  subst hxe
  have f3 := hm.ok.s.f3
  refine q_asgK (c_twin hm (vv rfl) va0 ⟨a, L, m, rfl, hm, fun b L1 H1 e1 hm1 hfr hul0 => ?_⟩)
  obtain ⟨p0, p1, p2, p3⟩ := hm1.row (k := 0) (n := 0) (by decide) hm.ok.s.u1
  have hrl := (row_mem hm.ok (k := 0) (n := 0) (by decide) hm.ok.s.u1).1
  have vlen : ∀ H2, Ex H1 H2 → Val (tCB (Evl.rLenS c.K) (tCons (tOp (rIxL c.K) (tOp (rIxT c.K) (tFld c.K (tVar 2) "rows") (tC (.int 0))) (tC (.int 0))) tNil)) [some (.ref a), some (.ref p), some (.ref b), none] H2 (nV (m.s.factors + 1)) := fun H2 e2 =>
    vt (by rw [List.length_map, hrl]) (v_len (v_rowp T (hm1.ex e2) (k := 0) (n := 0) (by decide) p2 (vv rfl) vc vc) (sq_ (e2 _ _ p3)))
  refine q_asgG (c_rep vc (vlen H1 (Ex.refl _)) (by omega) vlen fun t H2 ht e2 h2 => ?_)
  have hm2 := hm1.ex e2
  have hul : L1.ur.length = m.s.users := by rw [hm2.rw.ur.1]; exact hm.ok.us.len
  refine sub_k (l := L1.ul) (j := 0) (v_rowl T hm2 (k := 0) (by decide) (vv rfl) vc) vc hm2.rw.ul (by rw [List.length_map, hul]; exact hm.ok.s.u1) ?_
  have tn : t ∉ L1.rr ++ (L1.ur ++ L1.ir) := fun m' => by
    rcases List.mem_append.mp m' with m' | m'
    · exact (hm1.rr.there m') ht
    rcases List.mem_append.mp m' with m' | m'
    · exact (hm1.rw.ur.there m') ht
    · exact (hm1.rw.ir.there m') ht
  have hrow : H2 t = some (rowI (List.replicate (m.s.factors + 1) 0)) := by
    rw [h2]
    show _ = some (HO.lst ((List.replicate (m.s.factors + 1) (0 : Int)).map V.int))
    rw [List.map_replicate]
  have hm3 := hm2.setUo hrow tn (by
    intro z
    have := congrArg List.length z
    rw [List.length_replicate] at this
    cases this) (zeroU_ok hm.ok)
  have e02 : Ex H H2 := e1.trans e2
  have eH3 : Ex H (upd H2 L1.ul (.lst ((L1.ur.map V.ref).set 0 (.ref t)))) := fun y o hy => by
    rw [upd_ne (ne_of_none hy hul0)]
    exact e02 _ _ hy
  generalize hH3 : upd H2 L1.ul (.lst ((L1.ur.map V.ref).set 0 (.ref t))) = H3 at hm3 eH3
  have hL3 : ∀ y ∈ ({ L1 with ur := L1.ur.set 0 t } : Lay).own b, H y = none := fun y hy => by
    rcases in_cons hy with z | hy
    · exact hfr y (by rw [z]; exact List.mem_cons_self ..)
    rcases in_cons hy with z | hy
    · exact hfr y (by rw [z]; exact List.mem_cons_of_mem _ (List.mem_cons_self ..))
    rcases in_app hy with hy | hy
    · exact hfr y (List.mem_cons_of_mem _ (List.mem_cons_of_mem _ (List.mem_append_left _ hy)))
    rcases in_app hy with hy | hy
    · rcases List.mem_or_eq_of_mem_set hy with hy | z
      · exact hfr y (List.mem_cons_of_mem _ (List.mem_cons_of_mem _ (List.mem_append_right _ (List.mem_append_left _ hy))))
      · rw [z]
        exact fresh e1 ht
    · exact hfr y (List.mem_cons_of_mem _ (List.mem_cons_of_mem _ (List.mem_append_right _ (List.mem_append_right _ hy))))
  refine q_dropK (c_drop_ratings hm3 (vv rfl) (va1 vc va0) ⟨b, 0, { L1 with ur := L1.ur.set 0 t }, zeroU m, rfl, hm3, hm.ok.s.u1, fun L4 H4 u4 => ?_⟩)
  rw [guest0 hm.ok ns] at u4
  have hL4 : ∀ y ∈ L4.own b, H y = none := fun y hy => by
    rcases u4.own y hy with z | z
    · exact hL3 y z
    · exact fresh eH3 z
  have eH4 : Ex H H4 := fun y o hy => u4.chg y o (eH3 _ _ hy) fun z => by
    rw [hL3 y z] at hy
    cases hy
  have exU : ∀ H' m', Upd c H4 H' b L4 L4 m' → Ex H H' := fun H' m' u y o hy => u.chg y o (eH4 _ _ hy) fun z => by
    rw [hL4 y z] at hy
    cases hy
  have hlen : (ns.map nV).length = 2 * (ns.length / 2) := by rw [List.length_map]; omega
  refine q_range3 (k := ns.length / 2) vc (vt (by rw [hlen]) (v_len (vv rfl) (Evl.ex_l eH4 hp))) vc (by omega)
    (fun i σ' H' => ∃ z, σ' = [some (.ref a), some (.ref p), some (.ref b), z] ∧ Upd c H4 H' b L4 L4 (guestI m ns i)) ⟨_, rfl, Upd.same u4.md (Ex.refl _)⟩ ?_ ?_
  · rintro i σ' H' hi ⟨z, rfl, u⟩
    have hip : i < (pairsN ns).length := by rw [hx2]; exact hi
    have hy := List.getElem?_eq_getElem hip
    have hmem := List.getElem_mem hip
    generalize (pairsN ns)[i] = y at hy hmem
    obtain ⟨g0, g1⟩ := hx3 i y hy
    obtain ⟨y1, y2, y3⟩ := hpv y hmem
    have hpH := Evl.ex_l (exU _ _ u) hp
    have hm5 := u.md
    have hr0 := rowOfR_mem (R := (guestI m ns i).R) (u := 0) (by rw [hm5.ok.R.len]; exact hm.ok.s.u1)
    obtain ⟨pr, r1, r2, r3⟩ := hm5.rr.at hr0.2
    have hrl5 := hm5.ok.R.row _ hr0.1
    refine s_asgG (v_k (v := nV y.2) (v_ixL (vv rfl) (v_i0 (vv rfl) vc) hpH ?_) (sub_k (j := y.1) (v_ixL (v_ratings T hm5 (vv rfl)) vc (sq_ hm5.ro) (atI_nat r2)) (v_ixL (vv rfl) (vv rfl) hpH (atI_nat (show _ = some (nV y.1) by rw [List.getElem?_map, g0] <;> rfl))) r3 (by rw [List.length_map, hrl5]; exact y1) ?_))
    · show atI (ns.map nV) (((2 * i : Nat) : Int) + 1) = some (nV y.2)
      exact atI_nat (j := 2 * i + 1) (show _ = some (nV y.2) by rw [List.getElem?_map, g1] <;> rfl)
    · have u5 := hm5.updR (i := y.1) (v := y.2) r1 r3 hm.ok.s.u1 y2
      rw [guest_succ hm.ok hy] at u5
      have e5 : ((rowOfR (guestI m ns i).R 0).map nV).set y.1 (nV y.2) = ((rowOfR (guestI m ns i).R 0).set y.1 y.2).map nV := by rw [List.map_set]
      rw [e5]
      exact ⟨_, rfl, u.trans u5⟩
  · rintro σ' H' ⟨z, rfl, u⟩
    rw [guest_end m ns (by omega)] at u
    exact s_ret (vv rfl) (q b L4 H' (exU _ _ u) u.md hL4)
end

theorem cal_are_new_ratings {P : Program} {w : World} {mg : Str → Option Value} {base : Heap} {c : Cs} (T : Tx c mg) (D : DefF c.K mg "are_new_ratings" s_are_new_ratings ["settings", "numbers"]) (c_has_item : C8.Met P w c.K mg base 1 c.S "has_item" (sp_has_item c) []) (c_is_rating : C8.Cal P w c.K mg base 1 "is_rating" (sp_is_rating c) []) : C8.Cal P w c.K mg base 2 "are_new_ratings" (sp_are_new_ratings c) [] := by
  obtain ⟨f, fd, D, b⟩ := D.ex
  exact C8.cal0 D b .nil sc_are_new_ratings (fun vs H Q E h => by
    obtain ⟨a, p, ns, s, e, _⟩ := h
    rw [e]
    rfl) (fun cdv A outer s H vs Q E hr h => ⟨_, d_are_new_ratings T c_has_item c_is_rating hr, p_are_new_ratings T h⟩)
theorem cal_make_rounds {P : Program} {w : World} {mg : Str → Option Value} {base : Heap} {c : Cs} (T : Tx c mg) (D : DefF c.K mg "make_rounds" s_make_rounds ["guest"]) (c_step : C8.Cal P w c.K mg base 6 "step" (sp_step c) []) : C8.Cal P w c.K mg base 7 "make_rounds" (sp_make_rounds c) [] := by
  obtain ⟨f, fd, D, b⟩ := D.ex
  exact C8.cal0 D b .nil sc_make_rounds (fun vs H Q E h => by
    obtain ⟨a, L, m, e, _⟩ := h
    rw [e]
    rfl) (fun cdv A outer s H vs Q E hr h => ⟨_, d_make_rounds T c_step hr, p_make_rounds T h⟩)
theorem cal_with_newcomer {P : Program} {w : World} {mg : Str → Option Value} {base : Heap} {c : Cs} (T : Tx c mg) (D : DefF c.K mg "with_newcomer" s_with_newcomer ["model", "numbers"]) (c_drop_ratings : C8.Met P w c.K mg base 2 c.M "drop_ratings" (sp_drop_ratings c) []) (c_twin : C8.Met P w c.K mg base 6 c.M "twin" (sp_twin c) []) : C8.Cal P w c.K mg base 7 "with_newcomer" (sp_with_newcomer c) [] := by
  obtain ⟨f, fd, D, b⟩ := D.ex
  exact C8.cal0 D b .nil sc_with_newcomer (fun vs H Q E h => by
    obtain ⟨a, p, ns, L, m, e, _⟩ := h
    rw [e]
    rfl) (fun cdv A outer s H vs Q E hr h => ⟨_, d_with_newcomer T c_drop_ratings c_twin hr, p_with_newcomer T h⟩)

end Lk
set_option Elab.async false
set_option maxRecDepth 100000
set_option maxHeartbeats 5000000
set_option linter.all false
/-! sorted with a key that a function of the program gives: pairs of whole numbers. -/
namespace Lk
open PySem PySem.Spec PyProof.Rows L2
open Evl (Ex)
def KeyIs (v : V) (H : Hp) (k : Int × Int) : Prop := ∃ p, v = .ref p ∧ H p = some (.tup [.int k.1, .int k.2])
abbrev kyD (k : Int × Int) : PyData := .tuple [.int k.1, .int k.2]
theorem ky_reads {P : Program} {w : World} {H : Hp} {h : Heap} {p : Addr} {k : Int × Int} (hok : HOk P w H h) (hp : H p = some (.tup [.int k.1, .int k.2])) : Reads h (.ref p) (kyD k) [] := by
  obtain ⟨_, its, r, o, ho, hc, n, hd⟩ := hok _ _ hp
  obtain ⟨_, _, rfl, ri, rj⟩ := vals2 r
  obtain ⟨t1, rfl⟩ := ri
  obtain ⟨t2, rfl⟩ := rj
  exact Reads.tuple (as := []) ho hc hd (ReadsAll.cons (as := []) (bs := []) (.int _ _) (ReadsAll.cons (as := []) (bs := []) (.int _ _) .nil))
theorem ky_alike (ks : List (Int × Int)) : PySem.W.AllAlike (ks.map kyD) := fun d hd d' hd' => by
  obtain ⟨k, _, rfl⟩ := in_map hd
  obtain ⟨k', _, rfl⟩ := List.mem_map.mp hd'
  rfl
theorem ky_sortable (ks : List (Int × Int)) : PySem.W.Sortable (ks.map kyD) := .inl fun d hd => by
  obtain ⟨k, _, rfl⟩ := in_map hd
  exact ⟨_, _, rfl⟩
/-- the key store hidden -/
def hidK (h : Heap) (kS : Addr) : Heap := hidT h (fun b => if b = kS then some (.lst []) else none)
theorem hidK_of {h : Heap} {kS b : Addr} {o : Obj} (e : (hidK h kS).get? b = some o) : h.get? b = some o ∧ b ≠ kS := by
  obtain ⟨h1, h2⟩ := of_hidT e
  refine ⟨h1, fun z => ?_⟩
  have h2 : (if b = kS then some (HO.lst []) else none) = none := h2
  rw [if_pos z] at h2
  cases h2
theorem hidK_get {h : Heap} {kS b : Addr} {o : Obj} (e : h.get? b = some o) (n : b ≠ kS) : (hidK h kS).get? b = some o := hidT_get e (if_neg n)
section
variable {X : Cx} {pins : List (Addr × Obj)} {σ : L2.St} {H : Hp} {s : Shared} {A : Around} {E : Value → Shared → Prop}
theorem fp_of {pins pins' : List (Addr × Obj)} {H H' : Hp} {b : Addr} (f : FpOk X pins H b) (h : H' b = none) (hp : ∀ p ∈ pins', p ∈ pins) : FpOk X pins' H' b :=
  ⟨h, f.2.1, f.2.2.1, f.2.2.2.1, f.2.2.2.2.1, fun p hp' => f.2.2.2.2.2 p ((List.mem_append.mp hp').elim (fun z => List.mem_append_left _ z) fun z => List.mem_append_right _ (hp p z))⟩
theorem each_size {α : Type _} {R : Value → α → Prop} {vs : Array Value} {l : List α} (h : PySem.W.EachIs R vs.toList l) : vs.size = l.length := h.length
/-- what a key call must do -/
def KeyTurn (X : Cx) (A : Around) (σ : L2.St) (H : Hp) (f u : Value) (k : Int × Int) : Prop :=
  ∀ (pins' : List (Addr × Obj)) (s' : Shared) (H' : Hp), Inv X pins' σ H' s' → Ex H H' → wpAny (model X.prog X.w) A (call f [u]) (EP X pins' σ fun v H2 => Ex H' H2 ∧ KeyIs v H2 k) (fun _ _ => False) s'
theorem srt_rest {f : Value} {a kS : Addr} {e1 : Nat} {vs : List Value} {ks : List (Int × Int)} {P : PySem.Fin → Shared → Prop} (I : Inv X pins σ H s) (fa : FpOk X pins H a) (fk : FpOk X pins H kS)
    (nk : s.heap.get? kS = some (seqObj "list" #[] 0)) (na : s.heap.get? a = some (seqObj "list" #[] e1)) (hka : kS ≠ a) (hlen : ks.length = vs.length) (hZ : vs.length ≤ sizeLine) (hu : ∀ k ∈ ks, A.units + (kyD k).depth < cLine)
    (turn : ∀ (i : Nat) (u : Value) (k : Int × Int), vs[i]? = some u → ks[i]? = some k → KeyTurn X A σ H f u k)
    (h : ∀ (s' : Shared) (H' : Hp) (out : List Value) (c : Nat), Inv X pins σ H' s' → Ex H H' → H' a = none → s'.heap.get? a = some (seqObj "list" out.toArray c) → PySem.W.KeyedOut false (ks.map kyD) vs out → P (.done (.ret .none)) s') :
    wpAny (model X.prog X.w) A (ksk_rest a f false vs.toArray e1 (.ref kS)) P E s := by
  unfold ksk_rest
  apply wpAny_bind
  apply wpAny_rule
  rw [List.forIn_toArray]
  refine wpAny_bind (ksk_fold (fun i s' => ∃ H' kA e, Inv X pins σ H' s' ∧ Ex H H' ∧ H' a = none ∧ H' kS = none ∧ s'.heap.get? kS = some (seqObj "list" kA e) ∧ s'.heap.get? a = some (seqObj "list" #[] e1) ∧ PySem.W.EachIs (fun v k => ∃ p, v = Value.ref p ∧ H' p = some (.tup [.int k.1, .int k.2])) kA.toList (ks.take i)) vs 0 s
    ⟨H, #[], 0, I, Ex.refl H, fa.1, fk.1, nk, na, by rw [List.take_zero]; exact PySem.W.EachIs.nil⟩ ?step ?done)
  case step =>
    rintro j x s' hx ⟨H', kA, e, I', e', ha', hk', nk', na', hks⟩
    simp only [Nat.zero_add] at hks ⊢
    have hj := lt_at hx
    obtain ⟨k, hkj⟩ : ∃ k, ks[j]? = some k := ⟨_, List.getElem?_eq_getElem (by omega)⟩
    have kz := each_size hks
    rw [List.length_take] at kz
    have hz : kA.size ≤ sizeLine := by omega
    have hp1 : kA.size + 1 ≤ sizeLine + 1 := Nat.succ_le_succ hz
    have fk' : FpOk X pins H' kS := fp_of fk hk' fun _ z => z
    have fa' : FpOk X pins H' a := fp_of fa ha' fun _ z => z
    have Ip := I'.pinned (fp := [kS, a]) (fun b hb => by
      rcases in_cons hb with z | hb
      · rw [z]; exact fk'
      · rw [List.mem_singleton.mp hb]; exact fa') (fun b hb => by
      rcases in_cons hb with z | hb
      · rw [z]; exact ⟨_, nk', fun v z => by cases z⟩
      · rw [List.mem_singleton.mp hb]; exact ⟨_, na', fun v z => by cases z⟩)
    refine wpAny_bind (wpAny_attempt (wpAny_mono (turn j x k hx hkj _ s' H' Ip e') (fun v s'' he => ?_) fun _ _ hF => hF.elim))
    obtain ⟨w, H2, I2, rv, e2, p, rfl, hp⟩ := he
    cases rv
    try dsimp only
    have pk : (kS, seqObj "list" kA e) ∈ pins ++ pinsAt [kS, a] s'.heap := List.mem_append_right _ (mem_pinsAt (by simp) nk')
    have pa : (a, seqObj "list" #[] e1) ∈ pins ++ pinsAt [kS, a] s'.heap := List.mem_append_right _ (mem_pinsAt (by simp) na')
    obtain ⟨nk2, hk2, _⟩ := I2.pin _ (List.mem_append_right _ pk)
    obtain ⟨na2, ha2, _⟩ := I2.pin _ (List.mem_append_right _ pa)
    have nk2 : s''.heap.get? kS = some (seqObj "list" kA e) := nk2
    have na2 : s''.heap.get? a = some (seqObj "list" #[] e1) := na2
    have s1 := Heap.SameBut.update s''.heap kS (Obj.mapSeq (·.push (.ref p)))
    obtain ⟨c2, hc2⟩ : ∃ c2, (s''.heap.update kS (Obj.mapSeq (·.push (.ref p)))).get? kS = some (seqObj "list" (kA.push (.ref p)) c2) := ⟨_, get?_update_seq nk2 (·.push (.ref p))⟩
    have ek : ks.take (j + 1) = ks.take j ++ [k] := by rw [List.take_add_one, hkj]; simp
    have ea : (kA.push (.ref p)).toList = kA.toList ++ [.ref p] := by simp
    refine wpAny_bind (listUpdate_at nk2 rfl ?_ hz (by rw [Array.size_push]; exact hp1))
    have I3 : Inv X pins σ H2 s'' := I2.unpinned
    have fk2 : FpOk X pins H2 kS := fp_of fk hk2 fun _ z => z
    have I4 := I3.turnedL (t' := s''.toks) (h' := s''.heap.update kS (Obj.mapSeq (·.push (.ref p)))) (ch := [kS]) (fun b o hb q => (s1.2 b (fun z => hb (by simp [z]))).trans q) (fun b hb => by rw [List.mem_singleton.mp hb]; exact fk2)
    refine wpAny_pure ⟨rfl, H2, kA.push (.ref p), c2, I4, e'.trans e2, ha2, hk2, hc2, (s1.2 a hka.symm).trans na2, ?_⟩
    rw [ea, ek]
    refine PySem.W.each_snoc ⟨p, rfl, hp⟩ ?_
    exact hks.mono fun u d ⟨q, q1, q2⟩ => ⟨q, q1, e2 _ _ q2⟩
  case done =>
    rintro s' ⟨H', kA, e, I', e', ha', hk', nk', na', hks⟩
    have e3 : ks.take (0 + vs.length) = ks := List.take_of_length_le (by omega)
    rw [e3] at hks
    have hk3 : PySem.W.EachIs (fun v d => ∃ as, Reads s'.heap v d as) kA.toList (ks.map kyD) :=
      PySem.W.each_map (R := fun v d => ∃ as, Reads s'.heap v d as) kyD (hks.mono fun u d ⟨q, q1, q2⟩ => ⟨[], by rw [q1]; exact ky_reads I'.hok q2⟩)
    have keyed := (each_size hks).trans hlen
    have fk' : FpOk X pins H' kS := fp_of fk hk' fun _ z => z
    have fa' : FpOk X pins H' a := fp_of fa ha' fun _ z => z
    try dsimp only
    apply wpAny_bind
    refine listItems_at nk' rfl ?_
    refine PySem.W.keyH_end (κ := PySem.W.dataKind s'.heap (ks.map kyD)) (h₁ := hidK s'.heap kS) (fun b o _ q => (hidK_of q).1) (by
      cases q : (hidK s'.heap kS).get? kS with
      | none => rfl
      | some o => exact absurd rfl (hidK_of q).2) nk' na' hka (PySem.W.SortsAt.data hk3 (ky_alike ks) (ky_sortable ks) (fun d hd => by
      obtain ⟨k, hk, rfl⟩ := in_map hd
      exact hu k hk)) keyed hZ fun h3 tk3 c k3 n3 => ?_
    refine h _ H' _ c (I'.turnedL (ch := [kS, a]) (fun b o hb q => k3 b o (fun z => hb (by simp [z])) (hidK_get q fun z => hb (by simp [z]))) (fun b hb => ?_)) e' ha' n3 ⟨s'.heap, kA.toList, ky_alike ks, rfl, hk3⟩
    rcases in_cons hb with z | hb
    · rw [z]; exact fk'
    · rw [List.mem_singleton.mp hb]; exact fa'
end
theorem vals_each {β : Type} {g : β → V} : ∀ {us : List Value} {bs : List β}, PySem.W.EachIs (fun v b => L2.RelV (g b) v) us bs → Vals (bs.map g) us
  | _, _, .nil => .nil
  | _, _, .cons h t => .cons h (vals_each t)
theorem each_vals : ∀ {xs : List V} {us : List Value} {ks : List (Int × Int)}, Vals xs us → ks.length = xs.length → PySem.W.EachIs (fun v (b : V × (Int × Int)) => L2.RelV b.1 v) us (xs.zip ks)
  | _, _, [], .nil, _ => .nil
  | _, _, k :: ks, .nil, h => by cases h
  | _, _, [], .cons _ _, h => by cases h
  | _, _, k :: ks, .cons r t, h => .cons r (each_vals t (by simpa using h))
def ordK (p q : V × (Int × Int)) : Bool := decide (p.2.1 < q.2.1 ∨ (p.2.1 = q.2.1 ∧ p.2.2 ≤ q.2.2))
/-- the values sorted by their keys -/
def srtV (xs : List V) (ks : List (Int × Int)) : List V := ((xs.zip ks).mergeSort ordK).map Prod.fst
theorem srtV_len {xs : List V} {ks : List (Int × Int)} (h : ks.length = xs.length) : (srtV xs ks).length = xs.length := by
  unfold srtV
  rw [List.length_map, (List.mergeSort_perm _ _).length_eq, List.length_zip, h, Nat.min_self]
section
variable {X : Cx} {pins : List (Addr × Obj)} {σ : L2.St} {H : Hp} {s : Shared} {E : Value → Shared → Prop}
theorem srt_call {f l : Addr} {xs : List V} {ks : List (Int × Int)} {Q : VK} (I : Inv X pins σ H s) (hs : SqL X.K H l xs) (hk : ks.length = xs.length) (hu : ∀ k ∈ ks, X.A.in1.in1.units + (kyD k).depth < cLine)
    (turn : ∀ (i : Nat) (x : V) (k : Int × Int) (u : Value), xs[i]? = some x → ks[i]? = some k → L2.RelV x u → KeyTurn X X.A.in1.in1 σ H (.ref f) u k)
    (q : ∀ p H2, Ex H H2 → H p = none → H2 p = some (.lst (srtV xs ks)) → Q (.ref p) H2) :
    wpAny (model X.prog X.w) X.A (call (.builtin "sorted") [.ref l] [(Str.ofString "key", .ref f)]) (EP X pins σ Q) E s := by
  obtain ⟨its, rel, hl, hz⟩ := I.list hs
  have hil : its.length = xs.length := rel.length.symm
  have hZ : its.length ≤ sizeLine := by rw [hil]; exact hz
  refine PySem.W.sorted_of_sort hl.isList hZ (ksk_s1 _ _) (fun _ => ksk_l1 _ _) fun E' => ?_
  rw [ksk_t1]
  have ho := PySem.W.copyHeap_at s.heap its
  have ha : s.heap.objs.size + 1 < (PySem.W.copyHeap s.heap its).objs.size := Heap.lt_size ho
  obtain ⟨e1, ho1⟩ : ∃ e1, ((PySem.W.copyHeap s.heap its).update (s.heap.objs.size + 1) (Obj.mapSeq fun _ => (#[] : Array Value))).get? (s.heap.objs.size + 1) = some (seqObj "list" #[] e1) := ⟨_, get?_update_seq ho fun _ => #[]⟩
  have hkS : (((PySem.W.copyHeap s.heap its).update (s.heap.objs.size + 1) (Obj.mapSeq fun _ => (#[] : Array Value))).push (seqObj "tuple" its.toArray 0)).objs.size = (PySem.W.copyHeap s.heap its).objs.size + 1 := by rw [size_push', Heap.size_update]
  unfold ksk_tree
  have held : its.toArray.size ≤ sizeLine := hZ
  apply wpAny_bind
  refine listItems_at ho rfl ?_
  apply wpAny_bind
  refine listUpdate_at ho rfl ?_ held (Nat.zero_le _)
  apply wpAny_bind
  refine seqEpoch_at ho1 rfl ?_
  apply wpAny_bind
  refine wpAny_newTuple ?_ held
  apply wpAny_bind
  refine wpAny_newList ?_ (Nat.zero_le _)
  apply wpAny_holding
  have kp : ∀ b o, s.heap.get? b = some o → ((((PySem.W.copyHeap s.heap its).update (s.heap.objs.size + 1) (Obj.mapSeq fun _ => (#[] : Array Value))).push (seqObj "tuple" its.toArray 0)).push (seqObj "list" #[] 0)).get? b = some o := fun b o e => by
    have hb : b < s.heap.objs.size := Heap.lt_size e
    refine Heap.get?_push_of_some _ (Heap.get?_push_of_some _ ?_)
    rw [Heap.get?_update_ne _ _ _ _ (Nat.ne_of_lt (Nat.lt_succ_of_lt hb))]
    exact PySem.W.copyHeap_old e
  have hsz : s.heap.objs.size ≤ (((PySem.W.copyHeap s.heap its).update (s.heap.objs.size + 1) (Obj.mapSeq fun _ => (#[] : Array Value))).push (seqObj "tuple" its.toArray 0)).objs.size := by rw [hkS]; omega
  have hka : (((PySem.W.copyHeap s.heap its).update (s.heap.objs.size + 1) (Obj.mapSeq fun _ => (#[] : Array Value))).push (seqObj "tuple" its.toArray 0)).objs.size ≠ s.heap.objs.size + 1 := by rw [hkS]; omega
  have fA : FpOk X pins H (s.heap.objs.size + 1) := I.fpOk (Nat.le_succ _) (I.hok.fresh (Nat.le_succ _))
  have fK : FpOk X pins H (((PySem.W.copyHeap s.heap its).update (s.heap.objs.size + 1) (Obj.mapSeq fun _ => (#[] : Array Value))).push (seqObj "tuple" its.toArray 0)).objs.size := I.fpOk hsz (I.hok.fresh hsz)
  refine srt_rest (ks := ks) (I.kept kp) fA fK (Heap.get?_push_size _ rfl) (Heap.get?_push_of_some _ (Heap.get?_push_of_some _ ho1)) hka (by rw [hil]; exact hk) hZ hu (fun i u k hi hki => ?_) fun s' H' out c I' e' ha' n3 ko => ⟨rfl, ?_⟩
  · have hx : i < xs.length := by
      have := lt_at hi
      omega
    obtain ⟨u', hu', r⟩ := rel.get (List.getElem?_eq_getElem hx)
    rw [hi] at hu'
    cases hu'
    exact turn i _ k u (List.getElem?_eq_getElem hx) hki r
  · have em : (xs.zip ks).map (fun b => kyD b.2) = ks.map kyD := by
      have h1 : (xs.zip ks).map Prod.snd = ks := List.map_snd_zip (by omega)
      have h2 : (xs.zip ks).map (fun b => kyD b.2) = ((xs.zip ks).map Prod.snd).map kyD := by rw [List.map_map]; rfl
      rw [h2, h1]
    have hR := PySem.W.keyedOut_each (rev := false) (R := fun v (b : V × (Int × Int)) => L2.RelV b.1 v) (bs := xs.zip ks) (vs := its) (out := out) (fun b => kyD b.2) (by rw [em]; exact ko) (each_vals rel hk)
    rw [PySem.W.dataLe_ii (β := V × (Int × Int)) (fun b => b.2.1) (fun b => b.2.2)] at hR
    have hv : Vals (srtV xs ks) out := vals_each (g := Prod.fst) hR
    have fA' : FpOk X pins H' (s.heap.objs.size + 1) := fp_of fA ha' fun _ z => z
    have I5 := I'.take (o := .lst (srtV xs ks)) (t' := s'.toks) (fun b ob _ e => e) fA' ⟨by rw [srtV_len hk]; exact hz, out, c, hv, n3⟩
    exact ⟨.ref _, _, I5, rfl, q _ _ (e'.trans (Ex.new ha')) (I.hok.fresh (Nat.le_succ _)) upd_same⟩
end
end Lk
set_option Elab.async false
set_option maxRecDepth 100000
set_option maxHeartbeats 5000000
set_option linter.all false
/-! A lambda with parameters: made, called, handed to sorted. -/
namespace Lk
open PySem PySem.Spec PyProof.Rows L2 LamX NdefX
open Evl (Ex)
/-- the function that a lambda's evaluation made -/
def LnO (f : Addr) (F : NF) (body : Expr) : HO := .ext fun h => ∃ pm ctv, h.get? f = some (PySem.W.kla_obj "<lambda>" F.qual F.params body F.scope F.cl pm F.c ctv)
section
variable {X : Cx} {s : Shared} {pins : List (Addr × Obj)} {H : Hp} {σ : L2.St}
theorem inv_lam {F : NF} {body : Expr} {o : Obj} {t' : Nat} {pm ctv : Value} (I : Inv X pins σ H s) (ho : o = PySem.W.kla_obj "<lambda>" F.qual F.params body F.scope F.cl pm F.c ctv) :
    Inv X pins σ (upd H s.heap.objs.size (LnO s.heap.objs.size F body)) { s with heap := s.heap.push o, toks := t' } := by
  subst ho
  have z : (s.heap.push (PySem.W.kla_obj "<lambda>" F.qual F.params body F.scope F.cl pm F.c ctv)).get? s.heap.objs.size = some (PySem.W.kla_obj "<lambda>" F.qual F.params body F.scope F.cl pm F.c ctv) := Heap.get?_push_size _ rfl
  refine I.laid (a := s.heap.objs.size) (fun b u q => Heap.get?_push_of_some _ q) (Nat.le_refl _) ⟨⟨pm, ctv, z⟩, ⟨_, z⟩, ?_⟩
  rintro h1 h2 ⟨pm', ctv', q⟩ st
  exact ⟨pm', ctv', st _ q⟩
theorem lam_makeN {T : List NTab} {nm : Nat → Nat → Str} {c P : Addr} {params : Arguments} {body : Expr} {scope : Scope} {pos : Pos} {Er Qv : Value → Shared → Prop} (I : Inv X pins σ H s) (TB : TabB X.base X.mg c P) (hcode : X.env.code = .ref c)
    (hm : (P, nm) ∈ T) (hn : nm pos.line pos.col = X.env.qual ++ "<lambda>") (hu : ∀ p ∈ T, p.1 = P → p.2 = nm) (hT : TabsN T H) (hdef : defaultsOf params X.env = ([], [])) (hfree : ∀ y ∈ scope.names, y.2 = .free → ∃ c, X.env.cells.lookup y.1 = some c)
    (h : ∀ (f c' : Addr) (H1 : Hp) (s' : Shared), Inv X pins σ H1 s' → ExtN H H1 → (∀ b, H1 b = Option.none → H b = Option.none) → TabsN T H1 → H f = none → H1 f = some (LnO f ⟨"<lambda>", X.env.qual ++ "<lambda>", params, [], scope, cloFrom X.env.cells scope.names [], c'⟩ body) → H1 c' = some (CodeO c' (X.env.qual ++ "<lambda>")) → Qv (.ref f) s') :
    wpAny (model X.prog X.w) X.A (eval (.Lambda params body scope pos) X.env) Qv Er s := by
  obtain ⟨ps, tP, tri, tell⟩ := (show TabN H P nm from hT _ hm)
  have atB : s.heap.BuiltinsAt X.mg P := TB.bm.keeps I.bk
  have atP : s.heap.get? P = some { cls := .none, data := .fields ps } := I.hok P _ tP
  apply PySem.W.kla_eval hdef
  match hc : codeAmong pos ps.toList with
  | some cv =>
    obtain ⟨c', e, hco⟩ := tell pos cv hc
    subst e
    rw [hn] at hco
    refine PySem.W.kla_makeFunctionHit (ps := ps) (P := P) (c := c) (mg := X.mg) (closure_ok hfree) I.ok.glob (I.mod.glob.keeps I.bk) hcode (TB.code.keeps I.bk) atP tri hc atB fun ctv h' tk hx hsz => ?_
    have J1 : Inv X pins σ H { s with heap := h', toks := tk } := I.kept hx
    have new : H h'.objs.size = none := J1.hok.fresh (Nat.le_refl _)
    have J2 := inv_lam (F := ⟨"<lambda>", X.env.qual ++ "<lambda>", params, [], scope, cloFrom X.env.cells scope.names [], c'⟩) (body := body) (t' := tk) (pm := (X.mg "__name__").getD .none) (ctv := ctv) J1 rfl
    have up : ∀ b o, H b = some o → upd H h'.objs.size (LnO h'.objs.size ⟨"<lambda>", X.env.qual ++ "<lambda>", params, [], scope, cloFrom X.env.cells scope.names [], c'⟩ body) b = some o := fun b o e => (upd_ne (ne_of_none e new)).trans e
    exact h h'.objs.size c' _ _ J2 (ExtN.of up) (fun b e => upd_none e) (hT.ext up) new upd_same (up _ _ hco)
  | none =>
    refine PySem.W.kla_makeFunction (ps := ps) (P := P) (c := c) (mg := X.mg) (closure_ok hfree) I.ok.glob (I.mod.glob.keeps I.bk) hcode (TB.code.keeps I.bk) atP tri hc TB.gP atB fun c' ctv h' tk hx hge hlt hrec htb => ?_
    obtain ⟨_, oc, vs, t, ec, co⟩ := hrec
    cases ec
    have newC : H c' = none := I.hok.fresh hge
    have J1 := inv_table (t' := tk) (more := #[rawInt pos.line, rawInt pos.col, .ref c']) (h' := h') I tP (fun b o hb q => hx b o hb q) htb hge ⟨oc, vs, t, co⟩
    generalize hH1 : upd (upd H P (.tbl (ps ++ #[rawInt pos.line, rawInt pos.col, .ref c']))) c' (CodeO c' (X.env.qual ++ "<lambda>")) = H1 at J1
    have atC : H1 c' = some (CodeO c' (X.env.qual ++ "<lambda>")) := by rw [← hH1, upd_same]
    have atT : H1 P = some (.tbl (ps ++ #[rawInt pos.line, rawInt pos.col, .ref c'])) := by rw [← hH1, upd_ne (ne_of_none tP newC), upd_same]
    have ext1 : ExtN H H1 := fun b o q n => by
      rw [← hH1, upd_ne (ne_of_none q newC), upd_ne fun z => n ps (Option.some.inj (q.symm.trans (by rw [z]; exact tP)))]
      exact q
    have elist : (ps ++ #[rawInt pos.line, rawInt pos.col, .ref c']).toList = ps.toList ++ [rawInt pos.line, rawInt pos.col, .ref c'] := by simp
    have tabs1 : TabsN T H1 := fun p hp => by
      by_cases hb : p.1 = P
      · rw [hu p hp hb, hb]
        refine ⟨_, atT, by rw [elist]; exact PySem.TriplesOk_snoc _ _ _ _ tri, fun p' cv hcv => ?_⟩
        rw [elist] at hcv
        rcases among_app2 _ tri hcv with z | ⟨z, z1, z2⟩
        · obtain ⟨c0, q1, q2⟩ := tell p' cv z
          exact ⟨c0, q1, ext1 _ _ q2 codeO_ne⟩
        · exact ⟨c', z, by rw [← z1, ← z2, hn]; exact atC⟩
      · have ⟨qs, a1, a2, a3⟩ := hT p hp
        have a1' : H1 p.1 = some (.tbl qs) := by rw [← hH1, upd_ne (ne_of_none a1 newC), upd_ne hb]; exact a1
        refine ⟨qs, a1', a2, fun p' cv hcv => ?_⟩
        obtain ⟨c0, q1, q2⟩ := a3 p' cv hcv
        exact ⟨c0, q1, ext1 _ _ q2 codeO_ne⟩
    have newF : H1 h'.objs.size = none := J1.hok.fresh (Nat.le_refl _)
    have J2 := inv_lam (F := ⟨"<lambda>", X.env.qual ++ "<lambda>", params, [], scope, cloFrom X.env.cells scope.names [], c'⟩) (body := body) (t' := tk) (pm := (X.mg "__name__").getD .none) (ctv := ctv) J1 rfl
    have up : ∀ b o, H1 b = some o → upd H1 h'.objs.size (LnO h'.objs.size ⟨"<lambda>", X.env.qual ++ "<lambda>", params, [], scope, cloFrom X.env.cells scope.names [], c'⟩ body) b = some o := fun b o e => (upd_ne (ne_of_none e newF)).trans e
    exact h h'.objs.size c' _ _ J2 (fun b o q n => up _ _ (ext1 b o q n)) (fun b e => by
      have e := upd_none e
      rw [← hH1] at e
      exact upd_none (upd_none e)) (tabs1.ext up) (I.hok.fresh (Nat.le_trans hge (Nat.le_of_lt hlt))) upd_same (up _ _ atC)
end
/-! ### the lambda called -/
theorem lnO_at {P : Program} {w : World} {H : Hp} {h : Heap} {f : Addr} {F : NF} {body : Expr} (hok : HOk P w H h) (e : H f = some (LnO f F body)) : ∃ pm ctv, h.get? f = some (PySem.W.kla_obj "<lambda>" F.qual F.params body F.scope F.cl pm F.c ctv) := (hok f _ e).1
section
variable {P : Program} {w : World} {K : PySem.W.Frag} {mg : Str → Option Value} {base : Heap} {N ps fr : List Str} {F : NF} {body : Expr} {f : Addr} {k : Nat}
theorem lam_run {A : Around} {outer : List Env} {s : Shared} {H : Hp} {us : List Value} {vs : List V} {ws : List (Option V)} {Q : VK} {tb : TE} (S : NScope N ps fr F.scope)
    (hb : ∀ (pm ctv : Value), bindArgs (PySem.W.kla_fn "<lambda>" F.qual F.params body F.scope F.cl pm (.ref F.c) ctv) ⟨us, []⟩ = pure (ps.zip us)) (hr : Room (k + 1) A) (e0 : Env0 P w K mg base A outer s H)
    (hf : H f = some (LnO f F body)) (hc : H F.c = some (CodeO F.c F.qual)) (C : CellsAt F.cl fr ws s.heap H) (hl : vs.length = ps.length) (r : Vals vs us)
    (hbody : Room k (A.deeper (envF F f s.heap.objs.size)) → PE (ncx C8.CX0 P w K mg base N F f A outer s H C8.E0) body tb) (q : tb (startF N vs ws) H Q) :
    codeAny (model P w) A (.call (.ref f) ⟨us, []⟩) (CR C8.CX0 outer P w H s Q C8.E0) s := by
  obtain ⟨pm, ctv, ho⟩ := lnO_at e0.hok hf
  have nolim : s.heap.NoLimit := e0.mod.nolimit.keeps fun b o q => (e0.bs b o q).1
  refine PySem.W.kla_callFunE hr.depth ho rfl S.co S.gen rfl (codeO_at e0.hok hc) ?_
  show wpAny _ _ (bindArgs (PySem.W.kla_fn "<lambda>" F.qual F.params body F.scope F.cl pm (.ref F.c) ctv) ⟨us, []⟩) _ _ _
  rw [hb pm ctv]
  refine wpAny_pure (wpAny_newFunctionEnv S.nocell (fun ⟨n, _⟩ hy => S.par n (List.of_mem_zip hy).1) (fun h₁ hns hsb => ⟨nolim.fresh _ hsb, ?_⟩) S.kind)
  have kept : ∀ b o, s.heap.get? b = some o → h₁.get? b = some o := fun b o q => hsb.extBut b o (Nat.ne_of_lt (Heap.lt_size q)) (Heap.get?_push_of_some _ q)
  have I : Inv (ncx C8.CX0 P w K mg base N F f A outer s H C8.E0) [] (startF N vs ws) H { s with heap := h₁, toks := s.toks + (ps.zip us).length } := inv_startN S hr.hd e0 hl r C hns kept
  show codeAny _ _ (.expr body (envF F f s.heap.objs.size)) _ _
  refine PySem.W.kla_codeExpr (wpAny_mono ((hbody (hr.deeper _)).run [] _ _ H Q I q) (fun v s' hq => ?_) fun e s' hq => hq)
  obtain ⟨x, H', J, rv, hx⟩ := hq
  exact ⟨x, H', J.os, J.bare, J.base, J.hok, rv, hx⟩
end
end Lk
set_option Elab.async false
set_option maxRecDepth 100000
set_option maxHeartbeats 5000000
set_option linter.all false
/-! sorted(xs, key=lambda ..: ..) as an expression; a function that a captured name holds, called. -/
namespace Lk
open PySem PySem.Spec PyProof.Rows L2 LamX NdefX
open Evl (Ex)
def tLamN (T : List NTab) (mk : Addr → NF) (body : Expr) : TE := fun σ H Q => TabsN T H ∧ ∀ (f c' : Addr) (H1 : Hp), ExtN H H1 → (∀ b, H1 b = Option.none → H b = Option.none) → TabsN T H1 → H f = none → H1 f = some (LnO f (mk c') body) → H1 (mk c').c = some (CodeO (mk c').c (mk c').qual) → Q (.ref f) H1
/-- sorted(e, key=<a lambda>): in tb what the lambda's body gives -/
def tSortL (K : PySem.W.Frag) (T : List NTab) (mk : Addr → NF) (body : Expr) (N : List Str) (js jc : List Nat) (tb : List (Option V) → TE) (te : TE) : TE := fun σ H Q => te σ H fun x H1 => tLamN T mk body σ H1 fun y H2 =>
  ∃ (l : Addr) (xs : List V) (ks : List (Int × Int)) (f c' : Addr), x = .ref l ∧ y = .ref f ∧ H2 f = some (LnO f (mk c') body) ∧ H2 (mk c').c = some (CodeO (mk c').c (mk c').qual) ∧ SqL K H2 l xs ∧ ks.length = xs.length ∧
    (∀ (i : Nat) (x : V) (k : Int × Int), xs[i]? = some x → ks[i]? = some k → ∀ H3, Ex H2 H3 → tb (jc.map (slotAt σ)) (startF N [x] (js.map (slotAt σ))) H3 fun v H4 => Ex H3 H4 ∧ KeyIs v H4 k) ∧
    ∀ p H3, Ex H2 H3 → H2 p = none → H3 p = some (.lst (srtV xs ks)) → Q (.ref p) H3
theorem kyD_depth (k : Int × Int) : (kyD k).depth ≤ 3 := by
  show PyData.depth (.tuple [.int k.1, .int k.2]) ≤ 3
  first
    | decide
    | simp [PyData.depth, PyData.depthAll]
section
variable {X : Cx}
theorem pe_lamN {T : List NTab} {nm : Nat → Nat → Str} {c P : Addr} {params : Arguments} {body : Expr} {scope : Scope} {pos : Pos} (TB : TabB X.base X.mg c P) (hcode : X.env.code = .ref c) (hm : (P, nm) ∈ T) (hn : nm pos.line pos.col = X.env.qual ++ "<lambda>") (hu : ∀ p ∈ T, p.1 = P → p.2 = nm)
    (hdef : defaultsOf params X.env = ([], [])) (hfree : ∀ y ∈ scope.names, y.2 = .free → X.env.scope.names.lookup y.1 = some .cell ∨ X.env.scope.names.lookup y.1 = some .free) :
    PE X (.Lambda params body scope pos) (tLamN T (fun c' => ⟨"<lambda>", X.env.qual ++ "<lambda>", params, [], scope, cloFrom X.env.cells scope.names [], c'⟩) body) := by
  refine ⟨fun pins s σ H Q I h => ?_⟩
  obtain ⟨hT, h⟩ := h
  exact lam_makeN I TB hcode hm hn hu hT hdef (fun y hy e => (hfree y hy e).elim (fun z => I.ok.has _ (.inl z)) fun z => I.ok.has _ (.inr z)) fun f c' H1 s' I1 eN nn T1 f0 f1 c1 => ⟨V.ref f, H1, I1, rfl, h f c' H1 eN nn T1 f0 f1 c1⟩
theorem pe_sortL {T : List NTab} {nm : Nat → Nat → Str} {c P : Addr} {params : Arguments} {body xe : Expr} {scope : Scope} {p pos kpos lpos : Pos} {te : TE} {N fr frC : List Str} {x0 : Str} {js jc : List Nat} {clC : List (Str × Addr)} {tb : List (Option V) → TE} {k : Nat}
    (hg : Gl X "sorted") (hm0 : X.mg "sorted" = none) (hxe : PA X [xe] (tCons te tNil)) (TB : TabB X.base X.mg c P) (hcode : X.env.code = .ref c) (hm : (P, nm) ∈ T) (hn : nm lpos.line lpos.col = X.env.qual ++ "<lambda>") (hu : ∀ p ∈ T, p.1 = P → p.2 = nm)
    (hdef : defaultsOf params X.env = ([], [])) (hfree : ∀ y ∈ scope.names, y.2 = .free → X.env.scope.names.lookup y.1 = some .cell ∨ X.env.scope.names.lookup y.1 = some .free) (hfr : ∀ y ∈ fr, (y, NameKind.free) ∈ scope.names) (hjs : js.map (fun j => X.N[j]?) = fr.map some)
    (S : NScope N [x0] fr scope) (hb : ∀ (q : Str) (cl : List (Str × Addr)) (pm cv ctv u : Value), bindArgs (PySem.W.kla_fn "<lambda>" q params body scope cl pm cv ctv) ⟨[u], []⟩ = pure [(x0, u)]) (hr : Room (k + 3) X.A) (hfn : ∀ y, X.fn y = true) (hxx : X.ex = [])
    (cpC : X.Ok → Caps X clC frC jc)
    (hbody : ∀ (f c' : Addr) (A : Around) (outer : List Env) (s : Shared) (H : Hp) (ws : List (Option V)), Room k (A.deeper (envF ⟨"<lambda>", X.env.qual ++ "<lambda>", params, [], scope, cloFrom X.env.cells scope.names [], c'⟩ f s.heap.objs.size)) → CellsAt clC frC ws s.heap H → (∀ y a, clC.lookup y = some a → a ∉ frs outer) →
      PE (ncx C8.CX0 X.prog X.w X.K X.mg X.base N ⟨"<lambda>", X.env.qual ++ "<lambda>", params, [], scope, cloFrom X.env.cells scope.names [], c'⟩ f A outer s H C8.E0) body (tb ws))
    (hpl : (backTo pos (starEach [xe] X.env)).any (·.1) = false := by rfl) (he : backTo pos (starEach [xe] X.env) = (false, eval xe X.env) :: backTo pos (starEach [] X.env) := by rfl)
    (hall : (backToKw pos (keywordEach [⟨some "key", .Lambda params body scope lpos, kpos⟩] X.env)).all (·.1.isSome) = true := by rfl) (hnone : (backToKw pos (keywordEach [⟨some "key", .Lambda params body scope lpos, kpos⟩] X.env)).any (·.1.isNone) = false := by rfl)
    (hks : (backToKw pos (keywordEach [⟨some "key", .Lambda params body scope lpos, kpos⟩] X.env)).filterMap (·.1) = [Str.ofString "key"] := by rfl) :
    PE X (.Call (.Name "sorted" p) [xe] [⟨some "key", .Lambda params body scope lpos, kpos⟩] pos) (tSortL X.K T (fun c' => ⟨"<lambda>", X.env.qual ++ "<lambda>", params, [], scope, cloFrom X.env.cells scope.names [], c'⟩) body N js jc tb te) := by
  have hk : PK X [⟨some "key", .Lambda params body scope lpos, kpos⟩] (tCons (tLamN T (fun c' => ⟨"<lambda>", X.env.qual ++ "<lambda>", params, [], scope, cloFrom X.env.cells scope.names [], c'⟩) body) tNil) := pk_cons (pe_lamN TB hcode hm hn hu hdef hfree) pk_nil
  refine ⟨fun pins s σ H Q I h => ?_⟩
  refine wpAny_Call_Name_kw (ld_blt I hg hm0 boot_sorted ?_)
  let fin : V → V → Hp → Prop := fun x y H2 => ∃ (l : Addr) (xs : List V) (ks : List (Int × Int)) (f c' : Addr), x = .ref l ∧ y = .ref f ∧ H2 f = some (LnO f ⟨"<lambda>", X.env.qual ++ "<lambda>", params, [], scope, cloFrom X.env.cells scope.names [], c'⟩ body) ∧ H2 c' = some (CodeO c' (X.env.qual ++ "<lambda>")) ∧ SqL X.K H2 l xs ∧ ks.length = xs.length ∧
    (∀ (i : Nat) (x : V) (k : Int × Int), xs[i]? = some x → ks[i]? = some k → ∀ H3, Ex H2 H3 → tb (jc.map (slotAt σ)) (startF N [x] (js.map (slotAt σ))) H3 fun v H4 => Ex H3 H4 ∧ KeyIs v H4 k) ∧
    ∀ p H3, Ex H2 H3 → H2 p = none → H3 p = some (.lst (srtV xs ks)) → Q (.ref p) H3
  refine PyProof.Rows.callWith_kw (thn (hxe.run pos pins s σ H (fun vs H1 => match vs with | [x] => tLamN T (fun c' => ⟨"<lambda>", X.env.qual ++ "<lambda>", params, [], scope, cloFrom X.env.cells scope.names [], c'⟩) body σ H1 (fin x) | _ => False) I h) fun us s1 ⟨vs, H1, I1, r1, q1⟩ => ?_) he hpl hall hnone
  match vs, q1 with
  | [x], q1 =>
    refine thn (hk.run pos pins s1 σ H1 (fun zs H2 => match zs with | [y] => fin x y H2 | _ => False) I1 q1) fun wz s2 ⟨zs, H2, I2, r2, q2⟩ => ?_
    match zs, q2 with
    | [y], q2 =>
      obtain ⟨l, xs, ks, f, c', rfl, rfl, hf, hc, hl, hlen, turn, q⟩ := q2
      obtain rfl := Vals.ref1 r1
      obtain rfl := Vals.ref1 r2
      rw [hks]
      show wpAny _ _ (call (.builtin "sorted") [.ref l] [(Str.ofString "key", .ref f)]) _ _ _
      refine srt_call I2 hl hlen (fun k' _ => ?_) (fun i x k' u hx hki r => ?_) q
      · have h1 := kyD_depth k'
        have h2 := hr.un
        show X.A.units + 1 + 1 + (kyD k').depth < cLine
        omega
      · intro pins' s' H' I' e'
        have hfree' : ∀ y ∈ scope.names, y.2 = .free → ∃ a, X.env.cells.lookup y.1 = some a := fun y hy e => (hfree y hy e).elim (fun z => I'.ok.has _ (.inl z)) fun z => I'.ok.has _ (.inr z)
        have capL : Caps X (cloFrom X.env.cells scope.names []) fr js := Caps.made I'.ok hfree hfr hjs
        have room : Room (k + 1) X.A.in1.in1 := (hr.in1).in1
        have capC := cpC I'.ok
        have lr := lam_run (P := X.prog) (w := X.w) (K := X.K) (mg := X.mg) (base := X.base) (N := N) (ps := [x0]) (fr := fr) (F := ⟨"<lambda>", X.env.qual ++ "<lambda>", params, [], scope, cloFrom X.env.cells scope.names [], c'⟩) (body := body) (f := f) (k := k)
          (A := X.A.in1.in1) (outer := X.stack) (s := s') (H := H') (us := [u]) (vs := [x]) (ws := js.map (slotAt σ)) (tb := tb (jc.map (slotAt σ))) S (fun pm ctv => hb _ _ _ _ _ _) room I'.env0.in1.in1 (e' _ _ hf) (e' _ _ hc) (cells_of I' capL) rfl (.cons r .nil)
          (fun hr' => hbody f c' _ _ s' H' _ hr' (cells_of I' capC) fun y a ha hm' => ?_) (turn i x k' hx hki H' e')
        · refine wpAny_call (codeAny_mono lr fun r s'' hq => ?_)
          cases r with
          | error e => exact hq.elim
          | ok fl =>
            cases fl with
            | ret u => exact I'.after hq
            | next => exact False.elim hq
            | brk => exact False.elim hq
            | cont => exact False.elim hq
        · have hcell := capC.sub y a ha
          rcases List.mem_cons.mp (I'.stkSub a hm') with z | z
          · exact I'.cne y a hcell z
          · obtain ⟨_, o, ho, _⟩ := I'.ok.funs.mem z
            exact absurd (Nat.lt_of_lt_of_le (Heap.lt_size ho) (I'.ok.cab y a (hfn y) hcell)) (Nat.lt_irrefl _)
end
/-! ### a function that a captured name holds, called: its own captured names are not seen here -/
section
variable {X : Cx} {mk : Addr → NF} {cl : List (Str × Addr)} {ps fr : List Str} {i j k : Nat} {x : Str} {sp : Addr → Addr → List (Option V) → Sp} {t : TA} {e : Expr} {es : List Expr} {p pos : Pos} {ws : List (Option V)}
def tCallX (mk : Addr → NF) (i : Nat) (ws : List (Option V)) (sp : Addr → Addr → List (Option V) → Sp) (t : TA) : TE := fun σ H Q => ∃ f c', σ[i]? = some (some (.ref f)) ∧ H f = some (FnO f (mk c')) ∧
  t σ H fun vs H1 => H1 f = some (FnO f (mk c')) ∧ H1 (mk c').c = some (CodeO (mk c').c (mk c').qual) ∧ sp f c' ws vs H1 Q C8.E0
theorem pe_callX (Fn : ∀ f c', NOk X.prog X.w X.K X.mg X.base C8.CX0 k f (mk c') ps fr (sp f c')) (hcl : ∀ c', (mk c').cl = cl) (C : CellsAt cl fr ws X.s_0.heap X.H_0) (nf : ∀ y c, cl.lookup y = some c → c ∉ X.fs) (nx : ∀ y c, cl.lookup y = some c → c ∉ X.ex) (hr : Room j X.A) (hk : k ≤ j)
    (hN : X.N[i]? = some x) (hv : Vis X.env.scope x) (ha : PA X (e :: es) t) (hd : (x == ("__debug__" : Str)) = false := by decide) (hcd : (x == ("__classdict__" : Str)) = false := by decide)
    (he : starEach (e :: es) X.env = (false, eval e X.env) :: starEach es X.env := by rfl) (hpl : (backTo pos (starEach es X.env)).any (·.1) = false := by rfl) : PE X (.Call (.Name x p) (e :: es) [] pos) (tCallX mk i ws sp t) := by
  refine ⟨fun pins s σ H Q I h => ?_⟩
  have ⟨f, c', at_i, hf, ht⟩ := h
  refine wpAny_Call_Name_kw (thn ((pe_var (pos := p) hN hv hd hcd).run pins s σ H (fun v H1 => v = .ref f ∧ H1 = H) I ⟨.ref f, at_i, rfl, rfl⟩) fun u s1 ⟨v, H1, I1, r1, ev, eH⟩ => ?_)
  subst ev
  rw [eH] at I1
  cases r1
  refine PySem.W.callWith_F (first := []) (fnAt_of I1 hf) (thn (ha.run pos pins s1 σ H _ I1 ht) ?args) he hpl
  rintro us s2 ⟨vs, H2, I2, r, h1, h2, q⟩
  refine ⟨fnAt_of I2 h1, ?_⟩
  change wpAny _ _ (call (.ref f) us) _ _ _
  have C2 : CellsAt (mk c').cl fr ws s2.heap H2 := by
    rw [hcl c']
    exact C.later nf nx I2
  refine wpAny_call (codeAny_mono ((Fn f c').run X.A X.stack s2 H2 us vs ws Q C8.E0 (hr.mono hk) I2.env0 h1 h2 C2 r q) fun r s' hq => ?_)
  cases r with
  | error e => exact hq.elim
  | ok fl =>
    cases fl with
    | ret u => exact I2.after hq
    | next => exact False.elim hq
    | brk => exact False.elim hq
    | cont => exact False.elim hq
end
end Lk
set_option Elab.async false
set_option maxRecDepth 100000
set_option maxHeartbeats 5000000
set_option linter.all false
/-! The two defs with a sort: their texts' places, readings and derivations. -/
namespace Lk
open PySem PySem.Spec PyProof.Rows L2 LamX NdefX
open Evl (rLenS)
def xRet : Stmt → Expr
  | .Return (some e) _ => e
  | _ => .Tuple [] 0 ⟨0, 0, 0, 0⟩
def xSub : Expr → Expr
  | .Subscript v _ _ => v
  | e => e
def xKw : Expr → Expr
  | .Call _ _ (k :: _) _ => k.value
  | e => e
def laP : Expr → Arguments
  | .Lambda p _ _ _ => p
  | _ => ⟨.nil, .nil, .none, .nil, .nil, .none, .nil⟩
def laB : Expr → Expr
  | .Lambda _ b _ _ => b
  | e => e
def laS : Expr → Scope
  | .Lambda _ _ s _ => s
  | _ => ⟨.function, .nil, true, true, .nil⟩
abbrev la_R : Expr := xKw (xSub (xRet ((C8.fnBody s_recommended).getD 2 (.Pass ⟨0, 0, 0, 0⟩))))
abbrev la_S : Expr := xKw (xSub (xRet ((C8.fnBody s_similar_rows).getD 6 (.Pass ⟨0, 0, 0, 0⟩))))
abbrev s_closeness : Stmt := (C8.fnBody s_similar_rows).getD 5 (.Pass ⟨0, 0, 0, 0⟩)
abbrev n_closeness : List Str := ["other", "common", "own", "rows", "product"]
abbrev n_laR : List Str := ["pair"]
abbrev n_laS : List Str := ["other", "closeness"]
theorem sc_closeness : NScope n_closeness ["other"] ["common", "own", "rows"] (C8.fnScope s_closeness) := nscope_by (by decide +kernel)
theorem sc_laR : NScope n_laR ["pair"] [] (laS la_R) := nscope_by (by decide +kernel)
theorem sc_laS : NScope n_laS ["other"] ["closeness"] (laS la_S) := nscope_by (by decide +kernel)
/-- the code objects of the two defs, their tables -/
structure Tw where
  cr : Addr
  pr : Addr
  cs : Addr
  ps : Addr
def nmR : Nat → Nat → Str := fun _ _ => ("recommended" : Str) ++ ".<locals>." ++ "<lambda>"
def nmS : Nat → Nat → Str := fun l _ => if l = 182 then ("similar_rows" : Str) ++ ".<locals>." ++ "<lambda>" else ("similar_rows" : Str) ++ ".<locals>." ++ "closeness"
def Tw.T (w : Tw) : List NTab := [(w.pr, nmR), (w.ps, nmS)]
def mkL (env : Env) (e : Expr) : Addr → NF := fun c' => ⟨"<lambda>", env.qual ++ "<lambda>", laP e, [], laS e, cloFrom env.cells (laS e).names [], c'⟩
def mkC (env : Env) : Addr → NF := NF.of s_closeness "closeness" (env.qual ++ "closeness") (cloFrom env.cells (C8.fnScope s_closeness).names [])
/-! ### recommended -/
def tb_R (c : Cs) : List (Option V) → TE := fun _ => tTup (tCons (tUn rNeg (tOp (rIxT c.K) (tVar 0) (tC (.int 1)))) (tCons (tOp (rIxT c.K) (tVar 0) (tC (.int 0))) tNil))
def t_recommended (c : Cs) (T : List NTab) (mk : Addr → NF) (sp_prediction : Sp) : TS :=
  tSeq (tAsg (tLst (tNil)) (gName 4))
  (tSeq (tFor (iEnum c.K (tCons (tOp (rIxL c.K) (tFld c.K (tVar 0) "ratings") (tVar 1)) (tNil))) (gTup c.K 2 (gCons (gName 3) (gCons (gName 5) (gNil)))) (tIfS (tTest (tOp rEq (tVar 5) (tC (.int 0)))) (tDrop (tBM c.K "list" rAppend (tVar 4) (tCons (tTup (tCons (tVar 3) (tCons (tMeth c.M "prediction" sp_prediction [] C8.E0 (tVar 0) (tCons (tVar 1) (tCons (tVar 3) (tNil)))) (tNil)))) (tNil)))) (tNext)))
  (tRet (tSl (rSlL c.K) (tSortL c.K T mk (laB la_R) n_laR [] [] (tb_R c) (tVar 4)) (tNoPart) (tPart (tVar 2)))))
theorem d_laR {P : Program} {w : World} {mg : Str → Option Value} {base : Heap} {c : Cs} {f : Addr} {F : NF} {A : Around} {outer : List Env} {s : Shared} {H : Hp} (hs : F.scope = laS la_R) : PE (ncx C8.CX0 P w c.K mg base n_laR F f A outer s H C8.E0) (laB la_R) (tb_R c []) := by
  obtain ⟨n, q, p, b, sc, cl, c'⟩ := F
  obtain rfl : sc = laS la_R := hs
  exact pe_tup (pa_cons (pe_un un_neg (pe_ix ix_tup (pv 0) (pe_int) (fun _ _ => rfl))) (pa_cons (pe_ix ix_tup (pv 0) (pe_int) (fun _ _ => rfl)) pa_nil))
theorem caps0 {X : Cx} : Caps X [] [] [] where
  sub := fun y c e => by simp [List.lookup] at e
  kin := fun y hy => absurd hy List.not_mem_nil
  sup := fun y hy => absurd hy List.not_mem_nil
  at_ := rfl
theorem d_recommended {P : Program} {w : World} {mg : Str → Option Value} {base : Heap} {c : Cs} {tw : Tw} {sp_prediction : Sp} {f : Addr} {A : Around} {outer : List Env} {s : Shared} {H : Hp} {E : XK} (T : Tx c mg) (TB : TabB base mg tw.cr tw.pr) (hne : tw.pr ≠ tw.ps) (c_prediction : C8.Met P w c.K mg base 2 c.M "prediction" sp_prediction [])
    (hr : Room 5 (A.deeper (envOfC "recommended" (C8.fnScope s_recommended) s.heap.objs.size f (.ref tw.cr)))) : PSs (cxOf C8.CX0 P w c.K mg base n_recommended "recommended" (C8.fnScope s_recommended) f (.ref tw.cr) A outer s H E).nox (C8.fnBody s_recommended)
      (t_recommended c tw.T (mkL (envOfC "recommended" (C8.fnScope s_recommended) s.heap.objs.size f (.ref tw.cr)) la_R) sp_prediction) :=
  pss_cons (ps_set (i := 4) sc_recommended.nd rfl (.inl rfl) (pe_lst (pa_nil)))
  (pss_cons (ps_for PassesOwn.never rfl (pi_enum (by rfl) T.n_enumerate (pa_cons (pe_ix ix_list (pe_fld (pv 0) rfl) (pv 1) (fun _ _ => rfl)) (pa_nil))) (pg_tup rfl (pgs_cons (pg_name (i := 3) sc_recommended.nd rfl (Or.inl rfl)) (pgs_cons (pg_name (i := 5) sc_recommended.nd rfl (Or.inl rfl)) (pgs_nil)))) (pss_one (ps_if (pt_cmpR op_eq (pv 5) (C8.pe_gc (by rfl) T.g_NO_RATING) (nomark _)) (pss_one (ps_expr (pe_bm PySem.F.plainAttrs_list PySem.F.slot_list_append PySem.F.type_list_append mt_append (pv 4) (pa_cons (pe_tup (pa_cons (pv 3) (pa_cons (C8.pe_mt c_prediction hr (by decide) (pv 0) (pa_cons (pv 1) (pa_cons (pv 3) (pa_nil)))) (pa_nil)))) (pa_nil))))) (pss_nil))))
  (pss_one (ps_ret (pe_slice sl_list (pe_sortL (x0 := "pair") (fr := []) (frC := []) (clC := []) (js := []) (jc := []) (nm := nmR) (k := 2) (tb := tb_R c) (by rfl) T.n_sorted (pa_cons (pv 4) pa_nil) TB rfl (List.mem_cons_self ..) rfl (fun p hp hpp => by
    rcases in_cons hp with z | hp
    · rw [z]
    · rw [List.mem_singleton.mp hp] at hpp
      exact absurd hpp (Ne.symm hne)) rfl (fun y hy e => by
      have hl := sc_laR.free y hy e
      cases hl) (fun y hy => by cases hy) rfl sc_laR (fun _ _ _ _ _ _ => rfl) (hr.mono (by decide)) (fun _ => rfl) rfl (fun _ => caps0) (fun f c' A outer s H ws _ _ _ => d_laR rfl)) (po_none) (po_some (pv 2))))))
/-! ### similar_rows -/
def t_closeness (c : Cs) (sp_factor_product : Sp) : TS :=
  tSeq (tAsg (tCall sp_factor_product [] C8.E0 (tCons (tVar 2) (tCons (tOp (rIxL c.K) (tVar 3) (tVar 0)) (tNil)))) (gName 4))
  (tRet (tOp rMulW (tOp rMulW (tVar 4) (tVar 4)) (tOp rDivW (tVar 1) (tCall sp_factor_product [] C8.E0 (tCons (tOp (rIxL c.K) (tVar 3) (tVar 0)) (tCons (tOp (rIxL c.K) (tVar 3) (tVar 0)) (tNil)))))))
theorem d_closeness {P : Program} {w : World} {mg : Str → Option Value} {base : Heap} {c : Cs} {sp_factor_product : Sp} {f : Addr} {F : NF} {A : Around} {outer : List Env} {s : Shared} {H : Hp} {E : XK} (hs : F.scope = C8.fnScope s_closeness) (hb : F.body = C8.fnBody s_closeness) (c_factor_product : C8.Cal P w c.K mg base 1 "factor_product" sp_factor_product [])
    (hr : Room 1 (A.deeper (envF F f s.heap.objs.size))) : PSs (ncx C8.CX0 P w c.K mg base n_closeness F f A outer s H E) F.body (t_closeness c sp_factor_product) := by
  obtain ⟨n, q, p, b, sc, cl, c'⟩ := F
  obtain rfl : sc = C8.fnScope s_closeness := hs
  obtain rfl : b = C8.fnBody s_closeness := hb
  exact pss_cons (ps_set (i := 4) sc_closeness.nd rfl (.inl rfl) (C8.pe_c c_factor_product hr (by decide) (by rfl) (pa_cons (pv 2) (pa_cons (pe_ix ix_list (pv 3) (pv 0) (fun _ _ => rfl)) (pa_nil)))))
    (pss_one (ps_ret (pe_op op_mulW (pe_op op_mulW (pv 4) (pv 4)) (pe_op op_fdivW (pv 1) (C8.pe_c c_factor_product hr (by decide) (by rfl) (pa_cons (pe_ix ix_list (pv 3) (pv 0) (fun _ _ => rfl)) (pa_cons (pe_ix ix_list (pv 3) (pv 0) (fun _ _ => rfl)) (pa_nil))))))))
def tb_S (mk : Addr → NF) (spC : Addr → Addr → List (Option V) → Sp) : List (Option V) → TE := fun ws => tTup (tCons (tUn rNeg (tCallX mk 1 ws spC (tCons (tVar 0) tNil))) (tCons (tVar 0) tNil))
def t_similar_rows (c : Cs) (T : List NTab) (mk mkc : Addr → NF) (spC : Addr → Addr → List (Option V) → Sp) (sp_factor_product : Sp) : TS :=
  tSeq (tAsg (tOp (rIxT c.K) (tFld c.K (tVar 0) "rows") (tVar 1)) (gName 9))
  (tSeq (tAsg (tOp (rIxL c.K) (tVar 9) (tVar 2)) (gName 8))
  (tSeq (tAsg (tLc (iRng1 (tCons (tCB (rLenS c.K) (tCons (tVar 9) (tNil))) (tNil))) (gName 7) (tAnd (tTest (tOp rNe (tVar 7) (tVar 2))) (tTest (tOp rGt2 (tCall sp_factor_product [] C8.E0 (tCons (tVar 8) (tCons (tOp (rIxL c.K) (tVar 9) (tVar 7)) (tNil)))) (tC (.int 0))))) (tVar 7) [7]) (gName 4))
  (tSeq (tAsg (tC (.int 1)) (gName 6))
  (tSeq (tFor (iList c.K (tVar 4)) (gName 7) (tAug 6 (tCall sp_factor_product [] C8.E0 (tCons (tOp (rIxL c.K) (tVar 9) (tVar 7)) (tCons (tOp (rIxL c.K) (tVar 9) (tVar 7)) (tNil)))) (ipMulW)))
  (tSeq (tNdefM T 5 mkc)
  (tRet (tSl (rSlL c.K) (tSortL c.K T mk (laB la_S) n_laS [5] [6, 8, 9] (tb_S mkc spC) (tVar 4)) (tNoPart) (tPart (tVar 3)))))))))
theorem d_laS {P : Program} {w : World} {mg : Str → Option Value} {base : Heap} {c : Cs} {f : Addr} {F : NF} {A : Around} {outer : List Env} {s : Shared} {H : Hp} {mkc : Addr → NF} {cl : List (Str × Addr)} {spC : Addr → Addr → List (Option V) → Sp} {ws : List (Option V)} (hs : F.scope = laS la_S)
    (Fn : ∀ f c', NOk P w c.K mg base C8.CX0 2 f (mkc c') ["other"] ["common", "own", "rows"] (spC f c')) (hcl : ∀ c', (mkc c').cl = cl) (C : CellsAt cl ["common", "own", "rows"] ws s.heap H) (nf : ∀ y a, cl.lookup y = some a → a ∉ frs outer) (hr : Room 2 (A.deeper (envF F f s.heap.objs.size))) :
    PE (ncx C8.CX0 P w c.K mg base n_laS F f A outer s H C8.E0) (laB la_S) (tb_S mkc spC ws) := by
  obtain ⟨n, q, p, b, sc, cl', c'⟩ := F
  obtain rfl : sc = laS la_S := hs
  exact pe_tup (pa_cons (pe_un un_neg (pe_callX (j := 2) (k := 2) (x := "closeness") Fn hcl C nf (fun y a _ z => absurd z List.not_mem_nil) hr (by decide) rfl (.inr (.inr rfl)) (pa_cons (pv 0) pa_nil))) (pa_cons (pv 0) pa_nil))
theorem d_similar_rows {P : Program} {w : World} {mg : Str → Option Value} {base : Heap} {c : Cs} {tw : Tw} {sp_factor_product : Sp} {spC : Addr → Addr → List (Option V) → Sp} {f : Addr} {A : Around} {outer : List Env} {s : Shared} {H : Hp} {E : XK} (T : Tx c mg) (TB : TabB base mg tw.cs tw.ps) (hne : tw.pr ≠ tw.ps) (c_factor_product : C8.Cal P w c.K mg base 1 "factor_product" sp_factor_product [])
    (Fn : ∀ f' c', NOk P w c.K mg base C8.CX0 2 f' (mkC (envOfC "similar_rows" (C8.fnScope s_similar_rows) s.heap.objs.size f (.ref tw.cs)) c') ["other"] ["common", "own", "rows"] (spC f' c'))
    (hr : Room 5 (A.deeper (envOfC "similar_rows" (C8.fnScope s_similar_rows) s.heap.objs.size f (.ref tw.cs)))) : PSs (cxOf C8.CX0 P w c.K mg base n_similar_rows "similar_rows" (C8.fnScope s_similar_rows) f (.ref tw.cs) A outer s H E).nox (C8.fnBody s_similar_rows)
      (t_similar_rows c tw.T (mkL (envOfC "similar_rows" (C8.fnScope s_similar_rows) s.heap.objs.size f (.ref tw.cs)) la_S) (mkC (envOfC "similar_rows" (C8.fnScope s_similar_rows) s.heap.objs.size f (.ref tw.cs))) spC sp_factor_product) :=
  have hu : ∀ p ∈ tw.T, p.1 = tw.ps → p.2 = nmS := fun p hp hpp => by
    rcases in_cons hp with z | hp
    · rw [z] at hpp
      exact absurd hpp hne
    · rw [in_one hp]
  have fB : ndefB (C8.fnScope s_similar_rows) (C8.fnScope s_closeness) ["common", "own", "rows"] = true := by decide +kernel
  have fL : ndefB (C8.fnScope s_similar_rows) (laS la_S) ["closeness"] = true := by decide +kernel
  pss_cons (ps_set (i := 9) sc_similar_rows.nd rfl (.inr rfl) (pe_ix ix_tup (pe_fld (pv 0) rfl) (pv 1) (fun _ _ => rfl)))
  (pss_cons (ps_set (i := 8) sc_similar_rows.nd rfl (.inr rfl) (pe_ix ix_list (pv 9) (pv 2) (fun _ _ => rfl)))
  (pss_cons (ps_setLc (i := 4) (own := [("other", 7)]) rfl sc_similar_rows.nd rfl rfl (sw_true rfl rfl rfl (by decide +kernel)) (pi_range1 (by rfl) T.n_range (pa_cons (pe_callB call_len_seq (by rfl) T.n_len bt_len (pa_cons (pv 9) (pa_nil))) (pa_nil))) (blkOk_by (own := [("other", 7)]) (N := n_similar_rows) (sc := C8.fnScope s_similar_rows) (by decide +kernel)) (fun _ _ _ _ _ => pg_name (i := 7) sc_similar_rows.nd rfl (Or.inl rfl)) (fun _ _ _ _ _ => pts_one (PW.pt (pw_and (pt_cmpR op_ne (pv 7) (pv 2) (nomark _)) (pw_and1 (pt_cmpR op_gt (C8.pe_c c_factor_product hr (by decide) (by rfl) (pa_cons (pv 8) (pa_cons (pe_ix ix_list (pv 9) (pv 7) (fun _ _ => rfl)) (pa_nil)))) (pe_int) (nomark _)))))) (fun _ _ _ _ _ => pv 7))
  (pss_cons (ps_set (i := 6) sc_similar_rows.nd rfl (.inr rfl) (pe_int))
  (pss_cons (ps_for PassesOwn.never rfl (pi_list (pv 4)) (pg_name (i := 7) sc_similar_rows.nd rfl (Or.inl rfl)) (pss_one (ps_aug (i := 6) sc_similar_rows.nd rfl (.inr rfl) (C8.pe_c c_factor_product hr (by decide) (by rfl) (pa_cons (pe_ix ix_list (pv 9) (pv 7) (fun _ _ => rfl)) (pa_cons (pe_ix ix_list (pv 9) (pv 7) (fun _ _ => rfl)) (pa_nil)))) ip_mulW)))
  (pss_cons (ps_ndefMS (st := s_closeness) (name := "closeness") (nm := nmS) (T := tw.T) (i := 5) (by rfl) TB rfl (List.mem_cons_of_mem _ (List.mem_cons_self ..)) rfl hu (ndef_free fB) rfl rfl rfl sc_similar_rows.nd rfl (.inr rfl) (.inl rfl))
  (pss_one (ps_ret (pe_slice sl_list (pe_sortL (x0 := "other") (fr := ["closeness"]) (frC := ["common", "own", "rows"]) (js := [5]) (jc := [6, 8, 9]) (nm := nmS) (k := 2) (tb := tb_S _ spC) (by rfl) T.n_sorted (pa_cons (pv 4) pa_nil) TB rfl (List.mem_cons_of_mem _ (List.mem_cons_self ..)) rfl hu rfl (ndef_free fL) (ndef_fr fL) rfl sc_laS (fun _ _ _ _ _ _ => rfl) hr (fun _ => rfl) rfl
    (fun ok => Caps.made ok (ndef_free fB) (ndef_fr fB) rfl) (fun f' c' A' outer' s' H' ws hr' C nf => d_laS rfl Fn (fun _ => rfl) C nf hr')) (po_none) (po_some (pv 3))))))))))
end Lk
set_option Elab.async false
set_option maxRecDepth 100000
set_option maxHeartbeats 5000000
set_option linter.all false
namespace Lk
open PySem PySem.Spec PyProof.Rows L2
open Evl (Ex)
open LamX NdefX
theorem ExtN.ex {H H1 : Hp} (e : Ex H H1) : ExtN H H1 := ExtN.of e
section
variable {c : Cs} {H H2 : Hp} {a : Addr} {L : Lay} {m : Ms} {s : Kp429.Settings}
theorem Each.extN {α : Type} {F : α → HO} {ps : List Addr} {xs : List α} (h : Each H F ps xs) (hF : ∀ x qs, F x ≠ .tbl qs) (e : ExtN H H2) : Each H2 F ps xs := ⟨h.1, fun j x hx => let ⟨p, h1, h2⟩ := h.2 j x hx; ⟨p, h1, e _ _ h2 (hF x)⟩⟩
theorem notb_tup {xs : List V} : ∀ qs, HO.tup xs ≠ .tbl qs := fun qs z => by cases z
theorem notb_lst {xs : List V} : ∀ qs, HO.lst xs ≠ .tbl qs := fun qs z => by cases z
theorem notb_ins {C dx : Addr} {fs : List (Str × V)} : ∀ qs, HO.ins C dx fs ≠ .tbl qs := fun qs z => by cases z
theorem StAt.extN (h : StAt c H a s) (e : ExtN H H2) : StAt c H2 a s := let ⟨dx, rc, pl, pts, h1, h2, h3, h4⟩ := h; ⟨dx, rc, pl, pts, e _ _ h1 notb_ins, e _ _ h2 notb_tup, e _ _ h3 notb_lst, h4.extN (fun _ => notb_tup) e⟩
theorem RwAt.extN {p : Kp429.Parameters} (h : RwAt H L p) (e : ExtN H H2) : RwAt H2 L p := ⟨e _ _ h.rt notb_tup, e _ _ h.ul notb_lst, e _ _ h.il notb_lst, h.ur.extN (fun _ => notb_lst) e, h.ir.extN (fun _ => notb_lst) e⟩
theorem MdAt.extN (h : MdAt c H a L m) (e : ExtN H H2) : MdAt c H2 a L m := ⟨h.ok, let ⟨dx, h1⟩ := h.ob; ⟨dx, e _ _ h1 notb_ins⟩, h.st.extN e, e _ _ h.ro notb_lst, h.rr.extN (fun _ => notb_lst) e, h.rw.extN e, h.nd⟩
theorem SqL.extN {K : PySem.W.Frag} {p : Addr} {xs : List V} (h : SqL K H p xs) (e : ExtN H H2) : SqL K H2 p xs := by
  obtain (h | ⟨o, h⟩) | h := h
  · exact .inl (.inl (e _ _ h notb_lst))
  · exact .inl (.inr ⟨o, e _ _ h fun qs z => by cases z⟩)
  · exact .inr h
end
theorem cutV_to (xs : List V) (n : Nat) : cutV xs none (some (n : Int)) = xs.take n := by
  unfold cutV
  rw [HT.sIx_nat, HT.sIx_none, List.drop_zero, Nat.sub_zero]
  by_cases h : n ≤ xs.length
  · rw [Nat.min_eq_left h]
  · rw [Nat.min_eq_right (by omega), List.take_length, List.take_of_length_le (by omega)]
def ordF {α : Type} (key : α → Int × Int) (x y : α) : Bool := decide ((key x).1 < (key y).1 ∨ ((key x).1 = (key y).1 ∧ (key x).2 ≤ (key y).2))
theorem srt_map {β : Type} {g : β → V} {zs : List β} {key : β → Int × Int} : srtV (zs.map g) (zs.map key) = (zs.mergeSort (ordF key)).map g := by
  unfold srtV
  have e : (zs.map g).zip (zs.map key) = zs.map fun z => (g z, key z) := by
    induction zs with
    | nil => rfl
    | cons z zs ih => rw [List.map_cons, List.map_cons, List.zip_cons_cons, ih, List.map_cons]
  rw [e, ← List.map_mergeSort (r := ordF key) (s := ordK) (f := fun z => (g z, key z)) (fun a _ b _ => rfl), List.map_map]
  rfl
theorem srt_refs {α : Type} {H : Hp} {F : α → HO} {ps : List Addr} {xs : List α} {key : α → Int × Int} (he : Each H F ps xs) : ∃ qs : List Addr, srtV (ps.map V.ref) (xs.map key) = qs.map V.ref ∧ Each H F qs (xs.mergeSort (ordF key)) := by
  have h1 : (ps.zip xs).map Prod.fst = ps := List.map_fst_zip (by rw [he.1]; exact Nat.le_refl _)
  have h2 : (ps.zip xs).map Prod.snd = xs := List.map_snd_zip (by rw [he.1]; exact Nat.le_refl _)
  have e1 : ps.map V.ref = (ps.zip xs).map fun z => V.ref z.1 := by
    conv => lhs; rw [← h1, List.map_map]
    rfl
  have e2 : xs.map key = (ps.zip xs).map fun z => key z.2 := by
    conv => lhs; rw [← h2, List.map_map]
    rfl
  have e3 : ((ps.zip xs).mergeSort (ordF fun z => key z.2)).map Prod.snd = xs.mergeSort (ordF key) :=
    (List.map_mergeSort (r := ordF fun z => key z.2) (s := ordF key) (f := Prod.snd) (l := ps.zip xs) (fun a _ b _ => rfl)).trans (by rw [h2])
  refine ⟨((ps.zip xs).mergeSort (ordF fun z => key z.2)).map Prod.fst, by rw [e1, e2, srt_map, List.map_map]; rfl, by rw [← e3, List.length_map, List.length_map], fun j x hx => ?_⟩
  rw [← e3, List.getElem?_map] at hx
  cases hz : ((ps.zip xs).mergeSort (ordF fun z => key z.2))[j]? with
  | none =>
    rw [hz] at hx
    cases hx
  | some z =>
    rw [hz] at hx
    have hx : z.2 = x := Option.some.inj hx
    refine ⟨z.1, by rw [List.getElem?_map, hz] <;> rfl, ?_⟩
    have hm : z ∈ ps.zip xs := (List.mergeSort_perm _ _).mem_iff.mp (List.mem_of_getElem? hz)
    obtain ⟨i, hi⟩ := List.getElem?_of_mem hm
    have hi2 := List.getElem?_zip_eq_some.mp hi
    obtain ⟨q, q1, q2⟩ := he.2 i z.2 hi2.2
    rw [hi2.1] at q1
    rw [← hx, Option.some.inj q1]
    exact q2
theorem Each.take {α : Type} {H : Hp} {F : α → HO} {ps : List Addr} {xs : List α} (h : Each H F ps xs) (n : Nat) : Each H F (ps.take n) (xs.take n) := ⟨by rw [List.length_take, List.length_take, h.1], fun j x hx => by
  have hj : j < n := by
    by_cases hj : j < n
    · exact hj
    · rw [List.getElem?_take, if_neg hj] at hx
      cases hx
  rw [List.getElem?_take, if_pos hj] at hx
  obtain ⟨p, h1, h2⟩ := h.2 j x hx
  exact ⟨p, by rw [List.getElem?_take, if_pos hj]; exact h1, h2⟩⟩
section
variable {K : PySem.W.Frag} {σ : L2.St} {H : Hp} {D : Ends} {tz tu : TS} {ta te : TE} {tt : TT} {g : TG} {ws : List Nat} {Q : VK} {a : Addr} {xs : List V} {n j : Nat}
/-- for i, x in enumerate(xs) -/
theorem q_enum (h : Val ta σ H (.ref a)) (hx : SqL K H a xs) (Pv : Nat → L2.St → Hp → Prop) (h0 : Pv 0 σ H) (hl : ∀ i σ' H', i ≤ xs.length → Pv i σ' H' → SqL K H' a xs)
    (hs : ∀ i x T σ' H', xs[i]? = some x → Pv i σ' H' → H' T = none → g (.ref T) σ' (upd H' T (.tup [nV i, x])) fun σ2 H2 => tu { D with nx := Pv (i + 1), ct := Pv (i + 1), bk := tz D } σ2 H2) (hd : ∀ σ' H', Pv xs.length σ' H' → tz D σ' H') :
    tSeq (tFor (iEnum K (tCons ta tNil)) g tu) tz D σ H :=
  h _ ⟨a, xs, rfl, hx, fun i k σ' H' => k = xs.length - i ∧ i ≤ xs.length ∧ Pv i σ' H', ⟨xs.length, rfl, Nat.zero_le _, h0⟩, fun i k σ' H' ⟨ek, hi, p⟩ => by
    have here := hl i σ' H' hi p
    by_cases more : i < xs.length
    · refine .inr ⟨⟨xs, xs[i], here, List.getElem?_eq_getElem more⟩, Pv (i + 1), fun σ2 H2 p2 => ⟨xs.length - (i + 1), by omega, rfl, more, p2⟩, ?_⟩
      rintro x H2 ⟨T, z, rfl, hT, rfl, hz⟩
      exact hs i z T σ' H' (hz xs here) p hT
    · have last : i = xs.length := by omega
      rw [last] at p
      exact .inl ⟨⟨xs, here, by omega⟩, hd _ _ p⟩⟩
/-- [i for i in range(n) if t] -/
theorem k_rangeF (h : Val ta σ H (nV n)) (hn : n ≤ 50000) (f : Nat → Bool) (hw : ∀ x, wipe ((wipe σ ws).set j (some x)) ws = wipe σ ws) (hj : ∀ x, ((wipe σ ws).set j (some x))[j]? = some (some x))
    (ht : ∀ (i : Nat) H1, i < n → Ex H H1 → AnsE tt ((wipe σ ws).set j (some (nV i))) H1 (f i)) (q : ∀ D H2, Cov H D (((List.range n).filter f).map nV) H2 → Q (.ref D) H2) :
    tLc (iRng1 (tCons ta tNil)) (gName j) tt (tVar j) ws σ H Q :=
  h _ ⟨(n : Int), rfl, by omega, by omega, fun D hD => lc_range (lo := 0) (n := ((n : Nat) : Int).toNat) (fun i H' => Cov H D (((List.range i).filter f).map nV) H') (Cov.start hD) (fun i H' hi p => by
    rw [Int.toNat_natCast] at hi
    have e0 := Int.zero_add (i : Int)
    show wipe ((wipe σ ws).set j (some (.int ((0 : Int) + (i : Int))))) ws = wipe σ ws ∧ tt ((wipe σ ws).set j (some (.int ((0 : Int) + (i : Int))))) H' fun b H3 => if b = true then tVar j ((wipe σ ws).set j (some (.int ((0 : Int) + (i : Int))))) H3 fun y H4 => ∃ acc, H4 D = some (.lst acc) ∧ acc.length < sizeLine ∧ Cov H D (((List.range (i + 1)).filter f).map nV) (upd H4 D (.lst (acc ++ [y]))) else Cov H D (((List.range (i + 1)).filter f).map nV) H3
    rw [e0]
    refine ⟨hw _, ht i H' hi p.2.1 _ fun H2 e2 => ?_⟩
    have p2 := p.ex e2
    have e3 : ((List.range (i + 1)).filter f).map nV = ((List.range i).filter f).map nV ++ (if f i = true then [nV i] else []) := by
      rw [List.range_succ, List.filter_append, List.map_append]
      cases hfi : f i with
      | true => simp [List.filter_cons, hfi]
      | false => simp [List.filter_cons, hfi]
    rw [e3]
    cases hfi : f i with
    | true =>
      refine iteT (v_k (vv (hj _)) ⟨_, p2.2.2, Evl.sz_lt ?_, p2.add⟩)
      have := List.length_filter_le f (List.range i)
      rw [List.length_range] at this
      rw [List.length_map]
      omega
    | false =>
      refine iteF ?_
      rw [if_neg Bool.false_ne_true, List.append_nil]
      exact p2) (fun H' p => q D H' (by rw [Int.toNat_natCast] at p; exact p))⟩
end
section
variable {K : PySem.W.Frag} {σ : L2.St} {H : Hp} {te : TE} {tl th : TO} {Q : VK} {T : List NTab} {mk : Addr → NF} {body : Expr} {N : List Str} {js jc : List Nat} {tb : List (Option V) → TE}
theorem sl_k {r : V → Option Int → Option Int → Hp → VK → Prop} (h : te σ H fun x H1 => tl σ H1 fun l H2 => th σ H2 fun u H3 => r x l u H3 Q) : tSl r te tl th σ H Q := h
theorem sort_k (h : te σ H fun x H1 => tLamN T mk body σ H1 fun y H2 =>
  ∃ (l : Addr) (xs : List V) (ks : List (Int × Int)) (f c' : Addr), x = .ref l ∧ y = .ref f ∧ H2 f = some (LnO f (mk c') body) ∧ H2 (mk c').c = some (CodeO (mk c').c (mk c').qual) ∧ SqL K H2 l xs ∧ ks.length = xs.length ∧
    (∀ (i : Nat) (x : V) (k : Int × Int), xs[i]? = some x → ks[i]? = some k → ∀ H3, Ex H2 H3 → tb (jc.map (slotAt σ)) (startF N [x] (js.map (slotAt σ))) H3 fun v H4 => Ex H3 H4 ∧ KeyIs v H4 k) ∧
    ∀ p H3, Ex H2 H3 → H2 p = none → H3 p = some (.lst (srtV xs ks)) → Q (.ref p) H3) : tSortL K T mk body N js jc tb te σ H Q := h
end
def sp_recommended (c : Cs) (w : Tw) : Sp := fun vs H Q _ => ∃ (a : Addr) (u n : Nat) (L : Lay) (m : Ms), vs = [.ref a, nV u, nV n] ∧ MdAt c H a L m ∧ u < m.s.users ∧ TabsN w.T H ∧ ∀ p H2 (ps : List Addr), ExtN H H2 → TabsN w.T H2 → H p = none → H2 p = some (.lst (ps.map V.ref)) → Each H2 resT ps (recM m u n) → Q (.ref p) H2
def sp_similar_rows (c : Cs) (w : Tw) : Sp := fun vs H Q _ => ∃ (a : Addr) (k n ct : Nat) (L : Lay) (m : Ms), vs = [.ref a, nV k, nV n, nV ct] ∧ MdAt c H a L m ∧ k ≤ 1 ∧ n < Kp429.sizeOf m.s k ∧ TabsN w.T H ∧ ∀ p H2, ExtN H H2 → TabsN w.T H2 → H p = none → H2 p = some (.lst ((simM m k n ct).map nV)) → Q (.ref p) H2
/-- closeness: cm the common multiple, po the own row, pl the rows -/
def sp_closeness : Addr → Addr → List (Option V) → Sp := fun _ _ ws vs H Q _ => ∃ (m : Ms) (k n o : Nat) (cm : Int) (po pl q : Addr) (rs : List V), ws = [some (.int cm), some (.ref po), some (.ref pl)] ∧ vs = [nV o] ∧ m.Ok ∧ k ≤ 1 ∧ n < Kp429.sizeOf m.s k ∧ o < Kp429.sizeOf m.s k ∧
  H po = some (rowI (Kp429.rowOf m.p k n)) ∧ H pl = some (.lst rs) ∧ rs[o]? = some (.ref q) ∧ H q = some (rowI (Kp429.rowOf m.p k o)) ∧ 0 < nnM m k o ∧ cm.natAbs < 2 ^ 400 ∧ RV (.int (closV m k n cm o)) H Q


section
variable {c : Cs} {mg : Str → Option Value} {vs : List V} {H : Hp} {Q : VK} {E : XK} {w : Tw}
theorem p_recommended {mk : Addr → NF} (T : Tx c mg) (h : sp_recommended c w vs H Q E) : t_recommended c w.T mk (sp_prediction c) (Dq Q) (start n_recommended vs) H := by
  obtain ⟨a, u, n, L, m, rfl, hm, hu, hT, q⟩ := h
  have i8 := hm.ok.s.i8
  have hr := rowOfR_mem (R := m.R) (u := u) (by rw [hm.ok.R.len]; exact hu)
  have hrl := hm.ok.R.row _ hr.1
  obtain ⟨pr, pr1, pr2, pr3⟩ := hm.rr.at hr.2
  refine q_lst va0 (by decide) fun p hp => ?_
  have e1 : Ex H (upd H p (.lst [])) := exn hp
  have hm1 := hm.ex e1
  refine q_enum (v_ixL (v_ratings T hm1 (vv rfl)) (vv rfl) (sq_ hm1.ro) (atI_nat pr2)) (sq_ (e1 _ _ pr3)) (fun i σ' H' => ∃ x y, σ' = [some (.ref a), some (nV u), some (nV n), x, some (.ref p), y] ∧ Col resT H p (recI m u i) H') ⟨_, _, rfl, Col.start hp⟩ (fun i σ' H' _ ⟨_, _, _, hc⟩ => sq_ (hc.2.1 _ _ pr3)) ?_ ?_
  · rintro i x t σ' H' hx ⟨x0, y0, rfl, hc⟩ ht
    rw [List.getElem?_map] at hx
    obtain ⟨v, hv, rfl⟩ : ∃ v, (rowOfR m.R u)[i]? = some v ∧ x = nV v := by
      cases e : (rowOfR m.R u)[i]? with
      | none =>
        rw [e] at hx
        cases hx
      | some v =>
        rw [e] at hx
        exact ⟨v, rfl, (Option.some.inj hx).symm⟩
    have hi : i < m.s.items := by
      have := (List.getElem?_eq_some_iff.mp hv).1
      omega
    have hev : ent m.R u i = v := by
      unfold ent
      rw [List.getD_eq_getElem?_getD, hv]
      rfl
    have hc2 := hc.ex (exn (o := .tup [nV i, nV v]) ht)
    refine g2 (stq upd_same) (s_when (b := decide (v = 0)) (a_test (vt (by rw [deq]) (v_eqI (i := (v : Int)) (j := ((0 : Nat) : Int)) (vv rfl) vc))) (fun hb => ?_) (fun hb => ?_))
    · have hb : v = 0 := of_decide_eq_true hb
      have hm2 := hm.ex hc2.2.1
      have hp2 := hc2.2.2
      obtain ⟨ps0, hp0, _⟩ := hp2
      refine s_dropK (bm_k (vv rfl) hp0 (cons_k (tup_k (cons_k (v_k (vv rfl) (cons_k (c_prediction hm2 (vv rfl) (va1 (vv rfl) (va1 (vv rfl) va0)) ⟨a, u, i, L, m, rfl, hm2, hu, hi, fun H3 e3 => ?_⟩)))))))
      obtain ⟨ps, q1, q2, q3⟩ := (hc2.ex e3).get resT_tup
      refine ⟨by show 2 ≤ sizeLine; exact Evl.sz_of (by decide), fun t2 ht2 => ⟨p, _, _, rfl, rfl, exn ht2 _ _ q1, Evl.sz_lt ?_, _, _, rfl, ?_⟩⟩
      · rw [List.length_map, q2]
        have := recI_len m u i
        omega
      · rw [recI_succ, hev, if_pos hb]
        exact q3 t2 _ (i, Kp429.predict m.p u i) ht2 rfl
    · have hb : ¬ v = 0 := of_decide_eq_false hb
      refine ⟨_, _, rfl, ?_⟩
      rw [recI_succ, hev, if_neg hb, List.append_nil]
      exact hc2
  · rintro σ' H' ⟨x0, y0, rfl, hc⟩
    rw [List.length_map, hrl] at hc
    obtain ⟨_, e, ps, g1, ge⟩ := hc
    refine s_retK (sl_k (sort_k (v_k (vv rfl) ?_)))
    refine ⟨hT.ext e, fun f c' H1 eN nn T1 f0 f1 c1 => ⟨p, ps.map V.ref, (recL m u).map keyP, f, c', rfl, rfl, f1, c1, sq_ (eN _ _ g1 notb_lst), by rw [List.length_map, List.length_map]; exact ge.1.symm, ?_, ?_⟩⟩
    · intro i x k hx hk H3 e3
      rw [List.getElem?_map] at hk
      cases hy : (recL m u)[i]? with
      | none =>
        rw [hy] at hk
        cases hk
      | some y =>
        rw [hy] at hk
        have hk : keyP y = k := Option.some.inj hk
        obtain ⟨t, t1, t2, t3⟩ := ge.at hy
        rw [t2] at hx
        cases hx
        have t4 := e3 _ _ (eN _ _ t3 notb_tup)
        refine c_tup (va1 (v_neg (v_ixT (vv rfl) vc (stq t4) at1)) (va1 (v_ixT (vv rfl) vc (stq t4) at0) va0)) (by show 2 ≤ 100000; decide) fun p2 hp2 => ⟨exn hp2, p2, rfl, ?_⟩
        rw [upd_same, ← hk]
        rfl
    · intro p2 H3 e3 hp2 h3
      obtain ⟨qs, s1, s2⟩ := srt_refs (key := keyP) (show Each H1 resT ps (recL m u) from ge.extN (fun _ => notb_tup) eN)
      refine v_k (vv rfl) ⟨(n : Int), rfl, p2, _, rfl, sq_ h3, fun p3 hp3 => ?_⟩
      have eAll : ExtN H (upd H3 p3 (.lst (cutV (srtV (ps.map V.ref) ((recL m u).map keyP)) none (some (n : Int))))) := (ExtN.ex e).trans (eN.trans (ExtN.ex (e3.trans (exn hp3))))
      refine q p3 _ (qs.take n) eAll (T1.ext (e3.trans (exn hp3))) (fresh e (nn p3 (fresh e3 hp3))) ?_ ?_
      · rw [upd_same, cutV_to, s1, List.map_take]
      · exact ((s2.ex e3).ex (exn hp3)).take n
theorem p_closeness {f c' : Addr} {ws : List (Option V)} (T : Tx c mg) (h : sp_closeness f c' ws vs H Q E) : t_closeness c (sp_factor_product c) (Dq Q) (startF n_closeness vs ws) H := by
  obtain ⟨m, k, n, o, cm, po, pl, r, rs, rfl, rfl, ok, hk, hn, ho, hpo, hpl, hr, hq, hnn, hcm, q⟩ := h
  have r1 := row_mem ok hk hn
  have r2 := row_mem ok hk ho
  have f3 := ok.s.f3
  refine q_asgK (c_call (va1 (vv rfl) (va1 (v_ixL (vv rfl) (vv rfl) (sq_ hpl) (atI_nat hr)) va0)) ⟨po, r, _, _, rfl, hpo, hq, by rw [r1.1, r2.1], by rw [r1.1]; omega, r1.2, fun H1 e1 => ?_⟩)
  have b1 : (dotM m k n o).natAbs < 2 ^ 43 := prods_bd ok k n o
  have b2 : (nnM m k o).natAbs < 2 ^ 43 := prods_bd ok k o o
  refine s_retK (op_1 (v_k (v := .int (dotM m k n o * dotM m k n o)) (v_iC (vv rfl) (vv rfl) (wide_mul b1 b1 (by decide) (by decide) (by decide))) (op_2 (vv rfl) (c_call (va1 (v_ixL (vv rfl) (vv rfl) (sq_ (e1 _ _ hpl)) (atI_nat hr)) (va1 (v_ixL (vv rfl) (vv rfl) (sq_ (e1 _ _ hpl)) (atI_nat hr)) va0)) ⟨r, r, _, _, rfl, e1 _ _ hq, e1 _ _ hq, rfl, by rw [r2.1]; omega, r2.2, fun H2 e2 => ?_⟩))))
  have b3 : (cm / nnM m k o).natAbs < 2 ^ 400 := by
    refine Nat.lt_of_le_of_lt ?_ hcm
    exact Int.natAbs_ediv_le_natAbs _ _
  refine ⟨_, _, rfl, rfl, wide_div hnn b2 (by decide) (by decide), _, _, rfl, rfl, wide_mul (a := 86) (b := 400) (wide_lt b1 b1) b3 (by decide) (by decide) (by decide), ?_⟩
  exact q.at (e1.trans e2)
theorem p_similar_rows {mk mkc : Addr → NF} (T : Tx c mg) (hcq : ∀ c', (mkc c').c = c') (h : sp_similar_rows c w vs H Q E) : t_similar_rows c w.T mk mkc sp_closeness (sp_factor_product c) (Dq Q) (start n_similar_rows vs) H := by
  obtain ⟨a, k, n, ct, L, m, rfl, hm, hk, hn, hT, q⟩ := h
  have z8 := size_le hm.ok.s k
  have f3 := hm.ok.s.f3
  have hkl := hm.klist hk
  obtain ⟨po, po1, po2, po3⟩ := hm.row hk hn
  have r1 := row_mem hm.ok hk hn
  have hlen : ((L.ks k).map V.ref).length = Kp429.sizeOf m.s k := by rw [List.length_map, hkl.2.1, rows_len hm.ok hk]
  have rowO : ∀ o, o < Kp429.sizeOf m.s k → ∃ p, ((L.ks k).map V.ref)[o]? = some (.ref p) ∧ H p = some (rowI (Kp429.rowOf m.p k o)) := fun o ho => by
    obtain ⟨p, _, p2, p3⟩ := hm.row hk ho
    exact ⟨p, p2, p3⟩
  refine q_set (v_rowl T hm hk (vv rfl) (vv rfl)) (q_set (v_ixL (vv rfl) (vv rfl) (sq_ hkl.1) (atI_nat po2)) ?_)
  refine q_asgK (k_rangeF (n := Kp429.sizeOf m.s k) (vt (by rw [hlen]) (v_len (vv rfl) (sq_ hkl.1))) (by omega) (fun o => decide (o ≠ n) && decide (0 < dotM m k n o)) (fun _ => rfl) (fun _ => rfl) ?_ ?_)
  · intro o H1 ho e1
    obtain ⟨p, p2, p3⟩ := rowO o ho
    have r2 := row_mem hm.ok hk ho
    refine e_and (Ans.e (a_test (vt ?_ (v_neI (vv rfl) (vv rfl))))) fun H2 e2 _ => e_test fun Q' q' => op_1 (c_call (va1 (vv rfl) (va1 (v_ixL (vv rfl) (vv rfl) (sq_ (e2 _ _ (e1 _ _ hkl.1))) (atI_nat p2)) va0)) ⟨po, p, _, _, rfl, e2 _ _ (e1 _ _ po3), e2 _ _ (e1 _ _ p3), by rw [r1.1, r2.1], by rw [r1.1]; omega, r1.2, fun H3 e3 => v_k vc ⟨_, _, rfl, rfl, ?_⟩⟩)
    · refine congrArg V.bl ?_
      rw [deq]
      by_cases h : o = n
      · rw [decide_eq_true h, decide_eq_false fun z => z h]
        rfl
      · rw [decide_eq_false h, decide_eq_true h]
        rfl
    · have h3 := q' H3 e3
      exact h3
  · intro D H1 hD
    have eD := hD.2.1
    have hsim : ((List.range (Kp429.sizeOf m.s k)).filter fun o => decide (o ≠ n) && decide (0 < dotM m k n o)) = simL m k n := rfl
    rw [hsim] at hD
    have hl8 := simI_len m k n (Kp429.sizeOf m.s k)
    have hl8 : (simL m k n).length ≤ Kp429.sizeOf m.s k := hl8
    refine q_set vc (q_list (vv rfl) (sq_ hD.2.2) (fun i σ' H' => ∃ y, σ' = [some (.ref a), some (nV k), some (nV n), some (nV ct), some (.ref D), none, some (.int (comI m k ((simL m k n).take i))), y, some (.ref po), some (.ref (L.kl k))] ∧ Ex H1 H') ⟨_, rfl, Ex.refl _⟩ (fun i σ' H' _ ⟨_, _, e⟩ => sq_ (e _ _ hD.2.2)) ?_ ?_)
    · rintro i x σ' H' hx ⟨y, rfl, e⟩
      rw [List.getElem?_map] at hx
      cases ho : (simL m k n)[i]? with
      | none =>
        rw [ho] at hx
        cases hx
      | some o =>
        rw [ho] at hx
        have hx : nV o = x := Option.some.inj hx
        subst hx
        have hi := (List.getElem?_eq_some_iff.mp ho).1
        have hos := (mem_simL (List.mem_of_getElem? ho)).1
        obtain ⟨p, p2, p3⟩ := rowO o hos
        have r2 := row_mem hm.ok hk hos
        have eH : Ex H H' := eD.trans e
        have vrow : Val (tOp (rIxL c.K) (tVar 9) (tVar 7)) [some (.ref a), some (nV k), some (nV n), some (nV ct), some (.ref D), none, some (.int (comI m k ((simL m k n).take i))), some (nV o), some (.ref po), some (.ref (L.kl k))] H' (.ref p) := v_ixL (vv rfl) (vv rfl) (sq_ (eH _ _ hkl.1)) (atI_nat p2)
        refine ⟨.int (comI m k ((simL m k n).take i)), rfl, c_call (va1 vrow (va1 vrow va0)) ⟨p, p, _, _, rfl, eH _ _ p3, eH _ _ p3, rfl, by rw [r2.1]; omega, r2.2, fun H2 e2 => ⟨_, _, rfl, rfl, ?_, ?_⟩⟩⟩
        · have b1 := com_bd hm.ok k ((simL m k n).take i)
          rw [List.length_take] at b1
          have b2 : (comI m k ((simL m k n).take i)).natAbs < 2 ^ 400 := Nat.lt_of_lt_of_le b1 (Nat.pow_le_pow_right (by decide) (by omega))
          exact wide_mul (a := 400) (b := 43) b2 (prods_bd hm.ok k o o) (by decide) (by decide) (by decide)
        · rw [comI_take m k ho]
          exact ⟨_, rfl, e.trans e2⟩
    · rintro σ' H' ⟨y, rfl, e⟩
      rw [List.length_map, List.take_length]
      have eH : Ex H H' := eD.trans e
      refine ⟨hT.ext eH, fun f c' H2 eN2 nn2 T2 f0 f1 c1 => ?_⟩
      refine s_retK (sl_k (sort_k (v_k (vv rfl) ⟨T2, fun f' c2 H3 eN3 nn3 T3 g0 g1 g2' => ⟨D, (simL m k n).map nV, (simL m k n).map (keyS m k n (comI m k (simL m k n))), f', c2, rfl, rfl, g1, g2', ?_, by rw [List.length_map, List.length_map], ?_, ?_⟩⟩)))
      · exact sq_ (eN3 _ _ (eN2 _ _ (e _ _ hD.2.2) notb_lst) notb_lst)
      · intro i x kk hx hkk H4 e4
        rw [List.getElem?_map] at hx hkk
        cases ho : (simL m k n)[i]? with
        | none =>
          rw [ho] at hx
          cases hx
        | some o =>
          rw [ho] at hx hkk
          have hx : nV o = x := Option.some.inj hx
          have hkk : keyS m k n (comI m k (simL m k n)) o = kk := Option.some.inj hkk
          subst hx
          have hmem := List.mem_of_getElem? ho
          have hos := (mem_simL hmem).1
          obtain ⟨p, p2, p3⟩ := rowO o hos
          have up : ∀ b ob, H b = some ob → (∀ qs, ob ≠ .tbl qs) → H4 b = some ob := fun b ob hb nb => e4 _ _ (eN3 _ _ (eN2 _ _ (eH _ _ hb) nb) nb)
          have fH : H4 f = some (FnO f (mkc c')) := e4 _ _ (eN3 _ _ f1 fnO_ne)
          have cH : H4 (mkc c').c = some (CodeO (mkc c').c (mkc c').qual) := e4 _ _ (eN3 _ _ (by rw [hcq c']; exact c1) codeO_ne)
          have b1 := com_bd hm.ok k (simL m k n)
          have b2 : (comI m k (simL m k n)).natAbs < 2 ^ 400 := Nat.lt_of_lt_of_le b1 (Nat.pow_le_pow_right (by decide) (by omega))
          refine tup_k (cons_k (show tCallX mkc 1 _ sp_closeness _ _ _ _ from ⟨f, c', rfl, fH, va1 (vv rfl) va0 _ ⟨fH, cH, m, k, n, o, comI m k (simL m k n), po, L.kl k, p, (L.ks k).map V.ref, rfl, rfl, hm.ok, hk, hn, hos, up _ _ po3 notb_lst, up _ _ hkl.1 notb_lst, p2, up _ _ p3 notb_lst, nn_pos hmem, b2, fun H5 e5 => ⟨_, rfl, cons_k (v_k (vv rfl) ?_)⟩⟩⟩))
          refine ⟨by show 2 ≤ sizeLine; exact Evl.sz_of (by decide), fun t ht => ⟨e5.trans (exn ht), t, rfl, ?_⟩⟩
          rw [upd_same, ← hkk]
          rfl
      · intro p2 H4 e4 hp2 h4
        refine v_k (vv rfl) ⟨(ct : Int), rfl, p2, _, rfl, sq_ h4, fun p3 hp3 => ?_⟩
        have eAll : ExtN H (upd H4 p3 (.lst (cutV (srtV ((simL m k n).map nV) ((simL m k n).map (keyS m k n (comI m k (simL m k n))))) none (some (ct : Int))))) := (ExtN.ex eH).trans (eN2.trans (eN3.trans (ExtN.ex (e4.trans (exn hp3)))))
        refine q p3 _ eAll (T3.ext (e4.trans (exn hp3))) (fresh eH (nn2 p3 (nn3 p3 (fresh e4 hp3)))) ?_
        rw [upd_same, cutV_to, srt_map, ← List.map_take]
        rfl
end
structure DefT (K : PySem.W.Frag) (mg : Str → Option Value) (x : Str) (st : Stmt) (ps : List Str) (cd : Addr) : Prop where
  ex : ∃ (f : Addr) (fd : FuncData), C8.Def K mg x st f fd ∧ Binds K fd ps [] ∧ fd.code = .ref cd
section
variable {P : Program} {wd : World} {mg : Str → Option Value} {base : Heap} {c : Cs} {w : Tw}
theorem cal_recommended (T : Tx c mg) (D : DefT c.K mg "recommended" s_recommended ["model", "user", "count"] w.cr) (TB : TabB base mg w.cr w.pr) (hne : w.pr ≠ w.ps) (c_prediction : C8.Met P wd c.K mg base 2 c.M "prediction" (sp_prediction c) []) : C8.Cal P wd c.K mg base 6 "recommended" (sp_recommended c w) [] := by
  obtain ⟨f, fd, D, b, hc⟩ := D.ex
  obtain ⟨oc, od, dV, kV, doc, pm, an, cdv, ct, osl, rfl, lk, hcd⟩ := D.fn.ex
  obtain rfl : cdv = .ref w.cr := hc
  refine ⟨f, _, ["model", "user", "count"], [], fn_of lk hcd sc_recommended (fun vs H Q E h => ?_) fun A outer s H vs Q E hr hsp => ⟨_, (d_recommended T TB hne c_prediction hr).nox, p_recommended T hsp⟩, D.mgf, D.kp, b, .nil⟩
  obtain ⟨a, u, n, L, m, e, _⟩ := h
  rw [e]
  rfl
theorem nok_closeness (T : Tx c mg) (c_factor_product : C8.Cal P wd c.K mg base 1 "factor_product" (sp_factor_product c) []) (env : Env) (f c' : Addr) : NOk P wd c.K mg base C8.CX0 2 f (mkC env c') ["other"] ["common", "own", "rows"] (sp_closeness f c') := by
  refine nok_of (N := n_closeness) (F := mkC env c') sc_closeness (fun doc pm ctv us hu => ?_) (fun ws vs H Q E h => ?_) fun A outer s H vs ws Q E hr _ _ _ hsp => ⟨_, d_closeness (F := mkC env c') rfl rfl c_factor_product hr, p_closeness T hsp⟩
  · match us, hu with
    | [u], _ => rfl
  · obtain ⟨m, k, n, o, cm, po, pl, q, rs, _, e, _⟩ := h
    rw [e]
    rfl
theorem cal_similar_rows (T : Tx c mg) (D : DefT c.K mg "similar_rows" s_similar_rows ["model", "kind", "number", "count"] w.cs) (TB : TabB base mg w.cs w.ps) (hne : w.pr ≠ w.ps) (c_factor_product : C8.Cal P wd c.K mg base 1 "factor_product" (sp_factor_product c) []) : C8.Cal P wd c.K mg base 6 "similar_rows" (sp_similar_rows c w) [] := by
  obtain ⟨f, fd, D, b, hc⟩ := D.ex
  obtain ⟨oc, od, dV, kV, doc, pm, an, cdv, ct, osl, rfl, lk, hcd⟩ := D.fn.ex
  obtain rfl : cdv = .ref w.cs := hc
  refine ⟨f, _, ["model", "kind", "number", "count"], [], fn_of lk hcd sc_similar_rows (fun vs H Q E h => ?_) fun A outer s H vs Q E hr hsp => ⟨_, (d_similar_rows T TB hne c_factor_product (fun f' c' => nok_closeness T c_factor_product _ f' c') hr).nox, p_similar_rows T (fun _ => rfl) hsp⟩, D.mgf, D.kp, b, .nil⟩
  obtain ⟨a, k, n, ct, L, m, e, _⟩ := h
  rw [e]
  rfl
end


end Lk
set_option Elab.async false
set_option maxRecDepth 100000
set_option maxHeartbeats 5000000
set_option linter.all false
namespace Lk
open PySem PySem.Spec PyProof.Rows L2
open Evl (Ex)
open LamX NdefX
/-! ### a call's answer -/
def ChgN (W : List Addr) (H H2 : Hp) : Prop := ∀ b o, H b = some o → (∀ qs, o ≠ .tbl qs) → b ∉ W → H2 b = some o
structure UpdN (w : Tw) (c : Cs) (H H2 : Hp) (a : Addr) (L L2 : Lay) (m' : Ms) : Prop where
  md : MdAt c H2 a L2 m'
  chg : ChgN (L.own a) H H2
  own : ∀ b ∈ L2.own a, b ∈ L.own a ∨ H b = none
  tab : TabsN w.T H2
section
variable {w : Tw} {c : Cs} {H H1 H2 : Hp} {a : Addr} {L L1 L2 : Lay} {m m1 m2 : Ms}
theorem MdAt.own_kind (h : MdAt c H a L m) : ∀ b ∈ L.own a, ∃ o, H b = some o ∧ ((∃ C dx fs, o = .ins C dx fs) ∨ ∃ xs, o = .lst xs) := fun b hb => by
  rcases in_cons hb with e | hb
  · obtain ⟨dx, ob⟩ := h.ob
    exact ⟨_, by rw [e]; exact ob, .inl ⟨_, _, _, rfl⟩⟩
  rcases in_cons hb with e | hb
  · exact ⟨_, by rw [e]; exact h.ro, .inr ⟨_, rfl⟩⟩
  rcases in_app hb with hb | hb
  · obtain ⟨r, _, hr⟩ := h.rr.mem hb
    exact ⟨_, hr, .inr ⟨_, rfl⟩⟩
  rcases in_app hb with hb | hb
  · obtain ⟨r, _, hr⟩ := h.rw.ur.mem hb
    exact ⟨_, hr, .inr ⟨_, rfl⟩⟩
  · obtain ⟨r, _, hr⟩ := h.rw.ir.mem hb
    exact ⟨_, hr, .inr ⟨_, rfl⟩⟩
theorem tabs_chg {W : List Addr} {T : List NTab} (t : TabsN T H) (ch : Chg W H H2) (k : ∀ b ∈ W, ∀ o, H b = some o → (∃ C dx fs, o = .ins C dx fs) ∨ ∃ xs, o = .lst xs) : TabsN T H2 := fun p hp => by
  obtain ⟨ps, h1, h2, h3⟩ := t p hp
  refine ⟨ps, ch _ _ h1 fun z => ?_, h2, fun pos cv hc => ?_⟩
  · rcases k _ z _ h1 with ⟨C, dx, fs, e⟩ | ⟨xs, e⟩ <;> cases e
  · obtain ⟨c0, e1, e2⟩ := h3 pos cv hc
    refine ⟨c0, e1, ch _ _ e2 fun z => ?_⟩
    rcases k _ z _ e2 with ⟨C, dx, fs, e⟩ | ⟨xs, e⟩ <;> (unfold CodeO at e; cases e)
theorem UpdN.of (h : MdAt c H a L m) (t : TabsN w.T H) (u : Upd c H H2 a L L2 m2) : UpdN w c H H2 a L L2 m2 := ⟨u.md, fun b o hb _ nb => u.chg b o hb nb, u.own, tabs_chg t u.chg fun b hb o ho => by
  obtain ⟨o', e, k⟩ := h.own_kind b hb
  rw [ho] at e
  cases e
  exact k⟩
theorem UpdN.ro (h : MdAt c H a L m) (e : ExtN H H2) (t : TabsN w.T H2) : UpdN w c H H2 a L L m := ⟨h.extN e, fun b o hb nb _ => e b o hb nb, fun b hb => .inl hb, t⟩
theorem UpdN.ex (u : UpdN w c H H1 a L L1 m1) (e : Ex H1 H2) : UpdN w c H H2 a L L1 m1 := ⟨u.md.ex e, fun b o hb nb nw => e _ _ (u.chg b o hb nb nw), u.own, u.tab.ext e⟩
end
/-- what an answer is to reach -/
def AnsQ (w : Tw) (c : Cs) (H : Hp) (a : Addr) (L : Lay) (m : Ms) (cl : Kp429.Call) (Q : VK) : Prop := ∀ (r : Addr) (L2 : Lay) (m2 : Ms) (H2 : Hp) (x : Int) (xs : List Int), Kp429.step (some m.mod) cl = (some m2.mod, ⟨x, xs⟩) → UpdN w c H H2 a L L2 m2 → (∃ H1, ChgN (L.own a) H H1 ∧ H1 r = none) → H2 r = some (.lst (.int x :: xs.map V.int)) → r ∉ L2.own a → Q (.ref r) H2
def SpA (c : Cs) (w : Tw) (R : List Nat → Kp429.Call → Prop) : Sp := fun vs H Q _ => ∃ (a p : Addr) (ns : List Nat) (cl : Kp429.Call) (L : Lay) (m : Ms), vs = [.ref a, .ref p] ∧ MdAt c H a L m ∧ SqL c.K H p (ns.map nV) ∧ TabsN w.T H ∧ R ns cl ∧ AnsQ w c H a L m cl Q
section
variable {w : Tw} {c : Cs} {H H1 : Hp} {a r : Addr} {L L1 : Lay} {m m1 : Ms} {cl : Kp429.Call} {Q : VK}
/-- a new list is the answer -/
theorem AnsQ.ret {x : Int} {xs : List Int} {vs : List V} (q : AnsQ w c H a L m cl Q) (hs : Kp429.step (some m.mod) cl = (some m1.mod, ⟨x, xs⟩)) (u : UpdN w c H H1 a L L1 m1) (hr : H1 r = none) (hv : vs = .int x :: xs.map V.int) : Q (.ref r) (upd H1 r (.lst vs)) :=
  q r L1 m1 _ x xs hs (u.ex (exn hr)) ⟨H1, u.chg, hr⟩ (by rw [upd_same, hv]) (u.md.own_some r hr)
/-- .. the state as it was -/
theorem AnsQ.ro {x : Int} {xs : List Int} {vs : List V} (q : AnsQ w c H a L m cl Q) (h : MdAt c H a L m) (t : TabsN w.T H) (hs : Kp429.step (some m.mod) cl = (some m.mod, ⟨x, xs⟩)) (e : Ex H H1) (hr : H1 r = none) (hv : vs = .int x :: xs.map V.int) : Q (.ref r) (upd H1 r (.lst vs)) :=
  q.ret hs (UpdN.ro h (ExtN.ex e) (t.ext e)) hr hv
end
section
variable {K : PySem.W.Frag} {σ : L2.St} {H : Hp} {te : TE} {p : Addr} {x y z u v : Nat}
theorem n0 {ns : List Nat} (h : Val te σ H (.ref p)) (hs : SqL K H p ((x :: ns).map nV)) : Val (tOp (rIxL K) te (tC (.int 0))) σ H (nV x) := v_ixL h vc hs (atI_nat (j := 0) rfl)
theorem n1 {ns : List Nat} (h : Val te σ H (.ref p)) (hs : SqL K H p ((x :: y :: ns).map nV)) : Val (tOp (rIxL K) te (tC (.int 1))) σ H (nV y) := v_ixL h vc hs (atI_nat (j := 1) rfl)
theorem n2 {ns : List Nat} (h : Val te σ H (.ref p)) (hs : SqL K H p ((x :: y :: z :: ns).map nV)) : Val (tOp (rIxL K) te (tC (.int 2))) σ H (nV z) := v_ixL h vc hs (atI_nat (j := 2) rfl)
theorem n3 {ns : List Nat} (h : Val te σ H (.ref p)) (hs : SqL K H p ((x :: y :: z :: u :: ns).map nV)) : Val (tOp (rIxL K) te (tC (.int 3))) σ H (nV u) := v_ixL h vc hs (atI_nat (j := 3) rfl)
theorem n4 {ns : List Nat} (h : Val te σ H (.ref p)) (hs : SqL K H p ((x :: y :: z :: u :: v :: ns).map nV)) : Val (tOp (rIxL K) te (tC (.int 4))) σ H (nV v) := v_ixL h vc hs (atI_nat (j := 4) rfl)
theorem dgt {a b : Nat} : decide ((a : Int) > (b : Int)) = decide (b < a) := dlt
theorem not_tt {b : Bool} (h : (!b) = true) : b = false := by
  cases b with
  | true => cases h
  | false => rfl
theorem not_ff {b : Bool} (h : (!b) = false) : b = true := by
  cases b with
  | true => rfl
  | false => cases h
end
def sp_answer_set_rating (c : Cs) (w : Tw) : Sp := SpA c w fun ns cl => ∃ u i v, ns = [u, i, v] ∧ cl = .setRating u i v
def sp_answer_clear_rating (c : Cs) (w : Tw) : Sp := SpA c w fun ns cl => ∃ u i, ns = [u, i] ∧ cl = .clearRating u i
def sp_answer_delete_user (c : Cs) (w : Tw) : Sp := SpA c w fun ns cl => ∃ u, ns = [u] ∧ cl = .deleteUser u
def sp_answer_reset (c : Cs) (w : Tw) : Sp := SpA c w fun ns cl => ns = [] ∧ cl = .reset
def sp_answer_step (c : Cs) (w : Tw) : Sp := SpA c w fun ns cl => ∃ k n r, ns = [k, n, r] ∧ cl = .step k n r
def sp_answer_sweep (c : Cs) (w : Tw) : Sp := SpA c w fun ns cl => ns = [] ∧ cl = .sweep
def sp_answer_train (c : Cs) (w : Tw) : Sp := SpA c w fun ns cl => ∃ n, ns = [n] ∧ cl = .train n
def sp_answer_objective (c : Cs) (w : Tw) : Sp := SpA c w fun ns cl => ns = [] ∧ cl = .objective
def sp_answer_curve (c : Cs) (w : Tw) : Sp := SpA c w fun ns cl => ∃ n, ns = [n] ∧ cl = .curve n
def sp_answer_certificate (c : Cs) (w : Tw) : Sp := SpA c w fun ns cl => ns = [] ∧ cl = .certificate
def sp_answer_quadratic (c : Cs) (w : Tw) : Sp := SpA c w fun ns cl => ∃ k n r, ns = [k, n, r] ∧ cl = .quadratic k n r
def sp_answer_parameter (c : Cs) (w : Tw) : Sp := SpA c w fun ns cl => ∃ k n r, ns = [k, n, r] ∧ cl = .parameter k n r
def sp_answer_set_parameter (c : Cs) (w : Tw) : Sp := SpA c w fun ns cl => ∃ k n r g z, ns = [k, n, r, g, z] ∧ cl = .setParameter k n r g z
def sp_answer_predict (c : Cs) (w : Tw) : Sp := SpA c w fun ns cl => ∃ u i, ns = [u, i] ∧ cl = .predict u i
def sp_answer_explain (c : Cs) (w : Tw) : Sp := SpA c w fun ns cl => ∃ u i, ns = [u, i] ∧ cl = .explain u i
def sp_answer_residuals (c : Cs) (w : Tw) : Sp := SpA c w fun ns cl => ∃ u, ns = [u] ∧ cl = .residuals u
def sp_answer_mean_error (c : Cs) (w : Tw) : Sp := SpA c w fun ns cl => ns = [] ∧ cl = .meanError
def sp_answer_recommend (c : Cs) (w : Tw) : Sp := SpA c w fun ns cl => ∃ u n, ns = [u, n] ∧ cl = .recommend u n
def sp_answer_similar (c : Cs) (w : Tw) : Sp := SpA c w fun ns cl => ∃ k n t, ns = [k, n, t] ∧ cl = .similar k n t
def sp_answer_fold_in (c : Cs) (w : Tw) : Sp := SpA c w fun ns cl => ns.length ≤ 16 ∧ cl = .foldIn ns
def sp_answer_recommend_new (c : Cs) (w : Tw) : Sp := SpA c w fun ns cl => ∃ n l, ns = n :: l ∧ l.length ≤ 16 ∧ cl = .recommendNew n l
def sp_answer_without (c : Cs) (w : Tw) : Sp := SpA c w fun ns cl => ∃ u n, ns = [u, n] ∧ cl = .without u n
def sp_answer_status (c : Cs) (w : Tw) : Sp := SpA c w fun ns cl => ns = [] ∧ cl = .status


section
variable {c : Cs} {mg : Str → Option Value} {vs : List V} {H : Hp} {Q : VK} {E : XK} {w : Tw}
theorem pair_no {m : Ms} {u i : Nat} (h : (decide (u < m.s.users) && decide (i < m.s.items)) = false) : Kp429.hasUser m.mod u = false ∨ Kp429.hasItem m.mod i = false := (Bool.and_eq_false_iff).mp h
theorem pair_ok {m : Ms} {u i : Nat} (h : (decide (u < m.s.users) && decide (i < m.s.items)) = true) : u < m.s.users ∧ i < m.s.items ∧ ¬ (Kp429.hasUser m.mod u = false ∨ Kp429.hasItem m.mod i = false) := by
  have h := (Bool.and_eq_true _ _).mp h
  refine ⟨of_decide_eq_true h.1, of_decide_eq_true h.2, ?_⟩
  rintro (z | z)
  · rw [show Kp429.hasUser m.mod u = true from h.1] at z
    cases z
  · rw [show Kp429.hasItem m.mod i = true from h.2] at z
    cases z
theorem p_answer_set_rating (T : Tx c mg) (h : sp_answer_set_rating c w vs H Q E) : t_answer_set_rating c (sp_has_pair c) (sp_is_rating c) (Dq Q) (start n_answer_set_rating vs) H := by
  obtain ⟨a, p, ns, cl, L, m, rfl, hm, hp, hT, ⟨u, i, v, rfl, rfl⟩, q⟩ := h
  refine q_set (n0 (vv rfl) hp) (q_set (n1 (vv rfl) hp) (q_set (n2 (vv rfl) hp) ?_))
  refine q_whenE (e_not (e_B fun Q' q' => c_has_pair hm.st (v_settings T hm (vv rfl)) (va1 (vv rfl) (va1 (vv rfl) va0)) ⟨L.st, u, i, m.s, rfl, hm.st, q'⟩)) (fun H1 e1 hb => ?_) (fun H1 e1 hb => ?_)
  · refine s_retK (c_lst (va1 vc va0) (by decide) fun r hr => q.ro hm hT (x := -2) (xs := []) ?_ e1 hr rfl)
    show (if _ then _ else _) = _
    rw [if_pos (pair_no (not_tt hb))]
    rfl
  · obtain ⟨hu, hi, hno⟩ := pair_ok (not_ff hb)
    have hm1 := hm.ex e1
    refine q_whenE (e_not (e_B fun Q' q' => c_call (va1 (vv rfl) va0) ⟨v, rfl, q'⟩)) (fun H2 e2 hv => ?_) (fun H2 e2 hv => ?_)
    · have hv := not_tt hv
      have hv2 : v < 1 ∨ 10 < v := by
        rcases (Bool.and_eq_false_iff).mp hv with z | z
        · have := of_decide_eq_false z
          omega
        · have := of_decide_eq_false z
          omega
      refine s_retK (c_lst (va1 vc va0) (by decide) fun r hr => q.ro hm hT (x := -22) (xs := []) ?_ (e1.trans e2) hr rfl)
      show (if _ then _ else (if _ then _ else _)) = _
      rw [if_neg hno, if_pos hv2]
      rfl
    · have hv := (Bool.and_eq_true _ _).mp (not_ff hv)
      have v1 : 1 ≤ v := of_decide_eq_true hv.1
      have v2 : v ≤ 10 := of_decide_eq_true hv.2
      have hm2 := hm1.ex e2
      have hr0 := rowOfR_mem (R := m.R) (u := u) (by rw [hm.ok.R.len]; exact hu)
      have hrl := hm.ok.R.row _ hr0.1
      obtain ⟨pr, r1, r2, r3⟩ := hm2.rr.at hr0.2
      have hent : (rowOfR m.R u)[i]? = some (ent m.R u i) := by
        unfold ent
        rw [List.getD_eq_getElem?_getD, List.getElem?_eq_getElem (by omega)]
        rfl
      refine q_set (v := nV (ent m.R u i)) (v_ixL (v_ixL (v_ratings T hm2 (vv rfl)) (vv rfl) (sq_ hm2.ro) (atI_nat r2)) (vv rfl) (sq_ r3) (atI_nat (show _ = some (nV (ent m.R u i)) by rw [List.getElem?_map, hent] <;> rfl))) ?_
      refine q_asgG (v_k (vv rfl) (sub_k (j := i) (v_ixL (v_ratings T hm2 (vv rfl)) (vv rfl) (sq_ hm2.ro) (atI_nat r2)) (vv rfl) r3 (by rw [List.length_map]; omega) ?_))
      have u2 := hm2.updR (i := i) (v := v) r1 r3 hu v2
      have e5 : ((rowOfR m.R u).map nV).set i (nV v) = ((rowOfR m.R u).set i v).map nV := by rw [List.map_set]
      rw [e5]
      refine s_retK (c_lst (va1 (vv rfl) va0) (by show 1 ≤ 100000; decide) fun r hr => q.ret (x := (ent m.R u i : Int)) (xs := []) ?_ (UpdN.of hm hT ((Upd.same hm (e1.trans e2)).trans u2)) hr rfl)
      show (if _ then _ else (if _ then _ else _)) = _
      rw [if_neg hno, if_neg (by omega), rating_at m.mod m.R rfl]
      refine congr (congrArg _ ?_) ?_
      · refine congrArg some ?_
        show (⟨m.s, Kp429.insertRating ⟨u, i, v⟩ (flatR 0 m.R), m.p⟩ : Kp429.Model) = _
        rw [ins_flat0 (by omega) (by rw [hm.ok.R.len]; exact hu) (by omega)]
        rfl
      · by_cases h0 : ent m.R u i = 0
        · rw [if_pos h0, h0]
          rfl
        · rw [if_neg h0]
          rfl
theorem p_answer_clear_rating (T : Tx c mg) (h : sp_answer_clear_rating c w vs H Q E) : t_answer_clear_rating c (sp_has_pair c) (Dq Q) (start n_answer_clear_rating vs) H := by
  obtain ⟨a, p, ns, cl, L, m, rfl, hm, hp, hT, ⟨u, i, rfl, rfl⟩, q⟩ := h
  refine q_set (n0 (vv rfl) hp) (q_set (n1 (vv rfl) hp) ?_)
  refine q_whenE (e_not (e_B fun Q' q' => c_has_pair hm.st (v_settings T hm (vv rfl)) (va1 (vv rfl) (va1 (vv rfl) va0)) ⟨L.st, u, i, m.s, rfl, hm.st, q'⟩)) (fun H1 e1 hb => ?_) (fun H1 e1 hb => ?_)
  · refine s_retK (c_lst (va1 vc va0) (by decide) fun r hr => q.ro hm hT (x := -2) (xs := []) ?_ e1 hr rfl)
    show (if _ then _ else _) = _
    rw [if_pos (pair_no (not_tt hb))]
    rfl
  · obtain ⟨hu, hi, hno⟩ := pair_ok (not_ff hb)
    have hm2 := hm.ex e1
    have hr0 := rowOfR_mem (R := m.R) (u := u) (by rw [hm.ok.R.len]; exact hu)
    have hrl := hm.ok.R.row _ hr0.1
    obtain ⟨pr, r1, r2, r3⟩ := hm2.rr.at hr0.2
    have hent : (rowOfR m.R u)[i]? = some (ent m.R u i) := by
      unfold ent
      rw [List.getD_eq_getElem?_getD, List.getElem?_eq_getElem (by omega)]
      rfl
    have hra := rating_at m.mod m.R rfl u i
    refine q_set (v := nV (ent m.R u i)) (v_ixL (v_ixL (v_ratings T hm2 (vv rfl)) (vv rfl) (sq_ hm2.ro) (atI_nat r2)) (vv rfl) (sq_ r3) (atI_nat (show _ = some (nV (ent m.R u i)) by rw [List.getElem?_map, hent] <;> rfl))) ?_
    refine q_when (b := decide (ent m.R u i = 0)) (a_test (vt (by rw [deq]) (v_eqI (i := (ent m.R u i : Int)) (j := ((0 : Nat) : Int)) (vv rfl) vc))) (fun hz => ?_) (fun hz => ?_)
    · have hz := of_decide_eq_true hz
      rw [if_pos hz] at hra
      refine s_retK (c_lst (va1 vc va0) (by decide) fun r hr => q.ro hm hT (x := -33) (xs := []) ?_ e1 hr rfl)
      show (if _ then _ else (match Kp429.ratingOf m.mod u i with | none => _ | some v => _)) = _
      rw [if_neg hno, hra]
      rfl
    · have hz := of_decide_eq_false hz
      rw [if_neg hz] at hra
      refine q_asgG (v_k vc (sub_k (j := i) (v_ixL (v_ratings T hm2 (vv rfl)) (vv rfl) (sq_ hm2.ro) (atI_nat r2)) (vv rfl) r3 (by rw [List.length_map]; omega) ?_))
      have u2 := hm2.updR (i := i) (v := 0) r1 r3 hu (by decide)
      have e5 : ((rowOfR m.R u).map nV).set i (.int 0) = ((rowOfR m.R u).set i 0).map nV := by rw [List.map_set] <;> rfl
      rw [e5]
      refine s_retK (c_lst (va1 (vv rfl) va0) (by show 1 ≤ 100000; decide) fun r hr => q.ret (x := (ent m.R u i : Int)) (xs := []) ?_ (UpdN.of hm hT ((Upd.same hm e1).trans u2)) hr rfl)
      show (if _ then _ else (match Kp429.ratingOf m.mod u i with | none => _ | some v => _)) = _
      rw [if_neg hno, hra]
      refine congr (congrArg _ (congrArg some ?_)) rfl
      show (⟨m.s, (flatR 0 m.R).filter (fun r => !(r.user == u && r.item == i)), m.p⟩ : Kp429.Model) = _
      rw [clear_flat0 (by rw [hm.ok.R.len]; exact hu)]
      rfl
theorem p_answer_delete_user (T : Tx c mg) (h : sp_answer_delete_user c w vs H Q E) : t_answer_delete_user c (sp_drop_ratings c) (sp_has_user c) (Dq Q) (start n_answer_delete_user vs) H := by
  obtain ⟨a, p, ns, cl, L, m, rfl, hm, hp, hT, ⟨u, rfl, rfl⟩, q⟩ := h
  refine q_set (n0 (vv rfl) hp) ?_
  refine q_whenE (e_not (e_B fun Q' q' => c_has_user hm.st (v_settings T hm (vv rfl)) (va1 (vv rfl) va0) ⟨L.st, u, m.s, rfl, hm.st, q'⟩)) (fun H1 e1 hb => ?_) (fun H1 e1 hb => ?_)
  · refine s_retK (c_lst (va1 vc va0) (by decide) fun r hr => q.ro hm hT (x := -2) (xs := []) ?_ e1 hr rfl)
    show (if _ then _ else _) = _
    rw [if_pos (show Kp429.hasUser m.mod u = false from not_tt hb)]
    rfl
  · have hb := not_ff hb
    have hu : u < m.s.users := of_decide_eq_true hb
    have hm1 := hm.ex e1
    refine s_retK (show tLst _ _ _ _ from cons_k (c_drop_ratings hm1 (vv rfl) (va1 (vv rfl) va0) ⟨a, u, L, m, rfl, hm1, hu, fun L2 H2 u2 => ⟨by show 1 ≤ sizeLine; exact Evl.sz_of (by decide), fun r hr => q.ret (x := ((obs 0 (rowOfR m.R u)).length : Int)) (xs := []) ?_ (UpdN.of hm hT ((Upd.same hm e1).trans u2)) hr rfl⟩⟩))
    show (if _ then _ else _) = _
    rw [if_neg (show ¬ Kp429.hasUser m.mod u = false from fun z => by rw [show Kp429.hasUser m.mod u = true from hb] at z; cases z)]
    refine congr (congrArg _ (congrArg some ?_)) ?_
    · show (⟨m.s, (flatR 0 m.R).filter (fun r => r.user != u), m.p⟩ : Kp429.Model) = _
      rw [drop_flat0 (by rw [hm.ok.R.len]; exact hu)]
      rfl
    · show Kp429.single ((((flatR 0 m.R).filter fun r => r.user == u).length : Nat) : Int) = _
      rw [filter_user0]
      unfold rowR
      rw [List.length_map]
      rfl
theorem p_answer_reset (T : Tx c mg) (h : sp_answer_reset c w vs H Q E) : t_answer_reset c (sp_begin_again c) (Dq Q) (start n_answer_reset vs) H := by
  obtain ⟨a, p, ns, cl, L, m, rfl, hm, hp, hT, ⟨rfl, rfl⟩, q⟩ := h
  refine q_dropK (c_begin_again hm (vv rfl) va0 ⟨a, L, m, rfl, hm, fun L2 H2 u2 => ?_⟩)
  exact s_retK (c_lst (va1 (v_base T u2.md (vv rfl)) va0) (by show 1 ≤ 100000; decide) fun r hr => q.ret (x := (again m).p.base) (xs := []) rfl (UpdN.of hm hT u2) hr rfl)
end

theorem cal_answer_set_rating {P : Program} {w : World} {mg : Str → Option Value} {base : Heap} {c : Cs} {tw : Tw} (T : Tx c mg) (D : DefF c.K mg "answer_set_rating" s_answer_set_rating ["model", "numbers"]) (c_has_pair : C8.Met P w c.K mg base 2 c.S "has_pair" (sp_has_pair c) []) (c_is_rating : C8.Cal P w c.K mg base 1 "is_rating" (sp_is_rating c) []) : C8.Cal P w c.K mg base 3 "answer_set_rating" (sp_answer_set_rating c tw) [] := by
  obtain ⟨f, fd, D, b⟩ := D.ex
  exact C8.cal0 D b .nil sc_answer_set_rating (fun vs H Q E h => by
    obtain ⟨a, p, ns, cl, L, m, e, _⟩ := h
    rw [e]
    rfl) (fun cdv A outer s H vs Q E hr h => ⟨_, d_answer_set_rating T c_has_pair c_is_rating hr, p_answer_set_rating T h⟩)
theorem cal_answer_clear_rating {P : Program} {w : World} {mg : Str → Option Value} {base : Heap} {c : Cs} {tw : Tw} (T : Tx c mg) (D : DefF c.K mg "answer_clear_rating" s_answer_clear_rating ["model", "numbers"]) (c_has_pair : C8.Met P w c.K mg base 2 c.S "has_pair" (sp_has_pair c) []) : C8.Cal P w c.K mg base 3 "answer_clear_rating" (sp_answer_clear_rating c tw) [] := by
  obtain ⟨f, fd, D, b⟩ := D.ex
  exact C8.cal0 D b .nil sc_answer_clear_rating (fun vs H Q E h => by
    obtain ⟨a, p, ns, cl, L, m, e, _⟩ := h
    rw [e]
    rfl) (fun cdv A outer s H vs Q E hr h => ⟨_, d_answer_clear_rating T c_has_pair hr, p_answer_clear_rating T h⟩)
theorem cal_answer_delete_user {P : Program} {w : World} {mg : Str → Option Value} {base : Heap} {c : Cs} {tw : Tw} (T : Tx c mg) (D : DefF c.K mg "answer_delete_user" s_answer_delete_user ["model", "numbers"]) (c_drop_ratings : C8.Met P w c.K mg base 2 c.M "drop_ratings" (sp_drop_ratings c) []) (c_has_user : C8.Met P w c.K mg base 1 c.S "has_user" (sp_has_user c) []) : C8.Cal P w c.K mg base 3 "answer_delete_user" (sp_answer_delete_user c tw) [] := by
  obtain ⟨f, fd, D, b⟩ := D.ex
  exact C8.cal0 D b .nil sc_answer_delete_user (fun vs H Q E h => by
    obtain ⟨a, p, ns, cl, L, m, e, _⟩ := h
    rw [e]
    rfl) (fun cdv A outer s H vs Q E hr h => ⟨_, d_answer_delete_user T c_drop_ratings c_has_user hr, p_answer_delete_user T h⟩)
theorem cal_answer_reset {P : Program} {w : World} {mg : Str → Option Value} {base : Heap} {c : Cs} {tw : Tw} (T : Tx c mg) (D : DefF c.K mg "answer_reset" s_answer_reset ["model", "numbers"]) (c_begin_again : C8.Met P w c.K mg base 4 c.M "begin_again" (sp_begin_again c) []) : C8.Cal P w c.K mg base 5 "answer_reset" (sp_answer_reset c tw) [] := by
  obtain ⟨f, fd, D, b⟩ := D.ex
  exact C8.cal0 D b .nil sc_answer_reset (fun vs H Q E h => by
    obtain ⟨a, p, ns, cl, L, m, e, _⟩ := h
    rw [e]
    rfl) (fun cdv A outer s H vs Q E hr h => ⟨_, d_answer_reset T c_begin_again hr, p_answer_reset T h⟩)

end Lk
set_option Elab.async false
set_option maxRecDepth 100000
set_option maxHeartbeats 5000000
set_option linter.all false
namespace Lk
open PySem PySem.Spec PyProof.Rows L2
open Evl (Ex)
open LamX NdefX
section
variable {σ : L2.St} {H : Hp} {t : TA} {Q : VK} {s : Kp429.Settings} {k n q : Nat} {m : Ms}
theorem lst_k (h : t σ H fun xs H1 => xs.length ≤ sizeLine ∧ ∀ p, H1 p = none → Q (.ref p) (upd H1 p (.lst xs))) : tLst t σ H Q := h
theorem crd_of (h : Kp429.isCoordinate s ⟨k, n, q⟩ = true) : Crd s k n q := by
  have h := (Bool.and_eq_true _ _).mp h
  have h1 := (Bool.and_eq_true _ _).mp h.1
  exact ⟨of_decide_eq_true h1.1, of_decide_eq_true h1.2, of_decide_eq_true h.2⟩
theorem sz2 {n : Nat} (h : n ≤ 100000) : n ≤ sizeLine := Evl.sz_of h
theorem step_flag (h : m.Ok) (c : Crd m.s k n q) : (if (m.step k n q).p = m.p then (0 : Int) else 1) = ((chgV m k n q : Nat) : Int) := by
  by_cases e : stepV m k n q = Kp429.place (Kp429.rowOf m.p k n) q
  · rw [if_pos (by rw [step_same h c e]), (chg_zero h c).mpr e]
    rfl
  · rw [if_neg (step_ne h c e)]
    unfold chgV
    rw [if_neg e]
    rfl
end


section
variable {c : Cs} {mg : Str → Option Value} {vs : List V} {H : Hp} {Q : VK} {E : XK} {w : Tw}
theorem p_answer_step (T : Tx c mg) (h : sp_answer_step c w vs H Q E) : t_answer_step c (sp_has_parameter c) (sp_step c) (Dq Q) (start n_answer_step vs) H := by
  obtain ⟨a, p, ns, cl, L, m, rfl, hm, hp, hT, ⟨k, n, r, rfl, rfl⟩, q⟩ := h
  refine q_set (n0 (vv rfl) hp) (q_set (n1 (vv rfl) hp) (q_set (n2 (vv rfl) hp) ?_))
  refine q_whenE (e_not (e_B fun Q' q' => c_has_parameter hm.st (v_settings T hm (vv rfl)) (va1 (vv rfl) (va1 (vv rfl) (va1 (vv rfl) va0))) ⟨L.st, k, n, r, m.s, rfl, hm.st, q'⟩)) (fun H1 e1 hb => ?_) (fun H1 e1 hb => ?_)
  · refine s_retK (c_lst (va1 vc va0) (by decide) fun b hr => q.ro hm hT (x := -2) (xs := []) ?_ e1 hr rfl)
    show (if _ then _ else _) = _
    rw [if_pos (show Kp429.isCoordinate m.mod.settings ⟨k, n, r⟩ = false from not_tt hb)]
    rfl
  · have hb := not_ff hb
    have cr := crd_of hb
    have hm1 := hm.ex e1
    refine q_set (v_cell T hm1 cr.kle cr.nlt cr.qle (vv rfl) (vv rfl) (vv rfl) (vv rfl)) ?_
    refine q_asgK (c_call (va1 (vv rfl) (va1 (vv rfl) (va1 (vv rfl) (va1 (vv rfl) va0)))) ⟨a, k, n, r, L, m, rfl, hm1, cr.kle, cr.nlt, cr.qle, fun H2 u2 => ?_⟩)
    refine s_retK (c_lst (va1 (vv rfl) (va1 (vv rfl) (va1 (v_cell T u2.md (n := n) (q := r) cr.kle cr.nlt cr.qle (vv rfl) (vv rfl) (vv rfl) (vv rfl)) va0))) (by show 3 ≤ 100000; decide) fun b hr => q.ret (x := (chgV m k n r : Int)) (xs := [Kp429.place (Kp429.rowOf m.p k n) r, Kp429.place (Kp429.rowOf (m.step k n r).p k n) r]) ?_ (UpdN.of hm hT ((Upd.same hm e1).trans u2)) hr rfl)
    show (if _ then _ else _) = _
    rw [if_neg (show ¬ Kp429.isCoordinate m.mod.settings ⟨k, n, r⟩ = false from fun z => by rw [show Kp429.isCoordinate m.mod.settings ⟨k, n, r⟩ = true from hb] at z; cases z)]
    rw [← step_flag hm.ok cr]
    rfl
theorem p_answer_sweep (T : Tx c mg) (h : sp_answer_sweep c w vs H Q E) : t_answer_sweep c (sp_sweep c) (sp_whole_objective c) (Dq Q) (start n_answer_sweep vs) H := by
  obtain ⟨a, p, ns, cl, L, m, rfl, hm, hp, hT, ⟨rfl, rfl⟩, q⟩ := h
  refine q_asgK (c_call (va1 (vv rfl) va0) ⟨a, L, m, rfl, hm, fun H1 u1 => ?_⟩)
  refine s_retK (lst_k (cons_k (v_k (vv rfl) (cons_k (c_call (va1 (vv rfl) va0) ⟨a, L, m.sweep, rfl, u1.md, fun H2 e2 => ⟨by show 2 ≤ sizeLine; exact sz2 (by decide), fun b hr => ?_⟩⟩)))))
  exact q.ret (x := (Kp429.changes m.s m.p m.sweep.p : Int)) (xs := [Kp429.objective m.sweep.mod m.sweep.p]) rfl ((UpdN.of hm hT u1).ex e2) hr rfl
theorem p_answer_train (T : Tx c mg) (h : sp_answer_train c w vs H Q E) : t_answer_train c (sp_train c) (sp_whole_objective c) (Dq Q) (start n_answer_train vs) H := by
  obtain ⟨a, p, ns, cl, L, m, rfl, hm, hp, hT, ⟨n, rfl, rfl⟩, q⟩ := h
  refine q_set (n0 (vv rfl) hp) ?_
  refine q_when (b := decide (100 < n)) (a_test (vt (by rw [show (100 : Int) = ((100 : Nat) : Int) from rfl, dgt]) (v_i0 (vv rfl) vc))) (fun hb => ?_) (fun hb => ?_)
  · refine s_retK (c_lst (va1 vc va0) (by decide) fun b hr => q.ro hm hT (x := -22) (xs := []) ?_ (Ex.refl H) hr rfl)
    show (if _ then _ else _) = _
    rw [if_pos (of_decide_eq_true hb)]
    rfl
  · have hb := of_decide_eq_false hb
    refine s_retK (op_1 (c_call (va1 (vv rfl) (va1 (vv rfl) va0)) ⟨a, n, L, m, rfl, hm, by omega, fun p1 H1 f1 u1 h1 no1 => lst_k (cons_k (c_call (va1 (vv rfl) va0) ⟨a, L, m.train n, rfl, u1.md, fun H2 e2 => ⟨by show 1 ≤ sizeLine; exact sz2 (by decide), fun r1 hr1 => ?_⟩⟩))⟩))
    refine ⟨p1, r1, _, _, rfl, rfl, exn hr1 _ _ (e2 _ _ h1), upd_same, by show 2 + 1 ≤ sizeLine; exact sz2 (by decide), fun b hr => ?_⟩
    refine q.ret (x := ((Kp429.train m.mod n m.p 0).2.1 : Int)) (xs := [((Kp429.flag (Kp429.train m.mod n m.p 0).2.2 : Nat) : Int), Kp429.objective (m.train n).mod (m.train n).p]) ?_ ((UpdN.of hm hT u1).ex (e2.trans (exn hr1))) hr rfl
    show (if _ then _ else _) = _
    rw [if_neg hb]
    rfl
theorem p_answer_objective (T : Tx c mg) (h : sp_answer_objective c w vs H Q E) : t_answer_objective c (sp_error_part c) (sp_penalty_part c) (Dq Q) (start n_answer_objective vs) H := by
  obtain ⟨a, p, ns, cl, L, m, rfl, hm, hp, hT, ⟨rfl, rfl⟩, q⟩ := h
  refine q_asgK (c_call (va1 (vv rfl) va0) ⟨a, L, m, rfl, hm, fun H1 e1 => q_asgK (c_call (va1 (vv rfl) va0) ⟨a, L, m, rfl, hm.ex e1, fun H2 e2 => ?_⟩)⟩)
  exact s_retK (c_lst (va1 vc (va1 (v_i0 (vv rfl) (vv rfl)) (va1 (vv rfl) (va1 (vv rfl) va0)))) (by show 4 ≤ 100000; decide) fun b hr => q.ro hm hT (x := 0) (xs := [Kp429.objective m.mod m.p, Kp429.errorPart m.mod m.p, Kp429.penaltyPart m.s m.p]) rfl (e1.trans e2) hr rfl)
theorem p_answer_curve (T : Tx c mg) (h : sp_answer_curve c w vs H Q E) : t_answer_curve c (sp_coming_objectives c) (Dq Q) (start n_answer_curve vs) H := by
  obtain ⟨a, p, ns, cl, L, m, rfl, hm, hp, hT, ⟨n, rfl, rfl⟩, q⟩ := h
  refine q_set (n0 (vv rfl) hp) ?_
  refine q_when (b := decide (20 < n)) (a_test (vt (by rw [show (20 : Int) = ((20 : Nat) : Int) from rfl, dgt]) (v_i0 (vv rfl) vc))) (fun hb => ?_) (fun hb => ?_)
  · refine s_retK (c_lst (va1 vc va0) (by decide) fun b hr => q.ro hm hT (x := -22) (xs := []) ?_ (Ex.refl H) hr rfl)
    show (_, if _ then _ else _) = _
    rw [if_pos (of_decide_eq_true hb)]
    rfl
  · have hb := of_decide_eq_false hb
    refine s_retK (op_1 (c_lst (va1 (vv rfl) va0) (by show 1 ≤ 100000; decide) fun r1 hr1 => c_call (va1 (vv rfl) (va1 (vv rfl) va0)) ⟨a, n, L, m, rfl, hm.ex (exn hr1), by omega, fun p1 H1 f1 e1 h1 => ?_⟩))
    refine ⟨r1, p1, _, _, rfl, rfl, e1 _ _ upd_same, h1, ?_, fun b hr => ?_⟩
    · rw [List.length_map, curve_len]
      exact sz2 (by show 1 + n ≤ 100000; omega)
    · refine q.ro hm hT (x := (n : Int)) (xs := curveA m n) ?_ ((exn hr1).trans e1) hr rfl
      show (_, if _ then _ else _) = _
      rw [if_neg hb]
      rfl
theorem p_answer_certificate (T : Tx c mg) (h : sp_answer_certificate c w vs H Q E) : t_answer_certificate c (sp_first_improvable c) (Dq Q) (start n_answer_certificate vs) H := by
  obtain ⟨a, p, ns, cl, L, m, rfl, hm, hp, hT, ⟨rfl, rfl⟩, q⟩ := h
  refine q_asgK (c_call (va1 (vv rfl) va0) ⟨a, L, m, rfl, hm, fun p1 H1 f1 e1 h1 => ?_⟩)
  have hs : Kp429.step (some m.mod) .certificate = (some m.mod, Kp429.coordinateResult (Kp429.firstImprovable m.mod m.p)) := rfl
  have ef : firstA m = match Kp429.firstImprovable m.mod m.p with
    | none => []
    | some c => [(c.kind : Int), (c.id : Int), (c.place : Int)] := rfl
  rw [ef] at h1
  cases hf : Kp429.firstImprovable m.mod m.p with
  | none =>
    rw [hf] at h1 hs
    refine q_when (b := true) (a_test (v_eqI (i := 0) (j := 0) (v_len (vv rfl) (sq_ h1)) vc)) (fun _ => ?_) (fun hb => by cases hb)
    exact s_retK (c_lst (va1 vc va0) (by decide) fun b hr => q.ro hm hT (x := 1) (xs := []) hs e1 hr rfl)
  | some co =>
    rw [hf] at h1 hs
    refine q_when (b := false) (a_test (v_eqI (i := 3) (j := 0) (v_len (vv rfl) (sq_ h1)) vc)) (fun hb => by cases hb) (fun _ => ?_)
    refine s_retK (op_1 (c_lst (va1 vc va0) (by decide) fun r1 hr1 => v_k (vv rfl) ⟨r1, p1, _, _, rfl, rfl, upd_same, exn hr1 _ _ h1, by show 1 + 3 ≤ sizeLine; exact sz2 (by decide), fun b hr => ?_⟩))
    exact q.ro hm hT (x := 0) (xs := [(co.kind : Int), (co.id : Int), (co.place : Int)]) hs (e1.trans (exn hr1)) hr rfl
theorem p_answer_quadratic (T : Tx c mg) (h : sp_answer_quadratic c w vs H Q E) : t_answer_quadratic c (sp_has_parameter c) (sp_quadratic_of c) (Dq Q) (start n_answer_quadratic vs) H := by
  obtain ⟨a, p, ns, cl, L, m, rfl, hm, hp, hT, ⟨k, n, r, rfl, rfl⟩, q⟩ := h
  refine q_set (n0 (vv rfl) hp) (q_set (n1 (vv rfl) hp) (q_set (n2 (vv rfl) hp) ?_))
  refine q_whenE (e_not (e_B fun Q' q' => c_has_parameter hm.st (v_settings T hm (vv rfl)) (va1 (vv rfl) (va1 (vv rfl) (va1 (vv rfl) va0))) ⟨L.st, k, n, r, m.s, rfl, hm.st, q'⟩)) (fun H1 e1 hb => ?_) (fun H1 e1 hb => ?_)
  · refine s_retK (c_lst (va1 vc va0) (by decide) fun b hr => q.ro hm hT (x := -2) (xs := []) ?_ e1 hr rfl)
    show (_, if _ then _ else _) = _
    rw [if_pos (show Kp429.isCoordinate m.mod.settings ⟨k, n, r⟩ = false from not_tt hb)]
    rfl
  · have hb := not_ff hb
    have cr := crd_of hb
    refine q_asgK (c_call (va1 (vv rfl) (va1 (vv rfl) (va1 (vv rfl) (va1 (vv rfl) va0)))) ⟨a, k, n, r, L, m, rfl, hm.ex e1, cr.kle, cr.nlt, cr.qle, fun p1 H2 e2 f2 hq => ?_⟩)
    refine s_retK (c_lst (va1 vc (va1 (v_curv T hq (vv rfl)) (va1 (v_slope T hq (vv rfl)) va0))) (by show 3 ≤ 100000; decide) fun b hr => q.ro hm hT (x := 0) (xs := [(quadM m k n r).curvature, (quadM m k n r).slope]) ?_ (e1.trans e2) hr rfl)
    show (_, if _ then _ else _) = _
    rw [if_neg (show ¬ Kp429.isCoordinate m.mod.settings ⟨k, n, r⟩ = false from fun z => by rw [show Kp429.isCoordinate m.mod.settings ⟨k, n, r⟩ = true from hb] at z; cases z)]
    rfl
theorem p_answer_parameter (T : Tx c mg) (h : sp_answer_parameter c w vs H Q E) : t_answer_parameter c (sp_has_parameter c) (Dq Q) (start n_answer_parameter vs) H := by
  obtain ⟨a, p, ns, cl, L, m, rfl, hm, hp, hT, ⟨k, n, r, rfl, rfl⟩, q⟩ := h
  refine q_set (n0 (vv rfl) hp) (q_set (n1 (vv rfl) hp) (q_set (n2 (vv rfl) hp) ?_))
  refine q_whenE (e_not (e_B fun Q' q' => c_has_parameter hm.st (v_settings T hm (vv rfl)) (va1 (vv rfl) (va1 (vv rfl) (va1 (vv rfl) va0))) ⟨L.st, k, n, r, m.s, rfl, hm.st, q'⟩)) (fun H1 e1 hb => ?_) (fun H1 e1 hb => ?_)
  · refine s_retK (c_lst (va1 vc va0) (by decide) fun b hr => q.ro hm hT (x := -2) (xs := []) ?_ e1 hr rfl)
    show (_, if _ then _ else _) = _
    rw [if_pos (show Kp429.isCoordinate m.mod.settings ⟨k, n, r⟩ = false from not_tt hb)]
    rfl
  · have hb := not_ff hb
    have cr := crd_of hb
    have hm1 := hm.ex e1
    refine s_retK (c_lst (va1 vc (va1 (v_cell T hm1 cr.kle cr.nlt cr.qle (vv rfl) (vv rfl) (vv rfl) (vv rfl)) va0)) (by show 2 ≤ 100000; decide) fun b hr => q.ro hm hT (x := 0) (xs := [Kp429.place (Kp429.rowOf m.p k n) r]) ?_ e1 hr rfl)
    show (_, if _ then _ else _) = _
    rw [if_neg (show ¬ Kp429.isCoordinate m.mod.settings ⟨k, n, r⟩ = false from fun z => by rw [show Kp429.isCoordinate m.mod.settings ⟨k, n, r⟩ = true from hb] at z; cases z)]
    rfl
theorem p_answer_set_parameter (T : Tx c mg) (h : sp_answer_set_parameter c w vs H Q E) : t_answer_set_parameter c (sp_has_parameter c) (sp_is_in_range c) (Dq Q) (start n_answer_set_parameter vs) H := by
  obtain ⟨a, p, ns, cl, L, m, rfl, hm, hp, hT, ⟨k, n, r, g, z, rfl, rfl⟩, q⟩ := h
  refine q_set (n0 (vv rfl) hp) (q_set (n1 (vv rfl) hp) (q_set (n2 (vv rfl) hp) (q_set (n3 (vv rfl) hp) (q_set (n4 (vv rfl) hp) ?_))))
  refine q_whenE (e_not (e_B fun Q' q' => c_has_parameter hm.st (v_settings T hm (vv rfl)) (va1 (vv rfl) (va1 (vv rfl) (va1 (vv rfl) va0))) ⟨L.st, k, n, r, m.s, rfl, hm.st, q'⟩)) (fun H1 e1 hb => ?_) (fun H1 e1 hb => ?_)
  · refine s_retK (c_lst (va1 vc va0) (by decide) fun b hr => q.ro hm hT (x := -2) (xs := []) ?_ e1 hr rfl)
    show (if _ then _ else _) = _
    rw [if_pos (show Kp429.isCoordinate m.mod.settings ⟨k, n, r⟩ = false from not_tt hb)]
    rfl
  · have hb := not_ff hb
    have cr := crd_of hb
    have hno : ¬ Kp429.isCoordinate m.mod.settings ⟨k, n, r⟩ = false := fun z => by
      rw [show Kp429.isCoordinate m.mod.settings ⟨k, n, r⟩ = true from hb] at z
      cases z
    have hm1 := hm.ex e1
    refine q_set (v := .int (if g = 1 then -(z : Int) else (z : Int))) (v_if (b := decide (g = 1)) (a_test (vt (by rw [← deq] <;> rfl) (v_eqI (i := (g : Int)) (j := ((1 : Nat) : Int)) (vv rfl) vc))) (fun hz => ?_) (fun hz => ?_)) ?_
    · refine vt ?_ (v_neg (vv rfl))
      rw [if_pos (of_decide_eq_true hz)]
    · refine vt ?_ (vv rfl)
      rw [if_neg (of_decide_eq_false hz)]
    · generalize hv : (if g = 1 then -(z : Int) else (z : Int)) = v
      refine q_whenE (b := decide (1 < g) || !(decide (Kp429.lowest m.s r ≤ v) && decide (v ≤ Kp429.highest m.s r))) (e_or (Ans.e (a_test (vt (by rw [← dgt] <;> rfl) (v_i0 (i := (g : Int)) (j := ((1 : Nat) : Int)) (vv rfl) vc)))) fun H2 e2 _ => e_not (e_B fun Q' q' => c_is_in_range (hm1.ex e2).st (v_settings T (hm1.ex e2) (vv rfl)) (va1 (vv rfl) (va1 (vv rfl) va0)) ⟨L.st, r, v, m.s, rfl, (hm1.ex e2).st, q'⟩)) (fun H2 e2 hd => ?_) (fun H2 e2 hd => ?_)
      · refine s_retK (c_lst (va1 vc va0) (by decide) fun b hr => q.ro hm hT (x := -22) (xs := []) ?_ (e1.trans e2) hr rfl)
        show (if _ then _ else (if 1 < g ∨ (if g = 1 then -(z : Int) else (z : Int)) < Kp429.lowest m.s r ∨ Kp429.highest m.s r < (if g = 1 then -(z : Int) else (z : Int)) then _ else _)) = _
        rw [if_neg hno, hv, if_pos]
        · rfl
        · rcases (Bool.or_eq_true _ _).mp hd with y | y
          · exact .inl (of_decide_eq_true y)
          · rcases (Bool.and_eq_false_iff).mp (not_tt y) with y | y
            · have := of_decide_eq_false y
              exact .inr (.inl (by omega))
            · have := of_decide_eq_false y
              exact .inr (.inr (by omega))
      · have hd := (Bool.or_eq_false_iff).mp hd
        have d1 := of_decide_eq_false hd.1
        have d2 := (Bool.and_eq_true _ _).mp (not_ff hd.2)
        have d3 := of_decide_eq_true d2.1
        have d4 := of_decide_eq_true d2.2
        have hm2 := hm1.ex e2
        have hbd : Bd v := by
          obtain ⟨⟨l1, l2⟩, ⟨l3, l4⟩⟩ := lo_hi hm.ok.s r
          exact ⟨by omega, by omega⟩
        obtain ⟨po, o1, o2, o3⟩ := hm2.row cr.kle cr.nlt
        have hrl := (row_mem hm.ok cr.kle cr.nlt).1
        have hq := cr.qle
        refine q_set (v_rowp T hm2 cr.kle o2 (vv rfl) (vv rfl) (vv rfl)) (q_set (v_ixL (vv rfl) (vv rfl) (sq_ o3) (atI_nat (place_get (by omega)))) (q_asgG (v_k (vv rfl) (sub_k (j := r) (vv rfl) (vv rfl) o3 (by rw [List.length_map]; omega) ?_))))
        have u3 := hm2.updP (r := r) cr.kle cr.nlt o1 o3 hbd
        have e5 : ((Kp429.rowOf m.p k n).map V.int).set r (.int v) = ((Kp429.rowOf m.p k n).set r v).map V.int := by rw [List.map_set]
        rw [e5]
        refine s_retK (c_lst (va1 vc (va1 (vv rfl) va0)) (by show 2 ≤ 100000; decide) fun b hr => q.ret (x := 0) (xs := [Kp429.place (Kp429.rowOf m.p k n) r]) ?_ (UpdN.of hm hT ((Upd.same hm (e1.trans e2)).trans u3)) hr rfl)
        show (if _ then _ else (if 1 < g ∨ (if g = 1 then -(z : Int) else (z : Int)) < Kp429.lowest m.s r ∨ Kp429.highest m.s r < (if g = 1 then -(z : Int) else (z : Int)) then _ else (some (Kp429.withParameters m.mod (Kp429.setRow m.p k n ((Kp429.rowOf m.p k n).set r (if g = 1 then -(z : Int) else (z : Int))))), _))) = _
        rw [if_neg hno, hv, if_neg (by omega)]
        rfl
theorem p_answer_predict (T : Tx c mg) (h : sp_answer_predict c w vs H Q E) : t_answer_predict c (sp_has_pair c) (sp_prediction c) (Dq Q) (start n_answer_predict vs) H := by
  obtain ⟨a, p, ns, cl, L, m, rfl, hm, hp, hT, ⟨u, i, rfl, rfl⟩, q⟩ := h
  refine q_set (n0 (vv rfl) hp) (q_set (n1 (vv rfl) hp) ?_)
  refine q_whenE (e_not (e_B fun Q' q' => c_has_pair hm.st (v_settings T hm (vv rfl)) (va1 (vv rfl) (va1 (vv rfl) va0)) ⟨L.st, u, i, m.s, rfl, hm.st, q'⟩)) (fun H1 e1 hb => ?_) (fun H1 e1 hb => ?_)
  · refine s_retK (c_lst (va1 vc va0) (by decide) fun r hr => q.ro hm hT (x := -2) (xs := []) ?_ e1 hr rfl)
    show (_, if (Kp429.hasUser m.mod u && Kp429.hasItem m.mod i) = true then _ else _) = _
    rw [if_neg (by rw [show (Kp429.hasUser m.mod u && Kp429.hasItem m.mod i) = false from not_tt hb]; exact Bool.false_ne_true)]
    rfl
  · have hb := not_ff hb
    obtain ⟨hu, hi, _⟩ := pair_ok (m := m) hb
    have hm1 := hm.ex e1
    refine s_retK (lst_k (cons_k (v_k vc (cons_k (c_prediction hm1 (vv rfl) (va1 (vv rfl) (va1 (vv rfl) va0)) ⟨a, u, i, L, m, rfl, hm1, hu, hi, fun H2 e2 => ⟨by show 2 ≤ sizeLine; exact sz2 (by decide), fun b hr => q.ro hm hT (x := 0) (xs := [Kp429.predict m.p u i]) ?_ (e1.trans e2) hr rfl⟩⟩)))))
    show (_, if (Kp429.hasUser m.mod u && Kp429.hasItem m.mod i) = true then _ else _) = _
    rw [if_pos (show (Kp429.hasUser m.mod u && Kp429.hasItem m.mod i) = true from hb)]
    rfl
theorem p_answer_explain (T : Tx c mg) (h : sp_answer_explain c w vs H Q E) : t_answer_explain c (sp_has_pair c) (sp_prediction_parts c) (Dq Q) (start n_answer_explain vs) H := by
  obtain ⟨a, p, ns, cl, L, m, rfl, hm, hp, hT, ⟨u, i, rfl, rfl⟩, q⟩ := h
  have f3 := hm.ok.s.f3
  refine q_set (n0 (vv rfl) hp) (q_set (n1 (vv rfl) hp) ?_)
  refine q_whenE (e_not (e_B fun Q' q' => c_has_pair hm.st (v_settings T hm (vv rfl)) (va1 (vv rfl) (va1 (vv rfl) va0)) ⟨L.st, u, i, m.s, rfl, hm.st, q'⟩)) (fun H1 e1 hb => ?_) (fun H1 e1 hb => ?_)
  · refine s_retK (c_lst (va1 vc va0) (by decide) fun r hr => q.ro hm hT (x := -2) (xs := []) ?_ e1 hr rfl)
    show (_, if (Kp429.hasUser m.mod u && Kp429.hasItem m.mod i) = true then _ else _) = _
    rw [if_neg (by rw [show (Kp429.hasUser m.mod u && Kp429.hasItem m.mod i) = false from not_tt hb]; exact Bool.false_ne_true)]
    rfl
  · have hb := not_ff hb
    obtain ⟨hu, hi, _⟩ := pair_ok (m := m) hb
    have hm1 := hm.ex e1
    have hlen : (partsP m.p u i).length = m.s.factors + 3 := by
      unfold partsP
      rw [List.length_cons, List.length_cons, List.length_cons, prod_len, (row_mem hm.ok (k := 0) (by decide) hu).1, (row_mem hm.ok (k := 1) (by decide) hi).1]
      omega
    refine q_asgK (c_prediction_parts hm1 (vv rfl) (va1 (vv rfl) (va1 (vv rfl) va0)) ⟨a, u, i, L, m, rfl, hm1, hu, hi, fun p1 H2 f2 e2 h2 => ?_⟩)
    refine s_retK (op_1 (c_lst (va1 (v_len (vv rfl) (sq_ h2)) va0) (by show 1 ≤ 100000; decide) fun r1 hr1 => v_k (vv rfl) ⟨r1, p1, _, _, rfl, rfl, upd_same, exn hr1 _ _ h2, ?_, fun b hr => ?_⟩))
    · rw [List.length_map, hlen]
      exact sz2 (by show 1 + (m.s.factors + 3) ≤ 100000; omega)
    · refine q.ro hm hT (x := ((m.s.factors + 3 : Nat) : Int)) (xs := partsP m.p u i) ?_ ((e1.trans e2).trans (exn hr1)) hr ?_
      · show (_, if (Kp429.hasUser m.mod u && Kp429.hasItem m.mod i) = true then _ else _) = _
        rw [if_pos (show (Kp429.hasUser m.mod u && Kp429.hasItem m.mod i) = true from hb)]
        rfl
      · rw [List.length_map, hlen]
        rfl
end

theorem cal_answer_step {P : Program} {w : World} {mg : Str → Option Value} {base : Heap} {c : Cs} {tw : Tw} (T : Tx c mg) (D : DefF c.K mg "answer_step" s_answer_step ["model", "numbers"]) (c_has_parameter : C8.Met P w c.K mg base 2 c.S "has_parameter" (sp_has_parameter c) []) (c_step : C8.Cal P w c.K mg base 6 "step" (sp_step c) []) : C8.Cal P w c.K mg base 7 "answer_step" (sp_answer_step c tw) [] := by
  obtain ⟨f, fd, D, b⟩ := D.ex
  exact C8.cal0 D b .nil sc_answer_step (fun vs H Q E h => by
    obtain ⟨a, p, ns, cl, L, m, e, _⟩ := h
    rw [e]
    rfl) (fun cdv A outer s H vs Q E hr h => ⟨_, d_answer_step T c_has_parameter c_step hr, p_answer_step T h⟩)
theorem cal_answer_sweep {P : Program} {w : World} {mg : Str → Option Value} {base : Heap} {c : Cs} {tw : Tw} (T : Tx c mg) (D : DefF c.K mg "answer_sweep" s_answer_sweep ["model", "numbers"]) (c_sweep : C8.Cal P w c.K mg base 7 "sweep" (sp_sweep c) []) (c_whole_objective : C8.Cal P w c.K mg base 5 "whole_objective" (sp_whole_objective c) []) : C8.Cal P w c.K mg base 8 "answer_sweep" (sp_answer_sweep c tw) [] := by
  obtain ⟨f, fd, D, b⟩ := D.ex
  exact C8.cal0 D b .nil sc_answer_sweep (fun vs H Q E h => by
    obtain ⟨a, p, ns, cl, L, m, e, _⟩ := h
    rw [e]
    rfl) (fun cdv A outer s H vs Q E hr h => ⟨_, d_answer_sweep T c_sweep c_whole_objective hr, p_answer_sweep T h⟩)
theorem cal_answer_train {P : Program} {w : World} {mg : Str → Option Value} {base : Heap} {c : Cs} {tw : Tw} (T : Tx c mg) (D : DefF c.K mg "answer_train" s_answer_train ["model", "numbers"]) (c_train : C8.Cal P w c.K mg base 8 "train" (sp_train c) []) (c_whole_objective : C8.Cal P w c.K mg base 5 "whole_objective" (sp_whole_objective c) []) : C8.Cal P w c.K mg base 9 "answer_train" (sp_answer_train c tw) [] := by
  obtain ⟨f, fd, D, b⟩ := D.ex
  exact C8.cal0 D b .nil sc_answer_train (fun vs H Q E h => by
    obtain ⟨a, p, ns, cl, L, m, e, _⟩ := h
    rw [e]
    rfl) (fun cdv A outer s H vs Q E hr h => ⟨_, d_answer_train T c_train c_whole_objective hr, p_answer_train T h⟩)
theorem cal_answer_objective {P : Program} {w : World} {mg : Str → Option Value} {base : Heap} {c : Cs} {tw : Tw} (T : Tx c mg) (D : DefF c.K mg "answer_objective" s_answer_objective ["model", "numbers"]) (c_error_part : C8.Cal P w c.K mg base 4 "error_part" (sp_error_part c) []) (c_penalty_part : C8.Cal P w c.K mg base 2 "penalty_part" (sp_penalty_part c) []) : C8.Cal P w c.K mg base 5 "answer_objective" (sp_answer_objective c tw) [] := by
  obtain ⟨f, fd, D, b⟩ := D.ex
  exact C8.cal0 D b .nil sc_answer_objective (fun vs H Q E h => by
    obtain ⟨a, p, ns, cl, L, m, e, _⟩ := h
    rw [e]
    rfl) (fun cdv A outer s H vs Q E hr h => ⟨_, d_answer_objective T c_error_part c_penalty_part hr, p_answer_objective T h⟩)
theorem cal_answer_curve {P : Program} {w : World} {mg : Str → Option Value} {base : Heap} {c : Cs} {tw : Tw} (T : Tx c mg) (D : DefF c.K mg "answer_curve" s_answer_curve ["model", "numbers"]) (c_coming_objectives : C8.Cal P w c.K mg base 8 "coming_objectives" (sp_coming_objectives c) []) : C8.Cal P w c.K mg base 9 "answer_curve" (sp_answer_curve c tw) [] := by
  obtain ⟨f, fd, D, b⟩ := D.ex
  exact C8.cal0 D b .nil sc_answer_curve (fun vs H Q E h => by
    obtain ⟨a, p, ns, cl, L, m, e, _⟩ := h
    rw [e]
    rfl) (fun cdv A outer s H vs Q E hr h => ⟨_, d_answer_curve T c_coming_objectives hr, p_answer_curve T h⟩)
theorem cal_answer_certificate {P : Program} {w : World} {mg : Str → Option Value} {base : Heap} {c : Cs} {tw : Tw} (T : Tx c mg) (D : DefF c.K mg "answer_certificate" s_answer_certificate ["model", "numbers"]) (c_first_improvable : C8.Cal P w c.K mg base 6 "first_improvable" (sp_first_improvable c) []) : C8.Cal P w c.K mg base 7 "answer_certificate" (sp_answer_certificate c tw) [] := by
  obtain ⟨f, fd, D, b⟩ := D.ex
  exact C8.cal0 D b .nil sc_answer_certificate (fun vs H Q E h => by
    obtain ⟨a, p, ns, cl, L, m, e, _⟩ := h
    rw [e]
    rfl) (fun cdv A outer s H vs Q E hr h => ⟨_, d_answer_certificate T c_first_improvable hr, p_answer_certificate T h⟩)
theorem cal_answer_quadratic {P : Program} {w : World} {mg : Str → Option Value} {base : Heap} {c : Cs} {tw : Tw} (T : Tx c mg) (D : DefF c.K mg "answer_quadratic" s_answer_quadratic ["model", "numbers"]) (c_has_parameter : C8.Met P w c.K mg base 2 c.S "has_parameter" (sp_has_parameter c) []) (c_quadratic_of : C8.Cal P w c.K mg base 4 "quadratic_of" (sp_quadratic_of c) []) : C8.Cal P w c.K mg base 5 "answer_quadratic" (sp_answer_quadratic c tw) [] := by
  obtain ⟨f, fd, D, b⟩ := D.ex
  exact C8.cal0 D b .nil sc_answer_quadratic (fun vs H Q E h => by
    obtain ⟨a, p, ns, cl, L, m, e, _⟩ := h
    rw [e]
    rfl) (fun cdv A outer s H vs Q E hr h => ⟨_, d_answer_quadratic T c_has_parameter c_quadratic_of hr, p_answer_quadratic T h⟩)
theorem cal_answer_parameter {P : Program} {w : World} {mg : Str → Option Value} {base : Heap} {c : Cs} {tw : Tw} (T : Tx c mg) (D : DefF c.K mg "answer_parameter" s_answer_parameter ["model", "numbers"]) (c_has_parameter : C8.Met P w c.K mg base 2 c.S "has_parameter" (sp_has_parameter c) []) : C8.Cal P w c.K mg base 3 "answer_parameter" (sp_answer_parameter c tw) [] := by
  obtain ⟨f, fd, D, b⟩ := D.ex
  exact C8.cal0 D b .nil sc_answer_parameter (fun vs H Q E h => by
    obtain ⟨a, p, ns, cl, L, m, e, _⟩ := h
    rw [e]
    rfl) (fun cdv A outer s H vs Q E hr h => ⟨_, d_answer_parameter T c_has_parameter hr, p_answer_parameter T h⟩)
theorem cal_answer_set_parameter {P : Program} {w : World} {mg : Str → Option Value} {base : Heap} {c : Cs} {tw : Tw} (T : Tx c mg) (D : DefF c.K mg "answer_set_parameter" s_answer_set_parameter ["model", "numbers"]) (c_has_parameter : C8.Met P w c.K mg base 2 c.S "has_parameter" (sp_has_parameter c) []) (c_is_in_range : C8.Met P w c.K mg base 2 c.S "is_in_range" (sp_is_in_range c) []) : C8.Cal P w c.K mg base 3 "answer_set_parameter" (sp_answer_set_parameter c tw) [] := by
  obtain ⟨f, fd, D, b⟩ := D.ex
  exact C8.cal0 D b .nil sc_answer_set_parameter (fun vs H Q E h => by
    obtain ⟨a, p, ns, cl, L, m, e, _⟩ := h
    rw [e]
    rfl) (fun cdv A outer s H vs Q E hr h => ⟨_, d_answer_set_parameter T c_has_parameter c_is_in_range hr, p_answer_set_parameter T h⟩)
theorem cal_answer_predict {P : Program} {w : World} {mg : Str → Option Value} {base : Heap} {c : Cs} {tw : Tw} (T : Tx c mg) (D : DefF c.K mg "answer_predict" s_answer_predict ["model", "numbers"]) (c_has_pair : C8.Met P w c.K mg base 2 c.S "has_pair" (sp_has_pair c) []) (c_prediction : C8.Met P w c.K mg base 2 c.M "prediction" (sp_prediction c) []) : C8.Cal P w c.K mg base 3 "answer_predict" (sp_answer_predict c tw) [] := by
  obtain ⟨f, fd, D, b⟩ := D.ex
  exact C8.cal0 D b .nil sc_answer_predict (fun vs H Q E h => by
    obtain ⟨a, p, ns, cl, L, m, e, _⟩ := h
    rw [e]
    rfl) (fun cdv A outer s H vs Q E hr h => ⟨_, d_answer_predict T c_has_pair c_prediction hr, p_answer_predict T h⟩)
theorem cal_answer_explain {P : Program} {w : World} {mg : Str → Option Value} {base : Heap} {c : Cs} {tw : Tw} (T : Tx c mg) (D : DefF c.K mg "answer_explain" s_answer_explain ["model", "numbers"]) (c_has_pair : C8.Met P w c.K mg base 2 c.S "has_pair" (sp_has_pair c) []) (c_prediction_parts : C8.Met P w c.K mg base 1 c.M "prediction_parts" (sp_prediction_parts c) []) : C8.Cal P w c.K mg base 3 "answer_explain" (sp_answer_explain c tw) [] := by
  obtain ⟨f, fd, D, b⟩ := D.ex
  exact C8.cal0 D b .nil sc_answer_explain (fun vs H Q E h => by
    obtain ⟨a, p, ns, cl, L, m, e, _⟩ := h
    rw [e]
    rfl) (fun cdv A outer s H vs Q E hr h => ⟨_, d_answer_explain T c_has_pair c_prediction_parts hr, p_answer_explain T h⟩)

end Lk
set_option Elab.async false
set_option maxRecDepth 100000
set_option maxHeartbeats 5000000
set_option linter.all false
namespace Lk
open PySem PySem.Spec PyProof.Rows L2
open Evl (Ex)
open LamX NdefX
theorem SqT.extN' {K : PySem.W.Frag} {H H2 : Hp} {p : Addr} {xs : List V} (h : H p = some (.tup xs)) (e : ExtN H H2) : H2 p = some (.tup xs) := e _ _ h notb_tup

def sp_listed (c : Cs) : Sp := fun vs H Q _ => ∃ (p : Addr) (ps : List Addr) (l : List (Nat × Int)), vs = [.ref p] ∧ H p = some (.lst (ps.map V.ref)) ∧ Each H resT ps l ∧ l.length ≤ 64 ∧ RL ((.int (l.length : Int)) :: l.flatMap fun x => [nV x.1, .int x.2]) H Q

def pairV (l : List (Nat × Int)) : List V := l.flatMap fun x => [nV x.1, .int x.2]
theorem pairV_int (l : List (Nat × Int)) : pairV l = (l.flatMap fun x => [(x.1 : Int), x.2]).map V.int := by
  unfold pairV
  rw [List.map_flatMap]
  rfl
theorem pairV_len (l : List (Nat × Int)) : (pairV l).length = 2 * l.length := by
  unfold pairV
  induction l with
  | nil => rfl
  | cons x l ih =>
    rw [List.flatMap_cons, List.length_append, ih, List.length_cons]
    exact Nat.add_comm 2 (2 * l.length)
section
variable {c : Cs} {mg : Str → Option Value} {vs : List V} {H : Hp} {Q : VK} {E : XK} {w : Tw}
theorem p_listed (T : Tx c mg) (h : sp_listed c vs H Q E) : t_listed c (Dq Q) (start n_listed vs) H := by
  obtain ⟨p, ps, l, rfl, hp, he, hl, q⟩ := h
  have hlen : (ps.map V.ref).length = l.length := by rw [List.length_map]; exact he.1
  refine q_lst (va1 (v_len (vv rfl) (sq_ hp)) va0) (by show 1 ≤ 100000; decide) fun f hf => ?_
  refine q_list (vv rfl) (sq_ (exn hf _ _ hp)) (fun i σ' H' => ∃ z, σ' = [some (.ref p), some (.ref f), z] ∧ Cov H f (.int (l.length : Int) :: pairV (l.take i)) H') ⟨_, rfl, hf, exn hf, by rw [upd_same, hlen]; rfl⟩ (fun i σ' H' _ ⟨_, _, hc⟩ => sq_ (hc.2.1 _ _ hp)) ?_ ?_
  · rintro i x σ' H' hx ⟨z, rfl, hc⟩
    have hi : i < l.length := by
      have := (List.getElem?_eq_some_iff.mp hx).1
      omega
    obtain ⟨t, t1, t2, t3⟩ := he.at (List.getElem?_eq_getElem hi)
    rw [t2] at hx
    cases hx
    refine s_dropK (bm_k (vv rfl) hc.2.2 (va1 (vv rfl) va0 _ ⟨f, t, _, _, rfl, rfl, hc.2.2, stq (hc.2.1 _ _ t3), ?_, _, rfl, ?_⟩))
    · rw [List.length_cons, pairV_len, List.length_take]
      exact Evl.sz_of (by show 2 * min i l.length + 1 + 2 ≤ 100000; omega)
    · have e : pairV (l.take (i + 1)) = pairV (l.take i) ++ [nV l[i].1, .int l[i].2] := by
        unfold pairV
        rw [List.take_add_one, List.getElem?_eq_getElem hi, List.flatMap_append]
        rfl
      rw [e]
      exact hc.add
  · rintro σ' H' ⟨z, rfl, hc⟩
    rw [hlen, List.take_length] at hc
    exact s_ret (vv rfl) (q f H' hc.1 hc.2.1 hc.2.2)
theorem res_le {m : Ms} (h : m.Ok) {u : Nat} (hu : u < m.s.users) : (resL m 0 u).length ≤ 64 := by
  have := res_len h (k := 0) (n := u) (by decide) hu
  omega
theorem p_answer_residuals (T : Tx c mg) (h : sp_answer_residuals c w vs H Q E) : t_answer_residuals c (sp_has_user c) (sp_listed c) (sp_residuals_of c) (Dq Q) (start n_answer_residuals vs) H := by
  obtain ⟨a, p, ns, cl, L, m, rfl, hm, hp, hT, ⟨u, rfl, rfl⟩, q⟩ := h
  refine q_set (n0 (vv rfl) hp) ?_
  refine q_whenE (e_not (e_B fun Q' q' => c_has_user hm.st (v_settings T hm (vv rfl)) (va1 (vv rfl) va0) ⟨L.st, u, m.s, rfl, hm.st, q'⟩)) (fun H1 e1 hb => ?_) (fun H1 e1 hb => ?_)
  · refine s_retK (c_lst (va1 vc va0) (by decide) fun r hr => q.ro hm hT (x := -2) (xs := []) ?_ e1 hr rfl)
    show (_, if Kp429.hasUser m.mod u = true then _ else _) = _
    rw [if_neg (by rw [show Kp429.hasUser m.mod u = false from not_tt hb]; exact Bool.false_ne_true)]
    rfl
  · have hb := not_ff hb
    have hu : u < m.s.users := of_decide_eq_true hb
    have hm1 := hm.ex e1
    refine s_retK (call_k (cons_k (c_residuals_of hm1 (vv rfl) (va1 vc (va1 (vv rfl) va0)) ⟨a, 0, u, L, m, rfl, hm1, by decide, hu, fun p1 H2 hc => ?_⟩)))
    obtain ⟨f2, e2, ps, h2, he⟩ := hc
    refine ⟨p1, ps, resL m 0 u, rfl, h2, he, res_le hm.ok hu, fun r H3 hr e3 h3 => ?_⟩
    have e13 := (e1.trans e2).trans e3
    refine q r L m H3 ((resL m 0 u).length : Int) ((resL m 0 u).flatMap fun x => [(x.1 : Int), x.2]) ?_ (UpdN.ro hm (ExtN.ex e13) (hT.ext e13)) ⟨H2, fun b o hb' _ _ => e2 _ _ (e1 _ _ hb'), hr⟩ ?_ (hm.own_some r (fresh (e1.trans e2) hr))
    · show (_, if Kp429.hasUser m.mod u = true then _ else _) = _
      rw [if_pos (show Kp429.hasUser m.mod u = true from hb)]
      obtain ⟨r1, r2⟩ := resid_is m u
      show (_, (⟨((((flatR 0 m.R).filter fun r => r.user == u).length : Nat) : Int), ((flatR 0 m.R).filter fun r => r.user == u).flatMap fun r => [(r.item : Int), Kp429.residual m.p r]⟩ : Kp429.Ans)) = _
      rw [r1, r2]
    · rw [h3, ← pairV_int]
      rfl
theorem p_answer_mean_error (T : Tx c mg) (h : sp_answer_mean_error c w vs H Q E) : t_answer_mean_error c (sp_all_ratings c) (sp_mean_error c) (Dq Q) (start n_answer_mean_error vs) H := by
  obtain ⟨a, p, ns, cl, L, m, rfl, hm, hp, hT, ⟨rfl, rfl⟩, q⟩ := h
  refine q_whenE (b := decide ((allV m.R).length = 0)) (e_test fun Q' q' => op_1 (cb_k (cons_k (c_all_ratings hm (vv rfl) va0 ⟨a, L, m, rfl, hm, fun p1 H1 f1 e1 h1 => ⟨p1, _, rfl, .inl (sq_ h1), v_k vc (eqI_k ?_)⟩⟩)))) (fun H1 e1 hb => ?_) (fun H1 e1 hb => ?_)
  · rw [List.length_map]
    have e : decide (((allV m.R).length : Int) = 0) = decide ((allV m.R).length = 0) := deq (b := 0)
    rw [e]
    exact q' H1 e1
  · refine s_retK (c_lst (va1 vc va0) (by decide) fun r hr => q.ro hm hT (x := -33) (xs := []) ?_ e1 hr rfl)
    show (_, if (flatR 0 m.R).isEmpty = true then _ else _) = _
    rw [empty_is, if_pos hb]
    rfl
  · have hne : allV m.R ≠ [] := fun z => by
      rw [z] at hb
      cases hb
    refine s_retK (op_1 (c_lst (va1 vc va0) (by decide) fun r1 hr1 => c_call (va1 (vv rfl) va0) ⟨a, L, m, rfl, (hm.ex e1).ex (exn hr1), hne, fun p1 H2 f2 e2 h2 => ?_⟩))
    refine ⟨r1, p1, _, _, rfl, rfl, e2 _ _ upd_same, h2, by show 1 + 2 ≤ sizeLine; exact sz2 (by decide), fun b hr => ?_⟩
    refine q.ro hm hT (x := 0) (xs := meanE m) ?_ ((e1.trans (exn hr1)).trans e2) hr rfl
    show (_, if (flatR 0 m.R).isEmpty = true then _ else _) = _
    rw [empty_is, if_neg (by rw [hb]; exact Bool.false_ne_true)]
    unfold meanE
    rw [← flat_length]
    rfl
theorem recM_le {m : Ms} (h : m.Ok) (u n : Nat) : (recM m u n).length ≤ 64 := by
  unfold recM
  have h1 : ((recL m u).mergeSort ordP).length = (recL m u).length := (List.mergeSort_perm _ _).length_eq
  have h2 : (recL m u).length ≤ m.s.items := recI_len m u _
  have h3 := h.s.i8
  rw [List.length_take]
  omega
theorem p_answer_recommend (T : Tx c mg) (h : sp_answer_recommend c w vs H Q E) : t_answer_recommend c (sp_has_user c) (sp_listed c) (sp_recommended c w) (Dq Q) (start n_answer_recommend vs) H := by
  obtain ⟨a, p, ns, cl, L, m, rfl, hm, hp, hT, ⟨u, n, rfl, rfl⟩, q⟩ := h
  refine q_set (n0 (vv rfl) hp) (q_set (n1 (vv rfl) hp) ?_)
  refine q_whenE (e_not (e_B fun Q' q' => c_has_user hm.st (v_settings T hm (vv rfl)) (va1 (vv rfl) va0) ⟨L.st, u, m.s, rfl, hm.st, q'⟩)) (fun H1 e1 hb => ?_) (fun H1 e1 hb => ?_)
  · refine s_retK (c_lst (va1 vc va0) (by decide) fun r hr => q.ro hm hT (x := -2) (xs := []) ?_ e1 hr rfl)
    show (_, if Kp429.hasUser m.mod u = true then _ else _) = _
    rw [if_neg (by rw [show Kp429.hasUser m.mod u = false from not_tt hb]; exact Bool.false_ne_true)]
    rfl
  · have hb := not_ff hb
    have hu : u < m.s.users := of_decide_eq_true hb
    have hm1 := hm.ex e1
    refine s_retK (call_k (cons_k (c_call (va1 (vv rfl) (va1 (vv rfl) (va1 (vv rfl) va0))) ⟨a, u, n, L, m, rfl, hm1, hu, hT.ext e1, fun p1 H2 ps eN T2 f2 h2 he => ?_⟩)))
    refine ⟨p1, ps, recM m u n, rfl, h2, he, recM_le hm.ok u n, fun r H3 hr e3 h3 => ?_⟩
    have e13 : ExtN H H3 := (ExtN.ex e1).trans (eN.trans (ExtN.ex e3))
    refine q r L m H3 ((recM m u n).length : Int) ((recM m u n).flatMap fun x => [(x.1 : Int), x.2]) ?_ (UpdN.ro hm e13 (T2.ext e3)) ⟨H2, fun b o hb' nb _ => eN _ _ (e1 _ _ hb') nb, hr⟩ ?_ ((hm1.extN eN).own_some r hr)
    · show (_, if Kp429.hasUser m.mod u = true then _ else _) = _
      rw [if_pos (show Kp429.hasUser m.mod u = true from hb)]
      show (_, (⟨(((Kp429.recommendations m.mod u).take n).length : Int), ((Kp429.recommendations m.mod u).take n).flatMap fun x => [(x.1 : Int), x.2]⟩ : Kp429.Ans)) = _
      rw [rec_is]
      rfl
    · rw [h3, ← pairV_int]
      rfl
theorem p_answer_similar (T : Tx c mg) (h : sp_answer_similar c w vs H Q E) : t_answer_similar c (sp_has_row c) (sp_similar_rows c w) (Dq Q) (start n_answer_similar vs) H := by
  obtain ⟨a, p, ns, cl, L, m, rfl, hm, hp, hT, ⟨k, n, ct, rfl, rfl⟩, q⟩ := h
  refine q_set (n0 (vv rfl) hp) (q_set (n1 (vv rfl) hp) (q_set (n2 (vv rfl) hp) ?_))
  refine q_when (b := decide (1 < k)) (a_test (vt (by rw [show (1 : Int) = ((1 : Nat) : Int) from rfl, dgt]) (v_i0 (vv rfl) vc))) (fun hb => ?_) (fun hb => ?_)
  · refine s_retK (c_lst (va1 vc va0) (by decide) fun b hr => q.ro hm hT (x := -22) (xs := []) ?_ (Ex.refl H) hr rfl)
    show (_, if _ then _ else _) = _
    rw [if_pos (of_decide_eq_true hb)]
    rfl
  · have hk : ¬ 1 < k := of_decide_eq_false hb
    refine q_whenE (e_not (e_B fun Q' q' => c_has_row hm.st (v_settings T hm (vv rfl)) (va1 (vv rfl) (va1 (vv rfl) va0)) ⟨L.st, k, n, m.s, rfl, hm.st, q'⟩)) (fun H1 e1 hb => ?_) (fun H1 e1 hb => ?_)
    · refine s_retK (c_lst (va1 vc va0) (by decide) fun b hr => q.ro hm hT (x := -2) (xs := []) ?_ e1 hr rfl)
      have hn : Kp429.sizeOf m.s k ≤ n := by
        rcases (Bool.and_eq_false_iff).mp (not_tt hb) with z | z
        · have := of_decide_eq_false z
          omega
        · have := of_decide_eq_false z
          omega
      show (_, if _ then _ else (if Kp429.sizeOf m.s k ≤ n then _ else _)) = _
      rw [if_neg hk, if_pos hn]
      rfl
    · have hb := (Bool.and_eq_true _ _).mp (not_ff hb)
      have h1 : k ≤ 1 := of_decide_eq_true hb.1
      have h2 : n < Kp429.sizeOf m.s k := of_decide_eq_true hb.2
      have z8 := size_le hm.ok.s k
      refine q_asgK (c_call (va1 (vv rfl) (va1 (vv rfl) (va1 (vv rfl) (va1 (vv rfl) va0)))) ⟨a, k, n, ct, L, m, rfl, hm.ex e1, h1, h2, hT.ext e1, fun p1 H2 eN T2 f2 h2' => ?_⟩)
      have hl : (simM m k n ct).length ≤ 8 := by
        unfold simM
        have h1 : ((simL m k n).mergeSort (ordS m k n (comI m k (simL m k n)))).length = (simL m k n).length := (List.mergeSort_perm _ _).length_eq
        have h2 : (simL m k n).length ≤ Kp429.sizeOf m.s k := simI_len m k n _
        rw [List.length_take]
        omega
      refine s_retK (op_1 (c_lst (va1 (v_len (vv rfl) (sq_ h2')) va0) (by show 1 ≤ 100000; decide) fun r1 hr1 => v_k (vv rfl) ⟨r1, p1, _, _, rfl, rfl, upd_same, exn hr1 _ _ h2', ?_, fun b hr => ?_⟩))
      · rw [List.length_map]
        exact sz2 (by show 1 + (simM m k n ct).length ≤ 100000; omega)
      · have e13 : ExtN H (upd H2 r1 (.lst [.int (((simM m k n ct).map nV).length : Int)])) := (ExtN.ex e1).trans (eN.trans (ExtN.ex (exn hr1)))
        refine q.ret (m1 := m) (x := ((simM m k n ct).length : Int)) (xs := (simM m k n ct).map fun (x : Nat) => (x : Int)) ?_ (UpdN.ro hm e13 (T2.ext (exn hr1))) hr ?_
        · show (_, if _ then _ else (if Kp429.sizeOf m.s k ≤ n then _ else _)) = _
          rw [if_neg hk, if_neg (by omega)]
          show (_, Kp429.listResult ((Kp429.similar m.mod k n).take ct)) = _
          rw [sim_is]
          rfl
        · rw [List.length_map, List.map_map]
          rfl
theorem new_no {m : Ms} {ns : List Nat} (h : okN m.s ns = false) : Kp429.newRatings m.mod ns = none := by
  rw [newRatings_is, if_neg (by rw [h]; exact Bool.false_ne_true)]
theorem new_yes {m : Ms} {ns : List Nat} (h : okN m.s ns = true) : Kp429.newRatings m.mod ns = some (pairsN ns) := by
  rw [newRatings_is, if_pos h]
theorem p_answer_fold_in (T : Tx c mg) (h : sp_answer_fold_in c w vs H Q E) : t_answer_fold_in c (sp_are_new_ratings c) (sp_make_rounds c) (sp_with_newcomer c) (Dq Q) (start n_answer_fold_in vs) H := by
  obtain ⟨a, p, ns, cl, L, m, rfl, hm, hp, hT, ⟨hl, rfl⟩, q⟩ := h
  have f3 := hm.ok.s.f3
  refine q_whenE (e_not (e_B fun Q' q' => c_call (va1 (v_settings T hm (vv rfl)) (va1 (vv rfl) va0)) ⟨L.st, p, ns, m.s, rfl, hm.st, hp, hl, q'⟩)) (fun H1 e1 hb => ?_) (fun H1 e1 hb => ?_)
  · refine s_retK (c_lst (va1 vc va0) (by decide) fun b hr => q.ro hm hT (x := -22) (xs := []) ?_ e1 hr rfl)
    show (_, match Kp429.newRatings m.mod ns with | none => _ | some x => _) = _
    rw [new_no (not_tt hb)]
    rfl
  · have hb := not_ff hb
    refine q_asgK (c_call (va1 (vv rfl) (va1 (vv rfl) va0)) ⟨a, p, ns, L, m, rfl, hm.ex e1, Evl.ex_l e1 hp, hl, hb, fun b L2 H2 e2 hg hfr => ?_⟩)
    refine q_asgK (c_call (va1 (vv rfl) va0) ⟨b, L2, _, rfl, hg, fun H3 u3 => ?_⟩)
    have e12 := e1.trans e2
    have hfr' : ∀ y ∈ L2.own b, H y = none := fun y hy => fresh e1 (hfr y hy)
    have e3 : Ex H H3 := fun y o hy => u3.chg y o (e12 _ _ hy) fun z => by
      rw [hfr' y z] at hy
      cases hy
    have hu1 : 0 < Kp429.sizeOf (roundsM (guestM m ns)).1.s 0 := hm.ok.s.u1
    obtain ⟨pr, r1, r2, r3⟩ := u3.md.row (k := 0) (n := 0) (by decide) hu1
    have hrl := (row_mem u3.md.ok (k := 0) (n := 0) (by decide) hu1).1
    have hrl : (Kp429.rowOf (roundsM (guestM m ns)).1.p 0 0).length = m.s.factors + 1 := hrl
    refine s_retK (op_1 (c_lst (va1 (vv rfl) va0) (by show 1 ≤ 100000; decide) fun r4 hr4 => v_k (v_rowp T (u3.md.ex (exn hr4)) (k := 0) (n := 0) (by decide) r2 (vv rfl) vc vc) ⟨r4, pr, _, _, rfl, rfl, upd_same, exn hr4 _ _ r3, ?_, fun b' hr => ?_⟩))
    · rw [List.length_map, hrl]
      exact sz2 (by show 1 + (m.s.factors + 1) ≤ 100000; omega)
    · refine q.ro hm hT (x := ((roundsM (guestM m ns)).2 : Int)) (xs := Kp429.rowOf (roundsM (guestM m ns)).1.p 0 0) ?_ (e3.trans (exn hr4)) hr rfl
      show (_, match Kp429.newRatings m.mod ns with | none => _ | some x => _) = _
      rw [new_yes hb, rounds_row hm.ok hb, rounds_new hm.ok hb]
theorem p_answer_recommend_new (T : Tx c mg) (h : sp_answer_recommend_new c w vs H Q E) : t_answer_recommend_new c (sp_are_new_ratings c) (sp_listed c) (sp_make_rounds c) (sp_recommended c w) (sp_with_newcomer c) (Dq Q) (start n_answer_recommend_new vs) H := by
  obtain ⟨a, p, ns, cl, L, m, rfl, hm, hp, hT, ⟨n, l, rfl, hl, rfl⟩, q⟩ := h
  refine q_set (n0 (vv rfl) hp) ?_
  refine q_asgK (sl_k (v_k (vv rfl) (v_k vc ⟨1, rfl, p, _, rfl, hp, fun p0 hp0 => ?_⟩)))
  have e0 : Ex H (upd H p0 (.lst (cutV ((n :: l).map nV) (some 1) none))) := exn hp0
  have hc : cutV ((n :: l).map nV) (some 1) none = l.map nV := by
    unfold cutV
    rw [HT.sIx_none, show (1 : Int) = ((1 : Nat) : Int) from rfl, HT.sIx_nat]
    have h1 : min 1 ((n :: l).map nV).length = 1 := by
      rw [List.length_map, List.length_cons]
      omega
    rw [h1]
    show (l.map nV).take (((n :: l).map nV).length - 1) = l.map nV
    rw [List.length_map, List.length_cons]
    exact List.take_of_length_le (by rw [List.length_map]; omega)
  rw [hc] at e0 ⊢
  generalize hH0 : upd H p0 (.lst (l.map nV)) = H0 at e0 ⊢
  have hp1 : SqL c.K H0 p0 (l.map nV) := sq_ (by rw [← hH0, upd_same])
  have hm0 := hm.ex e0
  refine q_whenE (e_not (e_B fun Q' q' => c_call (va1 (v_settings T hm0 (vv rfl)) (va1 (vv rfl) va0)) ⟨L.st, p0, l, m.s, rfl, hm0.st, hp1, hl, q'⟩)) (fun H1 e1 hb => ?_) (fun H1 e1 hb => ?_)
  · refine s_retK (c_lst (va1 vc va0) (by decide) fun b hr => q.ro hm hT (x := -22) (xs := []) ?_ (e0.trans e1) hr rfl)
    show (_, match Kp429.newRatings m.mod l with | none => _ | some x => _) = _
    rw [new_no (not_tt hb)]
    rfl
  · have hb := not_ff hb
    refine q_asgK (c_call (va1 (vv rfl) (va1 (vv rfl) va0)) ⟨a, p0, l, L, m, rfl, hm0.ex e1, Evl.ex_l e1 hp1, hl, hb, fun b L2 H2 e2 hg hfr => ?_⟩)
    refine q_dropK (c_call (va1 (vv rfl) va0) ⟨b, L2, _, rfl, hg, fun H3 u3 => ?_⟩)
    have e01 := e0.trans e1
    have e12 := e01.trans e2
    have hfr' : ∀ y ∈ L2.own b, H y = none := fun y hy => fresh e01 (hfr y hy)
    have e3 : Ex H H3 := fun y o hy => u3.chg y o (e12 _ _ hy) fun z => by
      rw [hfr' y z] at hy
      cases hy
    have hu1 : 0 < (roundsM (guestM m l)).1.s.users := hm.ok.s.u1
    refine s_retK (call_k (cons_k (c_call (va1 (vv rfl) (va1 vc (va1 (vv rfl) va0))) ⟨b, 0, n, L2, _, rfl, u3.md, hu1, hT.ext e3, fun p1 H4 ps eN T4 f4 h4 he => ?_⟩)))
    refine ⟨p1, ps, recM (roundsM (guestM m l)).1 0 n, rfl, h4, he, recM_le u3.md.ok 0 n, fun r H5 hr e5 h5 => ?_⟩
    have eAll : ExtN H H5 := (ExtN.ex e3).trans (eN.trans (ExtN.ex e5))
    refine q r L m H5 ((recM (roundsM (guestM m l)).1 0 n).length : Int) ((recM (roundsM (guestM m l)).1 0 n).flatMap fun x => [(x.1 : Int), x.2]) ?_ (UpdN.ro hm eAll (T4.ext e5)) ⟨H4, fun y o hy nb _ => eN _ _ (e3 _ _ hy) nb, hr⟩ ?_ (((hm.ex e3).extN eN).own_some r hr)
    · show (_, match Kp429.newRatings m.mod l with | none => _ | some x => _) = _
      rw [new_yes hb]
      have e := recNew_is hm.ok hb n
      show (_, (⟨((((((List.range m.s.items).filter fun i => !((pairsN l).any fun y => y.1 == i)).map fun i => (i, Kp429.predictRows m.p.base (Kp429.newRow m.mod (pairsN l)).1 (Kp429.rowOf m.p 1 i))).foldl (fun (l : List (Nat × Int)) (y : Nat × Int) => Kp429.insertPrediction y l) []).take n).length : Int), (((((List.range m.s.items).filter fun i => !((pairsN l).any fun y => y.1 == i)).map fun i => (i, Kp429.predictRows m.p.base (Kp429.newRow m.mod (pairsN l)).1 (Kp429.rowOf m.p 1 i))).foldl (fun (l : List (Nat × Int)) (y : Nat × Int) => Kp429.insertPrediction y l) []).take n).flatMap fun y => [(y.1 : Int), y.2]⟩ : Kp429.Ans)) = _
      rw [e]
    · rw [h5, ← pairV_int]
      rfl
theorem p_answer_without (T : Tx c mg) (h : sp_answer_without c w vs H Q E) : t_answer_without c (sp_begin_again c) (sp_drop_ratings c) (sp_has_user c) (sp_train c) (sp_whole_objective c) (Dq Q) (start n_answer_without vs) H := by
  obtain ⟨a, p, ns, cl, L, m, rfl, hm, hp, hT, ⟨u, n, rfl, rfl⟩, q⟩ := h
  refine q_set (n0 (vv rfl) hp) (q_set (n1 (vv rfl) hp) ?_)
  refine q_whenE (e_not (e_B fun Q' q' => c_has_user hm.st (v_settings T hm (vv rfl)) (va1 (vv rfl) va0) ⟨L.st, u, m.s, rfl, hm.st, q'⟩)) (fun H1 e1 hb => ?_) (fun H1 e1 hb => ?_)
  · refine s_retK (c_lst (va1 vc va0) (by decide) fun r hr => q.ro hm hT (x := -2) (xs := []) ?_ e1 hr rfl)
    show (if _ then _ else _) = _
    rw [if_pos (show Kp429.hasUser m.mod u = false from not_tt hb)]
    rfl
  · have hb := not_ff hb
    have hu : u < m.s.users := of_decide_eq_true hb
    have hno : ¬ Kp429.hasUser m.mod u = false := fun z => by
      rw [show Kp429.hasUser m.mod u = true from hb] at z
      cases z
    refine q_when (b := decide (100 < n)) (a_test (vt (by rw [show (100 : Int) = ((100 : Nat) : Int) from rfl, dgt]) (v_i0 (vv rfl) vc))) (fun hz => ?_) (fun hz => ?_)
    · refine s_retK (c_lst (va1 vc va0) (by decide) fun b hr => q.ro hm hT (x := -22) (xs := []) ?_ e1 hr rfl)
      show (if _ then _ else (if _ then _ else _)) = _
      rw [if_neg hno, if_pos (of_decide_eq_true hz)]
      rfl
    · have hz := of_decide_eq_false hz
      have hm1 := hm.ex e1
      refine q_dropK (c_drop_ratings hm1 (vv rfl) (va1 (vv rfl) va0) ⟨a, u, L, m, rfl, hm1, hu, fun L2 H2 u2 => ?_⟩)
      refine q_dropK (c_begin_again u2.md (vv rfl) va0 ⟨a, L2, _, rfl, u2.md, fun L3 H3 u3 => ?_⟩)
      refine s_retK (op_1 (c_call (va1 (vv rfl) (va1 (vv rfl) va0)) ⟨a, n, L3, _, rfl, u3.md, by omega, fun p1 H4 f4 u4 h4 no4 => lst_k (cons_k (c_call (va1 (vv rfl) va0) ⟨a, L3, _, rfl, u4.md, fun H5 e5 => ⟨by show 1 ≤ sizeLine; exact sz2 (by decide), fun r1 hr1 => ?_⟩⟩))⟩))
      refine ⟨p1, r1, _, _, rfl, rfl, exn hr1 _ _ (e5 _ _ h4), upd_same, by show 2 + 1 ≤ sizeLine; exact sz2 (by decide), fun b hr => ?_⟩
      have uu := (((Upd.same hm e1).trans u2).trans u3).trans u4
      refine q.ret (x := ((Kp429.train (again (m.drop u)).mod n (again (m.drop u)).p 0).2.1 : Int)) (xs := [((Kp429.flag (Kp429.train (again (m.drop u)).mod n (again (m.drop u)).p 0).2.2 : Nat) : Int), Kp429.objective ((again (m.drop u)).train n).mod ((again (m.drop u)).train n).p]) ?_ ((UpdN.of hm hT uu).ex (e5.trans (exn hr1))) hr rfl
      have ef := forget_is hm.ok hu n
      have hd : (flatR 0 m.R).filter (fun r => r.user != u) = flatR 0 (m.drop u).R := drop_flat0 (by rw [hm.ok.R.len]; exact hu)
      show (if _ then _ else (if _ then _ else (some (Kp429.withParameters ({ m.mod with ratings := (flatR 0 m.R).filter fun r => r.user != u } : Kp429.Model) (Kp429.train ({ m.mod with ratings := (flatR 0 m.R).filter fun r => r.user != u } : Kp429.Model) n (Kp429.initial m.s ((flatR 0 m.R).filter fun r => r.user != u)) 0).1), (⟨((Kp429.train ({ m.mod with ratings := (flatR 0 m.R).filter fun r => r.user != u } : Kp429.Model) n (Kp429.initial m.s ((flatR 0 m.R).filter fun r => r.user != u)) 0).2.1 : Int), [((Kp429.flag (Kp429.train ({ m.mod with ratings := (flatR 0 m.R).filter fun r => r.user != u } : Kp429.Model) n (Kp429.initial m.s ((flatR 0 m.R).filter fun r => r.user != u)) 0).2.2 : Nat) : Int), Kp429.objective ({ m.mod with ratings := (flatR 0 m.R).filter fun r => r.user != u } : Kp429.Model) (Kp429.train ({ m.mod with ratings := (flatR 0 m.R).filter fun r => r.user != u } : Kp429.Model) n (Kp429.initial m.s ((flatR 0 m.R).filter fun r => r.user != u)) 0).1]⟩ : Kp429.Ans)))) = _
      rw [if_neg hno, if_neg hz, ef, hd]
      rfl
theorem p_answer_status (T : Tx c mg) (h : sp_answer_status c w vs H Q E) : t_answer_status c (sp_all_ratings c) (Dq Q) (start n_answer_status vs) H := by
  obtain ⟨a, p, ns, cl, L, m, rfl, hm, hp, hT, ⟨rfl, rfl⟩, q⟩ := h
  obtain ⟨dx, rc, pl, pts, h1, h2, h3, h4⟩ := hm.st
  refine q_set (v_settings T hm (vv rfl)) (q_set (v_fld (vv rfl) h1 T.cl_S T.na_S_row_counts lk_S_row_counts) ?_)
  refine q_asgK (cb_k (cons_k (c_all_ratings hm (vv rfl) va0 ⟨a, L, m, rfl, hm, fun p1 H1 f1 e1 hp1 => ⟨p1, _, rfl, .inl (sq_ hp1), ?_⟩⟩)))
  refine s_retK (c_lst (va1 (v_ixT (vv rfl) vc (stq (e1 _ _ h2)) at0) (va1 (v_ixT (vv rfl) vc (stq (e1 _ _ h2)) at1) (va1 (v_factors T (hm.ex e1).st (vv rfl)) (va1 (vv rfl) (va1 (v_len (v_fld (vv rfl) (e1 _ _ h1) T.cl_S T.na_S_parameters lk_S_parameters) (sq_ (e1 _ _ h3))) va0))))) (by show 5 ≤ 100000; decide) fun b hr => q.ro hm hT (x := (m.s.users : Int)) (xs := [(m.s.items : Int), (m.s.factors : Int), ((allV m.R).length : Int), ((Kp429.coordinates m.s).length : Int)]) ?_ e1 hr ?_)
  · show (_, Kp429.natResult m.s.users [m.s.items, m.s.factors, (flatR 0 m.R).length, (Kp429.coordinates m.s).length]) = _
    rw [flat_length]
    rfl
  · rw [List.length_map, List.length_map, h4.1]
    rfl
end

theorem cal_listed {P : Program} {w : World} {mg : Str → Option Value} {base : Heap} {c : Cs} (T : Tx c mg) (D : DefF c.K mg "listed" s_listed ["pairs"]) : C8.Cal P w c.K mg base 1 "listed" (sp_listed c) [] := by
  obtain ⟨f, fd, D, b⟩ := D.ex
  exact C8.cal0 D b .nil sc_listed (fun vs H Q E h => by
    obtain ⟨p, ps, l, e, _⟩ := h
    rw [e]
    rfl) (fun cdv A outer s H vs Q E hr h => ⟨_, d_listed T hr, p_listed T h⟩)
theorem cal_answer_residuals {P : Program} {w : World} {mg : Str → Option Value} {base : Heap} {c : Cs} {tw : Tw} (T : Tx c mg) (D : DefF c.K mg "answer_residuals" s_answer_residuals ["model", "numbers"]) (c_has_user : C8.Met P w c.K mg base 1 c.S "has_user" (sp_has_user c) []) (c_listed : C8.Cal P w c.K mg base 1 "listed" (sp_listed c) []) (c_residuals_of : C8.Met P w c.K mg base 3 c.M "residuals_of" (sp_residuals_of c) []) : C8.Cal P w c.K mg base 4 "answer_residuals" (sp_answer_residuals c tw) [] := by
  obtain ⟨f, fd, D, b⟩ := D.ex
  exact C8.cal0 D b .nil sc_answer_residuals (fun vs H Q E h => by
    obtain ⟨a, p, ns, cl, L, m, e, _⟩ := h
    rw [e]
    rfl) (fun cdv A outer s H vs Q E hr h => ⟨_, d_answer_residuals T c_has_user c_listed c_residuals_of hr, p_answer_residuals T h⟩)
theorem cal_answer_mean_error {P : Program} {w : World} {mg : Str → Option Value} {base : Heap} {c : Cs} {tw : Tw} (T : Tx c mg) (D : DefF c.K mg "answer_mean_error" s_answer_mean_error ["model", "numbers"]) (c_all_ratings : C8.Met P w c.K mg base 2 c.M "all_ratings" (sp_all_ratings c) []) (c_mean_error : C8.Cal P w c.K mg base 5 "mean_error" (sp_mean_error c) []) : C8.Cal P w c.K mg base 6 "answer_mean_error" (sp_answer_mean_error c tw) [] := by
  obtain ⟨f, fd, D, b⟩ := D.ex
  exact C8.cal0 D b .nil sc_answer_mean_error (fun vs H Q E h => by
    obtain ⟨a, p, ns, cl, L, m, e, _⟩ := h
    rw [e]
    rfl) (fun cdv A outer s H vs Q E hr h => ⟨_, d_answer_mean_error T c_all_ratings c_mean_error hr, p_answer_mean_error T h⟩)
theorem cal_answer_recommend {P : Program} {w : World} {mg : Str → Option Value} {base : Heap} {c : Cs} {tw : Tw} (T : Tx c mg) (D : DefF c.K mg "answer_recommend" s_answer_recommend ["model", "numbers"]) (c_has_user : C8.Met P w c.K mg base 1 c.S "has_user" (sp_has_user c) []) (c_listed : C8.Cal P w c.K mg base 1 "listed" (sp_listed c) []) (c_recommended : C8.Cal P w c.K mg base 6 "recommended" (sp_recommended c tw) []) : C8.Cal P w c.K mg base 7 "answer_recommend" (sp_answer_recommend c tw) [] := by
  obtain ⟨f, fd, D, b⟩ := D.ex
  exact C8.cal0 D b .nil sc_answer_recommend (fun vs H Q E h => by
    obtain ⟨a, p, ns, cl, L, m, e, _⟩ := h
    rw [e]
    rfl) (fun cdv A outer s H vs Q E hr h => ⟨_, d_answer_recommend T c_has_user c_listed c_recommended hr, p_answer_recommend T h⟩)
theorem cal_answer_similar {P : Program} {w : World} {mg : Str → Option Value} {base : Heap} {c : Cs} {tw : Tw} (T : Tx c mg) (D : DefF c.K mg "answer_similar" s_answer_similar ["model", "numbers"]) (c_has_row : C8.Met P w c.K mg base 1 c.S "has_row" (sp_has_row c) []) (c_similar_rows : C8.Cal P w c.K mg base 6 "similar_rows" (sp_similar_rows c tw) []) : C8.Cal P w c.K mg base 7 "answer_similar" (sp_answer_similar c tw) [] := by
  obtain ⟨f, fd, D, b⟩ := D.ex
  exact C8.cal0 D b .nil sc_answer_similar (fun vs H Q E h => by
    obtain ⟨a, p, ns, cl, L, m, e, _⟩ := h
    rw [e]
    rfl) (fun cdv A outer s H vs Q E hr h => ⟨_, d_answer_similar T c_has_row c_similar_rows hr, p_answer_similar T h⟩)
theorem cal_answer_fold_in {P : Program} {w : World} {mg : Str → Option Value} {base : Heap} {c : Cs} {tw : Tw} (T : Tx c mg) (D : DefF c.K mg "answer_fold_in" s_answer_fold_in ["model", "numbers"]) (c_are_new_ratings : C8.Cal P w c.K mg base 2 "are_new_ratings" (sp_are_new_ratings c) []) (c_make_rounds : C8.Cal P w c.K mg base 7 "make_rounds" (sp_make_rounds c) []) (c_with_newcomer : C8.Cal P w c.K mg base 7 "with_newcomer" (sp_with_newcomer c) []) : C8.Cal P w c.K mg base 8 "answer_fold_in" (sp_answer_fold_in c tw) [] := by
  obtain ⟨f, fd, D, b⟩ := D.ex
  exact C8.cal0 D b .nil sc_answer_fold_in (fun vs H Q E h => by
    obtain ⟨a, p, ns, cl, L, m, e, _⟩ := h
    rw [e]
    rfl) (fun cdv A outer s H vs Q E hr h => ⟨_, d_answer_fold_in T c_are_new_ratings c_make_rounds c_with_newcomer hr, p_answer_fold_in T h⟩)
theorem cal_answer_recommend_new {P : Program} {w : World} {mg : Str → Option Value} {base : Heap} {c : Cs} {tw : Tw} (T : Tx c mg) (D : DefF c.K mg "answer_recommend_new" s_answer_recommend_new ["model", "numbers"]) (c_are_new_ratings : C8.Cal P w c.K mg base 2 "are_new_ratings" (sp_are_new_ratings c) []) (c_listed : C8.Cal P w c.K mg base 1 "listed" (sp_listed c) []) (c_make_rounds : C8.Cal P w c.K mg base 7 "make_rounds" (sp_make_rounds c) []) (c_recommended : C8.Cal P w c.K mg base 6 "recommended" (sp_recommended c tw) []) (c_with_newcomer : C8.Cal P w c.K mg base 7 "with_newcomer" (sp_with_newcomer c) []) : C8.Cal P w c.K mg base 8 "answer_recommend_new" (sp_answer_recommend_new c tw) [] := by
  obtain ⟨f, fd, D, b⟩ := D.ex
  exact C8.cal0 D b .nil sc_answer_recommend_new (fun vs H Q E h => by
    obtain ⟨a, p, ns, cl, L, m, e, _⟩ := h
    rw [e]
    rfl) (fun cdv A outer s H vs Q E hr h => ⟨_, d_answer_recommend_new T c_are_new_ratings c_listed c_make_rounds c_recommended c_with_newcomer hr, p_answer_recommend_new T h⟩)
theorem cal_answer_without {P : Program} {w : World} {mg : Str → Option Value} {base : Heap} {c : Cs} {tw : Tw} (T : Tx c mg) (D : DefF c.K mg "answer_without" s_answer_without ["model", "numbers"]) (c_begin_again : C8.Met P w c.K mg base 4 c.M "begin_again" (sp_begin_again c) []) (c_drop_ratings : C8.Met P w c.K mg base 2 c.M "drop_ratings" (sp_drop_ratings c) []) (c_has_user : C8.Met P w c.K mg base 1 c.S "has_user" (sp_has_user c) []) (c_train : C8.Cal P w c.K mg base 8 "train" (sp_train c) []) (c_whole_objective : C8.Cal P w c.K mg base 5 "whole_objective" (sp_whole_objective c) []) : C8.Cal P w c.K mg base 9 "answer_without" (sp_answer_without c tw) [] := by
  obtain ⟨f, fd, D, b⟩ := D.ex
  exact C8.cal0 D b .nil sc_answer_without (fun vs H Q E h => by
    obtain ⟨a, p, ns, cl, L, m, e, _⟩ := h
    rw [e]
    rfl) (fun cdv A outer s H vs Q E hr h => ⟨_, d_answer_without T c_begin_again c_drop_ratings c_has_user c_train c_whole_objective hr, p_answer_without T h⟩)
theorem cal_answer_status {P : Program} {w : World} {mg : Str → Option Value} {base : Heap} {c : Cs} {tw : Tw} (T : Tx c mg) (D : DefF c.K mg "answer_status" s_answer_status ["model", "numbers"]) (c_all_ratings : C8.Met P w c.K mg base 2 c.M "all_ratings" (sp_all_ratings c) []) : C8.Cal P w c.K mg base 3 "answer_status" (sp_answer_status c tw) [] := by
  obtain ⟨f, fd, D, b⟩ := D.ex
  exact C8.cal0 D b .nil sc_answer_status (fun vs H Q E h => by
    obtain ⟨a, p, ns, cl, L, m, e, _⟩ := h
    rw [e]
    rfl) (fun cdv A outer s H vs Q E hr h => ⟨_, d_answer_status T c_all_ratings hr, p_answer_status T h⟩)

end Lk
set_option Elab.async false
set_option maxRecDepth 100000
set_option maxHeartbeats 5000000
set_option linter.all false
namespace Lk
open PySem PySem.Spec PyProof.Rows L2
open Evl (Ex)
open LamX NdefX
/-! ### the session -/
def Se (c : Cs) (H : Hp) (e : Addr) : Option Ms → List Addr → Prop
  | none, W => W = [e] ∧ ∃ dx, H e = some (.ins c.E dx (fE .non))
  | some m, W => ∃ (a : Addr) (L : Lay), W = e :: L.own a ∧ (∃ dx, H e = some (.ins c.E dx (fE (.ref a)))) ∧ MdAt c H a L m
def stK (st : Option Ms) : Kp429.State := st.map Ms.mod
def ExQ (w : Tw) (c : Cs) (H : Hp) (e : Addr) (W : List Addr) (st : Option Ms) (cl : Kp429.Call) (Q : VK) : Prop := ∀ (r : Addr) (W2 : List Addr) (st2 : Option Ms) (H2 : Hp) (x : Int) (xs : List Int), Kp429.step (stK st) cl = (stK st2, ⟨x, xs⟩) → Se c H2 e st2 W2 → ChgN W H H2 → (∀ b ∈ W2, b ∈ W ∨ H b = none) → TabsN w.T H2 → (∃ H1, ChgN W H H1 ∧ H1 r = none) → H2 r = some (.lst (.int x :: xs.map V.int)) → Q (.ref r) H2
/-- the numbers of each call -/
def RK : Nat → List Nat → Kp429.Call → Prop
  | 0, ns, cl => ∃ a b d f g h i j, ns = [a, b, d, f, g, h, i, j] ∧ j < 4294967296 ∧ cl = .create a b d f g h i j
  | 1, ns, cl => ∃ u i v, ns = [u, i, v] ∧ cl = .setRating u i v
  | 2, ns, cl => ∃ u i, ns = [u, i] ∧ cl = .clearRating u i
  | 3, ns, cl => ∃ u, ns = [u] ∧ cl = .deleteUser u
  | 4, ns, cl => ns = [] ∧ cl = .reset
  | 5, ns, cl => ∃ k n r, ns = [k, n, r] ∧ cl = .step k n r
  | 6, ns, cl => ns = [] ∧ cl = .sweep
  | 7, ns, cl => ∃ n, ns = [n] ∧ cl = .train n
  | 8, ns, cl => ns = [] ∧ cl = .objective
  | 9, ns, cl => ∃ n, ns = [n] ∧ cl = .curve n
  | 10, ns, cl => ns = [] ∧ cl = .certificate
  | 11, ns, cl => ∃ k n r, ns = [k, n, r] ∧ cl = .quadratic k n r
  | 12, ns, cl => ∃ k n r, ns = [k, n, r] ∧ cl = .parameter k n r
  | 13, ns, cl => ∃ k n r g z, ns = [k, n, r, g, z] ∧ cl = .setParameter k n r g z
  | 14, ns, cl => ∃ u i, ns = [u, i] ∧ cl = .predict u i
  | 15, ns, cl => ∃ u i, ns = [u, i] ∧ cl = .explain u i
  | 16, ns, cl => ∃ u, ns = [u] ∧ cl = .residuals u
  | 17, ns, cl => ns = [] ∧ cl = .meanError
  | 18, ns, cl => ∃ u n, ns = [u, n] ∧ cl = .recommend u n
  | 19, ns, cl => ∃ k n t, ns = [k, n, t] ∧ cl = .similar k n t
  | 20, ns, cl => ns.length ≤ 16 ∧ cl = .foldIn ns
  | 21, ns, cl => ∃ n l, ns = n :: l ∧ l.length ≤ 16 ∧ cl = .recommendNew n l
  | 22, ns, cl => ∃ u n, ns = [u, n] ∧ cl = .without u n
  | 23, ns, cl => ns = [] ∧ cl = .status
  | _, _, _ => False
def sp_answer_create (c : Cs) (w : Tw) : Sp := fun vs H Q _ => ∃ (e p : Addr) (ns : List Nat) (st : Option Ms) (W : List Addr) (cl : Kp429.Call), vs = [.ref e, .ref p] ∧ Se c H e st W ∧ SqL c.K H p (ns.map nV) ∧ Rg c ∧ TabsN w.T H ∧ RK 0 ns cl ∧ ExQ w c H e W st cl Q
def sp_execute (c : Cs) (w : Tw) : Sp := fun vs H Q _ => ∃ (e p : Addr) (k : Nat) (ns : List Nat) (st : Option Ms) (W : List Addr) (cl : Kp429.Call), vs = [.ref e, nV k, .ref p] ∧ Se c H e st W ∧ SqL c.K H p (ns.map nV) ∧ Rg c ∧ TabsN w.T H ∧ RK k ns cl ∧ ExQ w c H e W st cl Q
section
variable {c : Cs} {H H2 : Hp} {a e : Addr} {L : Lay} {m : Ms} {st : Option Ms} {W : List Addr}
theorem Se.ins (h : Se c H e st W) : ∃ dx v, H e = some (.ins c.E dx (fE v)) := by
  cases st with
  | none => obtain ⟨_, dx, h⟩ := h; exact ⟨dx, _, h⟩
  | some m => obtain ⟨a, L, _, ⟨dx, h⟩, _⟩ := h; exact ⟨dx, _, h⟩
theorem Se.mem (h : Se c H e st W) : e ∈ W := by
  cases st with
  | none => obtain ⟨h, _⟩ := h; rw [h]; exact List.mem_cons_self ..
  | some m => obtain ⟨a, L, h, _⟩ := h; rw [h]; exact List.mem_cons_self ..
theorem Se.extN (h : Se c H e st W) (x : ExtN H H2) : Se c H2 e st W := by
  cases st with
  | none => obtain ⟨h1, dx, h2⟩ := h; exact ⟨h1, dx, x _ _ h2 notb_ins⟩
  | some m => obtain ⟨a, L, h1, ⟨dx, h2⟩, h3⟩ := h; exact ⟨a, L, h1, ⟨dx, x _ _ h2 notb_ins⟩, h3.extN x⟩
/-- the model stands where an instance of one attribute changes -/
theorem MdAt.offE {C dx : Addr} {fs : List (Str × V)} (h : MdAt c H a L m) (ha : H e = some (.ins C dx fs)) (hl : fs.length = 1) (k : ∀ q, q ≠ e → H2 q = H q) : MdAt c H2 a L m := by
  obtain ⟨dm, ob⟩ := h.ob
  have na : a ≠ e := st_ne ha ob (by rw [hl]; show (1 : Nat) ≠ 4; decide)
  refine ⟨h.ok, ⟨dm, by rw [k _ na]; exact ob⟩, h.st.off ha (by rw [hl]; decide) k, by rw [k _ (ins_lst ha h.ro)]; exact h.ro, h.rr.off rowN_lst ha k, h.rw.off ha k, h.nd⟩
theorem MdAt.e_out {C dx : Addr} {fs : List (Str × V)} (h : MdAt c H a L m) (ha : H e = some (.ins C dx fs)) (hl : fs.length = 1) : e ∉ L.own a := fun hb => by
  rcases in_cons hb with z | hb
  · obtain ⟨dm, ob⟩ := h.ob
    exact st_ne ha ob (by rw [hl]; show (1 : Nat) ≠ 4; decide) z.symm
  rcases in_cons hb with z | hb
  · exact ins_lst ha h.ro z.symm
  rcases in_app hb with hb | hb
  · obtain ⟨r, _, hr⟩ := h.rr.mem hb
    exact ins_lst ha hr rfl
  rcases in_app hb with hb | hb
  · obtain ⟨r, _, hr⟩ := h.rw.ur.mem hb
    exact ins_lst ha hr rfl
  · obtain ⟨r, _, hr⟩ := h.rw.ir.mem hb
    exact ins_lst ha hr rfl
end
theorem flat_none (n w : Nat) : ∀ k, flatR k (List.replicate n (List.replicate w 0)) = [] := by
  induction n with
  | zero => exact fun k => rfl
  | succ n ih =>
    intro k
    show rowR k 0 (List.replicate w 0) ++ flatR (k + 1) (List.replicate n (List.replicate w 0)) = []
    rw [row_zero, ih]
    rfl
theorem fresh_mod (s : Kp429.Settings) : (freshM s).mod = ⟨s, [], Kp429.initial s []⟩ := by
  show (⟨s, flatR 0 (List.replicate s.users (List.replicate s.items 0)), Kp429.initial s []⟩ : Kp429.Model) = _
  rw [flat_none]
def setN (a b d f g h i j : Nat) : Kp429.Settings := ⟨a, b, d, f, g == 1, h, i, j⟩
theorem okS_is (a b d f g h i j : Nat) : okS ([a, b, d, f, g, h, i, j].map fun (v : Nat) => (v : Int)) = (Kp429.validSettings (setN a b d f g h i j) && decide (g ≤ 1)) := by
  have e : okS ([a, b, d, f, g, h, i, j].map fun (v : Nat) => (v : Int)) = ((decide ((1 : Int) ≤ a) && decide ((a : Int) ≤ 8)) && ((decide ((1 : Int) ≤ b) && decide ((b : Int) ≤ 8)) && ((decide ((0 : Int) ≤ d) && decide ((d : Int) ≤ 3)) && ((decide ((1 : Int) ≤ f) && decide ((f : Int) ≤ 4096)) && ((decide ((0 : Int) ≤ g) && decide ((g : Int) ≤ 1)) && ((decide ((0 : Int) ≤ h) && decide ((h : Int) ≤ 100000000)) && ((decide ((0 : Int) ≤ i) && decide ((i : Int) ≤ 1000)) && true))))))) := rfl
  have e2 : Kp429.validSettings (setN a b d f g h i j) = (decide (1 ≤ a) && decide (a ≤ 8) && decide (1 ≤ b) && decide (b ≤ 8) && decide (d ≤ 3) && decide (1 ≤ f) && decide (f ≤ 4096) && decide (h ≤ 100000000) && decide (i ≤ 1000)) := rfl
  rw [e, e2]
  rw [Bool.eq_iff_iff]
  simp only [Bool.and_eq_true, decide_eq_true_eq, and_true]
  omega
theorem set_ok2 {a b d f g h i j : Nat} (hv : Kp429.validSettings (setN a b d f g h i j) = true) (hj : j < 4294967296) : SetOk (setN a b d f g h i j) := by
  have e2 : Kp429.validSettings (setN a b d f g h i j) = (decide (1 ≤ a) && decide (a ≤ 8) && decide (1 ≤ b) && decide (b ≤ 8) && decide (d ≤ 3) && decide (1 ≤ f) && decide (f ≤ 4096) && decide (h ≤ 100000000) && decide (i ≤ 1000)) := rfl
  rw [e2] at hv
  simp only [Bool.and_eq_true, decide_eq_true_eq] at hv
  obtain ⟨⟨⟨⟨⟨⟨⟨⟨h1, h2⟩, h3⟩, h4⟩, h5⟩, h6⟩, h7⟩, h8⟩, h9⟩ := hv
  exact ⟨h1, h2, h3, h4, h5, h6, h7, h8, h9, hj⟩
theorem ixd_k {K : PySem.W.Frag} {σ : L2.St} {H : Hp} {ta tb : TE} {Q : VK} (h : ta σ H fun x H1 => tb σ H1 fun y H2 => ∃ p k v, x = .ref p ∧ y = .int k ∧ KDI K p k v ∧ Q v H2) : tIxD K ta tb σ H Q := h


section
variable {c : Cs} {mg : Str → Option Value} {vs : List V} {H : Hp} {Q : VK} {E : XK} {w : Tw}
theorem p_answer_create (T : Tx c mg) (h : sp_answer_create c w vs H Q E) : t_answer_create c (sp_Model_init c) (sp_Settings_init c) (sp_are_settings c) (Dq Q) (start n_answer_create vs) H := by
  obtain ⟨e, p, ns, st, W, cl, rfl, hs, hp, rg, hT, ⟨a1, b1, d1, f1, g1, h1, i1, j1, rfl, hj, rfl⟩, q⟩ := h
  have hp' : SqL c.K H p (([a1, b1, d1, f1, g1, h1, i1, j1].map fun (v : Nat) => (v : Int)).map V.int) := hp
  have hst : Kp429.step (stK st) (.create a1 b1 d1 f1 g1 h1 i1 j1) = if (Kp429.validSettings (setN a1 b1 d1 f1 g1 h1 i1 j1) && decide (g1 ≤ 1)) = false then (stK st, Kp429.single (-22)) else (some ⟨setN a1 b1 d1 f1 g1 h1 i1 j1, [], Kp429.initial (setN a1 b1 d1 f1 g1 h1 i1 j1) []⟩, Kp429.single ((Kp429.coordinates (setN a1 b1 d1 f1 g1 h1 i1 j1)).length : Nat)) := by
    cases st <;> rfl
  obtain ⟨de, ve, hE⟩ := hs.ins
  refine q_whenE (e_not (e_B fun Q' q' => c_call (va1 (vv rfl) va0) ⟨p, _, rfl, hp', rfl, rg, q'⟩)) (fun H1 e1 hb => ?_) (fun H1 e1 hb => ?_)
  · have hb := not_tt hb
    rw [okS_is] at hb
    refine s_retK (c_lst (va1 vc va0) (by decide) fun r hr => q r W st _ (-22) [] ?_ (hs.extN (ExtN.ex (e1.trans (exn hr)))) (fun b o hb' _ _ => (exn hr) _ _ (e1 _ _ hb')) (fun b hb' => .inl hb') (hT.ext (e1.trans (exn hr))) ⟨H1, fun b o hb' _ _ => e1 _ _ hb', hr⟩ upd_same)
    rw [hst, if_pos hb]
    rfl
  · have hb := not_ff hb
    rw [okS_is] at hb
    have hb2 := (Bool.and_eq_true _ _).mp hb
    have ok := set_ok2 hb2.1 hj
    have hg : g1 ≤ 1 := of_decide_eq_true hb2.2
    generalize hS : setN a1 b1 d1 f1 g1 h1 i1 j1 = s at hst hb ok
    have hset : [a1, b1, d1, f1, g1, h1, i1, j1].map nV = setV s := by
      rw [← hS]
      have : nnI (setN a1 b1 d1 f1 g1 h1 i1 j1) = (g1 : Int) := by
        unfold nnI
        show (if (g1 == 1) = true then (1 : Int) else 0) = g1
        have : g1 = 0 ∨ g1 = 1 := by omega
        rcases this with rfl | rfl <;> rfl
      unfold setV
      rw [this]
      rfl
    rw [hset] at hp
    have hp1 := Evl.ex_l e1 hp
    refine q_asgK (c_make (va1 (vv rfl) va0) fun sx dx hx hdx ndx => ⟨sx, dx, p, s, rfl, ok, upd_same, ?_, fun H2 k2 hs2 => ⟨rfl, ?_⟩⟩)
    · have e2 : Ex H1 (upd (upd H1 dx (.own sx)) sx (.ins c.S dx [])) := (exn hdx).trans (exn (by rw [upd_ne (Ne.symm ndx)]; exact hx))
      exact Evl.ex_l e2 hp1
    have e2 : Ex H1 H2 := fun b o hb' => k2 b o (((exn hdx).trans (exn (by rw [upd_ne (Ne.symm ndx)]; exact hx))) _ _ hb') (ne_of_none hb' hx)
    have hE2 := e2 _ _ (e1 _ _ hE)
    refine q_fldK (c_make (va1 (vv rfl) va0) fun mx dm hm0 hdm ndm => ⟨mx, dm, sx, s, rfl, ok, upd_same, ?_, fun L H3 k3 hm3 hls hfr => ⟨rfl, ?_⟩⟩)
    · exact hs2.ex ((exn hdm).trans (exn (by rw [upd_ne (Ne.symm ndm)]; exact hm0)))
    have e3 : Ex H2 H3 := fun b o hb' => k3 b o (((exn hdm).trans (exn (by rw [upd_ne (Ne.symm ndm)]; exact hm0))) _ _ hb') (ne_of_none hb' hm0)
    have hE3 := e3 _ _ hE2
    refine sto (vv rfl) hE3 T.cl_E T.na_E_model (by show 1 < 1000; decide) st_E_model fun H4 a4 k4 => ?_
    have hm4 := hm3.offE hE3 rfl k4
    have hs4 : StAt c H4 sx s := (hs2.ex e3).off hE3 (by show 1 ≠ 8; decide) k4
    obtain ⟨ds, rc, pl, pts, s1, s2, s3, s4⟩ := hs4
    have e13 : Ex H H3 := (e1.trans e2).trans e3
    have ch : ChgN W H H4 := fun b o hb' _ nb => by
      rw [k4 b fun z => nb (by rw [z]; exact hs.mem)]
      exact e13 _ _ hb'
    have tab4 : TabsN w.T H4 := fun pp hpp => by
      obtain ⟨qs, t1, t2, t3⟩ := hT pp hpp
      have keep : ∀ b o, H b = some o → (∀ C dx fs, o ≠ .ins C dx fs) → H4 b = some o := fun b o hb' hi => by
        rw [k4 b fun z => by
          rw [z, hE] at hb'
          exact hi _ _ _ (Option.some.inj hb').symm]
        exact e13 _ _ hb'
      refine ⟨qs, keep _ _ t1 (fun _ _ _ z => by cases z), t2, fun pos cv hc => ?_⟩
      obtain ⟨c0, z1, z2⟩ := t3 pos cv hc
      exact ⟨c0, z1, keep _ _ z2 fun _ _ _ z => by unfold CodeO at z; cases z⟩
    refine s_retK (c_lst (va1 (v_len (v_fld (vv rfl) s1 T.cl_S T.na_S_parameters lk_S_parameters) (sq_ s3)) va0) (by show 1 ≤ 100000; decide) fun r hr => ?_)
    refine q r (e :: L.own mx) (some (freshM s)) _ ((Kp429.coordinates s).length : Int) [] ?_ ⟨mx, L, rfl, ⟨de, (exn hr) _ _ a4⟩, hm4.ex (exn hr)⟩ (fun b o hb' nt nb => (exn hr) _ _ (ch b o hb' nt nb)) (fun b hb' => ?_) (tab4.ext (exn hr)) ⟨H4, ch, hr⟩ ?_
    · rw [hst, if_neg (by rw [hb]; exact Bool.noConfusion)]
      show _ = (some (freshM s).mod, _)
      rw [fresh_mod]
      rfl
    · rcases List.mem_cons.mp hb' with z | hb'
      · exact .inl (by rw [z]; exact hs.mem)
      · refine .inr ?_
        by_cases hbm : b = mx
        · rw [hbm]
          exact fresh (e1.trans e2) hm0
        · have h0 := hfr b hb' hbm
          rw [upd_ne hbm] at h0
          exact fresh (e1.trans e2) (fresh (exn hdm) h0)
    · rw [upd_same, List.length_map, s4.1]
      rfl
def nmK : Nat → Str
  | 1 => "answer_set_rating"
  | 2 => "answer_clear_rating"
  | 3 => "answer_delete_user"
  | 4 => "answer_reset"
  | 5 => "answer_step"
  | 6 => "answer_sweep"
  | 7 => "answer_train"
  | 8 => "answer_objective"
  | 9 => "answer_curve"
  | 10 => "answer_certificate"
  | 11 => "answer_quadratic"
  | 12 => "answer_parameter"
  | 13 => "answer_set_parameter"
  | 14 => "answer_predict"
  | 15 => "answer_explain"
  | 16 => "answer_residuals"
  | 17 => "answer_mean_error"
  | 18 => "answer_recommend"
  | 19 => "answer_similar"
  | 20 => "answer_fold_in"
  | 21 => "answer_recommend_new"
  | 22 => "answer_without"
  | 23 => "answer_status"
  | _ => ""
def spK (c : Cs) (w : Tw) : Nat → Sp
  | k => SpA c w (RK k)
theorem nmK_inj : ∀ j, j < 24 → ∀ k, k < 24 → 1 ≤ j → 1 ≤ k → nmK j = nmK k → j = k := by decide +kernel
/-- the answers, by their addresses -/
noncomputable def Sx (c : Cs) (w : Tw) (mg : Str → Option Value) : Addr → Option Sp := fun f => open Classical in if h : ∃ k, 1 ≤ k ∧ k ≤ 23 ∧ mg (nmK k) = some (.ref f) then some (spK c w h.choose) else none
/-- the written table of the calls -/
structure Mc (c : Cs) (mg : Str → Option Value) : Prop where
  at_ : ∀ k : Nat, 1 ≤ k → k ≤ 23 → ∃ f, mg (nmK k) = some (.ref f) ∧ KDI c.K c.mc (k : Int) (.ref f)
  inj : ∀ j k f, 1 ≤ j → j ≤ 23 → 1 ≤ k → k ≤ 23 → mg (nmK j) = some (.ref f) → mg (nmK k) = some (.ref f) → j = k
theorem Sx_at (M : Mc c mg) {k : Nat} {f : Addr} (h1 : 1 ≤ k) (h2 : k ≤ 23) (hf : mg (nmK k) = some (.ref f)) : Sx c w mg f = some (spK c w k) := by
  have hex : ∃ k, 1 ≤ k ∧ k ≤ 23 ∧ mg (nmK k) = some (.ref f) := ⟨k, h1, h2, hf⟩
  have e : Sx c w mg f = some (spK c w hex.choose) := by
    unfold Sx
    exact dif_pos hex
  obtain ⟨c1, c2, c3⟩ := hex.choose_spec
  rw [e, M.inj _ k f c1 c2 h1 h2 c3 hf]
theorem p_execute (T : Tx c mg) (M : Mc c mg) (h : sp_execute c w vs H Q E) : t_execute c (sp_answer_create c w) (Sx c w mg) (Dq Q) (start n_execute vs) H := by
  obtain ⟨e, p, k, ns, st, W, cl, rfl, hs, hp, rg, hT, hR, q⟩ := h
  refine q_when (b := decide (k = 0)) (a_test (vt (by rw [deq]) (v_eqI (i := (k : Int)) (j := ((0 : Nat) : Int)) (vv rfl) vc))) (fun hb => ?_) (fun hb => ?_)
  · have hb : k = 0 := of_decide_eq_true hb
    subst hb
    exact s_retK (c_call (va1 (vv rfl) (va1 (vv rfl) va0)) ⟨e, p, ns, st, W, cl, rfl, hs, hp, rg, hT, hR, q⟩)
  · have hb : k ≠ 0 := of_decide_eq_false hb
    have hk : k ≤ 23 := by
      by_cases h : k ≤ 23
      · exact h
      · match k, h, hR with
        | k + 24, _, hR => exact hR.elim
    have hncr : ∀ a b d f g h i j, cl ≠ .create a b d f g h i j := fun a b d f g h i j z => by
      match k, hb, hk, hR with
      | 1, _, _, hR => obtain ⟨_, _, _, _, y⟩ := hR; rw [y] at z; cases z
      | 2, _, _, hR => obtain ⟨_, _, _, y⟩ := hR; rw [y] at z; cases z
      | 3, _, _, hR => obtain ⟨_, _, y⟩ := hR; rw [y] at z; cases z
      | 4, _, _, hR => obtain ⟨_, y⟩ := hR; rw [y] at z; cases z
      | 5, _, _, hR => obtain ⟨_, _, _, _, y⟩ := hR; rw [y] at z; cases z
      | 6, _, _, hR => obtain ⟨_, y⟩ := hR; rw [y] at z; cases z
      | 7, _, _, hR => obtain ⟨_, _, y⟩ := hR; rw [y] at z; cases z
      | 8, _, _, hR => obtain ⟨_, y⟩ := hR; rw [y] at z; cases z
      | 9, _, _, hR => obtain ⟨_, _, y⟩ := hR; rw [y] at z; cases z
      | 10, _, _, hR => obtain ⟨_, y⟩ := hR; rw [y] at z; cases z
      | 11, _, _, hR => obtain ⟨_, _, _, _, y⟩ := hR; rw [y] at z; cases z
      | 12, _, _, hR => obtain ⟨_, _, _, _, y⟩ := hR; rw [y] at z; cases z
      | 13, _, _, hR => obtain ⟨_, _, _, _, _, _, y⟩ := hR; rw [y] at z; cases z
      | 14, _, _, hR => obtain ⟨_, _, _, y⟩ := hR; rw [y] at z; cases z
      | 15, _, _, hR => obtain ⟨_, _, _, y⟩ := hR; rw [y] at z; cases z
      | 16, _, _, hR => obtain ⟨_, _, y⟩ := hR; rw [y] at z; cases z
      | 17, _, _, hR => obtain ⟨_, y⟩ := hR; rw [y] at z; cases z
      | 18, _, _, hR => obtain ⟨_, _, _, y⟩ := hR; rw [y] at z; cases z
      | 19, _, _, hR => obtain ⟨_, _, _, _, y⟩ := hR; rw [y] at z; cases z
      | 20, _, _, hR => obtain ⟨_, y⟩ := hR; rw [y] at z; cases z
      | 21, _, _, hR => obtain ⟨_, _, _, _, y⟩ := hR; rw [y] at z; cases z
      | 22, _, _, hR => obtain ⟨_, _, _, y⟩ := hR; rw [y] at z; cases z
      | 23, _, _, hR => obtain ⟨_, y⟩ := hR; rw [y] at z; cases z
    cases st with
    | none =>
      obtain ⟨hW, dx, hE⟩ := hs
      have hn : Kp429.step (stK none) cl = (stK none, Kp429.single (-11)) := by
        cases cl with
        | create a b d f g h i j => exact absurd rfl (hncr a b d f g h i j)
        | _ => rfl
      refine q_when (b := true) (ans_isN (v_fld (vv rfl) hE T.cl_E T.na_E_model lk_E_model) rfl) (fun _ => ?_) (fun hb => by cases hb)
      exact s_retK (c_lst (va1 vc va0) (by decide) fun r hr => q r W none _ (-11) [] hn ⟨hW, dx, (exn hr) _ _ hE⟩ (fun b o hb' _ _ => (exn hr) _ _ hb') (fun b hb' => .inl hb') (hT.ext (exn hr)) ⟨H, fun b o hb' _ _ => hb', hr⟩ upd_same)
    | some m =>
      obtain ⟨a, L, hW, ⟨dx, hE⟩, hm⟩ := hs
      obtain ⟨f, f1, f2⟩ := M.at_ k (by omega) hk
      have vm : ∀ x, Val (tFld c.K (tVar 0) "model") [some (.ref e), some (nV k), some (.ref p), x] H (.ref a) := fun x => v_fld (vv rfl) hE T.cl_E T.na_E_model lk_E_model
      refine q_when (b := false) (ans_isN (vm none) rfl) (fun hb => by cases hb) (fun _ => ?_)
      refine q_asgK (ixd_k (v_k vc (v_k (vv rfl) ⟨c.mc, (k : Int), .ref f, rfl, rfl, f2, ?_⟩)))
      refine s_retK ⟨f, spK c w k, rfl, Sx_at M (by omega) hk f1, cons_k (v_k (vm _) (cons_k (v_k (vv rfl) ?_)))⟩
      refine ⟨a, p, ns, cl, L, m, rfl, hm, hp, hT, hR, fun r L2 m2 H2 x xs hst u hr h2 _ => ?_⟩
      have ne := hm.e_out hE rfl
      have hE2 := u.chg e _ hE notb_ins ne
      obtain ⟨H1, ch1, hr1⟩ := hr
      refine q r (e :: L2.own a) (some m2) H2 x xs hst ⟨a, L2, rfl, ⟨dx, hE2⟩, u.md⟩ (fun b o hb' nt nb => u.chg b o hb' nt fun z => nb (by rw [hW]; exact List.mem_cons_of_mem _ z)) (fun b hb' => ?_) u.tab ⟨H1, fun b o hb' nt nb => ch1 b o hb' nt fun z => nb (by rw [hW]; exact List.mem_cons_of_mem _ z), hr1⟩ h2
      rw [hW]
      rcases List.mem_cons.mp hb' with z | hb'
      · exact .inl (by rw [z]; exact List.mem_cons_self ..)
      · rcases u.own b hb' with z | z
        · exact .inl (List.mem_cons_of_mem _ z)
        · exact .inr z
end

theorem cal_answer_create {P : Program} {w : World} {mg : Str → Option Value} {base : Heap} {c : Cs} {tw : Tw} (T : Tx c mg) (D : DefF c.K mg "answer_create" s_answer_create ["session", "numbers"]) (c_Model_init : C8.Mak P w c.K mg base 4 "Model" c.M (sp_Model_init c) []) (c_Settings_init : C8.Mak P w c.K mg base 2 "Settings" c.S (sp_Settings_init c) []) (c_are_settings : C8.Cal P w c.K mg base 1 "are_settings" (sp_are_settings c) []) : C8.Cal P w c.K mg base 6 "answer_create" (sp_answer_create c tw) [] := by
  obtain ⟨f, fd, D, b⟩ := D.ex
  exact C8.cal0 D b .nil sc_answer_create (fun vs H Q E h => by
    obtain ⟨e0, p, ns, st, W, cl, e, _⟩ := h
    rw [e]
    rfl) (fun cdv A outer s H vs Q E hr h => ⟨_, d_answer_create T c_Model_init c_Settings_init c_are_settings hr, p_answer_create T h⟩)

end Lk
set_option Elab.async false
set_option linter.all false
set_option maxRecDepth 100000
/-! The calls as one list of numbers. -/
namespace Lk
open Kp429Neutral (asked1 callOf natural)
theorem nat_of {z : Int} (h : natural z = true) : z = ((z.toNat : Nat) : Int) ∧ z.toNat < 4294967296 := by
  have h := (Bool.and_eq_true _ _).mp h
  have h1 := of_decide_eq_true h.1
  have h2 := of_decide_eq_true h.2
  omega
theorem nats_of : ∀ {l : List Int}, l.all natural = true → l = (l.map Int.toNat).map fun (v : Nat) => (v : Int)
  | [], _ => rfl
  | x :: l, h => by
    rw [List.all_cons] at h
    have h := (Bool.and_eq_true _ _).mp h
    rw [List.map_cons, List.map_cons, ← nats_of h.2, ← (nat_of h.1).1]
theorem decode : ∀ (c : List (List Int)), asked1 c = true → ∃ (k : Nat) (ns : List Nat) (cl : Kp429.Call), c = [(k : Int) :: ns.map fun (v : Nat) => (v : Int)] ∧ RK k ns cl ∧ callOf c = some cl := by
  intro c h
  unfold asked1 at h
  split at h
  · rename_i a b d e f g i j
    simp only [and_two] at h
    obtain ⟨h1, h2, h3, h4, h5, h6, h7, h8⟩ := h
    refine ⟨0, [a.toNat, b.toNat, d.toNat, e.toNat, f.toNat, g.toNat, i.toNat, j.toNat], .create a.toNat b.toNat d.toNat e.toNat f.toNat g.toNat i.toNat j.toNat, ?_, ⟨_, _, _, _, _, _, _, _, rfl, (nat_of h8).2, rfl⟩, rfl⟩
    show _ = [[0, (a.toNat : Int), (b.toNat : Int), (d.toNat : Int), (e.toNat : Int), (f.toNat : Int), (g.toNat : Int), (i.toNat : Int), (j.toNat : Int)]]
    rw [← (nat_of h1).1, ← (nat_of h2).1, ← (nat_of h3).1, ← (nat_of h4).1, ← (nat_of h5).1, ← (nat_of h6).1, ← (nat_of h7).1, ← (nat_of h8).1]
  · rename_i a b d
    simp only [and_two] at h
    obtain ⟨h1, h2, h3⟩ := h
    refine ⟨1, [a.toNat, b.toNat, d.toNat], .setRating a.toNat b.toNat d.toNat, ?_, ⟨_, _, _, rfl, rfl⟩, rfl⟩
    show _ = [[1, (a.toNat : Int), (b.toNat : Int), (d.toNat : Int)]]
    rw [← (nat_of h1).1, ← (nat_of h2).1, ← (nat_of h3).1]
  · rename_i a b
    simp only [and_two] at h
    refine ⟨2, [a.toNat, b.toNat], .clearRating a.toNat b.toNat, ?_, ⟨_, _, rfl, rfl⟩, rfl⟩
    show _ = [[2, (a.toNat : Int), (b.toNat : Int)]]
    rw [← (nat_of h.1).1, ← (nat_of h.2).1]
  · rename_i a
    refine ⟨3, [a.toNat], .deleteUser a.toNat, ?_, ⟨_, rfl, rfl⟩, rfl⟩
    show _ = [[3, (a.toNat : Int)]]
    rw [← (nat_of h).1]
  · exact ⟨4, [], .reset, rfl, ⟨rfl, rfl⟩, rfl⟩
  · rename_i a b d
    simp only [and_two] at h
    obtain ⟨h1, h2, h3⟩ := h
    refine ⟨5, [a.toNat, b.toNat, d.toNat], .step a.toNat b.toNat d.toNat, ?_, ⟨_, _, _, rfl, rfl⟩, rfl⟩
    show _ = [[5, (a.toNat : Int), (b.toNat : Int), (d.toNat : Int)]]
    rw [← (nat_of h1).1, ← (nat_of h2).1, ← (nat_of h3).1]
  · exact ⟨6, [], .sweep, rfl, ⟨rfl, rfl⟩, rfl⟩
  · rename_i a
    refine ⟨7, [a.toNat], .train a.toNat, ?_, ⟨_, rfl, rfl⟩, rfl⟩
    show _ = [[7, (a.toNat : Int)]]
    rw [← (nat_of h).1]
  · exact ⟨8, [], .objective, rfl, ⟨rfl, rfl⟩, rfl⟩
  · rename_i a
    refine ⟨9, [a.toNat], .curve a.toNat, ?_, ⟨_, rfl, rfl⟩, rfl⟩
    show _ = [[9, (a.toNat : Int)]]
    rw [← (nat_of h).1]
  · exact ⟨10, [], .certificate, rfl, ⟨rfl, rfl⟩, rfl⟩
  · rename_i a b d
    simp only [and_two] at h
    obtain ⟨h1, h2, h3⟩ := h
    refine ⟨11, [a.toNat, b.toNat, d.toNat], .quadratic a.toNat b.toNat d.toNat, ?_, ⟨_, _, _, rfl, rfl⟩, rfl⟩
    show _ = [[11, (a.toNat : Int), (b.toNat : Int), (d.toNat : Int)]]
    rw [← (nat_of h1).1, ← (nat_of h2).1, ← (nat_of h3).1]
  · rename_i a b d
    simp only [and_two] at h
    obtain ⟨h1, h2, h3⟩ := h
    refine ⟨12, [a.toNat, b.toNat, d.toNat], .parameter a.toNat b.toNat d.toNat, ?_, ⟨_, _, _, rfl, rfl⟩, rfl⟩
    show _ = [[12, (a.toNat : Int), (b.toNat : Int), (d.toNat : Int)]]
    rw [← (nat_of h1).1, ← (nat_of h2).1, ← (nat_of h3).1]
  · rename_i a b d e f
    simp only [and_two] at h
    obtain ⟨h1, h2, h3, h4, h5⟩ := h
    refine ⟨13, [a.toNat, b.toNat, d.toNat, e.toNat, f.toNat], .setParameter a.toNat b.toNat d.toNat e.toNat f.toNat, ?_, ⟨_, _, _, _, _, rfl, rfl⟩, rfl⟩
    show _ = [[13, (a.toNat : Int), (b.toNat : Int), (d.toNat : Int), (e.toNat : Int), (f.toNat : Int)]]
    rw [← (nat_of h1).1, ← (nat_of h2).1, ← (nat_of h3).1, ← (nat_of h4).1, ← (nat_of h5).1]
  · rename_i a b
    simp only [and_two] at h
    refine ⟨14, [a.toNat, b.toNat], .predict a.toNat b.toNat, ?_, ⟨_, _, rfl, rfl⟩, rfl⟩
    show _ = [[14, (a.toNat : Int), (b.toNat : Int)]]
    rw [← (nat_of h.1).1, ← (nat_of h.2).1]
  · rename_i a b
    simp only [and_two] at h
    refine ⟨15, [a.toNat, b.toNat], .explain a.toNat b.toNat, ?_, ⟨_, _, rfl, rfl⟩, rfl⟩
    show _ = [[15, (a.toNat : Int), (b.toNat : Int)]]
    rw [← (nat_of h.1).1, ← (nat_of h.2).1]
  · rename_i a
    refine ⟨16, [a.toNat], .residuals a.toNat, ?_, ⟨_, rfl, rfl⟩, rfl⟩
    show _ = [[16, (a.toNat : Int)]]
    rw [← (nat_of h).1]
  · exact ⟨17, [], .meanError, rfl, ⟨rfl, rfl⟩, rfl⟩
  · rename_i a b
    simp only [and_two] at h
    refine ⟨18, [a.toNat, b.toNat], .recommend a.toNat b.toNat, ?_, ⟨_, _, rfl, rfl⟩, rfl⟩
    show _ = [[18, (a.toNat : Int), (b.toNat : Int)]]
    rw [← (nat_of h.1).1, ← (nat_of h.2).1]
  · rename_i a b d
    simp only [and_two] at h
    obtain ⟨h1, h2, h3⟩ := h
    refine ⟨19, [a.toNat, b.toNat, d.toNat], .similar a.toNat b.toNat d.toNat, ?_, ⟨_, _, _, rfl, rfl⟩, rfl⟩
    show _ = [[19, (a.toNat : Int), (b.toNat : Int), (d.toNat : Int)]]
    rw [← (nat_of h1).1, ← (nat_of h2).1, ← (nat_of h3).1]
  · rename_i l
    simp only [and_two] at h
    have hl := of_decide_eq_true h.2
    refine ⟨20, l.map Int.toNat, .foldIn (l.map Int.toNat), ?_, ⟨by rw [List.length_map]; exact hl, rfl⟩, rfl⟩
    rw [← nats_of h.1]
    rfl
  · rename_i a l
    simp only [and_two] at h
    have hl := of_decide_eq_true h.2.2
    refine ⟨21, a.toNat :: l.map Int.toNat, .recommendNew a.toNat (l.map Int.toNat), ?_, ⟨_, _, rfl, by rw [List.length_map]; exact hl, rfl⟩, rfl⟩
    rw [List.map_cons, ← nats_of h.2.1, ← (nat_of h.1).1]
    rfl
  · rename_i a b
    simp only [and_two] at h
    refine ⟨22, [a.toNat, b.toNat], .without a.toNat b.toNat, ?_, ⟨_, _, rfl, rfl⟩, rfl⟩
    show _ = [[22, (a.toNat : Int), (b.toNat : Int)]]
    rw [← (nat_of h.1).1, ← (nat_of h.2).1]
  · exact ⟨23, [], .status, rfl, ⟨rfl, rfl⟩, rfl⟩
  · cases h
theorem put_one (k : Nat) (ns : List Nat) (rest : List (List (List Int))) : PyWide.put ([(k : Int) :: ns.map fun (v : Nat) => (v : Int)] :: rest) = (k : Int) :: ((ns.length : Nat) : Int) :: ((ns.map fun (v : Nat) => (v : Int)) ++ (0 : Int) :: PyWide.put rest) := by
  show PyWide.put1 _ ++ PyWide.put rest = _
  rw [PyWide.put1_append]
  have e : PyFlat.putRow (ns.map fun (v : Nat) => (v : Int)) = ((ns.length : Nat) : Int) :: ns.map fun (v : Nat) => (v : Int) := by
    show (((ns.map fun (v : Nat) => (v : Int)).length : Nat) : Int) :: _ = _
    rw [List.length_map]
  rw [e]
  rfl
/-- what is asked, what is due -/
theorem asked_is {l : List Int} (h : PyKp429.answers_asked l = true) : ∃ cs, l = PyWide.put cs ∧ (∀ c ∈ cs, asked1 c = true) ∧ PyKp429.answers l = PyFlat.told (PyFlat.played Kp429Neutral.step Kp429Neutral.start cs) ∧ (PyKp429.answers l).length ≤ 10000000 := by
  unfold PyKp429.answers_asked at h
  cases hc : PyKp429.calls l with
  | none =>
    rw [hc] at h
    cases h
  | some cs =>
    rw [hc] at h
    have h := (Bool.and_eq_true _ _).mp (show ((PyFlat.atMost 60 cs && Kp429Neutral.asked cs) && PyFlat.short 10000000 (PyKp429.answers l)) = true from h)
    have h1 := (Bool.and_eq_true _ _).mp h.1
    have h2 := (Bool.and_eq_true _ _).mp (show (!cs.isEmpty && (decide (cs.length ≤ 60) && cs.all asked1)) = true from h1.2)
    have h3 := (Bool.and_eq_true _ _).mp h2.2
    refine ⟨cs, (PyWide.put_calls _ _ _ hc).1, fun c hcm => List.all_eq_true.mp h3.2 c hcm, ?_, of_decide_eq_true h.2⟩
    unfold PyKp429.answers
    rw [hc]
end Lk
set_option Elab.async false
set_option maxRecDepth 100000
set_option maxHeartbeats 5000000
set_option linter.all false
namespace Lk
open PySem PySem.Spec PyProof.Rows L2
open Evl (Ex)
open LamX NdefX
theorem sql_chg {K : PySem.W.Frag} {H H2 : Hp} {p : Addr} {xs : List V} {W : List Addr} (h : SqL K H p xs) (ch : ChgN W H H2) (hp : p ∉ W) : SqL K H2 p xs := by
  obtain (h | ⟨o, h⟩) | h := h
  · exact .inl (.inl (ch _ _ h notb_lst hp))
  · exact .inl (.inr ⟨o, ch _ _ h (fun qs z => by cases z) hp⟩)
  · exact .inr h
/-- the argument list: tracked and not the session's, or of the written part -/
def Arg (K : PySem.W.Frag) (H : Hp) (W : List Addr) (a : Addr) (xs : List V) : Prop := (SqL K H a xs ∧ H a ≠ none ∧ a ∉ W) ∨ ∀ H', SqL K H' a xs
section
variable {c : Cs} {K : PySem.W.Frag} {H H2 : Hp} {a e p : Addr} {xs ys : List V} {W W2 : List Addr} {st : Option Ms} {w : Tw} {T : List NTab}
theorem Arg.sq (h : Arg K H W a xs) : SqL K H a xs := h.elim (fun z => z.1) fun z => z H
theorem Arg.of (h : SqL K H a xs) (hw : a ∉ W) : Arg K H W a xs := by
  obtain (h | ⟨o, h⟩) | h := h
  · exact .inl ⟨.inl (.inl h), (fun z => by rw [show H a = some (.lst xs) from h] at z; cases z), hw⟩
  · exact .inl ⟨.inl (.inr ⟨o, h⟩), (fun z => by rw [h] at z; cases z), hw⟩
  · exact .inr fun H' => .inr h
theorem Arg.step (h : Arg K H W a xs) (ch : ChgN W H H2) (hw : ∀ b ∈ W2, b ∈ W ∨ H b = none) : Arg K H2 W2 a xs := by
  rcases h with ⟨h1, h2, h3⟩ | h
  · exact Arg.of (sql_chg h1 ch h3) fun z => (hw a z).elim h3 h2
  · exact .inr h
theorem Se.keepI {o : HO} (h : Se c H e st W) (hp : H p = some (.lst ys)) (hx : ∀ y ∈ ys, ∀ q, y ≠ .ref q) (np : p ∉ W) : Se c (upd H p o) e st W := by
  cases st with
  | none =>
    obtain ⟨h1, dx, h2⟩ := h
    exact ⟨h1, dx, by rw [upd_ne (ins_lst h2 hp).symm]; exact h2⟩
  | some m =>
    obtain ⟨a, L, h1, ⟨dx, h2⟩, h3⟩ := h
    exact ⟨a, L, h1, ⟨dx, by rw [upd_ne (ins_lst h2 hp).symm]; exact h2⟩, h3.keepI hp hx fun z => np (by rw [h1]; exact List.mem_cons_of_mem _ z)⟩
theorem tabs_upd {o : HO} (t : TabsN T H) (hp : H p = some (.lst ys)) : TabsN T (upd H p o) :=
  tabs_chg (W := [p]) t (fun b ob hb nb => by rw [upd_ne fun z => nb (by rw [z]; exact List.mem_singleton.mpr rfl)]; exact hb) fun b hb ob hob => by
    rw [List.mem_singleton.mp hb, hp] at hob
    exact .inr ⟨_, (Option.some.inj hob).symm⟩
end
def sp_answers (c : Cs) (w : Tw) : Sp := fun vs H Q _ => ∃ (a : Addr) (l : List Int), vs = [.ref a] ∧ SqL c.K H a (l.map V.int) ∧ l.length ≤ 1200 ∧ Rg c ∧ TabsN w.T H ∧ PyKp429.answers_asked l = true ∧ ∀ r H2, H2 r = some (.lst ((PyKp429.answers l).map V.int)) → Q (.ref r) H2


section
variable {c : Cs} {mg : Str → Option Value} {vs : List V} {H : Hp} {Q : VK} {E : XK} {w : Tw}
theorem p_answers (T : Tx c mg) (h : sp_answers c w vs H Q E) : t_answers c (sp_Session_init c) (sp_execute c w) (Dq Q) (start n_answers vs) H := by
  obtain ⟨a, l, rfl, ha, hl, rg, hT, hask, q⟩ := h
  obtain ⟨cs, hput, hcs, hans, hlen⟩ := asked_is hask
  have hll : (l.map V.int).length = l.length := List.length_map ..
  refine q_asgK (c_make va0 fun e dx hx hdx ndx => ⟨e, dx, rfl, upd_same, fun H1 k1 a1 => ⟨rfl, ?_⟩⟩)
  have e1 : Ex H H1 := fun b o hb => k1 b o (((exn hdx).trans (exn (by rw [upd_ne (Ne.symm ndx)]; exact hx))) _ _ hb) (ne_of_none hb hx)
  refine q_lst va0 (by decide) fun fo hfo => q_set vc ?_
  have nfe : fo ≠ e := (ne_of_none a1 hfo).symm
  have a2 := (exn (o := .lst []) hfo) _ _ a1
  have e2 : Ex H (upd H1 fo (.lst [])) := e1.trans (exn hfo)
  have hna : a ∉ [fo, e] ∨ ∀ H', SqL c.K H' a (l.map V.int) := by
    have k0 : ∀ o, H a = some o → a ∉ [fo, e] := fun o h z => by
      rcases in_cons z with z | z
      · rw [z, fresh e1 hfo] at h
        cases h
      · rw [List.mem_singleton.mp z, hx] at h
        cases h
    rcases ha with (h | ⟨o, h⟩) | h
    · exact .inl (k0 _ h)
    · exact .inl (k0 _ h)
    · exact .inr fun H' => .inr h
  refine q_while (fun n σ' H' => ∃ (rest : List (List (List Int))) (st : Option Ms) (W : List Addr) (acc : List Int) (pos : Nat) (x2 x1 x6 : Option V), n = rest.length ∧ σ' = [some (.ref a), x1, x2, some (.ref fo), some (nV pos), some (.ref e), x6] ∧ (∀ c ∈ rest, Kp429Neutral.asked1 c = true) ∧ pos ≤ l.length ∧ l.drop pos = PyWide.put rest ∧
      PyKp429.answers l = acc ++ PyFlat.told (PyFlat.played Kp429Neutral.step (stK st) rest) ∧ Se c H' e st W ∧ H' fo = some (.lst (acc.map V.int)) ∧ fo ∉ W ∧ Arg c.K H' (fo :: W) a (l.map V.int) ∧ TabsN w.T H') cs.length
    ⟨cs, none, [e], [], 0, _, _, _, rfl, rfl, hcs, Nat.zero_le _, hput, by rw [hans]; rfl, ⟨rfl, dx, a2⟩, upd_same, fun z => nfe (List.mem_singleton.mp z), hna.elim (fun z => Arg.of (Evl.ex_l e2 ha) z) fun z => .inr z, hT.ext e2⟩ ?_
  rintro n σ' H' ⟨rest, st, W, acc, pos, x2, x1, x6, rfl, rfl, hrs, hpos, hdrop, hres, hs, hf, nf, hA, hTb⟩
  have hsq := hA.sq
  refine ⟨decide (pos < l.length), a_test (vt (by rw [hll, dlt]) (v_i0 (vv rfl) (v_len (vv rfl) hsq))), fun hb => ?_, fun hb => ?_⟩
  · have hb : pos < l.length := of_decide_eq_true hb
    cases rest with
    | nil =>
      have := congrArg List.length hdrop
      rw [List.length_drop] at this
      have : l.length - pos = 0 := this
      omega
    | cons c0 rest =>
      obtain ⟨k, ns, cl, hc0, hR, hcl⟩ := decode c0 (hrs c0 (List.mem_cons_self ..))
      subst hc0
      rw [put_one] at hdrop
      have hld : l.length = pos + (2 + (ns.length + (1 + (PyWide.put rest).length))) := by
        have := congrArg List.length hdrop
        rw [List.length_drop, List.length_cons, List.length_cons, List.length_append, List.length_map, List.length_cons] at this
        omega
      have at_ : ∀ j z, (l.drop pos)[j]? = some z → l[pos + j]? = some z := fun j z h => by rw [List.getElem?_drop] at h; exact h
      have g0 : l[pos]? = some (k : Int) := at_ 0 _ (by rw [hdrop] <;> rfl)
      have g1 : l[pos + 1]? = some ((ns.length : Nat) : Int) := at_ 1 _ (by rw [hdrop] <;> rfl)
      have gv : ∀ j z, l[j]? = some z → (l.map V.int)[j]? = some (V.int z) := fun j z h => by rw [List.getElem?_map, h] <;> rfl
      refine q_set (v_i0 (vv rfl) vc) ?_
      refine q_set (v := nV (pos + 2 + ns.length)) (vt (by show V.int ((pos : Int) + 2 + ((ns.length : Nat) : Int)) = _; exact congrArg V.int (by omega)) (v_i0 (vv rfl) (v_ixL (vv rfl) (v_i0 (vv rfl) vc) hsq (atI_nat (j := pos + 1) (gv _ _ g1))))) ?_
      have hcut : cutV (l.map V.int) (some ((pos : Int) + 2)) (some ((pos + 2 + ns.length : Nat) : Int)) = ns.map nV := by
        unfold cutV
        rw [show (pos : Int) + 2 = ((pos + 2 : Nat) : Int) by omega, HT.sIx_nat, HT.sIx_nat, hll]
        rw [Nat.min_eq_left (show pos + 2 ≤ l.length by omega), Nat.min_eq_left (show pos + 2 + ns.length ≤ l.length by omega)]
        rw [show pos + 2 + ns.length - (pos + 2) = ns.length by omega, ← List.map_drop, ← List.map_take]
        have hd2 : l.drop (pos + 2) = (ns.map fun (v : Nat) => (v : Int)) ++ (0 : Int) :: PyWide.put rest := by
          rw [← List.drop_drop, hdrop]
          rfl
        rw [hd2, List.take_left' (by rw [List.length_map]), List.map_map]
        rfl
      refine q_asgK (call_k (cons_k (v_k (vv rfl) (cons_k (v_k (v_ixL (vv rfl) (vv rfl) hsq (atI_nat (gv _ _ g0))) (cons_k (sl_k (v_k (vv rfl) (v_k (vv rfl) ⟨_, rfl, v_k (vv rfl) ⟨_, rfl, a, _, rfl, hsq, fun p0 hp0 => ?_⟩⟩)))))))))
      rw [hcut]
      have e3 : Ex H' (upd H' p0 (.lst (ns.map nV))) := exn hp0
      generalize hH3 : upd H' p0 (.lst (ns.map nV)) = H3 at e3 ⊢
      have hp3 : SqL c.K H3 p0 (ns.map nV) := sq_ (by rw [← hH3, upd_same])
      have hs3 := hs.extN (ExtN.ex e3)
      refine ⟨e, p0, k, ns, st, W, cl, rfl, hs3, hp3, rg, hTb.ext e3, hR, fun r W2 st2 H4 x xs hst hs4 ch hW2 hT4 hr hr4 => ?_⟩
      obtain ⟨H5, ch5, hr5⟩ := hr
      have hf3 := e3 _ _ hf
      have hf4 := ch _ _ hf3 notb_lst nf
      have nf2 : fo ∉ W2 := fun z => (hW2 fo z).elim nf fun y => by rw [hf3] at y; cases y
      have nrf : r ≠ fo := fun z => by
        have := ch5 _ _ hf3 notb_lst nf
        rw [← z, hr5] at this
        cases this
      have hA3 : Arg c.K H3 (fo :: W) a (l.map V.int) := by
        rcases hA with ⟨y1, y2, y3⟩ | y
        · refine .inl ⟨Evl.ex_l e3 y1, fun z => y2 (fresh e3 z), y3⟩
        · exact .inr y
      have hA4 : Arg c.K H4 (fo :: W2) a (l.map V.int) := hA3.step (fun b o hb nb nw => ch b o hb nb fun z => nw (List.mem_cons_of_mem _ z)) fun b hb => by
        rcases in_cons hb with z | hb
        · exact .inl (by rw [z]; exact List.mem_cons_self ..)
        · rcases hW2 b hb with z | z
          · exact .inl (List.mem_cons_of_mem _ z)
          · exact .inr z
      have hlen2 : acc.length + (xs.length + 2) ≤ 10000000 := by
        have h1 := congrArg List.length hres
        have h2 : (PyFlat.told (PyFlat.played Kp429Neutral.step (stK st) ([(k : Int) :: ns.map fun (v : Nat) => (v : Int)] :: rest))) = (((x :: xs).length : Nat) : Int) :: (x :: xs) ++ PyFlat.told (PyFlat.played Kp429Neutral.step (stK st2) rest) := by
          show PyFlat.told ((Kp429Neutral.step (stK st) _).2 :: PyFlat.played Kp429Neutral.step (Kp429Neutral.step (stK st) _).1 rest) = _
          unfold Kp429Neutral.step
          rw [hcl]
          dsimp only
          rw [hst]
          rfl
        rw [h2, List.length_append, List.length_append, List.length_cons, List.length_cons] at h1
        omega
      have hres2 : PyKp429.answers l = (acc ++ [(((x :: xs).length : Nat) : Int)] ++ (x :: xs)) ++ PyFlat.told (PyFlat.played Kp429Neutral.step (stK st2) rest) := by
        rw [hres]
        have h2 : (PyFlat.told (PyFlat.played Kp429Neutral.step (stK st) ([(k : Int) :: ns.map fun (v : Nat) => (v : Int)] :: rest))) = (((x :: xs).length : Nat) : Int) :: (x :: xs) ++ PyFlat.told (PyFlat.played Kp429Neutral.step (stK st2) rest) := by
          show PyFlat.told ((Kp429Neutral.step (stK st) _).2 :: PyFlat.played Kp429Neutral.step (Kp429Neutral.step (stK st) _).1 rest) = _
          unfold Kp429Neutral.step
          rw [hcl]
          dsimp only
          rw [hst]
          rfl
        rw [h2]
        simp [List.append_assoc]
      refine q_dropK (bm_k (vv rfl) hf4 (va1 (v_len (vv rfl) (sq_ hr4)) va0 _ ⟨fo, _, _, rfl, rfl, hf4, ?_, ?_⟩))
      · rw [List.length_map]
        exact Nat.lt_of_le_of_lt (show acc.length ≤ 10000000 by omega) (by decide)
      · have hf6 : upd H4 fo (.lst (acc.map V.int ++ [V.int (((V.int x :: xs.map V.int).length : Nat) : Int)])) fo = some (.lst (acc.map V.int ++ [V.int (((V.int x :: xs.map V.int).length : Nat) : Int)])) := upd_same
        have hs6 := hs4.keepI (o := .lst (acc.map V.int ++ [V.int (((V.int x :: xs.map V.int).length : Nat) : Int)])) hf4 ints_ne nf2
        have hT6 := tabs_upd (o := .lst (acc.map V.int ++ [V.int (((V.int x :: xs.map V.int).length : Nat) : Int)])) hT4 hf4
        have hr6 : upd H4 fo (.lst (acc.map V.int ++ [V.int (((V.int x :: xs.map V.int).length : Nat) : Int)])) r = some (.lst (.int x :: xs.map V.int)) := by rw [upd_ne nrf]; exact hr4
        have hA6 : Arg c.K (upd H4 fo (.lst (acc.map V.int ++ [V.int (((V.int x :: xs.map V.int).length : Nat) : Int)]))) (fo :: W2) a (l.map V.int) := by
          rcases hA4 with ⟨y1, y2, y3⟩ | y
          · exact Arg.of (sql_chg (W := [fo]) y1 (fun b o hb _ nb => by rw [upd_ne fun z => nb (by rw [z]; exact List.mem_singleton.mpr rfl)]; exact hb) fun z => y3 (by rw [List.mem_singleton.mp z]; exact List.mem_cons_self ..)) y3
          · exact .inr y
        have hint : acc.map V.int ++ [V.int (((V.int x :: xs.map V.int).length : Nat) : Int)] = (acc ++ [(((x :: xs).length : Nat) : Int)]).map V.int := by
          rw [List.map_append, List.length_cons, List.length_cons, List.length_map]
          rfl
        rw [hint] at hf6 hs6 hT6 hr6 hA6 ⊢
        generalize hH6 : upd H4 fo (.lst ((acc ++ [(((x :: xs).length : Nat) : Int)]).map V.int)) = H6 at hf6 hs6 hT6 hr6 hA6 ⊢
        refine q_dropK (bm_k (vv rfl) hf6 (va1 (vv rfl) va0 _ ⟨fo, r, _, _, rfl, rfl, hf6, hr6, ?_, ?_⟩))
        · have e8 : (V.int x :: xs.map V.int).length = xs.length + 1 := by rw [List.length_cons, List.length_map]
          rw [List.length_map, List.length_append, e8]
          exact Nat.le_trans (show acc.length + [(((x :: xs).length : Nat) : Int)].length + (xs.length + 1) ≤ 10000000 by rw [List.length_singleton]; omega) (by decide)
        · have hint2 : (acc ++ [(((x :: xs).length : Nat) : Int)]).map V.int ++ .int x :: xs.map V.int = (acc ++ [(((x :: xs).length : Nat) : Int)] ++ (x :: xs)).map V.int := by
            rw [List.map_append (l₂ := x :: xs)]
            rfl
          rw [hint2]
          refine s_set (v_i0 (vv rfl) vc) ⟨rest.length, Nat.lt_succ_self _, rest, st2, W2, acc ++ [(((x :: xs).length : Nat) : Int)] ++ (x :: xs), pos + 2 + ns.length + 1, _, _, _, rfl, rfl, fun c hc => hrs c (List.mem_cons_of_mem _ hc), by omega, ?_, hres2, hs6.keepI hf6 ints_ne nf2, upd_same, nf2, ?_, tabs_upd hT6 hf6⟩
          · have hd2 : l.drop (pos + 2) = (ns.map fun (v : Nat) => (v : Int)) ++ (0 : Int) :: PyWide.put rest := by
              rw [← List.drop_drop, hdrop]
              rfl
            have e4 : pos + 2 + ns.length + 1 = (pos + 2) + (ns.length + 1) := by omega
            rw [e4, ← List.drop_drop, hd2, ← List.drop_drop, List.drop_left' (by rw [List.length_map])]
            rfl
          · rcases hA6 with ⟨y1, y2, y3⟩ | y
            · exact Arg.of (sql_chg (W := [fo]) y1 (fun b o hb _ nb => by rw [upd_ne fun z => nb (by rw [z]; exact List.mem_singleton.mpr rfl)]; exact hb) fun z => y3 (by rw [List.mem_singleton.mp z]; exact List.mem_cons_self ..)) y3
            · exact .inr y
  · have hb : ¬ pos < l.length := of_decide_eq_false hb
    have hnil : PyWide.put rest = [] := by
      rw [← hdrop]
      exact List.drop_of_length_le (by omega)
    cases rest with
    | nil =>
      have hfin : PyKp429.answers l = acc := by
        rw [hres]
        exact List.append_nil _
      exact s_ret (vv rfl) (q fo H' (by rw [hfin]; exact hf))
    | cons c0 rest =>
      obtain ⟨k, ns, cl, hc0, _, _⟩ := decode c0 (hrs c0 (List.mem_cons_self ..))
      rw [hc0, put_one] at hnil
      cases hnil
end


end Lk
set_option Elab.async false
set_option linter.all false
set_option maxRecDepth 100000
set_option maxHeartbeats 5000000
/-! The end of a row of a specification, with tables of code objects. -/
namespace Lk
open PySem PySem.Spec PyProof.Rows L2 LamX NdefX
open PySem.W (OpenSpec Codec WData WellAll Well ReadsAllW ReadsW)
open Evl (Ex)
section
variable {K : PySem.W.Frag} {H H' : Hp}
mutual
theorem dw_up (e : Ex H H') : ∀ (d : WData) (v : V), Dw K H v d → Dw K H' v d
  | .none, _, x => by cases x; exact .non
  | .bool b, _, x => by cases x; exact .bl b
  | .int i, _, x => by cases x; exact .int i
  | .str s, _, x => by cases x; exact .str s
  | .bytes b, _, x => by cases x; exact .byt _
  | .list ds, _, x => by
    cases x with
    | lst hs ha => exact .lst (Evl.ex_l e hs) (dws_up e ds _ ha)
  | .tuple ds, _, x => by
    cases x with
    | tup hs ha => exact .tup (Evl.ex_t e hs) (dws_up e ds _ ha)
  | .float _, _, x => by cases x
  | .dict _, _, x => by cases x
  | .bytearray _, _, x => by cases x
  | .set _, _, x => by cases x
  | .frozenset _, _, x => by cases x
  | .obj _ _, _, x => by cases x
theorem dws_up (e : Ex H H') : ∀ (ds : List WData) (vs : List V), DwAll K H vs ds → DwAll K H' vs ds
  | [], _, x => by cases x; exact .nil
  | d :: ds, _, x => by
    cases x with
    | cons h1 h2 => exact .cons (dw_up e d _ h1) (dws_up e ds _ h2)
end
end
/-- the arguments, and the empty tables -/
def tabH (ts : List Addr) (H : Hp) : Hp := fun b => if b ∈ ts then some (.tbl #[]) else H b
theorem tabH_in {ts : List Addr} {H : Hp} {b : Addr} (h : b ∈ ts) : tabH ts H b = some (.tbl #[]) := if_pos h
theorem tabH_out {ts : List Addr} {H : Hp} {b : Addr} (h : b ∉ ts) : tabH ts H b = H b := if_neg h
theorem spec_callT {P : Program} {w : World} {K : PySem.W.Frag} {mg mb : Str → Option Value} {k : Nat} {fa : Addr} {fd : FuncData} {ps : List Str} {sp : Sp} {s₁ : Shared} {vals : List Value} {ds : List WData} {R : PySem.W.WRecords} {cl : Str → Option Addr} {d0 : WData} {cs : List (Addr × Addr)}
    (KX : K.In s₁.heap) (nsG : s₁.heap.Ns mainGlobals mg) (nsB : s₁.heap.Ns builtinsNs mb) (blt : ∀ x : Str, x ≠ "__name__" → mb x = bootBuiltins x) (nolim : s₁.heap.NoLimit) (nogen : s₁.gens = #[])
    (hT : ∀ p ∈ cs, s₁.heap.get? p.2 = some { cls := .none, data := .fields #[] }) (nT : ∀ p ∈ cs, K.lookup p.2 = none) (CH : ∀ p ∈ cs, PySem.W.CodeHd s₁.heap p.1 p.2)
    (bmain : ∃ (bm : Addr) (ob : Obj), mg "__builtins__" = some (.ref bm) ∧ bm ≠ builtinsNs ∧ s₁.heap.get? bm = some ob ∧ ob.cls = .type "module" ∧ ob.dict = some builtinsNs ∧ ob.data = .plain)
    (sized : WellAll w.params s₁.heap vals ds) (plain : plWs ds = true) (light : ∀ d ∈ ds, d.weight ≤ 1048576) (hr : Room k callerA)
    (F : ∀ base : Heap, K.In base → base.Ns mainGlobals mg → (∀ p ∈ cs, TabB base mg p.1 p.2) → FnOk P w K mg base C8.CX0 k fa fd ps sp) (hbind : ∀ (s : Shared) (us : List Value), us.length = ps.length → BindsTo s fd ⟨us, []⟩ (ps.zip us)) (hlen : ds.length = ps.length)
    (hsp : ∀ (H : Hp) (xs : List V), (∀ p ∈ cs, H p.2 = some (.tbl #[])) → DwAll K H xs ds → sp xs H (fun v H' => Dw K H' v d0) fun _ _ _ => False) :
    codeAny (model P w) callerA (.call (.ref fa) ⟨vals, []⟩) (fun out t => ∃ y as, out = .ok (.ret y) ∧ ReadsW R cl t.heap y d0 as ∧ OldK s₁.heap t.heap ∧ t.os = s₁.os ∧ AllBare t.gens) s₁ := by
  obtain ⟨A, okA, ar⟩ := area_all ds vals sized plain light
  have only : OnlyF (argH K s₁.heap A) := argH_only ar
  have hok0 : HOk P w (argH K s₁.heap A) s₁.heap := argH_ok ar
  have hS0 := dw_all KX ar ds vals sized plain okA
  have hV := vals_toV okA
  have argSeq : ∀ b u, argH K s₁.heap A b = some u → K.lookup b = none ∧ ∃ o vs n, s₁.heap.get? b = some o ∧ o.data = Data.seq vs n := fun b u q => by
    obtain ⟨q1, vs, _, _, ⟨e, _⟩ | ⟨e, _⟩⟩ := argH_is ar q
    · exact ⟨q1, _, _, _, e, rfl⟩
    · exact ⟨q1, _, _, _, e, rfl⟩
  generalize argH K s₁.heap A = H0 at only hok0 hS0 argSeq
  have memT : ∀ p ∈ cs, p.2 ∈ cs.map (·.2) := fun _ z => List.mem_map.mpr ⟨_, z, rfl⟩
  have isT : ∀ b ∈ cs.map (·.2), s₁.heap.get? b = some { cls := .none, data := .fields #[] } := fun b hb => by
    obtain ⟨p, hp, e⟩ := in_map hb
    rw [← e]
    exact hT p hp
  have notT : ∀ b u, H0 b = some u → b ∉ cs.map (·.2) := fun b u q z => by
    obtain ⟨_, o, vs, n, e, hd⟩ := argSeq b u q
    rw [isT b z] at e
    cases e
    cases hd
  have up : Ex H0 (tabH (cs.map (·.2)) H0) := fun b u q => by rw [tabH_out (notT b u q)]; exact q
  have hS : DwAll K (tabH (cs.map (·.2)) H0) (vals.map toV) ds := dws_up up _ _ hS0
  have hok : HOk P w (tabH (cs.map (·.2)) H0) s₁.heap := fun b u q => by
    by_cases hb : b ∈ cs.map (·.2)
    · rw [tabH_in hb] at q
      cases q
      exact isT b hb
    · rw [tabH_out hb] at q
      refine (hok0 b u q).stay (fun c v _ z => z) (fun c z => ?_) (fun c xs z => up _ _ z)
      exact up _ _ z
  have cases3 : ∀ b, tabH (cs.map (·.2)) H0 b = none ∨ b ∈ cs.map (·.2) ∨ ∃ o u, tabH (cs.map (·.2)) H0 b = some (.frz o u) := fun b => by
    by_cases hb : b ∈ cs.map (·.2)
    · exact .inr (.inl hb)
    · rw [tabH_out hb]
      rcases only b with z | z
      · exact .inl z
      · exact .inr (.inr z)
  have nK : ∀ b o, K.lookup b = some o → tabH (cs.map (·.2)) H0 b = none := fun b o e => by
    by_cases hb : b ∈ cs.map (·.2)
    · obtain ⟨p, hp, ep⟩ := in_map hb
      rw [← ep, nT p hp] at e
      cases e
    · rw [tabH_out hb]
      cases q : H0 b with
      | none => rfl
      | some u =>
        rw [(argSeq b u q).1] at e
        cases e
  have free : ∀ {b : Addr} {o : Obj}, s₁.heap.get? b = some o → (∀ vs n, o.data ≠ .seq vs n) → o.data ≠ .fields #[] → tabH (cs.map (·.2)) H0 b = none := fun {b o} e h1 h2 => by
    by_cases hb : b ∈ cs.map (·.2)
    · rw [isT b hb] at e
      cases e
      exact absurd rfl h2
    · rw [tabH_out hb]
      cases q : H0 b with
      | none => rfl
      | some u =>
        obtain ⟨_, o', vs, n, e', hd⟩ := argSeq b u q
        rw [e] at e'
        cases e'
        exact absurd hd (h1 vs n)
  have hidden : ∀ {b : Addr} {m : Str → Option Value}, s₁.heap.Ns b m → (hidT s₁.heap (tabH (cs.map (·.2)) H0)).Ns b m := fun {b m} ⟨o, es, ep, e, d, r⟩ => ⟨o, es, ep, hidT_get e (free e (fun vs n z => by rw [d] at z; cases z) fun z => by rw [d] at z; cases z), d, r⟩
  have KB : K.In (hidT s₁.heap (tabH (cs.map (·.2)) H0)) := fun b o e => hidT_get (KX b o e) (nK b o e)
  have hM : L2.Mod K mg (hidT s₁.heap (tabH (cs.map (·.2)) H0)) := ⟨KB, hidden nsG, ⟨mb, hidden nsB, blt⟩, let ⟨mc, z1, z2⟩ := nolim; ⟨mc, hidden z1, z2⟩⟩
  have TB : ∀ p ∈ cs, TabB (hidT s₁.heap (tabH (cs.map (·.2)) H0)) mg p.1 p.2 := fun p hp => by
    have hTp := hT p hp
    obtain ⟨bm, ob, b1, b2, b3, b4, b5, b6⟩ := bmain
    obtain ⟨go, ges, gep, ge, gd, _⟩ := nsG
    refine ⟨?_, ⟨bm, ob, b1, b2, fun z => ?_, fun z => ?_, hidT_get b3 (free b3 (fun vs n z => by rw [b6] at z; cases z) fun z => by rw [b6] at z; cases z), b4, b5, b6⟩, fun z => ?_⟩
    · obtain ⟨o, us, file, tf, flags, tg, inF, text, tt, e1, r1, r2, r3, r4, r5, r6, r7, r8, ne⟩ := CH p hp
      refine ⟨o, us, file, tf, flags, tg, inF, text, tt, hidT_get e1 (free e1 (fun vs n z => by rw [r2] at z; cases z) fun z => ?_), r1, r2, r3, r4, r5, r6, r7, r8, ne⟩
      rw [r2] at z
      cases z
      simp at r3
    · rw [z, ge] at b3
      cases b3
      rw [gd] at b6
      cases b6
    · rw [z, hTp] at b3
      cases b3
      cases b6
    · rw [z, hTp] at ge
      cases ge
      cases gd
  have e0 : Env0 P w K mg (hidT s₁.heap (tabH (cs.map (·.2)) H0)) callerA [] s₁ (tabH (cs.map (·.2)) H0) := ⟨rfl, hM, fun b o e => of_hidT e, Nat.le_of_eq (hidT_size _ _), trivial, fun b hb => absurd (show b ∈ ([] : List Addr) from hb) List.not_mem_nil, hok, .of_eq nogen⟩
  have lenV : vals.length = ps.length := by rw [wellAll_len sized]; exact hlen
  refine codeAny_mono ((F _ KB (hidden nsG) TB).run callerA [] s₁ _ ⟨vals, []⟩ vals (vals.map toV) _ _ hr e0 (hbind s₁ vals lenV) hV (hsp _ _ (fun p hp => tabH_in (memT p hp)) hS)) fun r s' x => ?_
  cases r with
  | error e => exact False.elim x
  | ok fl =>
    cases fl with
    | next => exact False.elim x
    | brk => exact False.elim x
    | cont => exact False.elim x
    | ret u =>
      obtain ⟨v, H2, os, bare, un, hok2, rv, q⟩ := x
      have kept : ∀ b o, b ∉ cs.map (·.2) → s₁.heap.get? b = some o → s'.heap.get? b = some o := fun b o nb e => by
        rcases cases3 b with z | z | ⟨ob, u3, z⟩
        · exact un.keep b o e z (fun y => absurd (show b ∈ ([] : List Addr) from y) List.not_mem_nil) List.not_mem_nil
        · exact absurd z nb
        · have z2 := un.frzs b ob _ z
          have g1 : s₁.heap.get? b = some ob := (hok b _ z).1
          have g2 : s'.heap.get? b = some ob := (hok2 b _ z2).1
          rw [g2, ← g1, e]
      have grown : ∀ b ∈ cs.map (·.2), ∃ more : Array Value, s'.heap.get? b = some { cls := .none, data := .fields more } := fun b hb => by
        obtain ⟨more, z⟩ := un.tbls b #[] (tabH_in hb)
        exact ⟨_, hok2 b _ z⟩
      have KX2 : K.In s'.heap := fun b o e => kept b o (fun hb => by
        have := nK b o e
        rw [tabH_in hb] at this
        cases this) (KX b o e)
      obtain ⟨as, reads⟩ := Dw.reads (R := R) (cl := cl) hok2 KX2 d0 v u q rv
      refine ⟨u, as, rfl, reads, ⟨fun b o e => ?_, fun b o e => ?_⟩, os, bare⟩
      · by_cases inT : b ∈ cs.map (·.2)
        · obtain ⟨more, hm⟩ := grown b inT
          obtain ⟨p, hp, ep⟩ := in_map inT
          rw [isT b inT] at e
          cases e
          rw [← ep] at hm ⊢
          exact .inr (.inl ⟨((CH p hp).tab (hT p hp)).isCodeTable, rfl, #[], more, rfl, by rw [Array.empty_append]; exact hm⟩)
        · exact .inl (kept b o inT e)
      · by_cases inT : b ∈ cs.map (·.2)
        · obtain ⟨more, hm⟩ := grown b inT
          exact ⟨_, hm⟩
        · exact ⟨o, kept b o inT e⟩
/-- the goal that the head leaves -/
theorem walk_specT {r : OpenSpec} {k : Nat} {q : Program} {loose : List Str} {XP : (Str → Option Value) → Heap → Prop} {YP : World → Heap → Prop} {d : DefRec} {K : Params → PySem.W.Frag} {ps : List Str}
    (hwell : r.wellSaid = true) (hlen : r.args.length = ps.length) (hr : Room k callerA) (hY : ∀ (w : World) (h : Heap), YP w h → (K w.params).In h)
    (F : ∀ (w : World) (mg : Str → Option Value) (fa : Addr) (h : Heap), YP w h → (K w.params).In h → h.Ns mainGlobals mg → mg d.name = some (.ref fa) → (∀ (x : Str) (dr : DefRec) (c P : Addr), (recsOf q).find? (fun e => e.name == x) = some dr → PySem.W.tabIn (K w.params) x = some (c, P) → PySem.W.CodeHd h c P ∧ h.get? P = some { cls := .none, data := .fields #[] }) →
      ∃ (fd : FuncData) (cs : List (Addr × Addr)) (sp : Sp), (∀ p ∈ cs, h.get? p.2 = some { cls := .none, data := .fields #[] }) ∧ (∀ p ∈ cs, (K w.params).lookup p.2 = none) ∧ (∀ p ∈ cs, PySem.W.CodeHd h p.1 p.2) ∧ (∀ (s : Shared) (us : List Value), us.length = ps.length → BindsTo s fd ⟨us, []⟩ (ps.zip us)) ∧
        (∀ (H : Hp) (xs : List V) (a : Codec.denoteAll r.args), (∀ p ∈ cs, H p.2 = some (.tbl #[])) → Codec.withinAll r.args a = true → Codec.app r.args r.asked a = true → DwAll (K w.params) H xs (Codec.encAll r.args a) → sp xs H (fun v H' => Dw (K w.params) H' v (r.ret.enc (Codec.app r.args r.f a))) fun _ _ _ => False) ∧
        ∀ base : Heap, (K w.params).In base → base.Ns mainGlobals mg → (∀ p ∈ cs, TabB base mg p.1 p.2) → FnOk r.prog w (K w.params) mg base C8.CX0 k fa fd ps sp) :
    PySem.W.WalkOS q loose XP YP r d [] (fun g us => PySem.call g us) := by
  intro w s₀ s₁ mg mb G Y fa _ _ _ _ _ _ _ _ _ _ hmg hg args vals _ hpre hlay _ hwl _
  have ⟨a, e1, e2⟩ := PySem.W.os_pre_some hpre
  obtain ⟨e3, within⟩ := Codec.encAll_of_decAll r.args args a e1
  subst e3
  have KX := hY w _ Y
  obtain ⟨fd, cs, sp, t1, t2, t3, hb, hsp, hF⟩ := F w mg fa _ Y KX G.T.g hmg fun x dr c P h1 h2 => PySem.W.tab_of G.T KX h1 h2
  have call := spec_callT (R := []) (cl := classAt s₀.heap) (d0 := r.ret.enc (Codec.app r.args r.f a)) KX G.T.g G.T.b G.T.builtins G.T.nolimit hg t1 t2 t3 G.T.bmain hwl (pl_encAll _ _) (layable_weight hlay) hr hF hb (by rw [encAll_len]; exact hlen) fun H xs hH hS => hsp H xs a hH within e2 hS
  refine PySem.W.enter_call (codeAny_mono call fun r' s' x => ?_)
  obtain ⟨u, as', rfl, h1, h2, h3, h4⟩ := x
  exact ⟨.inl ⟨u, _, as', rfl, fun _ => rfl, h1, (OpenSpec.post_iff hwell within _ _).mpr rfl, fun z => Bool.noConfusion (show false = true from z)⟩, h2, h3, h4⟩
end Lk
set_option Elab.async false
set_option maxRecDepth 100000
set_option maxHeartbeats 5000000
set_option linter.all false
/-! All defs together, and what the top has written. -/
namespace Lk
open PySem PySem.Spec PyProof.Rows L2 LamX NdefX
open PySem.W (OpenSpec Codec WData WellAll Well ReadsAllW ReadsW)
open Evl (Ex)
section
variable {P : Program} {w : World} {mg : Str → Option Value} {base : Heap} {c : Cs} {tw : Tw}
theorem cal_up {j k : Nat} {x : Str} {sp sp' : Sp} (h : C8.Cal P w c.K mg base j x sp []) (hj : j ≤ k) (hs : ∀ vs H Q E, sp' vs H Q E → sp vs H Q E) : C8.Cal P w c.K mg base k x sp' [] := by
  obtain ⟨f, fd, ps, ds, F, hm, kp, b, d⟩ := h.ex
  exact ⟨f, fd, ps, ds, (F.mono hj).imp hs, hm, kp, b, d⟩
theorem cal_execute (T : Tx c mg) (M : Mc c mg) (D : DefF c.K mg "execute" s_execute ["session", "call", "numbers"]) (c0 : C8.Cal P w c.K mg base 6 "answer_create" (sp_answer_create c tw) []) (hC : ∀ k, 1 ≤ k → k ≤ 23 → C8.Cal P w c.K mg base 9 (nmK k) (spK c tw k) []) : C8.Cal P w c.K mg base 10 "execute" (sp_execute c tw) [] := by
  obtain ⟨f, fd, D, b⟩ := D.ex
  have hA : ∀ f sp, Sx c tw mg f = some sp → Held P w c.K mg base 9 f sp := by
    intro f sp h
    have hex : ∃ k, 1 ≤ k ∧ k ≤ 23 ∧ mg (nmK k) = some (.ref f) := by
      apply Classical.byContradiction
      intro hn
      unfold Sx at h
      rw [dif_neg hn] at h
      cases h
    obtain ⟨k, k1, k2, k3⟩ := hex
    rw [Sx_at M k1 k2 k3] at h
    cases h
    obtain ⟨f', fd, ps, ds, F, hm, kp, b, d⟩ := (hC k k1 k2).ex
    rw [hm] at k3
    cases k3
    cases d
    exact ⟨fd, ps, F, kp, b⟩
  exact C8.cal0 D b .nil sc_execute (fun vs H Q E h => by
    obtain ⟨e, p, k, ns, st, W, cl, e, _⟩ := h
    rw [e]
    rfl) (fun cdv A outer s H vs Q E hr h => ⟨_, d_execute T c0 hA hr, p_execute T M h⟩)
theorem fn_answers {f : Addr} {fd : FuncData} (T : Tx c mg) (F : C8.Fun c.K "answers" "answers" s_answers f fd) (c_Session_init : C8.Mak P w c.K mg base 1 "Session" c.E (sp_Session_init c) []) (c_execute : C8.Cal P w c.K mg base 10 "execute" (sp_execute c tw) []) : FnOk P w c.K mg base C8.CX0 11 f fd ["calls"] (sp_answers c tw) :=
  C8.fn0 F sc_answers (fun vs H Q E h => by
    obtain ⟨a, l, e, _⟩ := h
    rw [e]
    rfl) (fun cdv A outer s H vs Q E hr h => ⟨_, d_answers T c_Session_init c_execute hr, p_answers T h⟩)
end
/-- every def of the text -/
structure Ds (K : PySem.W.Frag) (mg : Str → Option Value) (S M Q E cr cs : Addr) : Prop where
  are_settings : DefF K mg "are_settings" s_are_settings ["numbers"]
  is_rating : DefF K mg "is_rating" s_is_rating ["value"]
  ordered_parameters : MetF K S "ordered_parameters" "Settings.ordered_parameters" s_ordered_parameters ["self"]
  Settings_init : MakF K mg "Settings" S "Settings.__init__" s_Settings_init ["self", "numbers"]
  has_user : MetF K S "has_user" "Settings.has_user" s_has_user ["self", "user"]
  has_item : MetF K S "has_item" "Settings.has_item" s_has_item ["self", "item"]
  has_pair : MetF K S "has_pair" "Settings.has_pair" s_has_pair ["self", "user", "item"]
  has_row : MetF K S "has_row" "Settings.has_row" s_has_row ["self", "kind", "number"]
  has_parameter : MetF K S "has_parameter" "Settings.has_parameter" s_has_parameter ["self", "kind", "number", "place"]
  lowest : MetF K S "lowest" "Settings.lowest" s_lowest ["self", "place"]
  highest : MetF K S "highest" "Settings.highest" s_highest ["self", "place"]
  is_in_range : MetF K S "is_in_range" "Settings.is_in_range" s_is_in_range ["self", "place", "value"]
  penalty : MetF K S "penalty" "Settings.penalty" s_penalty ["self", "place"]
  hashed : DefF K mg "hashed" s_hashed ["numbers"]
  first_value : DefF K mg "first_value" s_first_value ["settings", "kind", "number", "place"]
  first_rows : DefF K mg "first_rows" s_first_rows ["settings"]
  first_base : DefF K mg "first_base" s_first_base ["values"]
  Model_init : MakF K mg "Model" M "Model.__init__" s_Model_init ["self", "settings"]
  ratings_of : MetF K M "ratings_of" "Model.ratings_of" s_ratings_of ["self", "kind", "number"]
  all_ratings : MetF K M "all_ratings" "Model.all_ratings" s_all_ratings ["self"]
  begin_again : MetF K M "begin_again" "Model.begin_again" s_begin_again ["self"]
  drop_ratings : MetF K M "drop_ratings" "Model.drop_ratings" s_drop_ratings ["self", "user"]
  twin : MetF K M "twin" "Model.twin" s_twin ["self"]
  prediction_parts : MetF K M "prediction_parts" "Model.prediction_parts" s_prediction_parts ["self", "user", "item"]
  prediction : MetF K M "prediction" "Model.prediction" s_prediction ["self", "user", "item"]
  residuals_of : MetF K M "residuals_of" "Model.residuals_of" s_residuals_of ["self", "kind", "number"]
  recommended : DefT K mg "recommended" s_recommended ["model", "user", "count"] cr
  factor_product : DefF K mg "factor_product" s_factor_product ["row", "other"]
  similar_rows : DefT K mg "similar_rows" s_similar_rows ["model", "kind", "number", "count"] cs
  error_part : DefF K mg "error_part" s_error_part ["model"]
  penalty_part : DefF K mg "penalty_part" s_penalty_part ["model"]
  whole_objective : DefF K mg "whole_objective" s_whole_objective ["model"]
  lowest_terms : DefF K mg "lowest_terms" s_lowest_terms ["numerator", "denominator"]
  mean_error : DefF K mg "mean_error" s_mean_error ["model"]
  Quadratic_init : MakF K mg "Quadratic" Q "Quadratic.__init__" s_Quadratic_init ["self", "curvature", "slope"]
  height : MetF K Q "height" "Quadratic.height" s_height ["self", "value"]
  nearest : MetF K Q "nearest" "Quadratic.nearest" s_nearest ["self"]
  quadratic_of : DefF K mg "quadratic_of" s_quadratic_of ["model", "kind", "number", "place"]
  stepped_value : DefF K mg "stepped_value" s_stepped_value ["model", "kind", "number", "place"]
  step : DefF K mg "step" s_step ["model", "kind", "number", "place"]
  sweep : DefF K mg "sweep" s_sweep ["model"]
  train : DefF K mg "train" s_train ["model", "most"]
  coming_objectives : DefF K mg "coming_objectives" s_coming_objectives ["model", "count"]
  first_improvable : DefF K mg "first_improvable" s_first_improvable ["model"]
  are_new_ratings : DefF K mg "are_new_ratings" s_are_new_ratings ["settings", "numbers"]
  with_newcomer : DefF K mg "with_newcomer" s_with_newcomer ["model", "numbers"]
  make_rounds : DefF K mg "make_rounds" s_make_rounds ["guest"]
  Session_init : MakF K mg "Session" E "Session.__init__" s_Session_init ["self"]
  answer_create : DefF K mg "answer_create" s_answer_create ["session", "numbers"]
  answer_set_rating : DefF K mg "answer_set_rating" s_answer_set_rating ["model", "numbers"]
  answer_clear_rating : DefF K mg "answer_clear_rating" s_answer_clear_rating ["model", "numbers"]
  answer_delete_user : DefF K mg "answer_delete_user" s_answer_delete_user ["model", "numbers"]
  answer_reset : DefF K mg "answer_reset" s_answer_reset ["model", "numbers"]
  answer_step : DefF K mg "answer_step" s_answer_step ["model", "numbers"]
  answer_sweep : DefF K mg "answer_sweep" s_answer_sweep ["model", "numbers"]
  answer_train : DefF K mg "answer_train" s_answer_train ["model", "numbers"]
  answer_objective : DefF K mg "answer_objective" s_answer_objective ["model", "numbers"]
  answer_curve : DefF K mg "answer_curve" s_answer_curve ["model", "numbers"]
  answer_certificate : DefF K mg "answer_certificate" s_answer_certificate ["model", "numbers"]
  answer_quadratic : DefF K mg "answer_quadratic" s_answer_quadratic ["model", "numbers"]
  answer_parameter : DefF K mg "answer_parameter" s_answer_parameter ["model", "numbers"]
  answer_set_parameter : DefF K mg "answer_set_parameter" s_answer_set_parameter ["model", "numbers"]
  answer_predict : DefF K mg "answer_predict" s_answer_predict ["model", "numbers"]
  answer_explain : DefF K mg "answer_explain" s_answer_explain ["model", "numbers"]
  listed : DefF K mg "listed" s_listed ["pairs"]
  answer_residuals : DefF K mg "answer_residuals" s_answer_residuals ["model", "numbers"]
  answer_mean_error : DefF K mg "answer_mean_error" s_answer_mean_error ["model", "numbers"]
  answer_recommend : DefF K mg "answer_recommend" s_answer_recommend ["model", "numbers"]
  answer_similar : DefF K mg "answer_similar" s_answer_similar ["model", "numbers"]
  answer_fold_in : DefF K mg "answer_fold_in" s_answer_fold_in ["model", "numbers"]
  answer_recommend_new : DefF K mg "answer_recommend_new" s_answer_recommend_new ["model", "numbers"]
  answer_without : DefF K mg "answer_without" s_answer_without ["model", "numbers"]
  answer_status : DefF K mg "answer_status" s_answer_status ["model", "numbers"]
  execute : DefF K mg "execute" s_execute ["session", "call", "numbers"]
section
variable {P : Program} {w : World} {mg : Str → Option Value} {base : Heap} {c : Cs} {tw : Tw}
theorem all_fn {f : Addr} {fd : FuncData} (T : Tx c mg) (M : Mc c mg) (D : Ds c.K mg c.S c.M c.Q c.E tw.cr tw.cs) (F : C8.Fun c.K "answers" "answers" s_answers f fd) (hne : tw.pr ≠ tw.ps) (TR : TabB base mg tw.cr tw.pr) (TS' : TabB base mg tw.cs tw.ps) : FnOk P w c.K mg base C8.CX0 11 f fd ["calls"] (sp_answers c tw) := by
  have c_are_settings : C8.Cal P w c.K mg base 1 "are_settings" (sp_are_settings c) [] := cal_are_settings T D.are_settings 
  have c_is_rating : C8.Cal P w c.K mg base 1 "is_rating" (sp_is_rating c) [] := cal_is_rating T D.is_rating 
  have c_ordered_parameters : C8.Met P w c.K mg base 1 c.S "ordered_parameters" (sp_ordered_parameters c) [] := cal_ordered_parameters T D.ordered_parameters 
  have c_Settings_init : C8.Mak P w c.K mg base 2 "Settings" c.S (sp_Settings_init c) [] := cal_Settings_init T D.Settings_init c_ordered_parameters
  have c_has_user : C8.Met P w c.K mg base 1 c.S "has_user" (sp_has_user c) [] := cal_has_user T D.has_user 
  have c_has_item : C8.Met P w c.K mg base 1 c.S "has_item" (sp_has_item c) [] := cal_has_item T D.has_item 
  have c_has_pair : C8.Met P w c.K mg base 2 c.S "has_pair" (sp_has_pair c) [] := cal_has_pair T D.has_pair c_has_item c_has_user
  have c_has_row : C8.Met P w c.K mg base 1 c.S "has_row" (sp_has_row c) [] := cal_has_row T D.has_row 
  have c_has_parameter : C8.Met P w c.K mg base 2 c.S "has_parameter" (sp_has_parameter c) [] := cal_has_parameter T D.has_parameter c_has_row
  have c_lowest : C8.Met P w c.K mg base 1 c.S "lowest" (sp_lowest c) [] := cal_lowest T D.lowest 
  have c_highest : C8.Met P w c.K mg base 1 c.S "highest" (sp_highest c) [] := cal_highest T D.highest 
  have c_is_in_range : C8.Met P w c.K mg base 2 c.S "is_in_range" (sp_is_in_range c) [] := cal_is_in_range T D.is_in_range c_highest c_lowest
  have c_penalty : C8.Met P w c.K mg base 1 c.S "penalty" (sp_penalty c) [] := cal_penalty T D.penalty 
  have c_hashed : C8.Cal P w c.K mg base 1 "hashed" (sp_hashed c) [] := cal_hashed T D.hashed 
  have c_first_value : C8.Cal P w c.K mg base 2 "first_value" (sp_first_value c) [] := cal_first_value T D.first_value c_hashed
  have c_first_rows : C8.Cal P w c.K mg base 3 "first_rows" (sp_first_rows c) [] := cal_first_rows T D.first_rows c_first_value
  have c_first_base : C8.Cal P w c.K mg base 1 "first_base" (sp_first_base c) [] := cal_first_base T D.first_base 
  have c_Model_init : C8.Mak P w c.K mg base 4 "Model" c.M (sp_Model_init c) [] := cal_Model_init T D.Model_init c_first_rows
  have c_ratings_of : C8.Met P w c.K mg base 1 c.M "ratings_of" (sp_ratings_of c) [] := cal_ratings_of T D.ratings_of 
  have c_all_ratings : C8.Met P w c.K mg base 2 c.M "all_ratings" (sp_all_ratings c) [] := cal_all_ratings T D.all_ratings c_ratings_of
  have c_begin_again : C8.Met P w c.K mg base 4 c.M "begin_again" (sp_begin_again c) [] := cal_begin_again T D.begin_again c_all_ratings c_first_base c_first_rows
  have c_drop_ratings : C8.Met P w c.K mg base 2 c.M "drop_ratings" (sp_drop_ratings c) [] := cal_drop_ratings T D.drop_ratings c_ratings_of
  have c_twin : C8.Met P w c.K mg base 6 c.M "twin" (sp_twin c) [] := cal_twin T D.twin c_Model_init
  have c_prediction_parts : C8.Met P w c.K mg base 1 c.M "prediction_parts" (sp_prediction_parts c) [] := cal_prediction_parts T D.prediction_parts 
  have c_prediction : C8.Met P w c.K mg base 2 c.M "prediction" (sp_prediction c) [] := cal_prediction T D.prediction c_prediction_parts
  have c_residuals_of : C8.Met P w c.K mg base 3 c.M "residuals_of" (sp_residuals_of c) [] := cal_residuals_of T D.residuals_of c_prediction c_ratings_of
  have c_recommended : C8.Cal P w c.K mg base 6 "recommended" (sp_recommended c tw) [] := cal_recommended T D.recommended TR hne c_prediction
  have c_factor_product : C8.Cal P w c.K mg base 1 "factor_product" (sp_factor_product c) [] := cal_factor_product T D.factor_product 
  have c_similar_rows : C8.Cal P w c.K mg base 6 "similar_rows" (sp_similar_rows c tw) [] := cal_similar_rows T D.similar_rows TS' hne c_factor_product
  have c_error_part : C8.Cal P w c.K mg base 4 "error_part" (sp_error_part c) [] := cal_error_part T D.error_part c_residuals_of
  have c_penalty_part : C8.Cal P w c.K mg base 2 "penalty_part" (sp_penalty_part c) [] := cal_penalty_part T D.penalty_part c_penalty
  have c_whole_objective : C8.Cal P w c.K mg base 5 "whole_objective" (sp_whole_objective c) [] := cal_whole_objective T D.whole_objective c_error_part c_penalty_part
  have c_lowest_terms : C8.Cal P w c.K mg base 1 "lowest_terms" (sp_lowest_terms c) [] := cal_lowest_terms T D.lowest_terms 
  have c_mean_error : C8.Cal P w c.K mg base 5 "mean_error" (sp_mean_error c) [] := cal_mean_error T D.mean_error c_all_ratings c_error_part c_lowest_terms
  have c_Quadratic_init : C8.Mak P w c.K mg base 1 "Quadratic" c.Q (sp_Quadratic_init c) [] := cal_Quadratic_init T D.Quadratic_init 
  have c_height : C8.Met P w c.K mg base 1 c.Q "height" (sp_height c) [] := cal_height T D.height 
  have c_nearest : C8.Met P w c.K mg base 1 c.Q "nearest" (sp_nearest c) [] := cal_nearest T D.nearest 
  have c_quadratic_of : C8.Cal P w c.K mg base 4 "quadratic_of" (sp_quadratic_of c) [] := cal_quadratic_of T D.quadratic_of c_Quadratic_init c_penalty c_residuals_of
  have c_stepped_value : C8.Cal P w c.K mg base 5 "stepped_value" (sp_stepped_value c) [] := cal_stepped_value T D.stepped_value c_height c_highest c_lowest c_nearest c_quadratic_of
  have c_step : C8.Cal P w c.K mg base 6 "step" (sp_step c) [] := cal_step T D.step c_stepped_value
  have c_sweep : C8.Cal P w c.K mg base 7 "sweep" (sp_sweep c) [] := cal_sweep T D.sweep c_step
  have c_train : C8.Cal P w c.K mg base 8 "train" (sp_train c) [] := cal_train T D.train c_sweep
  have c_coming_objectives : C8.Cal P w c.K mg base 8 "coming_objectives" (sp_coming_objectives c) [] := cal_coming_objectives T D.coming_objectives c_sweep c_twin c_whole_objective
  have c_first_improvable : C8.Cal P w c.K mg base 6 "first_improvable" (sp_first_improvable c) [] := cal_first_improvable T D.first_improvable c_stepped_value
  have c_are_new_ratings : C8.Cal P w c.K mg base 2 "are_new_ratings" (sp_are_new_ratings c) [] := cal_are_new_ratings T D.are_new_ratings c_has_item c_is_rating
  have c_with_newcomer : C8.Cal P w c.K mg base 7 "with_newcomer" (sp_with_newcomer c) [] := cal_with_newcomer T D.with_newcomer c_drop_ratings c_twin
  have c_make_rounds : C8.Cal P w c.K mg base 7 "make_rounds" (sp_make_rounds c) [] := cal_make_rounds T D.make_rounds c_step
  have c_Session_init : C8.Mak P w c.K mg base 1 "Session" c.E (sp_Session_init c) [] := cal_Session_init T D.Session_init 
  have c_answer_create : C8.Cal P w c.K mg base 6 "answer_create" (sp_answer_create c tw) [] := cal_answer_create T D.answer_create c_Model_init c_Settings_init c_are_settings
  have c_answer_set_rating : C8.Cal P w c.K mg base 3 "answer_set_rating" (sp_answer_set_rating c tw) [] := cal_answer_set_rating T D.answer_set_rating c_has_pair c_is_rating
  have c_answer_clear_rating : C8.Cal P w c.K mg base 3 "answer_clear_rating" (sp_answer_clear_rating c tw) [] := cal_answer_clear_rating T D.answer_clear_rating c_has_pair
  have c_answer_delete_user : C8.Cal P w c.K mg base 3 "answer_delete_user" (sp_answer_delete_user c tw) [] := cal_answer_delete_user T D.answer_delete_user c_drop_ratings c_has_user
  have c_answer_reset : C8.Cal P w c.K mg base 5 "answer_reset" (sp_answer_reset c tw) [] := cal_answer_reset T D.answer_reset c_begin_again
  have c_answer_step : C8.Cal P w c.K mg base 7 "answer_step" (sp_answer_step c tw) [] := cal_answer_step T D.answer_step c_has_parameter c_step
  have c_answer_sweep : C8.Cal P w c.K mg base 8 "answer_sweep" (sp_answer_sweep c tw) [] := cal_answer_sweep T D.answer_sweep c_sweep c_whole_objective
  have c_answer_train : C8.Cal P w c.K mg base 9 "answer_train" (sp_answer_train c tw) [] := cal_answer_train T D.answer_train c_train c_whole_objective
  have c_answer_objective : C8.Cal P w c.K mg base 5 "answer_objective" (sp_answer_objective c tw) [] := cal_answer_objective T D.answer_objective c_error_part c_penalty_part
  have c_answer_curve : C8.Cal P w c.K mg base 9 "answer_curve" (sp_answer_curve c tw) [] := cal_answer_curve T D.answer_curve c_coming_objectives
  have c_answer_certificate : C8.Cal P w c.K mg base 7 "answer_certificate" (sp_answer_certificate c tw) [] := cal_answer_certificate T D.answer_certificate c_first_improvable
  have c_answer_quadratic : C8.Cal P w c.K mg base 5 "answer_quadratic" (sp_answer_quadratic c tw) [] := cal_answer_quadratic T D.answer_quadratic c_has_parameter c_quadratic_of
  have c_answer_parameter : C8.Cal P w c.K mg base 3 "answer_parameter" (sp_answer_parameter c tw) [] := cal_answer_parameter T D.answer_parameter c_has_parameter
  have c_answer_set_parameter : C8.Cal P w c.K mg base 3 "answer_set_parameter" (sp_answer_set_parameter c tw) [] := cal_answer_set_parameter T D.answer_set_parameter c_has_parameter c_is_in_range
  have c_answer_predict : C8.Cal P w c.K mg base 3 "answer_predict" (sp_answer_predict c tw) [] := cal_answer_predict T D.answer_predict c_has_pair c_prediction
  have c_answer_explain : C8.Cal P w c.K mg base 3 "answer_explain" (sp_answer_explain c tw) [] := cal_answer_explain T D.answer_explain c_has_pair c_prediction_parts
  have c_listed : C8.Cal P w c.K mg base 1 "listed" (sp_listed c) [] := cal_listed T D.listed 
  have c_answer_residuals : C8.Cal P w c.K mg base 4 "answer_residuals" (sp_answer_residuals c tw) [] := cal_answer_residuals T D.answer_residuals c_has_user c_listed c_residuals_of
  have c_answer_mean_error : C8.Cal P w c.K mg base 6 "answer_mean_error" (sp_answer_mean_error c tw) [] := cal_answer_mean_error T D.answer_mean_error c_all_ratings c_mean_error
  have c_answer_recommend : C8.Cal P w c.K mg base 7 "answer_recommend" (sp_answer_recommend c tw) [] := cal_answer_recommend T D.answer_recommend c_has_user c_listed c_recommended
  have c_answer_similar : C8.Cal P w c.K mg base 7 "answer_similar" (sp_answer_similar c tw) [] := cal_answer_similar T D.answer_similar c_has_row c_similar_rows
  have c_answer_fold_in : C8.Cal P w c.K mg base 8 "answer_fold_in" (sp_answer_fold_in c tw) [] := cal_answer_fold_in T D.answer_fold_in c_are_new_ratings c_make_rounds c_with_newcomer
  have c_answer_recommend_new : C8.Cal P w c.K mg base 8 "answer_recommend_new" (sp_answer_recommend_new c tw) [] := cal_answer_recommend_new T D.answer_recommend_new c_are_new_ratings c_listed c_make_rounds c_recommended c_with_newcomer
  have c_answer_without : C8.Cal P w c.K mg base 9 "answer_without" (sp_answer_without c tw) [] := cal_answer_without T D.answer_without c_begin_again c_drop_ratings c_has_user c_train c_whole_objective
  have c_answer_status : C8.Cal P w c.K mg base 3 "answer_status" (sp_answer_status c tw) [] := cal_answer_status T D.answer_status c_all_ratings
  have hC : ∀ k, 1 ≤ k → k ≤ 23 → C8.Cal P w c.K mg base 9 (nmK k) (spK c tw k) [] := fun k h1 h2 => by
    match k, h1, h2 with
    | 1, _, _ => exact cal_up c_answer_set_rating (by decide) (fun _ _ _ _ h => h)
    | 2, _, _ => exact cal_up c_answer_clear_rating (by decide) (fun _ _ _ _ h => h)
    | 3, _, _ => exact cal_up c_answer_delete_user (by decide) (fun _ _ _ _ h => h)
    | 4, _, _ => exact cal_up c_answer_reset (by decide) (fun _ _ _ _ h => h)
    | 5, _, _ => exact cal_up c_answer_step (by decide) (fun _ _ _ _ h => h)
    | 6, _, _ => exact cal_up c_answer_sweep (by decide) (fun _ _ _ _ h => h)
    | 7, _, _ => exact cal_up c_answer_train (by decide) (fun _ _ _ _ h => h)
    | 8, _, _ => exact cal_up c_answer_objective (by decide) (fun _ _ _ _ h => h)
    | 9, _, _ => exact cal_up c_answer_curve (by decide) (fun _ _ _ _ h => h)
    | 10, _, _ => exact cal_up c_answer_certificate (by decide) (fun _ _ _ _ h => h)
    | 11, _, _ => exact cal_up c_answer_quadratic (by decide) (fun _ _ _ _ h => h)
    | 12, _, _ => exact cal_up c_answer_parameter (by decide) (fun _ _ _ _ h => h)
    | 13, _, _ => exact cal_up c_answer_set_parameter (by decide) (fun _ _ _ _ h => h)
    | 14, _, _ => exact cal_up c_answer_predict (by decide) (fun _ _ _ _ h => h)
    | 15, _, _ => exact cal_up c_answer_explain (by decide) (fun _ _ _ _ h => h)
    | 16, _, _ => exact cal_up c_answer_residuals (by decide) (fun _ _ _ _ h => h)
    | 17, _, _ => exact cal_up c_answer_mean_error (by decide) (fun _ _ _ _ h => h)
    | 18, _, _ => exact cal_up c_answer_recommend (by decide) (fun _ _ _ _ h => h)
    | 19, _, _ => exact cal_up c_answer_similar (by decide) (fun _ _ _ _ h => h)
    | 20, _, _ => exact cal_up c_answer_fold_in (by decide) (fun _ _ _ _ h => h)
    | 21, _, _ => exact cal_up c_answer_recommend_new (by decide) (fun _ _ _ _ h => h)
    | 22, _, _ => exact cal_up c_answer_without (by decide) (fun _ _ _ _ h => h)
    | 23, _, _ => exact cal_up c_answer_status (by decide) (fun _ _ _ _ h => h)
    | k + 24, _, h2 => exact absurd h2 (by omega)
  exact fn_answers T F c_Session_init (cal_execute T M D.execute c_answer_create hC)
end
section
variable {mg : Str → Option Value} {h : Heap} {K : PySem.W.Frag}
/-- every argument given, none by default -/
def Bnd (x qual : Str) (st : Stmt) (ps : List Str) : Prop := ∀ (kV doc pm : Value) (an : Option Addr) (cdv ct : Value) (us : List Value), us.length = ps.length → bindArgs (PySem.W.fnOf x qual (C8.fnArgs st) (C8.fnBody st) (C8.fnScope st) .none kV doc pm an cdv ct) ⟨us, []⟩ = pure (ps.zip us)
variable {f C : Addr} {x qual : Str} {st : Stmt} {ps : List Str} {oc kV dc pm cd ct : Value} {od an : Option Addr} {sl : Array (Option Value)}
theorem def_mk (B : Bnd x x st ps) (X : K.In h) (G : h.Ns mainGlobals mg) (a : PySem.W.nsIn K mainGlobals x = some (some (.ref f))) (l : K.lookup f = some ⟨oc, od, .func (PySem.W.fnOf x x (C8.fnArgs st) (C8.fnBody st) (C8.fnScope st) .none kV dc pm an cd ct), sl⟩) (cc : PySem.W.codeIn K cd x = true) (k : PySem.W.keepIn K (.ref f) = true) : DefF K mg x st ps := by
  have F : C8.Fun K x x st f _ := ⟨oc, od, .none, kV, dc, pm, an, cd, ct, sl, rfl, l, cc⟩
  exact ⟨f, _, ⟨F, PySem.W.mg_of X G a, k⟩, F.binds rfl B⟩
theorem dft_mk {cda : Addr} (B : Bnd x x st ps) (X : K.In h) (G : h.Ns mainGlobals mg) (a : PySem.W.nsIn K mainGlobals x = some (some (.ref f))) (l : K.lookup f = some ⟨oc, od, .func (PySem.W.fnOf x x (C8.fnArgs st) (C8.fnBody st) (C8.fnScope st) .none kV dc pm an (.ref cda) ct), sl⟩) (cc : PySem.W.codeIn K (.ref cda) x = true) (k : PySem.W.keepIn K (.ref f) = true) : DefT K mg x st ps cda := by
  have F : C8.Fun K x x st f _ := ⟨oc, od, .none, kV, dc, pm, an, .ref cda, ct, sl, rfl, l, cc⟩
  exact ⟨f, _, ⟨F, PySem.W.mg_of X G a, k⟩, F.binds rfl B, rfl⟩
theorem met_mk (B : Bnd x qual st ps) (X : K.In h) (a : PySem.W.findIn K (.ref C) x = some (some (.ref f))) (i : PySem.W.isFn K (.ref f) = true) (l : K.lookup f = some ⟨oc, od, .func (PySem.W.fnOf x qual (C8.fnArgs st) (C8.fnBody st) (C8.fnScope st) .none kV dc pm an cd ct), sl⟩) (cc : PySem.W.codeIn K cd qual = true) (k : PySem.W.keepIn K (.ref f) = true) : MetF K C x qual st ps := by
  have F : C8.Fun K x qual st f _ := ⟨oc, od, .none, kV, dc, pm, an, cd, ct, sl, rfl, l, cc⟩
  exact ⟨f, _, ⟨a, i, k⟩, F, F.binds rfl B⟩
theorem mak_mk (B : Bnd "__init__" qual st ps) (X : K.In h) (G : h.Ns mainGlobals mg) (a : PySem.W.nsIn K mainGlobals x = some (some (.ref C))) (m : PySem.W.makesIn K C = true) (fi : PySem.W.findIn K (.ref C) "__init__" = some (some (.ref f))) (i : PySem.W.isFn K (.ref f) = true) (kc : PySem.W.keepIn K (.ref C) = true) (l : K.lookup f = some ⟨oc, od, .func (PySem.W.fnOf "__init__" qual (C8.fnArgs st) (C8.fnBody st) (C8.fnScope st) .none kV dc pm an cd ct), sl⟩) (cc : PySem.W.codeIn K cd qual = true) : MakF K mg x C qual st ps := by
  have F : C8.Fun K "__init__" qual st f _ := ⟨oc, od, .none, kV, dc, pm, an, cd, ct, sl, rfl, l, cc⟩
  exact ⟨f, _, ⟨m, fi, i, kc⟩, PySem.W.mg_of X G a, F, F.binds rfl B⟩
theorem cls_mk (X : K.In h) (pg : PySem.W.plainGet K C Str.empty = true) (hd : PySem.W.hasDictIn K C = true) (po : PySem.W.plainOver K C = true) (sa : PySem.W.findIn K (.ref C) "__setattr__" = some (some (.builtin "object.__setattr__"))) : Cls K C := ⟨pg, hd, po, sa⟩
theorem gi_mk {i : Int} {t : Tok} (X : K.In h) (G : h.Ns mainGlobals mg) (a : PySem.W.nsIn K mainGlobals x = some (some (.int i t))) : ∃ u, mg x = some u ∧ RelV (.int i) u := ⟨_, PySem.W.mg_of X G a, t, rfl⟩
theorem gr_mk (X : K.In h) (G : h.Ns mainGlobals mg) (a : PySem.W.nsIn K mainGlobals x = some (some (.ref f))) : ∃ u, mg x = some u ∧ RelV (.ref f) u := ⟨_, PySem.W.mg_of X G a, rfl⟩
theorem gn_mk (X : K.In h) (G : h.Ns mainGlobals mg) (a : PySem.W.nsIn K mainGlobals x = some none) : mg x = none := PySem.W.mg_none_of X G a
/-- two defs of one address have one name -/
theorem DefF.at_ (D : DefF K mg x st ps) (e : mg x = some (.ref f)) : ∃ oc od fd sl, K.lookup f = some ⟨oc, od, .func fd, sl⟩ ∧ fd.name = x := by
  obtain ⟨f', fd, D, _⟩ := D.ex
  rw [D.mgf] at e
  cases e
  obtain ⟨oc, od, dV, kV, doc, pm, an, cdv, ct, osl, rfl, lk, _⟩ := D.fn.ex
  exact ⟨oc, od, _, osl, lk, rfl⟩
end
section
variable {c : Cs} {h : Heap} {mg : Str → Option Value} {tw : Tw}
theorem Ds.nm (D : Ds c.K mg c.S c.M c.Q c.E tw.cr tw.cs) {f : Addr} : ∀ k, 1 ≤ k → k ≤ 23 → mg (nmK k) = some (.ref f) → ∃ oc od fd sl, c.K.lookup f = some ⟨oc, od, .func fd, sl⟩ ∧ fd.name = nmK k := fun k h1 h2 e => by
  match k, h1, h2 with
  | 1, _, _ => exact D.answer_set_rating.at_ e
  | 2, _, _ => exact D.answer_clear_rating.at_ e
  | 3, _, _ => exact D.answer_delete_user.at_ e
  | 4, _, _ => exact D.answer_reset.at_ e
  | 5, _, _ => exact D.answer_step.at_ e
  | 6, _, _ => exact D.answer_sweep.at_ e
  | 7, _, _ => exact D.answer_train.at_ e
  | 8, _, _ => exact D.answer_objective.at_ e
  | 9, _, _ => exact D.answer_curve.at_ e
  | 10, _, _ => exact D.answer_certificate.at_ e
  | 11, _, _ => exact D.answer_quadratic.at_ e
  | 12, _, _ => exact D.answer_parameter.at_ e
  | 13, _, _ => exact D.answer_set_parameter.at_ e
  | 14, _, _ => exact D.answer_predict.at_ e
  | 15, _, _ => exact D.answer_explain.at_ e
  | 16, _, _ => exact D.answer_residuals.at_ e
  | 17, _, _ => exact D.answer_mean_error.at_ e
  | 18, _, _ => exact D.answer_recommend.at_ e
  | 19, _, _ => exact D.answer_similar.at_ e
  | 20, _, _ => exact D.answer_fold_in.at_ e
  | 21, _, _ => exact D.answer_recommend_new.at_ e
  | 22, _, _ => exact D.answer_without.at_ e
  | 23, _, _ => exact D.answer_status.at_ e
  | k + 24, _, h2 => exact absurd h2 (by omega)
def nmAt (i : Nat) : Str := nmK (i + 1)
theorem mc_mk (D : Ds c.K mg c.S c.M c.Q c.E tw.cr tw.cs) (hat : ∀ k : Nat, 1 ≤ k → k ≤ 23 → ∃ f, mg (nmK k) = some (.ref f) ∧ KDI c.K c.mc (k : Int) (.ref f)) : Mc c mg :=
  ⟨hat, fun j k f j1 j2 k1 k2 hj hk => by
    obtain ⟨_, _, _, _, e1, n1⟩ := D.nm j j1 j2 hj
    obtain ⟨_, _, _, _, e2, n2⟩ := D.nm k k1 k2 hk
    rw [e1] at e2
    cases e2
    exact nmK_inj j (by omega) k (by omega) j1 k1 (n1.symm.trans n2)⟩
theorem kdi_mk {K : PySem.W.Frag} {f a : Addr} {x : Str} {es : Array DictEntry} {n : Nat} {k : Int} (l : K.lookup a = some ⟨.type "dict", none, .dict es n, #[]⟩) (hk : keysI es.toList = true) (X : K.In h) (G : h.Ns mainGlobals mg) (m : PySem.W.nsIn K mainGlobals x = some (some (.ref f))) (e : (es.toList.find? fun e => Value.isInt k e.key).map (·.val) = some (.ref f)) : ∃ f, mg x = some (.ref f) ∧ KDI K a k (.ref f) := ⟨f, PySem.W.mg_of X G m, es, n, _, l, hk, (by
  cases es
  unfold PySem.findBy
  rw [List.find?_toArray]
  exact e), rfl⟩
theorem sqt_mk {K : PySem.W.Frag} {a : Addr} {its : Array Value} {n : Nat} {od : Option Addr} {sl : Array (Option Value)} {vs : List V} (l : K.lookup a = some ⟨.type "tuple", od, .seq its n, sl⟩) (hs : its.size ≤ 1000) (hv : Vals vs its.toList) : ∀ H, SqT K H a vs := fun H => .inr ⟨_, its, n, l, rfl, rfl, Nat.le_trans hs (by decide), hv⟩
theorem rg_mk {K : PySem.W.Frag} {S M Q E cr mc t0 t1 t2 t3 t4 t5 t6 : Addr} (h0 : ∀ H, SqT K H cr [.ref t0, .ref t1, .ref t2, .ref t3, .ref t4, .ref t5, .ref t6]) (h1 : ∀ H, SqT K H t0 [.int 1, .int 8]) (h2 : ∀ H, SqT K H t1 [.int 1, .int 8]) (h3 : ∀ H, SqT K H t2 [.int 0, .int 3]) (h4 : ∀ H, SqT K H t3 [.int 1, .int 4096]) (h5 : ∀ H, SqT K H t4 [.int 0, .int 1]) (h6 : ∀ H, SqT K H t5 [.int 0, .int 100000000]) (h7 : ∀ H, SqT K H t6 [.int 0, .int 1000]) : Rg ⟨K, S, M, Q, E, cr, mc⟩ :=
  ⟨[t0, t1, t2, t3, t4, t5, t6], h0, rfl, fun i t e => by
    match i, e with
    | 0, e => cases e; exact ⟨_, _, rfl, h1⟩
    | 1, e => cases e; exact ⟨_, _, rfl, h2⟩
    | 2, e => cases e; exact ⟨_, _, rfl, h3⟩
    | 3, e => cases e; exact ⟨_, _, rfl, h4⟩
    | 4, e => cases e; exact ⟨_, _, rfl, h5⟩
    | 5, e => cases e; exact ⟨_, _, rfl, h6⟩
    | 6, e => cases e; exact ⟨_, _, rfl, h7⟩
    | i + 7, e => cases e⟩
end
theorem bd_are_settings : Bnd "are_settings" "are_settings" s_are_settings ["numbers"] := fun _ _ _ _ _ _ us hl => match us, hl with | [_], _ => rfl
theorem bd_is_rating : Bnd "is_rating" "is_rating" s_is_rating ["value"] := fun _ _ _ _ _ _ us hl => match us, hl with | [_], _ => rfl
theorem bd_ordered_parameters : Bnd "ordered_parameters" "Settings.ordered_parameters" s_ordered_parameters ["self"] := fun _ _ _ _ _ _ us hl => match us, hl with | [_], _ => rfl
theorem bd_Settings_init : Bnd "__init__" "Settings.__init__" s_Settings_init ["self", "numbers"] := fun _ _ _ _ _ _ us hl => match us, hl with | [_, _], _ => rfl
theorem bd_has_user : Bnd "has_user" "Settings.has_user" s_has_user ["self", "user"] := fun _ _ _ _ _ _ us hl => match us, hl with | [_, _], _ => rfl
theorem bd_has_item : Bnd "has_item" "Settings.has_item" s_has_item ["self", "item"] := fun _ _ _ _ _ _ us hl => match us, hl with | [_, _], _ => rfl
theorem bd_has_pair : Bnd "has_pair" "Settings.has_pair" s_has_pair ["self", "user", "item"] := fun _ _ _ _ _ _ us hl => match us, hl with | [_, _, _], _ => rfl
theorem bd_has_row : Bnd "has_row" "Settings.has_row" s_has_row ["self", "kind", "number"] := fun _ _ _ _ _ _ us hl => match us, hl with | [_, _, _], _ => rfl
theorem bd_has_parameter : Bnd "has_parameter" "Settings.has_parameter" s_has_parameter ["self", "kind", "number", "place"] := fun _ _ _ _ _ _ us hl => match us, hl with | [_, _, _, _], _ => rfl
theorem bd_lowest : Bnd "lowest" "Settings.lowest" s_lowest ["self", "place"] := fun _ _ _ _ _ _ us hl => match us, hl with | [_, _], _ => rfl
theorem bd_highest : Bnd "highest" "Settings.highest" s_highest ["self", "place"] := fun _ _ _ _ _ _ us hl => match us, hl with | [_, _], _ => rfl
theorem bd_is_in_range : Bnd "is_in_range" "Settings.is_in_range" s_is_in_range ["self", "place", "value"] := fun _ _ _ _ _ _ us hl => match us, hl with | [_, _, _], _ => rfl
theorem bd_penalty : Bnd "penalty" "Settings.penalty" s_penalty ["self", "place"] := fun _ _ _ _ _ _ us hl => match us, hl with | [_, _], _ => rfl
theorem bd_hashed : Bnd "hashed" "hashed" s_hashed ["numbers"] := fun _ _ _ _ _ _ us hl => match us, hl with | [_], _ => rfl
theorem bd_first_value : Bnd "first_value" "first_value" s_first_value ["settings", "kind", "number", "place"] := fun _ _ _ _ _ _ us hl => match us, hl with | [_, _, _, _], _ => rfl
theorem bd_first_rows : Bnd "first_rows" "first_rows" s_first_rows ["settings"] := fun _ _ _ _ _ _ us hl => match us, hl with | [_], _ => rfl
theorem bd_first_base : Bnd "first_base" "first_base" s_first_base ["values"] := fun _ _ _ _ _ _ us hl => match us, hl with | [_], _ => rfl
theorem bd_Model_init : Bnd "__init__" "Model.__init__" s_Model_init ["self", "settings"] := fun _ _ _ _ _ _ us hl => match us, hl with | [_, _], _ => rfl
theorem bd_ratings_of : Bnd "ratings_of" "Model.ratings_of" s_ratings_of ["self", "kind", "number"] := fun _ _ _ _ _ _ us hl => match us, hl with | [_, _, _], _ => rfl
theorem bd_all_ratings : Bnd "all_ratings" "Model.all_ratings" s_all_ratings ["self"] := fun _ _ _ _ _ _ us hl => match us, hl with | [_], _ => rfl
theorem bd_begin_again : Bnd "begin_again" "Model.begin_again" s_begin_again ["self"] := fun _ _ _ _ _ _ us hl => match us, hl with | [_], _ => rfl
theorem bd_drop_ratings : Bnd "drop_ratings" "Model.drop_ratings" s_drop_ratings ["self", "user"] := fun _ _ _ _ _ _ us hl => match us, hl with | [_, _], _ => rfl
theorem bd_twin : Bnd "twin" "Model.twin" s_twin ["self"] := fun _ _ _ _ _ _ us hl => match us, hl with | [_], _ => rfl
theorem bd_prediction_parts : Bnd "prediction_parts" "Model.prediction_parts" s_prediction_parts ["self", "user", "item"] := fun _ _ _ _ _ _ us hl => match us, hl with | [_, _, _], _ => rfl
theorem bd_prediction : Bnd "prediction" "Model.prediction" s_prediction ["self", "user", "item"] := fun _ _ _ _ _ _ us hl => match us, hl with | [_, _, _], _ => rfl
theorem bd_residuals_of : Bnd "residuals_of" "Model.residuals_of" s_residuals_of ["self", "kind", "number"] := fun _ _ _ _ _ _ us hl => match us, hl with | [_, _, _], _ => rfl
theorem bd_recommended : Bnd "recommended" "recommended" s_recommended ["model", "user", "count"] := fun _ _ _ _ _ _ us hl => match us, hl with | [_, _, _], _ => rfl
theorem bd_factor_product : Bnd "factor_product" "factor_product" s_factor_product ["row", "other"] := fun _ _ _ _ _ _ us hl => match us, hl with | [_, _], _ => rfl
theorem bd_similar_rows : Bnd "similar_rows" "similar_rows" s_similar_rows ["model", "kind", "number", "count"] := fun _ _ _ _ _ _ us hl => match us, hl with | [_, _, _, _], _ => rfl
theorem bd_error_part : Bnd "error_part" "error_part" s_error_part ["model"] := fun _ _ _ _ _ _ us hl => match us, hl with | [_], _ => rfl
theorem bd_penalty_part : Bnd "penalty_part" "penalty_part" s_penalty_part ["model"] := fun _ _ _ _ _ _ us hl => match us, hl with | [_], _ => rfl
theorem bd_whole_objective : Bnd "whole_objective" "whole_objective" s_whole_objective ["model"] := fun _ _ _ _ _ _ us hl => match us, hl with | [_], _ => rfl
theorem bd_lowest_terms : Bnd "lowest_terms" "lowest_terms" s_lowest_terms ["numerator", "denominator"] := fun _ _ _ _ _ _ us hl => match us, hl with | [_, _], _ => rfl
theorem bd_mean_error : Bnd "mean_error" "mean_error" s_mean_error ["model"] := fun _ _ _ _ _ _ us hl => match us, hl with | [_], _ => rfl
theorem bd_Quadratic_init : Bnd "__init__" "Quadratic.__init__" s_Quadratic_init ["self", "curvature", "slope"] := fun _ _ _ _ _ _ us hl => match us, hl with | [_, _, _], _ => rfl
theorem bd_height : Bnd "height" "Quadratic.height" s_height ["self", "value"] := fun _ _ _ _ _ _ us hl => match us, hl with | [_, _], _ => rfl
theorem bd_nearest : Bnd "nearest" "Quadratic.nearest" s_nearest ["self"] := fun _ _ _ _ _ _ us hl => match us, hl with | [_], _ => rfl
theorem bd_quadratic_of : Bnd "quadratic_of" "quadratic_of" s_quadratic_of ["model", "kind", "number", "place"] := fun _ _ _ _ _ _ us hl => match us, hl with | [_, _, _, _], _ => rfl
theorem bd_stepped_value : Bnd "stepped_value" "stepped_value" s_stepped_value ["model", "kind", "number", "place"] := fun _ _ _ _ _ _ us hl => match us, hl with | [_, _, _, _], _ => rfl
theorem bd_step : Bnd "step" "step" s_step ["model", "kind", "number", "place"] := fun _ _ _ _ _ _ us hl => match us, hl with | [_, _, _, _], _ => rfl
theorem bd_sweep : Bnd "sweep" "sweep" s_sweep ["model"] := fun _ _ _ _ _ _ us hl => match us, hl with | [_], _ => rfl
theorem bd_train : Bnd "train" "train" s_train ["model", "most"] := fun _ _ _ _ _ _ us hl => match us, hl with | [_, _], _ => rfl
theorem bd_coming_objectives : Bnd "coming_objectives" "coming_objectives" s_coming_objectives ["model", "count"] := fun _ _ _ _ _ _ us hl => match us, hl with | [_, _], _ => rfl
theorem bd_first_improvable : Bnd "first_improvable" "first_improvable" s_first_improvable ["model"] := fun _ _ _ _ _ _ us hl => match us, hl with | [_], _ => rfl
theorem bd_are_new_ratings : Bnd "are_new_ratings" "are_new_ratings" s_are_new_ratings ["settings", "numbers"] := fun _ _ _ _ _ _ us hl => match us, hl with | [_, _], _ => rfl
theorem bd_with_newcomer : Bnd "with_newcomer" "with_newcomer" s_with_newcomer ["model", "numbers"] := fun _ _ _ _ _ _ us hl => match us, hl with | [_, _], _ => rfl
theorem bd_make_rounds : Bnd "make_rounds" "make_rounds" s_make_rounds ["guest"] := fun _ _ _ _ _ _ us hl => match us, hl with | [_], _ => rfl
theorem bd_Session_init : Bnd "__init__" "Session.__init__" s_Session_init ["self"] := fun _ _ _ _ _ _ us hl => match us, hl with | [_], _ => rfl
theorem bd_answer_create : Bnd "answer_create" "answer_create" s_answer_create ["session", "numbers"] := fun _ _ _ _ _ _ us hl => match us, hl with | [_, _], _ => rfl
theorem bd_answer_set_rating : Bnd "answer_set_rating" "answer_set_rating" s_answer_set_rating ["model", "numbers"] := fun _ _ _ _ _ _ us hl => match us, hl with | [_, _], _ => rfl
theorem bd_answer_clear_rating : Bnd "answer_clear_rating" "answer_clear_rating" s_answer_clear_rating ["model", "numbers"] := fun _ _ _ _ _ _ us hl => match us, hl with | [_, _], _ => rfl
theorem bd_answer_delete_user : Bnd "answer_delete_user" "answer_delete_user" s_answer_delete_user ["model", "numbers"] := fun _ _ _ _ _ _ us hl => match us, hl with | [_, _], _ => rfl
theorem bd_answer_reset : Bnd "answer_reset" "answer_reset" s_answer_reset ["model", "numbers"] := fun _ _ _ _ _ _ us hl => match us, hl with | [_, _], _ => rfl
theorem bd_answer_step : Bnd "answer_step" "answer_step" s_answer_step ["model", "numbers"] := fun _ _ _ _ _ _ us hl => match us, hl with | [_, _], _ => rfl
theorem bd_answer_sweep : Bnd "answer_sweep" "answer_sweep" s_answer_sweep ["model", "numbers"] := fun _ _ _ _ _ _ us hl => match us, hl with | [_, _], _ => rfl
theorem bd_answer_train : Bnd "answer_train" "answer_train" s_answer_train ["model", "numbers"] := fun _ _ _ _ _ _ us hl => match us, hl with | [_, _], _ => rfl
theorem bd_answer_objective : Bnd "answer_objective" "answer_objective" s_answer_objective ["model", "numbers"] := fun _ _ _ _ _ _ us hl => match us, hl with | [_, _], _ => rfl
theorem bd_answer_curve : Bnd "answer_curve" "answer_curve" s_answer_curve ["model", "numbers"] := fun _ _ _ _ _ _ us hl => match us, hl with | [_, _], _ => rfl
theorem bd_answer_certificate : Bnd "answer_certificate" "answer_certificate" s_answer_certificate ["model", "numbers"] := fun _ _ _ _ _ _ us hl => match us, hl with | [_, _], _ => rfl
theorem bd_answer_quadratic : Bnd "answer_quadratic" "answer_quadratic" s_answer_quadratic ["model", "numbers"] := fun _ _ _ _ _ _ us hl => match us, hl with | [_, _], _ => rfl
theorem bd_answer_parameter : Bnd "answer_parameter" "answer_parameter" s_answer_parameter ["model", "numbers"] := fun _ _ _ _ _ _ us hl => match us, hl with | [_, _], _ => rfl
theorem bd_answer_set_parameter : Bnd "answer_set_parameter" "answer_set_parameter" s_answer_set_parameter ["model", "numbers"] := fun _ _ _ _ _ _ us hl => match us, hl with | [_, _], _ => rfl
theorem bd_answer_predict : Bnd "answer_predict" "answer_predict" s_answer_predict ["model", "numbers"] := fun _ _ _ _ _ _ us hl => match us, hl with | [_, _], _ => rfl
theorem bd_answer_explain : Bnd "answer_explain" "answer_explain" s_answer_explain ["model", "numbers"] := fun _ _ _ _ _ _ us hl => match us, hl with | [_, _], _ => rfl
theorem bd_listed : Bnd "listed" "listed" s_listed ["pairs"] := fun _ _ _ _ _ _ us hl => match us, hl with | [_], _ => rfl
theorem bd_answer_residuals : Bnd "answer_residuals" "answer_residuals" s_answer_residuals ["model", "numbers"] := fun _ _ _ _ _ _ us hl => match us, hl with | [_, _], _ => rfl
theorem bd_answer_mean_error : Bnd "answer_mean_error" "answer_mean_error" s_answer_mean_error ["model", "numbers"] := fun _ _ _ _ _ _ us hl => match us, hl with | [_, _], _ => rfl
theorem bd_answer_recommend : Bnd "answer_recommend" "answer_recommend" s_answer_recommend ["model", "numbers"] := fun _ _ _ _ _ _ us hl => match us, hl with | [_, _], _ => rfl
theorem bd_answer_similar : Bnd "answer_similar" "answer_similar" s_answer_similar ["model", "numbers"] := fun _ _ _ _ _ _ us hl => match us, hl with | [_, _], _ => rfl
theorem bd_answer_fold_in : Bnd "answer_fold_in" "answer_fold_in" s_answer_fold_in ["model", "numbers"] := fun _ _ _ _ _ _ us hl => match us, hl with | [_, _], _ => rfl
theorem bd_answer_recommend_new : Bnd "answer_recommend_new" "answer_recommend_new" s_answer_recommend_new ["model", "numbers"] := fun _ _ _ _ _ _ us hl => match us, hl with | [_, _], _ => rfl
theorem bd_answer_without : Bnd "answer_without" "answer_without" s_answer_without ["model", "numbers"] := fun _ _ _ _ _ _ us hl => match us, hl with | [_, _], _ => rfl
theorem bd_answer_status : Bnd "answer_status" "answer_status" s_answer_status ["model", "numbers"] := fun _ _ _ _ _ _ us hl => match us, hl with | [_, _], _ => rfl
theorem bd_execute : Bnd "execute" "execute" s_execute ["session", "call", "numbers"] := fun _ _ _ _ _ _ us hl => match us, hl with | [_, _, _], _ => rfl
/-- what the top has written, by its parts -/
structure TxK (K : PySem.W.Frag) (mg : Str → Option Value) (S M Q E cr mc : Addr) : Prop where
  g_BIAS_LIMIT : ∃ u, mg "BIAS_LIMIT" = some u ∧ RelV (.int 655360) u
  g_BIAS_PLACE : ∃ u, mg "BIAS_PLACE" = some u ∧ RelV (.int 0) u
  g_CREATE : ∃ u, mg "CREATE" = some u ∧ RelV (.int 0) u
  g_HASH_FACTOR : ∃ u, mg "HASH_FACTOR" = some u ∧ RelV (.int 1099511628211) u
  g_HASH_MODULUS : ∃ u, mg "HASH_MODULUS" = some u ∧ RelV (.int 18446744073709551616) u
  g_HASH_START : ∃ u, mg "HASH_START" = some u ∧ RelV (.int 14695981039346656037) u
  g_HIGHEST_RATING : ∃ u, mg "HIGHEST_RATING" = some u ∧ RelV (.int 10) u
  g_ITEM : ∃ u, mg "ITEM" = some u ∧ RelV (.int 1) u
  g_LARGEST_FIRST_FACTOR : ∃ u, mg "LARGEST_FIRST_FACTOR" = some u ∧ RelV (.int 64) u
  g_LONGEST_CURVE : ∃ u, mg "LONGEST_CURVE" = some u ∧ RelV (.int 20) u
  g_LOWEST_RATING : ∃ u, mg "LOWEST_RATING" = some u ∧ RelV (.int 1) u
  g_MOST_ROUNDS : ∃ u, mg "MOST_ROUNDS" = some u ∧ RelV (.int 100) u
  g_MOST_SWEEPS : ∃ u, mg "MOST_SWEEPS" = some u ∧ RelV (.int 100) u
  g_NEWCOMER : ∃ u, mg "NEWCOMER" = some u ∧ RelV (.int 0) u
  g_NOT_THERE : ∃ u, mg "NOT_THERE" = some u ∧ RelV (.int (-2)) u
  g_NO_MODEL : ∃ u, mg "NO_MODEL" = some u ∧ RelV (.int (-11)) u
  g_NO_RATING : ∃ u, mg "NO_RATING" = some u ∧ RelV (.int 0) u
  g_NO_SUCH_RATING : ∃ u, mg "NO_SUCH_RATING" = some u ∧ RelV (.int (-33)) u
  g_OUTSIDE_LIMITS : ∃ u, mg "OUTSIDE_LIMITS" = some u ∧ RelV (.int (-22)) u
  g_UNIT : ∃ u, mg "UNIT" = some u ∧ RelV (.int 65536) u
  g_USER : ∃ u, mg "USER" = some u ∧ RelV (.int 0) u
  g_CREATE_RANGES : ∃ u, mg "CREATE_RANGES" = some u ∧ RelV (.ref cr) u
  g_MODEL_CALLS : ∃ u, mg "MODEL_CALLS" = some u ∧ RelV (.ref mc) u
  n_enumerate : mg "enumerate" = none
  n_len : mg "len" = none
  n_list : mg "list" = none
  n_max : mg "max" = none
  n_min : mg "min" = none
  n_range : mg "range" = none
  n_sorted : mg "sorted" = none
  n_sum : mg "sum" = none
  cl_S : Cls K S
  na_S_row_counts : NoAttr K S "row_counts"
  na_S_factor_count : NoAttr K S "factor_count"
  na_S_limit : NoAttr K S "limit"
  na_S_nonnegative : NoAttr K S "nonnegative"
  na_S_factor_penalty : NoAttr K S "factor_penalty"
  na_S_bias_penalty : NoAttr K S "bias_penalty"
  na_S_seed : NoAttr K S "seed"
  na_S_parameters : NoAttr K S "parameters"
  cl_M : Cls K M
  na_M_settings : NoAttr K M "settings"
  na_M_ratings : NoAttr K M "ratings"
  na_M_base : NoAttr K M "base"
  na_M_rows : NoAttr K M "rows"
  cl_Q : Cls K Q
  na_Q_curvature : NoAttr K Q "curvature"
  na_Q_slope : NoAttr K Q "slope"
  cl_E : Cls K E
  na_E_model : NoAttr K E "model"
theorem TxK.to {K : PySem.W.Frag} {mg : Str → Option Value} {S M Q E cr mc : Addr} (t : TxK K mg S M Q E cr mc) : Tx ⟨K, S, M, Q, E, cr, mc⟩ mg := ⟨t.g_BIAS_LIMIT, t.g_BIAS_PLACE, t.g_CREATE, t.g_HASH_FACTOR, t.g_HASH_MODULUS, t.g_HASH_START, t.g_HIGHEST_RATING, t.g_ITEM, t.g_LARGEST_FIRST_FACTOR, t.g_LONGEST_CURVE, t.g_LOWEST_RATING, t.g_MOST_ROUNDS, t.g_MOST_SWEEPS, t.g_NEWCOMER, t.g_NOT_THERE, t.g_NO_MODEL, t.g_NO_RATING, t.g_NO_SUCH_RATING, t.g_OUTSIDE_LIMITS, t.g_UNIT, t.g_USER, t.g_CREATE_RANGES, t.g_MODEL_CALLS, t.n_enumerate, t.n_len, t.n_list, t.n_max, t.n_min, t.n_range, t.n_sorted, t.n_sum, t.cl_S, t.na_S_row_counts, t.na_S_factor_count, t.na_S_limit, t.na_S_nonnegative, t.na_S_factor_penalty, t.na_S_bias_penalty, t.na_S_seed, t.na_S_parameters, t.cl_M, t.na_M_settings, t.na_M_ratings, t.na_M_base, t.na_M_rows, t.cl_Q, t.na_Q_curvature, t.na_Q_slope, t.cl_E, t.na_E_model⟩
structure HatK (K : PySem.W.Frag) (mg : Str → Option Value) (mc : Addr) : Prop where
  a1 : ∃ f, mg "answer_set_rating" = some (.ref f) ∧ KDI K mc 1 (.ref f)
  a2 : ∃ f, mg "answer_clear_rating" = some (.ref f) ∧ KDI K mc 2 (.ref f)
  a3 : ∃ f, mg "answer_delete_user" = some (.ref f) ∧ KDI K mc 3 (.ref f)
  a4 : ∃ f, mg "answer_reset" = some (.ref f) ∧ KDI K mc 4 (.ref f)
  a5 : ∃ f, mg "answer_step" = some (.ref f) ∧ KDI K mc 5 (.ref f)
  a6 : ∃ f, mg "answer_sweep" = some (.ref f) ∧ KDI K mc 6 (.ref f)
  a7 : ∃ f, mg "answer_train" = some (.ref f) ∧ KDI K mc 7 (.ref f)
  a8 : ∃ f, mg "answer_objective" = some (.ref f) ∧ KDI K mc 8 (.ref f)
  a9 : ∃ f, mg "answer_curve" = some (.ref f) ∧ KDI K mc 9 (.ref f)
  a10 : ∃ f, mg "answer_certificate" = some (.ref f) ∧ KDI K mc 10 (.ref f)
  a11 : ∃ f, mg "answer_quadratic" = some (.ref f) ∧ KDI K mc 11 (.ref f)
  a12 : ∃ f, mg "answer_parameter" = some (.ref f) ∧ KDI K mc 12 (.ref f)
  a13 : ∃ f, mg "answer_set_parameter" = some (.ref f) ∧ KDI K mc 13 (.ref f)
  a14 : ∃ f, mg "answer_predict" = some (.ref f) ∧ KDI K mc 14 (.ref f)
  a15 : ∃ f, mg "answer_explain" = some (.ref f) ∧ KDI K mc 15 (.ref f)
  a16 : ∃ f, mg "answer_residuals" = some (.ref f) ∧ KDI K mc 16 (.ref f)
  a17 : ∃ f, mg "answer_mean_error" = some (.ref f) ∧ KDI K mc 17 (.ref f)
  a18 : ∃ f, mg "answer_recommend" = some (.ref f) ∧ KDI K mc 18 (.ref f)
  a19 : ∃ f, mg "answer_similar" = some (.ref f) ∧ KDI K mc 19 (.ref f)
  a20 : ∃ f, mg "answer_fold_in" = some (.ref f) ∧ KDI K mc 20 (.ref f)
  a21 : ∃ f, mg "answer_recommend_new" = some (.ref f) ∧ KDI K mc 21 (.ref f)
  a22 : ∃ f, mg "answer_without" = some (.ref f) ∧ KDI K mc 22 (.ref f)
  a23 : ∃ f, mg "answer_status" = some (.ref f) ∧ KDI K mc 23 (.ref f)
theorem HatK.to {K : PySem.W.Frag} {mg : Str → Option Value} {mc : Addr} (t : HatK K mg mc) : ∀ k : Nat, 1 ≤ k → k ≤ 23 → ∃ f, mg (nmK k) = some (.ref f) ∧ KDI K mc (k : Int) (.ref f) := fun k h1 h2 => by
  match k, h1, h2 with
  | 1, _, _ => exact t.a1
  | 2, _, _ => exact t.a2
  | 3, _, _ => exact t.a3
  | 4, _, _ => exact t.a4
  | 5, _, _ => exact t.a5
  | 6, _, _ => exact t.a6
  | 7, _, _ => exact t.a7
  | 8, _, _ => exact t.a8
  | 9, _, _ => exact t.a9
  | 10, _, _ => exact t.a10
  | 11, _, _ => exact t.a11
  | 12, _, _ => exact t.a12
  | 13, _, _ => exact t.a13
  | 14, _, _ => exact t.a14
  | 15, _, _ => exact t.a15
  | 16, _, _ => exact t.a16
  | 17, _, _ => exact t.a17
  | 18, _, _ => exact t.a18
  | 19, _, _ => exact t.a19
  | 20, _, _ => exact t.a20
  | 21, _, _ => exact t.a21
  | 22, _, _ => exact t.a22
  | 23, _, _ => exact t.a23
  | k + 24, _, h2 => exact absurd h2 (by omega)
theorem tt_mk {l : List DefRec} {K : PySem.W.Frag} {h : Heap} (TT : ∀ (x : Str) (dr : DefRec) (c P : Addr), l.find? (fun e => e.name == x) = some dr → PySem.W.tabIn K x = some (c, P) → PySem.W.CodeHd h c P ∧ h.get? P = some { cls := .none, data := .fields #[] }) {x : Str} {c P : Addr} (hs : (l.find? (fun e => e.name == x)).isSome = true) (ht : PySem.W.tabIn K x = some (c, P)) : PySem.W.CodeHd h c P ∧ h.get? P = some { cls := .none, data := .fields #[] } := by
  cases e : l.find? (fun e => e.name == x) with
  | none =>
    rw [e] at hs
    cases hs
  | some dr => exact TT x dr c P e ht
theorem fin_mk {w : World} {K : PySem.W.Frag} {h : Heap} {mg : Str → Option Value} {fa f S M Q E cr mc c1 P1 c2 P2 : Addr} {oc kV dc pm cd ct : Value} {od an : Option Addr} {sl : Array (Option Value)} {l : List DefRec} (X : K.In h) (G : h.Ns mainGlobals mg) (hmg : mg "answers" = some (.ref fa))
    (TT : ∀ (x : Str) (dr : DefRec) (c P : Addr), l.find? (fun e => e.name == x) = some dr → PySem.W.tabIn K x = some (c, P) → PySem.W.CodeHd h c P ∧ h.get? P = some { cls := .none, data := .fields #[] })
    (aS : PySem.W.nsIn K mainGlobals "Settings" = some (some (.ref S))) (aM : PySem.W.nsIn K mainGlobals "Model" = some (some (.ref M))) (aQ : PySem.W.nsIn K mainGlobals "Quadratic" = some (some (.ref Q))) (aE : PySem.W.nsIn K mainGlobals "Session" = some (some (.ref E))) (ar : PySem.W.nsIn K mainGlobals "CREATE_RANGES" = some (some (.ref cr))) (am : PySem.W.nsIn K mainGlobals "MODEL_CALLS" = some (some (.ref mc)))
    (ta : PySem.W.tabIn K "recommended" = some (c1, P1)) (tb : PySem.W.tabIn K "similar_rows" = some (c2, P2)) (sa : (l.find? (fun e => e.name == ("recommended" : Str))).isSome = true) (sb : (l.find? (fun e => e.name == ("similar_rows" : Str))).isSome = true) (na : K.lookup P1 = none) (nb : K.lookup P2 = none) (hne : P1 ≠ P2)
    (af : PySem.W.nsIn K mainGlobals "answers" = some (some (.ref f))) (lf : K.lookup f = some ⟨oc, od, .func (PySem.W.fnOf "answers" "answers" (C8.fnArgs s_answers) (C8.fnBody s_answers) (C8.fnScope s_answers) .none kV dc pm an cd ct), sl⟩) (cf : PySem.W.codeIn K cd "answers" = true)
    (T : TxK K mg S M Q E cr mc) (D : Ds K mg S M Q E c1 c2) (A : HatK K mg mc) (R : Rg ⟨K, S, M, Q, E, cr, mc⟩) :
    ∃ (fd : FuncData) (cs : List (Addr × Addr)) (sp : Sp), (∀ p ∈ cs, h.get? p.2 = some { cls := .none, data := .fields #[] }) ∧ (∀ p ∈ cs, K.lookup p.2 = none) ∧ (∀ p ∈ cs, PySem.W.CodeHd h p.1 p.2) ∧ (∀ (s : Shared) (us : List Value), us.length = (["calls"] : List Str).length → BindsTo s fd ⟨us, []⟩ ((["calls"] : List Str).zip us)) ∧
      (∀ (H : Hp) (xs : List V) (a : Codec.denoteAll PySem.Challenge.rw_likings_s01_answers.args), (∀ p ∈ cs, H p.2 = some (.tbl #[])) → Codec.withinAll PySem.Challenge.rw_likings_s01_answers.args a = true → Codec.app PySem.Challenge.rw_likings_s01_answers.args PySem.Challenge.rw_likings_s01_answers.asked a = true → DwAll K H xs (Codec.encAll PySem.Challenge.rw_likings_s01_answers.args a) → sp xs H (fun v H' => Dw K H' v (PySem.Challenge.rw_likings_s01_answers.ret.enc (Codec.app PySem.Challenge.rw_likings_s01_answers.args PySem.Challenge.rw_likings_s01_answers.f a))) fun _ _ _ => False) ∧
      ∀ base : Heap, K.In base → base.Ns mainGlobals mg → (∀ p ∈ cs, TabB base mg p.1 p.2) → FnOk PySem.Challenge.rw_likings_s01_answers.prog w K mg base C8.CX0 11 fa fd ["calls"] sp := by
  have e := hmg.symm.trans (PySem.W.mg_of X G af)
  cases e
  have k1 := tt_mk TT sa ta
  have k2 := tt_mk TT sb tb
  have two : ∀ {q : Addr × Addr → Prop}, q (c1, P1) → q (c2, P2) → ∀ p ∈ [(c1, P1), (c2, P2)], q p := fun h1 h2 p hp => by
    rcases in_cons hp with z | z
    · rw [z]; exact h1
    · rw [List.mem_singleton.mp z]; exact h2
  have TX := T.to
  have MC : Mc ⟨K, S, M, Q, E, cr, mc⟩ mg := mc_mk (tw := ⟨c1, P1, c2, P2⟩) D A.to
  refine ⟨PySem.W.fnOf "answers" "answers" (C8.fnArgs s_answers) (C8.fnBody s_answers) (C8.fnScope s_answers) .none kV dc pm an cd ct, [(c1, P1), (c2, P2)], sp_answers ⟨K, S, M, Q, E, cr, mc⟩ ⟨c1, P1, c2, P2⟩, two k1.2 k2.2, two na nb, two k1.1 k2.1, fun s us hu => match us, hu with | [_], _ => .of_eq rfl, ?_, fun base _ _ hT => ?_⟩
  rotate_left
  · exact all_fn (c := ⟨K, S, M, Q, E, cr, mc⟩) (tw := ⟨c1, P1, c2, P2⟩) TX MC D ⟨oc, od, .none, kV, dc, pm, an, cd, ct, sl, rfl, lf, cf⟩ hne (hT (c1, P1) (List.mem_cons_self ..)) (hT (c2, P2) (List.mem_cons_of_mem _ (List.mem_cons_self ..)))
  · intro H xs a hH hwi hask hx
    cases hx with
    | cons h1 h2 =>
      cases h2
      cases h1 with
      | lst hs ha =>
        have e := L2.ints_dw a.1 _ ha
        subst e
        have q : ((Codec.inLen 0 1200 a.1 && a.1.all (Codec.inInt (Int.ofNat 0) (Int.ofNat 4294967295))) && true) = true := hwi
        rw [Bool.and_eq_true, Bool.and_eq_true] at q
        have q1 := q.1
        refine ⟨_, a.1, rfl, hs, (Codec.inNat_iff.mp q1.1).2, R, fun p hp => ?_, hask, fun r H2 hr => .lst (L2.SqL.of hr) (L2.dw_ints _)⟩
        rcases in_cons hp with z | z
        · rw [z]; exact TabN.nil (hH (c1, P1) (List.mem_cons_self ..))
        · rw [List.mem_singleton.mp z]; exact TabN.nil (hH (c2, P2) (List.mem_cons_of_mem _ (List.mem_cons_self ..)))
end Lk
open PySem PySem.W PyProof.Rows
set_option maxRecDepth 100000 in
set_option maxHeartbeats 0 in
theorem PySem.Challenge.cw_likings_s01_answers_holds : PySem.Challenge.rw_likings_s01_answers.Holds := by
  w_on; k_headS; (case hw => exact ⟨[.list [.int 23, .int 0, .int 0]], by decide +kernel, by decide +kernel⟩)
  k_fillS
  refine Lk.walk_specT (r := PySem.Challenge.rw_likings_s01_answers) (k := 11) (ps := ["calls"]) (by decide +kernel) rfl ⟨rfl, by decide, by decide⟩ (fun w h Y => PySem.W.kIn_of Y) ?F
  case F =>
    intro w mg fa h Y KX G hmg TT
    refine' Lk.fin_mk KX G hmg TT ?aS ?aM ?aQ ?aE ?ar ?am ?ta ?tb ?sa ?sb ?na ?nb ?hne ?af ?lf ?cf ?T ?D ?A ?R
    (case aS => k_is); (case aM => k_is); (case aQ => k_is); (case aE => k_is); (case ar => k_is); (case am => k_is)
    (case ta => first | k_is | rfl); (case tb => first | k_is | rfl); (case sa => first | decide +kernel | rfl); (case sb => first | decide +kernel | rfl)
    (case na => first | k_is | rfl); (case nb => first | k_is | rfl); (case hne => decide); (case af => k_is); (case lf => k_is); (case cf => k_is)
    case T =>
      constructor
      (case g_BIAS_LIMIT => refine' Lk.gi_mk KX G ?a; (case a => k_is))
      (case g_BIAS_PLACE => refine' Lk.gi_mk KX G ?a; (case a => k_is))
      (case g_CREATE => refine' Lk.gi_mk KX G ?a; (case a => k_is))
      (case g_HASH_FACTOR => refine' Lk.gi_mk KX G ?a; (case a => k_is))
      (case g_HASH_MODULUS => refine' Lk.gi_mk KX G ?a; (case a => k_is))
      (case g_HASH_START => refine' Lk.gi_mk KX G ?a; (case a => k_is))
      (case g_HIGHEST_RATING => refine' Lk.gi_mk KX G ?a; (case a => k_is))
      (case g_ITEM => refine' Lk.gi_mk KX G ?a; (case a => k_is))
      (case g_LARGEST_FIRST_FACTOR => refine' Lk.gi_mk KX G ?a; (case a => k_is))
      (case g_LONGEST_CURVE => refine' Lk.gi_mk KX G ?a; (case a => k_is))
      (case g_LOWEST_RATING => refine' Lk.gi_mk KX G ?a; (case a => k_is))
      (case g_MOST_ROUNDS => refine' Lk.gi_mk KX G ?a; (case a => k_is))
      (case g_MOST_SWEEPS => refine' Lk.gi_mk KX G ?a; (case a => k_is))
      (case g_NEWCOMER => refine' Lk.gi_mk KX G ?a; (case a => k_is))
      (case g_NOT_THERE => refine' Lk.gi_mk KX G ?a; (case a => k_is))
      (case g_NO_MODEL => refine' Lk.gi_mk KX G ?a; (case a => k_is))
      (case g_NO_RATING => refine' Lk.gi_mk KX G ?a; (case a => k_is))
      (case g_NO_SUCH_RATING => refine' Lk.gi_mk KX G ?a; (case a => k_is))
      (case g_OUTSIDE_LIMITS => refine' Lk.gi_mk KX G ?a; (case a => k_is))
      (case g_UNIT => refine' Lk.gi_mk KX G ?a; (case a => k_is))
      (case g_USER => refine' Lk.gi_mk KX G ?a; (case a => k_is))
      (case g_CREATE_RANGES => refine' Lk.gr_mk KX G ?a; (case a => k_is))
      (case g_MODEL_CALLS => refine' Lk.gr_mk KX G ?a; (case a => k_is))
      (case n_enumerate => refine' Lk.gn_mk KX G ?a; (case a => k_is))
      (case n_len => refine' Lk.gn_mk KX G ?a; (case a => k_is))
      (case n_list => refine' Lk.gn_mk KX G ?a; (case a => k_is))
      (case n_max => refine' Lk.gn_mk KX G ?a; (case a => k_is))
      (case n_min => refine' Lk.gn_mk KX G ?a; (case a => k_is))
      (case n_range => refine' Lk.gn_mk KX G ?a; (case a => k_is))
      (case n_sorted => refine' Lk.gn_mk KX G ?a; (case a => k_is))
      (case n_sum => refine' Lk.gn_mk KX G ?a; (case a => k_is))
      (case cl_S => refine' Lk.cls_mk KX ?a ?b ?d ?e; (case a => k_is); (case b => k_is); (case d => k_is); (case e => k_is))
      (case na_S_row_counts => unfold L2.NoAttr; k_is)
      (case na_S_factor_count => unfold L2.NoAttr; k_is)
      (case na_S_limit => unfold L2.NoAttr; k_is)
      (case na_S_nonnegative => unfold L2.NoAttr; k_is)
      (case na_S_factor_penalty => unfold L2.NoAttr; k_is)
      (case na_S_bias_penalty => unfold L2.NoAttr; k_is)
      (case na_S_seed => unfold L2.NoAttr; k_is)
      (case na_S_parameters => unfold L2.NoAttr; k_is)
      (case cl_M => refine' Lk.cls_mk KX ?a ?b ?d ?e; (case a => k_is); (case b => k_is); (case d => k_is); (case e => k_is))
      (case na_M_settings => unfold L2.NoAttr; k_is)
      (case na_M_ratings => unfold L2.NoAttr; k_is)
      (case na_M_base => unfold L2.NoAttr; k_is)
      (case na_M_rows => unfold L2.NoAttr; k_is)
      (case cl_Q => refine' Lk.cls_mk KX ?a ?b ?d ?e; (case a => k_is); (case b => k_is); (case d => k_is); (case e => k_is))
      (case na_Q_curvature => unfold L2.NoAttr; k_is)
      (case na_Q_slope => unfold L2.NoAttr; k_is)
      (case cl_E => refine' Lk.cls_mk KX ?a ?b ?d ?e; (case a => k_is); (case b => k_is); (case d => k_is); (case e => k_is))
      (case na_E_model => unfold L2.NoAttr; k_is)
    case D =>
      constructor
      (case are_settings => refine' Lk.def_mk Lk.bd_are_settings KX G ?a ?l ?d ?k; (case a => k_is); (case l => k_is); (case d => k_is); (case k => k_is))
      (case is_rating => refine' Lk.def_mk Lk.bd_is_rating KX G ?a ?l ?d ?k; (case a => k_is); (case l => k_is); (case d => k_is); (case k => k_is))
      (case ordered_parameters => refine' Lk.met_mk Lk.bd_ordered_parameters KX ?a ?i ?l ?d ?k; (case a => k_is); (case i => k_is); (case l => k_is); (case d => k_is); (case k => k_is))
      (case Settings_init => refine' Lk.mak_mk Lk.bd_Settings_init KX G ?a ?m ?n ?i ?k ?l ?d; (case a => k_is); (case m => k_is); (case n => k_is); (case i => k_is); (case k => k_is); (case l => k_is); (case d => k_is))
      (case has_user => refine' Lk.met_mk Lk.bd_has_user KX ?a ?i ?l ?d ?k; (case a => k_is); (case i => k_is); (case l => k_is); (case d => k_is); (case k => k_is))
      (case has_item => refine' Lk.met_mk Lk.bd_has_item KX ?a ?i ?l ?d ?k; (case a => k_is); (case i => k_is); (case l => k_is); (case d => k_is); (case k => k_is))
      (case has_pair => refine' Lk.met_mk Lk.bd_has_pair KX ?a ?i ?l ?d ?k; (case a => k_is); (case i => k_is); (case l => k_is); (case d => k_is); (case k => k_is))
      (case has_row => refine' Lk.met_mk Lk.bd_has_row KX ?a ?i ?l ?d ?k; (case a => k_is); (case i => k_is); (case l => k_is); (case d => k_is); (case k => k_is))
      (case has_parameter => refine' Lk.met_mk Lk.bd_has_parameter KX ?a ?i ?l ?d ?k; (case a => k_is); (case i => k_is); (case l => k_is); (case d => k_is); (case k => k_is))
      (case lowest => refine' Lk.met_mk Lk.bd_lowest KX ?a ?i ?l ?d ?k; (case a => k_is); (case i => k_is); (case l => k_is); (case d => k_is); (case k => k_is))
      (case highest => refine' Lk.met_mk Lk.bd_highest KX ?a ?i ?l ?d ?k; (case a => k_is); (case i => k_is); (case l => k_is); (case d => k_is); (case k => k_is))
      (case is_in_range => refine' Lk.met_mk Lk.bd_is_in_range KX ?a ?i ?l ?d ?k; (case a => k_is); (case i => k_is); (case l => k_is); (case d => k_is); (case k => k_is))
      (case penalty => refine' Lk.met_mk Lk.bd_penalty KX ?a ?i ?l ?d ?k; (case a => k_is); (case i => k_is); (case l => k_is); (case d => k_is); (case k => k_is))
      (case hashed => refine' Lk.def_mk Lk.bd_hashed KX G ?a ?l ?d ?k; (case a => k_is); (case l => k_is); (case d => k_is); (case k => k_is))
      (case first_value => refine' Lk.def_mk Lk.bd_first_value KX G ?a ?l ?d ?k; (case a => k_is); (case l => k_is); (case d => k_is); (case k => k_is))
      (case first_rows => refine' Lk.def_mk Lk.bd_first_rows KX G ?a ?l ?d ?k; (case a => k_is); (case l => k_is); (case d => k_is); (case k => k_is))
      (case first_base => refine' Lk.def_mk Lk.bd_first_base KX G ?a ?l ?d ?k; (case a => k_is); (case l => k_is); (case d => k_is); (case k => k_is))
      (case Model_init => refine' Lk.mak_mk Lk.bd_Model_init KX G ?a ?m ?n ?i ?k ?l ?d; (case a => k_is); (case m => k_is); (case n => k_is); (case i => k_is); (case k => k_is); (case l => k_is); (case d => k_is))
      (case ratings_of => refine' Lk.met_mk Lk.bd_ratings_of KX ?a ?i ?l ?d ?k; (case a => k_is); (case i => k_is); (case l => k_is); (case d => k_is); (case k => k_is))
      (case all_ratings => refine' Lk.met_mk Lk.bd_all_ratings KX ?a ?i ?l ?d ?k; (case a => k_is); (case i => k_is); (case l => k_is); (case d => k_is); (case k => k_is))
      (case begin_again => refine' Lk.met_mk Lk.bd_begin_again KX ?a ?i ?l ?d ?k; (case a => k_is); (case i => k_is); (case l => k_is); (case d => k_is); (case k => k_is))
      (case drop_ratings => refine' Lk.met_mk Lk.bd_drop_ratings KX ?a ?i ?l ?d ?k; (case a => k_is); (case i => k_is); (case l => k_is); (case d => k_is); (case k => k_is))
      (case twin => refine' Lk.met_mk Lk.bd_twin KX ?a ?i ?l ?d ?k; (case a => k_is); (case i => k_is); (case l => k_is); (case d => k_is); (case k => k_is))
      (case prediction_parts => refine' Lk.met_mk Lk.bd_prediction_parts KX ?a ?i ?l ?d ?k; (case a => k_is); (case i => k_is); (case l => k_is); (case d => k_is); (case k => k_is))
      (case prediction => refine' Lk.met_mk Lk.bd_prediction KX ?a ?i ?l ?d ?k; (case a => k_is); (case i => k_is); (case l => k_is); (case d => k_is); (case k => k_is))
      (case residuals_of => refine' Lk.met_mk Lk.bd_residuals_of KX ?a ?i ?l ?d ?k; (case a => k_is); (case i => k_is); (case l => k_is); (case d => k_is); (case k => k_is))
      (case recommended => refine' Lk.dft_mk Lk.bd_recommended KX G ?a ?l ?d ?k; (case a => k_is); (case l => k_is); (case d => k_is); (case k => k_is))
      (case factor_product => refine' Lk.def_mk Lk.bd_factor_product KX G ?a ?l ?d ?k; (case a => k_is); (case l => k_is); (case d => k_is); (case k => k_is))
      (case similar_rows => refine' Lk.dft_mk Lk.bd_similar_rows KX G ?a ?l ?d ?k; (case a => k_is); (case l => k_is); (case d => k_is); (case k => k_is))
      (case error_part => refine' Lk.def_mk Lk.bd_error_part KX G ?a ?l ?d ?k; (case a => k_is); (case l => k_is); (case d => k_is); (case k => k_is))
      (case penalty_part => refine' Lk.def_mk Lk.bd_penalty_part KX G ?a ?l ?d ?k; (case a => k_is); (case l => k_is); (case d => k_is); (case k => k_is))
      (case whole_objective => refine' Lk.def_mk Lk.bd_whole_objective KX G ?a ?l ?d ?k; (case a => k_is); (case l => k_is); (case d => k_is); (case k => k_is))
      (case lowest_terms => refine' Lk.def_mk Lk.bd_lowest_terms KX G ?a ?l ?d ?k; (case a => k_is); (case l => k_is); (case d => k_is); (case k => k_is))
      (case mean_error => refine' Lk.def_mk Lk.bd_mean_error KX G ?a ?l ?d ?k; (case a => k_is); (case l => k_is); (case d => k_is); (case k => k_is))
      (case Quadratic_init => refine' Lk.mak_mk Lk.bd_Quadratic_init KX G ?a ?m ?n ?i ?k ?l ?d; (case a => k_is); (case m => k_is); (case n => k_is); (case i => k_is); (case k => k_is); (case l => k_is); (case d => k_is))
      (case height => refine' Lk.met_mk Lk.bd_height KX ?a ?i ?l ?d ?k; (case a => k_is); (case i => k_is); (case l => k_is); (case d => k_is); (case k => k_is))
      (case nearest => refine' Lk.met_mk Lk.bd_nearest KX ?a ?i ?l ?d ?k; (case a => k_is); (case i => k_is); (case l => k_is); (case d => k_is); (case k => k_is))
      (case quadratic_of => refine' Lk.def_mk Lk.bd_quadratic_of KX G ?a ?l ?d ?k; (case a => k_is); (case l => k_is); (case d => k_is); (case k => k_is))
      (case stepped_value => refine' Lk.def_mk Lk.bd_stepped_value KX G ?a ?l ?d ?k; (case a => k_is); (case l => k_is); (case d => k_is); (case k => k_is))
      (case step => refine' Lk.def_mk Lk.bd_step KX G ?a ?l ?d ?k; (case a => k_is); (case l => k_is); (case d => k_is); (case k => k_is))
      (case sweep => refine' Lk.def_mk Lk.bd_sweep KX G ?a ?l ?d ?k; (case a => k_is); (case l => k_is); (case d => k_is); (case k => k_is))
      (case train => refine' Lk.def_mk Lk.bd_train KX G ?a ?l ?d ?k; (case a => k_is); (case l => k_is); (case d => k_is); (case k => k_is))
      (case coming_objectives => refine' Lk.def_mk Lk.bd_coming_objectives KX G ?a ?l ?d ?k; (case a => k_is); (case l => k_is); (case d => k_is); (case k => k_is))
      (case first_improvable => refine' Lk.def_mk Lk.bd_first_improvable KX G ?a ?l ?d ?k; (case a => k_is); (case l => k_is); (case d => k_is); (case k => k_is))
      (case are_new_ratings => refine' Lk.def_mk Lk.bd_are_new_ratings KX G ?a ?l ?d ?k; (case a => k_is); (case l => k_is); (case d => k_is); (case k => k_is))
      (case with_newcomer => refine' Lk.def_mk Lk.bd_with_newcomer KX G ?a ?l ?d ?k; (case a => k_is); (case l => k_is); (case d => k_is); (case k => k_is))
      (case make_rounds => refine' Lk.def_mk Lk.bd_make_rounds KX G ?a ?l ?d ?k; (case a => k_is); (case l => k_is); (case d => k_is); (case k => k_is))
      (case Session_init => refine' Lk.mak_mk Lk.bd_Session_init KX G ?a ?m ?n ?i ?k ?l ?d; (case a => k_is); (case m => k_is); (case n => k_is); (case i => k_is); (case k => k_is); (case l => k_is); (case d => k_is))
      (case answer_create => refine' Lk.def_mk Lk.bd_answer_create KX G ?a ?l ?d ?k; (case a => k_is); (case l => k_is); (case d => k_is); (case k => k_is))
      (case answer_set_rating => refine' Lk.def_mk Lk.bd_answer_set_rating KX G ?a ?l ?d ?k; (case a => k_is); (case l => k_is); (case d => k_is); (case k => k_is))
      (case answer_clear_rating => refine' Lk.def_mk Lk.bd_answer_clear_rating KX G ?a ?l ?d ?k; (case a => k_is); (case l => k_is); (case d => k_is); (case k => k_is))
      (case answer_delete_user => refine' Lk.def_mk Lk.bd_answer_delete_user KX G ?a ?l ?d ?k; (case a => k_is); (case l => k_is); (case d => k_is); (case k => k_is))
      (case answer_reset => refine' Lk.def_mk Lk.bd_answer_reset KX G ?a ?l ?d ?k; (case a => k_is); (case l => k_is); (case d => k_is); (case k => k_is))
      (case answer_step => refine' Lk.def_mk Lk.bd_answer_step KX G ?a ?l ?d ?k; (case a => k_is); (case l => k_is); (case d => k_is); (case k => k_is))
      (case answer_sweep => refine' Lk.def_mk Lk.bd_answer_sweep KX G ?a ?l ?d ?k; (case a => k_is); (case l => k_is); (case d => k_is); (case k => k_is))
      (case answer_train => refine' Lk.def_mk Lk.bd_answer_train KX G ?a ?l ?d ?k; (case a => k_is); (case l => k_is); (case d => k_is); (case k => k_is))
      (case answer_objective => refine' Lk.def_mk Lk.bd_answer_objective KX G ?a ?l ?d ?k; (case a => k_is); (case l => k_is); (case d => k_is); (case k => k_is))
      (case answer_curve => refine' Lk.def_mk Lk.bd_answer_curve KX G ?a ?l ?d ?k; (case a => k_is); (case l => k_is); (case d => k_is); (case k => k_is))
      (case answer_certificate => refine' Lk.def_mk Lk.bd_answer_certificate KX G ?a ?l ?d ?k; (case a => k_is); (case l => k_is); (case d => k_is); (case k => k_is))
      (case answer_quadratic => refine' Lk.def_mk Lk.bd_answer_quadratic KX G ?a ?l ?d ?k; (case a => k_is); (case l => k_is); (case d => k_is); (case k => k_is))
      (case answer_parameter => refine' Lk.def_mk Lk.bd_answer_parameter KX G ?a ?l ?d ?k; (case a => k_is); (case l => k_is); (case d => k_is); (case k => k_is))
      (case answer_set_parameter => refine' Lk.def_mk Lk.bd_answer_set_parameter KX G ?a ?l ?d ?k; (case a => k_is); (case l => k_is); (case d => k_is); (case k => k_is))
      (case answer_predict => refine' Lk.def_mk Lk.bd_answer_predict KX G ?a ?l ?d ?k; (case a => k_is); (case l => k_is); (case d => k_is); (case k => k_is))
      (case answer_explain => refine' Lk.def_mk Lk.bd_answer_explain KX G ?a ?l ?d ?k; (case a => k_is); (case l => k_is); (case d => k_is); (case k => k_is))
      (case listed => refine' Lk.def_mk Lk.bd_listed KX G ?a ?l ?d ?k; (case a => k_is); (case l => k_is); (case d => k_is); (case k => k_is))
      (case answer_residuals => refine' Lk.def_mk Lk.bd_answer_residuals KX G ?a ?l ?d ?k; (case a => k_is); (case l => k_is); (case d => k_is); (case k => k_is))
      (case answer_mean_error => refine' Lk.def_mk Lk.bd_answer_mean_error KX G ?a ?l ?d ?k; (case a => k_is); (case l => k_is); (case d => k_is); (case k => k_is))
      (case answer_recommend => refine' Lk.def_mk Lk.bd_answer_recommend KX G ?a ?l ?d ?k; (case a => k_is); (case l => k_is); (case d => k_is); (case k => k_is))
      (case answer_similar => refine' Lk.def_mk Lk.bd_answer_similar KX G ?a ?l ?d ?k; (case a => k_is); (case l => k_is); (case d => k_is); (case k => k_is))
      (case answer_fold_in => refine' Lk.def_mk Lk.bd_answer_fold_in KX G ?a ?l ?d ?k; (case a => k_is); (case l => k_is); (case d => k_is); (case k => k_is))
      (case answer_recommend_new => refine' Lk.def_mk Lk.bd_answer_recommend_new KX G ?a ?l ?d ?k; (case a => k_is); (case l => k_is); (case d => k_is); (case k => k_is))
      (case answer_without => refine' Lk.def_mk Lk.bd_answer_without KX G ?a ?l ?d ?k; (case a => k_is); (case l => k_is); (case d => k_is); (case k => k_is))
      (case answer_status => refine' Lk.def_mk Lk.bd_answer_status KX G ?a ?l ?d ?k; (case a => k_is); (case l => k_is); (case d => k_is); (case k => k_is))
      (case execute => refine' Lk.def_mk Lk.bd_execute KX G ?a ?l ?d ?k; (case a => k_is); (case l => k_is); (case d => k_is); (case k => k_is))
    case A =>
      constructor
      (case a1 => refine' Lk.kdi_mk ?l ?k KX G ?m ?e; (case l => k_is); (case k => first | rfl | decide +kernel); (case m => k_is); (case e => rfl))
      (case a2 => refine' Lk.kdi_mk ?l ?k KX G ?m ?e; (case l => k_is); (case k => first | rfl | decide +kernel); (case m => k_is); (case e => rfl))
      (case a3 => refine' Lk.kdi_mk ?l ?k KX G ?m ?e; (case l => k_is); (case k => first | rfl | decide +kernel); (case m => k_is); (case e => rfl))
      (case a4 => refine' Lk.kdi_mk ?l ?k KX G ?m ?e; (case l => k_is); (case k => first | rfl | decide +kernel); (case m => k_is); (case e => rfl))
      (case a5 => refine' Lk.kdi_mk ?l ?k KX G ?m ?e; (case l => k_is); (case k => first | rfl | decide +kernel); (case m => k_is); (case e => rfl))
      (case a6 => refine' Lk.kdi_mk ?l ?k KX G ?m ?e; (case l => k_is); (case k => first | rfl | decide +kernel); (case m => k_is); (case e => rfl))
      (case a7 => refine' Lk.kdi_mk ?l ?k KX G ?m ?e; (case l => k_is); (case k => first | rfl | decide +kernel); (case m => k_is); (case e => rfl))
      (case a8 => refine' Lk.kdi_mk ?l ?k KX G ?m ?e; (case l => k_is); (case k => first | rfl | decide +kernel); (case m => k_is); (case e => rfl))
      (case a9 => refine' Lk.kdi_mk ?l ?k KX G ?m ?e; (case l => k_is); (case k => first | rfl | decide +kernel); (case m => k_is); (case e => rfl))
      (case a10 => refine' Lk.kdi_mk ?l ?k KX G ?m ?e; (case l => k_is); (case k => first | rfl | decide +kernel); (case m => k_is); (case e => rfl))
      (case a11 => refine' Lk.kdi_mk ?l ?k KX G ?m ?e; (case l => k_is); (case k => first | rfl | decide +kernel); (case m => k_is); (case e => rfl))
      (case a12 => refine' Lk.kdi_mk ?l ?k KX G ?m ?e; (case l => k_is); (case k => first | rfl | decide +kernel); (case m => k_is); (case e => rfl))
      (case a13 => refine' Lk.kdi_mk ?l ?k KX G ?m ?e; (case l => k_is); (case k => first | rfl | decide +kernel); (case m => k_is); (case e => rfl))
      (case a14 => refine' Lk.kdi_mk ?l ?k KX G ?m ?e; (case l => k_is); (case k => first | rfl | decide +kernel); (case m => k_is); (case e => rfl))
      (case a15 => refine' Lk.kdi_mk ?l ?k KX G ?m ?e; (case l => k_is); (case k => first | rfl | decide +kernel); (case m => k_is); (case e => rfl))
      (case a16 => refine' Lk.kdi_mk ?l ?k KX G ?m ?e; (case l => k_is); (case k => first | rfl | decide +kernel); (case m => k_is); (case e => rfl))
      (case a17 => refine' Lk.kdi_mk ?l ?k KX G ?m ?e; (case l => k_is); (case k => first | rfl | decide +kernel); (case m => k_is); (case e => rfl))
      (case a18 => refine' Lk.kdi_mk ?l ?k KX G ?m ?e; (case l => k_is); (case k => first | rfl | decide +kernel); (case m => k_is); (case e => rfl))
      (case a19 => refine' Lk.kdi_mk ?l ?k KX G ?m ?e; (case l => k_is); (case k => first | rfl | decide +kernel); (case m => k_is); (case e => rfl))
      (case a20 => refine' Lk.kdi_mk ?l ?k KX G ?m ?e; (case l => k_is); (case k => first | rfl | decide +kernel); (case m => k_is); (case e => rfl))
      (case a21 => refine' Lk.kdi_mk ?l ?k KX G ?m ?e; (case l => k_is); (case k => first | rfl | decide +kernel); (case m => k_is); (case e => rfl))
      (case a22 => refine' Lk.kdi_mk ?l ?k KX G ?m ?e; (case l => k_is); (case k => first | rfl | decide +kernel); (case m => k_is); (case e => rfl))
      (case a23 => refine' Lk.kdi_mk ?l ?k KX G ?m ?e; (case l => k_is); (case k => first | rfl | decide +kernel); (case m => k_is); (case e => rfl))
    case R =>
      refine' Lk.rg_mk (Lk.sqt_mk ?l ?s ?v) (Lk.sqt_mk ?l0 ?s0 ?v0) (Lk.sqt_mk ?l1 ?s1 ?v1) (Lk.sqt_mk ?l2 ?s2 ?v2) (Lk.sqt_mk ?l3 ?s3 ?v3) (Lk.sqt_mk ?l4 ?s4 ?v4) (Lk.sqt_mk ?l5 ?s5 ?v5) (Lk.sqt_mk ?l6 ?s6 ?v6)
      (case l => k_is); (case s => decide); (case v => exact .cons rfl (.cons rfl (.cons rfl (.cons rfl (.cons rfl (.cons rfl (.cons rfl .nil)))))))
      (case l0 => k_is); (case s0 => decide); (case v0 => exact .cons ⟨_, rfl⟩ (.cons ⟨_, rfl⟩ .nil))
      (case l1 => k_is); (case s1 => decide); (case v1 => exact .cons ⟨_, rfl⟩ (.cons ⟨_, rfl⟩ .nil))
      (case l2 => k_is); (case s2 => decide); (case v2 => exact .cons ⟨_, rfl⟩ (.cons ⟨_, rfl⟩ .nil))
      (case l3 => k_is); (case s3 => decide); (case v3 => exact .cons ⟨_, rfl⟩ (.cons ⟨_, rfl⟩ .nil))
      (case l4 => k_is); (case s4 => decide); (case v4 => exact .cons ⟨_, rfl⟩ (.cons ⟨_, rfl⟩ .nil))
      (case l5 => k_is); (case s5 => decide); (case v5 => exact .cons ⟨_, rfl⟩ (.cons ⟨_, rfl⟩ .nil))
      (case l6 => k_is); (case s6 => decide); (case v6 => exact .cons ⟨_, rfl⟩ (.cons ⟨_, rfl⟩ .nil))
