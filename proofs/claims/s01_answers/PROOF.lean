import PyProof.Rows.All
import Wide.All
import OpenK.AllK
import Wide.FinOn
import Open.SpecLaws
import KE.OsHead
import KE.OsGo
import HandS.ForSpec
import HandS.ForMost
import HandS.Wide
import HandS.Walk
import HandS.More
import HandS.TupSets
import PyProof.Rows.SortShellAny
import PySem.Challenge.RW_widebuckets_s01_answers
set_option Elab.async false
set_option maxRecDepth 100000
set_option maxHeartbeats 2000000
set_option exponentiation.threshold 500
/-! Mathematics of the accounts: sorted lists of pairs, their counts, what a table in any order is worth. -/
namespace Wb
open Sq39
abbrev Bk := List (Nat × Nat)
/-- the keys rise -/
def Srt (l : Bk) : Prop := l.Pairwise fun a b => a.1 < b.1
def keys (l : Bk) : List Nat := l.map fun p => p.1
def tot (l : Bk) : Nat := (l.map fun p => p.2).sum
/-- how many are told of a key -/
def cnt (j : Nat) : Bk → Nat
  | [] => 0
  | x :: l => (if x.1 = j then x.2 else 0) + cnt j l
theorem srt_nil : Srt [] := List.Pairwise.nil
theorem srt_cons {x : Nat × Nat} {l : Bk} : Srt (x :: l) ↔ (∀ y ∈ l, x.1 < y.1) ∧ Srt l := List.pairwise_cons
theorem mem_keys {l : Bk} {j : Nat} : j ∈ keys l ↔ ∃ c, (j, c) ∈ l := by
  unfold keys
  rw [List.mem_map]
  constructor
  · rintro ⟨⟨a, b⟩, h, rfl⟩
    exact ⟨b, h⟩
  · rintro ⟨c, h⟩
    exact ⟨(j, c), h, rfl⟩
theorem mem_put {i n : Nat} : ∀ {l : Bk} {y : Nat × Nat}, y ∈ put i n l → y.1 = i ∨ ∃ z ∈ l, z.1 = y.1
  | [], y, h => by
    simp [put] at h
    left
    rw [h]
  | x :: l, y, h => by
    unfold put at h
    split at h
    · rcases List.mem_cons.mp h with e | e
      · left
        rw [e]
      · exact Or.inr ⟨y, e, rfl⟩
    · split at h
      · rename_i e0
        rcases List.mem_cons.mp h with e | e
        · left
          rw [e]
        · exact Or.inr ⟨y, List.mem_cons_of_mem _ e, rfl⟩
      · rcases List.mem_cons.mp h with e | e
        · exact Or.inr ⟨x, List.mem_cons_self, by rw [e]⟩
        · rcases mem_put e with q | ⟨z, hz, q⟩
          · exact Or.inl q
          · exact Or.inr ⟨z, List.mem_cons_of_mem _ hz, q⟩
theorem put_srt {i n : Nat} : ∀ {l : Bk}, Srt l → Srt (put i n l)
  | [], _ => by
    unfold put
    exact srt_cons.mpr ⟨by simp, srt_nil⟩
  | x :: l, h => by
    obtain ⟨h1, h2⟩ := srt_cons.mp h
    unfold put
    split
    · rename_i c
      refine srt_cons.mpr ⟨fun y hy => ?_, h⟩
      rcases List.mem_cons.mp hy with e | e
      · rw [e]
        exact c
      · exact Nat.lt_trans c (h1 y e)
    · split
      · rename_i c e
        refine srt_cons.mpr ⟨fun y hy => ?_, h2⟩
        show i < y.1
        rw [e]
        exact h1 y hy
      · rename_i c e
        refine srt_cons.mpr ⟨fun y hy => ?_, put_srt h2⟩
        rcases mem_put hy with q | ⟨z, hz, q⟩
        · omega
        · rw [← q]
          exact h1 z hz
theorem keys_put {i n j : Nat} : ∀ {l : Bk}, j ∈ keys (put i n l) ↔ j = i ∨ j ∈ keys l
  | [] => by simp [put, keys]
  | x :: l => by
    unfold put
    split
    · simp [keys]
    · split
      · rename_i c e
        simp [keys, e]
      · have ih := keys_put (i := i) (n := n) (j := j) (l := l)
        have e1 : j ∈ keys (x :: put i n l) ↔ j = x.1 ∨ j ∈ keys (put i n l) := by simp [keys]
        have e2 : j ∈ keys (x :: l) ↔ j = x.1 ∨ j ∈ keys l := by simp [keys]
        rw [e1, e2, ih]
        constructor
        · rintro (h | h | h)
          · exact Or.inr (Or.inl h)
          · exact Or.inl h
          · exact Or.inr (Or.inr h)
        · rintro (h | h | h)
          · exact Or.inr (Or.inl h)
          · exact Or.inl h
          · exact Or.inr (Or.inr h)
theorem cnt_put {i n j : Nat} : ∀ {l : Bk}, cnt j (put i n l) = (if i = j then n else 0) + cnt j l
  | [] => by simp [put, cnt]
  | x :: l => by
    unfold put
    split
    · rfl
    · split
      · rename_i c e
        simp only [cnt]
        rw [← e]
        split <;> omega
      · have ih := cnt_put (i := i) (n := n) (j := j) (l := l)
        simp only [cnt]
        rw [ih]
        omega
theorem tot_put {i n : Nat} : ∀ {l : Bk}, tot (put i n l) = n + tot l
  | [] => by simp [put, tot]
  | x :: l => by
    unfold put
    split
    · simp [tot]
    · split
      · simp [tot]
        omega
      · have ih := tot_put (i := i) (n := n) (l := l)
        simp [tot] at ih ⊢
        rw [ih]
        omega
theorem cnt_out {j : Nat} : ∀ {l : Bk}, (∀ y ∈ l, y.1 ≠ j) → cnt j l = 0
  | [], _ => rfl
  | x :: l, h => by
    simp only [cnt]
    rw [if_neg (h x List.mem_cons_self), cnt_out fun y hy => h y (List.mem_cons_of_mem _ hy)]
/-- two that rise, with the same keys and counts, are one -/
theorem srt_ext : ∀ {l m : Bk}, Srt l → Srt m → (∀ j, j ∈ keys l ↔ j ∈ keys m) → (∀ j, cnt j l = cnt j m) → l = m
  | [], [], _, _, _, _ => rfl
  | [], y :: m, _, _, h, _ => by
    have := (h y.1).mpr (by simp [keys])
    simp [keys] at this
  | x :: l, [], _, _, h, _ => by
    have := (h x.1).mp (by simp [keys])
    simp [keys] at this
  | x :: l, y :: m, hl, hm, h, c => by
    obtain ⟨l1, l2⟩ := srt_cons.mp hl
    obtain ⟨m1, m2⟩ := srt_cons.mp hm
    have kx : x.1 = y.1 ∨ x.1 ∈ keys m := by
      have := (h x.1).mp (by simp [keys])
      simpa [keys] using this
    have ky : y.1 = x.1 ∨ y.1 ∈ keys l := by
      have := (h y.1).mpr (by simp [keys])
      simpa [keys] using this
    have e : x.1 = y.1 := by
      rcases kx with q | q
      · exact q
      · rcases ky with r | r
        · exact r.symm
        · obtain ⟨a, ha⟩ := mem_keys.mp q
          obtain ⟨b, hb⟩ := mem_keys.mp r
          have h1 := m1 _ ha
          have h2 := l1 _ hb
          simp at h1 h2
          omega
    have nl : ∀ y ∈ l, y.1 ≠ x.1 := fun z hz q => by
      have := l1 z hz
      omega
    have nm : ∀ z ∈ m, z.1 ≠ x.1 := fun z hz q => by
      have := m1 z hz
      omega
    have e2 : x.2 = y.2 := by
      have := c x.1
      unfold cnt at this
      rw [if_pos rfl, if_pos e.symm, cnt_out nl, cnt_out nm] at this
      omega
    have exy : x = y := Prod.ext e e2
    subst exy
    have hk : ∀ j, j ∈ keys l ↔ j ∈ keys m := fun j => by
      have q := h j
      simp only [keys, List.map_cons, List.mem_cons] at q
      by_cases ej : j = x.1
      · subst ej
        constructor
        · intro z
          obtain ⟨a, ha⟩ := mem_keys.mp z
          exact absurd rfl (nl (x.1, a) ha)
        · intro z
          obtain ⟨a, ha⟩ := mem_keys.mp z
          exact absurd rfl (nm (x.1, a) ha)
      · constructor
        · intro z
          exact (q.mp (Or.inr z)).resolve_left ej
        · intro z
          exact (q.mpr (Or.inr z)).resolve_left ej
    have hc : ∀ j, cnt j l = cnt j m := fun j => by
      have q := c j
      simp only [cnt] at q
      omega
    rw [srt_ext l2 m2 hk hc]
/-! ### many put, one behind another -/
def puts (f : Nat → Nat) (acc : Bk) (l : Bk) : Bk := l.foldl (fun (l : Bk) x => put (f x.1) x.2 l) acc
theorem puts_srt {f : Nat → Nat} : ∀ {l acc : Bk}, Srt acc → Srt (puts f acc l)
  | [], _, h => h
  | _ :: l, _, h => puts_srt (l := l) (put_srt h)
theorem keys_puts {f : Nat → Nat} {j : Nat} : ∀ {l acc : Bk}, j ∈ keys (puts f acc l) ↔ j ∈ keys acc ∨ ∃ x ∈ l, f x.1 = j
  | [], acc => by simp [puts]
  | x :: l, acc => by
    have ih := keys_puts (f := f) (j := j) (l := l) (acc := put (f x.1) x.2 acc)
    show j ∈ keys (puts f (put (f x.1) x.2 acc) l) ↔ _
    rw [ih, keys_put]
    constructor
    · rintro ((h | h) | ⟨y, hy, h⟩)
      · exact Or.inr ⟨x, List.mem_cons_self, h.symm⟩
      · exact Or.inl h
      · exact Or.inr ⟨y, List.mem_cons_of_mem _ hy, h⟩
    · rintro (h | ⟨y, hy, h⟩)
      · exact Or.inl (Or.inr h)
      · rcases List.mem_cons.mp hy with e | e
        · subst e
          exact Or.inl (Or.inl h.symm)
        · exact Or.inr ⟨y, e, h⟩
/-- what is told of j when all keys are sent by f -/
def cntBy (f : Nat → Nat) (j : Nat) (l : Bk) : Nat := (l.map fun x => if f x.1 = j then x.2 else 0).sum
theorem cnt_puts {f : Nat → Nat} {j : Nat} : ∀ {l acc : Bk}, cnt j (puts f acc l) = cnt j acc + cntBy f j l
  | [], acc => by simp [puts, cntBy]
  | x :: l, acc => by
    have ih := cnt_puts (f := f) (j := j) (l := l) (acc := put (f x.1) x.2 acc)
    show cnt j (puts f (put (f x.1) x.2 acc) l) = _
    rw [ih, cnt_put]
    simp [cntBy]
    omega
theorem tot_puts {f : Nat → Nat} : ∀ {l acc : Bk}, tot (puts f acc l) = tot acc + tot l
  | [], acc => by simp [puts, tot]
  | x :: l, acc => by
    have ih := tot_puts (f := f) (l := l) (acc := put (f x.1) x.2 acc)
    show tot (puts f (put (f x.1) x.2 acc) l) = _
    rw [ih, tot_put]
    simp [tot]
    omega
/-- the order in which they come is nothing -/
theorem puts_perm {f : Nat → Nat} {l m : Bk} (h : l.Perm m) : puts f [] l = puts f [] m := by
  refine srt_ext (puts_srt srt_nil) (puts_srt srt_nil) (fun j => ?_) fun j => ?_
  · rw [keys_puts, keys_puts]
    constructor
    · rintro (q | ⟨x, hx, e⟩)
      · exact Or.inl q
      · exact Or.inr ⟨x, h.mem_iff.mp hx, e⟩
    · rintro (q | ⟨x, hx, e⟩)
      · exact Or.inl q
      · exact Or.inr ⟨x, h.mem_iff.mpr hx, e⟩
  · rw [cnt_puts, cnt_puts]
    unfold cntBy
    rw [(h.map _).sum_nat]
/-! ### a table in any order -/
theorem perm_keys_nodup {d b : Bk} (h : d.Perm b) (s : Srt b) : (keys d).Nodup := by
  have h1 : (keys b).Nodup := by
    unfold keys
    rw [List.Nodup, List.pairwise_map]
    exact List.Pairwise.imp (fun q => Nat.ne_of_lt q) s
  exact (List.Perm.nodup_iff (show (keys d).Perm (keys b) from h.map _)).mpr h1
def dget (d : Bk) (i : Nat) : Option Nat := (d.find? fun p => decide (p.1 = i)).map fun p => p.2
def dput (d : Bk) (i v : Nat) : Bk := if i ∈ keys d then d.map fun p => if p.1 = i then (p.1, v) else p else d ++ [(i, v)]
theorem dget_none {i : Nat} : ∀ {d : Bk}, i ∉ keys d → dget d i = none
  | [], _ => rfl
  | x :: d, h => by
    have h1 : ¬ x.1 = i := fun e => h (by simp [keys, e])
    have h2 : i ∉ keys d := fun q => h (by unfold keys at q ⊢; exact List.mem_cons_of_mem _ q)
    have ih := dget_none h2
    unfold dget at ih ⊢
    rw [List.find?_cons]
    simp only [h1, decide_false]
    exact ih
theorem dget_some {i c : Nat} : ∀ {d : Bk}, (keys d).Nodup → (i, c) ∈ d → dget d i = some c
  | [], _, h => by cases h
  | x :: d, nd, h => by
    have nd' : x.1 ∉ keys d ∧ (keys d).Nodup := List.nodup_cons.mp nd
    rcases List.mem_cons.mp h with e | e
    · subst e
      unfold dget
      rw [List.find?_cons]
      simp
    · have h1 : ¬ x.1 = i := fun q => nd'.1 (by rw [q]; exact mem_keys.mpr ⟨c, e⟩)
      have ih := dget_some nd'.2 e
      unfold dget at ih ⊢
      rw [List.find?_cons]
      simp only [h1, decide_false]
      exact ih
theorem put_in {i n c : Nat} : ∀ {l : Bk}, Srt l → (i, c) ∈ l → put i n l = l.map fun p => if p.1 = i then (p.1, c + n) else p
  | [], _, h => by cases h
  | x :: l, s, h => by
    obtain ⟨s1, s2⟩ := srt_cons.mp s
    rcases List.mem_cons.mp h with e | e
    · subst e
      unfold put
      rw [if_neg (by simp), if_pos rfl]
      simp only [List.map_cons, if_pos]
      congr 1
      refine (List.map_id' l).symm.trans (List.map_congr_left fun y hy => ?_)
      have := s1 y hy
      rw [if_neg (by simp at this; omega)]
    · have hx := s1 _ e
      simp at hx
      unfold put
      rw [if_neg (by omega), if_neg (by omega), put_in s2 e, List.map_cons, if_neg (by omega)]
theorem put_new {i n : Nat} : ∀ {l : Bk}, i ∉ keys l → (put i n l).Perm ((i, n) :: l)
  | [], _ => by
    unfold put
    exact List.Perm.refl _
  | x :: l, h => by
    have h1 : ¬ i = x.1 := fun e => h (by simp [keys, e])
    have h2 : i ∉ keys l := fun q => h (by unfold keys at q ⊢; exact List.mem_cons_of_mem _ q)
    unfold put
    split
    · exact List.Perm.refl _
    · try rw [if_neg h1]
      exact ((put_new h2).cons x).trans (List.Perm.swap _ _ _)
/-- one entry more: the table and the rising list go on alike -/
theorem dput_perm {d b : Bk} {i n : Nat} (h : d.Perm b) (s : Srt b) : (dput d i ((dget d i).getD 0 + n)).Perm (put i n b) := by
  have nd := perm_keys_nodup h s
  unfold dput
  by_cases hi : i ∈ keys d
  · obtain ⟨c, hc⟩ := mem_keys.mp hi
    rw [if_pos hi, dget_some nd hc, put_in s (h.mem_iff.mp hc)]
    exact h.map _
  · have hb : i ∉ keys b := fun q => hi ((h.map (fun p => p.1)).mem_iff.mpr q)
    rw [if_neg hi, dget_none hi]
    have e : ((none : Option Nat).getD 0 + n) = n := by simp
    rw [e]
    exact (List.perm_append_comm.trans (h.cons (i, n))).trans (put_new hb).symm
end Wb
/-! Accounts: what is kept true of one, and what each step of the program makes of it. -/
namespace Wb
open Sq39
/-! ### in which bucket a value is -/
theorem le_top {k v i : Nat} (hk : 3 ≤ k) : v ≤ top k i ↔ v * (k - 1) ^ i ≤ (k + 1) ^ i := by
  unfold top
  exact Nat.le_div_iff_mul_le (Nat.pow_pos (by omega))
theorem seek_eq {k v i0 : Nat} (h : v ≤ top k i0) (hl : ∀ j, j < i0 → ¬ v ≤ top k j) : ∀ (f i : Nat), i ≤ i0 → i0 ≤ i + f → seek k v f i = i0
  | 0, i, h1, h2 => by
    unfold seek
    omega
  | f + 1, i, h1, h2 => by
    unfold seek
    by_cases e : i = i0
    · subst e
      rw [if_pos h]
    · rw [if_neg (hl i (by omega))]
      exact seek_eq h hl f (i + 1) (by omega) (by omega)
theorem bucket_eq {k v i0 : Nat} (h : v ≤ top k i0) (hl : ∀ j, j < i0 → ¬ v ≤ top k j) (h0 : i0 ≤ 415) : bucket k v = i0 :=
  seek_eq h hl MANY 0 (Nat.zero_le _) (by unfold MANY; omega)
theorem enough_at : ∀ k : Fin 41, 3 ≤ k.val → 10 ^ 9 * (k.val - 1) ^ 415 ≤ (k.val + 1) ^ 415 := by decide +kernel
theorem enough {k v : Nat} (h3 : 3 ≤ k) (h40 : k ≤ 40) (hv : v ≤ 10 ^ 9) : v * (k - 1) ^ 415 ≤ (k + 1) ^ 415 :=
  Nat.le_trans (Nat.mul_le_mul_right _ hv) (enough_at ⟨k, by omega⟩ h3)
theorem bucket_le {k v : Nat} (h3 : 3 ≤ k) (h40 : k ≤ 40) (hv : v ≤ 10 ^ 9) : bucket k v ≤ 415 := by
  have key : ∀ (n : Nat), n ≤ 415 → (∃ i, i ≤ n ∧ v ≤ top k i ∧ ∀ j, j < i → ¬ v ≤ top k j) ∨ ∀ j, j ≤ n → ¬ v ≤ top k j := by
    intro n
    induction n with
    | zero =>
      intro _
      by_cases c : v ≤ top k 0
      · exact Or.inl ⟨0, Nat.le_refl _, c, fun j hj => absurd hj (Nat.not_lt_zero _)⟩
      · exact Or.inr fun j hj => by
          have : j = 0 := by omega
          rw [this]
          exact c
    | succ n ih =>
      intro hn
      rcases ih (by omega) with ⟨i, h1, h2⟩ | h
      · exact Or.inl ⟨i, by omega, h2⟩
      · by_cases c : v ≤ top k (n + 1)
        · exact Or.inl ⟨n + 1, Nat.le_refl _, c, fun j hj => h j (by omega)⟩
        · refine Or.inr fun j hj => ?_
          by_cases e : j = n + 1
          · rw [e]
            exact c
          · exact h j (by omega)
  rcases key 415 (Nat.le_refl _) with ⟨i, h1, h2, h3'⟩ | h
  · rw [bucket_eq h2 h3' h1]
    exact h1
  · exact absurd ((le_top h3).mpr (enough h3 h40 hv)) (h 415 (Nat.le_refl _))
/-! ### the lowest -/
def low (l : Bk) : Nat := (l.head?.map fun x => x.1).getD 0
/-- below it nothing is counted -/
def floorOf (a : Account) : Nat := if a.cut = true then low a.buckets else 0
theorem low_le {l : Bk} (s : Srt l) : ∀ p ∈ l, low l ≤ p.1 := by
  cases l with
  | nil =>
    intro p h
    cases h
  | cons x l =>
    intro p h
    show x.1 ≤ p.1
    rcases List.mem_cons.mp h with e | e
    · rw [e]
      exact Nat.le_refl _
    · exact Nat.le_of_lt ((srt_cons.mp s).1 p e)
theorem low_mem {l : Bk} (h : l ≠ []) : low l ∈ keys l := by
  cases l with
  | nil => exact absurd rfl h
  | cons x l =>
    show x.1 ∈ x.1 :: keys l
    exact List.mem_cons_self
/-- what is true of every account of a house whose most is m -/
structure Wf (m : Nat) (a : Account) : Prop where
  srt : Srt a.buckets
  cut : a.cut = true → a.buckets ≠ []
  n : a.n = a.zeros + tot a.buckets
  len : a.buckets.length ≤ m
  none : a.n = 0 → a = empty
  le : ∀ p ∈ a.buckets, p.1 ≤ 415
  ends : a.least ≤ 10 ^ 9 ∧ a.most ≤ 10 ^ 9
theorem wf_empty {m : Nat} : Wf m empty where
  srt := srt_nil
  cut := fun h => nomatch (show false = true from h)
  n := rfl
  len := Nat.zero_le _
  none := fun _ => rfl
  le := fun p h => by
    have h' : p ∈ ([] : Bk) := h
    cases h'
  ends := ⟨Nat.zero_le _, Nat.zero_le _⟩
theorem floor_le {m : Nat} {a : Account} (w : Wf m a) : floorOf a ≤ 415 := by
  unfold floorOf
  split
  · rename_i c
    obtain ⟨x, hx⟩ := mem_keys.mp (low_mem (w.cut c))
    exact w.le _ hx
  · omega
/-! ### the lowest given up -/
theorem give_srt {l : Bk} (h : Srt l) : Srt (give l) := by
  unfold give
  split
  · rename_i x y r
    obtain ⟨h1, h2⟩ := srt_cons.mp h
    obtain ⟨h3, h4⟩ := srt_cons.mp h2
    exact srt_cons.mpr ⟨h3, h4⟩
  · exact h
theorem give_len {l : Bk} (h : 2 ≤ l.length) : (give l).length + 1 = l.length := by
  cases l with
  | nil => simp at h
  | cons x l =>
    cases l with
    | nil => simp at h
    | cons y r => rfl
theorem give_tot {l : Bk} : tot (give l) = tot l := by
  unfold give
  split
  · simp [tot]
    omega
  · rfl
theorem give_le {b : Nat} {l : Bk} (h : ∀ p ∈ l, p.1 ≤ b) : ∀ p ∈ give l, p.1 ≤ b := by
  unfold give
  split
  · rename_i x y r
    intro p hp
    rcases List.mem_cons.mp hp with e | e
    · rw [e]
      exact h y (by simp)
    · exact h p (by simp [e])
  · exact h
/-- the next lowest takes what the lowest had -/
theorem give_put {x : Nat × Nat} {l : Bk} (s : Srt (x :: l)) (h : l ≠ []) : give (x :: l) = put (low l) x.2 l := by
  cases l with
  | nil => exact absurd rfl h
  | cons y r =>
    show (y.1, x.2 + y.2) :: r = put y.1 x.2 (y :: r)
    unfold put
    rw [if_neg (Nat.lt_irrefl _), if_pos rfl, Nat.add_comm]
theorem within_done {a : Account} {m : Nat} (h : a.buckets.length ≤ m) : a.within m = a := by
  unfold Account.within
  rw [if_pos h]
theorem within_step {a : Account} {m : Nat} (hm : 1 ≤ m) (h : m < a.buckets.length) :
    a.within m = ({ a with buckets := give a.buckets, cut := true } : Account).within m := by
  have hl := give_len (l := a.buckets) (by omega)
  unfold Account.within
  rw [if_neg (by omega)]
  obtain ⟨q, hq⟩ : ∃ q, a.buckets.length - m = q + 1 := ⟨a.buckets.length - m - 1, by omega⟩
  show ({ a with buckets := gives (a.buckets.length - m) a.buckets, cut := true } : Account) = if (give a.buckets).length ≤ m then _ else _
  rw [hq]
  show ({ a with buckets := gives q (give a.buckets), cut := true } : Account) = _
  by_cases c : (give a.buckets).length ≤ m
  · have : q = 0 := by omega
    subst this
    rw [if_pos c]
    rfl
  · rw [if_neg c]
    have e : (give a.buckets).length - m = q := by omega
    show _ = ({ a with buckets := gives ((give a.buckets).length - m) (give a.buckets), cut := true } : Account)
    rw [e]
/-- but for its length all that is true of an account -/
structure Wf0 (a : Account) : Prop where
  srt : Srt a.buckets
  cut : a.cut = true → a.buckets ≠ []
  n : a.n = a.zeros + tot a.buckets
  pos : a.n ≠ 0
  le : ∀ p ∈ a.buckets, p.1 ≤ 415
  ends : a.least ≤ 10 ^ 9 ∧ a.most ≤ 10 ^ 9
theorem Wf0.step {a : Account} (w : Wf0 a) (h : 2 ≤ a.buckets.length) : Wf0 { a with buckets := give a.buckets, cut := true } where
  srt := give_srt w.srt
  cut := fun _ e => by
    have h1 := give_len h
    have h2 : (give a.buckets).length = 0 := by
      have : give a.buckets = [] := e
      rw [this]
      rfl
    omega
  n := by
    show a.n = a.zeros + tot (give a.buckets)
    rw [give_tot]
    exact w.n
  pos := w.pos
  le := give_le w.le
  ends := w.ends
theorem Wf0.within {m : Nat} (hm : 1 ≤ m) : ∀ {a : Account}, Wf0 a → Wf m (a.within m) := by
  have key : ∀ (q : Nat) {a : Account}, a.buckets.length ≤ m + q → Wf0 a → Wf m (a.within m) := by
    intro q
    induction q with
    | zero =>
      intro a h w
      have h : a.buckets.length ≤ m := h
      rw [within_done h]
      exact ⟨w.srt, w.cut, w.n, h, fun e => absurd e w.pos, w.le, w.ends⟩
    | succ q ih =>
      intro a h w
      by_cases c : a.buckets.length ≤ m
      · rw [within_done c]
        exact ⟨w.srt, w.cut, w.n, c, fun e => absurd e w.pos, w.le, w.ends⟩
      · rw [within_step hm (by omega)]
        have hl := give_len (l := a.buckets) (by omega)
        exact ih (show (give a.buckets).length ≤ m + q by omega) (w.step (by omega))
  intro a w
  exact key a.buckets.length (by omega) w
/-! ### told -/
/-- what take_in makes of an account -/
def took (a : Account) (n s lo hi : Nat) : Account := { a.ends n lo hi with sum := (a.ends n lo hi).sum + s }
theorem took_eq {a : Account} {n s lo hi : Nat} (h : n ≠ 0) : took a n s lo hi =
    { a with least := if a.n = 0 then lo else min a.least lo, most := if a.n = 0 then hi else max a.most hi, n := a.n + n, sum := a.sum + s } := by
  unfold took Account.ends
  rw [if_neg h]
theorem enter_eq {a : Account} {i n : Nat} (h : a.cut = true → a.buckets ≠ []) : a.enter i n = { a with buckets := put (max i (floorOf a)) n a.buckets } := by
  unfold Account.enter floorOf
  by_cases c : a.cut = true
  · rw [if_pos c, if_pos c]
    have hb := h c
    have e : (a.buckets.head?.map fun x => x.1).getD i = low a.buckets := by
      unfold low
      cases q : a.buckets with
      | nil => exact absurd q hb
      | cons x l => rfl
    rw [e]
  · rw [if_neg c, if_neg c, Nat.max_eq_left (Nat.zero_le _)]
theorem add_none {a : Account} {k m v : Nat} : a.add k m v 0 = a := by
  unfold Account.add
  rw [if_pos rfl]
theorem add_zero {a : Account} {k m n : Nat} (h : n ≠ 0) : a.add k m 0 n = { took a n 0 0 0 with zeros := a.zeros + n } := by
  unfold Account.add
  rw [if_neg h]
  simp only [if_true, Nat.zero_mul]
  unfold took Account.ends
  rw [if_neg h]
theorem add_some {a : Account} {k m v n : Nat} (hc : a.cut = true → a.buckets ≠ []) (h : n ≠ 0) (hv : v ≠ 0) :
    a.add k m v n = ({ took a n (v * n) v v with buckets := put (max (bucket k v) (floorOf a)) n a.buckets } : Account).within m := by
  unfold Account.add
  rw [if_neg h]
  simp only [if_neg hv]
  have e1 : ({ a.ends n v v with sum := (a.ends n v v).sum + v * n } : Account) = took a n (v * n) v v := rfl
  rw [e1, took_eq h, enter_eq (by exact hc)]
  rfl
theorem ends_le {b : Account} {lo hi : Nat} (h : b.least ≤ 10 ^ 9 ∧ b.most ≤ 10 ^ 9) (h1 : lo ≤ 10 ^ 9) (h2 : hi ≤ 10 ^ 9) :
    (if b.n = 0 then lo else min b.least lo) ≤ 10 ^ 9 ∧ (if b.n = 0 then hi else max b.most hi) ≤ 10 ^ 9 := by
  split
  · exact ⟨h1, h2⟩
  · exact ⟨Nat.le_trans (Nat.min_le_right _ _) h1, Nat.max_le.mpr ⟨h.2, h2⟩⟩
theorem wf0_told {m : Nat} {a : Account} {k v n : Nat} (w : Wf m a) (h : n ≠ 0) (h3 : 3 ≤ k) (h40 : k ≤ 40) (hv : v ≤ 10 ^ 9) :
    Wf0 ({ took a n (v * n) v v with buckets := put (max (bucket k v) (floorOf a)) n a.buckets } : Account) := by
  rw [took_eq h]
  refine ⟨put_srt w.srt, fun _ e => ?_, ?_, ?_, fun p hp => ?_, ends_le w.ends hv hv⟩
  · have q : max (bucket k v) (floorOf a) ∈ keys (put (max (bucket k v) (floorOf a)) n a.buckets) := keys_put.mpr (Or.inl rfl)
    have e' : put (max (bucket k v) (floorOf a)) n a.buckets = [] := e
    rw [e'] at q
    cases q
  · show a.n + n = a.zeros + tot (put _ n a.buckets)
    rw [tot_put, w.n]
    omega
  · show a.n + n ≠ 0
    omega
  · rcases mem_put (show p ∈ put (max (bucket k v) (floorOf a)) n a.buckets from hp) with e | ⟨z, hz, e⟩
    · rw [e]
      exact Nat.max_le.mpr ⟨bucket_le h3 h40 hv, floor_le w⟩
    · rw [← e]
      exact w.le z hz
theorem wf_add {m : Nat} {a : Account} {k v n : Nat} (w : Wf m a) (hm : 1 ≤ m) (h3 : 3 ≤ k) (h40 : k ≤ 40) (hv : v ≤ 10 ^ 9) : Wf m (a.add k m v n) := by
  by_cases hn : n = 0
  · subst hn
    rw [add_none]
    exact w
  · by_cases h0 : v = 0
    · subst h0
      rw [add_zero hn, took_eq hn]
      refine ⟨w.srt, w.cut, ?_, w.len, fun e => ?_, w.le, ends_le w.ends (Nat.zero_le _) (Nat.zero_le _)⟩
      · show a.n + n = a.zeros + n + tot a.buckets
        rw [w.n]
        omega
      · have : a.n + n = 0 := e
        omega
    · rw [add_some w.cut hn h0]
      exact (wf0_told w hn h3 h40 hv).within hm
/-! ### put together -/
def floors (a b : Account) : Nat := max (floorOf a) (floorOf b)
theorem puts_same {lo : Nat} : ∀ {l : Bk}, Srt l → (∀ p ∈ l, lo ≤ p.1) → puts (fun i => max i lo) [] l = l := by
  intro l s h
  refine srt_ext (puts_srt srt_nil) s (fun j => ?_) fun j => ?_
  · rw [keys_puts]
    constructor
    · rintro (q | ⟨x, hx, e⟩)
      · cases q
      · have := h x hx
        have e' : x.1 = j := by
          have e2 : max x.1 lo = j := e
          rw [Nat.max_eq_left this] at e2
          exact e2
        exact mem_keys.mpr ⟨x.2, by rw [← e']; exact hx⟩
    · intro q
      obtain ⟨c, hc⟩ := mem_keys.mp q
      exact Or.inr ⟨(j, c), hc, Nat.max_eq_left (h _ hc)⟩
  · rw [cnt_puts]
    show 0 + cntBy _ j l = cnt j l
    rw [Nat.zero_add]
    clear s
    induction l with
    | nil => rfl
    | cons x l ih =>
      have e : cntBy (fun i => max i lo) j (x :: l) = (if max x.1 lo = j then x.2 else 0) + cntBy (fun i => max i lo) j l := by
        unfold cntBy
        rw [List.map_cons, List.sum_cons]
      rw [e, ih fun p hp => h p (List.mem_cons_of_mem _ hp), Nat.max_eq_left (h x List.mem_cons_self)]
      rfl
theorem join_eq {a b : Account} {m : Nat} : a.join b m =
    ({ took a b.n b.sum b.least b.most with zeros := a.zeros + b.zeros, buckets := puts (fun i => max i (floors a b)) [] (a.buckets ++ b.buckets), cut := a.cut || b.cut } : Account).within m := by
  unfold Account.join took Account.ends
  by_cases h : b.n = 0
  · simp only [if_pos h]
    rfl
  · simp only [if_neg h]
    rfl
theorem join_none {a : Account} {m : Nat} (w : Wf m a) : a.join empty m = a := by
  rw [join_eq]
  have e1 : took a empty.n empty.sum empty.least empty.most = a := rfl
  have e2 : floors a empty = floorOf a := by
    unfold floors
    exact Nat.max_eq_left (Nat.zero_le _)
  have e3 : a.buckets ++ empty.buckets = a.buckets := List.append_nil _
  have e4 : puts (fun i => max i (floorOf a)) [] a.buckets = a.buckets := puts_same w.srt fun p hp => by
    unfold floorOf
    split
    · exact low_le w.srt p hp
    · exact Nat.zero_le _
  rw [e1, e2, e3, e4]
  have e5 : ({ a with zeros := a.zeros + empty.zeros, buckets := a.buckets, cut := a.cut || empty.cut } : Account) = a := by
    show ({ a with zeros := a.zeros + 0, buckets := a.buckets, cut := a.cut || false } : Account) = a
    rw [Bool.or_false]
    rfl
  rw [e5]
  exact within_done w.len
theorem wf0_joined {m : Nat} {a b : Account} (wa : Wf m a) (wb : Wf m b) (h : b.n ≠ 0) :
    Wf0 ({ took a b.n b.sum b.least b.most with zeros := a.zeros + b.zeros, buckets := puts (fun i => max i (floors a b)) [] (a.buckets ++ b.buckets), cut := a.cut || b.cut } : Account) := by
  rw [took_eq h]
  have hne : a.cut = true ∨ b.cut = true → puts (fun i => max i (floors a b)) [] (a.buckets ++ b.buckets) ≠ [] := by
    intro hc e
    have : a.buckets ++ b.buckets ≠ [] := by
      rcases hc with c | c
      · intro q
        exact wa.cut c (List.append_eq_nil_iff.mp q).1
      · intro q
        exact wb.cut c (List.append_eq_nil_iff.mp q).2
    obtain ⟨x, l, q⟩ := List.exists_cons_of_ne_nil this
    have hk : max x.1 (floors a b) ∈ keys (puts (fun i => max i (floors a b)) [] (a.buckets ++ b.buckets)) := keys_puts.mpr (Or.inr ⟨x, by rw [q]; exact List.mem_cons_self, rfl⟩)
    rw [e] at hk
    cases hk
  refine ⟨show Srt (puts (fun i => max i (floors a b)) [] (a.buckets ++ b.buckets)) from puts_srt srt_nil, fun c => hne ?_, ?_, ?_, fun p hp => ?_, ends_le wa.ends wb.ends.1 wb.ends.2⟩
  · have : (a.cut || b.cut) = true := c
    rcases Bool.or_eq_true _ _ ▸ this with q | q
    · exact Or.inl q
    · exact Or.inr q
  · show a.n + b.n = a.zeros + b.zeros + tot (puts (fun i => max i (floors a b)) [] (a.buckets ++ b.buckets))
    rw [tot_puts, wa.n, wb.n]
    simp [tot]
    omega
  · show a.n + b.n ≠ 0
    omega
  · have hk : p.1 ∈ keys (puts (fun i => max i (floors a b)) [] (a.buckets ++ b.buckets)) := mem_keys.mpr ⟨p.2, hp⟩
    rcases keys_puts.mp hk with q | ⟨x, hx, e⟩
    · cases q
    · rw [← e]
      refine Nat.max_le.mpr ⟨?_, Nat.max_le.mpr ⟨floor_le wa, floor_le wb⟩⟩
      rcases List.mem_append.mp hx with q | q
      · exact wa.le x q
      · exact wb.le x q
theorem wf_join {m : Nat} {a b : Account} (wa : Wf m a) (wb : Wf m b) (hm : 1 ≤ m) : Wf m (a.join b m) := by
  by_cases h : b.n = 0
  · rw [wb.none h, join_none wa]
    exact wa
  · rw [join_eq]
    exact (wf0_joined wa wb h).within hm
/-! ### ranks -/
/-- one turn of the walk over the buckets: where the next one begins, what was found -/
def seekRank (r : Nat) : Nat × Nat → Nat × Nat → Nat × Nat := fun s x => (s.1 + x.2, if s.1 ≤ r then x.1 else s.2)
theorem seek_past {r : Nat} : ∀ {l : Bk} {s : Nat × Nat}, r < s.1 → (l.foldl (seekRank r) s).2 = s.2
  | [], _, _ => rfl
  | x :: l, s, h => by
    show (l.foldl (seekRank r) (seekRank r s x)).2 = s.2
    have e : seekRank r s x = (s.1 + x.2, s.2) := by
      unfold seekRank
      rw [if_neg (by omega)]
    rw [e]
    exact seek_past (l := l) (s := (s.1 + x.2, s.2)) (show r < s.1 + x.2 by omega)
theorem seek_rank {r : Nat} : ∀ {l : Bk} {s : Nat × Nat} {i : Nat}, s.1 ≤ r → rankIn (r - s.1) l = some i → (l.foldl (seekRank r) s).2 = i
  | [], s, i, _, h => by
    unfold rankIn at h
    cases h
  | x :: l, s, i, hs, h => by
    show (l.foldl (seekRank r) (seekRank r s x)).2 = i
    have e : seekRank r s x = (s.1 + x.2, x.1) := by
      unfold seekRank
      rw [if_pos hs]
    rw [e]
    unfold rankIn at h
    split at h
    · rename_i c
      rw [seek_past (l := l) (s := (s.1 + x.2, x.1)) (show r < s.1 + x.2 by omega)]
      exact Option.some.inj h
    · rename_i c
      refine seek_rank (l := l) (s := (s.1 + x.2, x.1)) (show s.1 + x.2 ≤ r by omega) ?_
      show rankIn (r - (s.1 + x.2)) l = some i
      have : r - (s.1 + x.2) = r - s.1 - x.2 := by omega
      rw [this]
      exact h
theorem rank_there : ∀ {l : Bk} {r : Nat}, r < tot l → ∃ i, rankIn r l = some i ∧ i ∈ keys l
  | [], r, h => by simp [tot] at h
  | x :: l, r, h => by
    unfold rankIn
    by_cases c : r < x.2
    · exact ⟨x.1, by rw [if_pos c], by show x.1 ∈ x.1 :: keys l; exact List.mem_cons_self⟩
    · have h' : tot (x :: l) = x.2 + tot l := by simp [tot]
      obtain ⟨i, h1, h2⟩ := rank_there (l := l) (r := r - x.2) (by omega)
      exact ⟨i, by rw [if_neg c]; exact h1, by show i ∈ x.1 :: keys l; exact List.mem_cons_of_mem _ h2⟩
theorem lowest_iff {a : Account} {i : Nat} (h : a.buckets ≠ []) : isLowest a i = decide (i = low a.buckets) := by
  unfold isLowest low
  cases q : a.buckets with
  | nil => exact absurd q h
  | cons x l =>
    show (some x.1 == some i) = decide (i = x.1)
    by_cases e : i = x.1
    · subst e
      simp
    · rw [decide_eq_false e]
      exact beq_eq_false_iff_ne.mpr fun z => e (Option.some.inj z).symm
/-- the two ends of a bucket -/
def loEnd (a : Account) (k i : Nat) : Nat := if a.cut = true ∧ i = low a.buckets then max 1 a.least else max (bottom k i) a.least
def hiEnd (a : Account) (k i : Nat) : Nat := min (top k i) a.most
theorem loEnd_eq {a : Account} {k i : Nat} (h : a.cut = true → a.buckets ≠ []) :
    max (if (a.cut && isLowest a i) = true then 1 else bottom k i) a.least = loEnd a k i := by
  unfold loEnd
  by_cases c : a.cut = true
  · rw [lowest_iff (h c), c]
    by_cases e : i = low a.buckets
    · rw [if_pos (show (true && decide (i = low a.buckets)) = true by rw [decide_eq_true e]; rfl), if_pos (show true = true ∧ i = low a.buckets from ⟨rfl, e⟩)]
    · rw [if_neg (show ¬ (true && decide (i = low a.buckets)) = true by rw [decide_eq_false e]; decide), if_neg (show ¬ (true = true ∧ i = low a.buckets) from fun z => e z.2)]
  · have hf : a.cut = false := by
      cases q : a.cut with
      | true => exact absurd q c
      | false => rfl
    rw [hf, if_neg (show ¬ (false && isLowest a i) = true by rw [Bool.false_and]; decide), if_neg (show ¬ (false = true ∧ i = low a.buckets) from fun z => by cases z.1)]
/-- the ends that the program tells of a rank -/
def endsOf (a : Account) (k r : Nat) : Nat × Nat := if r < a.zeros then (0, 0) else
  (loEnd a k ((a.buckets.foldl (seekRank r) (a.zeros, 0)).2), hiEnd a k ((a.buckets.foldl (seekRank r) (a.zeros, 0)).2))
theorem rank_none {a : Account} {k r : Nat} (h : a.n ≤ r) : a.rank k r = none := by
  unfold Account.rank
  rw [if_pos h]
theorem rank_some {m : Nat} {a : Account} {k r : Nat} (w : Wf m a) (h : r < a.n) : a.rank k r = some (endsOf a k r) := by
  unfold Account.rank endsOf
  rw [if_neg (by omega)]
  by_cases c : r < a.zeros
  · rw [if_pos c, if_pos c]
  · rw [if_neg c, if_neg c]
    have hn := w.n
    obtain ⟨i, h1, h2⟩ := rank_there (l := a.buckets) (r := r - a.zeros) (by omega)
    have e := seek_rank (l := a.buckets) (r := r) (s := (a.zeros, 0)) (i := i) (show a.zeros ≤ r by omega) h1
    rw [e]
    simp only [h1]
    rw [loEnd_eq w.cut]
    rfl
/-- where a rank is counted -/
theorem found_in {m : Nat} {a : Account} {r : Nat} (w : Wf m a) (h : r < a.n) (hz : ¬ r < a.zeros) : (a.buckets.foldl (seekRank r) (a.zeros, 0)).2 ∈ keys a.buckets := by
  have hn := w.n
  obtain ⟨i, h1, h2⟩ := rank_there (l := a.buckets) (r := r - a.zeros) (by omega)
  have e := seek_rank (l := a.buckets) (r := r) (s := (a.zeros, 0)) (i := i) (show a.zeros ≤ r by omega) h1
  rw [e]
  exact h2
theorem top_small {k i : Nat} (h : k ≤ 40) (hi : i ≤ 415) : top k i < 2 ^ 2491 := by
  unfold top
  have h1 : (k + 1) ^ i / (k - 1) ^ i ≤ (k + 1) ^ i := Nat.div_le_self _ _
  have h2 : (k + 1) ^ i ≤ 64 ^ i := Nat.pow_le_pow_left (by omega) i
  have h3 : (64 : Nat) ^ i ≤ 64 ^ 415 := Nat.pow_le_pow_right (by decide) hi
  have h4 : (64 : Nat) ^ 415 < 2 ^ 2491 := by
    have e : (64 : Nat) ^ 415 = 2 ^ (6 * 415) := by rw [Nat.pow_mul]
    rw [e]
    exact Nat.pow_lt_pow_right (by decide) (by decide)
  exact Nat.lt_of_le_of_lt (Nat.le_trans h1 (Nat.le_trans h2 h3)) h4
theorem big_step {x : Nat} (h : x < 2 ^ 2491) : x + 1 < 2 ^ 2492 := by
  have e : (2 : Nat) ^ 2492 = 2 ^ 2491 * 2 := Nat.pow_succ 2 2491
  rw [e]
  have : 0 < (2 : Nat) ^ 2491 := Nat.pow_pos (by decide)
  omega
theorem bottom_small {k i : Nat} (h : k ≤ 40) (hi : i ≤ 415) : bottom k i < 2 ^ 2492 := by
  unfold bottom
  split
  · have : (1 : Nat) < 2 ^ 2492 := Nat.one_lt_two_pow (by decide)
    exact this
  · exact big_step (top_small h (by omega))
theorem val_small {v : Nat} (h : v ≤ 10 ^ 9) : v < 2 ^ 2492 := by
  have h1 : v < 2 ^ 30 := by omega
  have h2 : (2 : Nat) ^ 30 ≤ 2 ^ 2492 := Nat.pow_le_pow_right (by decide) (by decide)
  exact Nat.lt_of_lt_of_le h1 h2
theorem ends_small {m : Nat} {a : Account} {k r : Nat} (w : Wf m a) (h : r < a.n) (hk : k ≤ 40) : (endsOf a k r).1 < 2 ^ 2492 ∧ (endsOf a k r).2 < 2 ^ 2492 := by
  have hp : 0 < (2 : Nat) ^ 2492 := Nat.pow_pos (by decide)
  unfold endsOf
  split
  · exact ⟨hp, hp⟩
  · rename_i hz
    obtain ⟨c, hc⟩ := mem_keys.mp (found_in w h hz)
    have hi := w.le _ hc
    refine ⟨?_, ?_⟩
    · show loEnd a k _ < _
      unfold loEnd
      split
      · exact Nat.max_lt.mpr ⟨Nat.one_lt_two_pow (by decide), val_small w.ends.1⟩
      · exact Nat.max_lt.mpr ⟨bottom_small hk hi, val_small w.ends.1⟩
    · show hiEnd a k _ < _
      unfold hiEnd
      exact Nat.lt_of_le_of_lt (Nat.min_le_right _ _) (val_small w.ends.2)
/-- the number between, as the program tells it -/
def midOf (x y : Nat) : List Nat := if y = 0 then [0, 1] else [2 * x * y / Nat.gcd (2 * x * y) (x + y), (x + y) / Nat.gcd (2 * x * y) (x + y)]
theorem between_eq (p : Nat × Nat) : between p = [p.1, p.2] ++ midOf p.1 p.2 := by
  unfold between midOf
  by_cases h : p.1 + p.2 = 0
  · have h1 : p.1 = 0 := by omega
    have h2 : p.2 = 0 := by omega
    rw [if_pos h, if_pos h2, h1, h2]
    rfl
  · rw [if_neg h]
    by_cases h2 : p.2 = 0
    · rw [if_pos h2, h2]
      have h1 : 0 < p.1 := by omega
      simp [Nat.div_self h1]
    · rw [if_neg h2]
      rfl
end Wb
namespace Wb
open PySem PySem.Spec PyProof.Rows L2
/-! ### the text by places -/
def topS (i : Nat) : Stmt := PySem.Challenge.pw_widebuckets_s01_answers.main.body.getD i (.Pass ⟨0, 0, 0, 0⟩)
abbrev sEnd : Stmt := topS 1
abbrev sBegin : Stmt := topS 2
abbrev sOf : Stmt := topS 3
/-! ### promises -/
def spEnd : Sp := fun vs H Q _ => ∃ k i : Nat, vs = [.int k, .int i] ∧ 3 ≤ k ∧ k ≤ 40 ∧ i ≤ 1000 ∧ Q (.int (Sq39.top k i : Nat)) H
def spBegin : Sp := fun vs H Q _ => ∃ k i : Nat, vs = [.int k, .int i] ∧ 3 ≤ k ∧ k ≤ 40 ∧ i ≤ 1000 ∧ Q (.int (Sq39.bottom k i : Nat)) H
def spOf : Sp := fun vs H Q _ => ∃ k v : Nat, vs = [.int k, .int v] ∧ 3 ≤ k ∧ k ≤ 40 ∧ v ≤ 10 ^ 9 ∧ Q (.int (Sq39.bucket k v : Nat)) H
theorem pow_small {b j : Nat} (h : b ≤ 64) : b ^ j < 2 ^ (6 * j + 1) := by
  have h1 : b ^ j ≤ 64 ^ j := Nat.pow_le_pow_left h j
  have h2 : (64 : Nat) ^ j = 2 ^ (6 * j) := by rw [Nat.pow_mul]
  have h3 : (2 : Nat) ^ (6 * j) < 2 ^ (6 * j + 1) := Nat.pow_lt_pow_right (by decide) (by omega)
  omega
section
variable {P : Program} {w : World} {K : PySem.W.Frag} {mg : Str → Option Value} {base : Heap}
theorem scEnd : FnScope ["fineness", "number", "top", "bottom", "step"] ["fineness", "number"] (defScope sEnd) := ⟨rfl, rfl, rfl, by decide +kernel, rfl, by decide +kernel, by decide +kernel⟩
theorem ok_end {f : Addr} {fd : FuncData} (F : Fun K "bucket_end" "bucket_end" sEnd f fd) (mr : mg "range" = none) : FnOk P w K mg base CX0 1 f fd ["fineness", "number"] spEnd := by
  refine F.ok scEnd (fun vs H Q E h => ?_) (fun cdv A outer s H vs Q E hr h => ?_)
  · obtain ⟨k, i, rfl, _⟩ := h
    rfl
  · obtain ⟨k, i, rfl, h3, h40, hi, q⟩ := h
    refine ⟨_, pss_cons (ps_set (i := 2) scEnd.nd rfl (Or.inl rfl) pe_int) (pss_cons (ps_set (i := 3) scEnd.nd rfl (Or.inl rfl) pe_int)
      (pss_cons (ps_for PassesOwn.never rfl (pi_range1 rfl mr (pa_cons (pv 1) pa_nil)) (pg_name (i := 4) scEnd.nd rfl (Or.inl rfl))
        (pss_cons (ps_set (i := 2) scEnd.nd rfl (Or.inl rfl) (pe_op op_mulW (pv 2) (pe_op op_add (pv 0) pe_int)))
        (pss_one (ps_set (i := 3) scEnd.nd rfl (Or.inl rfl) (pe_op op_mulW (pv 3) (pe_op op_sub (pv 0) pe_int))))))
      (pss_one (ps_ret (pe_op op_fdivW (pv 2) (pv 3)))))), ?_⟩
    have cp : ∀ j, j ≤ i → CMulW (((k + 1) ^ j : Nat) : Int) ((k : Int) + 1) := fun j hj =>
      wide_mul (a := 6 * j + 1) (b := 7) (by rw [Int.natAbs_natCast]; exact pow_small (by omega)) (by show ((k : Int) + 1).natAbs < 128; omega) (by omega) (by omega) (by omega)
    have cm : ∀ j, j ≤ i → CMulW (((k - 1) ^ j : Nat) : Int) ((k : Int) - 1) := fun j hj =>
      wide_mul (a := 6 * j + 1) (b := 7) (by rw [Int.natAbs_natCast]; exact pow_small (by omega)) (by show ((k : Int) - 1).natAbs < 128; omega) (by omega) (by omega) (by omega)
    have ep : ∀ j : Nat, (((k + 1) ^ j : Nat) : Int) * ((k : Int) + 1) = (((k + 1) ^ (j + 1) : Nat) : Int) := fun j => by
      rw [Nat.pow_succ, Int.natCast_mul]
      rfl
    have em : ∀ j : Nat, (((k - 1) ^ j : Nat) : Int) * ((k : Int) - 1) = (((k - 1) ^ (j + 1) : Nat) : Int) := fun j => by
      rw [Nat.pow_succ, Int.natCast_mul]
      congr 1
      omega
    refine ⟨_, rfl, (i : Int), rfl, by omega, by omega, for_range (lo := 0) (n := i) (fun j σ H' => ∃ v : Option V, σ = [some (.int k), some (.int i), some (.int ((k + 1) ^ j : Nat)), some (.int ((k - 1) ^ j : Nat)), v] ∧ H' = H)
      ⟨none, rfl, rfl⟩ ?_ ?_⟩
    · rintro j σ H' hj ⟨v, rfl, rfl⟩
      refine ⟨_, rfl, _, rfl, _, _, rfl, rfl, _, _, rfl, rfl, cp j (by omega), ?_⟩
      refine ⟨_, rfl, _, rfl, _, _, rfl, rfl, _, _, rfl, rfl, cm j (by omega), ?_⟩
      refine ⟨some (.int (0 + (j : Int))), ?_, rfl⟩
      rw [← ep, ← em]
      rfl
    · rintro σ H' ⟨v, rfl, rfl⟩
      refine ⟨_, rfl, _, rfl, _, _, rfl, rfl, wide_div (b := 6 * i + 1) ?_ (by rw [Int.natAbs_natCast]; exact pow_small (by omega)) (by omega) (by omega), ?_⟩
      · have : 0 < (k - 1) ^ i := Nat.pow_pos (by omega)
        omega
      · show Q (.int ((((k + 1) ^ i : Nat) : Int) / (((k - 1) ^ i : Nat) : Int))) _
        rw [← Int.natCast_ediv]
        exact q
theorem scBegin : FnScope ["fineness", "number"] ["fineness", "number"] (defScope sBegin) := ⟨rfl, rfl, rfl, by decide +kernel, rfl, by decide +kernel, by decide +kernel⟩
theorem ok_begin {f f1 : Addr} {fd fd1 : FuncData} (F : Fun K "bucket_begin" "bucket_begin" sBegin f fd) (F1 : Fun K "bucket_end" "bucket_end" sEnd f1 fd1) (b1 : Binds K fd1 ["fineness", "number"] []) (m1 : mg "bucket_end" = some (.ref f1)) (mr : mg "range" = none) :
    FnOk P w K mg base CX0 2 f fd ["fineness", "number"] spBegin := by
  have G1 : FnOk P w K mg base CX0 1 f1 fd1 ["fineness", "number"] spEnd := ok_end F1 mr
  refine F.ok scBegin (fun vs H Q E h => ?_) (fun cdv A outer s H vs Q E hr h => ?_)
  · obtain ⟨k, i, rfl, _⟩ := h
    rfl
  · obtain ⟨k, i, rfl, h3, h40, hi, q⟩ := h
    refine ⟨_, pss_cons (ps_if (pt_cmpR op_eq (pv 1) pe_int (nomark _)) (pss_one (ps_ret pe_int)) pss_nil)
      (pss_one (ps_ret (pe_op op_add (pe_call G1 hr rfl m1 F1.kp b1 .nil pass0 (pa_cons (pv 0) (pa_cons (pe_op op_sub (pv 1) pe_int) pa_nil))) pe_int))), ?_⟩
    refine ⟨_, rfl, rfl, _, rfl, ite2 (fun c => ?_) fun c => ?_⟩
    · have e : i = 0 := by
        have c' : V.int (i : Int) = V.int 0 := of_decide_eq_true c
        have := V.int.inj c'
        omega
      subst e
      exact q
    · have e : i ≠ 0 := fun z => c (decide_eq_true (by rw [z]; rfl))
      refine ⟨_, rfl, _, rfl, _, _, rfl, rfl, k, i - 1, ?_, h3, h40, by omega, _, _, rfl, rfl, ?_⟩
      · show [V.int k, V.int ((i : Int) - 1)] = _
        have : (i : Int) - 1 = ((i - 1 : Nat) : Int) := by omega
        rw [this]
      · have q' : Q (.int (Sq39.bottom k i : Nat)) H := q
        unfold Sq39.bottom at q'
        rw [if_neg e] at q'
        exact q'
theorem scOf : FnScope ["fineness", "value", "number", "top", "bottom"] ["fineness", "value"] (defScope sOf) := ⟨rfl, rfl, rfl, by decide +kernel, rfl, by decide +kernel, by decide +kernel⟩
theorem ok_of {f : Addr} {fd : FuncData} (F : Fun K "bucket_of" "bucket_of" sOf f fd) : FnOk P w K mg base CX0 1 f fd ["fineness", "value"] spOf := by
  refine F.ok scOf (fun vs H Q E h => ?_) (fun cdv A outer s H vs Q E hr h => ?_)
  · obtain ⟨k, i, rfl, _⟩ := h
    rfl
  · obtain ⟨k, v, rfl, h3, h40, hv, q⟩ := h
    refine ⟨_, pss_cons (ps_set (i := 2) scOf.nd rfl (Or.inl rfl) pe_int) (pss_cons (ps_set (i := 3) scOf.nd rfl (Or.inl rfl) pe_int) (pss_cons (ps_set (i := 4) scOf.nd rfl (Or.inl rfl) pe_int)
      (pss_cons (ps_while PassesOwn.never (pt_cmpR op_lt (pv 3) (pe_op op_mulW (pv 1) (pv 4)) (nomark _))
        (pss_cons (ps_set (i := 3) scOf.nd rfl (Or.inl rfl) (pe_op op_mulW (pv 3) (pe_op op_add (pv 0) pe_int)))
        (pss_cons (ps_set (i := 4) scOf.nd rfl (Or.inl rfl) (pe_op op_mulW (pv 4) (pe_op op_sub (pv 0) pe_int)))
        (pss_one (ps_aug (i := 2) scOf.nd rfl (Or.inl rfl) pe_int ip_add)))))
      (pss_one (ps_ret (pv 2)))))), ?_⟩
    have cp : ∀ j, j ≤ 415 → CMulW (((k + 1) ^ j : Nat) : Int) ((k : Int) + 1) := fun j hj =>
      wide_mul (a := 6 * j + 1) (b := 7) (by rw [Int.natAbs_natCast]; exact pow_small (by omega)) (by show ((k : Int) + 1).natAbs < 128; omega) (by omega) (by omega) (by omega)
    have cm : ∀ j, j ≤ 415 → CMulW (((k - 1) ^ j : Nat) : Int) ((k : Int) - 1) := fun j hj =>
      wide_mul (a := 6 * j + 1) (b := 7) (by rw [Int.natAbs_natCast]; exact pow_small (by omega)) (by show ((k : Int) - 1).natAbs < 128; omega) (by omega) (by omega) (by omega)
    have cv : ∀ j, j ≤ 415 → CMulW (v : Int) (((k - 1) ^ j : Nat) : Int) := fun j hj =>
      wide_mul (a := 30) (b := 6 * j + 1) (by rw [Int.natAbs_natCast]; omega) (by rw [Int.natAbs_natCast]; exact pow_small (by omega)) (by omega) (by omega) (by omega)
    have ep : ∀ j : Nat, (((k + 1) ^ j : Nat) : Int) * ((k : Int) + 1) = (((k + 1) ^ (j + 1) : Nat) : Int) := fun j => by
      rw [Nat.pow_succ, Int.natCast_mul]
      rfl
    have em : ∀ j : Nat, (((k - 1) ^ j : Nat) : Int) * ((k : Int) - 1) = (((k - 1) ^ (j + 1) : Nat) : Int) := fun j => by
      rw [Nat.pow_succ, Int.natCast_mul]
      congr 1
      omega
    refine while_by (fun σ H' => ∃ j : Nat, σ = [some (.int k), some (.int v), some (.int (j : Nat)), some (.int ((k + 1) ^ j : Nat)), some (.int ((k - 1) ^ j : Nat))] ∧ H' = H ∧ j ≤ 415 ∧ ∀ i, i < j → ¬ v ≤ Sq39.top k i)
      (fun σ _ => match σ with | [_, _, some (.int j), _, _] => 415 - j.toNat | _ => 0) ⟨0, rfl, rfl, Nat.zero_le _, fun i hi => absurd hi (Nat.not_lt_zero _)⟩ ?_ ?_
    · rintro σ H' ⟨j, rfl, rfl, hj, hl⟩
      refine ⟨_, rfl, _, rfl, _, rfl, _, _, rfl, rfl, cv j hj, _, _, rfl, rfl, _, rfl, ite2 (fun c => ?_) fun c => ?_⟩
      · have c1 : (((k + 1) ^ j : Nat) : Int) < (v : Int) * (((k - 1) ^ j : Nat) : Int) := of_decide_eq_true c
        have c2 : (k + 1) ^ j < v * (k - 1) ^ j := by
          rw [← Int.natCast_mul] at c1
          exact Int.ofNat_lt.mp c1
        have nj : ¬ v ≤ Sq39.top k j := fun z => by
          have := (le_top h3).mp z
          omega
        have j415 : j ≠ 415 := fun z => nj ((le_top h3).mpr (by rw [z]; exact enough h3 h40 hv))
        refine ⟨_, rfl, _, rfl, _, _, rfl, rfl, _, _, rfl, rfl, cp j hj, ?_⟩
        refine ⟨_, rfl, _, rfl, _, _, rfl, rfl, _, _, rfl, rfl, cm j hj, ?_⟩
        refine ⟨_, rfl, _, _, rfl, rfl, ⟨j + 1, ?_, rfl, by omega, fun i hi => ?_⟩, ?_⟩
        · rw [← ep, ← em]
          rfl
        · by_cases e : i = j
          · rw [e]
            exact nj
          · exact hl i (by omega)
        · show 415 - ((j : Int) + 1).toNat < 415 - (j : Int).toNat
          omega
      · have c1 : ¬ (((k + 1) ^ j : Nat) : Int) < (v : Int) * (((k - 1) ^ j : Nat) : Int) := fun z => c (decide_eq_true z)
        have c2 : v * (k - 1) ^ j ≤ (k + 1) ^ j := by
          rw [← Int.natCast_mul] at c1
          exact Nat.le_of_not_lt fun z => c1 (Int.ofNat_lt.mpr z)
        have e : Sq39.bucket k v = j := bucket_eq ((le_top h3).mpr c2) hl hj
        refine ⟨_, rfl, ?_⟩
        rw [e] at q
        exact q
    · intro σ H' Q1 Q2 hq hc
      obtain ⟨a, ha, b, hb, d, hd, i1, i2, e1, e2, c, i3, i4, e3, e4, k1, e5, z⟩ := hc
      exact ⟨a, ha, b, hb, d, hd, i1, i2, e1, e2, c, i3, i4, e3, e4, k1, e5, hq _ _ z⟩
end
end Wb
namespace Wb
open PySem PySem.Spec PyProof.Rows L2
/-! ### tables of the heap -/
def dV (d : Bk) : List (Key × V) := d.map fun p => (Sum.inl (p.1 : Int), V.int (p.2 : Int))
theorem dV_len (d : Bk) : (dV d).length = d.length := List.length_map _
theorem inl_iff {a b : Nat} : (Sum.inl (a : Int) : Key) = Sum.inl (b : Int) ↔ a = b := by
  constructor
  · intro h
    have := Sum.inl.inj h
    omega
  · rintro rfl
    rfl
theorem valV_dV (i : Nat) : ∀ d : Bk, valV (dV d) (Sum.inl (i : Int)) = (dget d i).map fun c => V.int (c : Int)
  | [] => rfl
  | x :: d => by
    have ih := valV_dV i d
    by_cases e : x.1 = i
    · have h1 : valV (dV (x :: d)) (Sum.inl (i : Int)) = some (V.int (x.2 : Int)) := valV_pos (p := (Sum.inl (x.1 : Int), V.int (x.2 : Int))) (inl_iff.mpr e)
      rw [h1]
      unfold dget
      rw [List.find?_cons]
      simp only [e, decide_true]
      rfl
    · have h1 : valV (dV (x :: d)) (Sum.inl (i : Int)) = valV (dV d) (Sum.inl (i : Int)) := valV_neg (p := (Sum.inl (x.1 : Int), V.int (x.2 : Int))) fun z => e (inl_iff.mp z)
      rw [h1, ih]
      unfold dget
      rw [List.find?_cons]
      simp only [e, decide_false]
theorem valV_getD (d : Bk) (i : Nat) : (valV (dV d) (Sum.inl (i : Int))).getD (.int 0) = .int (((dget d i).getD 0 : Nat) : Int) := by
  rw [valV_dV]
  cases dget d i <;> rfl
theorem any_dV (i : Nat) (d : Bk) : (dV d).any (fun kv => decide (kv.1 = Sum.inl (i : Int))) = decide (i ∈ keys d) := by
  rw [valV_any, valV_dV]
  by_cases h : i ∈ keys d
  · rw [decide_eq_true h]
    cases q : dget d i with
    | some c => rfl
    | none =>
      exfalso
      obtain ⟨c, hc⟩ := mem_keys.mp h
      unfold dget at q
      rw [Option.map_eq_none_iff, List.find?_eq_none] at q
      exact q _ hc (by simp)
  · rw [decide_eq_false h, dget_none h]
    rfl
theorem putK_dV (d : Bk) (i v : Nat) : putK (dV d) (Sum.inl (i : Int)) (.int (v : Int)) = dV (dput d i v) := by
  unfold putK dput
  rw [any_dV]
  by_cases h : i ∈ keys d
  · rw [if_pos (decide_eq_true h), if_pos h]
    unfold dV
    rw [List.map_map, List.map_map]
    refine List.map_congr_left fun p _ => ?_
    show (if (Sum.inl (p.1 : Int) : Key) = Sum.inl (i : Int) then (Sum.inl (p.1 : Int), V.int (v : Int)) else (Sum.inl (p.1 : Int), V.int (p.2 : Int))) = _
    by_cases e : p.1 = i
    · rw [if_pos (inl_iff.mpr e)]
      simp only [Function.comp, if_pos e]
    · rw [if_neg fun z => e (inl_iff.mp z)]
      simp only [Function.comp, if_neg e]
  · rw [if_neg (by rw [decide_eq_false h]; decide), if_neg h]
    unfold dV
    rw [List.map_append]
    rfl
def ddrop (d : Bk) (i : Nat) : Bk := d.filter fun p => decide (p.1 ≠ i)
theorem dropK_dV (d : Bk) (i : Nat) : dropK (dV d) (Sum.inl (i : Int)) = dV (ddrop d i) := by
  unfold dropK dV ddrop
  rw [List.filter_map]
  congr 1
  refine List.filter_congr fun p _ => ?_
  show decide ((Sum.inl (p.1 : Int) : Key) ≠ Sum.inl (i : Int)) = decide (p.1 ≠ i)
  by_cases e : p.1 = i
  · rw [decide_eq_false fun z => z (inl_iff.mpr e), decide_eq_false fun z => z e]
  · rw [decide_eq_true (show (Sum.inl (p.1 : Int) : Key) ≠ Sum.inl (i : Int) from fun z => e (inl_iff.mp z)), decide_eq_true (show p.1 ≠ i from e)]
theorem keys_dV (d : Bk) : (dV d).map (·.1) = ((keys d).map fun n : Nat => (n : Int)).map Sum.inl := by
  unfold dV keys
  rw [List.map_map, List.map_map, List.map_map]
  rfl
/-- the lowest leaves -/
theorem ddrop_low {d b : Bk} {x : Nat × Nat} (h : d.Perm (x :: b)) (s : Srt (x :: b)) : (ddrop d x.1).Perm b := by
  have h1 : (ddrop d x.1).Perm (ddrop (x :: b) x.1) := h.filter _
  have h2 : ddrop (x :: b) x.1 = b := by
    unfold ddrop
    rw [List.filter_cons, if_neg (by simp), List.filter_eq_self]
    intro y hy
    have := (srt_cons.mp s).1 y hy
    exact decide_eq_true (by omega)
  rw [h2] at h1
  exact h1
theorem min_low {d b : Bk} {m : Int} (h : d.Perm b) (s : Srt b) (hm : m ∈ (keys d).map fun n : Nat => (n : Int)) (hl : ∀ j ∈ (keys d).map (fun n : Nat => (n : Int)), m ≤ j) : m = (low b : Nat) := by
  have hk : (keys d).Perm (keys b) := h.map _
  obtain ⟨n, hn, rfl⟩ := List.mem_map.mp hm
  have hb : b ≠ [] := fun e => by
    rw [e] at hk
    have := hk.mem_iff.mp hn
    cases this
  obtain ⟨c, hc⟩ := mem_keys.mp (hk.mem_iff.mp hn)
  have h1 := low_le s _ hc
  have h2 := hl (low b : Nat) (List.mem_map.mpr ⟨low b, hk.mem_iff.mpr (low_mem hb), rfl⟩)
  have h1' : low b ≤ n := h1
  omega
/-! ### an account in the heap -/
theorem lk_here {k : Str} {v : V} {r : List (Str × V)} : List.lookup k ((k, v) :: r) = some v := by
  have e : (k == k) = true := beq_self_eq_true k
  simp only [List.lookup, e]
theorem lk_past {k g : Str} {v : V} {r : List (Str × V)} (h : (k == g) = false) : List.lookup k ((g, v) :: r) = List.lookup k r := by
  simp only [List.lookup, h]
theorem put_here {f : Str} {v x : V} {r : List (Str × V)} : putF f v ((f, x) :: r) = (f, v) :: r := if_pos rfl
theorem put_past {f g : Str} {v x : V} {r : List (Str × V)} (h : ¬ g = f) : putF f v ((g, x) :: r) = (g, x) :: putF f v r := if_neg h
def aF (k m : Nat) (a : Sq39.Account) (d : Addr) : List (Str × V) :=
  [("fineness", .int (k : Int)), ("most", .int (m : Int)), ("total", .int (a.n : Int)), ("amount", .int (a.sum : Int)), ("least", .int (a.least : Int)), ("greatest", .int (a.most : Int)), ("zeros", .int (a.zeros : Int)), ("counts", .ref d), ("is_cut", .bl a.cut)]
section
variable {k m : Nat} {a : Sq39.Account} {d : Addr}
theorem aF_fine : (aF k m a d).lookup ("fineness" : Str) = some (.int (k : Int)) := by repeat first | exact lk_here | refine (lk_past (by decide +kernel)).trans ?_
theorem aF_most : (aF k m a d).lookup ("most" : Str) = some (.int (m : Int)) := by repeat first | exact lk_here | refine (lk_past (by decide +kernel)).trans ?_
theorem aF_total : (aF k m a d).lookup ("total" : Str) = some (.int (a.n : Int)) := by repeat first | exact lk_here | refine (lk_past (by decide +kernel)).trans ?_
theorem aF_amount : (aF k m a d).lookup ("amount" : Str) = some (.int (a.sum : Int)) := by repeat first | exact lk_here | refine (lk_past (by decide +kernel)).trans ?_
theorem aF_least : (aF k m a d).lookup ("least" : Str) = some (.int (a.least : Int)) := by repeat first | exact lk_here | refine (lk_past (by decide +kernel)).trans ?_
theorem aF_greatest : (aF k m a d).lookup ("greatest" : Str) = some (.int (a.most : Int)) := by repeat first | exact lk_here | refine (lk_past (by decide +kernel)).trans ?_
theorem aF_zeros : (aF k m a d).lookup ("zeros" : Str) = some (.int (a.zeros : Int)) := by repeat first | exact lk_here | refine (lk_past (by decide +kernel)).trans ?_
theorem aF_counts : (aF k m a d).lookup ("counts" : Str) = some (.ref d) := by repeat first | exact lk_here | refine (lk_past (by decide +kernel)).trans ?_
theorem aF_cut : (aF k m a d).lookup ("is_cut" : Str) = some (.bl a.cut) := by repeat first | exact lk_here | refine (lk_past (by decide +kernel)).trans ?_
theorem aF_no {x : Str} (h : (["fineness", "most", "total", "amount", "least", "greatest", "zeros", "counts", "is_cut"] : List Str).contains x = false) : (aF k m a d).lookup x = none := by
  have hh : ∀ y ∈ (["fineness", "most", "total", "amount", "least", "greatest", "zeros", "counts", "is_cut"] : List Str), (x == y) = false := fun y hy => by
    cases q : (x == y) with
    | false => rfl
    | true =>
      have e := eq_of_beq q
      subst e
      have := List.contains_iff_mem.mpr hy
      rw [h] at this
      cases this
  unfold aF
  repeat refine (lk_past (hh _ (by simp))).trans ?_
  rfl
theorem aF_len : (aF k m a d).length = 9 := rfl
theorem putA_total (x : Nat) : putF "total" (.int (x : Int)) (aF k m a d) = aF k m { a with n := x } d := by repeat first | exact put_here | refine (put_past (by decide +kernel)).trans (congrArg _ ?_)
theorem putA_amount (x : Nat) : putF "amount" (.int (x : Int)) (aF k m a d) = aF k m { a with sum := x } d := by repeat first | exact put_here | refine (put_past (by decide +kernel)).trans (congrArg _ ?_)
theorem putA_least (x : Nat) : putF "least" (.int (x : Int)) (aF k m a d) = aF k m { a with least := x } d := by repeat first | exact put_here | refine (put_past (by decide +kernel)).trans (congrArg _ ?_)
theorem putA_greatest (x : Nat) : putF "greatest" (.int (x : Int)) (aF k m a d) = aF k m { a with most := x } d := by repeat first | exact put_here | refine (put_past (by decide +kernel)).trans (congrArg _ ?_)
theorem putA_zeros (x : Nat) : putF "zeros" (.int (x : Int)) (aF k m a d) = aF k m { a with zeros := x } d := by repeat first | exact put_here | refine (put_past (by decide +kernel)).trans (congrArg _ ?_)
theorem putA_counts (e : Addr) : putF "counts" (.ref e) (aF k m a d) = aF k m a e := by repeat first | exact put_here | refine (put_past (by decide +kernel)).trans (congrArg _ ?_)
theorem putA_cut (x : Bool) : putF "is_cut" (.bl x) (aF k m a d) = aF k m { a with cut := x } d := by repeat first | exact put_here | refine (put_past (by decide +kernel)).trans (congrArg _ ?_)
end
/-- the account a stands at x, its table at d -/
structure AccAt (C : Addr) (H : Hp) (x d : Addr) (k m : Nat) (a : Sq39.Account) : Prop where
  ex : ∃ dx, H x = some (.ins C dx (aF k m a d))
  tab : ∃ ds : Bk, H d = some (.dK (dV ds)) ∧ ds.Perm a.buckets
  srt : Srt a.buckets
/-- all but x and d is as it was -/
def Keep (x d : Addr) (H H' : Hp) : Prop := ∀ b o, H b = some o → b ≠ x → b ≠ d → H' b = some o
theorem Keep.refl {x d : Addr} {H : Hp} : Keep x d H H := fun _ _ h _ _ => h
theorem Keep.trans {x d : Addr} {H H1 H2 : Hp} (a : Keep x d H H1) (b : Keep x d H1 H2) : Keep x d H H2 := fun c o h n1 n2 => b c o (a c o h n1 n2) n1 n2
theorem Keep.updx {x d : Addr} {H : Hp} {o : HO} : Keep x d H (upd H x o) := fun b _ h n _ => by rw [upd_ne n]; exact h
theorem Keep.updd {x d : Addr} {H : Hp} {o : HO} : Keep x d H (upd H d o) := fun b _ h _ n => by rw [upd_ne n]; exact h
section
variable {C x d : Addr} {H : Hp} {k m : Nat} {a : Sq39.Account}
theorem AccAt.ne (A : AccAt C H x d k m a) : x ≠ d := by
  obtain ⟨dx, h1⟩ := A.ex
  obtain ⟨ds, h2, _⟩ := A.tab
  exact ne_of h1 h2 (by intro z; cases z)
/-- the object's own values change -/
theorem AccAt.obj {a' : Sq39.Account} (A : AccAt C H x d k m a) {dx : Addr} (e : a'.buckets = a.buckets) : AccAt C (upd H x (.ins C dx (aF k m a' d))) x d k m a' := by
  obtain ⟨ds, h2, h3⟩ := A.tab
  exact ⟨⟨dx, upd_same⟩, ⟨ds, by rw [upd_ne (Ne.symm A.ne)]; exact h2, by rw [e]; exact h3⟩, by rw [e]; exact A.srt⟩
/-- the table changes -/
theorem AccAt.table (A : AccAt C H x d k m a) {ds b : Bk} (h : ds.Perm b) (s : Srt b) : AccAt C (upd H d (.dK (dV ds))) x d k m { a with buckets := b } := by
  obtain ⟨dx, h1⟩ := A.ex
  exact ⟨⟨dx, by rw [upd_ne A.ne]; exact h1⟩, ⟨ds, upd_same, h⟩, s⟩
theorem AccAt.keep {H' : Hp} (A : AccAt C H x d k m a) (s : ∀ b o, H b = some o → (b = x ∨ b = d) → H' b = some o) : AccAt C H' x d k m a := by
  obtain ⟨dx, h1⟩ := A.ex
  obtain ⟨ds, h2, h3⟩ := A.tab
  exact ⟨⟨dx, s _ _ h1 (Or.inl rfl)⟩, ⟨ds, s _ _ h2 (Or.inr rfl), h3⟩, A.srt⟩
end
/-! ### what the top has written -/
structure Txt (K : PySem.W.Frag) (mg : Str → Option Value) (C : Addr) : Prop where
  cl : Cls K C
  nFine : NoAttr K C "fineness"
  nMost : NoAttr K C "most"
  nTotal : NoAttr K C "total"
  nAmount : NoAttr K C "amount"
  nLeast : NoAttr K C "least"
  nGreatest : NoAttr K C "greatest"
  nZeros : NoAttr K C "zeros"
  nCounts : NoAttr K C "counts"
  nCut : NoAttr K C "is_cut"
  gC : mg "Account" = some (.ref C)
  len : mg "len" = none
  min : mg "min" = none
  max : mg "max" = none
  range : mg "range" = none
  sorted : mg "sorted" = none
/-! ### promises -/
def spNew (C : Addr) : Sp := fun vs H Q _ => ∃ (p dx : Addr) (k m : Nat), vs = [.ref p, .int (k : Int), .int (m : Int)] ∧ H p = some (.ins C dx []) ∧
  ∀ (H' : Hp) (d : Addr), H d = none → AccAt C H' p d k m Sq39.empty → (∀ b o, H b = some o → b ≠ p → H' b = some o) → Q .non H'
def spTake (C : Addr) : Sp := fun vs H Q _ => ∃ (x d : Addr) (k m : Nat) (a : Sq39.Account) (n s lo hi : Nat), vs = [.ref x, .int (n : Int), .int (s : Int), .int (lo : Int), .int (hi : Int)] ∧ AccAt C H x d k m a ∧ n ≠ 0 ∧
  ∀ H' : Hp, AccAt C H' x d k m (took a n s lo hi) → Keep x d H H' → Q .non H'
def spFloor (C : Addr) : Sp := fun vs H Q _ => ∃ (x d : Addr) (k m : Nat) (a : Sq39.Account), vs = [.ref x] ∧ AccAt C H x d k m a ∧ (a.cut = true → a.buckets ≠ []) ∧ Q (.int (floorOf a : Nat)) H
def spCount (C : Addr) : Sp := fun vs H Q _ => ∃ (x d : Addr) (k m : Nat) (a : Sq39.Account) (i n : Nat), vs = [.ref x, .int (i : Int), .int (n : Int)] ∧ AccAt C H x d k m a ∧ a.buckets.length ≤ 1000 ∧
  ∀ H' : Hp, AccAt C H' x d k m { a with buckets := Sq39.put i n a.buckets } → Keep x d H H' → Q .non H'
def spGive (C : Addr) : Sp := fun vs H Q _ => ∃ (x d : Addr) (k m : Nat) (a : Sq39.Account), vs = [.ref x] ∧ AccAt C H x d k m a ∧ 1 ≤ m ∧ a.buckets.length ≤ 1000 ∧
  ∀ H' : Hp, AccAt C H' x d k m (a.within m) → Keep x d H H' → Q .non H'
def spTell (C : Addr) : Sp := fun vs H Q _ => ∃ (x d : Addr) (k m : Nat) (a : Sq39.Account) (v n : Nat), vs = [.ref x, .int (v : Int), .int (n : Int)] ∧ AccAt C H x d k m a ∧ Wf m a ∧ 1 ≤ m ∧ m ≤ 200 ∧ 3 ≤ k ∧ k ≤ 40 ∧ v ≤ 10 ^ 9 ∧ n ≤ 10 ^ 6 ∧
  ∀ H' : Hp, AccAt C H' x d k m (a.add k m v n) → Keep x d H H' → Q .non H'
abbrev sNew : Stmt := inClass (topS 5) 0
abbrev sTell : Stmt := inClass (topS 5) 1
abbrev sJoin : Stmt := inClass (topS 5) 2
abbrev sTake : Stmt := inClass (topS 5) 3
abbrev sFloor : Stmt := inClass (topS 5) 4
abbrev sCount : Stmt := inClass (topS 5) 5
abbrev sGive : Stmt := inClass (topS 5) 6
abbrev sBoth : Stmt := topS 6
section
variable {P : Program} {w : World} {K : PySem.W.Frag} {mg : Str → Option Value} {base : Heap} {C : Addr}
theorem scNew : FnScope ["self", "fineness", "most"] ["self", "fineness", "most"] (defScope sNew) := ⟨rfl, rfl, rfl, by decide +kernel, rfl, by decide +kernel, by decide +kernel⟩
theorem new_fields (k m : Nat) (d : Addr) : putF "is_cut" (V.bl false) (putF "counts" (V.ref d) (putF "zeros" (V.int 0) (putF "greatest" (V.int 0) (putF "least" (V.int 0) (putF "amount" (V.int 0) (putF "total" (V.int 0) (putF "most" (V.int (m : Int)) (putF "fineness" (V.int (k : Int)) (([] : List (Str × V))))))))))) = aF k m Sq39.empty d := by
  have e1 : putF "fineness" (V.int (k : Int)) ([] : List (Str × V)) = ([(("fineness" : Str), V.int (k : Int))] : List (Str × V)) := rfl
  rw [e1]
  have e2 : putF "most" (V.int (m : Int)) ([(("fineness" : Str), V.int (k : Int))] : List (Str × V)) = ([(("fineness" : Str), V.int (k : Int)), (("most" : Str), V.int (m : Int))] : List (Str × V)) := by repeat first | exact (rfl : putF "most" (V.int (m : Int)) ([] : List (Str × V)) = [(("most" : Str), V.int (m : Int))]) | refine (put_past (by decide +kernel)).trans (congrArg _ ?_)
  rw [e2]
  have e3 : putF "total" (V.int 0) ([(("fineness" : Str), V.int (k : Int)), (("most" : Str), V.int (m : Int))] : List (Str × V)) = ([(("fineness" : Str), V.int (k : Int)), (("most" : Str), V.int (m : Int)), (("total" : Str), V.int 0)] : List (Str × V)) := by repeat first | exact (rfl : putF "total" (V.int 0) ([] : List (Str × V)) = [(("total" : Str), V.int 0)]) | refine (put_past (by decide +kernel)).trans (congrArg _ ?_)
  rw [e3]
  have e4 : putF "amount" (V.int 0) ([(("fineness" : Str), V.int (k : Int)), (("most" : Str), V.int (m : Int)), (("total" : Str), V.int 0)] : List (Str × V)) = ([(("fineness" : Str), V.int (k : Int)), (("most" : Str), V.int (m : Int)), (("total" : Str), V.int 0), (("amount" : Str), V.int 0)] : List (Str × V)) := by repeat first | exact (rfl : putF "amount" (V.int 0) ([] : List (Str × V)) = [(("amount" : Str), V.int 0)]) | refine (put_past (by decide +kernel)).trans (congrArg _ ?_)
  rw [e4]
  have e5 : putF "least" (V.int 0) ([(("fineness" : Str), V.int (k : Int)), (("most" : Str), V.int (m : Int)), (("total" : Str), V.int 0), (("amount" : Str), V.int 0)] : List (Str × V)) = ([(("fineness" : Str), V.int (k : Int)), (("most" : Str), V.int (m : Int)), (("total" : Str), V.int 0), (("amount" : Str), V.int 0), (("least" : Str), V.int 0)] : List (Str × V)) := by repeat first | exact (rfl : putF "least" (V.int 0) ([] : List (Str × V)) = [(("least" : Str), V.int 0)]) | refine (put_past (by decide +kernel)).trans (congrArg _ ?_)
  rw [e5]
  have e6 : putF "greatest" (V.int 0) ([(("fineness" : Str), V.int (k : Int)), (("most" : Str), V.int (m : Int)), (("total" : Str), V.int 0), (("amount" : Str), V.int 0), (("least" : Str), V.int 0)] : List (Str × V)) = ([(("fineness" : Str), V.int (k : Int)), (("most" : Str), V.int (m : Int)), (("total" : Str), V.int 0), (("amount" : Str), V.int 0), (("least" : Str), V.int 0), (("greatest" : Str), V.int 0)] : List (Str × V)) := by repeat first | exact (rfl : putF "greatest" (V.int 0) ([] : List (Str × V)) = [(("greatest" : Str), V.int 0)]) | refine (put_past (by decide +kernel)).trans (congrArg _ ?_)
  rw [e6]
  have e7 : putF "zeros" (V.int 0) ([(("fineness" : Str), V.int (k : Int)), (("most" : Str), V.int (m : Int)), (("total" : Str), V.int 0), (("amount" : Str), V.int 0), (("least" : Str), V.int 0), (("greatest" : Str), V.int 0)] : List (Str × V)) = ([(("fineness" : Str), V.int (k : Int)), (("most" : Str), V.int (m : Int)), (("total" : Str), V.int 0), (("amount" : Str), V.int 0), (("least" : Str), V.int 0), (("greatest" : Str), V.int 0), (("zeros" : Str), V.int 0)] : List (Str × V)) := by repeat first | exact (rfl : putF "zeros" (V.int 0) ([] : List (Str × V)) = [(("zeros" : Str), V.int 0)]) | refine (put_past (by decide +kernel)).trans (congrArg _ ?_)
  rw [e7]
  have e8 : putF "counts" (V.ref d) ([(("fineness" : Str), V.int (k : Int)), (("most" : Str), V.int (m : Int)), (("total" : Str), V.int 0), (("amount" : Str), V.int 0), (("least" : Str), V.int 0), (("greatest" : Str), V.int 0), (("zeros" : Str), V.int 0)] : List (Str × V)) = ([(("fineness" : Str), V.int (k : Int)), (("most" : Str), V.int (m : Int)), (("total" : Str), V.int 0), (("amount" : Str), V.int 0), (("least" : Str), V.int 0), (("greatest" : Str), V.int 0), (("zeros" : Str), V.int 0), (("counts" : Str), V.ref d)] : List (Str × V)) := by repeat first | exact (rfl : putF "counts" (V.ref d) ([] : List (Str × V)) = [(("counts" : Str), V.ref d)]) | refine (put_past (by decide +kernel)).trans (congrArg _ ?_)
  rw [e8]
  have e9 : putF "is_cut" (V.bl false) ([(("fineness" : Str), V.int (k : Int)), (("most" : Str), V.int (m : Int)), (("total" : Str), V.int 0), (("amount" : Str), V.int 0), (("least" : Str), V.int 0), (("greatest" : Str), V.int 0), (("zeros" : Str), V.int 0), (("counts" : Str), V.ref d)] : List (Str × V)) = ([(("fineness" : Str), V.int (k : Int)), (("most" : Str), V.int (m : Int)), (("total" : Str), V.int 0), (("amount" : Str), V.int 0), (("least" : Str), V.int 0), (("greatest" : Str), V.int 0), (("zeros" : Str), V.int 0), (("counts" : Str), V.ref d), (("is_cut" : Str), V.bl false)] : List (Str × V)) := by repeat first | exact (rfl : putF "is_cut" (V.bl false) ([] : List (Str × V)) = [(("is_cut" : Str), V.bl false)]) | refine (put_past (by decide +kernel)).trans (congrArg _ ?_)
  rw [e9]
  rfl
theorem put_len (f : Str) (v : V) : ∀ fs : List (Str × V), (putF f v fs).length ≤ fs.length + 1
  | [] => Nat.le_refl _
  | (g, x) :: r => by
    unfold putF
    split
    · simp
    · have := put_len f v r
      simp
      exact this
theorem ok_new {f : Addr} {fd : FuncData} (F : Fun K "__init__" "Account.__init__" sNew f fd) (T : Txt K mg C) : FnOk P w K mg base CX0 1 f fd ["self", "fineness", "most"] (spNew C) := by
  refine F.ok scNew (fun vs H Q E h => ?_) (fun cdv A outer s H vs Q E hr h => ?_)
  · obtain ⟨p, dx, k, m, rfl, _⟩ := h
    rfl
  · obtain ⟨p, dx, k, m, rfl, hp, q⟩ := h
    refine ⟨_, pss_cons (ps_fld (pv 0) (pv 1) rfl) (pss_cons (ps_fld (pv 0) (pv 2) rfl) (pss_cons (ps_fld (pv 0) pe_int rfl) (pss_cons (ps_fld (pv 0) pe_int rfl) (pss_cons (ps_fld (pv 0) pe_int rfl)
      (pss_cons (ps_fld (pv 0) pe_int rfl) (pss_cons (ps_fld (pv 0) pe_int rfl) (pss_cons (ps_fld (pv 0) pe_dnewK rfl) (pss_one (ps_fld (pv 0) pe_bl rfl))))))))), ?_⟩
    refine ⟨_, rfl, _, rfl, p, C, dx, [], rfl, hp, T.cl, T.nFine, (by show 0 < 1000; decide), ?_⟩
    refine ⟨_, rfl, _, rfl, p, C, dx, _, rfl, upd_same, T.cl, T.nMost, (by show 1 < 1000; decide), ?_⟩
    have l2 := put_len "most" (.int (m : Int)) (putF "fineness" (.int (k : Int)) [])
    have l1 := put_len "fineness" (.int (k : Int)) []
    have l0 : ([] : List (Str × V)).length = 0 := rfl
    refine ⟨_, rfl, p, C, dx, _, rfl, upd_same, T.cl, T.nTotal, (by omega), ?_⟩
    have l3 := put_len "total" (.int 0) (putF "most" (.int (m : Int)) (putF "fineness" (.int (k : Int)) []))
    refine ⟨_, rfl, p, C, dx, _, rfl, upd_same, T.cl, T.nAmount, (by omega), ?_⟩
    have l4 := put_len "amount" (.int 0) (putF "total" (.int 0) (putF "most" (.int (m : Int)) (putF "fineness" (.int (k : Int)) [])))
    refine ⟨_, rfl, p, C, dx, _, rfl, upd_same, T.cl, T.nLeast, (by omega), ?_⟩
    have l5 := put_len "least" (.int 0) (putF "amount" (.int 0) (putF "total" (.int 0) (putF "most" (.int (m : Int)) (putF "fineness" (.int (k : Int)) []))))
    refine ⟨_, rfl, p, C, dx, _, rfl, upd_same, T.cl, T.nGreatest, (by omega), ?_⟩
    have l6 := put_len "greatest" (.int 0) (putF "least" (.int 0) (putF "amount" (.int 0) (putF "total" (.int 0) (putF "most" (.int (m : Int)) (putF "fineness" (.int (k : Int)) [])))))
    refine ⟨_, rfl, p, C, dx, _, rfl, upd_same, T.cl, T.nZeros, (by omega), ?_⟩
    have l7 := put_len "zeros" (.int 0) (putF "greatest" (.int 0) (putF "least" (.int 0) (putF "amount" (.int 0) (putF "total" (.int 0) (putF "most" (.int (m : Int)) (putF "fineness" (.int (k : Int)) []))))))
    intro d hd
    have hdp : d ≠ p := fun z => by
      rw [z, upd_same] at hd
      cases hd
    refine ⟨_, rfl, p, C, dx, _, rfl, (by rw [upd_ne (Ne.symm hdp)]; exact upd_same), T.cl, T.nCounts, (by omega), ?_⟩
    have l8 := put_len "counts" (.ref d) (putF "zeros" (.int 0) (putF "greatest" (.int 0) (putF "least" (.int 0) (putF "amount" (.int 0) (putF "total" (.int 0) (putF "most" (.int (m : Int)) (putF "fineness" (.int (k : Int)) [])))))))
    refine ⟨_, rfl, p, C, dx, _, rfl, upd_same, T.cl, T.nCut, (by omega), ?_⟩
    have hd0 : H d = none := by
      rw [upd_ne hdp, upd_ne hdp, upd_ne hdp, upd_ne hdp, upd_ne hdp, upd_ne hdp, upd_ne hdp] at hd
      exact hd
    refine q _ d hd0 ⟨⟨dx, ?_⟩, ⟨[], ?_, List.Perm.refl _⟩, srt_nil⟩ fun b o e hb => ?_
    · rw [upd_same, new_fields]
    · rw [upd_ne hdp, upd_ne hdp, upd_same]
      rfl
    · have hbd : b ≠ d := ne_of_none e hd0
      rw [upd_ne hb, upd_ne hb, upd_ne hbd, upd_ne hb, upd_ne hb, upd_ne hb, upd_ne hb, upd_ne hb, upd_ne hb, upd_ne hb]
      exact e
end
end Wb
namespace Wb
open PySem PySem.Spec PyProof.Rows L2
section
variable {P : Program} {w : World} {K : PySem.W.Frag} {mg : Str → Option Value} {base : Heap} {C : Addr}
theorem int0 {n : Nat} : V.int (n : Int) = V.int 0 ↔ n = 0 := by
  constructor
  · intro h
    have := V.int.inj h
    omega
  · rintro rfl
    rfl
theorem min_nat (a b : Nat) : (if (b : Int) < (a : Int) then (b : Int) else (a : Int)) = ((min a b : Nat) : Int) := by
  by_cases h : b < a
  · rw [if_pos (by omega), Nat.min_eq_right (by omega)]
  · rw [if_neg (by omega), Nat.min_eq_left (by omega)]
theorem max_nat (a b : Nat) : (if (b : Int) > (a : Int) then (b : Int) else (a : Int)) = ((max a b : Nat) : Int) := by
  by_cases h : a < b
  · rw [if_pos (by omega), Nat.max_eq_right (by omega)]
  · rw [if_neg (by omega), Nat.max_eq_left (by omega)]
/-! take_in -/
theorem scTake : FnScope ["self", "total", "amount", "least", "greatest"] ["self", "total", "amount", "least", "greatest"] (defScope sTake) := ⟨rfl, rfl, rfl, by decide +kernel, rfl, by decide +kernel, by decide +kernel⟩
theorem ok_take {f : Addr} {fd : FuncData} (F : Fun K "take_in" "Account.take_in" sTake f fd) (T : Txt K mg C) : FnOk P w K mg base CX0 1 f fd ["self", "total", "amount", "least", "greatest"] (spTake C) := by
  refine F.ok scTake (fun vs H Q E h => ?_) (fun cdv A outer s H vs Q E hr h => ?_)
  · obtain ⟨x, d, k, m, a, n, s, lo, hi, rfl, _⟩ := h
    rfl
  · obtain ⟨x, d, k, m, a, n, sm, lo, hi, rfl, hA, hn, q⟩ := h
    refine ⟨_, pss_cons (ps_if (pt_cmpR op_eq (pe_fld (pv 0) rfl) pe_int (nomark _))
        (pss_cons (ps_fld (pv 0) (pv 3) rfl) (pss_one (ps_fld (pv 0) (pv 4) rfl)))
        (pss_cons (ps_fld (pv 0) (pe_callB (call_min2 rfl) (by rfl) T.min (by decide +kernel) (pa_cons (pe_fld (pv 0) rfl) (pa_cons (pv 3) pa_nil))) rfl)
        (pss_one (ps_fld (pv 0) (pe_callB (call_max2 rfl) (by rfl) T.max (by decide +kernel) (pa_cons (pe_fld (pv 0) rfl) (pa_cons (pv 4) pa_nil))) rfl))))
      (pss_cons (ps_fldaug (pv 0) (pv 1) in_add) (pss_one (ps_fldaug (pv 0) (pv 2) in_add))), ?_⟩
    obtain ⟨dx, hx⟩ := hA.ex
    rw [took_eq hn] at q
    -- what is common: the two sums at the end
    have fin : ∀ (H1 : Hp) (a1 : Sq39.Account), AccAt C H1 x d k m a1 → Keep x d H H1 → a1.n = a.n → a1.sum = a.sum → ({ a1 with n := a.n + n, sum := a.sum + sm } : Sq39.Account) = { a with least := if a.n = 0 then lo else min a.least lo, most := if a.n = 0 then hi else max a.most hi, n := a.n + n, sum := a.sum + sm } →
        tSeq (sFldAug K (tVar 0) (tVar 1) rAdd "total") (sFldAug K (tVar 0) (tVar 2) rAdd "amount") { nx := fun _ H' => Q .non H', rt := Q }
          [some (.ref x), some (.int (n : Int)), some (.int (sm : Int)), some (.int (lo : Int)), some (.int (hi : Int))] H1 := by
      intro H1 a1 h1 kp en es e
      obtain ⟨dx1, hx1⟩ := h1.ex
      refine ⟨_, rfl, x, C, dx1, _, _, rfl, hx1, T.cl, T.nTotal, aF_total, _, rfl, _, _, rfl, rfl, dx1, _, hx1, (by rw [aF_len]; decide), ?_⟩
      have e1 : putF "total" (.int ((a1.n : Int) + (n : Int))) (aF k m a1 d) = aF k m { a1 with n := a.n + n } d := by
        have := putA_total (k := k) (m := m) (a := a1) (d := d) (a.n + n)
        rw [← this, en, Int.natCast_add]
      rw [e1]
      have h2 : AccAt C (upd H1 x (.ins C dx1 (aF k m { a1 with n := a.n + n } d))) x d k m { a1 with n := a.n + n } := h1.obj rfl
      refine ⟨_, rfl, x, C, dx1, _, _, rfl, upd_same, T.cl, T.nAmount, aF_amount, _, rfl, _, _, rfl, rfl, dx1, _, upd_same, (by rw [aF_len]; decide), ?_⟩
      have e2 : putF "amount" (.int ((({ a1 with n := a.n + n } : Sq39.Account).sum : Int) + (sm : Int))) (aF k m { a1 with n := a.n + n } d) = aF k m { a1 with n := a.n + n, sum := a.sum + sm } d := by
        have := putA_amount (k := k) (m := m) (a := { a1 with n := a.n + n }) (d := d) (a.sum + sm)
        rw [← this]
        show putF "amount" (.int ((a1.sum : Int) + (sm : Int))) _ = _
        rw [es, Int.natCast_add]
      rw [e2, e]
      refine q _ ?_ ((kp.trans Keep.updx).trans Keep.updx)
      have h3 := h2.obj (a' := { a1 with n := a.n + n, sum := a.sum + sm }) (dx := dx1) rfl
      rw [e] at h3
      exact h3
    refine ⟨_, rfl, x, C, dx, _, _, rfl, hx, T.cl, T.nTotal, aF_total, rfl, _, rfl, ite2 (fun c => ?_) fun c => ?_⟩
    · have e0 : a.n = 0 := int0.mp (of_decide_eq_true c)
      refine ⟨_, rfl, _, rfl, x, C, dx, _, rfl, hx, T.cl, T.nLeast, (by rw [aF_len]; decide), ?_⟩
      rw [putA_least]
      refine ⟨_, rfl, _, rfl, x, C, dx, _, rfl, upd_same, T.cl, T.nGreatest, (by rw [aF_len]; decide), ?_⟩
      rw [putA_greatest]
      refine fin _ { a with least := lo, most := hi } ((hA.obj (a' := { a with least := lo }) rfl).obj rfl) (Keep.updx.trans Keep.updx) rfl rfl ?_
      rw [if_pos e0, if_pos e0]
    · have e0 : ¬ a.n = 0 := fun z => c (decide_eq_true (int0.mpr z))
      refine ⟨_, rfl, x, C, dx, _, _, rfl, hx, T.cl, T.nLeast, aF_least, _, rfl, _, _, rfl, ?_⟩
      rw [min_nat]
      refine ⟨_, rfl, x, C, dx, _, rfl, hx, T.cl, T.nLeast, (by rw [aF_len]; decide), ?_⟩
      rw [putA_least]
      refine ⟨_, rfl, x, C, dx, _, _, rfl, upd_same, T.cl, T.nGreatest, aF_greatest, _, rfl, _, _, rfl, ?_⟩
      rw [max_nat]
      refine ⟨_, rfl, x, C, dx, _, rfl, upd_same, T.cl, T.nGreatest, (by rw [aF_len]; decide), ?_⟩
      rw [putA_greatest]
      refine fin _ { a with least := min a.least lo, most := max a.most hi } ((hA.obj (a' := { a with least := min a.least lo }) rfl).obj rfl) (Keep.updx.trans Keep.updx) rfl rfl ?_
      rw [if_neg e0, if_neg e0]
/-! floor -/
theorem scFloor : FnScope ["self"] ["self"] (defScope sFloor) := ⟨rfl, rfl, rfl, by decide +kernel, rfl, by decide +kernel, by decide +kernel⟩
theorem ok_floor {f : Addr} {fd : FuncData} (F : Fun K "floor" "Account.floor" sFloor f fd) (T : Txt K mg C) : FnOk P w K mg base CX0 1 f fd ["self"] (spFloor C) := by
  refine F.ok scFloor (fun vs H Q E h => ?_) (fun cdv A outer s H vs Q E hr h => ?_)
  · obtain ⟨x, d, k, m, a, rfl, _⟩ := h
    rfl
  · obtain ⟨x, d, k, m, a, rfl, hA, hc, q⟩ := h
    refine ⟨_, pss_cons (ps_if (pt_val (pe_fld (pv 0) rfl)) (pss_one (ps_ret (pe_callB (cr_minK rfl) (by rfl) T.min (by decide +kernel) (pa_cons (pe_fld (pv 0) rfl) pa_nil)))) pss_nil) (pss_one (ps_ret pe_int)), ?_⟩
    obtain ⟨dx, hx⟩ := hA.ex
    obtain ⟨ds, hd, hp⟩ := hA.tab
    refine ⟨_, rfl, x, C, dx, _, _, rfl, hx, T.cl, T.nCut, aF_cut, _, rfl, ite2 (fun c => ?_) fun c => ?_⟩
    · have hb := hc c
      refine ⟨_, rfl, x, C, dx, _, _, rfl, hx, T.cl, T.nCounts, aF_counts, d, _, (keys ds).map (fun n : Nat => (n : Int)), rfl, hd, keys_dV ds, ?_, fun mm h1 h2 => ?_⟩
      · intro z
        have z2 : keys ds = [] := List.map_eq_nil_iff.mp z
        have z3 : ds = [] := List.map_eq_nil_iff.mp z2
        rw [z3] at hp
        exact hb hp.nil_eq.symm
      · have e := min_low hp hA.srt h1 h2
        rw [e]
        unfold floorOf at q
        rw [if_pos c] at q
        exact q
    · unfold floorOf at q
      rw [if_neg c] at q
      exact q
/-! count_in -/
theorem scCount : FnScope ["self", "number", "times"] ["self", "number", "times"] (defScope sCount) := ⟨rfl, rfl, rfl, by decide +kernel, rfl, by decide +kernel, by decide +kernel⟩
theorem ok_count {f : Addr} {fd : FuncData} (F : Fun K "count_in" "Account.count_in" sCount f fd) (T : Txt K mg C) : FnOk P w K mg base CX0 1 f fd ["self", "number", "times"] (spCount C) := by
  refine F.ok scCount (fun vs H Q E h => ?_) (fun cdv A outer s H vs Q E hr h => ?_)
  · obtain ⟨x, d, k, m, a, i, n, rfl, _⟩ := h
    rfl
  · obtain ⟨x, d, k, m, a, i, n, rfl, hA, hl, q⟩ := h
    have hu := hu_of hr
    refine ⟨_, pss_one (ps_dput hu (pe_fld (pv 0) rfl) (pv 1) (pe_op op_add (pe_dget2 hu (pe_fld (pv 0) rfl) (pv 1) pe_int ⟨rfl, rfl, rfl, rfl⟩) (pv 2)) rfl), ?_⟩
    obtain ⟨dx, hx⟩ := hA.ex
    obtain ⟨ds, hd, hp⟩ := hA.tab
    refine ⟨_, rfl, x, C, dx, _, _, rfl, hx, T.cl, T.nCounts, aF_counts, d, rfl, .inl ⟨_, .inl hd⟩, _, rfl, _, DGet.k (k := Sum.inl (i : Int)) hd, ?_⟩
    rw [valV_getD]
    refine ⟨_, rfl, _, _, rfl, rfl, ?_⟩
    refine ⟨_, rfl, x, C, dx, _, _, rfl, hx, T.cl, T.nCounts, aF_counts, _, rfl, d, _, rfl, DPut.k (k := Sum.inl (i : Int)) hd ?_, ?_⟩
    · rw [dV_len, hp.length_eq]
      exact small1000 hl
    · have e : putK (dV ds) (Sum.inl (i : Int)) (.int ((((dget ds i).getD 0 : Nat) : Int) + (n : Int))) = dV (dput ds i ((dget ds i).getD 0 + n)) := by
        rw [← putK_dV, Int.natCast_add]
      show Q .non (upd H d (.dK (putK (dV ds) (Sum.inl (i : Int)) (.int ((((dget ds i).getD 0 : Nat) : Int) + (n : Int))))))
      rw [e]
      exact q _ (hA.table (dput_perm hp hA.srt) (put_srt hA.srt)) Keep.updd
/-! give_up_lowest -/
theorem scGive : FnScope ["self", "times"] ["self"] (defScope sGive) := ⟨rfl, rfl, rfl, by decide +kernel, rfl, by decide +kernel, by decide +kernel⟩
def tabLen (d : Addr) (H : Hp) : Nat := match H d with
  | some (.dK kvs) => kvs.length
  | _ => 0
theorem tabLen_at {d : Addr} {H : Hp} {kvs : List (Key × V)} (h : H d = some (.dK kvs)) : tabLen d H = kvs.length := by
  unfold tabLen
  rw [h]
theorem AccAt.len {C x d : Addr} {H : Hp} {k m : Nat} {a : Sq39.Account} (A : AccAt C H x d k m a) : tabLen d H = a.buckets.length := by
  obtain ⟨ds, hd, hp⟩ := A.tab
  rw [tabLen_at hd, dV_len, hp.length_eq]
theorem ok_give {f fC : Addr} {fd fdC : FuncData} (F : Fun K "give_up_lowest" "Account.give_up_lowest" sGive f fd) (T : Txt K mg C) (FC : Fun K "count_in" "Account.count_in" sCount fC fdC) (bC : Binds K fdC ["self", "number", "times"] []) (mC : Meth K C "count_in" fC) :
    FnOk P w K mg base CX0 2 f fd ["self"] (spGive C) := by
  have GC : FnOk P w K mg base CX0 1 fC fdC ["self", "number", "times"] (spCount C) := ok_count FC T
  refine F.ok scGive (fun vs H Q E h => ?_) (fun cdv A outer s H vs Q E hr h => ?_)
  · obtain ⟨x, d, k, m, a, rfl, _⟩ := h
    rfl
  · obtain ⟨x, d, k, m, a, rfl, hA, hm, hl, q⟩ := h
    refine ⟨_, pss_one (ps_while PassesOwn.never (pt_cmpR op_gt (pe_callB call_lenD (by rfl) T.len PySem.boot_len (pa_cons (pe_fld (pv 0) rfl) pa_nil)) (pe_fld (pv 0) rfl) (nomark _))
      (pss_cons (ps_set (i := 1) scGive.nd rfl (Or.inl rfl) (pe_dpop1 (pe_fld (pv 0) rfl) (pe_callB (cr_minK rfl) (by rfl) T.min (by decide +kernel) (pa_cons (pe_fld (pv 0) rfl) pa_nil)) ⟨rfl, rfl, rfl, rfl⟩))
      (pss_cons (ps_expr (pe_meth (pv 0) T.cl mC GC hr bC .nil pass0 (pa_cons (pe_callB (cr_minK rfl) (by rfl) T.min (by decide +kernel) (pa_cons (pe_fld (pv 0) rfl) pa_nil)) (pa_cons (pv 1) pa_nil))))
      (pss_one (ps_fld (pv 0) pe_bl rfl))))), ?_⟩
    refine while_by (fun σ H' => ∃ (v : Option V) (a' : Sq39.Account), σ = [some (.ref x), v] ∧ AccAt C H' x d k m a' ∧ a'.within m = a.within m ∧ a'.buckets.length ≤ 1000 ∧ Keep x d H H')
      (fun _ H' => tabLen d H') ⟨none, a, rfl, hA, rfl, hl, Keep.refl⟩ ?_ ?_
    · rintro σ H1 ⟨v, a', rfl, hA1, hw, hl1, kp⟩
      obtain ⟨dx, hx⟩ := hA1.ex
      obtain ⟨ds, hd, hp⟩ := hA1.tab
      refine ⟨_, rfl, x, C, dx, _, _, rfl, hx, T.cl, T.nCounts, aF_counts, d, _, rfl, hd, _, rfl, x, C, dx, _, _, rfl, hx, T.cl, T.nMost, aF_most, _, _, rfl, rfl, _, rfl, ite2 (fun c => ?_) fun c => ?_⟩
      · have c1 : (m : Int) < ((dV ds).length : Int) := of_decide_eq_true c
        have c2 : m < a'.buckets.length := by
          rw [dV_len, hp.length_eq] at c1
          omega
        obtain ⟨y, r, hyr⟩ : ∃ y r, a'.buckets = y :: r := by
          cases e : a'.buckets with
          | nil =>
            rw [e] at c2
            simp at c2
          | cons y r => exact ⟨y, r, rfl⟩
        have hp' := hp
        rw [hyr] at hp'
        have hs' := hA1.srt
        rw [hyr] at hs'
        have hrne : r ≠ [] := fun z => by
          rw [hyr, z] at c2
          simp at c2
          omega
        have nek : ∀ {l : Bk} {b : Bk}, l.Perm b → b ≠ [] → (keys l).map (fun n : Nat => (n : Int)) ≠ [] := fun {l b} hpe hb z => by
          have z2 : keys l = [] := List.map_eq_nil_iff.mp z
          have z3 : l = [] := List.map_eq_nil_iff.mp z2
          rw [z3] at hpe
          exact hb hpe.nil_eq.symm
        refine ⟨_, rfl, x, C, dx, _, _, rfl, hx, T.cl, T.nCounts, aF_counts, d, rfl, .inl ⟨_, .inl hd⟩, _, rfl, x, C, dx, _, _, rfl, hx, T.cl, T.nCounts, aF_counts, d, _, (keys ds).map (fun n : Nat => (n : Int)), rfl, hd, keys_dV ds, nek hp' (by simp), fun mm h1 h2 => ?_⟩
        have e := min_low hp' hs' h1 h2
        subst e
        have ely : low (y :: r) = y.1 := rfl
        rw [ely]
        have hv : valV (dV ds) (Sum.inl (y.1 : Int)) = some (.int (y.2 : Int)) := by
          rw [valV_dV, dget_some (perm_keys_nodup hp' hs') (show (y.1, y.2) ∈ ds from hp'.mem_iff.mpr List.mem_cons_self)]
          rfl
        refine ⟨_, Sum.inl (y.1 : Int), _, hd, rfl, hv, ?_⟩
        rw [dropK_dV]
        have hs2 := (srt_cons.mp hs').2
        have hA2 : AccAt C (upd H1 d (.dK (dV (ddrop ds y.1)))) x d k m { a' with buckets := r } := hA1.table (ddrop_low hp' hs') hs2
        have hx2 : (upd H1 d (.dK (dV (ddrop ds y.1)))) x = some (.ins C dx (aF k m a' d)) := by
          rw [upd_ne hA1.ne]
          exact hx
        refine ⟨_, rfl, x, dx, _, rfl, hx2, aF_no (by decide +kernel), _, rfl, x, C, dx, _, _, rfl, hx2, T.cl, T.nCounts, aF_counts, d, _, (keys (ddrop ds y.1)).map (fun n : Nat => (n : Int)), rfl, upd_same, keys_dV _, nek (ddrop_low hp' hs') hrne, fun mm h3 h4 => ?_⟩
        have e3 := min_low (ddrop_low hp' hs') hs2 h3 h4
        subst e3
        refine ⟨_, rfl, x, d, k, m, { a' with buckets := r }, low r, y.2, rfl, hA2, ?_, fun H3 hA3 kp3 => ?_⟩
        · show r.length ≤ 1000
          rw [hyr] at hl1
          simp at hl1
          omega
        · obtain ⟨dx3, hx3⟩ := hA3.ex
          refine ⟨_, rfl, x, C, dx3, _, rfl, hx3, T.cl, T.nCut, (by rw [aF_len]; decide), ?_⟩
          rw [putA_cut]
          have eg : Sq39.put (low r) y.2 r = Sq39.give a'.buckets := by rw [hyr, give_put hs' hrne]
          have hA4 := hA3.obj (a' := { a' with buckets := Sq39.put (low r) y.2 r, cut := true }) (dx := dx3) rfl
          rw [eg] at hA4
          show (∃ _ _, _) ∧ _
          have hg := give_len (l := a'.buckets) (by omega)
          refine ⟨⟨some (.int (y.2 : Int)), { a' with buckets := Sq39.give a'.buckets, cut := true }, rfl, ?_, ?_, ?_, ?_⟩, ?_⟩
          · have e5 : ({ ({ a' with buckets := r } : Sq39.Account) with buckets := Sq39.put (low r) y.2 r } : Sq39.Account) = { a' with buckets := Sq39.give a'.buckets } := by rw [← eg]
            show AccAt C (upd H3 x (.ins C dx3 (aF k m { a' with buckets := Sq39.put (low r) y.2 r, cut := true } d))) x d k m _
            rw [eg]
            exact hA4
          · rw [← within_step hm c2]
            exact hw
          · show (Sq39.give a'.buckets).length ≤ 1000
            omega
          · exact ((kp.trans Keep.updd).trans kp3).trans Keep.updx
          · have l1 := hA4.len
            have l2 := hA1.len
            show tabLen d (upd H3 x (.ins C dx3 (aF k m { a' with buckets := Sq39.put (low r) y.2 r, cut := true } d))) < tabLen d H1
            rw [eg, l1, l2]
            show (Sq39.give a'.buckets).length < a'.buckets.length
            omega
      · have c1 : ¬ (m : Int) < ((dV ds).length : Int) := fun z => c (decide_eq_true z)
        have c2 : a'.buckets.length ≤ m := by
          rw [dV_len, hp.length_eq] at c1
          omega
        rw [within_done c2] at hw
        rw [hw] at hA1
        exact q _ hA1 kp
    · intro σ H' Q1 Q2 hq hc
      obtain ⟨a1, e1, a2, e2, e3, e4, e5, e6, e7, e8, e9, e10, a3, e11, e12, e13, b1, f1, b2, f2, f3, f4, f5, f6, f7, f8, f9, f10, i1, i2, g1, g2, k1, g3, z⟩ := hc
      exact ⟨a1, e1, a2, e2, e3, e4, e5, e6, e7, e8, e9, e10, a3, e11, e12, e13, b1, f1, b2, f2, f3, f4, f5, f6, f7, f8, f9, f10, i1, i2, g1, g2, k1, g3, hq _ _ z⟩
end
end Wb
namespace Wb
open PySem PySem.Spec PyProof.Rows L2
section
variable {P : Program} {w : World} {K : PySem.W.Frag} {mg : Str → Option Value} {base : Heap} {C : Addr}
/-! tell -/
theorem scTell : FnScope ["self", "value", "times"] ["self", "value", "times"] (defScope sTell) := ⟨rfl, rfl, rfl, by decide +kernel, rfl, by decide +kernel, by decide +kernel⟩
theorem ok_tell {f fT fF fC fG fO : Addr} {fd fdT fdF fdC fdG fdO : FuncData} (F : Fun K "tell" "Account.tell" sTell f fd) (T : Txt K mg C)
    (FT : Fun K "take_in" "Account.take_in" sTake fT fdT) (bT : Binds K fdT ["self", "total", "amount", "least", "greatest"] []) (mT : Meth K C "take_in" fT)
    (FF : Fun K "floor" "Account.floor" sFloor fF fdF) (bF : Binds K fdF ["self"] []) (mF : Meth K C "floor" fF)
    (FC : Fun K "count_in" "Account.count_in" sCount fC fdC) (bC : Binds K fdC ["self", "number", "times"] []) (mC : Meth K C "count_in" fC)
    (FG : Fun K "give_up_lowest" "Account.give_up_lowest" sGive fG fdG) (bG : Binds K fdG ["self"] []) (mG : Meth K C "give_up_lowest" fG)
    (FO : Fun K "bucket_of" "bucket_of" sOf fO fdO) (bO : Binds K fdO ["fineness", "value"] []) (mO : mg "bucket_of" = some (.ref fO)) :
    FnOk P w K mg base CX0 3 f fd ["self", "value", "times"] (spTell C) := by
  have GT : FnOk P w K mg base CX0 1 fT fdT ["self", "total", "amount", "least", "greatest"] (spTake C) := ok_take FT T
  have GF : FnOk P w K mg base CX0 1 fF fdF ["self"] (spFloor C) := ok_floor FF T
  have GC : FnOk P w K mg base CX0 1 fC fdC ["self", "number", "times"] (spCount C) := ok_count FC T
  have GG : FnOk P w K mg base CX0 2 fG fdG ["self"] (spGive C) := ok_give FG T FC bC mC
  have GO : FnOk P w K mg base CX0 1 fO fdO ["fineness", "value"] spOf := ok_of FO
  refine F.ok scTell (fun vs H Q E h => ?_) (fun cdv A outer s H vs Q E hr h => ?_)
  · obtain ⟨x, d, k, m, a, v, n, rfl, _⟩ := h
    rfl
  · obtain ⟨x, d, k, m, a, v, n, rfl, hA, hW, hm1, hm2, h3, h40, hv, hn, q⟩ := h
    have hr1 : Room 1 _ := hr.mono (by decide)
    refine ⟨_, pss_cons (ps_if (pt_cmpR op_eq (pv 2) pe_int (nomark _)) (pss_one ps_retN) pss_nil)
      (pss_cons (ps_expr (pe_meth (pv 0) T.cl mT GT hr1 bT .nil pass0 (pa_cons (pv 2) (pa_cons (pe_op op_mul (pv 1) (pv 2)) (pa_cons (pv 1) (pa_cons (pv 1) pa_nil))))))
      (pss_one (ps_if (pt_cmpR op_eq (pv 1) pe_int (nomark _)) (pss_one (ps_fldaug (pv 0) (pv 2) in_add))
        (pss_cons (ps_expr (pe_meth (pv 0) T.cl mC GC hr1 bC .nil pass0 (pa_cons (pe_callB (call_max2 rfl) (by rfl) T.max (by decide +kernel)
            (pa_cons (pe_call GO hr1 rfl mO FO.kp bO .nil pass0 (pa_cons (pe_fld (pv 0) rfl) (pa_cons (pv 1) pa_nil))) (pa_cons (pe_meth0 (pv 0) T.cl mF GF hr1 bF .nil pass0) pa_nil))) (pa_cons (pv 2) pa_nil))))
        (pss_one (ps_expr (pe_meth0 (pv 0) T.cl mG GG hr bG .nil pass0))))))), ?_⟩
    obtain ⟨dx, hx⟩ := hA.ex
    refine ⟨_, rfl, rfl, _, rfl, ite2 (fun c => ?_) fun c => ?_⟩
    · have e0 : n = 0 := int0.mp (of_decide_eq_true c)
      subst e0
      rw [add_none] at q
      exact q _ hA Keep.refl
    · have e0 : n ≠ 0 := fun z => c (decide_eq_true (int0.mpr z))
      refine ⟨_, rfl, x, dx, _, rfl, hx, aF_no (by decide +kernel), _, rfl, _, rfl, _, rfl, _, _, rfl, rfl, .inl ⟨by omega, by omega⟩, _, rfl, _, rfl, ?_⟩
      refine ⟨x, d, k, m, a, n, v * n, v, v, ?_, hA, e0, fun H1 hA1 kp1 => ?_⟩
      · show [V.ref x, V.int (n : Int), V.int ((v : Int) * (n : Int)), V.int (v : Int), V.int (v : Int)] = _
        rw [Int.natCast_mul]
      · obtain ⟨dx1, hx1⟩ := hA1.ex
        refine ⟨_, rfl, rfl, _, rfl, ite2 (fun c1 => ?_) fun c1 => ?_⟩
        · have e1 : v = 0 := int0.mp (of_decide_eq_true c1)
          subst e1
          rw [add_zero e0] at q
          refine ⟨_, rfl, x, C, dx1, _, _, rfl, hx1, T.cl, T.nZeros, aF_zeros, _, rfl, _, _, rfl, rfl, dx1, _, hx1, (by rw [aF_len]; decide), ?_⟩
          have ez : (took a n (0 * n) 0 0).zeros = a.zeros := by rw [took_eq e0]
          rw [ez]
          have e2 : putF "zeros" (.int ((a.zeros : Int) + (n : Int))) (aF k m (took a n (0 * n) 0 0) d) = aF k m { took a n 0 0 0 with zeros := a.zeros + n } d := by
            have := putA_zeros (k := k) (m := m) (a := took a n (0 * n) 0 0) (d := d) (a.zeros + n)
            rw [Nat.zero_mul] at this ⊢
            rw [← this, Int.natCast_add]
          rw [e2]
          have hA2 := hA1.obj (a' := { took a n (0 * n) 0 0 with zeros := a.zeros + n }) (dx := dx1) rfl
          rw [Nat.zero_mul] at hA2
          exact q _ hA2 (kp1.trans Keep.updx)
        · have e1 : v ≠ 0 := fun z => c1 (decide_eq_true (int0.mpr z))
          rw [add_some hW.cut e0 e1] at q
          have et : (took a n (v * n) v v).cut = a.cut ∧ (took a n (v * n) v v).buckets = a.buckets := by rw [took_eq e0]; exact ⟨rfl, rfl⟩
          have ef : floorOf (took a n (v * n) v v) = floorOf a := by unfold floorOf; rw [et.1, et.2]
          refine ⟨_, rfl, x, dx1, _, rfl, hx1, aF_no (by decide +kernel), _, rfl, x, C, dx1, _, _, rfl, hx1, T.cl, T.nFine, aF_fine, _, rfl, k, v, rfl, h3, h40, hv, ?_⟩
          refine ⟨_, rfl, x, dx1, _, rfl, hx1, aF_no (by decide +kernel), x, d, k, m, took a n (v * n) v v, rfl, hA1, by rw [et.1, et.2]; exact hW.cut, _, _, rfl, ?_⟩
          rw [max_nat, ef]
          refine ⟨_, rfl, x, d, k, m, took a n (v * n) v v, max (Sq39.bucket k v) (floorOf a), n, rfl, hA1, ?_, fun H2 hA2 kp2 => ?_⟩
          · rw [et.2]
            have := hW.len
            omega
          · rw [et.2] at hA2
            obtain ⟨dx2, hx2⟩ := hA2.ex
            refine ⟨_, rfl, x, dx2, _, rfl, hx2, aF_no (by decide +kernel), x, d, k, m, _, rfl, hA2, hm1, ?_, fun H3 hA3 kp3 => ?_⟩
            · have h1 : ∀ (l : Bk) (i c : Nat), (Sq39.put i c l).length ≤ l.length + 1 := by
                intro l
                induction l with
                | nil =>
                  intro i c
                  exact Nat.le_refl _
                | cons y l ih =>
                  intro i c
                  unfold Sq39.put
                  split
                  · simp
                  · split
                    · simp
                    · have := ih i c
                      simp
                      exact this
              have h2 := h1 a.buckets (max (Sq39.bucket k v) (floorOf a)) n
              have := hW.len
              show (Sq39.put (max (Sq39.bucket k v) (floorOf a)) n a.buckets).length ≤ 1000
              omega
            · exact q _ hA3 ((kp1.trans kp2).trans kp3)
end
end Wb
namespace Wb
open PySem PySem.Spec PyProof.Rows L2
theorem put_length (i c : Nat) : ∀ l : Bk, (Sq39.put i c l).length ≤ l.length + 1
  | [] => Nat.le_refl _
  | y :: l => by
    unfold Sq39.put
    split
    · simp
    · split
      · simp
      · have := put_length i c l
        simp
        exact this
theorem puts_length (f : Nat → Nat) : ∀ l acc : Bk, (puts f acc l).length ≤ acc.length + l.length
  | [], acc => Nat.le_refl _
  | x :: l, acc => by
    have h1 := puts_length f l (Sq39.put (f x.1) x.2 acc)
    have h2 := put_length (f x.1) x.2 acc
    show (puts f (Sq39.put (f x.1) x.2 acc) l).length ≤ acc.length + (l.length + 1)
    omega
theorem puts_snoc (f : Nat → Nat) (acc l : Bk) (x : Nat × Nat) : puts f acc (l ++ [x]) = Sq39.put (f x.1) x.2 (puts f acc l) := by
  unfold puts
  rw [List.foldl_append]
  rfl
theorem take_more {α : Type} : ∀ {l : List α} {i : Nat} {x : α}, l[i]? = some x → l.take (i + 1) = l.take i ++ [x]
  | [], i, x, h => by simp at h
  | a :: l, 0, x, h => by
    have e : a = x := Option.some.inj h
    subst e
    rfl
  | a :: l, i + 1, x, h => by
    have ih := take_more (l := l) (i := i) (x := x) h
    show a :: l.take (i + 1) = a :: l.take i ++ [x]
    rw [ih]
    rfl
def spBoth : Sp := fun vs H Q _ => ∃ (d1 d2 : Addr) (s1 s2 : Bk) (lo : Nat), vs = [.ref d1, .ref d2, .int (lo : Int)] ∧ H d1 = some (.dK (dV s1)) ∧ H d2 = some (.dK (dV s2)) ∧ (keys s1).Nodup ∧ (keys s2).Nodup ∧ s1.length ≤ 1000 ∧ s2.length ≤ 1000 ∧
  ∀ (H' : Hp) (c : Addr) (cs : Bk), H c = none → H' c = some (.dK (dV cs)) → cs.Perm (puts (fun i => max i lo) [] (s1 ++ s2)) → Same H H' → Q (.ref c) H'
/-- what is through before the i-th table -/
def stage (s1 s2 : Bk) (i : Nat) : Bk := if i = 0 then [] else if i = 1 then s1 else s1 ++ s2
section
variable {P : Program} {w : World} {K : PySem.W.Frag} {mg : Str → Option Value} {base : Heap} {C : Addr}
theorem scBoth : FnScope ["one", "other", "floor", "counts", "source", "number", "place"] ["one", "other", "floor"] (defScope sBoth) := ⟨rfl, rfl, rfl, by decide +kernel, rfl, by decide +kernel, by decide +kernel⟩
theorem ok_both {f : Addr} {fd : FuncData} (F : Fun K "counts_of_both" "counts_of_both" sBoth f fd) (mx : mg "max" = none) : FnOk P w K mg base CX0 1 f fd ["one", "other", "floor"] spBoth := by
  refine F.ok scBoth (fun vs H Q E h => ?_) (fun cdv A outer s H vs Q E hr h => ?_)
  · obtain ⟨d1, d2, s1, s2, lo, rfl, _⟩ := h
    rfl
  · obtain ⟨d1, d2, s1, s2, lo, rfl, hd1, hd2, n1, n2, l1, l2, q⟩ := h
    have hu := hu_of hr
    refine ⟨_, pss_cons (ps_set (i := 3) scBoth.nd rfl (Or.inl rfl) pe_dnewK)
      (pss_cons (ps_for PassesOwn.never rfl (pi_tup (pe_tup (pa_cons (pv 0) (pa_cons (pv 1) pa_nil)))) (pg_name (i := 4) scBoth.nd rfl (Or.inl rfl))
        (pss_one (ps_lock (ps_for PassesOwn.never rfl (pi_keys (pv 4)) (pg_name (i := 5) scBoth.nd rfl (Or.inl rfl))
          (pss_cons (ps_set (i := 6) scBoth.nd rfl (Or.inl rfl) (pe_callB (call_max2 rfl) (by rfl) mx (by decide +kernel) (pa_cons (pv 5) (pa_cons (pv 2) pa_nil))))
          (pss_one (ps_dput hu (pv 3) (pv 6) (pe_op op_add (pe_dget2 hu (pv 3) (pv 6) pe_int ⟨rfl, rfl, rfl, rfl⟩) (pe_dget hu (pv 4) (pv 5) (fun _ _ => rfl))) rfl)))))))
      (pss_one (ps_ret (pv 3)))), ?_⟩
    intro c hc
    refine ⟨_, rfl, _, rfl, (by show 2 ≤ sizeLine; decide), fun t ht => ?_⟩
    have hct : c ≠ t := ne_of_none upd_same ht
    have ht0 : H t = none := by
      rw [upd_ne (Ne.symm hct)] at ht
      exact ht
    have s0 : Same H (upd (upd H c (.dK [])) t (.tup [.ref d1, .ref d2])) := fun b o e => by
      rw [upd_ne (ne_of_none e ht0), upd_ne (ne_of_none e hc)]
      exact e
    refine ⟨t, rfl, ⟨_, SqT.of upd_same⟩, for_tup (K := K) (a := t) (xs := [.ref d1, .ref d2]) (fun i σ H' => ∃ (v4 v5 v6 : Option V) (cs : Bk), σ = [some (.ref d1), some (.ref d2), some (.int (lo : Int)), some (.ref c), v4, v5, v6] ∧
        H' t = some (.tup [.ref d1, .ref d2]) ∧ H' c = some (.dK (dV cs)) ∧ cs.Perm (puts (fun i => max i lo) [] (stage s1 s2 i)) ∧ Same H H')
      ⟨none, none, none, [], rfl, upd_same, by rw [upd_ne hct]; exact upd_same, List.Perm.refl _, s0⟩ (fun i σ H' _ ⟨_, _, _, _, _, h1, _⟩ => SqT.of h1) ?_ ?_⟩
    · rintro i x σ H1 hx ⟨v4, v5, v6, cs, rfl, hT, hC, hp, sm⟩
      obtain ⟨dd, ds, rfl, hdd, hst, hl, hnd⟩ : ∃ (dd : Addr) (ds : Bk), x = .ref dd ∧ H dd = some (.dK (dV ds)) ∧ stage s1 s2 (i + 1) = stage s1 s2 i ++ ds ∧ ds.length ≤ 1000 ∧ (keys ds).Nodup := by
        match i, hx with
        | 0, hx => exact ⟨d1, s1, (Option.some.inj hx).symm, hd1, by unfold stage; simp, l1, n1⟩
        | 1, hx => exact ⟨d2, s2, (Option.some.inj hx).symm, hd2, by unfold stage; simp, l2, n2⟩
        | i + 2, hx => simp at hx
      have hsl : (stage s1 s2 i).length ≤ 2000 := by
        unfold stage
        split
        · simp
        · split
          · omega
          · simp
            omega
      have hcd : c ≠ dd := Ne.symm (ne_of_none hdd hc)
      have htd : t ≠ dd := Ne.symm (ne_of_none hdd ht0)
      refine ⟨dd, _, sm _ _ hdd, trivial, fun od => ?_⟩
      refine ⟨_, rfl, dd, od, rfl, .inl ⟨dV ds, upd_same, for_it walk_keys (fun j σ H2 => ∃ (v5 v6 : Option V) (cs : Bk), σ = [some (.ref d1), some (.ref d2), some (.int (lo : Int)), some (.ref c), some (.ref dd), v5, v6] ∧
          H2 dd = some (.frz od (.dK (dV ds))) ∧ H2 t = some (.tup [.ref d1, .ref d2]) ∧ H2 c = some (.dK (dV cs)) ∧ cs.Perm (puts (fun i => max i lo) [] (stage s1 s2 i ++ ds.take j)) ∧ ∀ b o, H b = some o → b ≠ dd → H2 b = some o)
        ⟨v5, v6, cs, rfl, upd_same, by rw [upd_ne htd]; exact hT, by rw [upd_ne hcd]; exact hC, by rw [List.take_zero, List.append_nil]; exact hp, fun b o e hb => by rw [upd_ne hb]; exact sm b o e⟩
        (fun j σ H2 _ ⟨_, _, _, _, h1, _⟩ => h1) ?_ ?_⟩⟩
      · rintro j y σ H2 H3 hj ⟨v5, v6, cs, rfl, hF, hT2, hC2, hp2, sm2⟩ ⟨rfl, kk, vv, hkv, rfl⟩
        obtain ⟨p, hpj, hkp⟩ : ∃ p, ds[j]? = some p ∧ (Sum.inl (p.1 : Int), V.int (p.2 : Int)) = ((kk, vv) : Key × V) := by
          unfold dV at hkv
          rw [List.getElem?_map] at hkv
          cases e : ds[j]? with
          | none =>
            rw [e] at hkv
            cases hkv
          | some p =>
            rw [e] at hkv
            exact ⟨p, rfl, Option.some.inj hkv⟩
        obtain ⟨rfl, rfl⟩ := Prod.mk.inj hkp
        refine ⟨_, rfl, _, rfl, _, _, rfl, ?_⟩
        rw [max_nat]
        refine ⟨_, rfl, c, rfl, .inl ⟨_, .inl hC2⟩, _, rfl, _, DGet.k (k := Sum.inl ((max p.1 lo : Nat) : Int)) hC2, ?_⟩
        rw [valV_getD]
        have hv : valV (dV ds) (Sum.inl (p.1 : Int)) = some (.int (p.2 : Int)) := by
          rw [valV_dV, dget_some hnd (show (p.1, p.2) ∈ ds from List.mem_of_getElem? hpj)]
          rfl
        refine ⟨_, rfl, _, rfl, dd, _, rfl, .inl ⟨dV ds, Sum.inl (p.1 : Int), .inr ⟨od, hF⟩, rfl, hv.symm⟩, _, _, rfl, rfl, ?_⟩
        have hlen : cs.length ≤ 3000 := by
          have e1 := hp2.length_eq
          have e2 := puts_length (fun i => max i lo) (stage s1 s2 i ++ ds.take j) []
          have e3 : (stage s1 s2 i ++ ds.take j).length ≤ 3000 := by
            rw [List.length_append, List.length_take]
            omega
          simp at e2
          simp at e3
          omega
        refine ⟨_, rfl, _, rfl, c, _, rfl, DPut.k (k := Sum.inl ((max p.1 lo : Nat) : Int)) hC2 (by rw [dV_len]; exact Nat.lt_of_le_of_lt hlen (by decide)), ?_⟩
        have e : putK (dV cs) (Sum.inl ((max p.1 lo : Nat) : Int)) (.int ((((dget cs (max p.1 lo)).getD 0 : Nat) : Int) + (p.2 : Int))) = dV (dput cs (max p.1 lo) ((dget cs (max p.1 lo)).getD 0 + p.2)) := by
          rw [← putK_dV, Int.natCast_add]
        refine ⟨some (.int (p.1 : Int)), some (.int ((max p.1 lo : Nat) : Int)), dput cs (max p.1 lo) ((dget cs (max p.1 lo)).getD 0 + p.2), rfl, by rw [upd_ne (Ne.symm hcd)]; exact hF, by rw [upd_ne (Ne.symm hct)]; exact hT2, ?_, ?_, fun b o e hb => ?_⟩
        · rw [upd_same]
          exact congrArg (fun z => some (HO.dK z)) e
        · rw [take_more hpj, ← List.append_assoc, puts_snoc]
          exact dput_perm hp2 (puts_srt srt_nil)
        · rw [upd_ne (ne_of_none e hc)]
          exact sm2 b o e hb
      · rintro σ H2 ⟨v5, v6, cs, rfl, hF, hT2, hC2, hp2, sm2⟩
        rw [dV_len, List.take_length] at hp2
        refine ⟨hF, some (.ref dd), v5, v6, cs, rfl, by rw [upd_ne htd]; exact hT2, by rw [upd_ne hcd]; exact hC2, by rw [hst]; exact hp2, fun b o e => ?_⟩
        by_cases hb : b = dd
        · subst hb
          rw [upd_same, ← e, hdd]
        · rw [upd_ne hb]
          exact sm2 b o e hb
    · rintro σ H1 ⟨v4, v5, v6, cs, rfl, hT, hC, hp, sm⟩
      refine ⟨_, rfl, ?_⟩
      exact q H1 c cs hc hC hp sm
/-! put_together -/
def spJoin (C : Addr) : Sp := fun vs H Q _ => ∃ (x d y e : Addr) (k m : Nat) (a b : Sq39.Account), vs = [.ref x, .ref y] ∧ AccAt C H x d k m a ∧ AccAt C H y e k m b ∧ x ≠ y ∧ d ≠ e ∧ Wf m a ∧ Wf m b ∧ 1 ≤ m ∧ m ≤ 200 ∧
  ∀ (H' : Hp) (d' : Addr), (d' = d ∨ H d' = none) → AccAt C H' x d' k m (a.join b m) → Keep x d H H' → Q .non H'
theorem scJoin : FnScope ["self", "other"] ["self", "other"] (defScope sJoin) := ⟨rfl, rfl, rfl, by decide +kernel, rfl, by decide +kernel, by decide +kernel⟩
theorem ok_join {f fT fF fC fG fB : Addr} {fd fdT fdF fdC fdG fdB : FuncData} (F : Fun K "put_together" "Account.put_together" sJoin f fd) (T : Txt K mg C)
    (FT : Fun K "take_in" "Account.take_in" sTake fT fdT) (bT : Binds K fdT ["self", "total", "amount", "least", "greatest"] []) (mT : Meth K C "take_in" fT)
    (FF : Fun K "floor" "Account.floor" sFloor fF fdF) (bF : Binds K fdF ["self"] []) (mF : Meth K C "floor" fF)
    (FC : Fun K "count_in" "Account.count_in" sCount fC fdC) (bC : Binds K fdC ["self", "number", "times"] []) (mC : Meth K C "count_in" fC)
    (FG : Fun K "give_up_lowest" "Account.give_up_lowest" sGive fG fdG) (bG : Binds K fdG ["self"] []) (mG : Meth K C "give_up_lowest" fG)
    (FB : Fun K "counts_of_both" "counts_of_both" sBoth fB fdB) (bB : Binds K fdB ["one", "other", "floor"] []) (mB : mg "counts_of_both" = some (.ref fB)) :
    FnOk P w K mg base CX0 3 f fd ["self", "other"] (spJoin C) := by
  have GT : FnOk P w K mg base CX0 1 fT fdT ["self", "total", "amount", "least", "greatest"] (spTake C) := ok_take FT T
  have GF : FnOk P w K mg base CX0 1 fF fdF ["self"] (spFloor C) := ok_floor FF T
  have GG : FnOk P w K mg base CX0 2 fG fdG ["self"] (spGive C) := ok_give FG T FC bC mC
  have GB : FnOk P w K mg base CX0 1 fB fdB ["one", "other", "floor"] spBoth := ok_both FB T.max
  refine F.ok scJoin (fun vs H Q E h => ?_) (fun cdv A outer s H vs Q E hr h => ?_)
  · obtain ⟨x, d, y, e, k, m, a, b, rfl, _⟩ := h
    rfl
  · obtain ⟨x, d, y, e, k, m, a, b, rfl, hA, hB, hxy, hde, wa, wb, hm1, hm2, q⟩ := h
    have hr1 : Room 1 _ := hr.mono (by decide)
    refine ⟨_, pss_cons (ps_if (pt_cmpR op_eq (pe_fld (pv 1) rfl) pe_int (nomark _)) (pss_one ps_retN) pss_nil)
      (pss_cons (ps_expr (pe_meth (pv 0) T.cl mT GT hr1 bT .nil pass0 (pa_cons (pe_fld (pv 1) rfl) (pa_cons (pe_fld (pv 1) rfl) (pa_cons (pe_fld (pv 1) rfl) (pa_cons (pe_fld (pv 1) rfl) pa_nil))))))
      (pss_cons (ps_fldaug (pv 0) (pe_fld (pv 1) rfl) in_add)
      (pss_cons (ps_fld (pv 0) (pe_call GB hr1 rfl mB FB.kp bB .nil pass0 (pa_cons (pe_fld (pv 0) rfl) (pa_cons (pe_fld (pv 1) rfl)
          (pa_cons (pe_callB (call_max2 rfl) (by rfl) T.max (by decide +kernel) (pa_cons (pe_meth0 (pv 0) T.cl mF GF hr1 bF .nil pass0) (pa_cons (pe_meth0 (pv 1) T.cl mF GF hr1 bF .nil pass0) pa_nil))) pa_nil)))) rfl)
      (pss_cons (ps_fld (pv 0) (pe_or (pe_fld (pv 0) rfl) (pe_one (pe_fld (pv 1) rfl))) rfl)
      (pss_one (ps_expr (pe_meth0 (pv 0) T.cl mG GG hr bG .nil pass0))))))), ?_⟩
    obtain ⟨dx, hx⟩ := hA.ex
    obtain ⟨dy, hy⟩ := hB.ex
    obtain ⟨sb, he, hpb⟩ := hB.tab
    have hyd : y ≠ d := by
      obtain ⟨sa, hd, _⟩ := hA.tab
      exact ne_of hy hd (by intro z; cases z)
    have hex : e ≠ x := ne_of he hx (by intro z; cases z)
    refine ⟨_, rfl, y, C, dy, _, _, rfl, hy, T.cl, T.nTotal, aF_total, rfl, _, rfl, ite2 (fun c => ?_) fun c => ?_⟩
    · have e0 : b.n = 0 := int0.mp (of_decide_eq_true c)
      rw [wb.none e0, join_none wa] at q
      exact q _ d (Or.inl rfl) hA Keep.refl
    · have e0 : b.n ≠ 0 := fun z => c (decide_eq_true (int0.mpr z))
      rw [join_eq] at q
      refine ⟨_, rfl, x, dx, _, rfl, hx, aF_no (by decide +kernel), _, rfl, y, C, dy, _, _, rfl, hy, T.cl, T.nTotal, aF_total, _, rfl, y, C, dy, _, _, rfl, hy, T.cl, T.nAmount, aF_amount,
        _, rfl, y, C, dy, _, _, rfl, hy, T.cl, T.nLeast, aF_least, _, rfl, y, C, dy, _, _, rfl, hy, T.cl, T.nGreatest, aF_greatest, ?_⟩
      refine ⟨x, d, k, m, a, b.n, b.sum, b.least, b.most, rfl, hA, e0, fun H1 hA1 kp1 => ?_⟩
      obtain ⟨dx1, hx1⟩ := hA1.ex
      have hy1 : H1 y = some (.ins C dy (aF k m b e)) := kp1 _ _ hy (Ne.symm hxy) hyd
      have he1 : H1 e = some (.dK (dV sb)) := kp1 _ _ he hex (Ne.symm hde)
      have et : (took a b.n b.sum b.least b.most).cut = a.cut ∧ (took a b.n b.sum b.least b.most).buckets = a.buckets ∧ (took a b.n b.sum b.least b.most).zeros = a.zeros := by
        rw [took_eq e0]
        exact ⟨rfl, rfl, rfl⟩
      refine ⟨_, rfl, x, C, dx1, _, _, rfl, hx1, T.cl, T.nZeros, aF_zeros, _, rfl, y, C, dy, _, _, rfl, hy1, T.cl, T.nZeros, aF_zeros, _, _, rfl, rfl, dx1, _, hx1, (by rw [aF_len]; decide), ?_⟩
      rw [et.2.2]
      have e1 : putF "zeros" (.int ((a.zeros : Int) + (b.zeros : Int))) (aF k m (took a b.n b.sum b.least b.most) d) = aF k m { took a b.n b.sum b.least b.most with zeros := a.zeros + b.zeros } d := by
        have z := putA_zeros (k := k) (m := m) (a := took a b.n b.sum b.least b.most) (d := d) (a.zeros + b.zeros)
        rw [Int.natCast_add] at z
        exact z
      rw [e1]
      have hA2 : AccAt C (upd H1 x (.ins C dx1 (aF k m { took a b.n b.sum b.least b.most with zeros := a.zeros + b.zeros } d))) x d k m { took a b.n b.sum b.least b.most with zeros := a.zeros + b.zeros } := hA1.obj rfl
      have kp2 : Keep x d H (upd H1 x (.ins C dx1 (aF k m { took a b.n b.sum b.least b.most with zeros := a.zeros + b.zeros } d))) := kp1.trans Keep.updx
      generalize hH2 : upd H1 x (.ins C dx1 (aF k m { took a b.n b.sum b.least b.most with zeros := a.zeros + b.zeros } d)) = H2 at hA2 kp2 ⊢
      have hx2 : H2 x = some (.ins C dx1 (aF k m { took a b.n b.sum b.least b.most with zeros := a.zeros + b.zeros } d)) := by
        rw [← hH2]
        exact upd_same
      have hy2 : H2 y = some (.ins C dy (aF k m b e)) := kp2 _ _ hy (Ne.symm hxy) hyd
      have he2 : H2 e = some (.dK (dV sb)) := kp2 _ _ he hex (Ne.symm hde)
      have hB2 : AccAt C H2 y e k m b := ⟨⟨dy, hy2⟩, ⟨sb, he2, hpb⟩, hB.srt⟩
      obtain ⟨sa, hd2, hpa⟩ := hA2.tab
      have hpa' : sa.Perm a.buckets := by
        have z : sa.Perm (took a b.n b.sum b.least b.most).buckets := hpa
        rw [et.2.1] at z
        exact z
      have f1 : floorOf { took a b.n b.sum b.least b.most with zeros := a.zeros + b.zeros } = floorOf a := by
        show (if (took a b.n b.sum b.least b.most).cut = true then low (took a b.n b.sum b.least b.most).buckets else 0) = _
        rw [et.1, et.2.1]
        rfl
      refine ⟨_, rfl, x, C, dx1, _, _, rfl, hx2, T.cl, T.nCounts, aF_counts, _, rfl, y, C, dy, _, _, rfl, hy2, T.cl, T.nCounts, aF_counts, _, rfl, x, dx1, _, rfl, hx2, aF_no (by decide +kernel),
        x, d, k, m, _, rfl, hA2, by show (took a b.n b.sum b.least b.most).cut = true → (took a b.n b.sum b.least b.most).buckets ≠ []; rw [et.1, et.2.1]; exact wa.cut, _, rfl, y, dy, _, rfl, hy2, aF_no (by decide +kernel), y, e, k, m, b, rfl, hB2, wb.cut, _, _, rfl, ?_⟩
      rw [max_nat, f1]
      refine ⟨d, e, sa, sb, floors a b, rfl, hd2, he2, perm_keys_nodup hpa' wa.srt, perm_keys_nodup hpb wb.srt, ?_, ?_, fun H3 cc cs hcc hC3 hpc s3 => ?_⟩
      · rw [hpa'.length_eq]
        have := wa.len
        omega
      · rw [hpb.length_eq]
        have := wb.len
        omega
      · have hx3 := s3 _ _ hx2
        have hy3 := s3 _ _ hy2
        have hxc : x ≠ cc := ne_of_none hx2 hcc
        have hyc : y ≠ cc := ne_of_none hy2 hcc
        refine ⟨_, rfl, x, C, dx1, _, rfl, hx3, T.cl, T.nCounts, (by rw [aF_len]; decide), ?_⟩
        rw [putA_counts]
        have hy4 : (upd H3 x (.ins C dx1 (aF k m { took a b.n b.sum b.least b.most with zeros := a.zeros + b.zeros } cc))) y = some (.ins C dy (aF k m b e)) := by
          rw [upd_ne (Ne.symm hxy)]
          exact hy3
        have hpp : cs.Perm (puts (fun i => max i (floors a b)) [] (a.buckets ++ b.buckets)) := by
          rw [← puts_perm (hpa'.append hpb)]
          exact hpc
        -- the rest, once the two truths are one
        have fin : ∀ z : Bool, z = (a.cut || b.cut) → tDrop (tMeth C "give_up_lowest" (spGive C) [] E0 (tVar 0) tNil) { nx := fun _ H' => Q .non H', rt := Q } [some (.ref x), some (.ref y)]
            (upd (upd H3 x (.ins C dx1 (aF k m { took a b.n b.sum b.least b.most with zeros := a.zeros + b.zeros } cc))) x (.ins C dx1 (putF "is_cut" (.bl z) (aF k m { took a b.n b.sum b.least b.most with zeros := a.zeros + b.zeros } cc)))) := by
          rintro z rfl
          rw [putA_cut, upd_upd]
          have hA5 : AccAt C (upd H3 x (.ins C dx1 (aF k m { took a b.n b.sum b.least b.most with zeros := a.zeros + b.zeros, cut := a.cut || b.cut } cc))) x cc k m
              { took a b.n b.sum b.least b.most with zeros := a.zeros + b.zeros, buckets := puts (fun i => max i (floors a b)) [] (a.buckets ++ b.buckets), cut := a.cut || b.cut } :=
            ⟨⟨dx1, upd_same⟩, ⟨cs, by rw [upd_ne (Ne.symm hxc)]; exact hC3, hpp⟩, show Srt (puts (fun i => max i (floors a b)) [] (a.buckets ++ b.buckets)) from puts_srt srt_nil⟩
          refine ⟨_, rfl, x, dx1, _, rfl, upd_same, aF_no (by decide +kernel), x, cc, k, m, _, rfl, hA5, hm1, ?_, fun H6 hA6 kp6 => ?_⟩
          · have z := puts_length (fun i => max i (floors a b)) (a.buckets ++ b.buckets) []
            have z1 := wa.len
            have z2 := wb.len
            show (puts (fun i => max i (floors a b)) [] (a.buckets ++ b.buckets)).length ≤ 1000
            simp at z
            omega
          · refine q H6 cc (Or.inr ?_) hA6 fun b0 o0 h0 n1 n2 => ?_
            · cases z : H cc with
              | none => rfl
              | some o =>
                exfalso
                by_cases zd : cc = d
                · rw [zd, hd2] at hcc
                  cases hcc
                · have := kp2 _ _ z (Ne.symm hxc) zd
                  rw [hcc] at this
                  cases this
            · have h2 := kp2 _ _ h0 n1 n2
              refine kp6 _ _ ?_ n1 (ne_of_none h2 hcc)
              rw [upd_ne n1]
              exact s3 _ _ h2
        refine ⟨_, rfl, x, C, dx1, _, _, rfl, upd_same, T.cl, T.nCut, aF_cut, _, rfl, ite2 (fun c5 => ?_) fun c5 => ?_⟩
        · have c6 : a.cut = true := by
            have z : (took a b.n b.sum b.least b.most).cut = true := c5
            rw [et.1] at z
            exact z
          refine ⟨_, rfl, x, C, dx1, _, rfl, upd_same, T.cl, T.nCut, (by rw [aF_len]; decide), ?_⟩
          exact fin true (by rw [c6]; rfl)
        · have c6 : a.cut = false := by
            have z : ¬ (took a b.n b.sum b.least b.most).cut = true := c5
            rw [et.1] at z
            cases e : a.cut with
            | true => exact absurd e z
            | false => rfl
          refine ⟨_, rfl, y, C, dy, _, _, rfl, hy4, T.cl, T.nCut, aF_cut, ?_⟩
          refine ⟨_, rfl, x, C, dx1, _, rfl, upd_same, T.cl, T.nCut, (by rw [aF_len]; decide), ?_⟩
          exact fin b.cut (by rw [c6]; rfl)
end
end Wb
/-! sorted(d) of a table of any size -/
namespace Wb
open PySem PySem.Spec PyProof.Rows L2
section
variable {X : Cx}
def rSortedTab : List V → Hp → VK → Prop := fun xs H Q => ∃ (a : Addr) (ds : Bk), xs = [.ref a] ∧ H a = some (.dK (dV ds)) ∧
  ∀ (ys : List Int) (p : Addr), ys.Perm ((keys ds).map fun n : Nat => (n : Int)) → ys.Pairwise (· ≤ ·) → H p = none → Q (.ref p) (upd H p (.lst (ys.map V.int)))
theorem sorted_tab (calm : X.calm = true) : CallR X (.builtin "sorted") rSortedTab := by
  intro pins s σ H xs us Q I r h
  obtain ⟨a, ds, rfl, hd, q⟩ := h
  obtain ⟨u, rfl, ru⟩ := vals1 r
  cases ru
  obtain ⟨size, sys, vs, rel, tab⟩ := dk_of I.hok hd
  obtain ⟨ep, at0⟩ := tab.dictAt
  have few : vs.length ≤ sizeLine := by
    rw [← rel.length]
    exact size
  refine Calls.call_function_entry kind_sorted plain_sorted entry_sorted (args_sorted1 _) ?_
  unfold Builtin.«sorted»
  refine wpAny_bind (m := checkCount "sorted" 1 1 _) (wpAny_pure ?_)
  refine wpAny_bind (PySem.W.kdu_collect (A := X.A.in1) (PySem.W.kdl_dict (knd := mixKind X.prog X.w) (kvs := vs) (ep := ep) sys) (I.ok.hd calm) at0 few fun h1 tk acc kept told => ?_)
  have many : acc.toList.length = vs.length := by
    rw [Array.length_toList]
    exact told.1
  have allV : Vals (vs.map fun p => kV p.1) acc.toList := keys_at many fun j v e => told.2 j v (by rw [← Array.getElem?_toList]; exact e)
  have same : (vs.map fun p => kV p.1) = ((keys ds).map fun n : Nat => (n : Int)).map V.int := by
    have e1 : (dV ds).map (·.1) = vs.map (·.1) := rel.keys
    rw [keys_dV] at e1
    have e2 := congrArg (List.map kV) e1
    rw [List.map_map, List.map_map (g := kV) (f := fun p : Key × Value => p.1)] at e2
    exact e2.symm
  rw [same] at allV
  have nums := ints_of_vals allV
  have I1 : Inv X pins σ H { s with heap := h1, toks := tk } := I.kept kept
  refine wpAny_bind (wpAny_newList ?_ (by rw [many]; exact few))
  have new : (h1.push (seqObj "list" acc.toList.toArray 0)).get? h1.objs.size = some (seqObj "list" acc.toList.toArray 0) := Heap.get?_push_size _ rfl
  show wpAny _ _ _ _ _ { s with heap := h1.push (seqObj "list" acc.toList.toArray 0), toks := tk }
  refine wpAny_bind (wpAny_holding (wpAny_call_entry slot_list_sort ⟨_, new, rfl⟩ entry_list_sort
    (list_sort_treeAny (s := { s with heap := h1.push (seqObj "list" acc.toList.toArray 0), toks := tk }) new nums (by rw [many]; exact few) fun out ys o1 o2 o3 => ⟨_, rfl, ?_⟩) (args_list_sort _)))
  obtain ⟨e', at1⟩ := sortedHeap_at (vs := acc.toList) (out := out) new
  have fits : (ys.map V.int).length ≤ sizeLine := by
    rw [List.length_map, o2.length_eq, List.length_map]
    unfold keys
    rw [List.length_map, ← dV_len]
    exact size
  refine wpAny_pure ⟨_, rfl, .ref h1.objs.size, upd H h1.objs.size (.lst (ys.map V.int)), ?_, rfl, q ys _ o2 o3 (I1.hok.fresh (Nat.le_refl _))⟩
  refine I1.laid (t' := tk) (fun b u e => ?_) (Nat.le_refl _) (show ObjOk X.prog X.w _ _ _ (.lst (ys.map V.int)) from ⟨fits, out.toList, e', vals_of_ints o1, by rw [Array.toArray_toList]; exact at1⟩)
  have below : b < h1.objs.size := Heap.lt_size e
  rw [sortedHeap_old (Nat.ne_of_lt below) (by rw [size_push']; exact Nat.lt_succ_of_lt below)]
  exact Heap.get?_push_of_some _ e
end
/-! two rising lists of the same numbers are one -/
theorem rise_one : ∀ {l m : List Int}, l.Perm m → l.Pairwise (· ≤ ·) → m.Pairwise (· < ·) → l = m
  | [], m, h, _, _ => (List.Perm.nil_eq h)
  | a :: l, [], h, _, _ => by
    have := h.length_eq
    simp at this
  | a :: l, b :: m, h, hl, hm => by
    obtain ⟨l1, l2⟩ := List.pairwise_cons.mp hl
    obtain ⟨m1, m2⟩ := List.pairwise_cons.mp hm
    have e : a = b := by
      have ha : a ∈ b :: m := h.mem_iff.mp List.mem_cons_self
      have hb : b ∈ a :: l := h.mem_iff.mpr List.mem_cons_self
      rcases List.mem_cons.mp ha with q | q
      · exact q
      · have z1 := m1 a q
        rcases List.mem_cons.mp hb with r | r
        · exact r.symm
        · have z2 := l1 b r
          omega
    subst e
    rw [rise_one (List.Perm.cons_inv h) l2 m2]
theorem sorted_keys {ds b : Bk} {ys : List Int} (h : ds.Perm b) (s : Srt b) (p : ys.Perm ((keys ds).map fun n : Nat => (n : Int))) (r : ys.Pairwise (· ≤ ·)) : ys = (keys b).map fun n : Nat => (n : Int) := by
  refine rise_one (p.trans ((show (keys ds).Perm (keys b) from h.map _).map _)) r ?_
  unfold keys
  rw [List.pairwise_map, List.pairwise_map]
  exact List.Pairwise.imp (fun q => by omega) s
end Wb
/-! min(d) of a table that may be walked just then -/
namespace Wb
open PySem PySem.Spec PyProof.Rows L2
theorem key_num {P : Program} {w : World} {ds : Bk} {vs : List (Key × Value)} (rel : KV (dV ds) vs) {i : Nat} {v : Value} (h : ∃ k x, vs[i]? = some (k, x) ∧ (mixKind P w).is k v = true) : ∃ t, v = .int (((keys ds).getD i 0 : Nat) : Int) t := by
  obtain ⟨k, x, hk, hv⟩ := h
  have same : (dV ds).map (·.1) = vs.map (·.1) := rel.keys
  have h1 : (vs.map (·.1))[i]? = some k := by
    rw [List.getElem?_map, hk]
    rfl
  rw [← same, keys_dV, List.getElem?_map, List.getElem?_map] at h1
  cases e : (keys ds)[i]? with
  | none =>
    rw [e] at h1
    cases h1
  | some n =>
    rw [e] at h1
    have h2 : Sum.inl (n : Int) = k := Option.some.inj h1
    subst h2
    obtain ⟨t, ht⟩ := Value.isInt_shape (k := (n : Int)) (v := v) hv
    exact ⟨t, by rw [List.getD_eq_getElem?_getD, e]; exact ht⟩
section
variable {X : Cx}
def rMinTab : List V → Hp → VK → Prop := fun xs H Q => ∃ (a : Addr) (ds : Bk), xs = [.ref a] ∧ Rd H a (.dK (dV ds)) ∧ ds ≠ [] ∧
  ∀ n : Nat, n ∈ keys ds → (∀ j ∈ keys ds, n ≤ j) → Q (.int (n : Int)) H
theorem min_tab (calm : X.calm = true) : CallR X (.builtin "min") rMinTab := by
  intro pins s σ H xs us Q I r h
  obtain ⟨a, ds, rfl, hd, full, q⟩ := h
  obtain ⟨u, rfl, ru⟩ := vals1 r
  cases ru
  obtain ⟨size, sys, vs, rel, tab⟩ := dk_rd I.hok hd
  obtain ⟨ep, at0⟩ := tab.dictAt
  obtain ⟨o0, there⟩ : ∃ o, s.heap.get? a = some o := let ⟨o, _, ho, _⟩ := at0; ⟨o, ho⟩
  have below : a < s.heap.objs.size := Heap.lt_size there
  have many : vs.length = (keys ds).length := by
    have z := congrArg List.length (show (dV ds).map (·.1) = vs.map (·.1) from rel.keys)
    rw [keys_dV, List.length_map, List.length_map, List.length_map] at z
    exact z.symm
  have pos : 0 < (keys ds).length := by
    unfold keys
    rw [List.length_map]
    exact List.length_pos_iff.mpr full
  have kept : ∀ (b : Addr) (o o' : Obj), s.heap.get? b = some o → (s.heap.push o').get? b = some o := fun b o o' e => Heap.get?_push_of_some _ e
  refine call_min_walk (wpAny_pyIter_dict (knd := mixKind X.prog X.w) sys at0 ⟨_, _, _, _, _, _, _, rfl, Walks.dictKeys (knd := mixKind X.prog X.w) (A := X.A.in1) (I.ok.hd calm) s.heap.objs.size a (Nat.ne_of_lt below) vs ep,
    ⟨⟨_, Heap.get?_push_size _ rfl, rfl, rfl⟩, at0.keep fun b o e => kept b o _ e⟩, fun b hb => ?_, by omega, CmpOf.ints_lt (fun i => (((keys ds).getD i 0 : Nat) : Int)) (fun i v hv => key_num rel hv), fun v h1 tk hv left => ?_⟩)
  · have z : b = s.heap.objs.size ∨ b = a := by simpa using hb
    have z2 : (s.heap.push { cls := .type "dict_keyiterator", data := .fields #[.ref a, .int 0 0, .int vs.length 0, .int ep 0] }).objs.size = s.heap.objs.size + 1 := Heap.size_push _ _
    show b < (s.heap.push _).objs.size
    rw [z2]
    rcases z with z | z
    · rw [z]
      exact Nat.lt_succ_self _
    · rw [z]
      exact Nat.lt_succ_of_lt below
  · obtain ⟨t, rfl⟩ := key_num rel hv
    obtain ⟨b1, b2⟩ := argBest_lt (fun i => (((keys ds).getD i 0 : Nat) : Int)) (vs.length - 1)
    generalize argBest (fun i j => decide ((((keys ds).getD i 0 : Nat) : Int) < (((keys ds).getD j 0 : Nat) : Int))) (vs.length - 1) = best at b1 b2 ⊢
    refine ⟨.int _, H, I.kept (t' := tk) fun b o e => left b o (fun z => ?_) (kept b o _ e), ⟨t, rfl⟩, q _ ?_ fun j hj => ?_⟩
    · have z1 : b = s.heap.objs.size := by simpa using z
      have z2 := Heap.lt_size e
      rw [z1] at z2
      exact absurd z2 (Nat.lt_irrefl _)
    · have z : best < (keys ds).length := by omega
      rw [List.getD_eq_getElem?_getD, List.getElem?_eq_getElem z]
      exact List.getElem_mem z
    · obtain ⟨i, hi⟩ := List.getElem?_of_mem hj
      obtain ⟨hi1, _⟩ := List.getElem?_eq_some_iff.mp hi
      have z : (((keys ds).getD best 0 : Nat) : Int) ≤ (((keys ds).getD i 0 : Nat) : Int) := b2 i (by omega)
      have e : (keys ds).getD i 0 = j := by
        rw [List.getD_eq_getElem?_getD, hi]
        rfl
      rw [e] at z
      omega
end
/-- an account that is read: its table may be walked just then -/
structure AccSee (C : Addr) (H : Hp) (x d : Addr) (k m : Nat) (a : Sq39.Account) : Prop where
  ex : ∃ dx, H x = some (.ins C dx (aF k m a d))
  tab : ∃ ds : Bk, Rd H d (.dK (dV ds)) ∧ ds.Perm a.buckets
  srt : Srt a.buckets
theorem AccAt.see {C : Addr} {H : Hp} {x d : Addr} {k m : Nat} {a : Sq39.Account} (A : AccAt C H x d k m a) : AccSee C H x d k m a := ⟨A.ex, let ⟨ds, h, p⟩ := A.tab; ⟨ds, .inl h, p⟩, A.srt⟩
theorem min_is {d b : Bk} {n : Nat} (h : d.Perm b) (s : Srt b) (hm : n ∈ keys d) (hl : ∀ j ∈ keys d, n ≤ j) : n = low b := by
  have z := min_low (m := (n : Int)) h s (List.mem_map.mpr ⟨n, hm, rfl⟩) fun j hj => by
    obtain ⟨i, hi, rfl⟩ := List.mem_map.mp hj
    have := hl i hi
    omega
  omega
end Wb
namespace Wb
open PySem PySem.Spec PyProof.Rows L2
abbrev sTold : Stmt := topS 8
abbrev sUpTo : Stmt := topS 9
abbrev sEnds : Stmt := topS 10
abbrev sRankIn : Stmt := topS 11
abbrev sLo : Stmt := topS 12
abbrev sHi : Stmt := topS 13
abbrev sMid : Stmt := topS 14
abbrev sGcd : Stmt := topS 15
def nV (l : List Nat) : List V := l.map fun n : Nat => V.int (n : Int)
def spGcd : Sp := fun vs H Q _ => ∃ a b : Nat, vs = [.int (a : Int), .int (b : Int)] ∧ Q (.int (Nat.gcd a b : Nat)) H
def spMid : Sp := fun vs H Q _ => ∃ x y : Nat, vs = [.int (x : Int), .int (y : Int)] ∧ x < 2 ^ 2492 ∧ y < 2 ^ 2492 ∧ ∀ p, H p = none → Q (.ref p) (upd H p (.lst (nV (midOf x y))))
def spHi (C : Addr) : Sp := fun vs H Q _ => ∃ (x d : Addr) (k m i : Nat) (a : Sq39.Account), vs = [.ref x, .int (i : Int)] ∧ AccSee C H x d k m a ∧ 3 ≤ k ∧ k ≤ 40 ∧ i ≤ 1000 ∧ Q (.int (hiEnd a k i : Nat)) H
def spLo (C : Addr) : Sp := fun vs H Q _ => ∃ (x d : Addr) (k m i : Nat) (a : Sq39.Account), vs = [.ref x, .int (i : Int)] ∧ AccSee C H x d k m a ∧ (a.cut = true → a.buckets ≠ []) ∧ 3 ≤ k ∧ k ≤ 40 ∧ i ≤ 1000 ∧ Q (.int (loEnd a k i : Nat)) H
def spRankIn (C : Addr) : Sp := fun vs H Q _ => ∃ (x d : Addr) (k m r : Nat) (a : Sq39.Account), vs = [.ref x, .int (r : Int)] ∧ AccAt C H x d k m a ∧
  ∀ H', Same H H' → Q (.int ((a.buckets.foldl (seekRank r) (a.zeros, 0)).2 : Nat)) H'
def spEnds (C : Addr) : Sp := fun vs H Q _ => ∃ (x d : Addr) (k m r : Nat) (a : Sq39.Account), vs = [.ref x, .int (r : Int)] ∧ AccAt C H x d k m a ∧ Wf m a ∧ 3 ≤ k ∧ k ≤ 40 ∧ r < a.n ∧
  ∀ (H' : Hp) (p : Addr), H p = none → H' p = some (.lst [.int ((endsOf a k r).1 : Nat), .int ((endsOf a k r).2 : Nat)]) → Same H H' → Q (.ref p) H'
def spTold (C : Addr) : Sp := fun vs H Q _ => ∃ (x d : Addr) (k m r : Nat) (a : Sq39.Account), vs = [.ref x, .int (r : Int)] ∧ AccAt C H x d k m a ∧ Wf m a ∧ 3 ≤ k ∧ k ≤ 40 ∧ r < a.n ∧
  ∀ (H' : Hp) (p : Addr), H p = none → H' p = some (.lst (nV (r :: Sq39.between (endsOf a k r)))) → Same H H' → Q (.ref p) H'
section
variable {P : Program} {w : World} {K : PySem.W.Frag} {mg : Str → Option Value} {base : Heap} {C : Addr}
/-! greatest_divisor -/
theorem scGcd : FnScope ["one", "other", "rest"] ["one", "other"] (defScope sGcd) := ⟨rfl, rfl, rfl, by decide +kernel, rfl, by decide +kernel, by decide +kernel⟩
theorem gcd_step (a b : Nat) : Nat.gcd b (a % b) = Nat.gcd a b := by
  rw [Nat.gcd_comm a b, Nat.gcd_rec b a, Nat.gcd_comm]
theorem ok_gcd {f : Addr} {fd : FuncData} (F : Fun K "greatest_divisor" "greatest_divisor" sGcd f fd) : FnOk P w K mg base CX0 1 f fd ["one", "other"] spGcd := by
  refine F.ok scGcd (fun vs H Q E h => ?_) (fun cdv A outer s H vs Q E hr h => ?_)
  · obtain ⟨a, b, rfl, _⟩ := h
    rfl
  · obtain ⟨a, b, rfl, q⟩ := h
    refine ⟨_, pss_cons (ps_while PassesOwn.never (pt_cmpR op_gt (pv 1) pe_int (nomark _))
        (pss_cons (ps_set (i := 2) scGcd.nd rfl (Or.inl rfl) (pe_op op_mod (pv 0) (pv 1)))
        (pss_cons (ps_set (i := 0) scGcd.nd rfl (Or.inl rfl) (pv 1)) (pss_one (ps_set (i := 1) scGcd.nd rfl (Or.inl rfl) (pv 2))))))
      (pss_one (ps_ret (pv 0))), ?_⟩
    refine while_by (fun σ H' => ∃ (a' b' : Nat) (v : Option V), σ = [some (.int (a' : Int)), some (.int (b' : Int)), v] ∧ H' = H ∧ Nat.gcd a' b' = Nat.gcd a b)
      (fun σ _ => match σ with | [_, some (.int j), _] => j.toNat | _ => 0) ⟨a, b, none, rfl, rfl, rfl⟩ ?_ ?_
    · rintro σ H' ⟨a', b', v, rfl, rfl, e⟩
      refine ⟨_, rfl, _, _, rfl, rfl, _, rfl, ite2 (fun c => ?_) fun c => ?_⟩
      · have c1 : (0 : Int) < (b' : Int) := of_decide_eq_true c
        refine ⟨_, rfl, _, rfl, _, _, rfl, rfl, c1, _, rfl, _, rfl, ⟨b', a' % b', some (.int ((a' : Int) % (b' : Int))), ?_, rfl, ?_⟩, ?_⟩
        · rw [Int.natCast_emod]
          rfl
        · rw [gcd_step]
          exact e
        · show ((a' : Int) % (b' : Int)).toNat < (b' : Int).toNat
          have z : (a' : Int) % (b' : Int) < (b' : Int) := Int.emod_lt_of_pos _ c1
          have z0 : 0 ≤ (a' : Int) % (b' : Int) := Int.emod_nonneg _ (by omega)
          omega
      · have c1 : b' = 0 := by
          have : ¬ (0 : Int) < (b' : Int) := fun z => c (decide_eq_true z)
          omega
        subst c1
        rw [Nat.gcd_zero_right] at e
        refine ⟨_, rfl, ?_⟩
        rw [← e] at q
        exact q
    · intro σ H' Q1 Q2 hq hc
      obtain ⟨v, e, i1, i2, e1, e2, k1, e3, z⟩ := hc
      exact ⟨v, e, i1, i2, e1, e2, k1, e3, hq _ _ z⟩
/-! number_between -/
theorem scMid : FnScope ["lesser", "greater", "top", "bottom", "common"] ["lesser", "greater"] (defScope sMid) := ⟨rfl, rfl, rfl, by decide +kernel, rfl, by decide +kernel, by decide +kernel⟩
theorem ok_mid {f fG : Addr} {fd fdG : FuncData} (F : Fun K "number_between" "number_between" sMid f fd) (FG : Fun K "greatest_divisor" "greatest_divisor" sGcd fG fdG) (bG : Binds K fdG ["one", "other"] []) (mG : mg "greatest_divisor" = some (.ref fG)) :
    FnOk P w K mg base CX0 2 f fd ["lesser", "greater"] spMid := by
  have GG : FnOk P w K mg base CX0 1 fG fdG ["one", "other"] spGcd := ok_gcd FG
  refine F.ok scMid (fun vs H Q E h => ?_) (fun cdv A outer s H vs Q E hr h => ?_)
  · obtain ⟨x, y, rfl, _⟩ := h
    rfl
  · obtain ⟨x, y, rfl, hx, hy, q⟩ := h
    refine ⟨_, pss_cons (ps_if (pt_cmpR op_eq (pv 1) pe_int (nomark _)) (pss_one (ps_ret (pe_lst (pa_cons pe_int (pa_cons pe_int pa_nil))))) pss_nil)
      (pss_cons (ps_set (i := 2) scMid.nd rfl (Or.inl rfl) (pe_op op_mulW (pe_op op_mulW pe_int (pv 0)) (pv 1)))
      (pss_cons (ps_set (i := 3) scMid.nd rfl (Or.inl rfl) (pe_op op_add (pv 0) (pv 1)))
      (pss_cons (ps_set (i := 4) scMid.nd rfl (Or.inl rfl) (pe_call GG hr rfl mG FG.kp bG .nil pass0 (pa_cons (pv 2) (pa_cons (pv 3) pa_nil))))
      (pss_one (ps_ret (pe_lst (pa_cons (pe_op op_fdivW (pv 2) (pv 4)) (pa_cons (pe_op op_fdivW (pv 3) (pv 4)) pa_nil)))))))), ?_⟩
    refine ⟨_, rfl, rfl, _, rfl, ite2 (fun c => ?_) fun c => ?_⟩
    · have e0 : y = 0 := int0.mp (of_decide_eq_true c)
      unfold midOf at q
      rw [if_pos e0] at q
      exact ⟨(by show 2 ≤ sizeLine; decide), q⟩
    · have e0 : y ≠ 0 := fun z => c (decide_eq_true (int0.mpr z))
      unfold midOf at q
      rw [if_neg e0] at q
      have b1 : CMulW 2 (x : Int) := wide_mul (a := 2) (b := 2492) (by decide) (by rw [Int.natAbs_natCast]; exact hx) (by decide) (by decide) (by decide)
      have b2 : CMulW (2 * (x : Int)) (y : Int) := wide_mul (a := 2 + 2492) (b := 2492) (wide_lt (by decide) (by rw [Int.natAbs_natCast]; exact hx)) (by rw [Int.natAbs_natCast]; exact hy) (by decide) (by decide) (by decide)
      refine ⟨_, rfl, _, _, rfl, rfl, b1, _, rfl, _, _, rfl, rfl, b2, ?_⟩
      refine ⟨_, rfl, _, rfl, _, _, rfl, rfl, ?_⟩
      have e1 : (2 * (x : Int)) * (y : Int) = ((2 * x * y : Nat) : Int) := by
        rw [Int.natCast_mul, Int.natCast_mul]
        rfl
      have e2 : (x : Int) + (y : Int) = ((x + y : Nat) : Int) := (Int.natCast_add x y).symm
      refine ⟨_, rfl, _, rfl, 2 * x * y, x + y, ?_, ?_⟩
      · show [V.int ((2 * (x : Int)) * (y : Int)), V.int ((x : Int) + (y : Int))] = _
        rw [e1, e2]
      · have g1 : Nat.gcd (2 * x * y) (x + y) ≤ x + y := Nat.le_of_dvd (by omega) (Nat.gcd_dvd_right _ _)
        have g0 : 0 < Nat.gcd (2 * x * y) (x + y) := Nat.gcd_pos_of_pos_right _ (by omega)
        have big : x + y < 2 ^ 2493 := by
          have z : (2 : Nat) ^ 2493 = 2 ^ 2492 * 2 := Nat.pow_succ 2 2492
          rw [z]
          omega
        have cd : ∀ i : Int, CDivW i ((Nat.gcd (2 * x * y) (x + y) : Nat) : Int) := fun i => wide_div (b := 2493) (by omega) (by rw [Int.natAbs_natCast]; exact Nat.lt_of_le_of_lt g1 big) (by decide) (by decide)
        refine ⟨_, rfl, _, rfl, _, _, rfl, rfl, cd _, _, rfl, _, rfl, _, _, rfl, rfl, cd _, (by show 2 ≤ sizeLine; decide), fun p hp => ?_⟩
        have q' := q p hp
        show Q (.ref p) (upd H p (.lst [V.int (((2 * (x : Int)) * (y : Int)) / ((Nat.gcd (2 * x * y) (x + y) : Nat) : Int)), V.int (((x : Int) + (y : Int)) / ((Nat.gcd (2 * x * y) (x + y) : Nat) : Int))]))
        rw [e1, e2, ← Int.natCast_ediv, ← Int.natCast_ediv]
        exact q'
/-! greater_end -/
theorem scHi : FnScope ["account", "number"] ["account", "number"] (defScope sHi) := ⟨rfl, rfl, rfl, by decide +kernel, rfl, by decide +kernel, by decide +kernel⟩
theorem ok_hi {f f1 : Addr} {fd fd1 : FuncData} (F : Fun K "greater_end" "greater_end" sHi f fd) (T : Txt K mg C) (F1 : Fun K "bucket_end" "bucket_end" sEnd f1 fd1) (b1 : Binds K fd1 ["fineness", "number"] []) (m1 : mg "bucket_end" = some (.ref f1)) :
    FnOk P w K mg base CX0 2 f fd ["account", "number"] (spHi C) := by
  have G1 : FnOk P w K mg base CX0 1 f1 fd1 ["fineness", "number"] spEnd := ok_end F1 T.range
  refine F.ok scHi (fun vs H Q E h => ?_) (fun cdv A outer s H vs Q E hr h => ?_)
  · obtain ⟨x, d, k, m, i, a, rfl, _⟩ := h
    rfl
  · obtain ⟨x, d, k, m, i, a, rfl, hA, h3, h40, hi, q⟩ := h
    refine ⟨_, pss_one (ps_ret (pe_callB (call_min2 rfl) (by rfl) T.min (by decide +kernel) (pa_cons (pe_call G1 hr rfl m1 F1.kp b1 .nil pass0 (pa_cons (pe_fld (pv 0) rfl) (pa_cons (pv 1) pa_nil))) (pa_cons (pe_fld (pv 0) rfl) pa_nil)))), ?_⟩
    obtain ⟨dx, hx⟩ := hA.ex
    refine ⟨_, rfl, x, C, dx, _, _, rfl, hx, T.cl, T.nFine, aF_fine, _, rfl, k, i, rfl, h3, h40, hi, _, rfl, x, C, dx, _, _, rfl, hx, T.cl, T.nGreatest, aF_greatest, _, _, rfl, ?_⟩
    rw [min_nat]
    exact q
/-! lesser_end -/
theorem scLo : FnScope ["account", "number"] ["account", "number"] (defScope sLo) := ⟨rfl, rfl, rfl, by decide +kernel, rfl, by decide +kernel, by decide +kernel⟩
theorem ok_lo {f f1 f2 : Addr} {fd fd1 fd2 : FuncData} (F : Fun K "lesser_end" "lesser_end" sLo f fd) (T : Txt K mg C) (F1 : Fun K "bucket_end" "bucket_end" sEnd f1 fd1) (b1 : Binds K fd1 ["fineness", "number"] []) (m1 : mg "bucket_end" = some (.ref f1))
    (F2 : Fun K "bucket_begin" "bucket_begin" sBegin f2 fd2) (b2 : Binds K fd2 ["fineness", "number"] []) (m2 : mg "bucket_begin" = some (.ref f2)) :
    FnOk P w K mg base CX0 3 f fd ["account", "number"] (spLo C) := by
  have G2 : FnOk P w K mg base CX0 2 f2 fd2 ["fineness", "number"] spBegin := ok_begin F2 F1 b1 m1 T.range
  refine F.ok scLo (fun vs H Q E h => ?_) (fun cdv A outer s H vs Q E hr h => ?_)
  · obtain ⟨x, d, k, m, i, a, rfl, _⟩ := h
    rfl
  · obtain ⟨x, d, k, m, i, a, rfl, hA, hcut, h3, h40, hi, q⟩ := h
    refine ⟨_, pss_cons (ps_if (PW.pt (pw_and (pt_val (pe_fld (pv 0) rfl)) (pw_and1 (pt_cmpR op_eq (pv 1) (pe_callB (min_tab rfl) (by rfl) T.min (by decide +kernel) (pa_cons (pe_fld (pv 0) rfl) pa_nil)) (nomark _)))))
        (pss_one (ps_ret (pe_callB (call_max2 rfl) (by rfl) T.max (by decide +kernel) (pa_cons pe_int (pa_cons (pe_fld (pv 0) rfl) pa_nil))))) pss_nil)
      (pss_one (ps_ret (pe_callB (call_max2 rfl) (by rfl) T.max (by decide +kernel) (pa_cons (pe_call G2 hr rfl m2 F2.kp b2 .nil pass0 (pa_cons (pe_fld (pv 0) rfl) (pa_cons (pv 1) pa_nil))) (pa_cons (pe_fld (pv 0) rfl) pa_nil))))), ?_⟩
    obtain ⟨dx, hx⟩ := hA.ex
    obtain ⟨ds, hd, hp⟩ := hA.tab
    -- the last row
    have last : ¬ (a.cut = true ∧ i = low a.buckets) → tRet (tCB (fun xs H Q => ∃ i j, xs = [V.int i, .int j] ∧ Q (V.int (if j > i then j else i)) H) (tCons (tCall spBegin [] E0 (tCons (tFld K (tVar 0) "fineness") (tCons (tVar 1) tNil))) (tCons (tFld K (tVar 0) "least") tNil)))
        { nx := fun _ H' => Q .non H', rt := Q } [some (.ref x), some (.int (i : Int))] H := by
      intro hn
      refine ⟨_, rfl, x, C, dx, _, _, rfl, hx, T.cl, T.nFine, aF_fine, _, rfl, k, i, rfl, h3, h40, hi, _, rfl, x, C, dx, _, _, rfl, hx, T.cl, T.nLeast, aF_least, _, _, rfl, ?_⟩
      rw [max_nat]
      unfold loEnd at q
      rw [if_neg hn] at q
      exact q
    refine ⟨_, rfl, x, C, dx, _, _, rfl, hx, T.cl, T.nCut, aF_cut, _, rfl, ite2 (fun c => ?_) fun c => ?_⟩
    · have hb := hcut c
      refine ⟨_, rfl, _, rfl, x, C, dx, _, _, rfl, hx, T.cl, T.nCounts, aF_counts, d, ds, rfl, hd, fun z => ?_, fun mm h1 h2 => ?_⟩
      · rw [z] at hp
        exact hb hp.nil_eq.symm
      · have e := min_is hp hA.srt h1 h2
        subst e
        refine ⟨rfl, _, rfl, ite2 (fun c2 => ?_) fun c2 => ?_⟩
        · have e2 : i = low a.buckets := by
            have z : V.int (i : Int) = V.int (low a.buckets : Nat) := of_decide_eq_true c2
            have := V.int.inj z
            omega
          refine ⟨_, rfl, x, C, dx, _, _, rfl, hx, T.cl, T.nLeast, aF_least, _, _, rfl, ?_⟩
          have z := max_nat 1 a.least
          unfold loEnd at q
          rw [if_pos ⟨c, e2⟩] at q
          show Q (.int (if (a.least : Int) > ((1 : Nat) : Int) then (a.least : Int) else ((1 : Nat) : Int))) H
          rw [z]
          exact q
        · exact last fun z => c2 (decide_eq_true (by rw [z.2]))
    · exact last fun z => c z.1
/-! bucket_of_rank -/
theorem scRankIn : FnScope ["account", "rank", "first", "found", "number"] ["account", "rank"] (defScope sRankIn) := ⟨rfl, rfl, rfl, by decide +kernel, rfl, by decide +kernel, by decide +kernel⟩
theorem ok_rankIn {f : Addr} {fd : FuncData} (F : Fun K "bucket_of_rank" "bucket_of_rank" sRankIn f fd) (T : Txt K mg C) : FnOk P w K mg base CX0 1 f fd ["account", "rank"] (spRankIn C) := by
  refine F.ok scRankIn (fun vs H Q E h => ?_) (fun cdv A outer s H vs Q E hr h => ?_)
  · obtain ⟨x, d, k, m, r, a, rfl, _⟩ := h
    rfl
  · obtain ⟨x, d, k, m, r, a, rfl, hA, q⟩ := h
    have hu := hu_of hr
    refine ⟨_, pss_cons (ps_set (i := 2) scRankIn.nd rfl (Or.inl rfl) (pe_fld (pv 0) rfl)) (pss_cons (ps_set (i := 3) scRankIn.nd rfl (Or.inl rfl) pe_int)
      (pss_cons (ps_for PassesOwn.never rfl (pi_list (pe_callB (sorted_tab rfl) (by rfl) T.sorted (by decide +kernel) (pa_cons (pe_fld (pv 0) rfl) pa_nil))) (pg_name (i := 4) scRankIn.nd rfl (Or.inl rfl))
        (pss_cons (ps_if (pt_cmpR op_le (pv 2) (pv 1) (nomark _)) (pss_one (ps_set (i := 3) scRankIn.nd rfl (Or.inl rfl) (pv 4))) pss_nil)
        (pss_one (ps_aug (i := 2) scRankIn.nd rfl (Or.inl rfl) (pe_dget hu (pe_fld (pv 0) rfl) (pv 4) (fun _ _ => rfl)) ip_add))))
      (pss_one (ps_ret (pv 3))))), ?_⟩
    obtain ⟨dx, hx⟩ := hA.ex
    obtain ⟨ds, hd, hp⟩ := hA.tab
    refine ⟨_, rfl, x, C, dx, _, _, rfl, hx, T.cl, T.nZeros, aF_zeros, ?_⟩
    refine ⟨_, rfl, x, C, dx, _, _, rfl, hx, T.cl, T.nCounts, aF_counts, d, ds, rfl, hd, fun ys p hy1 hy2 hpn => ?_⟩
    have ey := sorted_keys hp hA.srt hy1 hy2
    have sm : Same H (upd H p (.lst (ys.map V.int))) := fun b o e => by
      rw [upd_ne (ne_of_none e hpn)]
      exact e
    have e9 : ys.map V.int = nV (keys a.buckets) := by
      rw [ey]
      unfold nV
      rw [List.map_map]
      rfl
    rw [e9] at sm ⊢
    refine ⟨p, rfl, ⟨_, SqL.of upd_same⟩, for_list (K := K) (a := p) (xs := nV (keys a.buckets)) (fun j σ H' => H' = upd H p (.lst (nV (keys a.buckets))) ∧ ∃ v4 : Option V, σ = [some (.ref x), some (.int (r : Int)),
        some (.int (((a.buckets.take j).foldl (seekRank r) (a.zeros, 0)).1 : Nat)), some (.int (((a.buckets.take j).foldl (seekRank r) (a.zeros, 0)).2 : Nat)), v4])
      ⟨rfl, none, rfl⟩ (fun j σ H' _ ⟨h1, _⟩ => by rw [h1]; exact SqL.of upd_same) ?_ ?_⟩
    · rintro j y σ H' hj ⟨rfl, v4, rfl⟩
      obtain ⟨b, hb, rfl⟩ : ∃ b, a.buckets[j]? = some b ∧ y = V.int (b.1 : Int) := by
        unfold nV keys at hj
        rw [List.map_map, List.getElem?_map] at hj
        cases e : a.buckets[j]? with
        | none =>
          rw [e] at hj
          cases hj
        | some b =>
          rw [e] at hj
          exact ⟨b, rfl, (Option.some.inj hj).symm⟩
      have hv : valV (dV ds) (Sum.inl (b.1 : Int)) = some (.int (b.2 : Int)) := by
        rw [valV_dV, dget_some (perm_keys_nodup hp hA.srt) (show (b.1, b.2) ∈ ds from hp.mem_iff.mpr (List.mem_of_getElem? hb))]
        rfl
      have et : (a.buckets.take (j + 1)).foldl (seekRank r) (a.zeros, 0) = seekRank r ((a.buckets.take j).foldl (seekRank r) (a.zeros, 0)) b := by
        rw [take_more hb, List.foldl_append]
        rfl
      generalize hS : (a.buckets.take j).foldl (seekRank r) (a.zeros, 0) = S at et
      -- what comes behind the if
      have fin : ∀ (fnd : Nat), fnd = (seekRank r S b).2 → tAug 2 (tDGet (tFld K (tVar 0) "counts") (tVar 4)) (ipI fun i j => i + j)
          { nx := fun σ H' => H' = upd H p (.lst (nV (keys a.buckets))) ∧ ∃ v4 : Option V, σ = [some (.ref x), some (.int (r : Int)), some (.int (((a.buckets.take (j + 1)).foldl (seekRank r) (a.zeros, 0)).1 : Nat)), some (.int (((a.buckets.take (j + 1)).foldl (seekRank r) (a.zeros, 0)).2 : Nat)), v4],
            rt := Q, ct := fun σ H' => H' = upd H p (.lst (nV (keys a.buckets))) ∧ ∃ v4 : Option V, σ = [some (.ref x), some (.int (r : Int)), some (.int (((a.buckets.take (j + 1)).foldl (seekRank r) (a.zeros, 0)).1 : Nat)), some (.int (((a.buckets.take (j + 1)).foldl (seekRank r) (a.zeros, 0)).2 : Nat)), v4],
            bk := fun σ H' => tRet (tVar 3) { nx := fun _ H' => Q .non H', rt := Q } σ H' }
          [some (.ref x), some (.int (r : Int)), some (.int (S.1 : Nat)), some (.int (fnd : Nat)), some (.int (b.1 : Int))] (upd H p (.lst (nV (keys a.buckets)))) := by
        rintro fnd rfl
        refine ⟨_, rfl, _, rfl, x, C, dx, _, _, rfl, sm _ _ hx, T.cl, T.nCounts, aF_counts, _, rfl, d, _, rfl, .inl ⟨dV ds, Sum.inl (b.1 : Int), .inl (sm _ _ hd), rfl, hv.symm⟩, _, _, rfl, rfl, rfl, some (.int (b.1 : Int)), ?_⟩
        rw [et]
        show [_, _, some (V.int ((S.1 : Int) + (b.2 : Int))), _, _] = [_, _, some (V.int ((S.1 + b.2 : Nat) : Int)), _, _]
        rw [Int.natCast_add]
      refine ⟨_, rfl, _, rfl, _, _, rfl, rfl, _, rfl, ite2 (fun c => ?_) fun c => ?_⟩
      · have c1 : S.1 ≤ r := by
          have z : (S.1 : Int) ≤ (r : Int) := of_decide_eq_true c
          omega
        refine ⟨_, rfl, ?_⟩
        exact fin b.1 (by unfold seekRank; rw [if_pos c1])
      · have c1 : ¬ S.1 ≤ r := fun z => c (decide_eq_true (by omega))
        exact fin S.2 (by unfold seekRank; rw [if_neg c1])
    · rintro σ H' ⟨rfl, v4, rfl⟩
      have el : a.buckets.take (nV (keys a.buckets)).length = a.buckets := by
        unfold nV keys
        rw [List.length_map, List.length_map, List.take_length]
      rw [el]
      exact ⟨_, rfl, q _ sm⟩
end
end Wb
namespace Wb
open PySem PySem.Spec PyProof.Rows L2
/-- the defs of ranks and buckets as they stand -/
structure Rk (K : PySem.W.Frag) (mg : Str → Option Value) (fEnd fBegin fTold fEnds fIn fLo fHi fMid fGcd : Addr) (dEnd dBegin dTold dEnds dIn dLo dHi dMid dGcd : FuncData) : Prop where
  FEnd : Fun K "bucket_end" "bucket_end" sEnd fEnd dEnd
  bEnd : Binds K dEnd ["fineness", "number"] []
  mEnd : mg "bucket_end" = some (.ref fEnd)
  FBegin : Fun K "bucket_begin" "bucket_begin" sBegin fBegin dBegin
  bBegin : Binds K dBegin ["fineness", "number"] []
  mBegin : mg "bucket_begin" = some (.ref fBegin)
  FTold : Fun K "told_of_rank" "told_of_rank" sTold fTold dTold
  bTold : Binds K dTold ["account", "rank"] []
  mTold : mg "told_of_rank" = some (.ref fTold)
  FEnds : Fun K "ends_of_rank" "ends_of_rank" sEnds fEnds dEnds
  bEnds : Binds K dEnds ["account", "rank"] []
  mEnds : mg "ends_of_rank" = some (.ref fEnds)
  FIn : Fun K "bucket_of_rank" "bucket_of_rank" sRankIn fIn dIn
  bIn : Binds K dIn ["account", "rank"] []
  mIn : mg "bucket_of_rank" = some (.ref fIn)
  FLo : Fun K "lesser_end" "lesser_end" sLo fLo dLo
  bLo : Binds K dLo ["account", "number"] []
  mLo : mg "lesser_end" = some (.ref fLo)
  FHi : Fun K "greater_end" "greater_end" sHi fHi dHi
  bHi : Binds K dHi ["account", "number"] []
  mHi : mg "greater_end" = some (.ref fHi)
  FMid : Fun K "number_between" "number_between" sMid fMid dMid
  bMid : Binds K dMid ["lesser", "greater"] []
  mMid : mg "number_between" = some (.ref fMid)
  FGcd : Fun K "greatest_divisor" "greatest_divisor" sGcd fGcd dGcd
  bGcd : Binds K dGcd ["one", "other"] []
  mGcd : mg "greatest_divisor" = some (.ref fGcd)
theorem same_new {H : Hp} {p : Addr} {o : HO} (h : H p = none) : Same H (upd H p o) := fun b u e => by
  rw [upd_ne (ne_of_none e h)]
  exact e
theorem same_acc {C x d : Addr} {H H' : Hp} {k m : Nat} {a : Sq39.Account} (s : Same H H') (A : AccAt C H x d k m a) : AccAt C H' x d k m a := A.keep fun b o e _ => s b o e
section
variable {P : Program} {w : World} {K : PySem.W.Frag} {mg : Str → Option Value} {base : Heap} {C : Addr} {fEnd fBegin fTold fEnds fIn fLo fHi fMid fGcd : Addr} {dEnd dBegin dTold dEnds dIn dLo dHi dMid dGcd : FuncData}
theorem scEnds : FnScope ["account", "rank", "number"] ["account", "rank"] (defScope sEnds) := ⟨rfl, rfl, rfl, by decide +kernel, rfl, by decide +kernel, by decide +kernel⟩
theorem ok_ends (R : Rk K mg fEnd fBegin fTold fEnds fIn fLo fHi fMid fGcd dEnd dBegin dTold dEnds dIn dLo dHi dMid dGcd) (T : Txt K mg C) : FnOk P w K mg base CX0 4 fEnds dEnds ["account", "rank"] (spEnds C) := by
  have GI : FnOk P w K mg base CX0 1 fIn dIn ["account", "rank"] (spRankIn C) := ok_rankIn R.FIn T
  have GL : FnOk P w K mg base CX0 3 fLo dLo ["account", "number"] (spLo C) := ok_lo R.FLo T R.FEnd R.bEnd R.mEnd R.FBegin R.bBegin R.mBegin
  have GH : FnOk P w K mg base CX0 2 fHi dHi ["account", "number"] (spHi C) := ok_hi R.FHi T R.FEnd R.bEnd R.mEnd
  refine R.FEnds.ok scEnds (fun vs H Q E h => ?_) (fun cdv A outer s H vs Q E hr h => ?_)
  · obtain ⟨x, d, k, m, r, a, rfl, _⟩ := h
    rfl
  · obtain ⟨x, d, k, m, r, a, rfl, hA, hW, h3, h40, hrn, q⟩ := h
    have hr1 : Room 1 _ := hr.mono (by decide)
    have hr2 : Room 2 _ := hr.mono (by decide)
    refine ⟨_, pss_cons (ps_if (pt_cmpR op_lt (pv 1) (pe_fld (pv 0) rfl) (nomark _)) (pss_one (ps_ret (pe_lst (pa_cons pe_int (pa_cons pe_int pa_nil))))) pss_nil)
      (pss_cons (ps_set (i := 2) scEnds.nd rfl (Or.inl rfl) (pe_call GI hr1 rfl R.mIn R.FIn.kp R.bIn .nil pass0 (pa_cons (pv 0) (pa_cons (pv 1) pa_nil))))
      (pss_one (ps_ret (pe_lst (pa_cons (pe_call GL hr rfl R.mLo R.FLo.kp R.bLo .nil pass0 (pa_cons (pv 0) (pa_cons (pv 2) pa_nil))) (pa_cons (pe_call GH hr2 rfl R.mHi R.FHi.kp R.bHi .nil pass0 (pa_cons (pv 0) (pa_cons (pv 2) pa_nil))) pa_nil)))))), ?_⟩
    obtain ⟨dx, hx⟩ := hA.ex
    refine ⟨_, rfl, _, rfl, x, C, dx, _, _, rfl, hx, T.cl, T.nZeros, aF_zeros, _, _, rfl, rfl, _, rfl, ite2 (fun c => ?_) fun c => ?_⟩
    · have c1 : r < a.zeros := by
        have z : (r : Int) < (a.zeros : Int) := of_decide_eq_true c
        omega
      unfold endsOf at q
      rw [if_pos c1] at q
      exact ⟨(by show 2 ≤ sizeLine; decide), fun p hp => q _ p hp upd_same (same_new hp)⟩
    · have c1 : ¬ r < a.zeros := fun z => c (decide_eq_true (by omega))
      obtain ⟨cc, hcc⟩ := mem_keys.mp (found_in hW hrn c1)
      have hi := hW.le _ hcc
      unfold endsOf at q
      rw [if_neg c1] at q
      refine ⟨_, rfl, _, rfl, x, d, k, m, r, a, rfl, hA, fun H1 s1 => ?_⟩
      have hA1 := same_acc s1 hA
      refine ⟨_, rfl, _, rfl, x, d, k, m, _, a, rfl, hA1.see, hW.cut, h3, h40, Nat.le_trans hi (by decide), _, rfl, _, rfl, x, d, k, m, _, a, rfl, hA1.see, h3, h40, Nat.le_trans hi (by decide), (by show 2 ≤ sizeLine; decide), fun p hp => ?_⟩
      exact q _ p (s1.free hp) upd_same (s1.trans (same_new hp))
theorem scTold : FnScope ["account", "rank", "ends"] ["account", "rank"] (defScope sTold) := ⟨rfl, rfl, rfl, by decide +kernel, rfl, by decide +kernel, by decide +kernel⟩
theorem ok_told (R : Rk K mg fEnd fBegin fTold fEnds fIn fLo fHi fMid fGcd dEnd dBegin dTold dEnds dIn dLo dHi dMid dGcd) (T : Txt K mg C) : FnOk P w K mg base CX0 5 fTold dTold ["account", "rank"] (spTold C) := by
  have GE : FnOk P w K mg base CX0 4 fEnds dEnds ["account", "rank"] (spEnds C) := ok_ends R T
  have GM : FnOk P w K mg base CX0 2 fMid dMid ["lesser", "greater"] spMid := ok_mid R.FMid R.FGcd R.bGcd R.mGcd
  refine R.FTold.ok scTold (fun vs H Q E h => ?_) (fun cdv A outer s H vs Q E hr h => ?_)
  · obtain ⟨x, d, k, m, r, a, rfl, _⟩ := h
    rfl
  · obtain ⟨x, d, k, m, r, a, rfl, hA, hW, h3, h40, hrn, q⟩ := h
    have hr2 : Room 2 _ := hr.mono (by decide)
    refine ⟨_, pss_cons (ps_set (i := 2) scTold.nd rfl (Or.inl rfl) (pe_call GE hr rfl R.mEnds R.FEnds.kp R.bEnds .nil pass0 (pa_cons (pv 0) (pa_cons (pv 1) pa_nil))))
      (pss_one (ps_ret (pe_op op_cat (pe_op op_cat (pe_lst (pa_cons (pv 1) pa_nil)) (pv 2)) (pe_call GM hr2 rfl R.mMid R.FMid.kp R.bMid .nil pass0 (pa_cons (pe_ix ix_list (pv 2) pe_int (fun _ _ => rfl)) (pa_cons (pe_ix ix_list (pv 2) pe_int (fun _ _ => rfl)) pa_nil)))))), ?_⟩
    refine ⟨_, rfl, _, rfl, x, d, k, m, r, a, rfl, hA, hW, h3, h40, hrn, fun H1 l hl hL s1 => ?_⟩
    obtain ⟨b1, b2⟩ := ends_small hW hrn h40
    rw [between_eq] at q
    generalize hz : endsOf a k r = z at hL b1 b2 q
    refine ⟨_, rfl, (by show 1 ≤ sizeLine; decide), fun p1 hp1 => ?_⟩
    have s2 := same_new (o := .lst [.int (r : Int)]) hp1
    refine ⟨_, rfl, p1, l, _, _, rfl, rfl, upd_same, s2 _ _ hL, (by show 3 ≤ sizeLine; decide), fun p2 hp2 => ?_⟩
    have s3 := same_new (o := .lst ([.int (r : Int)] ++ [.int (z.1 : Int), .int (z.2 : Int)])) hp2
    have hL3 := s3 _ _ (s2 _ _ hL)
    refine ⟨_, rfl, l, _, _, _, rfl, rfl, SqL.of hL3, atI_nat (j := 0) rfl, _, rfl, l, _, _, _, rfl, rfl, SqL.of hL3, atI_nat (j := 1) rfl, z.1, z.2, rfl, b1, b2, fun p3 hp3 => ?_⟩
    have s4 := same_new (o := .lst (nV (midOf z.1 z.2))) hp3
    have len : (nV (midOf z.1 z.2)).length = 2 := by
      unfold nV midOf
      split <;> rfl
    refine ⟨p2, p3, _, _, rfl, rfl, s4 _ _ upd_same, upd_same, (by rw [len]; show 3 + 2 ≤ sizeLine; decide), fun p4 hp4 => ?_⟩
    have s5 := same_new (o := .lst ([.int (r : Int)] ++ [.int (z.1 : Int), .int (z.2 : Int)] ++ nV (midOf z.1 z.2))) hp4
    have sa := (((s1.trans s2).trans s3).trans s4)
    exact q _ p4 (sa.free hp4) upd_same (sa.trans s5)
end
end Wb
namespace Wb
open PySem PySem.Spec PyProof.Rows L2
/-! up to, over the table in any order -/
def sumIf (f : Nat → Bool) (l : Bk) : Nat := ((l.filter fun x => f x.1).map fun x => x.2).sum
theorem sumIf_perm {f : Nat → Bool} {l m : Bk} (h : l.Perm m) : sumIf f l = sumIf f m := ((h.filter _).map _).sum_nat
theorem sumIf_snoc (f : Nat → Bool) (l : Bk) (x : Nat × Nat) : sumIf f (l ++ [x]) = sumIf f l + if f x.1 = true then x.2 else 0 := by
  unfold sumIf
  rw [List.filter_append, List.map_append, List.sum_append]
  congr 1
  by_cases h : f x.1 = true
  · rw [if_pos h, List.filter_cons_of_pos (by exact h)]
    simp
  · rw [if_neg h, List.filter_cons_of_neg (by exact h)]
    rfl
def sureIn (a : Sq39.Account) (k v : Nat) : Nat → Bool := fun i => decide (hiEnd a k i ≤ v)
def mayIn (a : Sq39.Account) (k v : Nat) : Nat → Bool := fun i => decide (loEnd a k i ≤ v)
theorem upTo_eq {a : Sq39.Account} {k v : Nat} (h : a.cut = true → a.buckets ≠ []) : a.upTo k v = (a.zeros + sumIf (sureIn a k v) a.buckets, a.zeros + sumIf (mayIn a k v) a.buckets) := by
  have e : (fun x : Nat × Nat => decide (max (if (a.cut && Sq39.isLowest a x.1) = true then 1 else Sq39.bottom k x.1) a.least ≤ v)) = fun x => mayIn a k v x.1 := by
    funext x
    rw [loEnd_eq h]
    rfl
  unfold Sq39.Account.upTo
  dsimp only
  rw [e]
  rfl
def spUpTo (C : Addr) : Sp := fun vs H Q _ => ∃ (x d : Addr) (k m v : Nat) (a : Sq39.Account), vs = [.ref x, .int (v : Int)] ∧ AccAt C H x d k m a ∧ Wf m a ∧ 3 ≤ k ∧ k ≤ 40 ∧
  ∀ (H' : Hp) (p : Addr), H p = none → H' p = some (.lst [.int ((a.upTo k v).1 : Nat), .int ((a.upTo k v).2 : Nat)]) → Same H H' → Q (.ref p) H'
section
variable {P : Program} {w : World} {K : PySem.W.Frag} {mg : Str → Option Value} {base : Heap} {C : Addr} {fEnd fBegin fTold fEnds fIn fLo fHi fMid fGcd : Addr} {dEnd dBegin dTold dEnds dIn dLo dHi dMid dGcd : FuncData}
theorem scUpTo : FnScope ["account", "value", "sure", "maybe", "number"] ["account", "value"] (defScope sUpTo) := ⟨rfl, rfl, rfl, by decide +kernel, rfl, by decide +kernel, by decide +kernel⟩
theorem ok_upTo {f : Addr} {fd : FuncData} (F : Fun K "told_up_to" "told_up_to" sUpTo f fd) (R : Rk K mg fEnd fBegin fTold fEnds fIn fLo fHi fMid fGcd dEnd dBegin dTold dEnds dIn dLo dHi dMid dGcd) (T : Txt K mg C) : FnOk P w K mg base CX0 4 f fd ["account", "value"] (spUpTo C) := by
  have GL : FnOk P w K mg base CX0 3 fLo dLo ["account", "number"] (spLo C) := ok_lo R.FLo T R.FEnd R.bEnd R.mEnd R.FBegin R.bBegin R.mBegin
  have GH : FnOk P w K mg base CX0 2 fHi dHi ["account", "number"] (spHi C) := ok_hi R.FHi T R.FEnd R.bEnd R.mEnd
  refine F.ok scUpTo (fun vs H Q E h => ?_) (fun cdv A outer s H vs Q E hr h => ?_)
  · obtain ⟨x, d, k, m, v, a, rfl, _⟩ := h
    rfl
  · obtain ⟨x, d, k, m, v, a, rfl, hA, hW, h3, h40, q⟩ := h
    have hr2 : Room 2 _ := hr.mono (by decide)
    have hu := hu_of hr
    refine ⟨_, pss_cons (ps_set (i := 2) scUpTo.nd rfl (Or.inl rfl) (pe_fld (pv 0) rfl)) (pss_cons (ps_set (i := 3) scUpTo.nd rfl (Or.inl rfl) (pe_fld (pv 0) rfl))
      (pss_cons (ps_lock (ps_for PassesOwn.never rfl (pi_keys (pe_fld (pv 0) rfl)) (pg_name (i := 4) scUpTo.nd rfl (Or.inl rfl))
        (pss_cons (ps_if (pt_cmpR op_le (pe_call GH hr2 rfl R.mHi R.FHi.kp R.bHi .nil pass0 (pa_cons (pv 0) (pa_cons (pv 4) pa_nil))) (pv 1) (nomark _)) (pss_one (ps_aug (i := 2) scUpTo.nd rfl (Or.inl rfl) (pe_dget hu (pe_fld (pv 0) rfl) (pv 4) (fun _ _ => rfl)) ip_add)) pss_nil)
        (pss_one (ps_if (pt_cmpR op_le (pe_call GL hr rfl R.mLo R.FLo.kp R.bLo .nil pass0 (pa_cons (pv 0) (pa_cons (pv 4) pa_nil))) (pv 1) (nomark _)) (pss_one (ps_aug (i := 3) scUpTo.nd rfl (Or.inl rfl) (pe_dget hu (pe_fld (pv 0) rfl) (pv 4) (fun _ _ => rfl)) ip_add)) pss_nil)))))
      (pss_one (ps_ret (pe_lst (pa_cons (pv 2) (pa_cons (pv 3) pa_nil))))))), ?_⟩
    obtain ⟨dx, hx⟩ := hA.ex
    obtain ⟨ds, hd, hp⟩ := hA.tab
    have hxd := hA.ne
    refine ⟨_, rfl, x, C, dx, _, _, rfl, hx, T.cl, T.nZeros, aF_zeros, ?_⟩
    refine ⟨_, rfl, x, C, dx, _, _, rfl, hx, T.cl, T.nZeros, aF_zeros, ?_⟩
    refine ⟨d, _, hd, trivial, fun od => ?_⟩
    have hx' : (upd H d (.frz od (.dK (dV ds)))) x = some (.ins C dx (aF k m a d)) := by
      rw [upd_ne hxd]
      exact hx
    have hd' : (upd H d (.frz od (.dK (dV ds)))) d = some (.frz od (.dK (dV ds))) := upd_same
    have hS : AccSee C (upd H d (.frz od (.dK (dV ds)))) x d k m a := ⟨⟨dx, hx'⟩, ⟨ds, .inr ⟨od, hd'⟩, hp⟩, hA.srt⟩
    have sm : Same H (upd (upd H d (.frz od (.dK (dV ds)))) d (.dK (dV ds))) := fun b o e => by
      by_cases hb : b = d
      · subst hb
        rw [upd_same, ← e, hd]
      · rw [upd_ne hb, upd_ne hb]
        exact e
    generalize hHL : upd H d (.frz od (.dK (dV ds))) = HL at hx' hd' hS sm ⊢
    refine ⟨_, rfl, x, C, dx, _, _, rfl, hx', T.cl, T.nCounts, aF_counts, d, od, rfl, .inl ⟨dV ds, hd', for_it walk_keys (fun j σ H2 => H2 = HL ∧ ∃ v4 : Option V, σ = [some (.ref x), some (.int (v : Int)),
        some (.int (a.zeros + sumIf (sureIn a k v) (ds.take j) : Nat)), some (.int (a.zeros + sumIf (mayIn a k v) (ds.take j) : Nat)), v4])
      ⟨rfl, none, rfl⟩ (fun j σ H2 _ ⟨h1, _⟩ => by rw [h1]; exact hd') ?_ ?_⟩⟩
    · rintro j y σ H2 H3 hj ⟨rfl, v4, rfl⟩ ⟨rfl, kk, vv, hkv, rfl⟩
      obtain ⟨p, hpj, hkp⟩ : ∃ p, ds[j]? = some p ∧ (Sum.inl (p.1 : Int), V.int (p.2 : Int)) = ((kk, vv) : Key × V) := by
        unfold dV at hkv
        rw [List.getElem?_map] at hkv
        cases e : ds[j]? with
        | none =>
          rw [e] at hkv
          cases hkv
        | some p =>
          rw [e] at hkv
          exact ⟨p, rfl, Option.some.inj hkv⟩
      obtain ⟨rfl, rfl⟩ := Prod.mk.inj hkp
      have hmem : (p.1, p.2) ∈ ds := List.mem_of_getElem? hpj
      have hi : p.1 ≤ 1000 := Nat.le_trans (hW.le _ (hp.mem_iff.mp hmem)) (by decide)
      have hv : valV (dV ds) (Sum.inl (p.1 : Int)) = some (.int (p.2 : Int)) := by
        rw [valV_dV, dget_some (perm_keys_nodup hp hA.srt) hmem]
        rfl
      have yes : ∀ g : Nat → Bool, g p.1 = true → ((a.zeros + sumIf g (ds.take j) : Nat) : Int) + (p.2 : Int) = ((a.zeros + sumIf g (ds.take (j + 1)) : Nat) : Int) := fun g hg => by
        rw [take_more hpj, sumIf_snoc, if_pos hg]
        omega
      have no : ∀ g : Nat → Bool, ¬ g p.1 = true → ((a.zeros + sumIf g (ds.take j) : Nat) : Int) = ((a.zeros + sumIf g (ds.take (j + 1)) : Nat) : Int) := fun g hg => by
        rw [take_more hpj, sumIf_snoc, if_neg hg]
        omega
      have sy : ((hiEnd a k p.1 : Nat) : Int) ≤ (v : Int) → sureIn a k v p.1 = true := fun z => decide_eq_true (by omega)
      have sn : ¬ ((hiEnd a k p.1 : Nat) : Int) ≤ (v : Int) → ¬ sureIn a k v p.1 = true := fun z z2 => z (by have := of_decide_eq_true z2; omega)
      have my : ((loEnd a k p.1 : Nat) : Int) ≤ (v : Int) → mayIn a k v p.1 = true := fun z => decide_eq_true (by omega)
      have mn : ¬ ((loEnd a k p.1 : Nat) : Int) ≤ (v : Int) → ¬ mayIn a k v p.1 = true := fun z z2 => z (by have := of_decide_eq_true z2; omega)
      refine ⟨_, rfl, _, rfl, x, d, k, m, p.1, a, rfl, hS, h3, h40, hi, _, rfl, _, _, rfl, rfl, _, rfl, ite2 (fun c => ?_) fun c => ?_⟩
      · have c1 := sy (of_decide_eq_true c)
        refine ⟨_, rfl, _, rfl, x, C, dx, _, _, rfl, hx', T.cl, T.nCounts, aF_counts, _, rfl, d, _, rfl, .inl ⟨dV ds, Sum.inl (p.1 : Int), .inr ⟨od, hd'⟩, rfl, hv.symm⟩, _, _, rfl, rfl, ?_⟩
        refine ⟨_, rfl, _, rfl, x, d, k, m, p.1, a, rfl, hS, hW.cut, h3, h40, hi, _, rfl, _, _, rfl, rfl, _, rfl, ite2 (fun c2 => ?_) fun c2 => ?_⟩
        · have c3 := my (of_decide_eq_true c2)
          refine ⟨_, rfl, _, rfl, x, C, dx, _, _, rfl, hx', T.cl, T.nCounts, aF_counts, _, rfl, d, _, rfl, .inl ⟨dV ds, Sum.inl (p.1 : Int), .inr ⟨od, hd'⟩, rfl, hv.symm⟩, _, _, rfl, rfl, ?_⟩
          refine ⟨rfl, some (.int (p.1 : Int)), ?_⟩
          rw [← yes _ c1, ← yes _ c3]
          rfl
        · have c3 := mn fun z => c2 (decide_eq_true z)
          refine ⟨rfl, some (.int (p.1 : Int)), ?_⟩
          rw [← yes _ c1, ← no _ c3]
          rfl
      · have c1 := sn fun z => c (decide_eq_true z)
        refine ⟨_, rfl, _, rfl, x, d, k, m, p.1, a, rfl, hS, hW.cut, h3, h40, hi, _, rfl, _, _, rfl, rfl, _, rfl, ite2 (fun c2 => ?_) fun c2 => ?_⟩
        · have c3 := my (of_decide_eq_true c2)
          refine ⟨_, rfl, _, rfl, x, C, dx, _, _, rfl, hx', T.cl, T.nCounts, aF_counts, _, rfl, d, _, rfl, .inl ⟨dV ds, Sum.inl (p.1 : Int), .inr ⟨od, hd'⟩, rfl, hv.symm⟩, _, _, rfl, rfl, ?_⟩
          refine ⟨rfl, some (.int (p.1 : Int)), ?_⟩
          rw [← no _ c1, ← yes _ c3]
          rfl
        · have c3 := mn fun z => c2 (decide_eq_true z)
          refine ⟨rfl, some (.int (p.1 : Int)), ?_⟩
          rw [← no _ c1, ← no _ c3]
          rfl
    · rintro σ H2 ⟨rfl, v4, rfl⟩
      rw [dV_len, List.take_length, sumIf_perm hp, sumIf_perm hp]
      refine ⟨hd', _, rfl, _, rfl, (by show 2 ≤ sizeLine; decide), fun pn hpn => ?_⟩
      rw [upTo_eq hW.cut] at q
      exact q _ pn (sm.free hpn) upd_same (sm.trans (same_new hpn))
end
end Wb
/-! The list of calls, taken one by one, and what is due. -/
namespace Wb
open Sq39
theorem shape_flat {p : Int} {n k : Nat} (h : PySq39.shape p = some (n, k)) : k = 0 := by
  unfold PySq39.shape at h
  repeat' split at h
  all_goals first
    | (injection h with h; injection h with h1 h2; exact h2.symm)
    | cases h
theorem calls_cons {f : Nat} {p : Int} {r : List Int} {cs : List (List (List Int))} (h : PyFlat.calls PySq39.shape f (p :: r) = some cs) :
    ∃ n f' cs', PySq39.shape p = some (n, 0) ∧ n ≤ r.length ∧ cs = [p :: r.take n] :: cs' ∧ PyFlat.calls PySq39.shape f' (r.drop n) = some cs' := by
  cases f with
  | zero =>
    unfold PyFlat.calls at h
    cases h
  | succ f =>
    unfold PyFlat.calls at h
    cases e1 : PyFlat.call PySq39.shape (p :: r) with
    | none =>
      rw [e1] at h
      cases h
    | some ct =>
      obtain ⟨c, t⟩ := ct
      rw [e1] at h
      dsimp only at h
      cases e2 : PyFlat.calls PySq39.shape f t with
      | none =>
        rw [e2] at h
        cases h
      | some cs' =>
        rw [e2] at h
        have h' : c :: cs' = cs := Option.some.inj h
        unfold PyFlat.call at e1
        dsimp only at e1
        cases e3 : PySq39.shape p with
        | none =>
          rw [e3] at e1
          cases e1
        | some nk =>
          obtain ⟨n, k⟩ := nk
          have hk := shape_flat e3
          subst hk
          rw [e3] at e1
          dsimp only at e1
          split at e1
          · cases e1
          · rename_i hn
            unfold PyFlat.rows at e1
            dsimp only at e1
            have e4 := Option.some.inj e1
            obtain ⟨e5, e6⟩ := Prod.mk.inj e4
            subst e5
            subst e6
            exact ⟨n, f, cs', rfl, by omega, h'.symm, e2⟩
theorem bound_flat {p : Int} {n : Nat} (h : PySq39.shape p = some (n, 0)) : (PySq39.bound p).1 = List.replicate n ((0 : Int), (18446744073709551615 : Int)) := by
  unfold PySq39.shape at h
  unfold PySq39.bound
  repeat' split at h
  all_goals first
    | (injection h with h; injection h with h1 h2; subst h1; simp_all; rfl)
    | (injection h with h; injection h with h1 h2; subst h1; simp_all)
    | cases h
theorem each_nat : ∀ {n : Nat} {xs : List Int}, xs.length = n → PyInside.each (List.replicate n ((0 : Int), (18446744073709551615 : Int))) xs = true → ∃ ms : List Nat, xs = ms.map (fun k : Nat => (k : Int)) ∧ ms.length = n ∧ ∀ k ∈ ms, k < 2 ^ 64
  | 0, [], _, _ => ⟨[], rfl, rfl, fun k h => by cases h⟩
  | n + 1, x :: xs, hl, h => by
    rw [List.replicate_succ] at h
    unfold PyInside.each at h
    rw [Bool.and_eq_true] at h
    unfold PyInside.within at h
    rw [Bool.and_eq_true] at h
    have h1 : (0 : Int) ≤ x := of_decide_eq_true h.1.1
    have h2 : x ≤ 18446744073709551615 := of_decide_eq_true h.1.2
    obtain ⟨ms, e1, e2, e3⟩ := each_nat (n := n) (xs := xs) (by simpa using hl) h.2
    refine ⟨x.toNat :: ms, ?_, by simp [e2], fun k hk => ?_⟩
    · rw [List.map_cons, ← e1, Int.toNat_of_nonneg h1]
    · rcases List.mem_cons.mp hk with e | e
      · rw [e]
        omega
      · exact e3 k e
/-- the numbers of a call that lies within its bounds -/
theorem call_nats {p : Int} {n : Nat} {xs : List Int} (hs : PySq39.shape p = some (n, 0)) (hl : xs.length = n) (h : PyInside.call PySq39.bound [p :: xs] = true) : ∃ ms : List Nat, xs = ms.map (fun k : Nat => (k : Int)) ∧ ms.length = n ∧ ∀ k ∈ ms, k < 2 ^ 64 := by
  unfold PyInside.call at h
  dsimp only at h
  rw [Bool.and_eq_true, bound_flat hs] at h
  exact each_nat hl h.1
def told1 (l : List Int) : List Int := (l.length : Int) :: l
theorem told_cons (x : List Int) (l : List (List Int)) : PyFlat.told (x :: l) = told1 x ++ PyFlat.told l := by
  unfold PyFlat.told told1
  rw [List.flatMap_cons]
/-- what is true of a house -/
structure WfH (s : House) : Prop where
  k3 : 3 ≤ s.fine
  k40 : s.fine ≤ 40
  m1 : 1 ≤ s.most
  m200 : s.most ≤ 200
  n6 : s.accounts.length ≤ 6
  all : ∀ a ∈ s.accounts, Wf s.most a
theorem wfh_fresh : WfH fresh where
  k3 := by decide
  k40 := by decide
  m1 := by decide
  m200 := by decide
  n6 := by decide
  all := fun a h => by
    have h' : a ∈ [empty] := h
    have e : a = empty := List.mem_singleton.mp h'
    rw [e]
    exact wf_empty
theorem wfh_set {s : House} (w : WfH s) {i : Nat} {a : Account} (h : Wf s.most a) : WfH { s with accounts := s.accounts.set i a } where
  k3 := w.k3
  k40 := w.k40
  m1 := w.m1
  m200 := w.m200
  n6 := by
    show (s.accounts.set i a).length ≤ 6
    rw [List.length_set]
    exact w.n6
  all := fun b hb => by
    rcases List.mem_or_eq_of_mem_set (show b ∈ s.accounts.set i a from hb) with z | z
    · exact w.all b z
    · rw [z]
      exact h
theorem wfh_at {s : House} (w : WfH s) {i : Nat} {f : Account → House × Out} (h : ∀ x, x ∈ s.accounts → WfH (f x).1) : WfH (s.at_ i f).1 := by
  unfold House.at_
  cases e : s.accounts[i]? with
  | none => exact w
  | some x => exact h x (List.mem_of_getElem? e)
theorem wfh_step {s : House} (w : WfH s) (c : Call) : WfH (s.step c).1 := by
  cases c with
  | begin_ k m n =>
    unfold House.step
    dsimp only
    split
    · exact w
    · rename_i h
      unfold FINE ACCOUNTS at h
      exact ⟨by show 3 ≤ k; omega, by show k ≤ 40; omega, by show 1 ≤ m; omega, by show m ≤ 200; omega, by show (List.replicate n empty).length ≤ 6; rw [List.length_replicate]; omega, fun a ha => by
        have e : a = empty := List.eq_of_mem_replicate (show a ∈ List.replicate n empty from ha)
        rw [e]
        exact wf_empty⟩
  | add a v n =>
    refine wfh_at w fun x hx => ?_
    split
    · exact w
    · rename_i h
      unfold VALUE TIMES at h
      exact wfh_set w (wf_add (w.all x hx) w.m1 w.k3 w.k40 (by omega))
  | join a b =>
    refine wfh_at w fun x hx => wfh_at w fun y hy => ?_
    split
    · exact w
    · exact wfh_set w (wf_join (w.all x hx) (w.all y hy) w.m1)
  | clear a => exact wfh_at w fun x _ => wfh_set w wf_empty
  | rank a r =>
    refine wfh_at w fun x _ => ?_
    split <;> exact w
  | part a p q =>
    refine wfh_at w fun x _ => ?_
    split
    · exact w
    · dsimp only
      split <;> exact w
  | upTo a v => exact wfh_at w fun x _ => w
  | account a => exact wfh_at w fun x _ => w
  | buckets a => exact wfh_at w fun x _ => w
  | edges i =>
    unfold House.step
    dsimp only
    split <;> exact w
/-- the neutral step of a call is the house's -/
def StepIs (p : Int) (n : Nat) (mk : List Nat → Option Call) : Prop := ∀ (s : House) (xs : List Nat), xs.length = n → ∃ c, mk xs = some c ∧
  Sq39Neutral.step s (PySq39.whole [p :: xs.map fun k : Nat => (k : Int)]) = ((s.step c).1, (s.step c).2.value :: (s.step c).2.out)
end Wb
namespace Wb
open PySem PySem.Spec PyProof.Rows L2
/-! ### lists without a thing twice -/
theorem nd_of {α : Type} {l : List α} (h : ∀ (i j : Nat) (x : α), l[i]? = some x → l[j]? = some x → i = j) : l.Nodup := by
  rw [List.Nodup, List.pairwise_iff_getElem]
  intro i j hi hj hij e
  have := h i j l[i] (List.getElem?_eq_getElem hi) (by rw [e]; exact List.getElem?_eq_getElem hj)
  omega
theorem nd_set {α : Type} {l : List α} {i : Nat} {v : α} (h : l.Nodup) (hv : ∀ j, j ≠ i → l[j]? ≠ some v) : (l.set i v).Nodup := by
  refine nd_of fun a b x ha hb => ?_
  rw [List.getElem?_set] at ha hb
  split at ha
  · rename_i ea
    split at hb
    · omega
    · rename_i eb
      split at ha
      · have ex : v = x := Option.some.inj ha
        subst ex
        exact absurd hb (hv b (Ne.symm eb))
      · cases ha
  · rename_i ea
    split at hb
    · rename_i eb
      split at hb
      · have ex : v = x := Option.some.inj hb
        subst ex
        exact absurd ha (hv a (Ne.symm ea))
      · cases hb
    · exact nd_ix h ha hb
/-! ### accounts in a row -/
structure Accs (C : Addr) (H : Hp) (k m : Nat) (ps : List (Addr × Addr)) (as : List Sq39.Account) : Prop where
  len : ps.length = as.length
  at_ : ∀ (i : Nat) (p : Addr × Addr) (a : Sq39.Account), ps[i]? = some p → as[i]? = some a → AccAt C H p.1 p.2 k m a
  nd1 : (ps.map fun p => p.1).Nodup
  nd2 : (ps.map fun p => p.2).Nodup
/-- what belongs to a row of accounts -/
def InRow (ps : List (Addr × Addr)) (b : Addr) : Prop := ∃ p ∈ ps, b = p.1 ∨ b = p.2
section
variable {C : Addr} {H H' : Hp} {k m : Nat} {ps : List (Addr × Addr)} {as : List Sq39.Account}
theorem Accs.there (A : Accs C H k m ps as) {i : Nat} {p : Addr × Addr} (h : ps[i]? = some p) : ∃ a, as[i]? = some a ∧ AccAt C H p.1 p.2 k m a := by
  have hi : i < as.length := by
    rw [← A.len]
    exact (List.getElem?_eq_some_iff.mp h).1
  exact ⟨as[i], List.getElem?_eq_getElem hi, A.at_ i p _ h (List.getElem?_eq_getElem hi)⟩
theorem Accs.keep (A : Accs C H k m ps as) (s : ∀ b o, H b = some o → InRow ps b → H' b = some o) : Accs C H' k m ps as where
  len := A.len
  at_ := fun i p a h1 h2 => (A.at_ i p a h1 h2).keep fun b o e hb => s b o e ⟨p, List.mem_of_getElem? h1, hb⟩
  nd1 := A.nd1
  nd2 := A.nd2
theorem Accs.nil : Accs C H k m [] [] := ⟨rfl, fun i p a h => by simp at h, List.nodup_nil, List.nodup_nil⟩
theorem Accs.snoc {x d : Addr} {a : Sq39.Account} (A : Accs C H k m ps as) (h : AccAt C H x d k m a) (hx : ∀ p ∈ ps, p.1 ≠ x) (hd : ∀ p ∈ ps, p.2 ≠ d) : Accs C H k m (ps ++ [(x, d)]) (as ++ [a]) where
  len := by simp [A.len]
  at_ := fun i p b h1 h2 => by
    by_cases hi : i < ps.length
    · rw [List.getElem?_append_left hi] at h1
      rw [List.getElem?_append_left (by rw [← A.len]; exact hi)] at h2
      exact A.at_ i p b h1 h2
    · rw [List.getElem?_append_right (by omega)] at h1
      rw [List.getElem?_append_right (by rw [← A.len]; omega)] at h2
      obtain ⟨e1, e2⟩ := List.getElem?_eq_some_iff.mp h1
      have z : i - ps.length = 0 := by
        simp at e1
        omega
      rw [z] at h1
      rw [← A.len, z] at h2
      have e3 : (x, d) = p := Option.some.inj h1
      have e4 : a = b := Option.some.inj h2
      subst e3
      subst e4
      exact h
  nd1 := by
    rw [List.map_append]
    refine nd_snoc A.nd1 fun z => ?_
    obtain ⟨p, hp, e⟩ := List.mem_map.mp z
    exact hx p hp e
  nd2 := by
    rw [List.map_append]
    refine nd_snoc A.nd2 fun z => ?_
    obtain ⟨p, hp, e⟩ := List.mem_map.mp z
    exact hd p hp e
/-- one account becomes another -/
theorem Accs.set {i : Nat} {x d x' d' : Addr} {a' : Sq39.Account} (A : Accs C H k m ps as) (hi : ps[i]? = some (x, d)) (kp : ∀ b o, H b = some o → InRow ps b → b ≠ x → b ≠ d → H' b = some o) (h : AccAt C H' x' d' k m a') (hx : x' = x ∨ H x' = none) (hd : d' = d ∨ H d' = none) :
    Accs C H' k m (ps.set i (x', d')) (as.set i a') := by
  have hli : i < ps.length := (List.getElem?_eq_some_iff.mp hi).1
  obtain ⟨a0, _, A0⟩ := A.there hi
  obtain ⟨dx0, hx0⟩ := A0.ex
  obtain ⟨ds0, hd0, _⟩ := A0.tab
  have ne1 : ∀ (j : Nat) (p : Addr × Addr), j ≠ i → ps[j]? = some p → p.1 ≠ x ∧ p.2 ≠ d ∧ p.1 ≠ d ∧ p.2 ≠ x := fun j p hj hp => by
    obtain ⟨b, _, B⟩ := A.there hp
    obtain ⟨dx, hxx⟩ := B.ex
    obtain ⟨ds, hdd, _⟩ := B.tab
    refine ⟨fun z => hj (nd_ix A.nd1 (i := j) (j := i) (x := x) ?_ ?_), fun z => hj (nd_ix A.nd2 (i := j) (j := i) (x := d) ?_ ?_), ne_of hxx hd0 (by intro z; cases z), ne_of hdd hx0 (by intro z; cases z)⟩
    · rw [List.getElem?_map, hp, ← z]
      rfl
    · rw [List.getElem?_map, hi]
      rfl
    · rw [List.getElem?_map, hp, ← z]
      rfl
    · rw [List.getElem?_map, hi]
      rfl
  refine ⟨by rw [List.length_set, List.length_set]; exact A.len, fun j p b h1 h2 => ?_, ?_, ?_⟩
  · by_cases hj : j = i
    · subst hj
      rw [List.getElem?_set_self hli] at h1
      rw [List.getElem?_set_self (by rw [← A.len]; exact hli)] at h2
      have e1 := Option.some.inj h1
      have e2 := Option.some.inj h2
      subst e1
      subst e2
      exact h
    · rw [List.getElem?_set_ne (Ne.symm hj)] at h1 h2
      obtain ⟨n1, n2, n3, n4⟩ := ne1 j p hj h1
      refine (A.at_ j p b h1 h2).keep fun c o e hc => ?_
      rcases hc with rfl | rfl
      · exact kp _ _ e ⟨p, List.mem_of_getElem? h1, Or.inl rfl⟩ n1 n3
      · exact kp _ _ e ⟨p, List.mem_of_getElem? h1, Or.inr rfl⟩ n4 n2
  · rw [List.map_set]
    refine nd_set A.nd1 fun j hj e => ?_
    rw [List.getElem?_map] at e
    cases q : ps[j]? with
    | none =>
      rw [q] at e
      cases e
    | some p =>
      rw [q] at e
      have ep : p.1 = x' := Option.some.inj e
      obtain ⟨n1, _⟩ := ne1 j p hj q
      rcases hx with z | z
      · exact n1 (ep.trans z)
      · obtain ⟨b, _, B⟩ := A.there q
        obtain ⟨dx, hxx⟩ := B.ex
        rw [ep, z] at hxx
        cases hxx
  · rw [List.map_set]
    refine nd_set A.nd2 fun j hj e => ?_
    rw [List.getElem?_map] at e
    cases q : ps[j]? with
    | none =>
      rw [q] at e
      cases e
    | some p =>
      rw [q] at e
      have ep : p.2 = d' := Option.some.inj e
      obtain ⟨_, n2, _⟩ := ne1 j p hj q
      rcases hd with z | z
      · exact n2 (ep.trans z)
      · obtain ⟨b, _, B⟩ := A.there q
        obtain ⟨ds, hdd, _⟩ := B.tab
        rw [ep, z] at hdd
        cases hdd
end
/-! ### the house -/
def hF (k m : Nat) (l : Addr) : List (Str × V) := [("fineness", .int (k : Int)), ("most", .int (m : Int)), ("accounts", .ref l)]
section
variable {k m : Nat} {l : Addr}
theorem hF_fine : (hF k m l).lookup ("fineness" : Str) = some (.int (k : Int)) := by repeat first | exact lk_here | refine (lk_past (by decide +kernel)).trans ?_
theorem hF_most : (hF k m l).lookup ("most" : Str) = some (.int (m : Int)) := by repeat first | exact lk_here | refine (lk_past (by decide +kernel)).trans ?_
theorem hF_accounts : (hF k m l).lookup ("accounts" : Str) = some (.ref l) := by repeat first | exact lk_here | refine (lk_past (by decide +kernel)).trans ?_
theorem hF_no {x : Str} (h : (["fineness", "most", "accounts"] : List Str).contains x = false) : (hF k m l).lookup x = none := by
  have hh : ∀ y ∈ (["fineness", "most", "accounts"] : List Str), (x == y) = false := fun y hy => by
    cases q : (x == y) with
    | false => rfl
    | true =>
      have e := eq_of_beq q
      subst e
      have := List.contains_iff_mem.mpr hy
      rw [h] at this
      cases this
  unfold hF
  repeat refine (lk_past (hh _ (by simp))).trans ?_
  rfl
/-- the three rows of begin -/
theorem begin_fields {fs : List (Str × V)} (h : fs = [] ∨ ∃ k0 m0 l0, fs = hF k0 m0 l0) : putF "accounts" (.ref l) (putF "most" (.int (m : Int)) (putF "fineness" (.int (k : Int)) fs)) = hF k m l := by
  rcases h with rfl | ⟨k0, m0, l0, rfl⟩
  · have e1 : putF "fineness" (V.int (k : Int)) ([] : List (Str × V)) = ([(("fineness" : Str), V.int (k : Int))] : List (Str × V)) := rfl
    rw [e1]
    have e2 : putF "most" (V.int (m : Int)) ([(("fineness" : Str), V.int (k : Int))] : List (Str × V)) = ([(("fineness" : Str), V.int (k : Int)), (("most" : Str), V.int (m : Int))] : List (Str × V)) := by
      repeat first | exact (rfl : putF "most" (V.int (m : Int)) ([] : List (Str × V)) = [(("most" : Str), V.int (m : Int))]) | refine (put_past (by decide +kernel)).trans (congrArg _ ?_)
    rw [e2]
    have e3 : putF "accounts" (V.ref l) ([(("fineness" : Str), V.int (k : Int)), (("most" : Str), V.int (m : Int))] : List (Str × V)) = ([(("fineness" : Str), V.int (k : Int)), (("most" : Str), V.int (m : Int)), (("accounts" : Str), V.ref l)] : List (Str × V)) := by
      repeat first | exact (rfl : putF "accounts" (V.ref l) ([] : List (Str × V)) = [(("accounts" : Str), V.ref l)]) | refine (put_past (by decide +kernel)).trans (congrArg _ ?_)
    rw [e3]
    rfl
  · have e1 : putF "fineness" (V.int (k : Int)) (hF k0 m0 l0) = hF k m0 l0 := put_here
    have e2 : putF "most" (V.int (m : Int)) (hF k m0 l0) = hF k m l0 := by repeat first | exact put_here | refine (put_past (by decide +kernel)).trans (congrArg _ ?_)
    have e3 : putF "accounts" (V.ref l) (hF k m l0) = hF k m l := by repeat first | exact put_here | refine (put_past (by decide +kernel)).trans (congrArg _ ?_)
    rw [e1, e2, e3]
end
structure HouseAt (CH C : Addr) (H : Hp) (h l : Addr) (ps : List (Addr × Addr)) (s : Sq39.House) : Prop where
  ex : ∃ dh, H h = some (.ins CH dh (hF s.fine s.most l))
  lst : H l = some (.lst (ps.map fun p => V.ref p.1))
  accs : Accs C H s.fine s.most ps s.accounts
/-- what belongs to the house -/
def Foot (h l : Addr) (ps : List (Addr × Addr)) (b : Addr) : Prop := b = h ∨ b = l ∨ InRow ps b
/-- the house and what is left as it was -/
def Goes (h l l' : Addr) (ps ps' : List (Addr × Addr)) (H H' : Hp) : Prop :=
  (∀ b, Foot h l' ps' b → Foot h l ps b ∨ H b = none) ∧ ∀ b o, H b = some o → ¬ Foot h l ps b → H' b = some o
structure TxtH (K : PySem.W.Frag) (mg : Str → Option Value) (CH : Addr) : Prop where
  cl : Cls K CH
  nFine : NoAttr K CH "fineness"
  nMost : NoAttr K CH "most"
  nAccounts : NoAttr K CH "accounts"
  gC : mg "House" = some (.ref CH)
abbrev sHInit : Stmt := inClass (topS 21) 0
abbrev sHBegin : Stmt := inClass (topS 21) 1
abbrev sLacks : Stmt := inClass (topS 21) 2
abbrev sMakeNew : Stmt := inClass (topS 21) 3
def spHBegin (CH C : Addr) : Sp := fun vs H Q _ => ∃ (h dh : Addr) (fs : List (Str × V)) (k m n : Nat), vs = [.ref h, .int (k : Int), .int (m : Int), .int (n : Int)] ∧ H h = some (.ins CH dh fs) ∧ (fs = [] ∨ ∃ k0 m0 l0, fs = hF k0 m0 l0) ∧ n ≤ 6 ∧
  ∀ (H' : Hp) (l : Addr) (ps : List (Addr × Addr)), HouseAt CH C H' h l ps ⟨k, m, List.replicate n Sq39.empty⟩ → (∀ b, (b = l ∨ InRow ps b) → H b = none) → (∀ b o, H b = some o → b ≠ h → H' b = some o) → Q .non H'
def spHInit (CH C : Addr) : Sp := fun vs H Q _ => ∃ (h dh : Addr), vs = [.ref h] ∧ H h = some (.ins CH dh []) ∧
  ∀ (H' : Hp) (l : Addr) (ps : List (Addr × Addr)), HouseAt CH C H' h l ps Sq39.fresh → (∀ b, (b = l ∨ InRow ps b) → H b = none) → (∀ b o, H b = some o → b ≠ h → H' b = some o) → Q .non H'
def spLacks (CH C : Addr) : Sp := fun vs H Q _ => ∃ (h l : Addr) (ps : List (Addr × Addr)) (s : Sq39.House) (i : Nat), vs = [.ref h, .int (i : Int)] ∧ HouseAt CH C H h l ps s ∧ Q (.bl (decide (s.accounts.length ≤ i))) H
def spMakeNew (CH C : Addr) : Sp := fun vs H Q _ => ∃ (h l : Addr) (ps : List (Addr × Addr)) (s : Sq39.House) (i : Nat), vs = [.ref h, .int (i : Int)] ∧ HouseAt CH C H h l ps s ∧ i < s.accounts.length ∧
  ∀ (H' : Hp) (ps' : List (Addr × Addr)), HouseAt CH C H' h l ps' { s with accounts := s.accounts.set i Sq39.empty } → Goes h l l ps ps' H H' → Q .non H'
theorem house_acc_ne {CH C h dh x dx : Addr} {k m k' m' : Nat} {l d : Addr} {a : Sq39.Account} {H : Hp} (h1 : H h = some (.ins CH dh (hF k m l))) (h2 : H x = some (.ins C dx (aF k' m' a d))) : h ≠ x := by
  refine ne_of h1 h2 fun z => ?_
  injection z with _ _ z3
  have := congrArg List.length z3
  cases this
section
variable {P : Program} {w : World} {K : PySem.W.Frag} {mg : Str → Option Value} {base : Heap} {CH C : Addr}
theorem scHBegin : FnScope ["self", "fineness", "most", "accounts", "number"] ["self", "fineness", "most", "accounts"] (defScope sHBegin) := ⟨rfl, rfl, rfl, by decide +kernel, rfl, by decide +kernel, by decide +kernel⟩
theorem ok_hbegin {f fN : Addr} {fd fdN : FuncData} (F : Fun K "begin" "House.begin" sHBegin f fd) (TH : TxtH K mg CH) (T : Txt K mg C) (M : Mk K C fN) (FN : Fun K "__init__" "Account.__init__" sNew fN fdN) (bN : Binds K fdN ["self", "fineness", "most"] []) :
    FnOk P w K mg base CX0 3 f fd ["self", "fineness", "most", "accounts"] (spHBegin CH C) := by
  have GN : FnOk P w K mg base CX0 1 fN fdN ["self", "fineness", "most"] (spNew C) := ok_new FN T
  refine F.ok scHBegin (fun vs H Q E h => ?_) (fun cdv A outer s H vs Q E hr h => ?_)
  · obtain ⟨h, dh, fs, k, m, n, rfl, _⟩ := h
    rfl
  · obtain ⟨h, dh, fs, k, m, n, rfl, hh, hfs, hn6, q⟩ := h
    refine ⟨_, pss_cons (ps_fld (pv 0) (pv 1) rfl) (pss_cons (ps_fld (pv 0) (pv 2) rfl)
      (pss_one (ps_fld (pv 0) (pe_lc (own := [("number", 4)]) (g := gName 4) (tt := tYes) rfl scHBegin.nd (pi_range1 rfl T.range (pa_cons (pv 3) pa_nil)) (blkOk_by (N := ["self", "fineness", "most", "accounts", "number"]) (sc := defScope sHBegin) (by decide +kernel))
        (fun _ _ _ _ _ => pg_name (i := 4) scHBegin.nd rfl (Or.inl rfl)) (fun _ _ _ _ _ => pts_nil) (fun _ _ _ _ _ => pe_make M GN hr rfl T.gC bN .nil pass0 (pa_cons (pv 1) (pa_cons (pv 2) pa_nil)))) rfl))), ?_⟩
    have hfl : fs.length ≤ 3 := by
      rcases hfs with rfl | ⟨k0, m0, l0, rfl⟩
      · exact Nat.zero_le _
      · exact Nat.le_refl _
    refine ⟨_, rfl, _, rfl, h, CH, dh, _, rfl, hh, TH.cl, TH.nFine, by omega, ?_⟩
    have l1 := put_len "fineness" (.int (k : Int)) fs
    refine ⟨_, rfl, _, rfl, h, CH, dh, _, rfl, upd_same, TH.cl, TH.nMost, by omega, ?_⟩
    have l2 := put_len "most" (.int (m : Int)) (putF "fineness" (.int (k : Int)) fs)
    rw [upd_upd]
    have k0 : ∀ b o, H b = some o → b ≠ h → (upd H h (.ins CH dh (putF "most" (.int (m : Int)) (putF "fineness" (.int (k : Int)) fs)))) b = some o := fun b o e hb => by
      rw [upd_ne hb]
      exact e
    have h00 : ∀ b, (upd H h (.ins CH dh (putF "most" (.int (m : Int)) (putF "fineness" (.int (k : Int)) fs)))) b = none → H b = none := fun b e => by
      by_cases hb : b = h
      · subst hb
        rw [upd_same] at e
        cases e
      · rw [upd_ne hb] at e
        exact e
    have hh0 : (upd H h (.ins CH dh (putF "most" (.int (m : Int)) (putF "fineness" (.int (k : Int)) fs)))) h = some (.ins CH dh (putF "most" (.int (m : Int)) (putF "fineness" (.int (k : Int)) fs))) := upd_same
    generalize upd H h (.ins CH dh (putF "most" (.int (m : Int)) (putF "fineness" (.int (k : Int)) fs))) = H0 at k0 h00 hh0 ⊢
    refine ⟨_, rfl, (n : Int), rfl, by omega, by omega, fun D hD => ?_⟩
    refine lc_it (walk_range (lo := 0) (n := n)) (fun i H' => ∃ ps : List (Addr × Addr), H' D = some (.lst (ps.map fun p => V.ref p.1)) ∧ Accs C H' k m ps (List.replicate i Sq39.empty) ∧ (∀ b, InRow ps b → H0 b = none) ∧ ∀ b o, H0 b = some o → H' b = some o)
      ⟨[], upd_same, Accs.nil, (fun b hb => by obtain ⟨p, hp, _⟩ := hb; cases hp), fun b o e => by rw [upd_ne (ne_of_none e hD)]; exact e⟩ (fun _ _ _ _ => trivial) ?_ ?_
    · rintro i x H9 H1 hi ⟨ps, hL, hAs, hfr, sm⟩ ⟨rfl, rfl⟩
      refine ⟨rfl, ?_⟩
      unfold tYes
      refine iteT ?_
      refine ⟨_, rfl, _, rfl, ?_⟩
      intro y dy ny ndy nee
      refine ⟨y, dy, k, m, rfl, upd_same, fun H3 d hd hA kp => ⟨rfl, ?_⟩⟩
      have hdy : d ≠ y := fun z => by
        rw [z, upd_same] at hd
        cases hd
      have hddy : d ≠ dy := fun z => by
        rw [upd_ne hdy, z, upd_same] at hd
        cases hd
      have hd1 : H1 d = none := by
        rw [upd_ne hdy, upd_ne hddy] at hd
        exact hd
      have s13 : ∀ b o, H1 b = some o → H3 b = some o := fun b o e => kp b o (by rw [upd_ne (ne_of_none e ny), upd_ne (ne_of_none e ndy)]; exact e) (ne_of_none e ny)
      have hL3 := s13 _ _ hL
      have hlen : ps.length = i := by
        rw [hAs.len, List.length_replicate]
      refine ⟨_, hL3, by rw [List.length_map, hlen]; exact Nat.lt_of_lt_of_le hi (Nat.le_trans hn6 (by decide)), ps ++ [(y, d)], ?_, ?_, ?_, ?_⟩
      · rw [upd_same, List.map_append]
        rfl
      · have hA' : AccAt C (upd H3 D (.lst ((ps.map fun p => V.ref p.1) ++ [.ref y]))) y d k m Sq39.empty := hA.keep fun b o e hb => by
          have hbD : b ≠ D := by
            rcases hb with rfl | rfl
            · exact Ne.symm (ne_of_none hL ny)
            · exact Ne.symm (ne_of_none hL hd1)
          rw [upd_ne hbD]
          exact e
        have hAs' : Accs C (upd H3 D (.lst ((ps.map fun p => V.ref p.1) ++ [.ref y]))) k m ps (List.replicate i Sq39.empty) := hAs.keep fun b o e hb => by
          have hbD : b ≠ D := by
            obtain ⟨p, hp, hpb⟩ := hb
            obtain ⟨j, hj⟩ := List.getElem?_of_mem hp
            obtain ⟨a, _, B⟩ := hAs.there hj
            obtain ⟨dx, hx⟩ := B.ex
            obtain ⟨ds, hdd, _⟩ := B.tab
            rcases hpb with rfl | rfl
            · exact ne_of hx hL (by intro z; cases z)
            · exact ne_of hdd hL (by intro z; cases z)
          rw [upd_ne hbD]
          exact s13 b o e
        have hs := hAs'.snoc hA' (fun p hp z => by
          obtain ⟨j, hj⟩ := List.getElem?_of_mem hp
          obtain ⟨a, _, B⟩ := hAs.there hj
          obtain ⟨dx, hx⟩ := B.ex
          rw [z, ny] at hx
          cases hx) (fun p hp z => by
          obtain ⟨j, hj⟩ := List.getElem?_of_mem hp
          obtain ⟨a, _, B⟩ := hAs.there hj
          obtain ⟨ds, hdd, _⟩ := B.tab
          rw [z, hd1] at hdd
          cases hdd)
        have e : List.replicate (i + 1) Sq39.empty = List.replicate i Sq39.empty ++ [Sq39.empty] := List.replicate_succ'
        rw [e]
        exact hs
      · rintro b ⟨p, hp, hb⟩
        rcases List.mem_append.mp hp with z | z
        · exact hfr b ⟨p, z, hb⟩
        · have ep : p = (y, d) := List.mem_singleton.mp z
          subst ep
          have free : ∀ c, H1 c = none → H0 c = none := fun c e => by
            cases q : H0 c with
            | none => rfl
            | some o =>
              have := sm c o q
              rw [e] at this
              cases this
          rcases hb with rfl | rfl
          · exact free _ ny
          · exact free _ hd1
      · intro b o e
        rw [upd_ne (ne_of_none e hD)]
        exact s13 b o (sm b o e)
    · rintro H1 ⟨ps, hL, hAs, hfr, sm⟩
      have hh1 := sm _ _ hh0
      refine ⟨_, rfl, h, CH, dh, _, rfl, hh1, TH.cl, TH.nAccounts, by omega, ?_⟩
      rw [begin_fields hfs]
      have hhD : D ≠ h := Ne.symm (ne_of_none hh0 hD)
      have hhp : ∀ b, InRow ps b → b ≠ h := fun b hb z => by
        have := hfr b hb
        rw [z, hh0] at this
        cases this
      refine q _ D ps ⟨⟨dh, upd_same⟩, by rw [upd_ne hhD]; exact hL, hAs.keep fun b o e hb => by rw [upd_ne (hhp b hb)]; exact e⟩ (fun b hb => ?_) fun b o e hb => ?_
      · rcases hb with rfl | hb
        · exact h00 _ hD
        · exact h00 _ (hfr b hb)
      · rw [upd_ne hb]
        exact sm b o (k0 b o e hb)
end
end Wb
namespace Wb
open PySem PySem.Spec PyProof.Rows L2
section
variable {P : Program} {w : World} {K : PySem.W.Frag} {mg : Str → Option Value} {base : Heap} {CH C : Addr}
theorem scHInit : FnScope ["self"] ["self"] (defScope sHInit) := ⟨rfl, rfl, rfl, by decide +kernel, rfl, by decide +kernel, by decide +kernel⟩
theorem ok_hinit {f fB fN : Addr} {fd fdB fdN : FuncData} (F : Fun K "__init__" "House.__init__" sHInit f fd) (TH : TxtH K mg CH) (T : Txt K mg C) (M : Mk K C fN) (FN : Fun K "__init__" "Account.__init__" sNew fN fdN) (bN : Binds K fdN ["self", "fineness", "most"] [])
    (FB : Fun K "begin" "House.begin" sHBegin fB fdB) (bB : Binds K fdB ["self", "fineness", "most", "accounts"] []) (mB : Meth K CH "begin" fB) : FnOk P w K mg base CX0 4 f fd ["self"] (spHInit CH C) := by
  have GB : FnOk P w K mg base CX0 3 fB fdB ["self", "fineness", "most", "accounts"] (spHBegin CH C) := ok_hbegin FB TH T M FN bN
  refine F.ok scHInit (fun vs H Q E h => ?_) (fun cdv A outer s H vs Q E hr h => ?_)
  · obtain ⟨h, dh, rfl, _⟩ := h
    rfl
  · obtain ⟨h, dh, rfl, hh, q⟩ := h
    refine ⟨_, pss_one (ps_expr (pe_meth (pv 0) TH.cl mB GB hr bB .nil pass0 (pa_cons pe_int (pa_cons pe_int (pa_cons pe_int pa_nil))))), ?_⟩
    refine ⟨_, rfl, h, dh, _, rfl, hh, rfl, ?_⟩
    exact ⟨h, dh, [], 10, 20, 1, rfl, hh, Or.inl rfl, by decide, fun H' l ps hH hn kp => q H' l ps hH hn kp⟩
theorem scLacks : FnScope ["self", "number"] ["self", "number"] (defScope sLacks) := ⟨rfl, rfl, rfl, by decide +kernel, rfl, by decide +kernel, by decide +kernel⟩
theorem HouseAt.count {H : Hp} {h l : Addr} {ps : List (Addr × Addr)} {s : Sq39.House} (A : HouseAt CH C H h l ps s) : (ps.map fun p => V.ref p.1).length = s.accounts.length := by
  rw [List.length_map]
  exact A.accs.len
theorem ok_lacks {f : Addr} {fd : FuncData} (F : Fun K "lacks" "House.lacks" sLacks f fd) (TH : TxtH K mg CH) (T : Txt K mg C) : FnOk P w K mg base CX0 1 f fd ["self", "number"] (spLacks CH C) := by
  refine F.ok scLacks (fun vs H Q E h => ?_) (fun cdv A outer s H vs Q E hr h => ?_)
  · obtain ⟨h, l, ps, s, i, rfl, _⟩ := h
    rfl
  · obtain ⟨h, l, ps, s, i, rfl, hH, q⟩ := h
    refine ⟨_, pss_one (ps_ret (pe_cmpR op_ge (pv 1) (pe_callB call_len_seq (by rfl) T.len PySem.boot_len (pa_cons (pe_fld (pv 0) rfl) pa_nil)) (nomark _))), ?_⟩
    obtain ⟨dh, hh⟩ := hH.ex
    refine ⟨_, rfl, _, rfl, h, CH, dh, _, _, rfl, hh, TH.cl, TH.nAccounts, hF_accounts, l, _, rfl, .inl (SqL.of hH.lst), _, _, rfl, rfl, ?_⟩
    have e : decide (((ps.map fun p => V.ref p.1).length : Int) ≤ (i : Int)) = decide (s.accounts.length ≤ i) := by
      rw [hH.count]
      exact decide_eq_decide.mpr (by omega)
    show Q (.bl (decide (((ps.map fun p => V.ref p.1).length : Int) ≤ (i : Int)))) H
    rw [e]
    exact q
theorem scMakeNew : FnScope ["self", "number"] ["self", "number"] (defScope sMakeNew) := ⟨rfl, rfl, rfl, by decide +kernel, rfl, by decide +kernel, by decide +kernel⟩
theorem ixN_nat {n i : Nat} (h : i < n) : ixN n (i : Int) = some i := by
  unfold ixN
  rw [if_pos (by omega), if_pos (by omega)]
  simp
theorem HouseAt.nh {H : Hp} {h l : Addr} {ps : List (Addr × Addr)} {s : Sq39.House} (A : HouseAt CH C H h l ps s) : h ≠ l := by
  obtain ⟨dh, hh⟩ := A.ex
  exact ne_of hh A.lst (by intro z; cases z)
theorem HouseAt.row {H : Hp} {h l : Addr} {ps : List (Addr × Addr)} {s : Sq39.House} (A : HouseAt CH C H h l ps s) {b : Addr} (hb : InRow ps b) : b ≠ h ∧ b ≠ l ∧ H b ≠ none := by
  obtain ⟨dh, hh⟩ := A.ex
  obtain ⟨p, hp, e⟩ := hb
  obtain ⟨j, hj⟩ := List.getElem?_of_mem hp
  obtain ⟨a, _, B⟩ := A.accs.there hj
  obtain ⟨dx, hx⟩ := B.ex
  obtain ⟨ds, hd, _⟩ := B.tab
  rcases e with rfl | rfl
  · refine ⟨Ne.symm (house_acc_ne hh hx), ne_of hx A.lst (by intro z; cases z), fun z => by rw [hx] at z; cases z⟩
  · refine ⟨ne_of hd hh (by intro z; cases z), ne_of hd A.lst (by intro z; cases z), fun z => by rw [hd] at z; cases z⟩
theorem inRow_set {ps : List (Addr × Addr)} {i : Nat} {x' d' b : Addr} (h : InRow (ps.set i (x', d')) b) : InRow ps b ∨ b = x' ∨ b = d' := by
  obtain ⟨p, hp, e⟩ := h
  rcases List.mem_or_eq_of_mem_set hp with z | z
  · exact Or.inl ⟨p, z, e⟩
  · subst z
    exact Or.inr e
/-- one account of the house becomes another, its object may be new -/
theorem HouseAt.set {H H' : Hp} {h l : Addr} {ps : List (Addr × Addr)} {s : Sq39.House} (A : HouseAt CH C H h l ps s) {i : Nat} {x d x' d' : Addr} {a' : Sq39.Account} (hi : ps[i]? = some (x, d)) (kp : Keep x d H H') (h' : AccAt C H' x' d' s.fine s.most a') (hx : x' = x) (hd : d' = d ∨ H d' = none) :
    HouseAt CH C H' h l (ps.set i (x', d')) { s with accounts := s.accounts.set i a' } ∧ Goes h l l ps (ps.set i (x', d')) H H' := by
  have hr : InRow ps x ∧ InRow ps d := ⟨⟨_, List.mem_of_getElem? hi, Or.inl rfl⟩, ⟨_, List.mem_of_getElem? hi, Or.inr rfl⟩⟩
  obtain ⟨nx1, nx2, _⟩ := A.row hr.1
  obtain ⟨nd1, nd2, _⟩ := A.row hr.2
  obtain ⟨dh, hh⟩ := A.ex
  refine ⟨⟨⟨dh, kp _ _ hh (Ne.symm nx1) (Ne.symm nd1)⟩, ?_, A.accs.set hi (fun b o e _ => kp b o e) h' (Or.inl hx) hd⟩, fun b hb => ?_, fun b o e hb => ?_⟩
  · have e : ((ps.set i (x', d')).map fun p => V.ref p.1) = ps.map fun p => V.ref p.1 := by
      rw [List.map_set]
      subst hx
      refine List.ext_getElem? fun j => ?_
      rw [List.getElem?_set]
      split
      · rename_i ej
        subst ej
        rw [List.getElem?_map, hi]
        split
        · rfl
        · rename_i z
          exact absurd ((List.length_map _).symm ▸ (List.getElem?_eq_some_iff.mp hi).1) z
      · rfl
    rw [e]
    exact kp _ _ A.lst (Ne.symm nx2) (Ne.symm nd2)
  · rcases hb with rfl | rfl | hb
    · exact Or.inl (Or.inl rfl)
    · exact Or.inl (Or.inr (Or.inl rfl))
    · rcases inRow_set hb with z | z | z
      · exact Or.inl (Or.inr (Or.inr z))
      · rw [z, hx]
        exact Or.inl (Or.inr (Or.inr hr.1))
      · rw [z]
        rcases hd with q | q
        · rw [q]
          exact Or.inl (Or.inr (Or.inr hr.2))
        · exact Or.inr q
  · exact kp b o e (fun z => hb (by rw [z]; exact Or.inr (Or.inr hr.1))) (fun z => hb (by rw [z]; exact Or.inr (Or.inr hr.2)))
theorem ok_makeNew {f fN : Addr} {fd fdN : FuncData} (F : Fun K "make_new" "House.make_new" sMakeNew f fd) (TH : TxtH K mg CH) (T : Txt K mg C) (M : Mk K C fN) (FN : Fun K "__init__" "Account.__init__" sNew fN fdN) (bN : Binds K fdN ["self", "fineness", "most"] []) :
    FnOk P w K mg base CX0 3 f fd ["self", "number"] (spMakeNew CH C) := by
  have GN : FnOk P w K mg base CX0 1 fN fdN ["self", "fineness", "most"] (spNew C) := ok_new FN T
  refine F.ok scMakeNew (fun vs H Q E h => ?_) (fun cdv A outer s H vs Q E hr h => ?_)
  · obtain ⟨h, l, ps, s, i, rfl, _⟩ := h
    rfl
  · obtain ⟨h, l, ps, s, i, rfl, hH, hi, q⟩ := h
    refine ⟨_, pss_one (ps_asg (pe_make M GN hr rfl T.gC bN .nil pass0 (pa_cons (pe_fld (pv 0) rfl) (pa_cons (pe_fld (pv 0) rfl) pa_nil))) (pg_sub (pe_fld (pv 0) rfl) (pv 1) set_list)), ?_⟩
    obtain ⟨dh, hh⟩ := hH.ex
    refine ⟨_, rfl, h, CH, dh, _, _, rfl, hh, TH.cl, TH.nFine, hF_fine, _, rfl, h, CH, dh, _, _, rfl, hh, TH.cl, TH.nMost, hF_most, ?_⟩
    intro y dy ny ndy nee
    refine ⟨y, dy, s.fine, s.most, rfl, upd_same, fun H1 d hd hA kp => ⟨rfl, ?_⟩⟩
    have hdy : d ≠ y := fun z => by
      rw [z, upd_same] at hd
      cases hd
    have hddy : d ≠ dy := fun z => by
      rw [upd_ne hdy, z, upd_same] at hd
      cases hd
    have hd0 : H d = none := by
      rw [upd_ne hdy, upd_ne hddy] at hd
      exact hd
    have s1 : ∀ b o, H b = some o → H1 b = some o := fun b o e => kp b o (by rw [upd_ne (ne_of_none e ny), upd_ne (ne_of_none e ndy)]; exact e) (ne_of_none e ny)
    have hip : i < ps.length := by
      rw [hH.accs.len]
      exact hi
    obtain ⟨p, hp⟩ : ∃ p, ps[i]? = some p := ⟨_, List.getElem?_eq_getElem hip⟩
    refine ⟨_, rfl, h, CH, dh, _, _, rfl, s1 _ _ hh, TH.cl, TH.nAccounts, hF_accounts, _, rfl, l, _, _, i, rfl, rfl, s1 _ _ hH.lst, ixN_nat (by rw [List.length_map]; exact hip), ?_⟩
    have hyl : y ≠ l := Ne.symm (ne_of_none hH.lst ny)
    have hdl : d ≠ l := Ne.symm (ne_of_none hH.lst hd0)
    have e1 : ((ps.map fun p => V.ref p.1).set i (.ref y)) = (ps.set i (y, d)).map fun p => V.ref p.1 := by
      rw [List.map_set]
    rw [e1]
    have hA2 : AccAt C (upd H1 l (.lst ((ps.set i (y, d)).map fun p => V.ref p.1))) y d s.fine s.most Sq39.empty := hA.keep fun b o e hb => by
      have : b ≠ l := by
        rcases hb with rfl | rfl
        · exact hyl
        · exact hdl
      rw [upd_ne this]
      exact e
    refine q _ (ps.set i (y, d)) ⟨⟨dh, by rw [upd_ne hH.nh]; exact s1 _ _ hh⟩, upd_same, ?_⟩ ⟨fun b hb => ?_, fun b o e hb => ?_⟩
    · -- the new one in the row
      exact hH.accs.set (i := i) (x := p.1) (d := p.2) (x' := y) (d' := d) hp (fun b o e hb _ _ => by rw [upd_ne (hH.row hb).2.1]; exact s1 b o e) hA2 (Or.inr ny) (Or.inr hd0)
    · rcases hb with rfl | rfl | hb
      · exact Or.inl (Or.inl rfl)
      · exact Or.inl (Or.inr (Or.inl rfl))
      · rcases inRow_set hb with z | z | z
        · exact Or.inl (Or.inr (Or.inr z))
        · rw [z]
          exact Or.inr ny
        · rw [z]
          exact Or.inr hd0
    · rw [upd_ne fun z => hb (by rw [z]; exact Or.inr (Or.inl rfl))]
      exact s1 b o e
end
end Wb
namespace Wb
open PySem PySem.Spec PyProof.Rows L2
def oV (o : Sq39.Out) : List V := (o.value :: o.out).map V.int
/-- what each call's def promises: the step of the house -/
def spA (CH C : Addr) (mk : List Nat → Option Sq39.Call) : Sp := fun vs H Q _ => ∃ (h l nl : Addr) (ps : List (Addr × Addr)) (s : Sq39.House) (ns : List Nat) (c : Sq39.Call),
  vs = [.ref h, .ref nl] ∧ HouseAt CH C H h l ps s ∧ WfH s ∧ H nl = some (.lst (nV ns)) ∧ mk ns = some c ∧ (∀ n ∈ ns, n < 2 ^ 64) ∧
  ∀ (H' : Hp) (l' : Addr) (ps' : List (Addr × Addr)) (p : Addr), HouseAt CH C H' h l' ps' (s.step c).1 → Goes h l l' ps ps' H H' → H' p = some (.lst (oV (s.step c).2)) → (∀ b o, H b = some o → ¬ Foot h l ps b → b ≠ p) → Q (.ref p) H'
def mkBegin : List Nat → Option Sq39.Call
  | [a, b, c] => some (.begin_ a b c)
  | _ => none
def mkAdd : List Nat → Option Sq39.Call
  | [a, b, c] => some (.add a b c)
  | _ => none
def mkJoin : List Nat → Option Sq39.Call
  | [a, b] => some (.join a b)
  | _ => none
def mkClear : List Nat → Option Sq39.Call
  | [a] => some (.clear a)
  | _ => none
def mkRank : List Nat → Option Sq39.Call
  | [a, b] => some (.rank a b)
  | _ => none
theorem ofBegin {ns : List Nat} {c : Sq39.Call} (h : mkBegin ns = some c) : ∃ a b d, ns = [a, b, d] ∧ .begin_ a b d = c := by
  unfold mkBegin at h
  split at h
  · exact ⟨_, _, _, rfl, Option.some.inj h⟩
  · cases h
theorem ofAdd {ns : List Nat} {c : Sq39.Call} (h : mkAdd ns = some c) : ∃ a b d, ns = [a, b, d] ∧ .add a b d = c := by
  unfold mkAdd at h
  split at h
  · exact ⟨_, _, _, rfl, Option.some.inj h⟩
  · cases h
theorem ofJoin {ns : List Nat} {c : Sq39.Call} (h : mkJoin ns = some c) : ∃ a b, ns = [a, b] ∧ .join a b = c := by
  unfold mkJoin at h
  split at h
  · exact ⟨_, _, rfl, Option.some.inj h⟩
  · cases h
theorem ofClear {ns : List Nat} {c : Sq39.Call} (h : mkClear ns = some c) : ∃ a, ns = [a] ∧ .clear a = c := by
  unfold mkClear at h
  split at h
  · exact ⟨_, rfl, Option.some.inj h⟩
  · cases h
theorem ofRank {ns : List Nat} {c : Sq39.Call} (h : mkRank ns = some c) : ∃ a b, ns = [a, b] ∧ .rank a b = c := by
  unfold mkRank at h
  split at h
  · exact ⟨_, _, rfl, Option.some.inj h⟩
  · cases h
section
variable {CH C : Addr} {H H1 H' : Hp} {h l l' : Addr} {ps ps' : List (Addr × Addr)} {s : Sq39.House}
theorem same_house (A : HouseAt CH C H h l ps s) (sm : Same H H') : HouseAt CH C H' h l ps s :=
  ⟨let ⟨dh, hh⟩ := A.ex; ⟨dh, sm _ _ hh⟩, sm _ _ A.lst, A.accs.keep fun b o e _ => sm b o e⟩
theorem same_goes (sm : Same H H') : Goes h l l ps ps H H' := ⟨fun _ hb => Or.inl hb, fun b o e _ => sm b o e⟩
theorem goes_same (g : Goes h l l' ps ps' H H1) (sm : Same H1 H') : Goes h l l' ps ps' H H' := ⟨g.1, fun b o e hb => sm b o (g.2 b o e hb)⟩
end
theorem chain_le {σ : L2.St} {H : Hp} {Q : Bool → Hp → Prop} {lo hi v : Int} {i : Nat} (hv : σ[i]? = some (some (.int v))) (q : Q (decide (lo ≤ v) && decide (v ≤ hi)) H) :
    tTest (tChain (rI0 fun i j => .bl (decide (i ≤ j))) (rI0 fun i j => .bl (decide (i ≤ j))) (tC (.int lo)) (tVar i) (tC (.int hi))) σ H Q := by
  refine ⟨_, hv, _, _, rfl, rfl, _, rfl, ite2 (fun c => ?_) fun c => ?_⟩
  · refine ⟨_, _, rfl, rfl, _, rfl, ?_⟩
    rw [c, Bool.true_and] at q
    exact q
  · refine ⟨_, rfl, ?_⟩
    have e : decide (lo ≤ v) = false := by
      cases z : decide (lo ≤ v) with
      | true => exact absurd z c
      | false => rfl
    rw [e, Bool.false_and] at q
    exact q
/-- the methods and defs that the calls use -/
structure Md (K : PySem.W.Frag) (mg : Str → Option Value) (CH C : Addr) (fN fTell fJoin fTake fFloor fCount fGive fBoth fOf fHB fHI fL fM : Addr) (dN dTell dJoin dTake dFloor dCount dGive dBoth dOf dHB dHI dL dM : FuncData) : Prop where
  M : Mk K C fN
  FN : Fun K "__init__" "Account.__init__" sNew fN dN
  bN : Binds K dN ["self", "fineness", "most"] []
  FTell : Fun K "tell" "Account.tell" sTell fTell dTell
  bTell : Binds K dTell ["self", "value", "times"] []
  mTell : Meth K C "tell" fTell
  FJoin : Fun K "put_together" "Account.put_together" sJoin fJoin dJoin
  bJoin : Binds K dJoin ["self", "other"] []
  mJoin : Meth K C "put_together" fJoin
  FTake : Fun K "take_in" "Account.take_in" sTake fTake dTake
  bTake : Binds K dTake ["self", "total", "amount", "least", "greatest"] []
  mTake : Meth K C "take_in" fTake
  FFloor : Fun K "floor" "Account.floor" sFloor fFloor dFloor
  bFloor : Binds K dFloor ["self"] []
  mFloor : Meth K C "floor" fFloor
  FCount : Fun K "count_in" "Account.count_in" sCount fCount dCount
  bCount : Binds K dCount ["self", "number", "times"] []
  mCount : Meth K C "count_in" fCount
  FGive : Fun K "give_up_lowest" "Account.give_up_lowest" sGive fGive dGive
  bGive : Binds K dGive ["self"] []
  mGive : Meth K C "give_up_lowest" fGive
  FBoth : Fun K "counts_of_both" "counts_of_both" sBoth fBoth dBoth
  bBoth : Binds K dBoth ["one", "other", "floor"] []
  mBoth : mg "counts_of_both" = some (.ref fBoth)
  FOf : Fun K "bucket_of" "bucket_of" sOf fOf dOf
  bOf : Binds K dOf ["fineness", "value"] []
  mOf : mg "bucket_of" = some (.ref fOf)
  FHB : Fun K "begin" "House.begin" sHBegin fHB dHB
  bHB : Binds K dHB ["self", "fineness", "most", "accounts"] []
  mHB : Meth K CH "begin" fHB
  MH : Mk K CH fHI
  FHI : Fun K "__init__" "House.__init__" sHInit fHI dHI
  bHI : Binds K dHI ["self"] []
  FL : Fun K "lacks" "House.lacks" sLacks fL dL
  bL : Binds K dL ["self", "number"] []
  mL : Meth K CH "lacks" fL
  FM : Fun K "make_new" "House.make_new" sMakeNew fM dM
  bM : Binds K dM ["self", "number"] []
  mM : Meth K CH "make_new" fM
abbrev sABegin : Stmt := topS 22
abbrev sAAdd : Stmt := topS 23
abbrev sAJoin : Stmt := topS 24
abbrev sAClear : Stmt := topS 25
abbrev sARank : Stmt := topS 26
abbrev sAPart : Stmt := topS 27
abbrev sAUpTo : Stmt := topS 28
abbrev sAAccount : Stmt := topS 29
abbrev sABuckets : Stmt := topS 30
abbrev sAEdges : Stmt := topS 31
section
variable {P : Program} {w : World} {K : PySem.W.Frag} {mg : Str → Option Value} {base : Heap} {CH C : Addr} {fN fTell fJoin fTake fFloor fCount fGive fBoth fOf fHB fHI fL fM : Addr} {dN dTell dJoin dTake dFloor dCount dGive dBoth dOf dHB dHI dL dM : FuncData}
theorem scABegin : FnScope ["house", "numbers", "fineness", "most", "accounts"] ["house", "numbers"] (defScope sABegin) := ⟨rfl, rfl, rfl, by decide +kernel, rfl, by decide +kernel, by decide +kernel⟩
theorem ok_abegin {f : Addr} {fd : FuncData} (F : Fun K "answer_begin" "answer_begin" sABegin f fd) (D : Md K mg CH C fN fTell fJoin fTake fFloor fCount fGive fBoth fOf fHB fHI fL fM dN dTell dJoin dTake dFloor dCount dGive dBoth dOf dHB dHI dL dM) (TH : TxtH K mg CH) (T : Txt K mg C) :
    FnOk P w K mg base CX0 4 f fd ["house", "numbers"] (spA CH C mkBegin) := by
  have GB : FnOk P w K mg base CX0 3 fHB dHB ["self", "fineness", "most", "accounts"] (spHBegin CH C) := ok_hbegin D.FHB TH T D.M D.FN D.bN
  refine F.ok scABegin (fun vs H Q E h => ?_) (fun cdv A outer s H vs Q E hr h => ?_)
  · obtain ⟨h, l, nl, ps, s, ns, c, rfl, _⟩ := h
    rfl
  · obtain ⟨h, l, nl, ps, s, ns, c, rfl, hH, hW, hN, hc, hb, q⟩ := h
    obtain ⟨k, m, n, rfl, rfl⟩ := ofBegin hc
    refine ⟨_, pss_cons (ps_set (i := 2) scABegin.nd rfl (Or.inl rfl) (pe_ix ix_list (pv 1) pe_int (fun _ _ => rfl))) (pss_cons (ps_set (i := 3) scABegin.nd rfl (Or.inl rfl) (pe_ix ix_list (pv 1) pe_int (fun _ _ => rfl))) (pss_cons (ps_set (i := 4) scABegin.nd rfl (Or.inl rfl) (pe_ix ix_list (pv 1) pe_int (fun _ _ => rfl)))
      (pss_cons (ps_if (pt_not (PW.pt (pw_and (pt_chain op_le op_le pe_int (pv 2) pe_int) (pw_and (pt_chain op_le op_le pe_int (pv 3) pe_int) (pw_and1 (pt_chain op_le op_le pe_int (pv 4) pe_int))))))
        (pss_one (ps_ret (pe_lst (pa_cons (pe_un un_neg pe_int) pa_nil)))) pss_nil)
      (pss_cons (ps_expr (pe_meth (pv 0) TH.cl D.mHB GB hr D.bHB .nil pass0 (pa_cons (pv 2) (pa_cons (pv 3) (pa_cons (pv 4) pa_nil)))))
      (pss_one (ps_ret (pe_lst (pa_cons pe_int pa_nil)))))))), ?_⟩
    refine ⟨_, rfl, nl, _, _, _, rfl, rfl, SqL.of hN, atI_nat (j := 0) rfl, ?_⟩
    refine ⟨_, rfl, nl, _, _, _, rfl, rfl, SqL.of hN, atI_nat (j := 1) rfl, ?_⟩
    refine ⟨_, rfl, nl, _, _, _, rfl, rfl, SqL.of hN, atI_nat (j := 2) rfl, ?_⟩
    -- refused
    have no : (k < 3 ∨ Sq39.FINE < k ∨ m = 0 ∨ 200 < m ∨ n = 0 ∨ Sq39.ACCOUNTS < n) → tRet (tLst (tCons (tUn (rU fun i => .int (-i)) (tC (.int 1))) tNil)) { nx := fun _ H' => Q .non H', rt := Q } [some (.ref h), some (.ref nl), some (.int (k : Int)), some (.int (m : Int)), some (.int (n : Int))] H := by
      intro bad
      have e : s.step (.begin_ k m n) = (s, Sq39.says (-1)) := if_pos bad
      rw [e] at q
      refine ⟨_, rfl, (by show 1 ≤ sizeLine; decide), fun p hp => ?_⟩
      exact q _ l ps p (same_house hH (same_new hp)) (same_goes (same_new hp)) upd_same fun b o e _ => ne_of_none e hp
    refine chain_le rfl (ite2 (fun c1 => chain_le rfl (ite2 (fun c2 => chain_le rfl ?_) fun c2 => iteT (no ?_))) fun c1 => iteT (no ?_))
    · rw [Bool.and_eq_true] at c1 c2
      have a1 : (3 : Int) ≤ (k : Int) := of_decide_eq_true c1.1
      have a2 : (k : Int) ≤ 40 := of_decide_eq_true c1.2
      have a3 : (1 : Int) ≤ (m : Int) := of_decide_eq_true c2.1
      have a4 : (m : Int) ≤ 200 := of_decide_eq_true c2.2
      refine ite2 (fun c3 => no ?_) fun c3 => ?_
      · have z : ¬ ((1 : Int) ≤ (n : Int) ∧ (n : Int) ≤ 6) := fun ⟨z1, z2⟩ => by
          rw [decide_eq_true z1, decide_eq_true z2] at c3
          cases c3
        unfold Sq39.ACCOUNTS Sq39.FINE
        omega
      · have z : (1 : Int) ≤ (n : Int) ∧ (n : Int) ≤ 6 := by
          by_cases z1 : (1 : Int) ≤ (n : Int)
          · by_cases z2 : (n : Int) ≤ 6
            · exact ⟨z1, z2⟩
            · exact absurd (by rw [decide_eq_false z2, Bool.and_false]; rfl) c3
          · exact absurd (by rw [decide_eq_false z1, Bool.false_and]; rfl) c3
        have good : ¬ (k < 3 ∨ Sq39.FINE < k ∨ m = 0 ∨ 200 < m ∨ n = 0 ∨ Sq39.ACCOUNTS < n) := by
          unfold Sq39.ACCOUNTS Sq39.FINE
          omega
        have e : s.step (.begin_ k m n) = (⟨k, m, List.replicate n Sq39.empty⟩, Sq39.says 0) := if_neg good
        rw [e] at q
        obtain ⟨dh, hh⟩ := hH.ex
        refine ⟨_, rfl, h, dh, _, rfl, hh, hF_no (by decide +kernel), _, rfl, _, rfl, _, rfl, h, dh, _, k, m, n, rfl, hh, Or.inr ⟨_, _, _, rfl⟩, by omega, fun H1 l1 ps1 hH1 fr kp => ?_⟩
        refine ⟨(by show 1 ≤ sizeLine; decide), fun p hp => ?_⟩
        have g : Goes h l l1 ps ps1 H H1 := ⟨fun b hb => by
          rcases hb with rfl | hb
          · exact Or.inl (Or.inl rfl)
          · exact Or.inr (fr b hb), fun b o e hb => kp b o e fun z => hb (Or.inl z)⟩
        exact q _ l1 ps1 p (same_house hH1 (same_new hp)) (goes_same g (same_new hp)) upd_same fun b o e hb => ne_of_none (g.2 b o e hb) hp
    · have z : ¬ ((1 : Int) ≤ (m : Int) ∧ (m : Int) ≤ 200) := fun ⟨z1, z2⟩ => c2 (by rw [decide_eq_true z1, decide_eq_true z2]; rfl)
      omega
    · have z : ¬ ((3 : Int) ≤ (k : Int) ∧ (k : Int) ≤ 40) := fun ⟨z1, z2⟩ => c1 (by rw [decide_eq_true z1, decide_eq_true z2]; rfl)
      unfold Sq39.FINE
      omega
end
end Wb
namespace Wb
open PySem PySem.Spec PyProof.Rows L2
theorem at_none {s : Sq39.House} {a : Nat} {f : Sq39.Account → Sq39.House × Sq39.Out} (h : s.accounts.length ≤ a) : s.at_ a f = (s, Sq39.says (-2)) := by
  unfold Sq39.House.at_
  rw [List.getElem?_eq_none_iff.mpr h]
theorem at_some {s : Sq39.House} {a : Nat} {x : Sq39.Account} {f : Sq39.Account → Sq39.House × Sq39.Out} (h : s.accounts[a]? = some x) : s.at_ a f = f x := by
  unfold Sq39.House.at_
  rw [h]
theorem HouseAt.acc {CH C : Addr} {H : Hp} {h l : Addr} {ps : List (Addr × Addr)} {s : Sq39.House} (A : HouseAt CH C H h l ps s) (W : WfH s) {i : Nat} (hi : ¬ s.accounts.length ≤ i) :
    ∃ x d a, ps[i]? = some (x, d) ∧ s.accounts[i]? = some a ∧ AccAt C H x d s.fine s.most a ∧ Wf s.most a ∧ (ps.map fun p => V.ref p.1)[i]? = some (.ref x) := by
  have hip : i < ps.length := by
    rw [A.accs.len]
    omega
  obtain ⟨a, ha, B⟩ := A.accs.there (List.getElem?_eq_getElem hip)
  refine ⟨ps[i].1, ps[i].2, a, List.getElem?_eq_getElem hip, ha, B, W.all a (List.mem_of_getElem? ha), ?_⟩
  rw [List.getElem?_map, List.getElem?_eq_getElem hip]
  rfl
/-- an answer of one number, the house as it was -/
theorem one_number {CH C : Addr} {H : Hp} {h l : Addr} {ps : List (Addr × Addr)} {s : Sq39.House} {r : Sq39.House × Sq39.Out} {z : Int} {Q : VK} (hH : HouseAt CH C H h l ps s) (e : r = (s, Sq39.says z))
    (q : ∀ (H' : Hp) (l' : Addr) (ps' : List (Addr × Addr)) (p : Addr), HouseAt CH C H' h l' ps' r.1 → Goes h l l' ps ps' H H' → H' p = some (.lst (oV r.2)) → (∀ b o, H b = some o → ¬ Foot h l ps b → b ≠ p) → Q (.ref p) H') :
    ∀ p, H p = none → Q (.ref p) (upd H p (.lst [.int z])) := by
  subst e
  intro p hp
  exact q _ l ps p (same_house hH (same_new hp)) (same_goes (same_new hp)) upd_same fun b o e _ => ne_of_none e hp
section
variable {P : Program} {w : World} {K : PySem.W.Frag} {mg : Str → Option Value} {base : Heap} {CH C : Addr} {fN fTell fJoin fTake fFloor fCount fGive fBoth fOf fHB fHI fL fM : Addr} {dN dTell dJoin dTake dFloor dCount dGive dBoth dOf dHB dHI dL dM : FuncData}
theorem scAAdd : FnScope ["house", "numbers", "value", "times", "account"] ["house", "numbers"] (defScope sAAdd) := ⟨rfl, rfl, rfl, by decide +kernel, rfl, by decide +kernel, by decide +kernel⟩
theorem ok_aadd {f : Addr} {fd : FuncData} {tG tT : Tok} (F : Fun K "answer_add" "answer_add" sAAdd f fd) (D : Md K mg CH C fN fTell fJoin fTake fFloor fCount fGive fBoth fOf fHB fHI fL fM dN dTell dJoin dTake dFloor dCount dGive dBoth dOf dHB dHI dL dM) (TH : TxtH K mg CH) (T : Txt K mg C)
    (mG : mg "GREATEST_VALUE" = some (.int 1000000000 tG)) (mT : mg "MOST_TIMES" = some (.int 1000000 tT)) :
    FnOk P w K mg base CX0 4 f fd ["house", "numbers"] (spA CH C mkAdd) := by
  have GL : FnOk P w K mg base CX0 1 fL dL ["self", "number"] (spLacks CH C) := ok_lacks D.FL TH T
  have GT : FnOk P w K mg base CX0 3 fTell dTell ["self", "value", "times"] (spTell C) := ok_tell D.FTell T D.FTake D.bTake D.mTake D.FFloor D.bFloor D.mFloor D.FCount D.bCount D.mCount D.FGive D.bGive D.mGive D.FOf D.bOf D.mOf
  refine F.ok scAAdd (fun vs H Q E h => ?_) (fun cdv A outer s H vs Q E hr h => ?_)
  · obtain ⟨h, l, nl, ps, s, ns, c, rfl, _⟩ := h
    rfl
  · obtain ⟨h, l, nl, ps, s, ns, c, rfl, hH, hW, hN, hc, hb, q⟩ := h
    obtain ⟨a, v, n, rfl, rfl⟩ := ofAdd hc
    have hr1 : Room 1 _ := hr.mono (by decide)
    refine ⟨_, pss_cons (ps_set (i := 2) scAAdd.nd rfl (Or.inl rfl) (pe_ix ix_list (pv 1) pe_int (fun _ _ => rfl))) (pss_cons (ps_set (i := 3) scAAdd.nd rfl (Or.inl rfl) (pe_ix ix_list (pv 1) pe_int (fun _ _ => rfl)))
      (pss_cons (ps_if (pt_val (pe_meth (pv 0) TH.cl D.mL GL hr1 D.bL .nil pass0 (pa_cons (pe_ix ix_list (pv 1) pe_int (fun _ _ => rfl)) pa_nil))) (pss_one (ps_ret (pe_lst (pa_cons (pe_un un_neg pe_int) pa_nil)))) pss_nil)
      (pss_cons (ps_if (PW.pt (pw_or (pt_cmpR op_gt (pv 2) (pe_glob (v := .int 1000000000) rfl mG ⟨_, rfl⟩) (nomark _)) (pw_or1 (pt_cmpR op_gt (pv 3) (pe_glob (v := .int 1000000) rfl mT ⟨_, rfl⟩) (nomark _))))) (pss_one (ps_ret (pe_lst (pa_cons (pe_un un_neg pe_int) pa_nil)))) pss_nil)
      (pss_cons (ps_set (i := 4) scAAdd.nd rfl (Or.inl rfl) (pe_ix ix_list (pe_fld (pv 0) rfl) (pe_ix ix_list (pv 1) pe_int (fun _ _ => rfl)) (fun _ _ => rfl)))
      (pss_cons (ps_expr (pe_meth (pv 4) T.cl D.mTell GT hr D.bTell .nil pass0 (pa_cons (pv 2) (pa_cons (pv 3) pa_nil))))
      (pss_one (ps_ret (pe_lst (pa_cons (pe_fld (pv 4) rfl) (pa_cons (pe_callB call_lenD (by rfl) T.len PySem.boot_len (pa_cons (pe_fld (pv 4) rfl) pa_nil)) pa_nil)))))))))), ?_⟩
    obtain ⟨dh, hh⟩ := hH.ex
    refine ⟨_, rfl, nl, _, _, _, rfl, rfl, SqL.of hN, atI_nat (j := 1) rfl, ?_⟩
    refine ⟨_, rfl, nl, _, _, _, rfl, rfl, SqL.of hN, atI_nat (j := 2) rfl, ?_⟩
    refine ⟨_, rfl, h, dh, _, rfl, hh, hF_no (by decide +kernel), _, rfl, nl, _, _, _, rfl, rfl, SqL.of hN, atI_nat (j := 0) rfl, h, l, ps, s, a, rfl, hH, _, rfl, ite2 (fun c => ?_) fun c => ?_⟩
    · have c1 : s.accounts.length ≤ a := of_decide_eq_true c
      exact ⟨_, rfl, (by show 1 ≤ sizeLine; decide), one_number hH (at_none c1) q⟩
    · have c1 : ¬ s.accounts.length ≤ a := fun z => c (decide_eq_true z)
      obtain ⟨x, d, ac, hp, ha, hA, hw, hv⟩ := hH.acc hW c1
      have bad : (Sq39.VALUE < v ∨ Sq39.TIMES < n) → s.step (.add a v n) = (s, Sq39.says (-1)) := fun z => (at_some ha).trans (if_pos z)
      refine ⟨_, rfl, _, _, rfl, rfl, _, rfl, ite2 (fun c2 => ?_) fun c2 => ?_⟩
      · have c3 : (1000000000 : Int) < (v : Int) := of_decide_eq_true c2
        exact iteT ⟨_, rfl, (by show 1 ≤ sizeLine; decide), one_number hH (bad (Or.inl (by unfold Sq39.VALUE; omega))) q⟩
      · have c3 : ¬ (1000000000 : Int) < (v : Int) := fun z => c2 (decide_eq_true z)
        refine ⟨_, rfl, _, _, rfl, rfl, _, rfl, ite2 (fun c4 => ?_) fun c4 => ?_⟩
        · have c5 : (1000000 : Int) < (n : Int) := of_decide_eq_true c4
          exact ⟨_, rfl, (by show 1 ≤ sizeLine; decide), one_number hH (bad (Or.inr (by unfold Sq39.TIMES; omega))) q⟩
        · have c5 : ¬ (1000000 : Int) < (n : Int) := fun z => c4 (decide_eq_true z)
          have e : s.step (.add a v n) = ({ s with accounts := s.accounts.set a (ac.add s.fine s.most v n) }, ⟨(ac.add s.fine s.most v n).n, [((ac.add s.fine s.most v n).buckets.length : Int)]⟩) :=
            (at_some ha).trans (if_neg (by unfold Sq39.VALUE Sq39.TIMES; omega))
          rw [e] at q
          refine ⟨_, rfl, h, CH, dh, _, _, rfl, hh, TH.cl, TH.nAccounts, hF_accounts, _, rfl, nl, _, _, _, rfl, rfl, SqL.of hN, atI_nat (j := 0) rfl, l, _, _, _, rfl, rfl, SqL.of hH.lst, atI_nat hv, ?_⟩
          obtain ⟨dx, hx⟩ := hA.ex
          refine ⟨_, rfl, x, dx, _, rfl, hx, aF_no (by decide +kernel), _, rfl, _, rfl, x, d, s.fine, s.most, ac, v, n, rfl, hA, hw, hW.m1, hW.m200, hW.k3, hW.k40, by omega, by omega, fun H1 hA1 kp => ?_⟩
          obtain ⟨hH1, g⟩ := hH.set hp kp hA1 rfl (Or.inl rfl)
          obtain ⟨dx1, hx1⟩ := hA1.ex
          obtain ⟨ds1, hd1, hp1⟩ := hA1.tab
          refine ⟨_, rfl, x, C, dx1, _, _, rfl, hx1, T.cl, T.nTotal, aF_total, _, rfl, x, C, dx1, _, _, rfl, hx1, T.cl, T.nCounts, aF_counts, d, _, rfl, hd1, (by show 2 ≤ sizeLine; decide), fun p hpn => ?_⟩
          refine q _ l _ p (same_house hH1 (same_new hpn)) (goes_same g (same_new hpn)) ?_ fun b o e hb => ne_of_none (g.2 b o e hb) hpn
          rw [upd_same, dV_len, hp1.length_eq]
          rfl
/-! join -/
theorem scAJoin : FnScope ["house", "numbers", "account"] ["house", "numbers"] (defScope sAJoin) := ⟨rfl, rfl, rfl, by decide +kernel, rfl, by decide +kernel, by decide +kernel⟩
theorem ok_ajoin {f : Addr} {fd : FuncData} (F : Fun K "answer_join" "answer_join" sAJoin f fd) (D : Md K mg CH C fN fTell fJoin fTake fFloor fCount fGive fBoth fOf fHB fHI fL fM dN dTell dJoin dTake dFloor dCount dGive dBoth dOf dHB dHI dL dM) (TH : TxtH K mg CH) (T : Txt K mg C) :
    FnOk P w K mg base CX0 4 f fd ["house", "numbers"] (spA CH C mkJoin) := by
  have GL : FnOk P w K mg base CX0 1 fL dL ["self", "number"] (spLacks CH C) := ok_lacks D.FL TH T
  have GJ : FnOk P w K mg base CX0 3 fJoin dJoin ["self", "other"] (spJoin C) := ok_join D.FJoin T D.FTake D.bTake D.mTake D.FFloor D.bFloor D.mFloor D.FCount D.bCount D.mCount D.FGive D.bGive D.mGive D.FBoth D.bBoth D.mBoth
  refine F.ok scAJoin (fun vs H Q E h => ?_) (fun cdv A outer s H vs Q E hr h => ?_)
  · obtain ⟨h, l, nl, ps, s, ns, c, rfl, _⟩ := h
    rfl
  · obtain ⟨h, l, nl, ps, s, ns, c, rfl, hH, hW, hN, hc, hb, q⟩ := h
    obtain ⟨a, b, rfl, rfl⟩ := ofJoin hc
    have hr1 : Room 1 _ := hr.mono (by decide)
    refine ⟨_, pss_cons (ps_if (PW.pt (pw_or (pt_val (pe_meth (pv 0) TH.cl D.mL GL hr1 D.bL .nil pass0 (pa_cons (pe_ix ix_list (pv 1) pe_int (fun _ _ => rfl)) pa_nil))) (pw_or1 (pt_val (pe_meth (pv 0) TH.cl D.mL GL hr1 D.bL .nil pass0 (pa_cons (pe_ix ix_list (pv 1) pe_int (fun _ _ => rfl)) pa_nil))))))
        (pss_one (ps_ret (pe_lst (pa_cons (pe_un un_neg pe_int) pa_nil)))) pss_nil)
      (pss_cons (ps_if (pt_cmpR op_eq (pe_ix ix_list (pv 1) pe_int (fun _ _ => rfl)) (pe_ix ix_list (pv 1) pe_int (fun _ _ => rfl)) (nomark _)) (pss_one (ps_ret (pe_lst (pa_cons (pe_un un_neg pe_int) pa_nil)))) pss_nil)
      (pss_cons (ps_set (i := 2) scAJoin.nd rfl (Or.inl rfl) (pe_ix ix_list (pe_fld (pv 0) rfl) (pe_ix ix_list (pv 1) pe_int (fun _ _ => rfl)) (fun _ _ => rfl)))
      (pss_cons (ps_expr (pe_meth (pv 2) T.cl D.mJoin GJ hr D.bJoin .nil pass0 (pa_cons (pe_ix ix_list (pe_fld (pv 0) rfl) (pe_ix ix_list (pv 1) pe_int (fun _ _ => rfl)) (fun _ _ => rfl)) pa_nil)))
      (pss_one (ps_ret (pe_lst (pa_cons (pe_fld (pv 2) rfl) (pa_cons (pe_callB call_lenD (by rfl) T.len PySem.boot_len (pa_cons (pe_fld (pv 2) rfl) pa_nil)) pa_nil)))))))), ?_⟩
    obtain ⟨dh, hh⟩ := hH.ex
    refine ⟨_, rfl, h, dh, _, rfl, hh, hF_no (by decide +kernel), _, rfl, nl, _, _, _, rfl, rfl, SqL.of hN, atI_nat (j := 0) rfl, h, l, ps, s, a, rfl, hH, _, rfl, ite2 (fun c => ?_) fun c => ?_⟩
    · have c1 : s.accounts.length ≤ a := of_decide_eq_true c
      exact iteT ⟨_, rfl, (by show 1 ≤ sizeLine; decide), one_number hH (at_none c1) q⟩
    · have c1 : ¬ s.accounts.length ≤ a := fun z => c (decide_eq_true z)
      obtain ⟨x, d, ac, hp, ha, hA, hw, hv⟩ := hH.acc hW c1
      refine ⟨_, rfl, h, dh, _, rfl, hh, hF_no (by decide +kernel), _, rfl, nl, _, _, _, rfl, rfl, SqL.of hN, atI_nat (j := 1) rfl, h, l, ps, s, b, rfl, hH, _, rfl, ite2 (fun c2 => ?_) fun c2 => ?_⟩
      · have c3 : s.accounts.length ≤ b := of_decide_eq_true c2
        exact ⟨_, rfl, (by show 1 ≤ sizeLine; decide), one_number hH ((at_some ha).trans (at_none c3)) q⟩
      · have c3 : ¬ s.accounts.length ≤ b := fun z => c2 (decide_eq_true z)
        obtain ⟨y, e, bc, hpb, hab, hB, hwb, hvb⟩ := hH.acc hW c3
        refine ⟨_, rfl, nl, _, _, _, rfl, rfl, SqL.of hN, atI_nat (j := 0) rfl, _, rfl, nl, _, _, _, rfl, rfl, SqL.of hN, atI_nat (j := 1) rfl, rfl, _, rfl, ite2 (fun c4 => ?_) fun c4 => ?_⟩
        · have c5 : a = b := by
            have z : V.int (a : Int) = V.int (b : Int) := of_decide_eq_true c4
            have := V.int.inj z
            omega
          exact ⟨_, rfl, (by show 1 ≤ sizeLine; decide), one_number hH ((at_some ha).trans ((at_some hab).trans (if_pos c5))) q⟩
        · have c5 : a ≠ b := fun z => c4 (decide_eq_true (by rw [z]))
          have e0 : s.step (.join a b) = ({ s with accounts := s.accounts.set a (ac.join bc s.most) }, ⟨(ac.join bc s.most).n, [((ac.join bc s.most).buckets.length : Int)]⟩) :=
            (at_some ha).trans ((at_some hab).trans (if_neg c5))
          rw [e0] at q
          have hxy : x ≠ y := fun z => c5 (nd_ix hH.accs.nd1 (i := a) (j := b) (x := x) (by rw [List.getElem?_map, hp]; rfl) (by rw [List.getElem?_map, hpb, z]; rfl))
          have hde : d ≠ e := fun z => c5 (nd_ix hH.accs.nd2 (i := a) (j := b) (x := d) (by rw [List.getElem?_map, hp]; rfl) (by rw [List.getElem?_map, hpb, z]; rfl))
          refine ⟨_, rfl, h, CH, dh, _, _, rfl, hh, TH.cl, TH.nAccounts, hF_accounts, _, rfl, nl, _, _, _, rfl, rfl, SqL.of hN, atI_nat (j := 0) rfl, l, _, _, _, rfl, rfl, SqL.of hH.lst, atI_nat hv, ?_⟩
          obtain ⟨dx, hx⟩ := hA.ex
          refine ⟨_, rfl, x, dx, _, rfl, hx, aF_no (by decide +kernel), _, rfl, h, CH, dh, _, _, rfl, hh, TH.cl, TH.nAccounts, hF_accounts, _, rfl, nl, _, _, _, rfl, rfl, SqL.of hN, atI_nat (j := 1) rfl, l, _, _, _, rfl, rfl, SqL.of hH.lst, atI_nat hvb, ?_⟩
          refine ⟨x, d, y, e, s.fine, s.most, ac, bc, rfl, hA, hB, hxy, hde, hw, hwb, hW.m1, hW.m200, fun H1 d' hd' hA1 kp => ?_⟩
          obtain ⟨hH1, g⟩ := hH.set hp kp hA1 rfl hd'
          obtain ⟨dx1, hx1⟩ := hA1.ex
          obtain ⟨ds1, hd1, hp1⟩ := hA1.tab
          refine ⟨_, rfl, x, C, dx1, _, _, rfl, hx1, T.cl, T.nTotal, aF_total, _, rfl, x, C, dx1, _, _, rfl, hx1, T.cl, T.nCounts, aF_counts, d', _, rfl, hd1, (by show 2 ≤ sizeLine; decide), fun p hpn => ?_⟩
          refine q _ l _ p (same_house hH1 (same_new hpn)) (goes_same g (same_new hpn)) ?_ fun b o e hb => ne_of_none (g.2 b o e hb) hpn
          rw [upd_same, dV_len, hp1.length_eq]
          rfl
/-! clear -/
theorem scAClear : FnScope ["house", "numbers"] ["house", "numbers"] (defScope sAClear) := ⟨rfl, rfl, rfl, by decide +kernel, rfl, by decide +kernel, by decide +kernel⟩
theorem ok_aclear {f : Addr} {fd : FuncData} (F : Fun K "answer_clear" "answer_clear" sAClear f fd) (D : Md K mg CH C fN fTell fJoin fTake fFloor fCount fGive fBoth fOf fHB fHI fL fM dN dTell dJoin dTake dFloor dCount dGive dBoth dOf dHB dHI dL dM) (TH : TxtH K mg CH) (T : Txt K mg C) :
    FnOk P w K mg base CX0 4 f fd ["house", "numbers"] (spA CH C mkClear) := by
  have GL : FnOk P w K mg base CX0 1 fL dL ["self", "number"] (spLacks CH C) := ok_lacks D.FL TH T
  have GM : FnOk P w K mg base CX0 3 fM dM ["self", "number"] (spMakeNew CH C) := ok_makeNew D.FM TH T D.M D.FN D.bN
  refine F.ok scAClear (fun vs H Q E h => ?_) (fun cdv A outer s H vs Q E hr h => ?_)
  · obtain ⟨h, l, nl, ps, s, ns, c, rfl, _⟩ := h
    rfl
  · obtain ⟨h, l, nl, ps, s, ns, c, rfl, hH, hW, hN, hc, hb, q⟩ := h
    obtain ⟨a, rfl, rfl⟩ := ofClear hc
    have hr1 : Room 1 _ := hr.mono (by decide)
    refine ⟨_, pss_cons (ps_if (pt_val (pe_meth (pv 0) TH.cl D.mL GL hr1 D.bL .nil pass0 (pa_cons (pe_ix ix_list (pv 1) pe_int (fun _ _ => rfl)) pa_nil))) (pss_one (ps_ret (pe_lst (pa_cons (pe_un un_neg pe_int) pa_nil)))) pss_nil)
      (pss_cons (ps_expr (pe_meth (pv 0) TH.cl D.mM GM hr D.bM .nil pass0 (pa_cons (pe_ix ix_list (pv 1) pe_int (fun _ _ => rfl)) pa_nil))) (pss_one (ps_ret (pe_lst (pa_cons pe_int pa_nil))))), ?_⟩
    obtain ⟨dh, hh⟩ := hH.ex
    refine ⟨_, rfl, h, dh, _, rfl, hh, hF_no (by decide +kernel), _, rfl, nl, _, _, _, rfl, rfl, SqL.of hN, atI_nat (j := 0) rfl, h, l, ps, s, a, rfl, hH, _, rfl, ite2 (fun c => ?_) fun c => ?_⟩
    · have c1 : s.accounts.length ≤ a := of_decide_eq_true c
      exact ⟨_, rfl, (by show 1 ≤ sizeLine; decide), one_number hH (at_none c1) q⟩
    · have c1 : ¬ s.accounts.length ≤ a := fun z => c (decide_eq_true z)
      obtain ⟨x, d, ac, hp, ha, hA, hw, hv⟩ := hH.acc hW c1
      have e0 : s.step (.clear a) = ({ s with accounts := s.accounts.set a Sq39.empty }, Sq39.says 0) := at_some ha
      rw [e0] at q
      refine ⟨_, rfl, h, dh, _, rfl, hh, hF_no (by decide +kernel), _, rfl, nl, _, _, _, rfl, rfl, SqL.of hN, atI_nat (j := 0) rfl, h, l, ps, s, a, rfl, hH, by omega, fun H1 ps1 hH1 g => ?_⟩
      refine ⟨(by show 1 ≤ sizeLine; decide), fun p hpn => ?_⟩
      exact q _ l ps1 p (same_house hH1 (same_new hpn)) (goes_same g (same_new hpn)) upd_same fun b o e hb => ne_of_none (g.2 b o e hb) hpn
end
/-! rank -/
section
variable {P : Program} {w : World} {K : PySem.W.Frag} {mg : Str → Option Value} {base : Heap} {CH C : Addr} {fN fTell fJoin fTake fFloor fCount fGive fBoth fOf fHB fHI fL fM : Addr} {dN dTell dJoin dTake dFloor dCount dGive dBoth dOf dHB dHI dL dM : FuncData}
  {fEnd fBegin fTold fEnds fIn fLo fHi fMid fGcd : Addr} {dEnd dBegin dTold dEnds dIn dLo dHi dMid dGcd : FuncData}
theorem scARank : FnScope ["house", "numbers", "account"] ["house", "numbers"] (defScope sARank) := ⟨rfl, rfl, rfl, by decide +kernel, rfl, by decide +kernel, by decide +kernel⟩
theorem oV_rank (r : Nat) (l : List Nat) : oV ⟨(r : Int), Sq39.ints l⟩ = nV (r :: l) := by
  unfold oV nV Sq39.ints
  rw [List.map_cons, List.map_map, List.map_cons]
  rfl
theorem ok_arank {f : Addr} {fd : FuncData} (F : Fun K "answer_rank" "answer_rank" sARank f fd) (D : Md K mg CH C fN fTell fJoin fTake fFloor fCount fGive fBoth fOf fHB fHI fL fM dN dTell dJoin dTake dFloor dCount dGive dBoth dOf dHB dHI dL dM)
    (R : Rk K mg fEnd fBegin fTold fEnds fIn fLo fHi fMid fGcd dEnd dBegin dTold dEnds dIn dLo dHi dMid dGcd) (TH : TxtH K mg CH) (T : Txt K mg C) :
    FnOk P w K mg base CX0 6 f fd ["house", "numbers"] (spA CH C mkRank) := by
  have GL : FnOk P w K mg base CX0 1 fL dL ["self", "number"] (spLacks CH C) := ok_lacks D.FL TH T
  have GR : FnOk P w K mg base CX0 5 fTold dTold ["account", "rank"] (spTold C) := ok_told R T
  refine F.ok scARank (fun vs H Q E h => ?_) (fun cdv A outer s H vs Q E hr h => ?_)
  · obtain ⟨h, l, nl, ps, s, ns, c, rfl, _⟩ := h
    rfl
  · obtain ⟨h, l, nl, ps, s, ns, c, rfl, hH, hW, hN, hc, hb, q⟩ := h
    obtain ⟨a, r, rfl, rfl⟩ := ofRank hc
    have hr1 : Room 1 _ := hr.mono (by decide)
    refine ⟨_, pss_cons (ps_if (pt_val (pe_meth (pv 0) TH.cl D.mL GL hr1 D.bL .nil pass0 (pa_cons (pe_ix ix_list (pv 1) pe_int (fun _ _ => rfl)) pa_nil))) (pss_one (ps_ret (pe_lst (pa_cons (pe_un un_neg pe_int) pa_nil)))) pss_nil)
      (pss_cons (ps_set (i := 2) scARank.nd rfl (Or.inl rfl) (pe_ix ix_list (pe_fld (pv 0) rfl) (pe_ix ix_list (pv 1) pe_int (fun _ _ => rfl)) (fun _ _ => rfl)))
      (pss_cons (ps_if (pt_cmpR op_ge (pe_ix ix_list (pv 1) pe_int (fun _ _ => rfl)) (pe_fld (pv 2) rfl) (nomark _)) (pss_one (ps_ret (pe_lst (pa_cons (pe_un un_neg pe_int) pa_nil)))) pss_nil)
      (pss_one (ps_ret (pe_call GR hr rfl R.mTold R.FTold.kp R.bTold .nil pass0 (pa_cons (pv 2) (pa_cons (pe_ix ix_list (pv 1) pe_int (fun _ _ => rfl)) pa_nil))))))), ?_⟩
    obtain ⟨dh, hh⟩ := hH.ex
    refine ⟨_, rfl, h, dh, _, rfl, hh, hF_no (by decide +kernel), _, rfl, nl, _, _, _, rfl, rfl, SqL.of hN, atI_nat (j := 0) rfl, h, l, ps, s, a, rfl, hH, _, rfl, ite2 (fun c => ?_) fun c => ?_⟩
    · have c1 : s.accounts.length ≤ a := of_decide_eq_true c
      exact ⟨_, rfl, (by show 1 ≤ sizeLine; decide), one_number hH (at_none c1) q⟩
    · have c1 : ¬ s.accounts.length ≤ a := fun z => c (decide_eq_true z)
      obtain ⟨x, d, ac, hp, ha, hA, hw, hv⟩ := hH.acc hW c1
      obtain ⟨dx, hx⟩ := hA.ex
      refine ⟨_, rfl, h, CH, dh, _, _, rfl, hh, TH.cl, TH.nAccounts, hF_accounts, _, rfl, nl, _, _, _, rfl, rfl, SqL.of hN, atI_nat (j := 0) rfl, l, _, _, _, rfl, rfl, SqL.of hH.lst, atI_nat hv, ?_⟩
      refine ⟨_, rfl, nl, _, _, _, rfl, rfl, SqL.of hN, atI_nat (j := 1) rfl, _, rfl, x, C, dx, _, _, rfl, hx, T.cl, T.nTotal, aF_total, _, _, rfl, rfl, _, rfl, ite2 (fun c2 => ?_) fun c2 => ?_⟩
      · have c3 : ac.n ≤ r := by
          have z : (ac.n : Int) ≤ (r : Int) := of_decide_eq_true c2
          omega
        have e0 : s.step (.rank a r) = (s, Sq39.says (-3)) := (at_some ha).trans (by rw [rank_none c3])
        exact ⟨_, rfl, (by show 1 ≤ sizeLine; decide), one_number hH e0 q⟩
      · have c3 : r < ac.n := Nat.lt_of_not_le fun z => c2 (decide_eq_true (by omega))
        have e0 : s.step (.rank a r) = (s, ⟨(r : Int), Sq39.ints (Sq39.between (endsOf ac s.fine r))⟩) := (at_some ha).trans (by rw [rank_some hw c3])
        rw [e0] at q
        refine ⟨_, rfl, _, rfl, nl, _, _, _, rfl, rfl, SqL.of hN, atI_nat (j := 1) rfl, x, d, s.fine, s.most, r, ac, rfl, hA, hw, hW.k3, hW.k40, c3, fun H1 p hpn hp1 s1 => ?_⟩
        exact q H1 l ps p (same_house hH s1) (same_goes s1) (by rw [oV_rank]; exact hp1) fun b o e _ => ne_of_none e hpn
end
end Wb
namespace Wb
open PySem PySem.Spec PyProof.Rows L2
def mkPart : List Nat → Option Sq39.Call
  | [a, b, c] => some (.part a b c)
  | _ => none
def mkUpTo : List Nat → Option Sq39.Call
  | [a, b] => some (.upTo a b)
  | _ => none
def mkAccount : List Nat → Option Sq39.Call
  | [a] => some (.account a)
  | _ => none
def mkBuckets : List Nat → Option Sq39.Call
  | [a] => some (.buckets a)
  | _ => none
def mkEdges : List Nat → Option Sq39.Call
  | [a] => some (.edges a)
  | _ => none
theorem ofPart {ns : List Nat} {c : Sq39.Call} (h : mkPart ns = some c) : ∃ a b d, ns = [a, b, d] ∧ .part a b d = c := by
  unfold mkPart at h
  split at h
  · exact ⟨_, _, _, rfl, Option.some.inj h⟩
  · cases h
theorem ofUpTo {ns : List Nat} {c : Sq39.Call} (h : mkUpTo ns = some c) : ∃ a b, ns = [a, b] ∧ .upTo a b = c := by
  unfold mkUpTo at h
  split at h
  · exact ⟨_, _, rfl, Option.some.inj h⟩
  · cases h
theorem ofAccount {ns : List Nat} {c : Sq39.Call} (h : mkAccount ns = some c) : ∃ a, ns = [a] ∧ .account a = c := by
  unfold mkAccount at h
  split at h
  · exact ⟨_, rfl, Option.some.inj h⟩
  · cases h
theorem ofBuckets {ns : List Nat} {c : Sq39.Call} (h : mkBuckets ns = some c) : ∃ a, ns = [a] ∧ .buckets a = c := by
  unfold mkBuckets at h
  split at h
  · exact ⟨_, rfl, Option.some.inj h⟩
  · cases h
theorem ofEdges {ns : List Nat} {c : Sq39.Call} (h : mkEdges ns = some c) : ∃ a, ns = [a] ∧ .edges a = c := by
  unfold mkEdges at h
  split at h
  · exact ⟨_, rfl, Option.some.inj h⟩
  · cases h
section
variable {P : Program} {w : World} {K : PySem.W.Frag} {mg : Str → Option Value} {base : Heap} {CH C : Addr} {fN fTell fJoin fTake fFloor fCount fGive fBoth fOf fHB fHI fL fM : Addr} {dN dTell dJoin dTake dFloor dCount dGive dBoth dOf dHB dHI dL dM : FuncData}
  {fEnd fBegin fTold fEnds fIn fLo fHi fMid fGcd : Addr} {dEnd dBegin dTold dEnds dIn dLo dHi dMid dGcd : FuncData}
/-! part -/
theorem scAPart : FnScope ["house", "numbers", "part", "whole", "account"] ["house", "numbers"] (defScope sAPart) := ⟨rfl, rfl, rfl, by decide +kernel, rfl, by decide +kernel, by decide +kernel⟩
theorem part_in {p q n : Nat} (hp : p ≤ q) (hn : n ≠ 0) : p * (n - 1) / q < n := by
  have h1 : p * (n - 1) / q ≤ n - 1 := Nat.div_le_of_le_mul (Nat.mul_le_mul_right _ hp)
  omega
theorem part_num {p q n : Nat} (hn : n ≠ 0) : (p : Int) * ((n : Int) - 1) / (q : Int) = ((p * (n - 1) / q : Nat) : Int) := by
  have e : ((n : Int) - 1) = ((n - 1 : Nat) : Int) := by omega
  rw [e, ← Int.natCast_mul, ← Int.natCast_ediv]
theorem ok_apart {f : Addr} {fd : FuncData} (F : Fun K "answer_part" "answer_part" sAPart f fd) (D : Md K mg CH C fN fTell fJoin fTake fFloor fCount fGive fBoth fOf fHB fHI fL fM dN dTell dJoin dTake dFloor dCount dGive dBoth dOf dHB dHI dL dM)
    (R : Rk K mg fEnd fBegin fTold fEnds fIn fLo fHi fMid fGcd dEnd dBegin dTold dEnds dIn dLo dHi dMid dGcd) (TH : TxtH K mg CH) (T : Txt K mg C) :
    FnOk P w K mg base CX0 6 f fd ["house", "numbers"] (spA CH C mkPart) := by
  have GL : FnOk P w K mg base CX0 1 fL dL ["self", "number"] (spLacks CH C) := ok_lacks D.FL TH T
  have GR : FnOk P w K mg base CX0 5 fTold dTold ["account", "rank"] (spTold C) := ok_told R T
  refine F.ok scAPart (fun vs H Q E h => ?_) (fun cdv A outer s H vs Q E hr h => ?_)
  · obtain ⟨h, l, nl, ps, s, ns, c, rfl, _⟩ := h
    rfl
  · obtain ⟨h, l, nl, ps, s, ns, c, rfl, hH, hW, hN, hc, hb, q⟩ := h
    obtain ⟨a, p, w, rfl, rfl⟩ := ofPart hc
    have hp64 : p < 2 ^ 64 := hb p (by simp)
    have hw64 : w < 2 ^ 64 := hb w (by simp)
    have hr1 : Room 1 _ := hr.mono (by decide)
    refine ⟨_, pss_cons (ps_set (i := 2) scAPart.nd rfl (Or.inl rfl) (pe_ix ix_list (pv 1) pe_int (fun _ _ => rfl))) (pss_cons (ps_set (i := 3) scAPart.nd rfl (Or.inl rfl) (pe_ix ix_list (pv 1) pe_int (fun _ _ => rfl)))
      (pss_cons (ps_if (pt_val (pe_meth (pv 0) TH.cl D.mL GL hr1 D.bL .nil pass0 (pa_cons (pe_ix ix_list (pv 1) pe_int (fun _ _ => rfl)) pa_nil))) (pss_one (ps_ret (pe_lst (pa_cons (pe_un un_neg pe_int) pa_nil)))) pss_nil)
      (pss_cons (ps_if (PW.pt (pw_or (pt_cmpR op_eq (pv 3) pe_int (nomark _)) (pw_or1 (pt_cmpR op_gt (pv 2) (pv 3) (nomark _))))) (pss_one (ps_ret (pe_lst (pa_cons (pe_un un_neg pe_int) pa_nil)))) pss_nil)
      (pss_cons (ps_set (i := 4) scAPart.nd rfl (Or.inl rfl) (pe_ix ix_list (pe_fld (pv 0) rfl) (pe_ix ix_list (pv 1) pe_int (fun _ _ => rfl)) (fun _ _ => rfl)))
      (pss_cons (ps_if (pt_cmpR op_eq (pe_fld (pv 4) rfl) pe_int (nomark _)) (pss_one (ps_ret (pe_lst (pa_cons (pe_un un_neg pe_int) pa_nil)))) pss_nil)
      (pss_one (ps_ret (pe_call GR hr rfl R.mTold R.FTold.kp R.bTold .nil pass0 (pa_cons (pv 4) (pa_cons (pe_op op_fdivW (pe_op op_mul (pv 2) (pe_op op_sub (pe_fld (pv 4) rfl) pe_int)) (pv 3)) pa_nil)))))))))), ?_⟩
    obtain ⟨dh, hh⟩ := hH.ex
    refine ⟨_, rfl, nl, _, _, _, rfl, rfl, SqL.of hN, atI_nat (j := 1) rfl, ?_⟩
    refine ⟨_, rfl, nl, _, _, _, rfl, rfl, SqL.of hN, atI_nat (j := 2) rfl, ?_⟩
    refine ⟨_, rfl, h, dh, _, rfl, hh, hF_no (by decide +kernel), _, rfl, nl, _, _, _, rfl, rfl, SqL.of hN, atI_nat (j := 0) rfl, h, l, ps, s, a, rfl, hH, _, rfl, ite2 (fun c => ?_) fun c => ?_⟩
    · have c1 : s.accounts.length ≤ a := of_decide_eq_true c
      exact ⟨_, rfl, (by show 1 ≤ sizeLine; decide), one_number hH (at_none c1) q⟩
    · have c1 : ¬ s.accounts.length ≤ a := fun z => c (decide_eq_true z)
      obtain ⟨x, d, ac, hp, ha, hA, hw, hv⟩ := hH.acc hW c1
      obtain ⟨dx, hx⟩ := hA.ex
      have bad : (w = 0 ∨ w < p) → s.step (.part a p w) = (s, Sq39.says (-1)) := fun z => (at_some ha).trans (if_pos z)
      refine ⟨_, rfl, rfl, _, rfl, ite2 (fun c2 => ?_) fun c2 => ?_⟩
      · have e0 : w = 0 := int0.mp (of_decide_eq_true c2)
        exact iteT ⟨_, rfl, (by show 1 ≤ sizeLine; decide), one_number hH (bad (Or.inl e0)) q⟩
      · have e0 : w ≠ 0 := fun z => c2 (decide_eq_true (int0.mpr z))
        refine ⟨_, rfl, _, rfl, _, _, rfl, rfl, _, rfl, ite2 (fun c3 => ?_) fun c3 => ?_⟩
        · have e1 : (w : Int) < (p : Int) := of_decide_eq_true c3
          exact ⟨_, rfl, (by show 1 ≤ sizeLine; decide), one_number hH (bad (Or.inr (by omega))) q⟩
        · have e1 : ¬ (w : Int) < (p : Int) := fun z => c3 (decide_eq_true z)
          have e2 : s.step (.part a p w) = match ac.rank s.fine (p * (ac.n - 1) / w) with
              | none => (s, Sq39.says (-3))
              | some y => (s, ⟨((p * (ac.n - 1) / w : Nat) : Int), Sq39.ints (Sq39.between y)⟩) := (at_some ha).trans (if_neg (by omega))
          refine ⟨_, rfl, h, CH, dh, _, _, rfl, hh, TH.cl, TH.nAccounts, hF_accounts, _, rfl, nl, _, _, _, rfl, rfl, SqL.of hN, atI_nat (j := 0) rfl, l, _, _, _, rfl, rfl, SqL.of hH.lst, atI_nat hv, ?_⟩
          refine ⟨_, rfl, x, C, dx, _, _, rfl, hx, T.cl, T.nTotal, aF_total, rfl, _, rfl, ite2 (fun c4 => ?_) fun c4 => ?_⟩
          · have e3 : ac.n = 0 := int0.mp (of_decide_eq_true c4)
            have e4 : s.step (.part a p w) = (s, Sq39.says (-3)) := by
              rw [e2, rank_none (by rw [e3]; exact Nat.zero_le _)]
            exact ⟨_, rfl, (by show 1 ≤ sizeLine; decide), one_number hH e4 q⟩
          · have e3 : ac.n ≠ 0 := fun z => c4 (decide_eq_true (int0.mpr z))
            have hlt := part_in (p := p) (q := w) (by omega) e3
            rw [rank_some hw hlt] at e2
            dsimp only at e2
            rw [e2] at q
            have cm : CMul (p : Int) ((ac.n : Int) - 1) := Or.inl ⟨by omega, by omega⟩
            have cd : CDivW ((p : Int) * ((ac.n : Int) - 1)) (w : Int) := wide_div (b := 64) (by omega) (by rw [Int.natAbs_natCast]; exact hw64) (by decide) (by decide)
            refine ⟨_, rfl, _, rfl, _, rfl, x, C, dx, _, _, rfl, hx, T.cl, T.nTotal, aF_total, _, _, rfl, rfl, _, _, rfl, rfl, cm, _, rfl, _, _, rfl, rfl, cd, ?_⟩
            refine ⟨x, d, s.fine, s.most, p * (ac.n - 1) / w, ac, ?_, hA, hw, hW.k3, hW.k40, hlt, fun H1 pn hpn hp1 s1 => ?_⟩
            · show [V.ref x, V.int ((p : Int) * ((ac.n : Int) - 1) / (w : Int))] = _
              rw [part_num e3]
            · exact q H1 l ps pn (same_house hH s1) (same_goes s1) (by rw [oV_rank]; exact hp1) fun b o e _ => ne_of_none e hpn
/-! up to -/
theorem scAUpTo : FnScope ["house", "numbers"] ["house", "numbers"] (defScope sAUpTo) := ⟨rfl, rfl, rfl, by decide +kernel, rfl, by decide +kernel, by decide +kernel⟩
theorem ok_aupTo {f fU : Addr} {fd dU : FuncData} (F : Fun K "answer_up_to" "answer_up_to" sAUpTo f fd) (D : Md K mg CH C fN fTell fJoin fTake fFloor fCount fGive fBoth fOf fHB fHI fL fM dN dTell dJoin dTake dFloor dCount dGive dBoth dOf dHB dHI dL dM)
    (R : Rk K mg fEnd fBegin fTold fEnds fIn fLo fHi fMid fGcd dEnd dBegin dTold dEnds dIn dLo dHi dMid dGcd) (TH : TxtH K mg CH) (T : Txt K mg C)
    (FU : Fun K "told_up_to" "told_up_to" sUpTo fU dU) (bU : Binds K dU ["account", "value"] []) (mU : mg "told_up_to" = some (.ref fU)) :
    FnOk P w K mg base CX0 5 f fd ["house", "numbers"] (spA CH C mkUpTo) := by
  have GL : FnOk P w K mg base CX0 1 fL dL ["self", "number"] (spLacks CH C) := ok_lacks D.FL TH T
  have GU : FnOk P w K mg base CX0 4 fU dU ["account", "value"] (spUpTo C) := ok_upTo FU R T
  refine F.ok scAUpTo (fun vs H Q E h => ?_) (fun cdv A outer s H vs Q E hr h => ?_)
  · obtain ⟨h, l, nl, ps, s, ns, c, rfl, _⟩ := h
    rfl
  · obtain ⟨h, l, nl, ps, s, ns, c, rfl, hH, hW, hN, hc, hb, q⟩ := h
    obtain ⟨a, v, rfl, rfl⟩ := ofUpTo hc
    have hr1 : Room 1 _ := hr.mono (by decide)
    refine ⟨_, pss_cons (ps_if (pt_val (pe_meth (pv 0) TH.cl D.mL GL hr1 D.bL .nil pass0 (pa_cons (pe_ix ix_list (pv 1) pe_int (fun _ _ => rfl)) pa_nil))) (pss_one (ps_ret (pe_lst (pa_cons (pe_un un_neg pe_int) pa_nil)))) pss_nil)
      (pss_one (ps_ret (pe_call GU hr rfl mU FU.kp bU .nil pass0 (pa_cons (pe_ix ix_list (pe_fld (pv 0) rfl) (pe_ix ix_list (pv 1) pe_int (fun _ _ => rfl)) (fun _ _ => rfl)) (pa_cons (pe_ix ix_list (pv 1) pe_int (fun _ _ => rfl)) pa_nil))))), ?_⟩
    obtain ⟨dh, hh⟩ := hH.ex
    refine ⟨_, rfl, h, dh, _, rfl, hh, hF_no (by decide +kernel), _, rfl, nl, _, _, _, rfl, rfl, SqL.of hN, atI_nat (j := 0) rfl, h, l, ps, s, a, rfl, hH, _, rfl, ite2 (fun c => ?_) fun c => ?_⟩
    · have c1 : s.accounts.length ≤ a := of_decide_eq_true c
      exact ⟨_, rfl, (by show 1 ≤ sizeLine; decide), one_number hH (at_none c1) q⟩
    · have c1 : ¬ s.accounts.length ≤ a := fun z => c (decide_eq_true z)
      obtain ⟨x, d, ac, hp, ha, hA, hw, hv⟩ := hH.acc hW c1
      have e0 : s.step (.upTo a v) = (s, ⟨((ac.upTo s.fine v).1 : Int), [((ac.upTo s.fine v).2 : Int)]⟩) := at_some ha
      rw [e0] at q
      refine ⟨_, rfl, h, CH, dh, _, _, rfl, hh, TH.cl, TH.nAccounts, hF_accounts, _, rfl, nl, _, _, _, rfl, rfl, SqL.of hN, atI_nat (j := 0) rfl, l, _, _, _, rfl, rfl, SqL.of hH.lst, atI_nat hv,
        _, rfl, nl, _, _, _, rfl, rfl, SqL.of hN, atI_nat (j := 1) rfl, x, d, s.fine, s.most, v, ac, rfl, hA, hw, hW.k3, hW.k40, fun H1 pn hpn hp1 s1 => ?_⟩
      exact q H1 l ps pn (same_house hH s1) (same_goes s1) hp1 fun b o e _ => ne_of_none e hpn
/-! account -/
theorem scAAccount : FnScope ["house", "numbers", "account", "cut"] ["house", "numbers"] (defScope sAAccount) := ⟨rfl, rfl, rfl, by decide +kernel, rfl, by decide +kernel, by decide +kernel⟩
theorem ok_aaccount {f : Addr} {fd : FuncData} (F : Fun K "answer_account" "answer_account" sAAccount f fd) (D : Md K mg CH C fN fTell fJoin fTake fFloor fCount fGive fBoth fOf fHB fHI fL fM dN dTell dJoin dTake dFloor dCount dGive dBoth dOf dHB dHI dL dM) (TH : TxtH K mg CH) (T : Txt K mg C) :
    FnOk P w K mg base CX0 2 f fd ["house", "numbers"] (spA CH C mkAccount) := by
  have GL : FnOk P w K mg base CX0 1 fL dL ["self", "number"] (spLacks CH C) := ok_lacks D.FL TH T
  refine F.ok scAAccount (fun vs H Q E h => ?_) (fun cdv A outer s H vs Q E hr h => ?_)
  · obtain ⟨h, l, nl, ps, s, ns, c, rfl, _⟩ := h
    rfl
  · obtain ⟨h, l, nl, ps, s, ns, c, rfl, hH, hW, hN, hc, hb, q⟩ := h
    obtain ⟨a, rfl, rfl⟩ := ofAccount hc
    refine ⟨_, pss_cons (ps_if (pt_val (pe_meth (pv 0) TH.cl D.mL GL hr D.bL .nil pass0 (pa_cons (pe_ix ix_list (pv 1) pe_int (fun _ _ => rfl)) pa_nil))) (pss_one (ps_ret (pe_lst (pa_cons (pe_un un_neg pe_int) pa_nil)))) pss_nil)
      (pss_cons (ps_set (i := 2) scAAccount.nd rfl (Or.inl rfl) (pe_ix ix_list (pe_fld (pv 0) rfl) (pe_ix ix_list (pv 1) pe_int (fun _ _ => rfl)) (fun _ _ => rfl)))
      (pss_cons (ps_set (i := 3) scAAccount.nd rfl (Or.inl rfl) (pe_ifExp (pt_val (pe_fld (pv 2) rfl)) pe_int pe_int))
      (pss_one (ps_ret (pe_lst (pa_cons (pe_fld (pv 2) rfl) (pa_cons (pe_fld (pv 2) rfl) (pa_cons (pe_fld (pv 2) rfl) (pa_cons (pe_fld (pv 2) rfl) (pa_cons (pe_fld (pv 2) rfl) (pa_cons (pv 3) pa_nil))))))))))), ?_⟩
    obtain ⟨dh, hh⟩ := hH.ex
    refine ⟨_, rfl, h, dh, _, rfl, hh, hF_no (by decide +kernel), _, rfl, nl, _, _, _, rfl, rfl, SqL.of hN, atI_nat (j := 0) rfl, h, l, ps, s, a, rfl, hH, _, rfl, ite2 (fun c => ?_) fun c => ?_⟩
    · have c1 : s.accounts.length ≤ a := of_decide_eq_true c
      exact ⟨_, rfl, (by show 1 ≤ sizeLine; decide), one_number hH (at_none c1) q⟩
    · have c1 : ¬ s.accounts.length ≤ a := fun z => c (decide_eq_true z)
      obtain ⟨x, d, ac, hp, ha, hA, hw, hv⟩ := hH.acc hW c1
      obtain ⟨dx, hx⟩ := hA.ex
      have e0 : s.step (.account a) = (s, ⟨(ac.n : Int), Sq39.ints [ac.zeros, ac.sum, ac.least, ac.most, if ac.cut = true then 1 else 0]⟩) := at_some ha
      rw [e0] at q
      refine ⟨_, rfl, h, CH, dh, _, _, rfl, hh, TH.cl, TH.nAccounts, hF_accounts, _, rfl, nl, _, _, _, rfl, rfl, SqL.of hN, atI_nat (j := 0) rfl, l, _, _, _, rfl, rfl, SqL.of hH.lst, atI_nat hv, ?_⟩
      have fin : ∀ z : Nat, z = (if ac.cut = true then 1 else 0) → ∀ p, H p = none → Q (.ref p) (upd H p (.lst [.int (ac.n : Int), .int (ac.zeros : Int), .int (ac.sum : Int), .int (ac.least : Int), .int (ac.most : Int), .int (z : Int)])) := by
        rintro z rfl p hpn
        exact q _ l ps p (same_house hH (same_new hpn)) (same_goes (same_new hpn)) upd_same fun b o e _ => ne_of_none e hpn
      refine ⟨_, rfl, x, C, dx, _, _, rfl, hx, T.cl, T.nCut, aF_cut, _, rfl, ite2 (fun c2 => ?_) fun c2 => ?_⟩
      · refine ⟨_, rfl, x, C, dx, _, _, rfl, hx, T.cl, T.nTotal, aF_total, _, rfl, x, C, dx, _, _, rfl, hx, T.cl, T.nZeros, aF_zeros, _, rfl, x, C, dx, _, _, rfl, hx, T.cl, T.nAmount, aF_amount,
          _, rfl, x, C, dx, _, _, rfl, hx, T.cl, T.nLeast, aF_least, _, rfl, x, C, dx, _, _, rfl, hx, T.cl, T.nGreatest, aF_greatest, _, rfl, (by show 6 ≤ sizeLine; decide), ?_⟩
        exact fin 1 (by rw [if_pos c2])
      · refine ⟨_, rfl, x, C, dx, _, _, rfl, hx, T.cl, T.nTotal, aF_total, _, rfl, x, C, dx, _, _, rfl, hx, T.cl, T.nZeros, aF_zeros, _, rfl, x, C, dx, _, _, rfl, hx, T.cl, T.nAmount, aF_amount,
          _, rfl, x, C, dx, _, _, rfl, hx, T.cl, T.nLeast, aF_least, _, rfl, x, C, dx, _, _, rfl, hx, T.cl, T.nGreatest, aF_greatest, _, rfl, (by show 6 ≤ sizeLine; decide), ?_⟩
        exact fin 0 (by rw [if_neg c2])
/-! edges -/
theorem scAEdges : FnScope ["house", "numbers", "number", "end"] ["house", "numbers"] (defScope sAEdges) := ⟨rfl, rfl, rfl, by decide +kernel, rfl, by decide +kernel, by decide +kernel⟩
theorem ok_aedges {f : Addr} {fd : FuncData} {tL tE : Tok} (F : Fun K "answer_edges" "answer_edges" sAEdges f fd)
    (R : Rk K mg fEnd fBegin fTold fEnds fIn fLo fHi fMid fGcd dEnd dBegin dTold dEnds dIn dLo dHi dMid dGcd) (TH : TxtH K mg CH) (T : Txt K mg C)
    (mL : mg "LAST_BUCKET" = some (.int 1000 tL)) (mE : mg "GREATEST_END" = some (.int 1000000000000000000 tE)) :
    FnOk P w K mg base CX0 3 f fd ["house", "numbers"] (spA CH C mkEdges) := by
  have GE : FnOk P w K mg base CX0 1 fEnd dEnd ["fineness", "number"] spEnd := ok_end R.FEnd T.range
  have GB : FnOk P w K mg base CX0 2 fBegin dBegin ["fineness", "number"] spBegin := ok_begin R.FBegin R.FEnd R.bEnd R.mEnd T.range
  refine F.ok scAEdges (fun vs H Q E h => ?_) (fun cdv A outer s H vs Q E hr h => ?_)
  · obtain ⟨h, l, nl, ps, s, ns, c, rfl, _⟩ := h
    rfl
  · obtain ⟨h, l, nl, ps, s, ns, c, rfl, hH, hW, hN, hc, hb, q⟩ := h
    obtain ⟨i, rfl, rfl⟩ := ofEdges hc
    have hr1 : Room 1 _ := hr.mono (by decide)
    refine ⟨_, pss_cons (ps_set (i := 2) scAEdges.nd rfl (Or.inl rfl) (pe_ix ix_list (pv 1) pe_int (fun _ _ => rfl)))
      (pss_cons (ps_if (pt_cmpR op_gt (pv 2) (pe_glob (v := .int 1000) rfl mL ⟨_, rfl⟩) (nomark _)) (pss_one (ps_ret (pe_lst (pa_cons (pe_un un_neg pe_int) pa_nil)))) pss_nil)
      (pss_cons (ps_set (i := 3) scAEdges.nd rfl (Or.inl rfl) (pe_call GE hr1 rfl R.mEnd R.FEnd.kp R.bEnd .nil pass0 (pa_cons (pe_fld (pv 0) rfl) (pa_cons (pv 2) pa_nil))))
      (pss_cons (ps_if (pt_cmpR op_gt (pv 3) (pe_glob (v := .int 1000000000000000000) rfl mE ⟨_, rfl⟩) (nomark _)) (pss_one (ps_ret (pe_lst (pa_cons (pe_un un_neg pe_int) pa_nil)))) pss_nil)
      (pss_one (ps_ret (pe_lst (pa_cons (pe_call GB hr rfl R.mBegin R.FBegin.kp R.bBegin .nil pass0 (pa_cons (pe_fld (pv 0) rfl) (pa_cons (pv 2) pa_nil))) (pa_cons (pv 3) pa_nil)))))))), ?_⟩
    obtain ⟨dh, hh⟩ := hH.ex
    have bad : (Sq39.MANY < i ∨ 10 ^ 18 < Sq39.top s.fine i) → s.step (.edges i) = (s, Sq39.says (-1)) := fun z => if_pos z
    refine ⟨_, rfl, nl, _, _, _, rfl, rfl, SqL.of hN, atI_nat (j := 0) rfl, ?_⟩
    refine ⟨_, rfl, _, _, rfl, rfl, _, rfl, ite2 (fun c => ?_) fun c => ?_⟩
    · have c1 : (1000 : Int) < (i : Int) := of_decide_eq_true c
      exact ⟨_, rfl, (by show 1 ≤ sizeLine; decide), one_number hH (bad (Or.inl (by unfold Sq39.MANY; omega))) q⟩
    · have c1 : ¬ (1000 : Int) < (i : Int) := fun z => c (decide_eq_true z)
      refine ⟨_, rfl, h, CH, dh, _, _, rfl, hh, TH.cl, TH.nFine, hF_fine, _, rfl, s.fine, i, rfl, hW.k3, hW.k40, by omega, ?_⟩
      refine ⟨_, rfl, _, _, rfl, rfl, _, rfl, ite2 (fun c2 => ?_) fun c2 => ?_⟩
      · have c3 : (1000000000000000000 : Int) < (Sq39.top s.fine i : Int) := of_decide_eq_true c2
        exact ⟨_, rfl, (by show 1 ≤ sizeLine; decide), one_number hH (bad (Or.inr (by omega))) q⟩
      · have c3 : ¬ (1000000000000000000 : Int) < (Sq39.top s.fine i : Int) := fun z => c2 (decide_eq_true z)
        have e0 : s.step (.edges i) = (s, ⟨(Sq39.bottom s.fine i : Int), [(Sq39.top s.fine i : Int)]⟩) := if_neg (by unfold Sq39.MANY; omega)
        rw [e0] at q
        refine ⟨_, rfl, h, CH, dh, _, _, rfl, hh, TH.cl, TH.nFine, hF_fine, _, rfl, s.fine, i, rfl, hW.k3, hW.k40, by omega, _, rfl, (by show 2 ≤ sizeLine; decide), fun p hpn => ?_⟩
        exact q _ l ps p (same_house hH (same_new hpn)) (same_goes (same_new hpn)) upd_same fun b o e _ => ne_of_none e hpn
end
end Wb
namespace Wb
open PySem PySem.Spec PyProof.Rows L2
/-! buckets -/
def flatB (l : Bk) : List Nat := l.flatMap fun y => [y.1, y.2]
theorem flatB_snoc (l : Bk) (b : Nat × Nat) : flatB (l ++ [b]) = flatB l ++ [b.1, b.2] := by
  unfold flatB
  rw [List.flatMap_append]
  rfl
theorem flatB_len : ∀ l : Bk, (flatB l).length = 2 * l.length
  | [] => rfl
  | b :: l => by
    have ih := flatB_len l
    show (b.1 :: b.2 :: flatB l).length = 2 * (l.length + 1)
    rw [List.length_cons, List.length_cons, ih]
    omega
theorem nV_len (l : List Nat) : (nV l).length = l.length := by
  unfold nV
  rw [List.length_map]
theorem told_more (n : Nat) (l : Bk) (b : Nat × Nat) : nV (n :: flatB l) ++ [V.int (b.1 : Int)] ++ [V.int (b.2 : Int)] = nV (n :: flatB (l ++ [b])) := by
  rw [flatB_snoc]
  unfold nV
  rw [List.map_cons, List.map_cons, List.map_append, List.append_assoc]
  rfl
section
variable {P : Program} {w : World} {K : PySem.W.Frag} {mg : Str → Option Value} {base : Heap} {CH C : Addr} {fN fTell fJoin fTake fFloor fCount fGive fBoth fOf fHB fHI fL fM : Addr} {dN dTell dJoin dTake dFloor dCount dGive dBoth dOf dHB dHI dL dM : FuncData}
theorem scABuckets : FnScope ["house", "numbers", "counts", "told", "number"] ["house", "numbers"] (defScope sABuckets) := ⟨rfl, rfl, rfl, by decide +kernel, rfl, by decide +kernel, by decide +kernel⟩
theorem ok_abuckets {f : Addr} {fd : FuncData} (F : Fun K "answer_buckets" "answer_buckets" sABuckets f fd) (D : Md K mg CH C fN fTell fJoin fTake fFloor fCount fGive fBoth fOf fHB fHI fL fM dN dTell dJoin dTake dFloor dCount dGive dBoth dOf dHB dHI dL dM) (TH : TxtH K mg CH) (T : Txt K mg C) :
    FnOk P w K mg base CX0 2 f fd ["house", "numbers"] (spA CH C mkBuckets) := by
  have GL : FnOk P w K mg base CX0 1 fL dL ["self", "number"] (spLacks CH C) := ok_lacks D.FL TH T
  refine F.ok scABuckets (fun vs H Q E h => ?_) (fun cdv A outer s H vs Q E hr h => ?_)
  · obtain ⟨h, l, nl, ps, s, ns, c, rfl, _⟩ := h
    rfl
  · obtain ⟨h, l, nl, ps, s, ns, c, rfl, hH, hW, hN, hc, hb, q⟩ := h
    obtain ⟨a, rfl, rfl⟩ := ofBuckets hc
    have hu := hu_of hr
    refine ⟨_, pss_cons (ps_if (pt_val (pe_meth (pv 0) TH.cl D.mL GL hr D.bL .nil pass0 (pa_cons (pe_ix ix_list (pv 1) pe_int (fun _ _ => rfl)) pa_nil))) (pss_one (ps_ret (pe_lst (pa_cons (pe_un un_neg pe_int) pa_nil)))) pss_nil)
      (pss_cons (ps_set (i := 2) scABuckets.nd rfl (Or.inl rfl) (pe_fld (pe_ix ix_list (pe_fld (pv 0) rfl) (pe_ix ix_list (pv 1) pe_int (fun _ _ => rfl)) (fun _ _ => rfl)) rfl))
      (pss_cons (ps_set (i := 3) scABuckets.nd rfl (Or.inl rfl) (pe_lst (pa_cons (pe_callB call_lenD (by rfl) T.len PySem.boot_len (pa_cons (pv 2) pa_nil)) pa_nil)))
      (pss_cons (ps_for PassesOwn.never rfl (pi_list (pe_callB (sorted_tab rfl) (by rfl) T.sorted (by decide +kernel) (pa_cons (pv 2) pa_nil))) (pg_name (i := 4) scABuckets.nd rfl (Or.inl rfl))
        (pss_cons (ps_expr (pe_bm PySem.F.plainAttrs_list PySem.F.slot_list_append PySem.F.type_list_append mt_append (pv 3) (pa_cons (pv 4) pa_nil)))
        (pss_one (ps_expr (pe_bm PySem.F.plainAttrs_list PySem.F.slot_list_append PySem.F.type_list_append mt_append (pv 3) (pa_cons (pe_dget hu (pv 2) (pv 4) (fun _ _ => rfl)) pa_nil))))))
      (pss_one (ps_ret (pv 3)))))), ?_⟩
    obtain ⟨dh, hh⟩ := hH.ex
    refine ⟨_, rfl, h, dh, _, rfl, hh, hF_no (by decide +kernel), _, rfl, nl, _, _, _, rfl, rfl, SqL.of hN, atI_nat (j := 0) rfl, h, l, ps, s, a, rfl, hH, _, rfl, ite2 (fun c => ?_) fun c => ?_⟩
    · have c1 : s.accounts.length ≤ a := of_decide_eq_true c
      exact ⟨_, rfl, (by show 1 ≤ sizeLine; decide), one_number hH (at_none c1) q⟩
    · have c1 : ¬ s.accounts.length ≤ a := fun z => c (decide_eq_true z)
      obtain ⟨x, d, ac, hp, ha, hA, hw, hv⟩ := hH.acc hW c1
      obtain ⟨dx, hx⟩ := hA.ex
      obtain ⟨ds, hd, hpd⟩ := hA.tab
      have e0 : s.step (.buckets a) = (s, ⟨(ac.buckets.length : Int), Sq39.ints (flatB ac.buckets)⟩) := at_some ha
      rw [e0] at q
      refine ⟨_, rfl, h, CH, dh, _, _, rfl, hh, TH.cl, TH.nAccounts, hF_accounts, _, rfl, nl, _, _, _, rfl, rfl, SqL.of hN, atI_nat (j := 0) rfl, l, _, _, _, rfl, rfl, SqL.of hH.lst, atI_nat hv, x, C, dx, _, _, rfl, hx, T.cl, T.nCounts, aF_counts, ?_⟩
      refine ⟨_, rfl, d, _, rfl, hd, (by show 1 ≤ sizeLine; decide), fun t ht => ?_⟩
      have el : (dV ds).length = ac.buckets.length := by rw [dV_len, hpd.length_eq]
      rw [el]
      have s1 := same_new (o := .lst [.int (ac.buckets.length : Nat)]) ht
      refine ⟨_, rfl, d, ds, rfl, s1 _ _ hd, fun ys p hy1 hy2 hpn => ?_⟩
      have ey := sorted_keys hpd hA.srt hy1 hy2
      have e9 : ys.map V.int = nV (keys ac.buckets) := by
        rw [ey]
        unfold nV
        rw [List.map_map]
        rfl
      rw [e9]
      have s2 := same_new (o := .lst (nV (keys ac.buckets))) hpn
      have htp : t ≠ p := ne_of_none upd_same hpn
      have hp0 : H p = none := s1.free hpn
      have hlen := hw.len
      have h200 := hW.m200
      have big : (1000 : Nat) < sizeLine := by decide
      refine ⟨p, rfl, ⟨_, SqL.of upd_same⟩, for_list (K := K) (a := p) (xs := nV (keys ac.buckets)) (fun j σ H' => H' p = some (.lst (nV (keys ac.buckets))) ∧ H' t = some (.lst (nV (ac.buckets.length :: flatB (ac.buckets.take j)))) ∧ Same H H' ∧
          ∃ v4 : Option V, σ = [some (.ref h), some (.ref nl), some (.ref d), some (.ref t), v4])
        ⟨upd_same, s2 _ _ upd_same, s1.trans s2, none, rfl⟩ (fun j σ H' _ ⟨h1, _⟩ => SqL.of h1) ?_ ?_⟩
      · rintro j y σ H' hj ⟨hP, hT, sm, v4, rfl⟩
        obtain ⟨b, hb, rfl⟩ : ∃ b, ac.buckets[j]? = some b ∧ y = V.int (b.1 : Int) := by
          unfold nV keys at hj
          rw [List.map_map, List.getElem?_map] at hj
          cases e : ac.buckets[j]? with
          | none =>
            rw [e] at hj
            cases hj
          | some b =>
            rw [e] at hj
            exact ⟨b, rfl, (Option.some.inj hj).symm⟩
        have hvv : valV (dV ds) (Sum.inl (b.1 : Int)) = some (.int (b.2 : Int)) := by
          rw [valV_dV, dget_some (perm_keys_nodup hpd hA.srt) (show (b.1, b.2) ∈ ds from hpd.mem_iff.mpr (List.mem_of_getElem? hb))]
          rfl
        have lj : (nV (ac.buckets.length :: flatB (ac.buckets.take j))).length ≤ 500 := by
          rw [nV_len, List.length_cons, flatB_len, List.length_take]
          omega
        have htd : d ≠ t := ne_of_none hd ht
        refine ⟨_, rfl, .inl ⟨rfl, _, SqL.of hT⟩, _, rfl, t, _, _, rfl, rfl, hT, by omega, ?_⟩
        refine ⟨_, rfl, .inl ⟨rfl, _, SqL.of upd_same⟩, _, rfl, _, rfl, d, _, rfl, .inl ⟨dV ds, Sum.inl (b.1 : Int), .inl (by rw [upd_ne htd]; exact sm _ _ hd), rfl, hvv.symm⟩, t, _, _, rfl, rfl, upd_same, by rw [List.length_append]; show _ + 1 < sizeLine; omega, ?_⟩
        rw [upd_upd]
        refine ⟨by rw [upd_ne (Ne.symm htp)]; exact hP, ?_, fun b' o e => by rw [upd_ne (ne_of_none e ht)]; exact sm b' o e, some (.int (b.1 : Int)), rfl⟩
        rw [upd_same, told_more, take_more hb]
      · rintro σ H' ⟨hP, hT, sm, v4, rfl⟩
        have el2 : ac.buckets.take (nV (keys ac.buckets)).length = ac.buckets := by
          unfold nV keys
          rw [List.length_map, List.length_map, List.take_length]
        rw [el2] at hT
        refine ⟨_, rfl, ?_⟩
        exact q H' l ps t (same_house hH sm) (same_goes sm) (by rw [oV_rank]; exact hT) fun b o e _ => ne_of_none e ht
end
end Wb
namespace Wb
open PySem PySem.Spec PyProof.Rows L2
/-! ### two rules: an item of a written table with whole numbers as keys; a call of what stands in a place -/
def KeysInt : List DictEntry → Prop
  | [] => True
  | e :: r => (∃ i t, e.key = .int i t ∧ e.hash = hashInt i) ∧ KeysInt r
theorem KeysInt.all : ∀ {l : List DictEntry}, KeysInt l → ∀ e ∈ l, ∃ i t, e.key = .int i t ∧ e.hash = hashInt i
  | _ :: _, ⟨h, _⟩, _, .head _ => h
  | _ :: _, ⟨_, r⟩, _, .tail _ m => r.all _ m
def rTab (d : Addr) (es : Array DictEntry) : R2 := fun x y H Q => ∃ (i : Int) (v : V) (u : Value), x = .ref d ∧ y = .int i ∧ findBy Value.isInt es i = some u ∧ RelV v u ∧ Q v H
section
variable {X : Cx}
theorem ix_tab {d : Addr} {es : Array DictEntry} {n : Nat} (hl : X.K.lookup d = some ⟨.type "dict", none, .dict es n, #[]⟩) (hk : KeysInt es.toList) : IxR X (rTab d es) := by
  intro value slice pins s σ H x y v u Q I rx ry h hs
  obtain ⟨i, r, u0, rfl, rfl, e, ru, q⟩ := h
  obtain rfl : v = Value.ref d := rx
  obtain ⟨t, rfl⟩ := ry
  have hm : s.heap.MapOf (intKind X.prog X.w) d (fun k => findBy Value.isInt es k) := ⟨_, es, n, I.kIn _ _ hl, ⟨rfl, rfl, rfl⟩, rfl, fun e he => by
    obtain ⟨j, t, e1, e2⟩ := hk.all e (Array.mem_toList_iff.mpr he)
    exact ⟨j, by rw [e1]; exact intKind_is X.prog X.w j t, e2⟩, fun _ => rfl⟩
  exact tail_any hm.typeIs slot_dict_getitem.lookup (wpAny_getItem_of (intKind_is X.prog X.w i t) hm e ⟨r, H, I.tok _, ru, q⟩) hs
/-- the def at f keeps the promise, from any place -/
def Kept (P : Program) (w : World) (K : PySem.W.Frag) (mg : Str → Option Value) (base : Heap) (k : Nat) (f : Addr) (sp : Sp) : Prop :=
  ∃ (fd : FuncData) (ps : List Str), FnOk P w K mg base CX0 k f fd ps sp ∧ PySem.W.keepIn K (.ref f) = true ∧ Binds K fd ps []
def tCallAt (P : Program) (w : World) (K : PySem.W.Frag) (mg : Str → Option Value) (base : Heap) (k : Nat) (tf : TE) (t : TA) : TE := fun σ H Q => tf σ H fun x H1 => ∃ (f : Addr) (sp : Sp), x = .ref f ∧ Kept P w K mg base k f sp ∧ t σ H1 fun vs H2 => sp vs H2 Q E0
theorem pe_callAt {a b e : Expr} {es : List Expr} {p pos : Pos} {tf : TE} {t : TA} {k : Nat} (hf : PE X (.Subscript a b p) tf) (hr : Room k X.A) (ha : PA X (e :: es) t)
    (he : starEach (e :: es) X.env = (false, eval e X.env) :: starEach es X.env := by rfl) (hpl : (backTo pos (starEach es X.env)).any (·.1) = false := by rfl) :
    PE X (.Call (.Subscript a b p) (e :: es) [] pos) (tCallAt X.prog X.w X.K X.mg X.base k tf t) := by
  refine ⟨fun pins s σ H Q I h => ?_⟩
  have whole : eval (.Call (.Subscript a b p) (e :: es) [] pos) X.env = (do
      callWith pos (← eval (.Subscript a b p) X.env) [] (backTo pos (starEach (e :: es) X.env)) (backToKw pos (keywordEach [] X.env))) := rfl
  rw [whole]
  refine wpAny_bind (thn (hf.run pins s σ H _ I h) fun u s1 ⟨x, H1, I1, rx, f, sp, ex, ⟨fd, ps, F, hk, hb⟩, q⟩ => ?_)
  subst ex
  obtain rfl : u = Value.ref f := rx
  refine PySem.W.callWith_K (h₀ := X.base) I.ok.mod.kin hk (thn (ha.run pos pins s1 σ H1 _ I1 q) fun us s2 ⟨vs, H2, I2, r, q2⟩ => ⟨I2.kIn, ?_⟩) he hpl
  refine run_fn F hr hb .nil pass0 I2 r ?_
  rw [List.append_nil]
  exact q2
end
/-! ### the loop -/
/-- a row of the table of calls -/
structure Row (P : Program) (w : World) (K : PySem.W.Frag) (mg : Str → Option Value) (base : Heap) (CH C : Addr) (es : Array DictEntry) (p : Int) (n : Nat) : Prop where
  ex : ∃ (t f : Addr) (o : Obj) (its : Array Value) (nn : Nat) (mk : List Nat → Option Sq39.Call), findBy Value.isInt es p = some (.ref t) ∧ K.lookup t = some o ∧ o.cls = .type "tuple" ∧ o.data = .seq its nn ∧ its.size ≤ sizeLine ∧ Vals [.int (n : Int), .ref f] its.toList ∧
    Kept P w K mg base 6 f (spA CH C mk) ∧ StepIs p n mk
def iV (l : List Int) : List V := l.map V.int
theorem iV_nat (ms : List Nat) : iV (ms.map fun k : Nat => (k : Int)) = nV ms := by
  unfold iV nV
  rw [List.map_map]
  rfl
theorem cut_mid {ns : List Int} {a n : Nat} {p : Int} {r : List Int} (h : ns.drop a = p :: r) (hn : n ≤ r.length) : cutV (iV ns) (some ((a : Int) + 1)) (some ((a : Int) + 1 + (n : Int))) = iV (r.take n) := by
  have hl : a + 1 + r.length = ns.length := by
    have z := congrArg List.length h
    rw [List.length_drop, List.length_cons] at z
    omega
  have e1 : ((a : Int) + 1) = ((a + 1 : Nat) : Int) := by omega
  have e2 : ((a : Int) + 1 + (n : Int)) = ((a + 1 + n : Nat) : Int) := by omega
  unfold cutV
  rw [e2, e1, HT.sIx_nat, HT.sIx_nat]
  have e3 : (iV ns).length = ns.length := by
    unfold iV
    rw [List.length_map]
  rw [e3, Nat.min_eq_left (by omega), Nat.min_eq_left (by omega)]
  have e4 : a + 1 + n - (a + 1) = n := by omega
  rw [e4]
  have e5 : ns.drop (a + 1) = r := by
    have z : ns.drop (a + 1) = (ns.drop a).drop 1 := by rw [List.drop_drop]
    rw [z, h]
    rfl
  unfold iV
  rw [← List.map_drop, e5, ← List.map_take]
abbrev sAnswers : Stmt := topS 33
def spAnswers (K : PySem.W.Frag) : Sp := fun vs H Q _ => ∃ (a : Addr) (ns : List Int), vs = [.ref a] ∧ SqL K H a (iV ns) ∧ PySq39.answers_asked ns = true ∧
  ∀ (H' : Hp) (p : Addr), H' p = some (.lst (iV (PySq39.answers ns))) → Q (.ref p) H'
section
variable {P : Program} {w : World} {K : PySem.W.Frag} {mg : Str → Option Value} {base : Heap} {CH C : Addr} {fN fTell fJoin fTake fFloor fCount fGive fBoth fOf fHB fHI fL fM : Addr} {dN dTell dJoin dTake dFloor dCount dGive dBoth dOf dHB dHI dL dM : FuncData}
theorem scAnswers : FnScope ["calls", "house", "given", "place", "call", "behind", "answer"] ["calls"] (defScope sAnswers) := ⟨rfl, rfl, rfl, by decide +kernel, rfl, by decide +kernel, by decide +kernel⟩
/-- between two calls: what is given, what is left -/
structure Mid (CH C : Addr) (H H' : Hp) (a g h l : Addr) (ps : List (Addr × Addr)) (s : Sq39.House) (ns given : List Int) (place : Nat) (cs : List (List (List Int))) : Prop where
  house : HouseAt CH C H' h l ps s
  wf : WfH s
  giv : H' g = some (.lst (iV given))
  due : PySq39.answers ns = given ++ PyFlat.told (PyFlat.played Sq39Neutral.step s (cs.map PySq39.whole))
  left : ∃ f, PyFlat.calls PySq39.shape f (ns.drop place) = some cs
  ins : ∀ c ∈ cs, PyInside.call PySq39.bound c = true
  ng : H g = none
  nf : ∀ b, Foot h l ps b → H b = none
  gf : ¬ Foot h l ps g
  same : Same H H'
  place : place ≤ ns.length
  short : (PySq39.answers ns).length ≤ 10000000
theorem ok_answers {f d : Addr} {fd : FuncData} {es : Array DictEntry} {nD : Nat} (F : Fun K "answers" "answers" sAnswers f fd) (D : Md K mg CH C fN fTell fJoin fTake fFloor fCount fGive fBoth fOf fHB fHI fL fM dN dTell dJoin dTake dFloor dCount dGive dBoth dOf dHB dHI dL dM) (TH : TxtH K mg CH) (T : Txt K mg C)
    (mC : mg "CALLS" = some (.ref d)) (lC : K.lookup d = some ⟨.type "dict", none, .dict es nD, #[]⟩) (kC : KeysInt es.toList) (rows : ∀ (p : Int) (n : Nat), PySq39.shape p = some (n, 0) → Row P w K mg base CH C es p n) :
    FnOk P w K mg base CX0 7 f fd ["calls"] (spAnswers K) := by
  have GI : FnOk P w K mg base CX0 4 fHI dHI ["self"] (spHInit CH C) := ok_hinit D.FHI TH T D.M D.FN D.bN D.FHB D.bHB D.mHB
  refine F.ok scAnswers (fun vs H Q E h => ?_) (fun cdv A outer s H vs Q E hr h => ?_)
  · obtain ⟨a, ns, rfl, _⟩ := h
    rfl
  · obtain ⟨a, ns, rfl, hS, hask, q⟩ := h
    have hr5 : Room 5 _ := hr.mono (by decide)
    refine ⟨_, pss_cons (ps_set (i := 1) scAnswers.nd rfl (Or.inl rfl) (pe_make0 D.MH GI hr5 rfl TH.gC D.bHI .nil pass0)) (pss_cons (ps_set (i := 2) scAnswers.nd rfl (Or.inl rfl) (pe_lst pa_nil)) (pss_cons (ps_set (i := 3) scAnswers.nd rfl (Or.inl rfl) pe_int)
      (pss_cons (ps_while PassesOwn.never (pt_cmpR op_lt (pv 3) (pe_callB call_len_seq (by rfl) T.len PySem.boot_len (pa_cons (pv 0) pa_nil)) (nomark _))
        (pss_cons (ps_set (i := 4) scAnswers.nd rfl (Or.inl rfl) (pe_ix (ix_tab lC kC) (pe_glob (v := .ref d) rfl mC rfl) (pe_ix ix_list (pv 0) (pv 3) (fun _ _ => rfl)) (fun _ _ => rfl)))
        (pss_cons (ps_set (i := 5) scAnswers.nd rfl (Or.inl rfl) (pe_op op_add (pe_op op_add (pv 3) pe_int) (pe_ix ix_tup (pv 4) pe_int (fun _ _ => rfl))))
        (pss_cons (ps_set (i := 6) scAnswers.nd rfl (Or.inl rfl) (pe_callAt (pe_ix ix_tup (pv 4) pe_int (fun _ _ => rfl)) hr (pa_cons (pv 1) (pa_cons (pe_slice sl_list (pv 0) (po_some (pe_op op_add (pv 3) pe_int)) (po_some (pv 5))) pa_nil))))
        (pss_cons (ps_expr (pe_bm PySem.F.plainAttrs_list PySem.F.slot_list_append PySem.F.type_list_append mt_append (pv 2) (pa_cons (pe_callB call_len_seq (by rfl) T.len PySem.boot_len (pa_cons (pv 6) pa_nil)) pa_nil)))
        (pss_cons (ps_expr (pe_bm PySem.F.plainAttrs_list PySem.F.slot_list_extend PySem.F.type_list_extend mt_extend (pv 2) (pa_cons (pv 6) pa_nil)))
        (pss_one (ps_set (i := 3) scAnswers.nd rfl (Or.inl rfl) (pv 5)))))))))
      (pss_one (ps_ret (pv 2)))))), ?_⟩
    intro h dh nh ndh neh
    refine ⟨h, dh, rfl, upd_same, fun H1 l ps hH hfr kp => ⟨rfl, ?_⟩⟩
    have s1 : Same H H1 := fun b o e => kp b o (by rw [upd_ne (ne_of_none e nh), upd_ne (ne_of_none e ndh)]; exact e) (ne_of_none e nh)
    have free : ∀ b, (upd (upd H dh (.own h)) h (.ins CH dh [])) b = none → H b = none := fun b e => by
      by_cases e1 : b = h
      · rw [e1, upd_same] at e
        cases e
      · by_cases e2 : b = dh
        · rw [upd_ne e1, e2, upd_same] at e
          cases e
        · rw [upd_ne e1, upd_ne e2] at e
          exact e
    refine ⟨(by show 0 ≤ sizeLine; decide), fun g hg => ?_⟩
    -- what is asked
    unfold PySq39.answers_asked at hask
    cases ecs : PyFlat.calls PySq39.shape ns.length ns with
    | none =>
      rw [ecs] at hask
      cases hask
    | some cs0 =>
      rw [ecs] at hask
      dsimp only at hask
      rw [Bool.and_eq_true, Bool.and_eq_true, Bool.and_eq_true, Bool.and_eq_true] at hask
      have hins : ∀ c ∈ cs0, PyInside.call PySq39.bound c = true := by
        have z : cs0.all (PyInside.call PySq39.bound) = true := hask.1.1.2
        exact fun c hc => List.all_eq_true.mp z c hc
      have hshort : (PySq39.answers ns).length ≤ 10000000 := of_decide_eq_true hask.2
      have hdue : PySq39.answers ns = [] ++ PyFlat.told (PyFlat.played Sq39Neutral.step Sq39.fresh (cs0.map PySq39.whole)) := by
        unfold PySq39.answers PySq39.calls
        rw [ecs]
        rfl
      have hfoot : ∀ b, Foot h l ps b → H b = none := fun b hb => by
        rcases hb with rfl | hb
        · exact nh
        · exact free b (hfr b hb)
      have hg0 : H g = none := s1.free hg
      have hgf : ¬ Foot h l ps g := fun hb => by
        obtain ⟨dh1, hh1⟩ := hH.ex
        rcases hb with rfl | rfl | hb
        · rw [hg] at hh1
          cases hh1
        · have := hH.lst
          rw [hg] at this
          cases this
        · exact (hH.row hb).2.2 hg
      have hmid : Mid CH C H (upd H1 g (.lst [])) a g h l ps Sq39.fresh ns [] 0 cs0 := {
        house := same_house hH (same_new hg)
        wf := wfh_fresh
        giv := upd_same
        due := hdue
        left := ⟨ns.length, ecs⟩
        ins := hins
        ng := hg0
        nf := hfoot
        gf := hgf
        same := s1.trans (same_new hg)
        place := Nat.zero_le _
        short := hshort }
      refine while_by (fun σ H' => ∃ (v4 v5 v6 : Option V) (l : Addr) (ps : List (Addr × Addr)) (s : Sq39.House) (given : List Int) (place : Nat) (cs : List (List (List Int))),
          σ = [some (.ref a), some (.ref h), some (.ref g), some (.int (place : Int)), v4, v5, v6] ∧ Mid CH C H H' a g h l ps s ns given place cs)
        (fun σ _ => match σ with | [_, _, _, some (.int j), _, _, _] => ns.length - j.toNat | _ => 0) ⟨none, none, none, l, ps, Sq39.fresh, [], 0, cs0, rfl, hmid⟩ ?_ ?_
      · rintro σ H2 ⟨v4, v5, v6, l, ps, s, given, place, cs, rfl, M⟩
        have hS2 := M.same.seq hS
        refine ⟨_, rfl, _, rfl, a, _, rfl, .inl hS2, _, _, rfl, rfl, _, rfl, ite2 (fun c => ?_) fun c => ?_⟩
        · have c1 : place < ns.length := by
            have z : (place : Int) < ((iV ns).length : Int) := of_decide_eq_true c
            unfold iV at z
            rw [List.length_map] at z
            omega
          obtain ⟨p, hp⟩ : ∃ p, ns[place]? = some p := ⟨_, List.getElem?_eq_getElem c1⟩
          obtain ⟨r, hr0⟩ : ∃ r, ns.drop place = p :: r := ⟨ns.drop (place + 1), by
            rw [List.drop_eq_getElem_cons c1]
            congr 1
            have := List.getElem?_eq_getElem c1
            rw [hp] at this
            exact (Option.some.inj this).symm⟩
          obtain ⟨f0, hleft⟩ := M.left
          rw [hr0] at hleft
          obtain ⟨n, f1, cs1, hsh, hnr, rfl, hleft1⟩ := calls_cons hleft
          obtain ⟨t, ff, o, its, nn, mk, hfind, hlk, hcl, hdt, hsz, hvals, hkept, hstep⟩ := (rows p n hsh).ex
          obtain ⟨ms, hms, hmsl, hmsb⟩ := call_nats hsh (by rw [List.length_take]; omega) (M.ins _ List.mem_cons_self)
          have hpI : (iV ns)[place]? = some (.int p) := by
            unfold iV
            rw [List.getElem?_map, hp]
            rfl
          refine ⟨_, rfl, _, rfl, a, _, _, _, rfl, rfl, hS2, atI_nat hpI, p, .ref t, _, rfl, rfl, hfind, rfl, ?_⟩
          have hT : ∀ H, SqT K H t [.int (n : Int), .ref ff] := fun H => .inr ⟨o, its, nn, hlk, hcl, hdt, hsz, hvals⟩
          refine ⟨_, rfl, _, _, rfl, rfl, _, rfl, t, _, _, _, rfl, rfl, hT _, atI_nat (j := 0) rfl, _, _, rfl, rfl, ?_⟩
          refine ⟨_, rfl, t, _, _, _, rfl, rfl, hT _, atI_nat (j := 1) rfl, ff, spA CH C mk, rfl, hkept, ?_⟩
          refine ⟨_, rfl, _, rfl, _, rfl, _, _, rfl, rfl, _, rfl, _, rfl, _, rfl, a, _, rfl, hS2, fun nl hnl => ?_⟩
          have ecut := cut_mid (a := place) hr0 hnr
          have s3 := same_new (o := .lst (nV ms)) hnl
          obtain ⟨cc, hmk, hst⟩ := hstep s ms hmsl
          have e9 : cutV (iV ns) (some ((place : Int) + 1)) (some ((place : Int) + 1 + (n : Int))) = nV ms := by
            rw [ecut, hms, iV_nat]
          refine ⟨h, l, nl, ps, s, ms, cc, rfl, same_house M.house ?_, M.wf, ?_, hmk, hmsb, fun H4 l4 ps4 p4 hH4 g4 hp4 np4 => ?_⟩
          · rw [e9]
            exact s3
          · rw [upd_same, e9]
          · rw [e9] at g4
            have hg3 : (upd H2 nl (.lst (nV ms))) g = some (.lst (iV given)) := s3 _ _ M.giv
            have hg4 : H4 g = some (.lst (iV given)) := g4.2 _ _ hg3 M.gf
            have hgf4 : ¬ Foot h l4 ps4 g := fun hb => by
              rcases g4.1 g hb with z | z
              · exact M.gf z
              · rw [hg3] at z
                cases z
            have edue : PySq39.answers ns = given ++ (told1 ((s.step cc).2.value :: (s.step cc).2.out) ++ PyFlat.told (PyFlat.played Sq39Neutral.step (s.step cc).1 (cs1.map PySq39.whole))) := by
              rw [M.due, List.map_cons]
              show given ++ PyFlat.told (PyFlat.played Sq39Neutral.step s (PySq39.whole [p :: r.take n] :: cs1.map PySq39.whole)) = _
              have z : PyFlat.played Sq39Neutral.step s (PySq39.whole [p :: r.take n] :: cs1.map PySq39.whole) = (Sq39Neutral.step s (PySq39.whole [p :: r.take n])).2 :: PyFlat.played Sq39Neutral.step (Sq39Neutral.step s (PySq39.whole [p :: r.take n])).1 (cs1.map PySq39.whole) := rfl
              rw [z, hms, hst, told_cons]
            have elen : given.length + (1 + ((s.step cc).2.value :: (s.step cc).2.out).length) ≤ 10000000 := by
              have z := M.short
              rw [edue, List.length_append, List.length_append] at z
              unfold told1 at z
              rw [List.length_cons] at z
              omega
            have el1 : (oV (s.step cc).2).length = ((s.step cc).2.value :: (s.step cc).2.out).length := by
              unfold oV
              rw [List.length_map]
            have egl : (iV given).length = given.length := by
              unfold iV
              rw [List.length_map]
            have big : (10000000 : Nat) < sizeLine := by decide
            refine ⟨_, rfl, .inl ⟨rfl, _, SqL.of hg4⟩, _, rfl, p4, _, rfl, .inl (SqL.of hp4), g, _, _, rfl, rfl, hg4, by rw [egl]; omega, ?_⟩
            rw [e9] at np4
            have hgp : g ≠ p4 := np4 g _ hg3 M.gf
            refine ⟨_, rfl, .inl ⟨rfl, _, SqL.of upd_same⟩, _, rfl, g, p4, _, _, rfl, rfl, upd_same, by rw [upd_ne (Ne.symm hgp)]; exact hp4, ?_, ?_⟩
            · rw [List.length_append, egl, el1]
              show given.length + 1 + _ ≤ sizeLine
              omega
            · have en : ((place : Int) + 1 + (n : Int)) = ((place + 1 + n : Nat) : Int) := by omega
              have hdrop : ns.drop (place + 1 + n) = r.drop n := by
                have z : ns.drop (place + 1 + n) = (ns.drop place).drop (1 + n) := by
                  rw [List.drop_drop]
                  congr 1
                  omega
                rw [z, hr0, Nat.add_comm 1 n]
                rfl
              have hnl : place + 1 + n ≤ ns.length := by
                have z := congrArg List.length hr0
                rw [List.length_drop, List.length_cons] at z
                omega
              refine ⟨_, rfl, ⟨some (.ref t), some (.int ((place : Int) + 1 + (n : Int))), some (.ref p4), l4, ps4, (s.step cc).1, given ++ told1 ((s.step cc).2.value :: (s.step cc).2.out), place + 1 + n, cs1, ?_, ?_⟩, ?_⟩
              · rw [← en]
                rfl
              · have eg : (iV given ++ [V.int ((oV (s.step cc).2).length : Nat)]) ++ oV (s.step cc).2 = iV (given ++ told1 ((s.step cc).2.value :: (s.step cc).2.out)) := by
                  unfold iV told1
                  rw [List.map_append, List.map_cons, el1, List.append_assoc]
                  rfl
                rw [upd_upd]
                have upn : ∀ b o, H4 b = some o → b ≠ g → (upd H4 g (.lst ((iV given ++ [V.int ((oV (s.step cc).2).length : Nat)]) ++ oV (s.step cc).2))) b = some o := fun b o e hb => by
                  rw [upd_ne hb]
                  exact e
                obtain ⟨dh4, hh4⟩ := hH4.ex
                exact {
                  house := ⟨⟨dh4, upn _ _ hh4 fun z => hgf4 (Or.inl z.symm)⟩, upn _ _ hH4.lst (fun z => hgf4 (Or.inr (Or.inl z.symm))), hH4.accs.keep fun b o e hb => upn b o e fun z => hgf4 (Or.inr (Or.inr (z ▸ hb)))⟩
                  wf := wfh_step M.wf cc
                  giv := by rw [upd_same, eg]
                  due := by rw [edue, List.append_assoc]
                  left := ⟨f1, by rw [hdrop]; exact hleft1⟩
                  ins := fun c hc => M.ins c (List.mem_cons_of_mem _ hc)
                  ng := M.ng
                  nf := fun b hb => by
                    rcases g4.1 b hb with z | z
                    · exact M.nf b z
                    · exact (M.same.trans s3).free z
                  gf := hgf4
                  same := fun b o e => by
                    rw [upd_ne (ne_of_none e M.ng)]
                    refine g4.2 b o (s3 b o (M.same b o e)) fun hb => ?_
                    have := M.nf b hb
                    rw [e] at this
                    cases this
                  place := hnl
                  short := M.short }
              · show ns.length - ((place : Int) + 1 + (n : Int)).toNat < ns.length - (place : Int).toNat
                omega
        · have c1 : place = ns.length := by
            have z : ¬ (place : Int) < ((iV ns).length : Int) := fun z => c (decide_eq_true z)
            unfold iV at z
            rw [List.length_map] at z
            have := M.place
            omega
          obtain ⟨f0, hleft⟩ := M.left
          rw [c1, List.drop_length] at hleft
          have ecs0 : cs = [] := by
            unfold PyFlat.calls at hleft
            exact (Option.some.inj hleft).symm
          have e := M.due
          rw [ecs0] at e
          have e' : PySq39.answers ns = given := by
            rw [e]
            show given ++ [] = given
            rw [List.append_nil]
          refine ⟨_, rfl, q H2 g ?_⟩
          rw [e']
          exact M.giv
      · intro σ H' Q1 Q2 hq hc
        obtain ⟨v1, e1, v2, e2, p1, y1, e3, e4, i1, i2, e5, e6, k1, e7, z⟩ := hc
        exact ⟨v1, e1, v2, e2, p1, y1, e3, e4, i1, i2, e5, e6, k1, e7, hq _ _ z⟩
end
end Wb
namespace Wb
open PySem PySem.Spec PyProof.Rows L2
theorem len1 {xs : List Nat} (h : xs.length = 1) : ∃ a, xs = [a] := by
  match xs, h with
  | [a], _ => exact ⟨a, rfl⟩
theorem len2 {xs : List Nat} (h : xs.length = 2) : ∃ a b, xs = [a, b] := by
  match xs, h with
  | [a, b], _ => exact ⟨a, b, rfl⟩
theorem len3 {xs : List Nat} (h : xs.length = 3) : ∃ a b c, xs = [a, b, c] := by
  match xs, h with
  | [a, b, c], _ => exact ⟨a, b, c, rfl⟩
theorem stepIs1 : StepIs 1 3 mkBegin := fun s xs h => by
  obtain ⟨a, b, c, rfl⟩ := len3 h
  exact ⟨_, rfl, rfl⟩
theorem stepIs2 : StepIs 2 3 mkAdd := fun s xs h => by
  obtain ⟨a, b, c, rfl⟩ := len3 h
  exact ⟨_, rfl, rfl⟩
theorem stepIs3 : StepIs 3 2 mkJoin := fun s xs h => by
  obtain ⟨a, b, rfl⟩ := len2 h
  exact ⟨_, rfl, rfl⟩
theorem stepIs4 : StepIs 4 1 mkClear := fun s xs h => by
  obtain ⟨a, rfl⟩ := len1 h
  exact ⟨_, rfl, rfl⟩
theorem stepIs5 : StepIs 5 2 mkRank := fun s xs h => by
  obtain ⟨a, b, rfl⟩ := len2 h
  exact ⟨_, rfl, rfl⟩
theorem stepIs6 : StepIs 6 3 mkPart := fun s xs h => by
  obtain ⟨a, b, c, rfl⟩ := len3 h
  exact ⟨_, rfl, rfl⟩
theorem stepIs7 : StepIs 7 2 mkUpTo := fun s xs h => by
  obtain ⟨a, b, rfl⟩ := len2 h
  exact ⟨_, rfl, rfl⟩
theorem stepIs8 : StepIs 8 1 mkAccount := fun s xs h => by
  obtain ⟨a, rfl⟩ := len1 h
  exact ⟨_, rfl, rfl⟩
theorem stepIs9 : StepIs 9 1 mkBuckets := fun s xs h => by
  obtain ⟨a, rfl⟩ := len1 h
  exact ⟨_, rfl, rfl⟩
theorem stepIs10 : StepIs 10 1 mkEdges := fun s xs h => by
  obtain ⟨a, rfl⟩ := len1 h
  exact ⟨_, rfl, rfl⟩
/-- which calls there are -/
theorem shapes {p : Int} {n : Nat} (h : PySq39.shape p = some (n, 0)) : (p = 1 ∧ n = 3) ∨ (p = 2 ∧ n = 3) ∨ (p = 3 ∧ n = 2) ∨ (p = 4 ∧ n = 1) ∨ (p = 5 ∧ n = 2) ∨ (p = 6 ∧ n = 3) ∨ (p = 7 ∧ n = 2) ∨ (p = 8 ∧ n = 1) ∨ (p = 9 ∧ n = 1) ∨ (p = 10 ∧ n = 1) := by
  unfold PySq39.shape at h
  repeat' split at h
  all_goals first
    | (injection h with h; injection h with h1 h2; subst h1; simp_all)
    | cases h
end Wb

namespace Wb
open PySem PySem.Spec PyProof.Rows L2
theorem all_mk {P : Program} {w : World} {K : PySem.W.Frag} {h : Heap} {mg : Str → Option Value} {fa C CH dC : Addr}
    {f_g0 : Addr} {od_g0 an_g0 : Option Addr} {sl_g0 : Array (Option Value)} {oc_g0 kV_g0 dc_g0 pm_g0 cd_g0 ct_g0 : Value}
    {f_g1 : Addr} {od_g1 an_g1 : Option Addr} {sl_g1 : Array (Option Value)} {oc_g1 kV_g1 dc_g1 pm_g1 cd_g1 ct_g1 : Value}
    {f_g2 : Addr} {od_g2 an_g2 : Option Addr} {sl_g2 : Array (Option Value)} {oc_g2 kV_g2 dc_g2 pm_g2 cd_g2 ct_g2 : Value}
    {f_g3 : Addr} {od_g3 an_g3 : Option Addr} {sl_g3 : Array (Option Value)} {oc_g3 kV_g3 dc_g3 pm_g3 cd_g3 ct_g3 : Value}
    {f_g4 : Addr} {od_g4 an_g4 : Option Addr} {sl_g4 : Array (Option Value)} {oc_g4 kV_g4 dc_g4 pm_g4 cd_g4 ct_g4 : Value}
    {f_g5 : Addr} {od_g5 an_g5 : Option Addr} {sl_g5 : Array (Option Value)} {oc_g5 kV_g5 dc_g5 pm_g5 cd_g5 ct_g5 : Value}
    {f_g6 : Addr} {od_g6 an_g6 : Option Addr} {sl_g6 : Array (Option Value)} {oc_g6 kV_g6 dc_g6 pm_g6 cd_g6 ct_g6 : Value}
    {f_g7 : Addr} {od_g7 an_g7 : Option Addr} {sl_g7 : Array (Option Value)} {oc_g7 kV_g7 dc_g7 pm_g7 cd_g7 ct_g7 : Value}
    {f_g8 : Addr} {od_g8 an_g8 : Option Addr} {sl_g8 : Array (Option Value)} {oc_g8 kV_g8 dc_g8 pm_g8 cd_g8 ct_g8 : Value}
    {f_g9 : Addr} {od_g9 an_g9 : Option Addr} {sl_g9 : Array (Option Value)} {oc_g9 kV_g9 dc_g9 pm_g9 cd_g9 ct_g9 : Value}
    {f_g10 : Addr} {od_g10 an_g10 : Option Addr} {sl_g10 : Array (Option Value)} {oc_g10 kV_g10 dc_g10 pm_g10 cd_g10 ct_g10 : Value}
    {f_g11 : Addr} {od_g11 an_g11 : Option Addr} {sl_g11 : Array (Option Value)} {oc_g11 kV_g11 dc_g11 pm_g11 cd_g11 ct_g11 : Value}
    {f_g12 : Addr} {od_g12 an_g12 : Option Addr} {sl_g12 : Array (Option Value)} {oc_g12 kV_g12 dc_g12 pm_g12 cd_g12 ct_g12 : Value}
    {f_g13 : Addr} {od_g13 an_g13 : Option Addr} {sl_g13 : Array (Option Value)} {oc_g13 kV_g13 dc_g13 pm_g13 cd_g13 ct_g13 : Value}
    {f_g14 : Addr} {od_g14 an_g14 : Option Addr} {sl_g14 : Array (Option Value)} {oc_g14 kV_g14 dc_g14 pm_g14 cd_g14 ct_g14 : Value}
    {f_g15 : Addr} {od_g15 an_g15 : Option Addr} {sl_g15 : Array (Option Value)} {oc_g15 kV_g15 dc_g15 pm_g15 cd_g15 ct_g15 : Value}
    {f_g16 : Addr} {od_g16 an_g16 : Option Addr} {sl_g16 : Array (Option Value)} {oc_g16 kV_g16 dc_g16 pm_g16 cd_g16 ct_g16 : Value}
    {f_g17 : Addr} {od_g17 an_g17 : Option Addr} {sl_g17 : Array (Option Value)} {oc_g17 kV_g17 dc_g17 pm_g17 cd_g17 ct_g17 : Value}
    {f_g18 : Addr} {od_g18 an_g18 : Option Addr} {sl_g18 : Array (Option Value)} {oc_g18 kV_g18 dc_g18 pm_g18 cd_g18 ct_g18 : Value}
    {f_g19 : Addr} {od_g19 an_g19 : Option Addr} {sl_g19 : Array (Option Value)} {oc_g19 kV_g19 dc_g19 pm_g19 cd_g19 ct_g19 : Value}
    {f_g20 : Addr} {od_g20 an_g20 : Option Addr} {sl_g20 : Array (Option Value)} {oc_g20 kV_g20 dc_g20 pm_g20 cd_g20 ct_g20 : Value}
    {f_g21 : Addr} {od_g21 an_g21 : Option Addr} {sl_g21 : Array (Option Value)} {oc_g21 kV_g21 dc_g21 pm_g21 cd_g21 ct_g21 : Value}
    {f_g22 : Addr} {od_g22 an_g22 : Option Addr} {sl_g22 : Array (Option Value)} {oc_g22 kV_g22 dc_g22 pm_g22 cd_g22 ct_g22 : Value}
    {f_a0 : Addr} {od_a0 an_a0 : Option Addr} {sl_a0 : Array (Option Value)} {oc_a0 kV_a0 dc_a0 pm_a0 cd_a0 ct_a0 : Value}
    {f_a1 : Addr} {od_a1 an_a1 : Option Addr} {sl_a1 : Array (Option Value)} {oc_a1 kV_a1 dc_a1 pm_a1 cd_a1 ct_a1 : Value}
    {f_a2 : Addr} {od_a2 an_a2 : Option Addr} {sl_a2 : Array (Option Value)} {oc_a2 kV_a2 dc_a2 pm_a2 cd_a2 ct_a2 : Value}
    {f_a3 : Addr} {od_a3 an_a3 : Option Addr} {sl_a3 : Array (Option Value)} {oc_a3 kV_a3 dc_a3 pm_a3 cd_a3 ct_a3 : Value}
    {f_a4 : Addr} {od_a4 an_a4 : Option Addr} {sl_a4 : Array (Option Value)} {oc_a4 kV_a4 dc_a4 pm_a4 cd_a4 ct_a4 : Value}
    {f_a5 : Addr} {od_a5 an_a5 : Option Addr} {sl_a5 : Array (Option Value)} {oc_a5 kV_a5 dc_a5 pm_a5 cd_a5 ct_a5 : Value}
    {f_a6 : Addr} {od_a6 an_a6 : Option Addr} {sl_a6 : Array (Option Value)} {oc_a6 kV_a6 dc_a6 pm_a6 cd_a6 ct_a6 : Value}
    {f_h0 : Addr} {od_h0 an_h0 : Option Addr} {sl_h0 : Array (Option Value)} {oc_h0 kV_h0 dc_h0 pm_h0 cd_h0 ct_h0 : Value}
    {f_h1 : Addr} {od_h1 an_h1 : Option Addr} {sl_h1 : Array (Option Value)} {oc_h1 kV_h1 dc_h1 pm_h1 cd_h1 ct_h1 : Value}
    {f_h2 : Addr} {od_h2 an_h2 : Option Addr} {sl_h2 : Array (Option Value)} {oc_h2 kV_h2 dc_h2 pm_h2 cd_h2 ct_h2 : Value}
    {f_h3 : Addr} {od_h3 an_h3 : Option Addr} {sl_h3 : Array (Option Value)} {oc_h3 kV_h3 dc_h3 pm_h3 cd_h3 ct_h3 : Value}
    {tGV tMT tLB tGE : Tok}
    {es : Array DictEntry} {nD : Nat}
    {t_1 : Addr} {dd_1 : Option Addr} {its_1 : Array Value} {nn_1 : Nat} {st_1 : Array (Option Value)}
    {t_2 : Addr} {dd_2 : Option Addr} {its_2 : Array Value} {nn_2 : Nat} {st_2 : Array (Option Value)}
    {t_3 : Addr} {dd_3 : Option Addr} {its_3 : Array Value} {nn_3 : Nat} {st_3 : Array (Option Value)}
    {t_4 : Addr} {dd_4 : Option Addr} {its_4 : Array Value} {nn_4 : Nat} {st_4 : Array (Option Value)}
    {t_5 : Addr} {dd_5 : Option Addr} {its_5 : Array Value} {nn_5 : Nat} {st_5 : Array (Option Value)}
    {t_6 : Addr} {dd_6 : Option Addr} {its_6 : Array Value} {nn_6 : Nat} {st_6 : Array (Option Value)}
    {t_7 : Addr} {dd_7 : Option Addr} {its_7 : Array Value} {nn_7 : Nat} {st_7 : Array (Option Value)}
    {t_8 : Addr} {dd_8 : Option Addr} {its_8 : Array Value} {nn_8 : Nat} {st_8 : Array (Option Value)}
    {t_9 : Addr} {dd_9 : Option Addr} {its_9 : Array Value} {nn_9 : Nat} {st_9 : Array (Option Value)}
    {t_10 : Addr} {dd_10 : Option Addr} {its_10 : Array Value} {nn_10 : Nat} {st_10 : Array (Option Value)}
    (X : K.In h) (G : h.Ns mainGlobals mg) (hfa : mg "answers" = some (.ref fa))
    (aC : PySem.W.nsIn K mainGlobals "Account" = some (some (.ref C))) (aCH : PySem.W.nsIn K mainGlobals "House" = some (some (.ref CH)))
    (n_g0 : PySem.W.nsIn K mainGlobals "bucket_end" = some (some (.ref f_g0)))
    (l_g0 : K.lookup f_g0 = some ⟨oc_g0, od_g0, .func (PySem.W.fnOf "bucket_end" "bucket_end" (defArgs sEnd) (defBody sEnd) (defScope sEnd) .none kV_g0 dc_g0 pm_g0 an_g0 cd_g0 ct_g0), sl_g0⟩) (c_g0 : PySem.W.codeIn K cd_g0 "bucket_end" = true) (k_g0 : PySem.W.keepIn K (.ref f_g0) = true)
    (n_g1 : PySem.W.nsIn K mainGlobals "bucket_begin" = some (some (.ref f_g1)))
    (l_g1 : K.lookup f_g1 = some ⟨oc_g1, od_g1, .func (PySem.W.fnOf "bucket_begin" "bucket_begin" (defArgs sBegin) (defBody sBegin) (defScope sBegin) .none kV_g1 dc_g1 pm_g1 an_g1 cd_g1 ct_g1), sl_g1⟩) (c_g1 : PySem.W.codeIn K cd_g1 "bucket_begin" = true) (k_g1 : PySem.W.keepIn K (.ref f_g1) = true)
    (n_g2 : PySem.W.nsIn K mainGlobals "bucket_of" = some (some (.ref f_g2)))
    (l_g2 : K.lookup f_g2 = some ⟨oc_g2, od_g2, .func (PySem.W.fnOf "bucket_of" "bucket_of" (defArgs sOf) (defBody sOf) (defScope sOf) .none kV_g2 dc_g2 pm_g2 an_g2 cd_g2 ct_g2), sl_g2⟩) (c_g2 : PySem.W.codeIn K cd_g2 "bucket_of" = true) (k_g2 : PySem.W.keepIn K (.ref f_g2) = true)
    (n_g3 : PySem.W.nsIn K mainGlobals "counts_of_both" = some (some (.ref f_g3)))
    (l_g3 : K.lookup f_g3 = some ⟨oc_g3, od_g3, .func (PySem.W.fnOf "counts_of_both" "counts_of_both" (defArgs sBoth) (defBody sBoth) (defScope sBoth) .none kV_g3 dc_g3 pm_g3 an_g3 cd_g3 ct_g3), sl_g3⟩) (c_g3 : PySem.W.codeIn K cd_g3 "counts_of_both" = true) (k_g3 : PySem.W.keepIn K (.ref f_g3) = true)
    (n_g4 : PySem.W.nsIn K mainGlobals "told_of_rank" = some (some (.ref f_g4)))
    (l_g4 : K.lookup f_g4 = some ⟨oc_g4, od_g4, .func (PySem.W.fnOf "told_of_rank" "told_of_rank" (defArgs sTold) (defBody sTold) (defScope sTold) .none kV_g4 dc_g4 pm_g4 an_g4 cd_g4 ct_g4), sl_g4⟩) (c_g4 : PySem.W.codeIn K cd_g4 "told_of_rank" = true) (k_g4 : PySem.W.keepIn K (.ref f_g4) = true)
    (n_g5 : PySem.W.nsIn K mainGlobals "told_up_to" = some (some (.ref f_g5)))
    (l_g5 : K.lookup f_g5 = some ⟨oc_g5, od_g5, .func (PySem.W.fnOf "told_up_to" "told_up_to" (defArgs sUpTo) (defBody sUpTo) (defScope sUpTo) .none kV_g5 dc_g5 pm_g5 an_g5 cd_g5 ct_g5), sl_g5⟩) (c_g5 : PySem.W.codeIn K cd_g5 "told_up_to" = true) (k_g5 : PySem.W.keepIn K (.ref f_g5) = true)
    (n_g6 : PySem.W.nsIn K mainGlobals "ends_of_rank" = some (some (.ref f_g6)))
    (l_g6 : K.lookup f_g6 = some ⟨oc_g6, od_g6, .func (PySem.W.fnOf "ends_of_rank" "ends_of_rank" (defArgs sEnds) (defBody sEnds) (defScope sEnds) .none kV_g6 dc_g6 pm_g6 an_g6 cd_g6 ct_g6), sl_g6⟩) (c_g6 : PySem.W.codeIn K cd_g6 "ends_of_rank" = true) (k_g6 : PySem.W.keepIn K (.ref f_g6) = true)
    (n_g7 : PySem.W.nsIn K mainGlobals "bucket_of_rank" = some (some (.ref f_g7)))
    (l_g7 : K.lookup f_g7 = some ⟨oc_g7, od_g7, .func (PySem.W.fnOf "bucket_of_rank" "bucket_of_rank" (defArgs sRankIn) (defBody sRankIn) (defScope sRankIn) .none kV_g7 dc_g7 pm_g7 an_g7 cd_g7 ct_g7), sl_g7⟩) (c_g7 : PySem.W.codeIn K cd_g7 "bucket_of_rank" = true) (k_g7 : PySem.W.keepIn K (.ref f_g7) = true)
    (n_g8 : PySem.W.nsIn K mainGlobals "lesser_end" = some (some (.ref f_g8)))
    (l_g8 : K.lookup f_g8 = some ⟨oc_g8, od_g8, .func (PySem.W.fnOf "lesser_end" "lesser_end" (defArgs sLo) (defBody sLo) (defScope sLo) .none kV_g8 dc_g8 pm_g8 an_g8 cd_g8 ct_g8), sl_g8⟩) (c_g8 : PySem.W.codeIn K cd_g8 "lesser_end" = true) (k_g8 : PySem.W.keepIn K (.ref f_g8) = true)
    (n_g9 : PySem.W.nsIn K mainGlobals "greater_end" = some (some (.ref f_g9)))
    (l_g9 : K.lookup f_g9 = some ⟨oc_g9, od_g9, .func (PySem.W.fnOf "greater_end" "greater_end" (defArgs sHi) (defBody sHi) (defScope sHi) .none kV_g9 dc_g9 pm_g9 an_g9 cd_g9 ct_g9), sl_g9⟩) (c_g9 : PySem.W.codeIn K cd_g9 "greater_end" = true) (k_g9 : PySem.W.keepIn K (.ref f_g9) = true)
    (n_g10 : PySem.W.nsIn K mainGlobals "number_between" = some (some (.ref f_g10)))
    (l_g10 : K.lookup f_g10 = some ⟨oc_g10, od_g10, .func (PySem.W.fnOf "number_between" "number_between" (defArgs sMid) (defBody sMid) (defScope sMid) .none kV_g10 dc_g10 pm_g10 an_g10 cd_g10 ct_g10), sl_g10⟩) (c_g10 : PySem.W.codeIn K cd_g10 "number_between" = true) (k_g10 : PySem.W.keepIn K (.ref f_g10) = true)
    (n_g11 : PySem.W.nsIn K mainGlobals "greatest_divisor" = some (some (.ref f_g11)))
    (l_g11 : K.lookup f_g11 = some ⟨oc_g11, od_g11, .func (PySem.W.fnOf "greatest_divisor" "greatest_divisor" (defArgs sGcd) (defBody sGcd) (defScope sGcd) .none kV_g11 dc_g11 pm_g11 an_g11 cd_g11 ct_g11), sl_g11⟩) (c_g11 : PySem.W.codeIn K cd_g11 "greatest_divisor" = true) (k_g11 : PySem.W.keepIn K (.ref f_g11) = true)
    (n_g12 : PySem.W.nsIn K mainGlobals "answer_begin" = some (some (.ref f_g12)))
    (l_g12 : K.lookup f_g12 = some ⟨oc_g12, od_g12, .func (PySem.W.fnOf "answer_begin" "answer_begin" (defArgs sABegin) (defBody sABegin) (defScope sABegin) .none kV_g12 dc_g12 pm_g12 an_g12 cd_g12 ct_g12), sl_g12⟩) (c_g12 : PySem.W.codeIn K cd_g12 "answer_begin" = true) (k_g12 : PySem.W.keepIn K (.ref f_g12) = true)
    (n_g13 : PySem.W.nsIn K mainGlobals "answer_add" = some (some (.ref f_g13)))
    (l_g13 : K.lookup f_g13 = some ⟨oc_g13, od_g13, .func (PySem.W.fnOf "answer_add" "answer_add" (defArgs sAAdd) (defBody sAAdd) (defScope sAAdd) .none kV_g13 dc_g13 pm_g13 an_g13 cd_g13 ct_g13), sl_g13⟩) (c_g13 : PySem.W.codeIn K cd_g13 "answer_add" = true) (k_g13 : PySem.W.keepIn K (.ref f_g13) = true)
    (n_g14 : PySem.W.nsIn K mainGlobals "answer_join" = some (some (.ref f_g14)))
    (l_g14 : K.lookup f_g14 = some ⟨oc_g14, od_g14, .func (PySem.W.fnOf "answer_join" "answer_join" (defArgs sAJoin) (defBody sAJoin) (defScope sAJoin) .none kV_g14 dc_g14 pm_g14 an_g14 cd_g14 ct_g14), sl_g14⟩) (c_g14 : PySem.W.codeIn K cd_g14 "answer_join" = true) (k_g14 : PySem.W.keepIn K (.ref f_g14) = true)
    (n_g15 : PySem.W.nsIn K mainGlobals "answer_clear" = some (some (.ref f_g15)))
    (l_g15 : K.lookup f_g15 = some ⟨oc_g15, od_g15, .func (PySem.W.fnOf "answer_clear" "answer_clear" (defArgs sAClear) (defBody sAClear) (defScope sAClear) .none kV_g15 dc_g15 pm_g15 an_g15 cd_g15 ct_g15), sl_g15⟩) (c_g15 : PySem.W.codeIn K cd_g15 "answer_clear" = true) (k_g15 : PySem.W.keepIn K (.ref f_g15) = true)
    (n_g16 : PySem.W.nsIn K mainGlobals "answer_rank" = some (some (.ref f_g16)))
    (l_g16 : K.lookup f_g16 = some ⟨oc_g16, od_g16, .func (PySem.W.fnOf "answer_rank" "answer_rank" (defArgs sARank) (defBody sARank) (defScope sARank) .none kV_g16 dc_g16 pm_g16 an_g16 cd_g16 ct_g16), sl_g16⟩) (c_g16 : PySem.W.codeIn K cd_g16 "answer_rank" = true) (k_g16 : PySem.W.keepIn K (.ref f_g16) = true)
    (n_g17 : PySem.W.nsIn K mainGlobals "answer_part" = some (some (.ref f_g17)))
    (l_g17 : K.lookup f_g17 = some ⟨oc_g17, od_g17, .func (PySem.W.fnOf "answer_part" "answer_part" (defArgs sAPart) (defBody sAPart) (defScope sAPart) .none kV_g17 dc_g17 pm_g17 an_g17 cd_g17 ct_g17), sl_g17⟩) (c_g17 : PySem.W.codeIn K cd_g17 "answer_part" = true) (k_g17 : PySem.W.keepIn K (.ref f_g17) = true)
    (n_g18 : PySem.W.nsIn K mainGlobals "answer_up_to" = some (some (.ref f_g18)))
    (l_g18 : K.lookup f_g18 = some ⟨oc_g18, od_g18, .func (PySem.W.fnOf "answer_up_to" "answer_up_to" (defArgs sAUpTo) (defBody sAUpTo) (defScope sAUpTo) .none kV_g18 dc_g18 pm_g18 an_g18 cd_g18 ct_g18), sl_g18⟩) (c_g18 : PySem.W.codeIn K cd_g18 "answer_up_to" = true) (k_g18 : PySem.W.keepIn K (.ref f_g18) = true)
    (n_g19 : PySem.W.nsIn K mainGlobals "answer_account" = some (some (.ref f_g19)))
    (l_g19 : K.lookup f_g19 = some ⟨oc_g19, od_g19, .func (PySem.W.fnOf "answer_account" "answer_account" (defArgs sAAccount) (defBody sAAccount) (defScope sAAccount) .none kV_g19 dc_g19 pm_g19 an_g19 cd_g19 ct_g19), sl_g19⟩) (c_g19 : PySem.W.codeIn K cd_g19 "answer_account" = true) (k_g19 : PySem.W.keepIn K (.ref f_g19) = true)
    (n_g20 : PySem.W.nsIn K mainGlobals "answer_buckets" = some (some (.ref f_g20)))
    (l_g20 : K.lookup f_g20 = some ⟨oc_g20, od_g20, .func (PySem.W.fnOf "answer_buckets" "answer_buckets" (defArgs sABuckets) (defBody sABuckets) (defScope sABuckets) .none kV_g20 dc_g20 pm_g20 an_g20 cd_g20 ct_g20), sl_g20⟩) (c_g20 : PySem.W.codeIn K cd_g20 "answer_buckets" = true) (k_g20 : PySem.W.keepIn K (.ref f_g20) = true)
    (n_g21 : PySem.W.nsIn K mainGlobals "answer_edges" = some (some (.ref f_g21)))
    (l_g21 : K.lookup f_g21 = some ⟨oc_g21, od_g21, .func (PySem.W.fnOf "answer_edges" "answer_edges" (defArgs sAEdges) (defBody sAEdges) (defScope sAEdges) .none kV_g21 dc_g21 pm_g21 an_g21 cd_g21 ct_g21), sl_g21⟩) (c_g21 : PySem.W.codeIn K cd_g21 "answer_edges" = true) (k_g21 : PySem.W.keepIn K (.ref f_g21) = true)
    (n_g22 : PySem.W.nsIn K mainGlobals "answers" = some (some (.ref f_g22)))
    (l_g22 : K.lookup f_g22 = some ⟨oc_g22, od_g22, .func (PySem.W.fnOf "answers" "answers" (defArgs sAnswers) (defBody sAnswers) (defScope sAnswers) .none kV_g22 dc_g22 pm_g22 an_g22 cd_g22 ct_g22), sl_g22⟩) (c_g22 : PySem.W.codeIn K cd_g22 "answers" = true) (k_g22 : PySem.W.keepIn K (.ref f_g22) = true)
    (n_a0 : PySem.W.findIn K (.ref C) "__init__" = some (some (.ref f_a0))) (i_a0 : PySem.W.isFn K (.ref f_a0) = true)
    (l_a0 : K.lookup f_a0 = some ⟨oc_a0, od_a0, .func (PySem.W.fnOf "__init__" "Account.__init__" (defArgs sNew) (defBody sNew) (defScope sNew) .none kV_a0 dc_a0 pm_a0 an_a0 cd_a0 ct_a0), sl_a0⟩) (c_a0 : PySem.W.codeIn K cd_a0 "Account.__init__" = true) (k_a0 : PySem.W.keepIn K (.ref f_a0) = true)
    (n_a1 : PySem.W.findIn K (.ref C) "tell" = some (some (.ref f_a1))) (i_a1 : PySem.W.isFn K (.ref f_a1) = true)
    (l_a1 : K.lookup f_a1 = some ⟨oc_a1, od_a1, .func (PySem.W.fnOf "tell" "Account.tell" (defArgs sTell) (defBody sTell) (defScope sTell) .none kV_a1 dc_a1 pm_a1 an_a1 cd_a1 ct_a1), sl_a1⟩) (c_a1 : PySem.W.codeIn K cd_a1 "Account.tell" = true) (k_a1 : PySem.W.keepIn K (.ref f_a1) = true)
    (n_a2 : PySem.W.findIn K (.ref C) "put_together" = some (some (.ref f_a2))) (i_a2 : PySem.W.isFn K (.ref f_a2) = true)
    (l_a2 : K.lookup f_a2 = some ⟨oc_a2, od_a2, .func (PySem.W.fnOf "put_together" "Account.put_together" (defArgs sJoin) (defBody sJoin) (defScope sJoin) .none kV_a2 dc_a2 pm_a2 an_a2 cd_a2 ct_a2), sl_a2⟩) (c_a2 : PySem.W.codeIn K cd_a2 "Account.put_together" = true) (k_a2 : PySem.W.keepIn K (.ref f_a2) = true)
    (n_a3 : PySem.W.findIn K (.ref C) "take_in" = some (some (.ref f_a3))) (i_a3 : PySem.W.isFn K (.ref f_a3) = true)
    (l_a3 : K.lookup f_a3 = some ⟨oc_a3, od_a3, .func (PySem.W.fnOf "take_in" "Account.take_in" (defArgs sTake) (defBody sTake) (defScope sTake) .none kV_a3 dc_a3 pm_a3 an_a3 cd_a3 ct_a3), sl_a3⟩) (c_a3 : PySem.W.codeIn K cd_a3 "Account.take_in" = true) (k_a3 : PySem.W.keepIn K (.ref f_a3) = true)
    (n_a4 : PySem.W.findIn K (.ref C) "floor" = some (some (.ref f_a4))) (i_a4 : PySem.W.isFn K (.ref f_a4) = true)
    (l_a4 : K.lookup f_a4 = some ⟨oc_a4, od_a4, .func (PySem.W.fnOf "floor" "Account.floor" (defArgs sFloor) (defBody sFloor) (defScope sFloor) .none kV_a4 dc_a4 pm_a4 an_a4 cd_a4 ct_a4), sl_a4⟩) (c_a4 : PySem.W.codeIn K cd_a4 "Account.floor" = true) (k_a4 : PySem.W.keepIn K (.ref f_a4) = true)
    (n_a5 : PySem.W.findIn K (.ref C) "count_in" = some (some (.ref f_a5))) (i_a5 : PySem.W.isFn K (.ref f_a5) = true)
    (l_a5 : K.lookup f_a5 = some ⟨oc_a5, od_a5, .func (PySem.W.fnOf "count_in" "Account.count_in" (defArgs sCount) (defBody sCount) (defScope sCount) .none kV_a5 dc_a5 pm_a5 an_a5 cd_a5 ct_a5), sl_a5⟩) (c_a5 : PySem.W.codeIn K cd_a5 "Account.count_in" = true) (k_a5 : PySem.W.keepIn K (.ref f_a5) = true)
    (n_a6 : PySem.W.findIn K (.ref C) "give_up_lowest" = some (some (.ref f_a6))) (i_a6 : PySem.W.isFn K (.ref f_a6) = true)
    (l_a6 : K.lookup f_a6 = some ⟨oc_a6, od_a6, .func (PySem.W.fnOf "give_up_lowest" "Account.give_up_lowest" (defArgs sGive) (defBody sGive) (defScope sGive) .none kV_a6 dc_a6 pm_a6 an_a6 cd_a6 ct_a6), sl_a6⟩) (c_a6 : PySem.W.codeIn K cd_a6 "Account.give_up_lowest" = true) (k_a6 : PySem.W.keepIn K (.ref f_a6) = true)
    (n_h0 : PySem.W.findIn K (.ref CH) "__init__" = some (some (.ref f_h0))) (i_h0 : PySem.W.isFn K (.ref f_h0) = true)
    (l_h0 : K.lookup f_h0 = some ⟨oc_h0, od_h0, .func (PySem.W.fnOf "__init__" "House.__init__" (defArgs sHInit) (defBody sHInit) (defScope sHInit) .none kV_h0 dc_h0 pm_h0 an_h0 cd_h0 ct_h0), sl_h0⟩) (c_h0 : PySem.W.codeIn K cd_h0 "House.__init__" = true) (k_h0 : PySem.W.keepIn K (.ref f_h0) = true)
    (n_h1 : PySem.W.findIn K (.ref CH) "begin" = some (some (.ref f_h1))) (i_h1 : PySem.W.isFn K (.ref f_h1) = true)
    (l_h1 : K.lookup f_h1 = some ⟨oc_h1, od_h1, .func (PySem.W.fnOf "begin" "House.begin" (defArgs sHBegin) (defBody sHBegin) (defScope sHBegin) .none kV_h1 dc_h1 pm_h1 an_h1 cd_h1 ct_h1), sl_h1⟩) (c_h1 : PySem.W.codeIn K cd_h1 "House.begin" = true) (k_h1 : PySem.W.keepIn K (.ref f_h1) = true)
    (n_h2 : PySem.W.findIn K (.ref CH) "lacks" = some (some (.ref f_h2))) (i_h2 : PySem.W.isFn K (.ref f_h2) = true)
    (l_h2 : K.lookup f_h2 = some ⟨oc_h2, od_h2, .func (PySem.W.fnOf "lacks" "House.lacks" (defArgs sLacks) (defBody sLacks) (defScope sLacks) .none kV_h2 dc_h2 pm_h2 an_h2 cd_h2 ct_h2), sl_h2⟩) (c_h2 : PySem.W.codeIn K cd_h2 "House.lacks" = true) (k_h2 : PySem.W.keepIn K (.ref f_h2) = true)
    (n_h3 : PySem.W.findIn K (.ref CH) "make_new" = some (some (.ref f_h3))) (i_h3 : PySem.W.isFn K (.ref f_h3) = true)
    (l_h3 : K.lookup f_h3 = some ⟨oc_h3, od_h3, .func (PySem.W.fnOf "make_new" "House.make_new" (defArgs sMakeNew) (defBody sMakeNew) (defScope sMakeNew) .none kV_h3 dc_h3 pm_h3 an_h3 cd_h3 ct_h3), sl_h3⟩) (c_h3 : PySem.W.codeIn K cd_h3 "House.make_new" = true) (k_h3 : PySem.W.keepIn K (.ref f_h3) = true)
    (pg_C : PySem.W.plainGet K C Str.empty = true) (hd_C : PySem.W.hasDictIn K C = true) (po_C : PySem.W.plainOver K C = true) (sa_C : PySem.W.findIn K (.ref C) "__setattr__" = some (some (.builtin "object.__setattr__"))) (mk_C : PySem.W.makesIn K C = true) (kc_C : PySem.W.keepIn K (.ref C) = true)
    (pg_CH : PySem.W.plainGet K CH Str.empty = true) (hd_CH : PySem.W.hasDictIn K CH = true) (po_CH : PySem.W.plainOver K CH = true) (sa_CH : PySem.W.findIn K (.ref CH) "__setattr__" = some (some (.builtin "object.__setattr__"))) (mk_CH : PySem.W.makesIn K CH = true) (kc_CH : PySem.W.keepIn K (.ref CH) = true)
    (no_fineness : PySem.W.findIn K (.ref C) "fineness" = some none)
    (no_most : PySem.W.findIn K (.ref C) "most" = some none)
    (no_total : PySem.W.findIn K (.ref C) "total" = some none)
    (no_amount : PySem.W.findIn K (.ref C) "amount" = some none)
    (no_least : PySem.W.findIn K (.ref C) "least" = some none)
    (no_greatest : PySem.W.findIn K (.ref C) "greatest" = some none)
    (no_zeros : PySem.W.findIn K (.ref C) "zeros" = some none)
    (no_counts : PySem.W.findIn K (.ref C) "counts" = some none)
    (no_is_cut : PySem.W.findIn K (.ref C) "is_cut" = some none)
    (nh_fineness : PySem.W.findIn K (.ref CH) "fineness" = some none)
    (nh_most : PySem.W.findIn K (.ref CH) "most" = some none)
    (nh_accounts : PySem.W.findIn K (.ref CH) "accounts" = some none)
    (z_len : PySem.W.nsIn K mainGlobals "len" = some none)
    (z_min : PySem.W.nsIn K mainGlobals "min" = some none)
    (z_max : PySem.W.nsIn K mainGlobals "max" = some none)
    (z_range : PySem.W.nsIn K mainGlobals "range" = some none)
    (z_sorted : PySem.W.nsIn K mainGlobals "sorted" = some none)
    (gGV : PySem.W.nsIn K mainGlobals "GREATEST_VALUE" = some (some (.int 1000000000 tGV))) (gMT : PySem.W.nsIn K mainGlobals "MOST_TIMES" = some (some (.int 1000000 tMT))) (gLB : PySem.W.nsIn K mainGlobals "LAST_BUCKET" = some (some (.int 1000 tLB))) (gGE : PySem.W.nsIn K mainGlobals "GREATEST_END" = some (some (.int 1000000000000000000 tGE)))
    (aD : PySem.W.nsIn K mainGlobals "CALLS" = some (some (.ref dC))) (lD : K.lookup dC = some ⟨.type "dict", none, .dict es nD, #[]⟩) (kD : KeysInt es.toList)
    (q_1 : findBy Value.isInt es 1 = some (.ref t_1)) (u_1 : K.lookup t_1 = some ⟨.type "tuple", dd_1, .seq its_1 nn_1, st_1⟩) (s_1 : its_1.size ≤ sizeLine) (v_1 : Vals [.int ((3 : Nat) : Int), .ref f_g12] its_1.toList)
    (q_2 : findBy Value.isInt es 2 = some (.ref t_2)) (u_2 : K.lookup t_2 = some ⟨.type "tuple", dd_2, .seq its_2 nn_2, st_2⟩) (s_2 : its_2.size ≤ sizeLine) (v_2 : Vals [.int ((3 : Nat) : Int), .ref f_g13] its_2.toList)
    (q_3 : findBy Value.isInt es 3 = some (.ref t_3)) (u_3 : K.lookup t_3 = some ⟨.type "tuple", dd_3, .seq its_3 nn_3, st_3⟩) (s_3 : its_3.size ≤ sizeLine) (v_3 : Vals [.int ((2 : Nat) : Int), .ref f_g14] its_3.toList)
    (q_4 : findBy Value.isInt es 4 = some (.ref t_4)) (u_4 : K.lookup t_4 = some ⟨.type "tuple", dd_4, .seq its_4 nn_4, st_4⟩) (s_4 : its_4.size ≤ sizeLine) (v_4 : Vals [.int ((1 : Nat) : Int), .ref f_g15] its_4.toList)
    (q_5 : findBy Value.isInt es 5 = some (.ref t_5)) (u_5 : K.lookup t_5 = some ⟨.type "tuple", dd_5, .seq its_5 nn_5, st_5⟩) (s_5 : its_5.size ≤ sizeLine) (v_5 : Vals [.int ((2 : Nat) : Int), .ref f_g16] its_5.toList)
    (q_6 : findBy Value.isInt es 6 = some (.ref t_6)) (u_6 : K.lookup t_6 = some ⟨.type "tuple", dd_6, .seq its_6 nn_6, st_6⟩) (s_6 : its_6.size ≤ sizeLine) (v_6 : Vals [.int ((3 : Nat) : Int), .ref f_g17] its_6.toList)
    (q_7 : findBy Value.isInt es 7 = some (.ref t_7)) (u_7 : K.lookup t_7 = some ⟨.type "tuple", dd_7, .seq its_7 nn_7, st_7⟩) (s_7 : its_7.size ≤ sizeLine) (v_7 : Vals [.int ((2 : Nat) : Int), .ref f_g18] its_7.toList)
    (q_8 : findBy Value.isInt es 8 = some (.ref t_8)) (u_8 : K.lookup t_8 = some ⟨.type "tuple", dd_8, .seq its_8 nn_8, st_8⟩) (s_8 : its_8.size ≤ sizeLine) (v_8 : Vals [.int ((1 : Nat) : Int), .ref f_g19] its_8.toList)
    (q_9 : findBy Value.isInt es 9 = some (.ref t_9)) (u_9 : K.lookup t_9 = some ⟨.type "tuple", dd_9, .seq its_9 nn_9, st_9⟩) (s_9 : its_9.size ≤ sizeLine) (v_9 : Vals [.int ((1 : Nat) : Int), .ref f_g20] its_9.toList)
    (q_10 : findBy Value.isInt es 10 = some (.ref t_10)) (u_10 : K.lookup t_10 = some ⟨.type "tuple", dd_10, .seq its_10 nn_10, st_10⟩) (s_10 : its_10.size ≤ sizeLine) (v_10 : Vals [.int ((1 : Nat) : Int), .ref f_g21] its_10.toList) :
    ∃ fd : FuncData, (∀ (s : Shared) (us : List Value), us.length = (["calls"] : List Str).length → BindsTo s fd ⟨us, []⟩ ((["calls"] : List Str).zip us)) ∧ ∀ base : Heap, K.In base → base.Ns mainGlobals mg → FnOk P w K mg base CX0 7 fa fd ["calls"] (spAnswers K) := by
  have e := hfa.symm.trans (PySem.W.mg_of X G n_g22)
  cases e
  have T : Txt K mg C := ⟨⟨pg_C, hd_C, po_C, sa_C⟩, no_fineness, no_most, no_total, no_amount, no_least, no_greatest, no_zeros, no_counts, no_is_cut, PySem.W.mg_of X G aC, PySem.W.mg_none_of X G z_len, PySem.W.mg_none_of X G z_min, PySem.W.mg_none_of X G z_max, PySem.W.mg_none_of X G z_range, PySem.W.mg_none_of X G z_sorted⟩
  have TH : TxtH K mg CH := ⟨⟨pg_CH, hd_CH, po_CH, sa_CH⟩, nh_fineness, nh_most, nh_accounts, PySem.W.mg_of X G aCH⟩
  have F_g0 := fun_mk (st := sEnd) l_g0 c_g0 k_g0
  have b_g0 := F_g0.binds (ps := ["fineness", "number"]) fun _ _ _ _ _ _ us hl => match us, hl with | [_, _], _ => rfl
  have m_g0 := PySem.W.mg_of X G n_g0
  have F_g1 := fun_mk (st := sBegin) l_g1 c_g1 k_g1
  have b_g1 := F_g1.binds (ps := ["fineness", "number"]) fun _ _ _ _ _ _ us hl => match us, hl with | [_, _], _ => rfl
  have m_g1 := PySem.W.mg_of X G n_g1
  have F_g2 := fun_mk (st := sOf) l_g2 c_g2 k_g2
  have b_g2 := F_g2.binds (ps := ["fineness", "value"]) fun _ _ _ _ _ _ us hl => match us, hl with | [_, _], _ => rfl
  have m_g2 := PySem.W.mg_of X G n_g2
  have F_g3 := fun_mk (st := sBoth) l_g3 c_g3 k_g3
  have b_g3 := F_g3.binds (ps := ["one", "other", "floor"]) fun _ _ _ _ _ _ us hl => match us, hl with | [_, _, _], _ => rfl
  have m_g3 := PySem.W.mg_of X G n_g3
  have F_g4 := fun_mk (st := sTold) l_g4 c_g4 k_g4
  have b_g4 := F_g4.binds (ps := ["account", "rank"]) fun _ _ _ _ _ _ us hl => match us, hl with | [_, _], _ => rfl
  have m_g4 := PySem.W.mg_of X G n_g4
  have F_g5 := fun_mk (st := sUpTo) l_g5 c_g5 k_g5
  have b_g5 := F_g5.binds (ps := ["account", "value"]) fun _ _ _ _ _ _ us hl => match us, hl with | [_, _], _ => rfl
  have m_g5 := PySem.W.mg_of X G n_g5
  have F_g6 := fun_mk (st := sEnds) l_g6 c_g6 k_g6
  have b_g6 := F_g6.binds (ps := ["account", "rank"]) fun _ _ _ _ _ _ us hl => match us, hl with | [_, _], _ => rfl
  have m_g6 := PySem.W.mg_of X G n_g6
  have F_g7 := fun_mk (st := sRankIn) l_g7 c_g7 k_g7
  have b_g7 := F_g7.binds (ps := ["account", "rank"]) fun _ _ _ _ _ _ us hl => match us, hl with | [_, _], _ => rfl
  have m_g7 := PySem.W.mg_of X G n_g7
  have F_g8 := fun_mk (st := sLo) l_g8 c_g8 k_g8
  have b_g8 := F_g8.binds (ps := ["account", "number"]) fun _ _ _ _ _ _ us hl => match us, hl with | [_, _], _ => rfl
  have m_g8 := PySem.W.mg_of X G n_g8
  have F_g9 := fun_mk (st := sHi) l_g9 c_g9 k_g9
  have b_g9 := F_g9.binds (ps := ["account", "number"]) fun _ _ _ _ _ _ us hl => match us, hl with | [_, _], _ => rfl
  have m_g9 := PySem.W.mg_of X G n_g9
  have F_g10 := fun_mk (st := sMid) l_g10 c_g10 k_g10
  have b_g10 := F_g10.binds (ps := ["lesser", "greater"]) fun _ _ _ _ _ _ us hl => match us, hl with | [_, _], _ => rfl
  have m_g10 := PySem.W.mg_of X G n_g10
  have F_g11 := fun_mk (st := sGcd) l_g11 c_g11 k_g11
  have b_g11 := F_g11.binds (ps := ["one", "other"]) fun _ _ _ _ _ _ us hl => match us, hl with | [_, _], _ => rfl
  have m_g11 := PySem.W.mg_of X G n_g11
  have F_g12 := fun_mk (st := sABegin) l_g12 c_g12 k_g12
  have b_g12 := F_g12.binds (ps := ["house", "numbers"]) fun _ _ _ _ _ _ us hl => match us, hl with | [_, _], _ => rfl
  have m_g12 := PySem.W.mg_of X G n_g12
  have F_g13 := fun_mk (st := sAAdd) l_g13 c_g13 k_g13
  have b_g13 := F_g13.binds (ps := ["house", "numbers"]) fun _ _ _ _ _ _ us hl => match us, hl with | [_, _], _ => rfl
  have m_g13 := PySem.W.mg_of X G n_g13
  have F_g14 := fun_mk (st := sAJoin) l_g14 c_g14 k_g14
  have b_g14 := F_g14.binds (ps := ["house", "numbers"]) fun _ _ _ _ _ _ us hl => match us, hl with | [_, _], _ => rfl
  have m_g14 := PySem.W.mg_of X G n_g14
  have F_g15 := fun_mk (st := sAClear) l_g15 c_g15 k_g15
  have b_g15 := F_g15.binds (ps := ["house", "numbers"]) fun _ _ _ _ _ _ us hl => match us, hl with | [_, _], _ => rfl
  have m_g15 := PySem.W.mg_of X G n_g15
  have F_g16 := fun_mk (st := sARank) l_g16 c_g16 k_g16
  have b_g16 := F_g16.binds (ps := ["house", "numbers"]) fun _ _ _ _ _ _ us hl => match us, hl with | [_, _], _ => rfl
  have m_g16 := PySem.W.mg_of X G n_g16
  have F_g17 := fun_mk (st := sAPart) l_g17 c_g17 k_g17
  have b_g17 := F_g17.binds (ps := ["house", "numbers"]) fun _ _ _ _ _ _ us hl => match us, hl with | [_, _], _ => rfl
  have m_g17 := PySem.W.mg_of X G n_g17
  have F_g18 := fun_mk (st := sAUpTo) l_g18 c_g18 k_g18
  have b_g18 := F_g18.binds (ps := ["house", "numbers"]) fun _ _ _ _ _ _ us hl => match us, hl with | [_, _], _ => rfl
  have m_g18 := PySem.W.mg_of X G n_g18
  have F_g19 := fun_mk (st := sAAccount) l_g19 c_g19 k_g19
  have b_g19 := F_g19.binds (ps := ["house", "numbers"]) fun _ _ _ _ _ _ us hl => match us, hl with | [_, _], _ => rfl
  have m_g19 := PySem.W.mg_of X G n_g19
  have F_g20 := fun_mk (st := sABuckets) l_g20 c_g20 k_g20
  have b_g20 := F_g20.binds (ps := ["house", "numbers"]) fun _ _ _ _ _ _ us hl => match us, hl with | [_, _], _ => rfl
  have m_g20 := PySem.W.mg_of X G n_g20
  have F_g21 := fun_mk (st := sAEdges) l_g21 c_g21 k_g21
  have b_g21 := F_g21.binds (ps := ["house", "numbers"]) fun _ _ _ _ _ _ us hl => match us, hl with | [_, _], _ => rfl
  have m_g21 := PySem.W.mg_of X G n_g21
  have F_g22 := fun_mk (st := sAnswers) l_g22 c_g22 k_g22
  have b_g22 := F_g22.binds (ps := ["calls"]) fun _ _ _ _ _ _ us hl => match us, hl with | [_], _ => rfl
  have m_g22 := PySem.W.mg_of X G n_g22
  have F_a0 := fun_mk (st := sNew) l_a0 c_a0 k_a0
  have b_a0 := F_a0.binds (ps := ["self", "fineness", "most"]) fun _ _ _ _ _ _ us hl => match us, hl with | [_, _, _], _ => rfl
  have F_a1 := fun_mk (st := sTell) l_a1 c_a1 k_a1
  have b_a1 := F_a1.binds (ps := ["self", "value", "times"]) fun _ _ _ _ _ _ us hl => match us, hl with | [_, _, _], _ => rfl
  have F_a2 := fun_mk (st := sJoin) l_a2 c_a2 k_a2
  have b_a2 := F_a2.binds (ps := ["self", "other"]) fun _ _ _ _ _ _ us hl => match us, hl with | [_, _], _ => rfl
  have F_a3 := fun_mk (st := sTake) l_a3 c_a3 k_a3
  have b_a3 := F_a3.binds (ps := ["self", "total", "amount", "least", "greatest"]) fun _ _ _ _ _ _ us hl => match us, hl with | [_, _, _, _, _], _ => rfl
  have F_a4 := fun_mk (st := sFloor) l_a4 c_a4 k_a4
  have b_a4 := F_a4.binds (ps := ["self"]) fun _ _ _ _ _ _ us hl => match us, hl with | [_], _ => rfl
  have F_a5 := fun_mk (st := sCount) l_a5 c_a5 k_a5
  have b_a5 := F_a5.binds (ps := ["self", "number", "times"]) fun _ _ _ _ _ _ us hl => match us, hl with | [_, _, _], _ => rfl
  have F_a6 := fun_mk (st := sGive) l_a6 c_a6 k_a6
  have b_a6 := F_a6.binds (ps := ["self"]) fun _ _ _ _ _ _ us hl => match us, hl with | [_], _ => rfl
  have F_h0 := fun_mk (st := sHInit) l_h0 c_h0 k_h0
  have b_h0 := F_h0.binds (ps := ["self"]) fun _ _ _ _ _ _ us hl => match us, hl with | [_], _ => rfl
  have F_h1 := fun_mk (st := sHBegin) l_h1 c_h1 k_h1
  have b_h1 := F_h1.binds (ps := ["self", "fineness", "most", "accounts"]) fun _ _ _ _ _ _ us hl => match us, hl with | [_, _, _, _], _ => rfl
  have F_h2 := fun_mk (st := sLacks) l_h2 c_h2 k_h2
  have b_h2 := F_h2.binds (ps := ["self", "number"]) fun _ _ _ _ _ _ us hl => match us, hl with | [_, _], _ => rfl
  have F_h3 := fun_mk (st := sMakeNew) l_h3 c_h3 k_h3
  have b_h3 := F_h3.binds (ps := ["self", "number"]) fun _ _ _ _ _ _ us hl => match us, hl with | [_, _], _ => rfl
  have D : Md K mg CH C _ _ _ _ _ _ _ _ _ _ _ _ _ _ _ _ _ _ _ _ _ _ _ _ _ _ := ⟨⟨mk_C, n_a0, i_a0, kc_C⟩, F_a0, b_a0, F_a1, b_a1, ⟨n_a1, i_a1, k_a1⟩, F_a2, b_a2, ⟨n_a2, i_a2, k_a2⟩, F_a3, b_a3, ⟨n_a3, i_a3, k_a3⟩, F_a4, b_a4, ⟨n_a4, i_a4, k_a4⟩, F_a5, b_a5, ⟨n_a5, i_a5, k_a5⟩, F_a6, b_a6, ⟨n_a6, i_a6, k_a6⟩, F_g3, b_g3, m_g3, F_g2, b_g2, m_g2, F_h1, b_h1, ⟨n_h1, i_h1, k_h1⟩, ⟨mk_CH, n_h0, i_h0, kc_CH⟩, F_h0, b_h0, F_h2, b_h2, ⟨n_h2, i_h2, k_h2⟩, F_h3, b_h3, ⟨n_h3, i_h3, k_h3⟩⟩
  have R : Rk K mg _ _ _ _ _ _ _ _ _ _ _ _ _ _ _ _ _ _ := ⟨F_g0, b_g0, m_g0, F_g1, b_g1, m_g1, F_g4, b_g4, m_g4, F_g6, b_g6, m_g6, F_g7, b_g7, m_g7, F_g8, b_g8, m_g8, F_g9, b_g9, m_g9, F_g10, b_g10, m_g10, F_g11, b_g11, m_g11⟩
  have mGV := PySem.W.mg_of X G gGV
  have mMT := PySem.W.mg_of X G gMT
  have mLB := PySem.W.mg_of X G gLB
  have mGE := PySem.W.mg_of X G gGE
  have mC := PySem.W.mg_of X G aD
  refine ⟨PySem.W.fnOf "answers" "answers" (defArgs sAnswers) (defBody sAnswers) (defScope sAnswers) .none kV_g22 dc_g22 pm_g22 an_g22 cd_g22 ct_g22, fun s us hu => match us, hu with | [_], _ => .of_eq rfl, fun base _ _ => ok_answers F_g22 D TH T mC lD kD fun p n hs => ?_⟩
  rcases shapes hs with ⟨rfl, rfl⟩ | ⟨rfl, rfl⟩ | ⟨rfl, rfl⟩ | ⟨rfl, rfl⟩ | ⟨rfl, rfl⟩ | ⟨rfl, rfl⟩ | ⟨rfl, rfl⟩ | ⟨rfl, rfl⟩ | ⟨rfl, rfl⟩ | ⟨rfl, rfl⟩
  · exact ⟨t_1, f_g12, _, its_1, nn_1, mkBegin, q_1, u_1, rfl, rfl, s_1, v_1, ⟨_, _, (ok_abegin F_g12 D TH T).mono (by decide), k_g12, b_g12⟩, stepIs1⟩
  · exact ⟨t_2, f_g13, _, its_2, nn_2, mkAdd, q_2, u_2, rfl, rfl, s_2, v_2, ⟨_, _, (ok_aadd F_g13 D TH T mGV mMT).mono (by decide), k_g13, b_g13⟩, stepIs2⟩
  · exact ⟨t_3, f_g14, _, its_3, nn_3, mkJoin, q_3, u_3, rfl, rfl, s_3, v_3, ⟨_, _, (ok_ajoin F_g14 D TH T).mono (by decide), k_g14, b_g14⟩, stepIs3⟩
  · exact ⟨t_4, f_g15, _, its_4, nn_4, mkClear, q_4, u_4, rfl, rfl, s_4, v_4, ⟨_, _, (ok_aclear F_g15 D TH T).mono (by decide), k_g15, b_g15⟩, stepIs4⟩
  · exact ⟨t_5, f_g16, _, its_5, nn_5, mkRank, q_5, u_5, rfl, rfl, s_5, v_5, ⟨_, _, (ok_arank F_g16 D R TH T).mono (by decide), k_g16, b_g16⟩, stepIs5⟩
  · exact ⟨t_6, f_g17, _, its_6, nn_6, mkPart, q_6, u_6, rfl, rfl, s_6, v_6, ⟨_, _, (ok_apart F_g17 D R TH T).mono (by decide), k_g17, b_g17⟩, stepIs6⟩
  · exact ⟨t_7, f_g18, _, its_7, nn_7, mkUpTo, q_7, u_7, rfl, rfl, s_7, v_7, ⟨_, _, (ok_aupTo F_g18 D R TH T F_g5 b_g5 m_g5).mono (by decide), k_g18, b_g18⟩, stepIs7⟩
  · exact ⟨t_8, f_g19, _, its_8, nn_8, mkAccount, q_8, u_8, rfl, rfl, s_8, v_8, ⟨_, _, (ok_aaccount F_g19 D TH T).mono (by decide), k_g19, b_g19⟩, stepIs8⟩
  · exact ⟨t_9, f_g20, _, its_9, nn_9, mkBuckets, q_9, u_9, rfl, rfl, s_9, v_9, ⟨_, _, (ok_abuckets F_g20 D TH T).mono (by decide), k_g20, b_g20⟩, stepIs9⟩
  · exact ⟨t_10, f_g21, _, its_10, nn_10, mkEdges, q_10, u_10, rfl, rfl, s_10, v_10, ⟨_, _, (ok_aedges F_g21 R TH T mLB mGE).mono (by decide), k_g21, b_g21⟩, stepIs10⟩
end Wb
open PySem PySem.W PyProof.Rows
set_option maxRecDepth 100000 in
set_option maxHeartbeats 0 in
theorem PySem.Challenge.cw_widebuckets_s01_answers_holds : PySem.Challenge.rw_widebuckets_s01_answers.Holds := by
  w_on; k_headS; (case hw => exact ⟨[.list [.int 8, .int 0]], by decide +kernel, by decide +kernel⟩)
  k_fillS
  refine L2.walk_specK (r := PySem.Challenge.rw_widebuckets_s01_answers) (k := 7) (CX := L2.CX0) (ps := ["calls"]) (sp := Wb.spAnswers) (by decide +kernel) rfl rfl ⟨rfl, by decide, by decide⟩ (fun w h Y => PySem.W.kIn_of Y) ?F ?S (fun _ _ _ _ z => z)
  case F =>
    intro w mg fa h Y KX G hmg
    refine' Wb.all_mk KX G hmg ?aC ?aCH ?n_g0 ?l_g0 ?c_g0 ?k_g0 ?n_g1 ?l_g1 ?c_g1 ?k_g1 ?n_g2 ?l_g2 ?c_g2 ?k_g2 ?n_g3 ?l_g3 ?c_g3 ?k_g3 ?n_g4 ?l_g4 ?c_g4 ?k_g4 ?n_g5 ?l_g5 ?c_g5 ?k_g5 ?n_g6 ?l_g6 ?c_g6 ?k_g6 ?n_g7 ?l_g7 ?c_g7 ?k_g7 ?n_g8 ?l_g8 ?c_g8 ?k_g8 ?n_g9 ?l_g9 ?c_g9 ?k_g9 ?n_g10 ?l_g10 ?c_g10 ?k_g10 ?n_g11 ?l_g11 ?c_g11 ?k_g11 ?n_g12 ?l_g12 ?c_g12 ?k_g12 ?n_g13 ?l_g13 ?c_g13 ?k_g13 ?n_g14 ?l_g14 ?c_g14 ?k_g14 ?n_g15 ?l_g15 ?c_g15 ?k_g15 ?n_g16 ?l_g16 ?c_g16 ?k_g16 ?n_g17 ?l_g17 ?c_g17 ?k_g17 ?n_g18 ?l_g18 ?c_g18 ?k_g18 ?n_g19 ?l_g19 ?c_g19 ?k_g19 ?n_g20 ?l_g20 ?c_g20 ?k_g20 ?n_g21 ?l_g21 ?c_g21 ?k_g21 ?n_g22 ?l_g22 ?c_g22 ?k_g22 ?n_a0 ?i_a0 ?l_a0 ?c_a0 ?k_a0 ?n_a1 ?i_a1 ?l_a1 ?c_a1 ?k_a1 ?n_a2 ?i_a2 ?l_a2 ?c_a2 ?k_a2 ?n_a3 ?i_a3 ?l_a3 ?c_a3 ?k_a3 ?n_a4 ?i_a4 ?l_a4 ?c_a4 ?k_a4 ?n_a5 ?i_a5 ?l_a5 ?c_a5 ?k_a5 ?n_a6 ?i_a6 ?l_a6 ?c_a6 ?k_a6 ?n_h0 ?i_h0 ?l_h0 ?c_h0 ?k_h0 ?n_h1 ?i_h1 ?l_h1 ?c_h1 ?k_h1 ?n_h2 ?i_h2 ?l_h2 ?c_h2 ?k_h2 ?n_h3 ?i_h3 ?l_h3 ?c_h3 ?k_h3 ?pg_C ?hd_C ?po_C ?sa_C ?mk_C ?kc_C ?pg_CH ?hd_CH ?po_CH ?sa_CH ?mk_CH ?kc_CH ?no_fineness ?no_most ?no_total ?no_amount ?no_least ?no_greatest ?no_zeros ?no_counts ?no_is_cut ?nh_fineness ?nh_most ?nh_accounts ?z_len ?z_min ?z_max ?z_range ?z_sorted ?gGV ?gMT ?gLB ?gGE ?aD ?lD ?kD ?q_1 ?u_1 ?s_1 ?v_1 ?q_2 ?u_2 ?s_2 ?v_2 ?q_3 ?u_3 ?s_3 ?v_3 ?q_4 ?u_4 ?s_4 ?v_4 ?q_5 ?u_5 ?s_5 ?v_5 ?q_6 ?u_6 ?s_6 ?v_6 ?q_7 ?u_7 ?s_7 ?v_7 ?q_8 ?u_8 ?s_8 ?v_8 ?q_9 ?u_9 ?s_9 ?v_9 ?q_10 ?u_10 ?s_10 ?v_10
    (case aC => k_is)
    (case aCH => k_is)
    (case n_g0 => k_is)
    (case l_g0 => k_is)
    (case c_g0 => k_is)
    (case k_g0 => k_is)
    (case n_g1 => k_is)
    (case l_g1 => k_is)
    (case c_g1 => k_is)
    (case k_g1 => k_is)
    (case n_g2 => k_is)
    (case l_g2 => k_is)
    (case c_g2 => k_is)
    (case k_g2 => k_is)
    (case n_g3 => k_is)
    (case l_g3 => k_is)
    (case c_g3 => k_is)
    (case k_g3 => k_is)
    (case n_g4 => k_is)
    (case l_g4 => k_is)
    (case c_g4 => k_is)
    (case k_g4 => k_is)
    (case n_g5 => k_is)
    (case l_g5 => k_is)
    (case c_g5 => k_is)
    (case k_g5 => k_is)
    (case n_g6 => k_is)
    (case l_g6 => k_is)
    (case c_g6 => k_is)
    (case k_g6 => k_is)
    (case n_g7 => k_is)
    (case l_g7 => k_is)
    (case c_g7 => k_is)
    (case k_g7 => k_is)
    (case n_g8 => k_is)
    (case l_g8 => k_is)
    (case c_g8 => k_is)
    (case k_g8 => k_is)
    (case n_g9 => k_is)
    (case l_g9 => k_is)
    (case c_g9 => k_is)
    (case k_g9 => k_is)
    (case n_g10 => k_is)
    (case l_g10 => k_is)
    (case c_g10 => k_is)
    (case k_g10 => k_is)
    (case n_g11 => k_is)
    (case l_g11 => k_is)
    (case c_g11 => k_is)
    (case k_g11 => k_is)
    (case n_g12 => k_is)
    (case l_g12 => k_is)
    (case c_g12 => k_is)
    (case k_g12 => k_is)
    (case n_g13 => k_is)
    (case l_g13 => k_is)
    (case c_g13 => k_is)
    (case k_g13 => k_is)
    (case n_g14 => k_is)
    (case l_g14 => k_is)
    (case c_g14 => k_is)
    (case k_g14 => k_is)
    (case n_g15 => k_is)
    (case l_g15 => k_is)
    (case c_g15 => k_is)
    (case k_g15 => k_is)
    (case n_g16 => k_is)
    (case l_g16 => k_is)
    (case c_g16 => k_is)
    (case k_g16 => k_is)
    (case n_g17 => k_is)
    (case l_g17 => k_is)
    (case c_g17 => k_is)
    (case k_g17 => k_is)
    (case n_g18 => k_is)
    (case l_g18 => k_is)
    (case c_g18 => k_is)
    (case k_g18 => k_is)
    (case n_g19 => k_is)
    (case l_g19 => k_is)
    (case c_g19 => k_is)
    (case k_g19 => k_is)
    (case n_g20 => k_is)
    (case l_g20 => k_is)
    (case c_g20 => k_is)
    (case k_g20 => k_is)
    (case n_g21 => k_is)
    (case l_g21 => k_is)
    (case c_g21 => k_is)
    (case k_g21 => k_is)
    (case n_g22 => k_is)
    (case l_g22 => k_is)
    (case c_g22 => k_is)
    (case k_g22 => k_is)
    (case n_a0 => k_is)
    (case i_a0 => k_is)
    (case l_a0 => k_is)
    (case c_a0 => k_is)
    (case k_a0 => k_is)
    (case n_a1 => k_is)
    (case i_a1 => k_is)
    (case l_a1 => k_is)
    (case c_a1 => k_is)
    (case k_a1 => k_is)
    (case n_a2 => k_is)
    (case i_a2 => k_is)
    (case l_a2 => k_is)
    (case c_a2 => k_is)
    (case k_a2 => k_is)
    (case n_a3 => k_is)
    (case i_a3 => k_is)
    (case l_a3 => k_is)
    (case c_a3 => k_is)
    (case k_a3 => k_is)
    (case n_a4 => k_is)
    (case i_a4 => k_is)
    (case l_a4 => k_is)
    (case c_a4 => k_is)
    (case k_a4 => k_is)
    (case n_a5 => k_is)
    (case i_a5 => k_is)
    (case l_a5 => k_is)
    (case c_a5 => k_is)
    (case k_a5 => k_is)
    (case n_a6 => k_is)
    (case i_a6 => k_is)
    (case l_a6 => k_is)
    (case c_a6 => k_is)
    (case k_a6 => k_is)
    (case n_h0 => k_is)
    (case i_h0 => k_is)
    (case l_h0 => k_is)
    (case c_h0 => k_is)
    (case k_h0 => k_is)
    (case n_h1 => k_is)
    (case i_h1 => k_is)
    (case l_h1 => k_is)
    (case c_h1 => k_is)
    (case k_h1 => k_is)
    (case n_h2 => k_is)
    (case i_h2 => k_is)
    (case l_h2 => k_is)
    (case c_h2 => k_is)
    (case k_h2 => k_is)
    (case n_h3 => k_is)
    (case i_h3 => k_is)
    (case l_h3 => k_is)
    (case c_h3 => k_is)
    (case k_h3 => k_is)
    (case pg_C => k_is)
    (case hd_C => k_is)
    (case po_C => k_is)
    (case sa_C => k_is)
    (case mk_C => k_is)
    (case kc_C => k_is)
    (case pg_CH => k_is)
    (case hd_CH => k_is)
    (case po_CH => k_is)
    (case sa_CH => k_is)
    (case mk_CH => k_is)
    (case kc_CH => k_is)
    (case no_fineness => k_is)
    (case no_most => k_is)
    (case no_total => k_is)
    (case no_amount => k_is)
    (case no_least => k_is)
    (case no_greatest => k_is)
    (case no_zeros => k_is)
    (case no_counts => k_is)
    (case no_is_cut => k_is)
    (case nh_fineness => k_is)
    (case nh_most => k_is)
    (case nh_accounts => k_is)
    (case z_len => k_is)
    (case z_min => k_is)
    (case z_max => k_is)
    (case z_range => k_is)
    (case z_sorted => k_is)
    (case gGV => k_is)
    (case gMT => k_is)
    (case gLB => k_is)
    (case gGE => k_is)
    (case aD => k_is)
    (case lD => k_is)
    (case kD => exact ⟨⟨_, _, rfl, rfl⟩, ⟨_, _, rfl, rfl⟩, ⟨_, _, rfl, rfl⟩, ⟨_, _, rfl, rfl⟩, ⟨_, _, rfl, rfl⟩, ⟨_, _, rfl, rfl⟩, ⟨_, _, rfl, rfl⟩, ⟨_, _, rfl, rfl⟩, ⟨_, _, rfl, rfl⟩, ⟨_, _, rfl, rfl⟩, trivial⟩)
    (case q_1 => rfl)
    (case u_1 => k_is)
    (case s_1 => decide)
    (case v_1 => exact .cons ⟨_, rfl⟩ (.cons rfl .nil))
    (case q_2 => rfl)
    (case u_2 => k_is)
    (case s_2 => decide)
    (case v_2 => exact .cons ⟨_, rfl⟩ (.cons rfl .nil))
    (case q_3 => rfl)
    (case u_3 => k_is)
    (case s_3 => decide)
    (case v_3 => exact .cons ⟨_, rfl⟩ (.cons rfl .nil))
    (case q_4 => rfl)
    (case u_4 => k_is)
    (case s_4 => decide)
    (case v_4 => exact .cons ⟨_, rfl⟩ (.cons rfl .nil))
    (case q_5 => rfl)
    (case u_5 => k_is)
    (case s_5 => decide)
    (case v_5 => exact .cons ⟨_, rfl⟩ (.cons rfl .nil))
    (case q_6 => rfl)
    (case u_6 => k_is)
    (case s_6 => decide)
    (case v_6 => exact .cons ⟨_, rfl⟩ (.cons rfl .nil))
    (case q_7 => rfl)
    (case u_7 => k_is)
    (case s_7 => decide)
    (case v_7 => exact .cons ⟨_, rfl⟩ (.cons rfl .nil))
    (case q_8 => rfl)
    (case u_8 => k_is)
    (case s_8 => decide)
    (case v_8 => exact .cons ⟨_, rfl⟩ (.cons rfl .nil))
    (case q_9 => rfl)
    (case u_9 => k_is)
    (case s_9 => decide)
    (case v_9 => exact .cons ⟨_, rfl⟩ (.cons rfl .nil))
    (case q_10 => rfl)
    (case u_10 => k_is)
    (case s_10 => decide)
    (case v_10 => exact .cons ⟨_, rfl⟩ (.cons rfl .nil))
  case S =>
    intro K H xs a hO hwi hask hx
    cases hx with
    | cons h1 h2 =>
      cases h2
      cases h1 with
      | lst hs ha =>
        have e := L2.ints_dw a.1 _ ha
        subst e
        exact ⟨_, a.1, rfl, hs, hask, fun H' p hp => .lst (L2.SqL.of hp) (L2.dw_ints _)⟩
