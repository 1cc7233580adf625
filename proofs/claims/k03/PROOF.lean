import PyProof.Rows.All
import Wide.All
import OpenK.AllK
import Wide.FinOn
import HandS.ForMost
import HandS.ForExc
import HandS.ExcInit
import HandS.ExcField
import HandS.ClsMeth
import HandS.Property
import HandS.Defaults
import HandS.IsInst
import HandS.ExcIs
import HandS.StrMore
import HandS.Codes
import PySem.Challenge.RW_sentonward_k03_whole_address_texts
set_option Elab.async false
set_option linter.all false
set_option maxRecDepth 100000
set_option maxHeartbeats 8000000
namespace AddrMath
/-- a letter from a to z -/
def isL (c : Nat) : Bool := decide (97 ≤ c) && decide (c ≤ 122)
/-- a word -/
def isW (l : List Nat) : Bool := decide (1 ≤ l.length) && (decide (l.length ≤ 8) && l.all isL)
theorem isW_iff {l : List Nat} : isW l = true ↔ 1 ≤ l.length ∧ l.length ≤ 8 ∧ ∀ c ∈ l, isL c = true := by
  unfold isW
  rw [Bool.and_eq_true, Bool.and_eq_true, decide_eq_true_eq, decide_eq_true_eq, List.all_eq_true]
theorem isL_ne {c d : Nat} (h : isL c = true) (hd : d < 97) : c ≠ d := by
  unfold isL at h
  rw [Bool.and_eq_true, decide_eq_true_eq, decide_eq_true_eq] at h
  omega
/-- cut at each d -/
def sp (d : Nat) : List Nat → List (List Nat)
  | [] => [[]]
  | c :: r => if c = d then [] :: sp d r else match sp d r with
    | [] => [[c]]
    | p :: q => (c :: p) :: q
theorem sp_ne (d : Nat) : ∀ l, sp d l ≠ []
  | [] => by simp [sp]
  | c :: r => by
    unfold sp
    split
    · simp
    · split <;> simp
theorem sp_hit (d : Nat) (r : List Nat) : sp d (d :: r) = [] :: sp d r := by
  show (if d = d then [] :: sp d r else _) = _
  rw [if_pos rfl]
/-- the first piece and the others -/
theorem sp_cons (d : Nat) (l : List Nat) : ∃ p q, sp d l = p :: q := by
  cases h : sp d l with
  | nil => exact absurd h (sp_ne d l)
  | cons p q => exact ⟨p, q, rfl⟩
theorem sp_miss {d c : Nat} {r p : List Nat} {q : List (List Nat)} (hc : c ≠ d) (h : sp d r = p :: q) : sp d (c :: r) = (c :: p) :: q := by
  show (if c = d then [] :: sp d r else match sp d r with | [] => [[c]] | p :: q => (c :: p) :: q) = _
  rw [if_neg hc, h]
theorem sp_pre {d : Nat} : ∀ {a r p : List Nat} {q : List (List Nat)}, d ∉ a → sp d r = p :: q → sp d (a ++ r) = (a ++ p) :: q
  | [], _, _, _, _, h => h
  | c :: a, r, p, q, ha, h => by
    have h1 : c ≠ d := fun e => ha (by rw [e]; exact List.mem_cons_self ..)
    have h2 : d ∉ a := fun e => ha (List.mem_cons_of_mem _ e)
    exact sp_miss h1 (sp_pre h2 h)
theorem sp_free {d : Nat} {a : List Nat} (h : d ∉ a) : sp d a = [a] := by
  have e := sp_pre (r := []) (p := []) (q := []) h (by rfl)
  rw [List.append_nil] at e
  exact e
theorem sp_at {d : Nat} {a r : List Nat} (h : d ∉ a) : sp d (a ++ d :: r) = a :: sp d r := by
  have e := sp_pre (r := d :: r) (p := []) (q := sp d r) h (sp_hit d r)
  rw [List.append_nil] at e
  exact e
/-! ### the law's own look -/
/-- the pieces behind the first one: words, the last one may be empty -/
def segs : List (List Nat) → Bool
  | [] => false
  | [p] => decide (p = []) || isW p
  | p :: q :: r => isW p && segs (q :: r)
def tailOk (b : List Nat) : Bool := match sp 47 b with
  | [] => false
  | p :: q => decide (p = []) && segs q
def cb (l : List Nat) : Bool := match sp 58 l with
  | [a] => decide (a = []) || isW a
  | [a, b] => isW a && (decide (b = []) || tailOk b)
  | _ => false
/-! ### sign by sign -/
def cC : Nat → List Nat → Bool
  | _, [] => true
  | k, c :: r => if isL c = true then decide (k < 8) && cC (k + 1) r else if c = 47 then decide (1 ≤ k) && cC 0 r else false
def cB : List Nat → Bool
  | [] => true
  | c :: r => if c = 47 then cC 0 r else false
def cA : Nat → List Nat → Bool
  | _, [] => true
  | k, c :: r => if isL c = true then decide (k < 8) && cA (k + 1) r else if c = 58 then decide (1 ≤ k) && cB r else false
theorem isW_long {p : List Nat} (h : 8 < p.length) : isW p = false := by
  cases e : isW p with
  | false => rfl
  | true =>
    have := isW_iff.mp e
    omega
theorem isW_bad {p : List Nat} {c : Nat} (h : c ∈ p) (hc : isL c = false) : isW p = false := by
  cases e : isW p with
  | false => rfl
  | true =>
    have := (isW_iff.mp e).2.2 c h
    rw [hc] at this
    cases this
theorem segs_bad {p : List Nat} {q : List (List Nat)} (h : isW p = false) (hp : p ≠ []) : segs (p :: q) = false := by
  cases q with
  | nil => simp [segs, h, hp]
  | cons a q => simp [segs, h]
theorem isW_mk {a : List Nat} (h8 : a.length ≤ 8) (hl : ∀ c ∈ a, isL c = true) : isW a = decide (1 ≤ a.length) := by
  by_cases h : 1 ≤ a.length
  · rw [decide_eq_true h]
    exact isW_iff.mpr ⟨h, h8, hl⟩
  · rw [decide_eq_false h]
    cases e : isW a with
    | false => rfl
    | true => exact absurd (isW_iff.mp e).1 h
theorem all_snoc {a : List Nat} {c : Nat} (hl : ∀ x ∈ a, isL x = true) (hc : isL c = true) : ∀ x ∈ a ++ [c], isL x = true := by
  intro x hx
  rcases List.mem_append.mp hx with h | h
  · exact hl x h
  · rw [List.mem_singleton.mp h]
    exact hc
theorem no_of {a : List Nat} {d : Nat} (hd : d < 97) (hl : ∀ x ∈ a, isL x = true) : d ∉ a := fun h => isL_ne (hl d h) hd rfl
theorem cC_segs : ∀ (l a : List Nat), a.length ≤ 8 → (∀ c ∈ a, isL c = true) → segs (sp 47 (a ++ l)) = cC a.length l
  | [], a, h8, hl => by
    rw [List.append_nil, sp_free (no_of (by decide) hl)]
    show (decide (a = []) || isW a) = true
    rw [isW_mk h8 hl]
    cases a <;> simp
  | c :: r, a, h8, hl => by
    have h47 := no_of (d := 47) (by decide) hl
    show _ = (if isL c = true then decide (a.length < 8) && cC (a.length + 1) r else if c = 47 then decide (1 ≤ a.length) && cC 0 r else false)
    by_cases hc : isL c = true
    · rw [if_pos hc]
      have hne : c ≠ 47 := isL_ne hc (by decide)
      by_cases hk : a.length < 8
      · have ih := cC_segs r (a ++ [c]) (by rw [List.length_append]; exact hk) (all_snoc hl hc)
        rw [List.append_assoc] at ih
        rw [decide_eq_true hk, Bool.true_and]
        have e : (a ++ [c]).length = a.length + 1 := by simp
        rw [e] at ih
        exact ih
      · rw [decide_eq_false hk, Bool.false_and]
        obtain ⟨p, q, hp⟩ := sp_cons 47 r
        rw [sp_pre h47 (sp_miss hne hp)]
        refine segs_bad (isW_long ?_) (by simp)
        rw [List.length_append, List.length_cons]
        omega
    · rw [if_neg hc]
      by_cases he : c = 47
      · rw [if_pos he, he, sp_at h47]
        obtain ⟨p, q, hp⟩ := sp_cons 47 r
        have ih := cC_segs r [] (by simp) (fun x hx => by cases hx)
        rw [List.nil_append] at ih
        rw [show cC 0 r = cC ([] : List Nat).length r from rfl, ← ih, hp, ← isW_mk h8 hl]
        rfl
      · rw [if_neg he]
        obtain ⟨p, q, hp⟩ := sp_cons 47 r
        rw [sp_pre h47 (sp_miss he hp)]
        exact segs_bad (isW_bad (c := c) (by simp) (by simpa using hc)) (by simp)
/-- behind the colon -/
theorem cB_tail (b : List Nat) : (decide (b = []) || tailOk b) = cB b := by
  cases b with
  | nil => rfl
  | cons c r =>
    show (decide (c :: r = []) || tailOk (c :: r)) = (if c = 47 then cC 0 r else false)
    rw [decide_eq_false (by simp), Bool.false_or]
    by_cases hc : c = 47
    · rw [if_pos hc, hc]
      unfold tailOk
      rw [sp_hit]
      show (decide (([] : List Nat) = []) && segs (sp 47 r)) = _
      rw [decide_eq_true rfl, Bool.true_and]
      exact cC_segs r [] (by simp) (fun x hx => by cases hx)
    · rw [if_neg hc]
      unfold tailOk
      obtain ⟨p, q, hp⟩ := sp_cons 47 r
      rw [sp_miss hc hp]
      show (decide (c :: p = []) && segs q) = false
      rw [decide_eq_false (by simp), Bool.false_and]
theorem cC_58 : ∀ (k : Nat) (r : List Nat), 58 ∈ r → cC k r = false
  | _, [], h => by cases h
  | k, c :: r, h => by
    show (if isL c = true then decide (k < 8) && cC (k + 1) r else if c = 47 then decide (1 ≤ k) && cC 0 r else false) = false
    by_cases hc : isL c = true
    · rw [if_pos hc]
      have hm : 58 ∈ r := by
        rcases List.mem_cons.mp h with e | e
        · exact absurd e.symm (isL_ne hc (by decide))
        · exact e
      rw [cC_58 (k + 1) r hm, Bool.and_false]
    · rw [if_neg hc]
      by_cases he : c = 47
      · rw [if_pos he]
        have hm : 58 ∈ r := by
          rcases List.mem_cons.mp h with e | e
          · omega
          · exact e
        rw [cC_58 0 r hm, Bool.and_false]
      · rw [if_neg he]
theorem cB_58 {r : List Nat} (h : 58 ∈ r) : cB r = false := by
  cases r with
  | nil => cases h
  | cons c r =>
    show (if c = 47 then cC 0 r else false) = false
    by_cases hc : c = 47
    · rw [if_pos hc]
      refine cC_58 0 r ?_
      rcases List.mem_cons.mp h with e | e
      · omega
      · exact e
    · rw [if_neg hc]
theorem sp_two {d : Nat} : ∀ {r : List Nat}, d ∈ r → ∃ p q s, sp d r = p :: q :: s
  | [], h => by cases h
  | c :: r, h => by
    by_cases hc : c = d
    · rw [hc, sp_hit]
      obtain ⟨p, q, e⟩ := sp_cons d r
      exact ⟨[], p, q, by rw [e]⟩
    · have hm : d ∈ r := by
        rcases List.mem_cons.mp h with e | e
        · exact absurd e.symm hc
        · exact e
      obtain ⟨p, q, s, e⟩ := sp_two hm
      exact ⟨c :: p, q, s, sp_miss hc e⟩
theorem cb_bad {p : List Nat} {q : List (List Nat)} {l : List Nat} (e : sp 58 l = p :: q) (h : isW p = false) (hp : p ≠ []) : cb l = false := by
  unfold cb
  rw [e]
  match q with
  | [] => simp [h, hp]
  | [b] => simp [h]
  | _ :: _ :: _ => rfl
theorem cA_cb : ∀ (l a : List Nat), a.length ≤ 8 → (∀ c ∈ a, isL c = true) → cb (a ++ l) = cA a.length l
  | [], a, h8, hl => by
    unfold cb
    rw [List.append_nil, sp_free (no_of (by decide) hl)]
    show (decide (a = []) || isW a) = true
    rw [isW_mk h8 hl]
    cases a <;> simp
  | c :: r, a, h8, hl => by
    have h58 := no_of (d := 58) (by decide) hl
    show _ = (if isL c = true then decide (a.length < 8) && cA (a.length + 1) r else if c = 58 then decide (1 ≤ a.length) && cB r else false)
    by_cases hc : isL c = true
    · rw [if_pos hc]
      have hne : c ≠ 58 := isL_ne hc (by decide)
      by_cases hk : a.length < 8
      · have ih := cA_cb r (a ++ [c]) (by rw [List.length_append]; exact hk) (all_snoc hl hc)
        rw [List.append_assoc] at ih
        rw [decide_eq_true hk, Bool.true_and]
        have e : (a ++ [c]).length = a.length + 1 := by simp
        rw [e] at ih
        exact ih
      · rw [decide_eq_false hk, Bool.false_and]
        obtain ⟨p, q, hp⟩ := sp_cons 58 r
        refine cb_bad (sp_pre h58 (sp_miss hne hp)) (isW_long ?_) (by simp)
        rw [List.length_append, List.length_cons]
        omega
    · rw [if_neg hc]
      by_cases he : c = 58
      · rw [if_pos he, he, ← isW_mk h8 hl]
        by_cases hm : 58 ∈ r
        · obtain ⟨p, q, s, e⟩ := sp_two hm
          rw [cB_58 hm, Bool.and_false]
          unfold cb
          rw [sp_at h58, e]
        · unfold cb
          rw [sp_at h58, sp_free hm, ← cB_tail]
      · rw [if_neg he]
        obtain ⟨p, q, hp⟩ := sp_cons 58 r
        exact cb_bad (sp_pre h58 (sp_miss he hp)) (isW_bad (c := c) (by simp) (by simpa using hc)) (by simp)
theorem cb_cA (l : List Nat) : cb l = cA 0 l := by
  have e := cA_cb l [] (by simp) (fun x hx => by cases hx)
  rw [List.nil_append] at e
  exact e
/-! ### how far it goes -/
def lC : Nat → List Nat → Nat
  | _, [] => 0
  | k, c :: r => if isL c = true then (if k < 8 then lC (k + 1) r + 1 else 0) else if c = 47 then (if 1 ≤ k then lC 0 r + 1 else 0) else 0
def lB : List Nat → Nat
  | [] => 0
  | c :: r => if c = 47 then lC 0 r + 1 else 0
def lA : Nat → List Nat → Nat
  | _, [] => 0
  | k, c :: r => if isL c = true then (if k < 8 then lA (k + 1) r + 1 else 0) else if c = 58 then (if 1 ≤ k then lB r + 1 else 0) else 0
theorem lB_cons (c : Nat) (r : List Nat) : lB (c :: r) = if c = 47 then lC 0 r + 1 else 0 := rfl
theorem cB_cons (c : Nat) (r : List Nat) : cB (c :: r) = if c = 47 then cC 0 r else false := rfl
theorem cC_take : ∀ (l : List Nat) (k j : Nat), j ≤ l.length → cC k (l.take j) = decide (j ≤ lC k l)
  | [], k, j, h => by
    have e : j = 0 := by simpa using h
    subst e
    rfl
  | c :: r, k, 0, _ => by simp [cC]
  | c :: r, k, j + 1, h => by
    have hj : j ≤ r.length := by simpa using h
    rw [List.take_succ_cons]
    unfold cC lC
    by_cases hc : isL c = true
    · rw [if_pos hc, if_pos hc]
      by_cases hk : k < 8
      · rw [if_pos hk, decide_eq_true hk, Bool.true_and, cC_take r (k + 1) j hj]
        simp
      · rw [if_neg hk, decide_eq_false hk, Bool.false_and]
        simp
    · rw [if_neg hc, if_neg hc]
      by_cases he : c = 47
      · rw [if_pos he, if_pos he]
        by_cases hk : 1 ≤ k
        · rw [if_pos hk, decide_eq_true hk, Bool.true_and, cC_take r 0 j hj]
          simp
        · rw [if_neg hk, decide_eq_false hk, Bool.false_and]
          simp
      · rw [if_neg he, if_neg he]
        simp
theorem cB_take (l : List Nat) (j : Nat) (h : j ≤ l.length) : cB (l.take j) = decide (j ≤ lB l) := by
  cases l with
  | nil =>
    have e : j = 0 := by simpa using h
    subst e
    rfl
  | cons c r =>
    cases j with
    | zero => simp [cB]
    | succ j =>
      have hj : j ≤ r.length := by simpa using h
      rw [List.take_succ_cons, cB_cons, lB_cons]
      by_cases he : c = 47
      · rw [if_pos he, if_pos he, cC_take r 0 j hj]
        simp
      · rw [if_neg he, if_neg he]
        simp
theorem cA_take : ∀ (l : List Nat) (k j : Nat), j ≤ l.length → cA k (l.take j) = decide (j ≤ lA k l)
  | [], k, j, h => by
    have e : j = 0 := by simpa using h
    subst e
    rfl
  | c :: r, k, 0, _ => by simp [cA]
  | c :: r, k, j + 1, h => by
    have hj : j ≤ r.length := by simpa using h
    rw [List.take_succ_cons]
    unfold cA lA
    by_cases hc : isL c = true
    · rw [if_pos hc, if_pos hc]
      by_cases hk : k < 8
      · rw [if_pos hk, decide_eq_true hk, Bool.true_and, cA_take r (k + 1) j hj]
        simp
      · rw [if_neg hk, decide_eq_false hk, Bool.false_and]
        simp
    · rw [if_neg hc, if_neg hc]
      by_cases he : c = 58
      · rw [if_pos he, if_pos he]
        by_cases hk : 1 ≤ k
        · rw [if_pos hk, decide_eq_true hk, Bool.true_and, cB_take r j hj]
          simp
        · rw [if_neg hk, decide_eq_false hk, Bool.false_and]
          simp
      · rw [if_neg he, if_neg he]
        simp
theorem lC_le : ∀ (l : List Nat) (k : Nat), lC k l ≤ l.length
  | [], _ => Nat.le_refl _
  | c :: r, k => by
    have i1 := lC_le r (k + 1)
    have i2 := lC_le r 0
    unfold lC
    rw [List.length_cons]
    repeat' split
    all_goals omega
theorem lB_le (l : List Nat) : lB l ≤ l.length := by
  cases l with
  | nil => exact Nat.le_refl _
  | cons c r =>
    have i2 := lC_le r 0
    rw [lB_cons, List.length_cons]
    split <;> omega
theorem lA_le : ∀ (l : List Nat) (k : Nat), lA k l ≤ l.length
  | [], _ => Nat.le_refl _
  | c :: r, k => by
    have i1 := lA_le r (k + 1)
    have i2 := lB_le r
    unfold lA
    rw [List.length_cons]
    repeat' split
    all_goals omega
/-- the longest beginning with which some text begins -/
theorem cb_take (l : List Nat) (j : Nat) (h : j ≤ l.length) : cb (l.take j) = decide (j ≤ lA 0 l) := by
  rw [cb_cA]
  exact cA_take l 0 j h
/-! ### the program's reader -/
/-- letters that are read on from k ones -/
def run : Nat → List Nat → Nat
  | _, [] => 0
  | k, c :: r => if k < 8 ∧ isL c = true then run (k + 1) r + 1 else 0
theorem run_le : ∀ (l : List Nat) (k : Nat), run k l ≤ l.length
  | [], _ => Nat.le_refl _
  | c :: r, k => by
    have := run_le r (k + 1)
    unfold run
    rw [List.length_cons]
    split <;> omega
theorem run_8 : ∀ (l : List Nat) (k : Nat), k ≤ 8 → k + run k l ≤ 8
  | [], k, h => h
  | c :: r, k, h => by
    unfold run
    split
    · rename_i hh
      have := run_8 r (k + 1) (by omega)
      omega
    · omega
theorem run_all : ∀ (l : List Nat) (k : Nat), ∀ c ∈ l.take (run k l), isL c = true
  | [], k, c, h => by simp [run] at h
  | d :: r, k, c, h => by
    unfold run at h
    split at h
    · rename_i hh
      rw [List.take_succ_cons] at h
      rcases List.mem_cons.mp h with e | e
      · rw [e]
        exact hh.2
      · exact run_all r (k + 1) c e
    · simp at h
theorem lC_run : ∀ (l : List Nat) (k : Nat), k ≤ 8 → lC k l = run k l + (if 1 ≤ k + run k l then lB (l.drop (run k l)) else 0)
  | [], k, _ => by
    simp [lC, run, lB]
  | c :: r, k, hk8 => by
    unfold lC run
    by_cases hc : isL c = true
    · by_cases hk : k < 8
      · rw [if_pos hc, if_pos hk, if_pos ⟨hk, hc⟩, lC_run r (k + 1) (by omega), List.drop_succ_cons]
        have e1 : 1 ≤ k + 1 + run (k + 1) r := by omega
        have e2 : 1 ≤ k + (run (k + 1) r + 1) := by omega
        rw [if_pos e1, if_pos e2]
        omega
      · have hn : ¬ (k < 8 ∧ isL c = true) := fun h => hk h.1
        rw [if_pos hc, if_neg hk, if_neg hn, List.drop_zero]
        have e : lB (c :: r) = 0 := by
          rw [lB_cons, if_neg (isL_ne hc (by decide))]
        rw [e]
        split <;> rfl
    · have hn : ¬ (k < 8 ∧ isL c = true) := fun h => hc h.2
      rw [if_neg hc, if_neg hn, List.drop_zero, Nat.zero_add, Nat.add_zero]
      rw [lB_cons]
      by_cases he : c = 47
      · rw [if_pos he, if_pos he]
        rfl
      · rw [if_neg he, if_neg he]
        split <;> rfl
theorem lA_run : ∀ (l : List Nat) (k : Nat), k ≤ 8 → lA k l = run k l + (if 1 ≤ k + run k l ∧ (l.drop (run k l)).head? = some 58 then lB (l.drop (run k l + 1)) + 1 else 0)
  | [], k, _ => by
    simp [lA, run]
  | c :: r, k, hk8 => by
    unfold lA run
    by_cases hc : isL c = true
    · by_cases hk : k < 8
      · rw [if_pos hc, if_pos hk, if_pos ⟨hk, hc⟩, lA_run r (k + 1) (by omega), List.drop_succ_cons, List.drop_succ_cons]
        have e1 : 1 ≤ k + 1 + run (k + 1) r := by omega
        have e2 : 1 ≤ k + (run (k + 1) r + 1) := by omega
        by_cases hh : (r.drop (run (k + 1) r)).head? = some 58
        · rw [if_pos ⟨e1, hh⟩, if_pos ⟨e2, hh⟩]
          omega
        · rw [if_neg (fun z => hh z.2), if_neg (fun z => hh z.2)]
      · have hn : ¬ (k < 8 ∧ isL c = true) := fun h => hk h.1
        rw [if_pos hc, if_neg hk, if_neg hn, List.drop_zero]
        rw [if_neg]
        intro z
        have : c = 58 := by simpa using z.2
        exact isL_ne hc (by decide) this
    · have hn : ¬ (k < 8 ∧ isL c = true) := fun h => hc h.2
      rw [if_neg hc, if_neg hn, List.drop_zero, Nat.zero_add, Nat.add_zero]
      show _ = (if 1 ≤ k ∧ some c = some 58 then lB r + 1 else 0)
      by_cases he : c = 58
      · rw [if_pos he]
        by_cases h1 : 1 ≤ k
        · rw [if_pos h1, if_pos ⟨h1, by rw [he]⟩]
        · rw [if_neg h1, if_neg (fun z => h1 z.1)]
      · rw [if_neg he, if_neg (fun z => he (Option.some.inj z.2))]
theorem lB_58 : ∀ (k : Nat) (r : List Nat), lC k r = r.length → 58 ∉ r
  | _, [], _ => by simp
  | k, c :: r, h => by
    unfold lC at h
    rw [List.length_cons] at h
    by_cases hc : isL c = true
    · rw [if_pos hc] at h
      split at h
      · have := lB_58 (k + 1) r (by omega)
        intro hm
        rcases List.mem_cons.mp hm with e | e
        · exact isL_ne hc (by decide) e.symm
        · exact this e
      · omega
    · rw [if_neg hc] at h
      split at h
      · split at h
        · have := lB_58 0 r (by omega)
          intro hm
          rcases List.mem_cons.mp hm with e | e
          · omega
          · exact this e
        · omega
      · omega
theorem lB_free {b : List Nat} (h : lB b = b.length) : 58 ∉ b := by
  cases b with
  | nil => simp
  | cons c r =>
    rw [lB_cons, List.length_cons] at h
    split at h
    · have := lB_58 0 r (by omega)
      intro hm
      rcases List.mem_cons.mp hm with e | e
      · omega
      · exact this e
    · omega
/-! ### what is told -/
inductive Told where
  | bad (n : Nat)
  | good (s : List Nat) (p : List (List Nat))
/-- the loop behind the colon: what is left, the path so far; how many signs stand ahead -/
def rdB : Nat → List Nat → Nat → List (List Nat) → Nat ⊕ List (List Nat)
  | _, [], _, path => .inr path
  | 0, _ :: _, n, _ => .inl n
  | f + 1, c :: r, n, path => if c ≠ 47 then .inl n else if run 0 r = 0 then .inl (n + 1) else rdB f (r.drop (run 0 r)) (n + 1 + run 0 r) (path ++ [r.take (run 0 r)])
def lastIs (b : List Nat) (c : Nat) : Prop := b.getLast? = some c
instance (b : List Nat) (c : Nat) : Decidable (lastIs b c) := inferInstanceAs (Decidable (_ = _))
def good (b : List Nat) : Prop := lB b = b.length ∧ ¬ lastIs b 47
instance (b : List Nat) : Decidable (good b) := inferInstanceAs (Decidable (_ ∧ _))
theorem rdB_is : ∀ (f : Nat) (b : List Nat) (n : Nat) (path : List (List Nat)), b.length ≤ f → rdB f b n path = if good b then .inr (path ++ (sp 47 b).tail) else .inl (n + lB b)
  | f, [], n, path, _ => by
    have g : good [] := ⟨rfl, by simp [lastIs]⟩
    rw [if_pos g]
    cases f <;> simp [rdB, sp]
  | 0, c :: r, n, path, h => by simp at h
  | f + 1, c :: r, n, path, h => by
    have hr : r.length ≤ f := by simpa using h
    show (if c ≠ 47 then .inl n else if run 0 r = 0 then .inl (n + 1) else rdB f (r.drop (run 0 r)) (n + 1 + run 0 r) (path ++ [r.take (run 0 r)])) = _
    by_cases hc : c = 47
    · rw [if_neg (fun z => z hc)]
      subst hc
      have e1 : lB (47 :: r) = lC 0 r + 1 := by rw [lB_cons, if_pos rfl]
      have e2 := lC_run r 0 (by decide)
      rw [Nat.zero_add] at e2
      by_cases hw : run 0 r = 0
      · rw [if_pos hw]
        rw [hw] at e2
        have e3 : lB (47 :: r) = 1 := by rw [e1, e2]; rfl
        have ng : ¬ good (47 :: r) := by
          intro g
          have g1 := g.1
          rw [e3, List.length_cons] at g1
          have : r = [] := List.length_eq_zero_iff.mp (by omega)
          subst this
          exact g.2 rfl
        rw [if_neg ng, e3]
      · rw [if_neg hw]
        have hw1 : 1 ≤ run 0 r := by omega
        rw [if_pos hw1] at e2
        have hle := run_le r 0
        have ih := rdB_is f (r.drop (run 0 r)) (n + 1 + run 0 r) (path ++ [r.take (run 0 r)]) (by rw [List.length_drop]; omega)
        rw [ih]
        have hsplit : r = r.take (run 0 r) ++ r.drop (run 0 r) := (List.take_append_drop _ _).symm
        have hlet := run_all r 0
        have h47 := no_of (d := 47) (by decide) hlet
        have hlen : (r.drop (run 0 r)).length = r.length - run 0 r := List.length_drop
        have iff : good (47 :: r) ↔ good (r.drop (run 0 r)) := by
          have hl : lB (47 :: r) = (47 :: r).length ↔ lB (r.drop (run 0 r)) = (r.drop (run 0 r)).length := by
            rw [e1, e2, hlen, List.length_cons]
            omega
          have hlast : lastIs (47 :: r) 47 ↔ lastIs (r.drop (run 0 r)) 47 := by
            unfold lastIs
            cases hd : r.drop (run 0 r) with
            | nil =>
              have ht : r.take (run 0 r) = r := by
                have e := hsplit
                rw [hd, List.append_nil] at e
                exact e.symm
              have hr0 : r ≠ [] := by
                intro e
                rw [e] at hw1
                simp [run] at hw1
              constructor
              · intro z
                rw [List.getLast?_cons_of_ne_nil hr0] at z
                have hm := List.mem_of_getLast? z
                rw [← ht] at hm
                exact absurd hm h47
              · intro z
                cases z
            | cons x y =>
              have e : 47 :: r = (47 :: r.take (run 0 r)) ++ (x :: y) := by
                rw [List.cons_append, ← hd, ← hsplit]
              have z : ((47 :: r.take (run 0 r)) ++ (x :: y)).getLast? = (x :: y).getLast? := by
                rw [List.getLast?_append]
                cases hz : (x :: y).getLast? with
                | none => simp at hz
                | some v => rfl
              rw [e, z]
          unfold good
          rw [hl, hlast]
        by_cases g : good (47 :: r)
        · rw [if_pos g, if_pos (iff.mp g)]
          rw [sp_hit, List.tail_cons]
          have g2 := (iff.mp g).1
          have key : sp 47 r = r.take (run 0 r) :: (sp 47 (r.drop (run 0 r))).tail := by
            cases hd : r.drop (run 0 r) with
            | nil =>
              have ht : r.take (run 0 r) = r := by
                have e := hsplit
                rw [hd, List.append_nil] at e
                exact e.symm
              rw [ht] at h47 ⊢
              rw [sp_free h47]
              rfl
            | cons x y =>
              have hx : x = 47 := by
                rw [hd, lB_cons] at g2
                split at g2
                · assumption
                · simp at g2
              subst hx
              have e : r = r.take (run 0 r) ++ 47 :: y := by
                rw [← hd]
                exact hsplit
              rw [sp_hit, List.tail_cons]
              exact (congrArg (sp 47) e).trans (sp_at h47)
          rw [key, List.append_assoc]
          rfl
        · rw [if_neg g, if_neg (fun z => g (iff.mpr z)), e1, e2]
          congr 1
          omega
    · rw [if_pos hc]
      have e : lB (c :: r) = 0 := by rw [lB_cons, if_neg hc]
      have ng : ¬ good (c :: r) := by
        intro g
        have := g.1
        rw [e, List.length_cons] at this
        omega
      rw [if_neg ng, e]
      rfl
/-- the whole reader -/
def rd (l : List Nat) : Told :=
  if run 0 l = 0 ∨ (l.drop (run 0 l)).head? ≠ some 58 then .bad (run 0 l)
  else match rdB l.length (l.drop (run 0 l + 1)) (run 0 l + 1) [] with
    | .inl n => .bad n
    | .inr p => .good (l.take (run 0 l)) p
/-- the law's own -/
def due (l : List Nat) : Told :=
  if lA 0 l < l.length then .bad (lA 0 l) else match sp 58 l with
  | [a, b] => if lastIs b 47 then .bad (lA 0 l) else .good a (sp 47 b).tail
  | _ => .bad (lA 0 l)
theorem rd_due (l : List Nat) : rd l = due l := by
  have e := lA_run l 0 (by decide)
  rw [Nat.zero_add] at e
  have hle := run_le l 0
  have hlet := run_all l 0
  have h58 := no_of (d := 58) (by decide) hlet
  unfold rd
  by_cases hw : run 0 l = 0 ∨ (l.drop (run 0 l)).head? ≠ some 58
  · rw [if_pos hw]
    have hn : ¬ (1 ≤ run 0 l ∧ (l.drop (run 0 l)).head? = some 58) := by
      rintro ⟨h1, h2⟩
      rcases hw with h | h
      · omega
      · exact h h2
    rw [if_neg hn, Nat.add_zero] at e
    unfold due
    rw [e]
    by_cases hlt : run 0 l < l.length
    · rw [if_pos hlt]
    · rw [if_neg hlt]
      have ht : l.take (run 0 l) = l := List.take_of_length_le (by omega)
      rw [ht] at h58
      rw [sp_free h58]
  · rw [if_neg hw]
    have h1 : 1 ≤ run 0 l := by
      rcases Nat.eq_zero_or_pos (run 0 l) with h | h
      · exact absurd (.inl h) hw
      · exact h
    have h2 : (l.drop (run 0 l)).head? = some 58 := by
      by_cases h : (l.drop (run 0 l)).head? = some 58
      · exact h
      · exact absurd (.inr h) hw
    rw [if_pos ⟨h1, h2⟩] at e
    have hd : l.drop (run 0 l) = 58 :: l.drop (run 0 l + 1) := by
      cases hx : l.drop (run 0 l) with
      | nil =>
        rw [hx] at h2
        cases h2
      | cons x y =>
        rw [hx] at h2
        have ex : x = 58 := by simpa using h2
        have ey : y = l.drop (run 0 l + 1) := by
          have z := congrArg (List.drop 1) hx
          rw [List.drop_drop] at z
          simpa using z.symm
        rw [ex, ey]
    have hl : l = l.take (run 0 l) ++ 58 :: l.drop (run 0 l + 1) := by
      rw [← hd]
      exact (List.take_append_drop _ _).symm
    generalize hb : l.drop (run 0 l + 1) = b at *
    have hlen : l.length = run 0 l + (b.length + 1) := by
      have z := congrArg List.length hl
      rw [List.length_append, List.length_take, List.length_cons, Nat.min_eq_left hle] at z
      exact z
    rw [rdB_is l.length b (run 0 l + 1) [] (by omega)]
    have hsp : sp 58 l = l.take (run 0 l) :: sp 58 b := (congrArg (sp 58) hl).trans (sp_at h58)
    have hbl := lB_le b
    unfold due
    rw [e]
    by_cases hfull : lB b = b.length
    · have hnl : ¬ (run 0 l + (lB b + 1) < l.length) := by omega
      rw [if_neg hnl, hsp, sp_free (lB_free hfull)]
      by_cases hz : lastIs b 47
      · have ng : ¬ good b := fun g => g.2 hz
        rw [if_neg ng]
        show Told.bad _ = (if lastIs b 47 then Told.bad _ else _)
        rw [if_pos hz]
        congr 1
        omega
      · rw [if_pos (show good b from ⟨hfull, hz⟩)]
        show Told.good _ _ = (if lastIs b 47 then _ else Told.good _ _)
        rw [if_neg hz]
        rfl
    · have hlt : run 0 l + (lB b + 1) < l.length := by omega
      rw [if_pos hlt, if_neg (fun g : good b => hfull g.1)]
      show Told.bad _ = Told.bad _
      congr 1
      omega
end AddrMath

namespace K3
open PySem L2
def top (i : Nat) : Stmt := PySem.Challenge.pw_sentonward_k03_whole_address_texts.main.body.getD i (.Pass ⟨0, 0, 0, 0⟩)
abbrev sPen : Stmt := top 14
abbrev sDraw : Stmt := top 15
abbrev sPick : Stmt := top 16
abbrev sWords : Stmt := top 17
/-- all but what stands at d is as it was -/
def But (d : Addr) (H H' : Hp) : Prop := ∀ b o, H b = some o → b ≠ d → H' b = some o
theorem But.refl (d : Addr) (H : Hp) : But d H H := fun _ _ h _ => h
theorem But.trans {d : Addr} {H H1 H2 : Hp} (a : But d H H1) (b : But d H1 H2) : But d H H2 := fun c o h hc => b c o (a c o h hc) hc
theorem But.upd {d : Addr} {H : Hp} {o : HO} : But d H (upd H d o) := fun b u e hb => by rw [upd_ne hb]; exact e
theorem But.new {d p : Addr} {H : Hp} {o : HO} (h : H p = none) : But d H (L2.upd H p o) := fun b u e _ => by rw [upd_ne (ne_of_none e h)]; exact e
theorem but_of {d : Addr} {H H' : Hp} (s : Same H H') : But d H H' := fun b o e _ => s b o e
theorem same_new {p : Addr} {H : Hp} {o : HO} (h : H p = none) : Same H (upd H p o) := fun b u e => by rw [upd_ne (ne_of_none e h)]; exact e
theorem But.free {d a : Addr} {H H' : Hp} {o : HO} (hd : H d = some o) (b : But d H H') (hd' : H' d ≠ none) (h : H' a = none) : H a = none := by
  cases q : H a with
  | none => rfl
  | some u =>
    by_cases e : a = d
    · rw [e] at h
      exact absurd h hd'
    · rw [b a u q e] at h
      cases h
abbrev kCells : Key := Sum.inr ("cells" : Str)
abbrev kSpot : Key := Sum.inr ("spot" : Str)
abbrev kRest : Key := Sum.inr ("rest" : Str)
theorem k_cs : ¬ (kCells = kSpot) := by decide +kernel
theorem k_cr : ¬ (kCells = kRest) := by decide +kernel
theorem k_sc : ¬ (kSpot = kCells) := by decide +kernel
theorem k_sr : ¬ (kSpot = kRest) := by decide +kernel
theorem k_rc : ¬ (kRest = kCells) := by decide +kernel
theorem k_rs : ¬ (kRest = kSpot) := by decide +kernel
def penKV (c : Addr) (spot rest : Int) : List (Key × V) := [(kCells, .ref c), (kSpot, .int spot), (kRest, .int rest)]
theorem pen_cells (c : Addr) (s r : Int) : valV (penKV c s r) kCells = some (.ref c) := valV_pos rfl
theorem pen_spot (c : Addr) (s r : Int) : valV (penKV c s r) kSpot = some (.int s) := (valV_neg k_cs).trans (valV_pos rfl)
theorem pen_rest (c : Addr) (s r : Int) : valV (penKV c s r) kRest = some (.int r) := (valV_neg k_cr).trans ((valV_neg k_sr).trans (valV_pos rfl))
theorem pen_putS (c : Addr) (s r z : Int) : putK (penKV c s r) kSpot (.int z) = penKV c z r := by
  unfold putK penKV
  rw [if_pos (by simp)]
  simp only [List.map_cons, List.map_nil, if_neg k_cs, if_neg k_rs, if_pos trivial]
theorem pen_putR (c : Addr) (s r z : Int) : putK (penKV c s r) kRest (.int z) = penKV c s z := by
  unfold putK penKV
  rw [if_pos (by simp)]
  simp only [List.map_cons, List.map_nil, if_neg k_cr, if_neg k_sr, if_pos trivial]
theorem pen_made (c : Addr) (s r : Int) : mergeK [] (penKV c s r) = penKV c s r := by
  show putK (putK (putK [] kCells (V.ref c)) kSpot (V.int s)) kRest (V.int r) = _
  have e1 : putK [] kCells (V.ref c) = [(kCells, V.ref c)] := putK_new _ rfl
  have e2 : putK [(kCells, V.ref c)] kSpot (V.int s) = [(kCells, V.ref c), (kSpot, V.int s)] := putK_new _ (valV_neg k_cs)
  rw [e1, e2]
  exact putK_new _ ((valV_neg k_cr).trans (valV_neg k_sr))
/-- a source of draws stands at d, at most n draws were begun -/
def PenAt (H : Hp) (d c : Addr) (n : Nat) : Prop := ∃ (ns : List Int) (s : Nat) (r : Int), H d = some (.dK (penKV c (s : Int) r)) ∧ H c = some (.lst (ns.map V.int)) ∧ ns.length ≤ 63 ∧ s ≤ n
theorem PenAt.keep {H H' : Hp} {d c : Addr} {n : Nat} (p : PenAt H d c n) (s : Same H H') : PenAt H' d c n := by
  obtain ⟨ns, k, r, h1, h2, h3, h4⟩ := p
  exact ⟨ns, k, r, s _ _ h1, s _ _ h2, h3, h4⟩
theorem PenAt.mono {H : Hp} {d c : Addr} {n m : Nat} (p : PenAt H d c n) (h : n ≤ m) : PenAt H d c m := by
  obtain ⟨ns, k, r, h1, h2, h3, h4⟩ := p
  exact ⟨ns, k, r, h1, h2, h3, Nat.le_trans h4 h⟩
theorem PenAt.ne {H : Hp} {d c : Addr} {n : Nat} (p : PenAt H d c n) : H d ≠ none := by
  obtain ⟨ns, k, r, h1, h2, h3, h4⟩ := p
  rw [h1]
  exact fun z => nomatch z
theorem PenAt.neC {H : Hp} {d c : Addr} {n : Nat} (p : PenAt H d c n) : H c ≠ none := by
  obtain ⟨ns, k, r, h1, h2, h3, h4⟩ := p
  rw [h2]
  exact fun z => nomatch z
theorem PenAt.free {H H' : Hp} {d c a : Addr} {n m : Nat} (p : PenAt H d c n) (p' : PenAt H' d c m) (b : But d H H') (h : H' a = none) : H a = none := by
  obtain ⟨ns, k, r, h1, h2, h3, h4⟩ := p
  exact b.free h1 p'.ne h
/-- another object is written -/
theorem PenAt.put {H : Hp} {d c a : Addr} {n : Nat} {o : HO} (p : PenAt H d c n) (h1 : a ≠ d) (h2 : a ≠ c) : PenAt (upd H a o) d c n := by
  obtain ⟨ns, k, r, e1, e2, h3, h4⟩ := p
  exact ⟨ns, k, r, by rw [upd_ne h1.symm]; exact e1, by rw [upd_ne h2.symm]; exact e2, h3, h4⟩
theorem But.put {d a : Addr} {H H' : Hp} {o : HO} (b : But d H H') (h : H a = none) : But d H (L2.upd H' a o) := fun x u e hx => by
  rw [upd_ne (ne_of_none e h)]
  exact b x u e hx
theorem dp_ints {K : PySem.W.Frag} {H : Hp} : ∀ ns : List Int, DpAll K H (ns.map V.int) (ns.map PyData.int)
  | [] => .nil
  | n :: r => .cons (.int n) (dp_ints r)
theorem cl_ints : ∀ ns : List Int, PyData.canLayAll0 (ns.map PyData.int) = true
  | [] => rfl
  | _ :: r => by simp [PyData.canLayAll0, PyData.canLay0, cl_ints r]
theorem da_ints : ∀ ns : List Int, PyData.depthAll (ns.map PyData.int) = 0
  | [] => rfl
  | _ :: r => by simp [PyData.depthAll, PyData.depth, da_ints r]
theorem sh_ints (ns : List Int) : SeqAt.shaped (.list (ns.map PyData.int)) = true := by
  simp [SeqAt.shaped, PyData.canLay0, PyData.depth, cl_ints, da_ints]
theorem fmod_in (x : Int) {m : Int} (h : 0 < m) : 0 ≤ x.fmod m ∧ x.fmod m < m := by
  rw [Int.fmod_eq_emod_of_nonneg x (by omega)]
  exact ⟨Int.emod_nonneg x (by omega), Int.emod_lt_of_pos x h⟩
theorem eqv_ints (ns : List Int) : PyData.eqv (.list (ns.map PyData.int)) (.list []) = ns.isEmpty := by
  cases ns <;> rfl
theorem st_is {A : L2.St → Hp → Prop} {σ σ' : L2.St} {H : Hp} (e : σ = σ') (h : A σ' H) : A σ H := by rw [e]; exact h
theorem nz1 : (2147483423 : Int) ≠ 0 := by decide
theorem nz2 : (2147483477 : Int) ≠ 0 := by decide
theorem nz3 : (2147483489 : Int) ≠ 0 := by decide
theorem nz4 : (2147483497 : Int) ≠ 0 := by decide
theorem cut_to (xs : List V) (k : Nat) : cutV xs none (some (k : Int)) = xs.take k := by
  unfold cutV
  rw [HT.sIx_none, HT.sIx_nat, List.drop_zero, Nat.sub_zero]
  by_cases h : k ≤ xs.length
  · rw [Nat.min_eq_left h]
  · rw [Nat.min_eq_right (by omega), List.take_of_length_le (Nat.le_refl _), List.take_of_length_le (by omega)]
theorem cut_from (xs : List V) (k : Nat) : cutV xs (some (k : Int)) none = xs.drop k := by
  unfold cutV
  rw [HT.sIx_none, HT.sIx_nat]
  by_cases h : k ≤ xs.length
  · rw [Nat.min_eq_left h, List.take_of_length_le (by rw [List.length_drop]; omega)]
  · rw [Nat.min_eq_right (by omega), List.drop_eq_nil_of_le (Nat.le_refl _), List.drop_eq_nil_of_le (by omega)]
    simp
section
variable {P : Program} {w : World} {K : PySem.W.Frag} {mg : Str → Option Value} {base : Heap}
/-! ### _law_pen -/
def spPen (K : PySem.W.Frag) : Sp := fun vs H Q _ => ∃ (a : Addr) (ns : List Int), vs = [.ref a] ∧ SqL K H a (ns.map V.int) ∧ ns.length ≤ 63 ∧ ∀ (d c : Addr) (H' : Hp), PenAt H' d c 0 → Same H H' → H d = none → Q (.ref d) H'
theorem scPen : FnScope ["_law_script"] ["_law_script"] (defScope sPen) := ⟨rfl, rfl, rfl, by decide +kernel, rfl, by decide +kernel, by decide +kernel⟩
theorem ok_pen {f : Addr} {fd : FuncData} (F : Fun K "_law_pen" "_law_pen" sPen f fd) (ml : mg "list" = none) : FnOk P w K mg base CX0 1 f fd ["_law_script"] (spPen K) := by
  refine F.ok scPen (fun vs H Q E h => ?_) (fun cdv A outer s H vs Q E hr h => ?_)
  · obtain ⟨a, ns, rfl, _⟩ := h
    rfl
  · obtain ⟨a, ns, rfl, hS, hlen, q⟩ := h
    refine ⟨_, pss_one (ps_ret (pe_disp (pps_cons pe_str (pe_callTy call_list_of (by rfl) ml (by decide +kernel) (pa_cons (pe_slice sl_list (pv 0) po_none (po_some pe_int)) pa_nil))
      (pps_cons pe_str pe_int (pps_cons pe_str pe_int pps_nil))) (by rfl) (by rfl) (fun z => by cases z) (by decide))), ?_⟩
    intro p hp
    have s1 : Same H (upd H p (.dK [])) := same_new hp
    refine ⟨_, rfl, 63, rfl, a, ns.map V.int, rfl, s1.seq hS, fun c nc => ?_⟩
    have s2 : Same (upd H p (.dK [])) _ := same_new (o := .lst (cutV (ns.map V.int) none (some 63))) nc
    refine ⟨c, _, rfl, .inl (.inl (.inl upd_same)), fun l nl => ?_⟩
    have s3 : Same _ _ := same_new (o := .lst (cutV (ns.map V.int) none (some 63))) nl
    have h3 := s3 _ _ (s2 _ _ upd_same)
    refine ⟨h3, penKV l 0 0, rfl, by show 3 ≤ 15; decide, ?_⟩
    rw [pen_made]
    have npl : l ≠ p := fun z => by
      rw [z, s2 _ _ upd_same] at nl
      cases nl
    refine q p l _ ⟨ns.take 63, 0, 0, upd_same, ?_, by rw [List.length_take]; omega, Nat.le_refl _⟩ (fun b o e => ?_) hp
    · rw [upd_ne npl, upd_same, show (63 : Int) = ((63 : Nat) : Int) from rfl, cut_to, List.map_take]
    · rw [upd_ne (ne_of_none e hp)]
      exact s3 _ _ (s2 _ _ (s1 _ _ e))
/-! ### _law_draw: slots pen 0, many 1, digit 2, spot 3, cell 4, mixed 5 -/
def spDraw : Sp := fun vs H Q _ => ∃ (d c : Addr) (n : Nat) (m : Int), vs = [.ref d, .int m] ∧ PenAt H d c n ∧ n ≤ 1000000 ∧ 0 < m ∧ m < 1000000 ∧ ∀ (j : Int) (H' : Hp), 0 ≤ j → j < m → PenAt H' d c (n + 1) → But d H H' → Q (.int j) H'
theorem scDraw : FnScope ["_law_pen_here", "_law_many", "_law_digit", "_law_spot", "_law_cell", "_law_mixed"] ["_law_pen_here", "_law_many"] (defScope sDraw) := ⟨rfl, rfl, rfl, by decide +kernel, rfl, by decide +kernel, by decide +kernel⟩
theorem ok_draw {f : Addr} {fd : FuncData} (F : Fun K "_law_draw" "_law_draw" sDraw f fd) (mi : mg "int" = none) (ml : mg "len" = none) : FnOk P w K mg base CX0 1 f fd ["_law_pen_here", "_law_many"] spDraw := by
  refine F.ok scDraw (fun vs H Q E h => ?_) (fun cdv A outer s H vs Q E hr h => ?_)
  · obtain ⟨d, c, n, m, rfl, _⟩ := h
    rfl
  · obtain ⟨d, c, n, m, rfl, p, hn, hm0, hm1, q⟩ := h
    have hu := hu_of hr
    refine ⟨_, pss_cons (ps_if (pt_cmpR op_ge (pe_dget hu (pv 0) pe_str (fun _ _ => rfl)) (pv 1) (nomark _))
        (pss_cons (ps_set (i := 2) scDraw.nd rfl (Or.inl rfl) (pe_op op_modN (pe_callTy call_int1 (by rfl) mi (by decide +kernel) (pa_cons (pe_dget hu (pv 0) pe_str (fun _ _ => rfl)) pa_nil)) (pv 1)))
          (pss_cons (ps_dput hu (pv 0) pe_str (pe_op op_fdivN (pe_dget hu (pv 0) pe_str (fun _ _ => rfl)) (pv 1)) rfl)
            (pss_one (ps_ret (pv 2))))) pss_nil)
      (pss_cons (ps_set (i := 3) scDraw.nd rfl (Or.inl rfl) (pe_dget hu (pv 0) pe_str (fun _ _ => rfl)))
      (pss_cons (ps_dput hu (pv 0) pe_str (pe_op op_add (pv 3) pe_int) rfl)
      (pss_cons (ps_set (i := 4) scDraw.nd rfl (Or.inl rfl) (pe_op op_add (pe_op op_mul pe_int (pv 3)) pe_int))
      (pss_cons (ps_if (pt_cmpR (op_neD hr.units) (pe_dget hu (pv 0) pe_str (fun _ _ => rfl)) (pe_lst pa_nil) (nomark _))
          (pss_one (ps_set (i := 4) scDraw.nd rfl (Or.inl rfl) (pe_ix ix_list (pe_dget hu (pv 0) pe_str (fun _ _ => rfl))
            (pe_op op_modN (pe_callTy call_int1 (by rfl) mi (by decide +kernel) (pa_cons (pv 3) pa_nil)) (pe_callB call_len_seq (by rfl) ml PySem.boot_len (pa_cons (pe_dget hu (pv 0) pe_str (fun _ _ => rfl)) pa_nil))) (fun _ _ => rfl)))) pss_nil)
      (pss_cons (ps_if (PW.pt (pw_and (pt_cmpR op_lt (pv 3) (pe_callB call_len_seq (by rfl) ml PySem.boot_len (pa_cons (pe_dget hu (pv 0) pe_str (fun _ _ => rfl)) pa_nil)) (nomark _)) (pw_and1 (pt_cmpR op_ge (pv 4) (pe_op op_pow pe_int pe_int) (nomark _)))))
          (pss_cons (ps_dput hu (pv 0) pe_str (pe_op op_fdivN (pe_op op_sub (pv 4) (pe_op op_pow pe_int pe_int)) (pv 1)) rfl)
            (pss_one (ps_ret (pe_op op_modN (pe_callTy call_int1 (by rfl) mi (by decide +kernel) (pa_cons (pe_op op_sub (pv 4) (pe_op op_pow pe_int pe_int)) pa_nil)) (pv 1))))) pss_nil)
      (pss_cons (ps_set (i := 5) scDraw.nd rfl (Or.inl rfl) (pe_op op_mul (pe_op op_modN (pe_callTy call_int1 (by rfl) mi (by decide +kernel) (pa_cons (pv 4) pa_nil)) pe_int) pe_int))
      (pss_cons (ps_set (i := 5) scDraw.nd rfl (Or.inl rfl) (pe_op op_modN (pe_callTy call_int1 (by rfl) mi (by decide +kernel) (pa_cons (pe_op op_add (pe_op op_add (pe_op op_add (pv 5) (pe_op op_mul (pe_op op_mul pe_int (pv 3)) (pv 3))) (pe_op op_mul pe_int (pv 3))) pe_int) pa_nil)) pe_int))
      (pss_cons (ps_set (i := 5) scDraw.nd rfl (Or.inl rfl) (pe_op op_modN (pe_callTy call_int1 (by rfl) mi (by decide +kernel) (pa_cons (pe_op op_mul (pv 5) (pe_op op_add (pv 5) pe_int)) pa_nil)) pe_int))
      (pss_one (ps_ret (pe_op op_modN (pe_callTy call_int1 (by rfl) mi (by decide +kernel) (pa_cons (pe_op op_fdivN (pe_op op_modN (pe_callTy call_int1 (by rfl) mi (by decide +kernel) (pa_cons (pe_op op_add (pe_op op_mul (pv 5) (pv 5)) (pe_op op_mul pe_int (pv 5))) pa_nil)) pe_int) pe_int) pa_nil)) (pv 1)))))))))))), ?_⟩
    obtain ⟨ns, sp, r, h1, h2, h3, h4⟩ := p
    have gC : ∀ {H : Hp} {x y : Int}, H d = some (.dK (penKV c x y)) → DGet H d (.str "cells") (some (.ref c)) := fun {H x y} e => by
      have z := DGet.k (k := kCells) e
      rw [pen_cells] at z
      exact z
    have gS : ∀ {H : Hp} {x y : Int}, H d = some (.dK (penKV c x y)) → DGet H d (.str "spot") (some (.int x)) := fun {H x y} e => by
      have z := DGet.k (k := kSpot) e
      rw [pen_spot] at z
      exact z
    have gR : ∀ {H : Hp} {x y : Int}, H d = some (.dK (penKV c x y)) → DGet H d (.str "rest") (some (.int y)) := fun {H x y} e => by
      have z := DGet.k (k := kRest) e
      rw [pen_rest] at z
      exact z
    have uS : ∀ {H : Hp} {x y z : Int}, H d = some (.dK (penKV c x y)) → DPut H d (.str "spot") (.int z) (upd H d (.dK (penKV c z y))) := fun {H x y z} e => by
      have q := DPut.k (k := kSpot) (v := .int z) e (small1000 (by show 3 ≤ 1000; decide))
      rw [pen_putS] at q
      exact q
    have uR : ∀ {H : Hp} {x y z : Int}, H d = some (.dK (penKV c x y)) → DPut H d (.str "rest") (.int z) (upd H d (.dK (penKV c x z))) := fun {H x y z} e => by
      have q := DPut.k (k := kRest) (v := .int z) e (small1000 (by show 3 ≤ 1000; decide))
      rw [pen_putR] at q
      exact q
    have ncd : c ≠ d := ne_of h2 h1 (fun z => by cases z)
    have hmn : m ≠ 0 := by omega
    have hma : m.natAbs < 1073741824 := by omega
    have fm : ∀ x : Int, 0 ≤ x.fmod m ∧ x.fmod m < m := fun x => fmod_in x hm0
    -- if pen["rest"] >= many
    refine ⟨_, rfl, d, _, rfl, gR h1, _, rfl, _, _, rfl, rfl, _, rfl, ?_⟩
    refine ite2 (fun _ => ?_) (fun _ => ?_)
    · -- digit = int(pen["rest"]) % many; pen["rest"] = pen["rest"] // many; return digit
      refine ⟨_, rfl, d, _, rfl, gR h1, .inl ⟨_, rfl, _, rfl, _, _, rfl, rfl, hmn, ?_⟩⟩
      refine ⟨_, rfl, d, _, rfl, gR h1, _, rfl, _, _, rfl, rfl, ⟨hmn, hma⟩, _, rfl, d, _, rfl, uR h1, _, rfl, ?_⟩
      exact q _ _ (fm r).1 (fm r).2 ⟨ns, sp, _, upd_same, by rw [upd_ne ncd]; exact h2, h3, by omega⟩ But.upd
    · -- spot = pen["spot"]; pen["spot"] = spot + 1; cell = 61 * spot + 37
      refine ⟨_, rfl, d, _, rfl, gS h1, _, rfl, _, _, rfl, rfl, _, rfl, d, _, rfl, uS h1, ?_⟩
      have hsp : (sp : Int) ≤ 1000000 := by omega
      refine ⟨_, rfl, _, _, rfl, rfl, .inl ⟨by decide, by decide⟩, _, _, rfl, rfl, ?_⟩
      have p1 : (upd H d (.dK (penKV c ((sp : Int) + 1) r))) d = some (.dK (penKV c ((sp : Int) + 1) r)) := upd_same
      have c1 : (upd H d (.dK (penKV c ((sp : Int) + 1) r))) c = some (.lst (ns.map V.int)) := by rw [upd_ne ncd]; exact h2
      have b1 : But d H (upd H d (.dK (penKV c ((sp : Int) + 1) r))) := But.upd
      generalize upd H d (.dK (penKV c ((sp : Int) + 1) r)) = H1 at p1 c1 b1
      -- if pen["cells"] != []
      refine ⟨_, rfl, d, _, rfl, gC p1, Nat.zero_le _, fun l nl => ?_⟩
      have s2 : Same H1 (upd H1 l (.lst [])) := same_new nl
      refine ⟨.list (ns.map PyData.int), .list [], .lst (.inl (.inl (s2 _ _ c1))) (dp_ints ns), .lst (.inl (.inl upd_same)) .nil, sh_ints ns, by decide +kernel, _, rfl, ?_⟩
      have p2 := s2 _ _ p1
      have c2 := s2 _ _ c1
      have b2 : But d H (upd H1 l (.lst [])) := b1.trans (but_of s2)
      generalize upd H1 l (.lst []) = H2 at p2 c2 b2
      rw [eqv_ints]
      refine ite2 (fun hne => ?_) (fun _ => ?_)
      · have hpos : 0 < ns.length := by
          cases ns with
          | nil => cases hne
          | cons a t => exact Nat.succ_pos _
        have hl0 : (0 : Int) < ((ns.map V.int).length : Int) := by rw [List.length_map]; omega
        have fi := fmod_in (sp : Int) hl0
        obtain ⟨j, ej⟩ : ∃ j : Nat, (sp : Int).fmod ((ns.map V.int).length : Int) = (j : Int) := ⟨((sp : Int).fmod ((ns.map V.int).length : Int)).toNat, by omega⟩
        have hj : j < ns.length := by
          have z := fi.2
          rw [ej, List.length_map] at z
          omega
        -- cell = pen["cells"][int(spot) % len(pen["cells"])]
        refine ⟨_, rfl, d, _, rfl, gC p2, _, rfl, .inl ⟨_, rfl, _, rfl, d, _, rfl, gC p2, _, _, rfl, .inl (.inl (.inl c2)), _, _, rfl, rfl, by omega, c, _, _, .int ns[j], rfl, rfl, .inl (.inl c2), at_of (j := j) ej (by rw [List.getElem?_map, List.getElem?_eq_getElem hj]; rfl), ?_⟩⟩
        generalize ns[j] = z
        refine ⟨_, rfl, _, rfl, d, _, rfl, gC p2, _, _, rfl, .inl (.inl (.inl c2)), _, _, rfl, rfl, _, rfl, ?_⟩
        refine ite2 (fun _ => ⟨_, rfl, _, _, rfl, rfl, ⟨by decide, by decide, by decide⟩, _, _, rfl, rfl, _, rfl, ite2 (fun _ => ?_) (fun _ => ?_)⟩) (fun _ => ?_)
        · refine ⟨_, rfl, _, _, rfl, rfl, ⟨by decide, by decide, by decide⟩, _, _, rfl, rfl, _, rfl, _, _, rfl, rfl, ⟨hmn, hma⟩, _, rfl, d, _, rfl, uR p2, ?_⟩
          refine ⟨_, rfl, _, _, rfl, rfl, ⟨by decide, by decide, by decide⟩, _, _, rfl, rfl, .inl ⟨_, rfl, _, rfl, _, _, rfl, rfl, hmn, ?_⟩⟩
          exact q _ _ (fm _).1 (fm _).2 ⟨ns, sp + 1, _, upd_same, by rw [upd_ne ncd]; exact c2, h3, by omega⟩ (b2.trans But.upd)
        · refine ⟨_, rfl, .inl ⟨_, rfl, _, _, rfl, rfl, nz1, _, _, rfl, rfl, .inr ⟨by decide, by decide⟩, ?_⟩⟩
          obtain ⟨z1, e1⟩ : ∃ z1, (z.fmod 2147483423) * 40009 = z1 := ⟨_, rfl⟩
          refine ⟨_, rfl, _, rfl, _, _, rfl, rfl, .inl ⟨by decide, by decide⟩, _, rfl, _, _, rfl, rfl, .inr ⟨by omega, by omega⟩, z1, _, congrArg V.int e1, rfl, _, rfl, _, _, rfl, rfl, .inl ⟨by decide, by decide⟩, _, _, rfl, rfl, _, _, rfl, rfl, .inl ⟨_, rfl, _, _, rfl, rfl, nz2, ?_⟩⟩
          obtain ⟨z2, e2⟩ : ∃ z2, (z1 + 52361 * (sp : Int) * (sp : Int) + 97 * (sp : Int) + 29).fmod 2147483477 = z2 := ⟨_, rfl⟩
          have f2 := fmod_in (z1 + 52361 * (sp : Int) * (sp : Int) + 97 * (sp : Int) + 29) (m := 2147483477) (by decide)
          rw [e2] at f2
          refine ⟨_, rfl, _, rfl, z2, _, congrArg V.int e2, rfl, z2, _, congrArg V.int e2, rfl, .inl ⟨by omega, by omega⟩, .inl ⟨_, rfl, _, _, rfl, rfl, nz3, ?_⟩⟩
          obtain ⟨z3, e3⟩ : ∃ z3, (z2 * (z2 + 70001)).fmod 2147483489 = z3 := ⟨_, rfl⟩
          have f3 := fmod_in (z2 * (z2 + 70001)) (m := 2147483489) (by decide)
          rw [e3] at f3
          refine ⟨_, rfl, _, rfl, z3, z3, congrArg V.int e3, congrArg V.int e3, .inl ⟨by omega, by omega⟩, _, rfl, _, z3, rfl, congrArg V.int e3, .inl ⟨by decide, by decide⟩, _, _, rfl, rfl, .inl ⟨_, rfl, _, _, rfl, rfl, nz4, _, _, rfl, rfl, ⟨by decide, by decide⟩, .inl ⟨_, rfl, _, rfl, _, _, rfl, rfl, hmn, ?_⟩⟩⟩
          exact q _ _ (fm _).1 (fm _).2 ⟨ns, sp + 1, _, p2, c2, h3, by omega⟩ b2
        · refine ⟨_, rfl, .inl ⟨_, rfl, _, _, rfl, rfl, nz1, _, _, rfl, rfl, .inr ⟨by decide, by decide⟩, ?_⟩⟩
          obtain ⟨z1, e1⟩ : ∃ z1, (z.fmod 2147483423) * 40009 = z1 := ⟨_, rfl⟩
          refine ⟨_, rfl, _, rfl, _, _, rfl, rfl, .inl ⟨by decide, by decide⟩, _, rfl, _, _, rfl, rfl, .inr ⟨by omega, by omega⟩, z1, _, congrArg V.int e1, rfl, _, rfl, _, _, rfl, rfl, .inl ⟨by decide, by decide⟩, _, _, rfl, rfl, _, _, rfl, rfl, .inl ⟨_, rfl, _, _, rfl, rfl, nz2, ?_⟩⟩
          obtain ⟨z2, e2⟩ : ∃ z2, (z1 + 52361 * (sp : Int) * (sp : Int) + 97 * (sp : Int) + 29).fmod 2147483477 = z2 := ⟨_, rfl⟩
          have f2 := fmod_in (z1 + 52361 * (sp : Int) * (sp : Int) + 97 * (sp : Int) + 29) (m := 2147483477) (by decide)
          rw [e2] at f2
          refine ⟨_, rfl, _, rfl, z2, _, congrArg V.int e2, rfl, z2, _, congrArg V.int e2, rfl, .inl ⟨by omega, by omega⟩, .inl ⟨_, rfl, _, _, rfl, rfl, nz3, ?_⟩⟩
          obtain ⟨z3, e3⟩ : ∃ z3, (z2 * (z2 + 70001)).fmod 2147483489 = z3 := ⟨_, rfl⟩
          have f3 := fmod_in (z2 * (z2 + 70001)) (m := 2147483489) (by decide)
          rw [e3] at f3
          refine ⟨_, rfl, _, rfl, z3, z3, congrArg V.int e3, congrArg V.int e3, .inl ⟨by omega, by omega⟩, _, rfl, _, z3, rfl, congrArg V.int e3, .inl ⟨by decide, by decide⟩, _, _, rfl, rfl, .inl ⟨_, rfl, _, _, rfl, rfl, nz4, _, _, rfl, rfl, ⟨by decide, by decide⟩, .inl ⟨_, rfl, _, rfl, _, _, rfl, rfl, hmn, ?_⟩⟩⟩
          exact q _ _ (fm _).1 (fm _).2 ⟨ns, sp + 1, _, p2, c2, h3, by omega⟩ b2
      · obtain ⟨z, ez⟩ : ∃ z, 61 * (sp : Int) + 37 = z := ⟨_, rfl⟩
        refine st_is (σ' := [some (.ref d), some (.int m), none, some (.int (sp : Int)), some (.int z), none]) (by rw [← ez]; rfl) ?_
        refine ⟨_, rfl, _, rfl, d, _, rfl, gC p2, _, _, rfl, .inl (.inl (.inl c2)), _, _, rfl, rfl, _, rfl, ?_⟩
        refine ite2 (fun _ => ⟨_, rfl, _, _, rfl, rfl, ⟨by decide, by decide, by decide⟩, _, _, rfl, rfl, _, rfl, ite2 (fun _ => ?_) (fun _ => ?_)⟩) (fun _ => ?_)
        · refine ⟨_, rfl, _, _, rfl, rfl, ⟨by decide, by decide, by decide⟩, _, _, rfl, rfl, _, rfl, _, _, rfl, rfl, ⟨hmn, hma⟩, _, rfl, d, _, rfl, uR p2, ?_⟩
          refine ⟨_, rfl, _, _, rfl, rfl, ⟨by decide, by decide, by decide⟩, _, _, rfl, rfl, .inl ⟨_, rfl, _, rfl, _, _, rfl, rfl, hmn, ?_⟩⟩
          exact q _ _ (fm _).1 (fm _).2 ⟨ns, sp + 1, _, upd_same, by rw [upd_ne ncd]; exact c2, h3, by omega⟩ (b2.trans But.upd)
        · refine ⟨_, rfl, .inl ⟨_, rfl, _, _, rfl, rfl, nz1, _, _, rfl, rfl, .inr ⟨by decide, by decide⟩, ?_⟩⟩
          obtain ⟨z1, e1⟩ : ∃ z1, (z.fmod 2147483423) * 40009 = z1 := ⟨_, rfl⟩
          refine ⟨_, rfl, _, rfl, _, _, rfl, rfl, .inl ⟨by decide, by decide⟩, _, rfl, _, _, rfl, rfl, .inr ⟨by omega, by omega⟩, z1, _, congrArg V.int e1, rfl, _, rfl, _, _, rfl, rfl, .inl ⟨by decide, by decide⟩, _, _, rfl, rfl, _, _, rfl, rfl, .inl ⟨_, rfl, _, _, rfl, rfl, nz2, ?_⟩⟩
          obtain ⟨z2, e2⟩ : ∃ z2, (z1 + 52361 * (sp : Int) * (sp : Int) + 97 * (sp : Int) + 29).fmod 2147483477 = z2 := ⟨_, rfl⟩
          have f2 := fmod_in (z1 + 52361 * (sp : Int) * (sp : Int) + 97 * (sp : Int) + 29) (m := 2147483477) (by decide)
          rw [e2] at f2
          refine ⟨_, rfl, _, rfl, z2, _, congrArg V.int e2, rfl, z2, _, congrArg V.int e2, rfl, .inl ⟨by omega, by omega⟩, .inl ⟨_, rfl, _, _, rfl, rfl, nz3, ?_⟩⟩
          obtain ⟨z3, e3⟩ : ∃ z3, (z2 * (z2 + 70001)).fmod 2147483489 = z3 := ⟨_, rfl⟩
          have f3 := fmod_in (z2 * (z2 + 70001)) (m := 2147483489) (by decide)
          rw [e3] at f3
          refine ⟨_, rfl, _, rfl, z3, z3, congrArg V.int e3, congrArg V.int e3, .inl ⟨by omega, by omega⟩, _, rfl, _, z3, rfl, congrArg V.int e3, .inl ⟨by decide, by decide⟩, _, _, rfl, rfl, .inl ⟨_, rfl, _, _, rfl, rfl, nz4, _, _, rfl, rfl, ⟨by decide, by decide⟩, .inl ⟨_, rfl, _, rfl, _, _, rfl, rfl, hmn, ?_⟩⟩⟩
          exact q _ _ (fm _).1 (fm _).2 ⟨ns, sp + 1, _, p2, c2, h3, by omega⟩ b2
        · refine ⟨_, rfl, .inl ⟨_, rfl, _, _, rfl, rfl, nz1, _, _, rfl, rfl, .inr ⟨by decide, by decide⟩, ?_⟩⟩
          obtain ⟨z1, e1⟩ : ∃ z1, (z.fmod 2147483423) * 40009 = z1 := ⟨_, rfl⟩
          refine ⟨_, rfl, _, rfl, _, _, rfl, rfl, .inl ⟨by decide, by decide⟩, _, rfl, _, _, rfl, rfl, .inr ⟨by omega, by omega⟩, z1, _, congrArg V.int e1, rfl, _, rfl, _, _, rfl, rfl, .inl ⟨by decide, by decide⟩, _, _, rfl, rfl, _, _, rfl, rfl, .inl ⟨_, rfl, _, _, rfl, rfl, nz2, ?_⟩⟩
          obtain ⟨z2, e2⟩ : ∃ z2, (z1 + 52361 * (sp : Int) * (sp : Int) + 97 * (sp : Int) + 29).fmod 2147483477 = z2 := ⟨_, rfl⟩
          have f2 := fmod_in (z1 + 52361 * (sp : Int) * (sp : Int) + 97 * (sp : Int) + 29) (m := 2147483477) (by decide)
          rw [e2] at f2
          refine ⟨_, rfl, _, rfl, z2, _, congrArg V.int e2, rfl, z2, _, congrArg V.int e2, rfl, .inl ⟨by omega, by omega⟩, .inl ⟨_, rfl, _, _, rfl, rfl, nz3, ?_⟩⟩
          obtain ⟨z3, e3⟩ : ∃ z3, (z2 * (z2 + 70001)).fmod 2147483489 = z3 := ⟨_, rfl⟩
          have f3 := fmod_in (z2 * (z2 + 70001)) (m := 2147483489) (by decide)
          rw [e3] at f3
          refine ⟨_, rfl, _, rfl, z3, z3, congrArg V.int e3, congrArg V.int e3, .inl ⟨by omega, by omega⟩, _, rfl, _, z3, rfl, congrArg V.int e3, .inl ⟨by decide, by decide⟩, _, _, rfl, rfl, .inl ⟨_, rfl, _, _, rfl, rfl, nz4, _, _, rfl, rfl, ⟨by decide, by decide⟩, .inl ⟨_, rfl, _, rfl, _, _, rfl, rfl, hmn, ?_⟩⟩⟩
          exact q _ _ (fm _).1 (fm _).2 ⟨ns, sp + 1, _, p2, c2, h3, by omega⟩ b2
end
end K3

namespace K3
open PySem L2
/-- what a call of a def of the text wants, beside its promise -/
structure Cd (K : PySem.W.Frag) (mg : Str → Option Value) (x : Str) (f : Addr) : Prop where
  mg : mg x = some (.ref f)
  kp : PySem.W.keepIn K (.ref f) = true
section
variable {P : Program} {w : World} {K : PySem.W.Frag} {mg : Str → Option Value} {base : Heap}
theorem lst_ne {H : Hp} {a d c : Addr} {xs : List V} {n : Nat} (h : H a = some (.lst xs)) (p : PenAt H d c n) : a ≠ d := by
  obtain ⟨ns, s, r, h1, _⟩ := p
  exact ne_of h h1 (fun z => by cases z)
theorem tup_ne {H : Hp} {a d c : Addr} {xs : List V} {n : Nat} (h : H a = some (.tup xs)) (p : PenAt H d c n) : a ≠ d := by
  obtain ⟨ns, s, r, h1, _⟩ := p
  exact ne_of h h1 (fun z => by cases z)
/-! ### _law_pick: slots pen 0, items 1 -/
def spPick : Sp := fun vs H Q _ => ∃ (d c : Addr) (n : Nat) (x : V), vs = [.ref d, x] ∧ PenAt H d c n ∧ n ≤ 1000000 ∧
  ((∃ (a : Addr) (xs : List V), x = .ref a ∧ H a = some (.lst xs) ∧ 0 < xs.length ∧ xs.length < 1000000 ∧ ∀ (v : V) (H' : Hp), v ∈ xs → PenAt H' d c (n + 1) → But d H H' → Q v H') ∨
   (∃ z : Str, x = .str z ∧ 0 < z.length ∧ z.length < 1000000 ∧ ∀ (y : Nat) (H' : Hp), y ∈ z.cps.toList → PenAt H' d c (n + 1) → But d H H' → Q (.str ⟨#[y]⟩) H'))
theorem scPick : FnScope ["_law_pen_here", "_law_items"] ["_law_pen_here", "_law_items"] (defScope sPick) := ⟨rfl, rfl, rfl, by decide +kernel, rfl, by decide +kernel, by decide +kernel⟩
theorem ok_pick {f fD : Addr} {fd fdD : FuncData} (F : Fun K "_law_pick" "_law_pick" sPick f fd) (GD : FnOk P w K mg base CX0 1 fD fdD ["_law_pen_here", "_law_many"] spDraw) (cD : Cd K mg "_law_draw" fD) (bD : Binds K fdD ["_law_pen_here", "_law_many"] [])
    (ml : mg "len" = none) : FnOk P w K mg base CX0 2 f fd ["_law_pen_here", "_law_items"] spPick := by
  refine F.ok scPick (fun vs H Q E h => ?_) (fun cdv A outer s H vs Q E hr h => ?_)
  · obtain ⟨d, c, n, x, rfl, _⟩ := h
    rfl
  · obtain ⟨d, c, n, x, rfl, p, hn, h⟩ := h
    refine ⟨_, pss_one (ps_ret (pe_ix ix_seq (pv 1) (pe_call GD hr rfl cD.mg cD.kp bD .nil pass0 (pa_cons (pv 0) (pa_cons (pe_callB call_len (by rfl) ml (by decide +kernel) (pa_cons (pv 1) pa_nil)) pa_nil))) (fun _ _ => rfl))), ?_⟩
    rcases h with ⟨a, xs, rfl, hx, h0, h1, q⟩ | ⟨z, rfl, h0, h1, q⟩
    · refine ⟨_, rfl, _, rfl, _, rfl, _, _, rfl, .inl ⟨_, .inl (.inl hx), rfl⟩, d, c, n, (xs.length : Int), rfl, p, hn, by omega, by omega, fun j H' hj0 hj1 p' b => ?_⟩
      have hx' := b a _ hx (lst_ne hx p)
      obtain ⟨k, rfl⟩ : ∃ k : Nat, j = (k : Int) := ⟨j.toNat, by omega⟩
      have hk : k < xs.length := by omega
      exact .inl ⟨a, xs, _, xs[k], rfl, rfl, .inl (.inl hx'), atI_nat (List.getElem?_eq_getElem hk), q _ _ (List.getElem_mem hk) p' b⟩
    · have hz : z.length ≤ sizeLine := by have := small1000 (n := 0) (by decide); rw [sizeLine_eq]; omega
      refine ⟨_, rfl, _, rfl, _, rfl, _, _, rfl, ⟨hz, rfl⟩, d, c, n, (z.length : Int), rfl, p, hn, by omega, by omega, fun j H' hj0 hj1 p' b => ?_⟩
      obtain ⟨k, rfl⟩ : ∃ k : Nat, j = (k : Int) := ⟨j.toNat, by omega⟩
      have hk : k < z.cps.toList.length := by rw [← TL.len_tl]; omega
      exact .inr (.inr ⟨z, _, z.cps.toList[k], rfl, rfl, hz, atI_nat (List.getElem?_eq_getElem hk), q _ _ (List.getElem_mem hk) p' b⟩)
end
end K3

namespace K3
open PySem L2 SX AddrMath
/-! ### texts by their signs -/
theorem len_S (l : List Nat) : (S l).length = l.length := S_len l
theorem cutS_to (l : List Nat) (k : Nat) : cutS (S l) none (some (k : Int)) = S (l.take k) := by
  unfold cutS
  rw [HT.sIx_none, HT.sIx_nat, len_S, List.drop_zero, Nat.sub_zero]
  show S (l.take (min k l.length)) = _
  by_cases h : k ≤ l.length
  · rw [Nat.min_eq_left h]
  · rw [Nat.min_eq_right (by omega), List.take_of_length_le (Nat.le_refl _), List.take_of_length_le (by omega)]
theorem cutS_from (l : List Nat) (k : Nat) : cutS (S l) (some (k : Int)) none = S (l.drop k) := by
  unfold cutS
  rw [HT.sIx_none, HT.sIx_nat, len_S]
  show S ((l.drop (min k l.length)).take (l.length - min k l.length)) = _
  by_cases h : k ≤ l.length
  · rw [Nat.min_eq_left h, List.take_of_length_le (by rw [List.length_drop]; omega)]
  · rw [Nat.min_eq_right (by omega), List.drop_eq_nil_of_le (Nat.le_refl _), List.drop_eq_nil_of_le (show l.length ≤ k by omega)]
    simp
theorem cutS_mid (l : List Nat) (i k : Nat) : cutS (S l) (some (i : Int)) (some (k : Int)) = S ((l.take k).drop i) := by
  unfold cutS
  rw [HT.sIx_nat, HT.sIx_nat, len_S]
  show S ((l.drop (min i l.length)).take (min k l.length - min i l.length)) = _
  congr 1
  apply List.ext_getElem?
  intro n
  rw [List.getElem?_take, List.getElem?_drop, List.getElem?_drop, List.getElem?_take]
  by_cases hi : i ≤ l.length
  · rw [Nat.min_eq_left hi]
    by_cases hk : k ≤ l.length
    · rw [Nat.min_eq_left hk]
      by_cases h : n < k - i
      · rw [if_pos h, if_pos (by omega)]
      · rw [if_neg h, if_neg (by omega)]
    · rw [Nat.min_eq_right (by omega)]
      by_cases h : n < l.length - i
      · rw [if_pos h, if_pos (by omega)]
      · rw [if_neg h]
        split
        · exact (List.getElem?_eq_none (by omega)).symm
        · rfl
  · rw [Nat.min_eq_right (by omega : l.length ≤ i)]
    rw [if_neg (by omega)]
    split
    · exact (List.getElem?_eq_none (by omega)).symm
    · rfl
theorem joinL_nil : ∀ ys : List (List Nat), TL.joinL [] ys = ys.flatten
  | [] => rfl
  | [p] => by simp [TL.joinL]
  | p :: q :: r => by
    show p ++ ([] ++ TL.joinL [] (q :: r)) = _
    rw [joinL_nil (q :: r)]
    rfl
theorem join_S0 (ys : List (List Nat)) : Txt.join (S []) (ys.map S) = S ys.flatten := by rw [join_S, joinL_nil]
theorem emp_S : (Str.ofString "" : Str) = S [] := by decide +kernel
theorem nz3' : (3 : Int) ≠ 0 := by decide
theorem nz26 : (26 : Int) ≠ 0 := by decide
theorem at_ofN {xs : List Nat} {z : Int} {j : Nat} {v : Nat} (e : z = (j : Int)) (h : xs[j]? = some v) : atI xs z = some v := by
  rw [e]
  exact atI_nat h
theorem size_ok {n : Nat} (h : n ≤ 1000000) : n ≤ sizeLine := by rw [sizeLine_eq]; omega
theorem size_lt {n : Nat} (h : n ≤ 1000000) : n < sizeLine := by rw [sizeLine_eq]; omega
abbrev lettersL : List Nat := (Str.ofString "abcdefghijklmnopqrstuvwxyz" : Str).cps.toList
theorem letters_all : ∀ c ∈ lettersL, isL c = true := by decide +kernel
theorem letters_len : lettersL.length = 26 := by decide +kernel
theorem letters_S : (Str.ofString "abcdefghijklmnopqrstuvwxyz" : Str) = S lettersL := (S_tl _).symm
theorem flat_one (cs : List Nat) : (cs.map fun c => [c]).flatten = cs := by
  induction cs with
  | nil => rfl
  | cons c r ih =>
    rw [List.map_cons, List.flatten_cons, ih]
    rfl
theorem map_one (cs : List Nat) : (cs.map fun c => V.str (S [c])) = ((cs.map fun c => [c]).map S).map V.str := by
  rw [List.map_map, List.map_map]
  rfl
theorem sum_one (cs : List Nat) : (((cs.map fun c => [c]).map S).map (·.length)).sum = cs.length := by
  induction cs with
  | nil => rfl
  | cons c r ih =>
    rw [List.map_cons, List.map_cons, List.map_cons, List.sum_cons, ih, List.length_cons, len_S]
    exact Nat.add_comm _ _
section
variable {P : Program} {w : World} {K : PySem.W.Frag} {mg : Str → Option Value} {base : Heap}
/-! ### _law_words: slots pen 0, many 1, letters 2, k 3, stem 4, at 5, front 6, step 7, tail 8, found 9, word 10 -/
def spWords : Sp := fun vs H Q _ => ∃ (d c : Addr) (n m : Nat), vs = [.ref d, .int (m : Int)] ∧ PenAt H d c n ∧ n ≤ 900000 ∧ m ≤ 20 ∧
  ∀ (a : Addr) (ws : List (List Nat)) (H' : Hp), ws.length = m → (∀ x ∈ ws, isW x = true) → H' a = some (.lst (ws.map fun x => V.str (S x))) → H a = none → PenAt H' d c (n + 10) → But d H H' → Q (.ref a) H'
theorem scWords : FnScope ["_law_pen_here", "_law_many", "_law_letters", "_law_k", "_law_stem", "_law_at", "_law_front", "_law_step", "_law_tail", "_law_found", "_law_word"] ["_law_pen_here", "_law_many"] (defScope sWords) := ⟨rfl, rfl, rfl, by decide +kernel, rfl, by decide +kernel, by decide +kernel⟩
theorem ok_words {f fD fP : Addr} {fd fdD fdP : FuncData} (F : Fun K "_law_words" "_law_words" sWords f fd) (GD : FnOk P w K mg base CX0 1 fD fdD ["_law_pen_here", "_law_many"] spDraw) (cD : Cd K mg "_law_draw" fD) (bD : Binds K fdD ["_law_pen_here", "_law_many"] [])
    (GP : FnOk P w K mg base CX0 2 fP fdP ["_law_pen_here", "_law_items"] spPick) (cP : Cd K mg "_law_pick" fP) (bP : Binds K fdP ["_law_pen_here", "_law_items"] [])
    (ml : mg "len" = none) (mr : mg "range" = none) (mi : mg "int" = none) : FnOk P w K mg base CX0 3 f fd ["_law_pen_here", "_law_many"] spWords := by
  refine F.ok scWords (fun vs H Q E h => ?_) (fun cdv A outer s H vs Q E hr h => ?_)
  · obtain ⟨d, c, n, m, rfl, _⟩ := h
    rfl
  · obtain ⟨d, c, n, m, rfl, p, hn, hm, q⟩ := h
    have hr1 : Room 1 _ := hr.mono (by decide)
    refine ⟨_, pss_cons (ps_set (i := 2) scWords.nd rfl (Or.inr rfl) pe_str)
      (pss_cons (ps_set (i := 4) scWords.nd rfl (Or.inl rfl) (pe_join pe_str (pe_lc (own := [("_law_k", 3)]) (g := gName 3) (tt := tYes) rfl scWords.nd (pi_range1 (by rfl) mr (pa_cons (pe_call GD hr1 rfl cD.mg cD.kp bD .nil pass0 (pa_cons (pv 0) (pa_cons pe_int pa_nil))) pa_nil))
          (blkOk_by (own := [("_law_k", 3)]) (N := ["_law_pen_here", "_law_many", "_law_letters", "_law_k", "_law_stem", "_law_at", "_law_front", "_law_step", "_law_tail", "_law_found", "_law_word"]) (sc := defScope sWords) (by decide +kernel))
          (fun _ _ _ _ _ => pg_name (i := 3) scWords.nd rfl (Or.inl rfl)) (fun _ _ _ _ _ => pts_nil)
          (fun _ _ _ _ _ => pe_call GP hr rfl cP.mg cP.kp bP .nil pass0 (pa_cons (pv 0) (pa_cons (pv 2) pa_nil))))))
      (pss_cons (ps_par (by rfl) scWords.nd (i := 5) (j := 6) rfl rfl (by decide) rfl rfl (pa_cons (pe_call GD hr1 rfl cD.mg cD.kp bD .nil pass0 (pa_cons (pv 0) (pa_cons (pe_op op_add (pe_callB call_len_str (by rfl) ml (by decide +kernel) (pa_cons (pv 4) pa_nil)) pe_int) pa_nil)))
          (pa_cons (pe_call GD hr1 rfl cD.mg cD.kp bD .nil pass0 (pa_cons (pv 0) (pa_cons pe_int pa_nil))) pa_nil)) (by rfl))
      (pss_cons (ps_par (by rfl) scWords.nd (i := 7) (j := 8) rfl rfl (by decide) rfl rfl (pa_cons (pe_call GP hr rfl cP.mg cP.kp bP .nil pass0 (pa_cons (pv 0) (pa_cons (pe_lst (pa_cons pe_int (pa_cons pe_int (pa_cons pe_int (pa_cons pe_int (pa_cons pe_int (pa_cons pe_int (pa_cons pe_int (pa_cons pe_int pa_nil))))))))) pa_nil)))
          (pa_cons (pe_call GP hr rfl cP.mg cP.kp bP .nil pass0 (pa_cons (pv 0) (pa_cons (pe_lst (pa_cons pe_str (pa_cons pe_str (pa_cons pe_str (pa_cons pe_str pa_nil))))) pa_nil))) pa_nil)) (by rfl))
      (pss_cons (ps_set (i := 9) scWords.nd rfl (Or.inl rfl) (pe_lst pa_nil))
      (pss_cons (ps_for PassesOwn.never rfl (pi_range1 (by rfl) mr (pa_cons (pv 1) pa_nil)) (pg_name (i := 3) scWords.nd rfl (Or.inl rfl))
        (pss_cons (ps_set (i := 10) scWords.nd rfl (Or.inl rfl) (pe_op op_add_str (pe_op op_add_str (pe_slice sl_str (pv 4) po_none (po_some (pv 5)))
            (pe_ix ix_str (pv 2) (pe_op op_modN (pe_callTy call_int1 (by rfl) mi (by decide +kernel) (pa_cons (pe_op op_add (pv 6) (pe_op op_mul (pv 7) (pv 3))) pa_nil)) pe_int) (fun _ _ => rfl))) (pe_slice sl_str (pv 4) (po_some (pv 5)) po_none)))
        (pss_one (ps_expr (pe_bm PySem.F.plainAttrs_list PySem.F.slot_list_append PySem.F.type_list_append mt_append (pv 9)
          (pa_cons (pe_ifExp (pt_cmpR op_eq (pe_op op_modN (pe_callTy call_int1 (by rfl) mi (by decide +kernel) (pa_cons (pv 3) pa_nil)) pe_int) pe_int (nomark _)) (pe_op op_add_str (pv 10) (pv 8)) (pv 10)) pa_nil))))))
      (pss_one (ps_ret (pv 9)))))))), ?_⟩
    -- stem
    refine ⟨⟨_, rfl⟩, _, rfl, d, c, n, 6, rfl, p, by omega, by decide, by decide, fun j H1 hj0 hj1 p1 b1 => ?_⟩
    obtain ⟨jn, rfl⟩ : ∃ k : Nat, j = (k : Int) := ⟨j.toNat, by omega⟩
    refine ⟨(jn : Int), rfl, by omega, by omega, fun D hD => ?_⟩
    refine lc_range (lo := 0) (n := jn) (fun i H' => PenAt H' d c (n + 1 + i) ∧ But d H1 H' ∧ ∃ cs : List Nat, H' D = some (.lst (cs.map fun c => V.str (S [c]))) ∧ cs.length = i ∧ ∀ c ∈ cs, isL c = true)
      ⟨p1.keep (same_new hD), but_of (same_new hD), [], upd_same, rfl, fun c hc => by cases hc⟩ ?_ ?_
    · rintro i H' hi ⟨p2, b2, cs, hcs, hcl, hca⟩
      refine ⟨rfl, _, rfl, _, rfl, d, c, n + 1 + i, _, rfl, p2, by omega, .inr ⟨_, rfl, by decide +kernel, by decide +kernel, fun y H3 hy p3 b3 => ?_⟩⟩
      have hne : D ≠ d := lst_ne hcs p2
      have h3 := b3 D _ hcs hne
      have hDc : D ≠ c := fun z => p1.neC (by rw [← z]; exact hD)
      refine ⟨_, h3, by rw [List.length_map]; exact size_lt (by omega), ?_, ?_, cs ++ [y], ?_, ?_, ?_⟩
      · exact (p3.mono (by omega)).put hne hDc
      · exact (b2.trans b3).put hD
      · rw [upd_same, List.map_append]
        rfl
      · rw [List.length_append, hcl]
        rfl
      · exact all_snoc hca (letters_all y hy)
    · rintro H2 ⟨p2, b2, cs, hcs, hcl, hca⟩
      refine ⟨_, D, (cs.map fun c => [c]).map S, rfl, rfl, .inl (.inl (.inl (hcs.trans ?_))), ?_, ?_⟩
      · rw [map_one]
      · rw [sum_one, emp_S, len_S]
        show cs.length + _ * 0 ≤ _
        omega
      refine st_is (σ' := [some (.ref d), some (.int (m : Int)), some (.str (S lettersL)), none, some (.str (S cs)), none, none, none, none, none, none]) (by rw [emp_S, join_S0, flat_one, letters_S]; rfl) ?_
      have hb : But d H H2 := b1.trans b2
      have hcs5 : cs.length ≤ 5 := by omega
      clear hcs b1 b2 p1 hD
      -- at, front
      refine ⟨_, rfl, _, rfl, _, rfl, size_ok (by rw [len_S]; omega), _, _, rfl, rfl, d, c, n + 1 + jn, _, rfl, p2, by omega, by rw [len_S]; omega, by rw [len_S]; omega, fun a0 H3 ha0 ha1 p3 b3 => ?_⟩
      refine ⟨_, rfl, d, c, _, 26, rfl, p3, by omega, by decide, by decide, fun fr H4 hf0 hf1 p4 b4 => ⟨_, _, rfl, ?_⟩⟩
      obtain ⟨at_, rfl⟩ : ∃ k : Nat, a0 = (k : Int) := ⟨a0.toNat, by omega⟩
      rw [len_S] at ha1
      -- step, tail
      refine ⟨_, rfl, by show 8 ≤ sizeLine; decide, fun l nl => ?_⟩
      refine ⟨d, c, _, _, rfl, p4.keep (same_new nl), by omega, .inl ⟨l, _, rfl, upd_same, by show 0 < 8; decide, by show 8 < 1000000; decide, fun st H5 hst p5 b5 => ?_⟩⟩
      refine ⟨_, rfl, by show 4 ≤ sizeLine; decide, fun l2 nl2 => ?_⟩
      refine ⟨d, c, _, _, rfl, p5.keep (same_new nl2), by omega, .inl ⟨l2, _, rfl, upd_same, by show 0 < 4; decide, by show 4 < 1000000; decide, fun tv H6 htv p6 b6 => ⟨_, _, rfl, ?_⟩⟩⟩
      obtain ⟨sk, rfl, hk0, hk1⟩ : ∃ k : Int, st = .int k ∧ 0 ≤ k ∧ k ≤ 17 := by
        simp only [List.mem_cons, List.not_mem_nil, or_false] at hst
        rcases hst with rfl | rfl | rfl | rfl | rfl | rfl | rfl | rfl <;> exact ⟨_, rfl, by decide, by decide⟩
      obtain ⟨tl_, rfl, htl, hta⟩ : ∃ t : List Nat, tv = .str (S t) ∧ t.length ≤ 2 ∧ ∀ c ∈ t, isL c = true := by
        simp only [List.mem_cons, List.not_mem_nil, or_false] at htv
        rcases htv with rfl | rfl | rfl | rfl
        · exact ⟨[], congrArg V.str emp_S, by decide, by decide⟩
        · exact ⟨[], congrArg V.str emp_S, by decide, by decide⟩
        · exact ⟨[119], congrArg V.str (by decide +kernel), by decide, by decide⟩
        · exact ⟨[119, 119], congrArg V.str (by decide +kernel), by decide, by decide⟩
      have hb6 : But d H H6 := (((((hb.trans b3).trans b4).trans (but_of (same_new nl))).trans b5).trans (but_of (same_new nl2))).trans b6
      have p6' : PenAt H6 d c (n + 10) := p6.mono (by omega)
      clear b3 b4 b5 b6 p3 p4 p5 nl nl2 hb p2 hst htv p6
      -- found
      refine ⟨Nat.zero_le _, fun o no => ?_⟩
      have noH : H o = none := p.free p6' hb6 no
      have p7 : PenAt (upd H6 o (.lst [])) d c (n + 10) := p6'.keep (same_new no)
      have hod : o ≠ d := fun z => p6'.ne (by rw [← z]; exact no)
      have hoc : o ≠ c := fun z => p6'.neC (by rw [← z]; exact no)
      -- for
      refine ⟨_, rfl, m, rfl, by omega, by omega, for_range (n := m) (fun i σ H' => ∃ v3 v10 : Option V, σ = [some (.ref d), some (.int (m : Int)), some (.str (S lettersL)), v3, some (.str (S cs)), some (.int (at_ : Int)), some (.int fr), some (.int sk), some (.str (S tl_)), some (.ref o), v10] ∧
        PenAt H' d c (n + 10) ∧ But d H H' ∧ ∃ ws : List (List Nat), H' o = some (.lst (ws.map fun x => V.str (S x))) ∧ ws.length = i ∧ ∀ x ∈ ws, isW x = true)
        ⟨none, none, rfl, p7, hb6.put noH, [], upd_same, rfl, fun x hx => by cases hx⟩ ?_ ?_⟩
      · rintro i σ H' hi ⟨v3, v10, rfl, p8, b8, ws, hws, hwl, hwa⟩
        obtain ⟨j, ej⟩ : ∃ j : Nat, (fr + sk * (0 + (i : Int))).fmod 26 = (j : Int) := ⟨((fr + sk * (0 + (i : Int))).fmod 26).toNat, by have := fmod_in (fr + sk * (0 + (i : Int))) (m := 26) (by decide); omega⟩
        have hj : j < lettersL.length := by
          have := fmod_in (fr + sk * (0 + (i : Int))) (m := 26) (by decide)
          rw [letters_len]
          omega
        have hle : cs.length ≤ 5 := hcs5
        refine ⟨_, rfl, _, rfl, (at_ : Int), rfl, _, rfl, size_ok (by rw [len_S]; omega), _, rfl, _, rfl, _, rfl, _, rfl, _, _, rfl, rfl, .inl ⟨by omega, by omega⟩, _, _, rfl, rfl, .inl ⟨_, rfl, _, _, rfl, rfl, nz26, _, _, lettersL[j], rfl, rfl, size_ok (by rw [len_S, letters_len]; decide), at_ofN ej (List.getElem?_eq_getElem hj), ?_⟩⟩
        have e1 : cutS (S cs) none (some (at_ : Int)) = S (cs.take at_) := cutS_to cs at_
        have e2 : cutS (S cs) (some (at_ : Int)) none = S (cs.drop at_) := cutS_from cs at_
        have hlet : isL lettersL[j] = true := letters_all _ (List.getElem_mem hj)
        have hW : (cs.take at_ ++ lettersL[j] :: cs.drop at_).length = cs.length + 1 := by
          rw [List.length_append, List.length_cons, List.length_take, List.length_drop]
          omega
        have hWa : ∀ c ∈ cs.take at_ ++ lettersL[j] :: cs.drop at_, isL c = true := by
          intro c hc
          rcases List.mem_append.mp hc with h | h
          · exact hca c (List.mem_of_mem_take h)
          · rcases List.mem_cons.mp h with h | h
            · rw [h]
              exact hlet
            · exact hca c (List.mem_of_mem_drop h)
        generalize hWl : cs.take at_ ++ lettersL[j] :: cs.drop at_ = W at hW hWa
        refine ⟨_, _, rfl, rfl, ?_, _, rfl, _, rfl, (at_ : Int), rfl, _, rfl, size_ok (by rw [len_S]; omega), _, _, rfl, rfl, ?_, ?_⟩
        · rw [e1, len_S, List.length_take]
          exact size_ok (by show min at_ cs.length + 1 ≤ _; omega)
        · rw [e1, e2]
          have z2 : (S (cs.drop at_)).length = cs.length - at_ := by rw [len_S, List.length_drop]
          have z : (S (cs.take at_) ++ (⟨#[lettersL[j]]⟩ : Str)).length = (cs.take at_ ++ [lettersL[j]]).length := by
            rw [show (⟨#[lettersL[j]]⟩ : Str) = S [lettersL[j]] from rfl, S_cat, len_S]
          rw [z, z2, List.length_append, List.length_take, List.length_singleton]
          exact size_ok (by omega)
        refine st_is (σ' := [some (.ref d), some (.int (m : Int)), some (.str (S lettersL)), some (.int (0 + (i : Int))), some (.str (S cs)), some (.int (at_ : Int)), some (.int fr), some (.int sk), some (.str (S tl_)), some (.ref o), some (.str (S W))]) (by
          rw [e1, e2, show (⟨#[lettersL[j]]⟩ : Str) = S [lettersL[j]] from rfl, S_cat, S_cat, List.append_assoc, List.singleton_append, hWl]
          rfl) ?_
        have fin : ∀ x : List Nat, isW x = true → ∃ v3 v10 : Option V, [some (.ref d), some (.int (m : Int)), some (.str (S lettersL)), some (.int (0 + (i : Int))), some (.str (S cs)), some (.int (at_ : Int)), some (.int fr), some (.int sk), some (.str (S tl_)), some (.ref o), some (.str (S W))] = [some (.ref d), some (.int (m : Int)), some (.str (S lettersL)), v3, some (.str (S cs)), some (.int (at_ : Int)), some (.int fr), some (.int sk), some (.str (S tl_)), some (.ref o), v10] ∧
            PenAt (upd H' o (.lst ((ws.map fun x => V.str (S x)) ++ [.str (S x)]))) d c (n + 10) ∧ But d H (upd H' o (.lst ((ws.map fun x => V.str (S x)) ++ [.str (S x)]))) ∧
            ∃ ws' : List (List Nat), (upd H' o (.lst ((ws.map fun x => V.str (S x)) ++ [.str (S x)]))) o = some (.lst (ws'.map fun x => V.str (S x))) ∧ ws'.length = i + 1 ∧ ∀ x ∈ ws', isW x = true := fun x hx => by
          refine ⟨_, _, rfl, p8.put hod hoc, b8.put noH, ws ++ [x], ?_, ?_, ?_⟩
          · rw [upd_same, List.map_append]
            rfl
          · rw [List.length_append, hwl]
            rfl
          · intro y hy
            rcases List.mem_append.mp hy with h | h
            · exact hwa y h
            · rw [List.mem_singleton.mp h]
              exact hx
        -- found.append(..)
        refine ⟨_, rfl, .inl ⟨rfl, _, .inl (.inl hws)⟩, _, rfl, .inl ⟨_, rfl, _, _, rfl, rfl, nz3', rfl, _, rfl, ?_⟩⟩
        refine ite2 (fun _ => ?_) (fun _ => ?_)
        · refine ⟨_, rfl, _, rfl, _, _, rfl, rfl, size_ok (by rw [len_S, len_S]; omega), o, _, _, rfl, rfl, hws, size_lt (by rw [List.length_map]; omega), ?_⟩
          rw [S_cat]
          refine fin (W ++ tl_) (isW_iff.mpr ⟨by rw [List.length_append]; omega, by rw [List.length_append]; omega, fun c hc => ?_⟩)
          rcases List.mem_append.mp hc with h | h
          · exact hWa c h
          · exact hta c h
        · refine ⟨_, rfl, o, _, _, rfl, rfl, hws, size_lt (by rw [List.length_map]; omega), ?_⟩
          exact fin W (isW_iff.mpr ⟨by omega, by omega, hWa⟩)
      · rintro σ H' ⟨v3, v10, rfl, p8, b8, ws, hws, hwl, hwa⟩
        exact ⟨_, rfl, q o ws H' hwl hwa hws noH p8 b8⟩
end
end K3

namespace K3
open PySem L2 SX AddrMath
abbrev sIsWord : Stmt := top 6
abbrev sAreWords : Stmt := top 7
abbrev sWordEnd : Stmt := top 11
abbrev sInit : Stmt := inClass (top 12) 0
abbrev sState : Stmt := inClass (top 12) 1
abbrev sPath : Stmt := inClass (top 12) 2
abbrev sText : Stmt := inClass (top 12) 13
abbrev sRead : Stmt := inClass (top 12) 14
theorem let_facts : ∀ k : Nat, k < 26 → (Unicode.isAlpha (97 + k) && Unicode.isLower (97 + k) && !(Unicode.isUpper (97 + k) || Unicode.isTitle (97 + k))) = true := by decide +kernel
theorem let_at {c : Nat} (h : isL c = true) : Unicode.isAlpha c = true ∧ Unicode.isLower c = true ∧ (Unicode.isUpper c || Unicode.isTitle c) = false ∧ c < 128 := by
  unfold isL at h
  rw [Bool.and_eq_true, decide_eq_true_eq, decide_eq_true_eq] at h
  have z := let_facts (c - 97) (by omega)
  rw [show 97 + (c - 97) = c by omega] at z
  simp only [Bool.and_eq_true, Bool.not_eq_true'] at z
  exact ⟨z.1.1, z.1.2, z.2, by omega⟩
theorem w_ascii {l : List Nat} (h : isW l = true) : Txt.isascii (S l) = true := by
  unfold Txt.isascii
  rw [← Array.all_toList, List.all_eq_true]
  intro c hc
  exact decide_eq_true (let_at ((isW_iff.mp h).2.2 c hc)).2.2.2
theorem w_alpha {l : List Nat} (h : isW l = true) : Txt.isalpha (S l) = true := by
  unfold Txt.isalpha
  rw [← Array.all_toList, Bool.and_eq_true, List.all_eq_true, len_S]
  exact ⟨decide_eq_true (isW_iff.mp h).1, fun c hc => (let_at ((isW_iff.mp h).2.2 c hc)).1⟩
theorem w_lower {l : List Nat} (h : isW l = true) : Txt.islower (S l) = true := by
  have hw := isW_iff.mp h
  unfold Txt.islower
  rw [← Array.any_toList, ← Array.any_toList, Bool.and_eq_true]
  constructor
  · rw [List.any_eq_true]
    cases l with
    | nil => exact absurd hw.1 (by decide)
    | cons c r => exact ⟨c, List.mem_cons_self .., (let_at (hw.2.2 c (List.mem_cons_self ..))).2.1⟩
  · rw [Bool.not_eq_true', List.any_eq_false]
    intro c hc
    rw [(let_at (hw.2.2 c hc)).2.2.1]
    exact Bool.false_ne_true
theorem if_dec {c A B : Prop} [Decidable c] (h : c) (a : A) : if decide c = true then A else B := by
  rw [if_pos (decide_eq_true h)]
  exact a
section
variable {P : Program} {w : World} {K : PySem.W.Frag} {mg : Str → Option Value} {base : Heap}
/-! ### is_word, of a word -/
def spIsWord : Sp := fun vs H Q _ => ∃ l : List Nat, vs = [.str (S l)] ∧ isW l = true ∧ Q (.bl true) H
theorem scIsWord : FnScope ["value"] ["value"] (defScope sIsWord) := ⟨rfl, rfl, rfl, by decide +kernel, rfl, by decide +kernel, by decide +kernel⟩
theorem ok_isword {f : Addr} {fd : FuncData} {t : Tok} (F : Fun K "is_word" "is_word" sIsWord f fd) (ms : mg "isinstance" = none) (mt : mg "str" = none) (ml : mg "len" = none) (mL : mg "LETTERS" = some (.int 8 t)) :
    FnOk P w K mg base CX0 1 f fd ["value"] spIsWord := by
  refine F.ok scIsWord (fun vs H Q E h => ?_) (fun cdv A outer s H vs Q E hr h => ?_)
  · obtain ⟨l, rfl, _⟩ := h
    rfl
  · obtain ⟨l, rfl, hl, q⟩ := h
    have hw := isW_iff.mp hl
    refine ⟨_, pss_cons (ps_if (pt_not (pt_val (pe_callB call_isi (by rfl) ms (by decide +kernel) (pa_cons (pv 0) (pa_cons (pe_bltn (v := .ty "str") (by rfl) mt (by decide +kernel) rfl) pa_nil))))) (pss_one (ps_ret pe_bl)) pss_nil)
      (pss_one (ps_ret (pe_and (pe_chain op_le op_le pe_int (pe_callB call_len_str (by rfl) ml (by decide +kernel) (pa_cons (pv 0) pa_nil)) (pe_glob (v := .int 8) rfl mL ⟨_, rfl⟩))
        (pe_and (pe_m0 PySem.F.slot_str_isascii PySem.F.type_str_isascii mt_isascii (pv 0)) (pe_and (pe_m0 PySem.F.slot_str_isalpha PySem.F.type_str_isalpha mt_isalpha (pv 0)) (pe_one (pe_m0 PySem.F.slot_str_islower PySem.F.type_str_islower mt_islower (pv 0)))))))), ?_⟩
    refine ⟨_, rfl, _, _, _, _, true, rfl, .ty "str", .base (.str _), kit_ty (by decide +kernel), _, rfl, ?_⟩
    refine iteF ?_
    refine ⟨_, rfl, _, rfl, size_ok (by rw [len_S]; omega), _, _, rfl, rfl, _, rfl, ?_⟩
    refine if_dec (by rw [len_S]; omega) ?_
    refine ⟨_, _, rfl, rfl, _, rfl, if_dec (by rw [len_S]; omega) ?_⟩
    refine ⟨_, rfl, ⟨_, rfl⟩, _, rfl, rfl, trivial, true, congrArg V.bl (w_ascii hl), iteT ?_⟩
    refine ⟨_, rfl, ⟨_, rfl⟩, _, rfl, rfl, trivial, true, congrArg V.bl (w_alpha hl), iteT ?_⟩
    refine ⟨_, rfl, ⟨_, rfl⟩, _, rfl, rfl, trivial, ?_⟩
    rw [w_lower hl]
    exact q
/-! ### are_words, of words: slots value 0, item 1 -/
theorem eqvs_true : ∀ n : Nat, (List.replicate n true).all id = true
  | 0 => rfl
  | n + 1 => by rw [List.replicate_succ, List.all_cons, eqvs_true n]; rfl
def spAreWords : Sp := fun vs H Q _ => ∃ (a : Addr) (ws : List (List Nat)), vs = [.ref a] ∧ H a = some (.lst (ws.map fun x => V.str (S x))) ∧ ws.length ≤ 1000 ∧ (∀ x ∈ ws, isW x = true) ∧ ∀ H', Same H H' → Q (.bl true) H'
theorem scAreWords : FnScope ["value", "item"] ["value"] (defScope sAreWords) := ⟨rfl, rfl, rfl, by decide +kernel, rfl, by decide +kernel, by decide +kernel⟩
theorem kit_lt {K : PySem.W.Frag} : PySem.W.kitAny K (.type "list") [.type "list", .type "tuple"] = some true := by
  unfold PySem.W.kitAny
  rw [kit_ty (K := K) (a := "list") (b := "list") (r := true) (by decide +kernel)]
theorem ok_arewords {f fW : Addr} {fd fdW : FuncData} (F : Fun K "are_words" "are_words" sAreWords f fd) (GW : FnOk P w K mg base CX0 1 fW fdW ["value"] spIsWord) (cW : Cd K mg "is_word" fW) (bW : Binds K fdW ["value"] [])
    (ms : mg "isinstance" = none) (ml : mg "list" = none) (mt : mg "tuple" = none) (ma : mg "all" = none) : FnOk P w K mg base CX0 2 f fd ["value"] spAreWords := by
  refine F.ok scAreWords (fun vs H Q E h => ?_) (fun cdv A outer s H vs Q E hr h => ?_)
  · obtain ⟨a, ws, rfl, _⟩ := h
    rfl
  · obtain ⟨a, ws, rfl, ha, hl, hw, q⟩ := h
    refine ⟨_, pss_one (ps_ret (pe_and (pe_callB call_isiT (by rfl) ms (by decide +kernel) (pa_cons (pv 0) (pa_cons (pe_tup (pa_cons (pe_bltn (v := .ty "list") (by rfl) ml (by decide +kernel) rfl) (pa_cons (pe_bltn (v := .ty "tuple") (by rfl) mt (by decide +kernel) rfl) pa_nil))) pa_nil)))
      (pe_one (pe_callB (cr_all rfl) (by rfl) ma (by decide +kernel) (pa_cons (pe_lc (own := [("item", 1)]) (g := gName 1) (tt := tYes) rfl scAreWords.nd (pi_list (pv 0)) (blkOk_by (own := [("item", 1)]) (N := ["value", "item"]) (sc := defScope sAreWords) (by decide +kernel))
          (fun _ _ _ _ _ => pg_name (i := 1) scAreWords.nd rfl (Or.inl rfl)) (fun _ _ _ _ _ => pts_nil)
          (fun _ _ _ _ _ => pe_call GW hr rfl cW.mg cW.kp bW .nil pass0 (pa_cons (pv 1) pa_nil))) pa_nil))))), ?_⟩
    refine ⟨_, rfl, by show 2 ≤ sizeLine; decide, fun t nt => ?_⟩
    have s1 : Same H (upd H t (.tup [.ty "list", .ty "tuple"])) := same_new nt
    refine ⟨_, t, _, _, [.type "list", .type "tuple"], true, rfl, upd_same, .cons (.ty "list") (.cons (.ty "tuple") .nil), .base (.lst (s1 _ _ ha)), kit_lt, _, rfl, iteT ?_⟩
    refine ⟨_, rfl, a, rfl, ⟨_, .inl (.inl (s1 _ _ ha))⟩, fun D hD => ?_⟩
    refine lc_list (K := K) (a := a) (xs := ws.map fun x => V.str (S x)) (fun i H' => Same H H' ∧ H D = none ∧ H' D = some (.lst ((List.replicate i true).map V.bl)))
      ⟨fun b o e => by rw [upd_ne (ne_of_none (s1 _ _ e) hD)]; exact s1 _ _ e, s1.free hD, upd_same⟩ (fun i H' _ z => .inl (.inl (z.1 _ _ ha))) ?_ ?_
    · rintro i x H' hx ⟨s2, nD, hDl⟩
      have hi : i < ws.length := by
        have z := (List.getElem?_eq_some_iff.mp hx).1
        rw [List.length_map] at z
        exact z
      have ex : x = V.str (S ws[i]) := by
        rw [List.getElem?_map, List.getElem?_eq_getElem hi] at hx
        exact (Option.some.inj hx).symm
      subst ex
      refine ⟨rfl, _, rfl, _, rfl, hw _ (List.getElem_mem hi), _, hDl, by rw [List.length_map, List.length_replicate]; exact size_lt (by omega), ?_, nD, ?_⟩
      · exact fun b o e => by rw [upd_ne (ne_of_none e nD)]; exact s2 b o e
      · rw [upd_same, List.replicate_succ', List.map_append]
        rfl
    · rintro H' ⟨s2, nD, hDl⟩
      refine ⟨D, _, rfl, .inl (.inl hDl), ?_⟩
      rw [eqvs_true]
      exact q H' s2
end
end K3

namespace K3
open PySem L2 SX AddrMath
/-! ### an address: its attributes -/
theorem n_sp : ¬ (("_state" : Str) = "_path") := by decide +kernel
theorem n_sk : ¬ (("_state" : Str) = "_key") := by decide +kernel
theorem n_pk : ¬ (("_path" : Str) = "_key") := by decide +kernel
theorem n_ps : ¬ (("_path" : Str) = "_state") := by decide +kernel
def aF1 (z : Str) : List (Str × V) := putF "_state" (.str z) []
def aF2 (z : Str) (t : Addr) : List (Str × V) := putF "_path" (.ref t) (aF1 z)
def aF (z : Str) (t k : Addr) : List (Str × V) := putF "_key" (.ref k) (aF2 z t)
theorem aF2_state (z : Str) (t : Addr) : (aF2 z t).lookup ("_state" : Str) = some (.str z) := by
  unfold aF2 aF1
  rw [lookup_putF, if_neg n_sp, lookup_putF, if_pos rfl]
theorem aF2_path (z : Str) (t : Addr) : (aF2 z t).lookup ("_path" : Str) = some (.ref t) := by
  unfold aF2
  rw [lookup_putF, if_pos rfl]
theorem aF_state (z : Str) (t k : Addr) : (aF z t k).lookup ("_state" : Str) = some (.str z) := by
  unfold aF
  rw [lookup_putF, if_neg n_sk, aF2_state]
theorem aF_path (z : Str) (t k : Addr) : (aF z t k).lookup ("_path" : Str) = some (.ref t) := by
  unfold aF
  rw [lookup_putF, if_neg n_pk, aF2_path]
theorem aF_no (z : Str) (t k : Addr) {m : Str} (h1 : ¬ m = "_state") (h2 : ¬ m = "_path") (h3 : ¬ m = "_key") : (aF z t k).lookup m = none := by
  unfold aF aF2 aF1
  rw [lookup_putF, if_neg h3, lookup_putF, if_neg h2, lookup_putF, if_neg h1]
  rfl
theorem aF1_len (z : Str) : (aF1 z).length < 1000 := by
  show (1 : Nat) < 1000
  decide
theorem aF2_eq (z : Str) (t : Addr) : aF2 z t = ([("_state", V.str z), ("_path", V.ref t)] : List (Str × V)) := by
  show (if ("_state" : Str) = "_path" then [(("_state" : Str), V.ref t)] else (("_state" : Str), V.str z) :: putF "_path" (V.ref t) []) = _
  rw [if_neg n_sp]
  rfl
theorem aF2_len (z : Str) (t : Addr) : (aF2 z t).length < 1000 := by
  rw [aF2_eq]
  show (2 : Nat) < 1000
  decide
/-- words as values -/
abbrev wV (ws : List (List Nat)) : List V := ws.map fun x => V.str (S x)
theorem wV_str (ws : List (List Nat)) : wV ws = (ws.map S).map V.str := by
  rw [List.map_map]
  rfl
/-- an address stands at a, its path's tuple at t -/
def AddrT (C : Addr) (H : Hp) (a t : Addr) (s : List Nat) (ps : List (List Nat)) : Prop := ∃ dx k, H a = some (.ins C dx (aF (S s) t k)) ∧ H t = some (.tup (wV ps))
structure ATxt (K : PySem.W.Frag) (mg : Str → Option Value) (C : Addr) : Prop where
  cl : Cls K C
  nS : NoAttr K C "_state"
  nP : NoAttr K C "_path"
  nK : NoAttr K C "_key"
  mgC : mg "Address" = some (.ref C)
theorem upd_none {H : Hp} {p t : Addr} {o : HO} (h : upd H p o t = none) : t ≠ p ∧ H t = none := by
  by_cases e : t = p
  · rw [e, upd_same] at h
    cases h
  · rw [upd_ne e] at h
    exact ⟨e, h⟩
/-- a def with defaults that lets nothing out -/
theorem fund0 {P : Program} {w : World} {K : PySem.W.Frag} {mg : Str → Option Value} {base : Heap} {x qual : Str} {params : Arguments} {body : List Stmt} {scope : Scope} {dvs : List V} {kws : List (Str × V)} {f : Addr} {fd : FuncData}
    {N ps : List Str} {k : Nat} {sp : Sp} (F : FunD K x qual params body scope dvs kws f fd) (S : FnScope N ps scope) (len : ∀ vs H Q E, sp vs H Q E → vs.length = ps.length)
    (hb : ∀ (cdv : Value) (A : Around) (outer : List Env) (s : Shared) (H : Hp) (vs : List V) (Q : VK) (E : XK), Room k (A.deeper (PyProof.Rows.envOfC qual scope s.heap.objs.size f cdv)) → sp vs H Q E →
      ∃ t, PSs (cxOf CX0 P w K mg base N qual scope f cdv A outer s H E).nox body t ∧ t { nx := fun _ H' => Q .non H', rt := Q } (L2.start N vs) H) : FnOk P w K mg base CX0 (k + 1) f fd ps sp :=
  F.ok S len fun cdv A outer s H vs Q E hr h =>
    let ⟨t, a, b⟩ := hb cdv A outer s H vs Q E hr h
    ⟨t, a.nox, b⟩
section
variable {P : Program} {w : World} {K : PySem.W.Frag} {mg : Str → Option Value} {base : Heap}
/-! ### Address.__init__, of a word and a list of words: slots self 0, state 1, path 2 -/
def spInit (C : Addr) : Sp := fun vs H Q _ => ∃ (p dx a : Addr) (s : List Nat) (ws : List (List Nat)), vs = [.ref p, .str (S s), .ref a] ∧ H p = some (.ins C dx []) ∧ isW s = true ∧ H a = some (.lst (wV ws)) ∧ ws.length ≤ 1000 ∧ (∀ x ∈ ws, isW x = true) ∧
  ∀ (H' : Hp) (t : Addr), AddrT C H' p t s ws → H t = none → (∀ b o, H b = some o → b ≠ p → H' b = some o) → Q .non H'
theorem scInit : FnScope ["self", "state", "path"] ["self", "state", "path"] (defScope sInit) := ⟨rfl, rfl, rfl, by decide +kernel, rfl, by decide +kernel, by decide +kernel⟩
theorem ok_init {f fW fA C : Addr} {fd fdW fdA : FuncData} {dvs : List V} {kws : List (Str × V)} (F : FunD K "__init__" "Address.__init__" (defArgs sInit) (defBody sInit) (defScope sInit) dvs kws f fd) (T : ATxt K mg C)
    (GW : FnOk P w K mg base CX0 1 fW fdW ["value"] spIsWord) (cW : Cd K mg "is_word" fW) (bW : Binds K fdW ["value"] []) (GA : FnOk P w K mg base CX0 2 fA fdA ["value"] spAreWords) (cA : Cd K mg "are_words" fA) (bA : Binds K fdA ["value"] [])
    (mt : mg "tuple" = none) (ml : mg "len" = none) : FnOk P w K mg base CX0 3 f fd ["self", "state", "path"] (spInit C) := by
  refine fund0 F scInit (fun vs H Q E h => ?_) (fun cdv A outer s0 H vs Q E hr h => ?_)
  · obtain ⟨p, dx, a, s, ws, rfl, _⟩ := h
    rfl
  · obtain ⟨p, dx, a, s, ws, rfl, hp, hs, ha, hl, hw, q⟩ := h
    have hr1 : Room 1 _ := hr.mono (by decide)
    refine ⟨_, pss_cons (ps_if (pt_not (pt_val (pe_call GW hr1 rfl cW.mg cW.kp bW .nil pass0 (pa_cons (pv 1) pa_nil)))) (pss_one ps_never) pss_nil)
      (pss_cons (ps_if (pt_not (pt_val (pe_call GA hr rfl cA.mg cA.kp bA .nil pass0 (pa_cons (pv 2) pa_nil)))) (pss_one ps_never) pss_nil)
      (pss_cons (ps_fld (pv 0) (pv 1) rfl)
      (pss_cons (ps_fld (pv 0) (pe_callTy call_tuple_of (by rfl) mt (by decide +kernel) (pa_cons (pv 2) pa_nil)) rfl)
      (pss_one (ps_fld (pv 0) (pe_tup (pa_cons (pe_callB call_len (by rfl) ml (by decide +kernel) (pa_cons (pe_fld (pv 0) rfl) pa_nil)) (pa_cons (pe_fld (pv 0) rfl) (pa_cons (pe_fld (pv 0) rfl) pa_nil)))) rfl))))), ?_⟩
    refine ⟨_, rfl, s, rfl, hs, _, rfl, iteF ?_⟩
    refine ⟨_, rfl, a, ws, rfl, ha, hl, hw, fun H1 s1 => ⟨_, rfl, iteF ?_⟩⟩
    have hp1 := s1 _ _ hp
    have ha1 := s1 _ _ ha
    refine ⟨_, rfl, _, rfl, p, C, dx, _, rfl, hp1, T.cl, T.nS, (by show 0 < 1000; decide), ?_⟩
    have hap : a ≠ p := ne_of ha1 hp1 (fun z => by cases z)
    refine ⟨_, rfl, a, _, rfl, .inl ⟨.inl (.inl (by rw [upd_ne hap]; exact ha1)), fun t nt => ?_⟩⟩
    obtain ⟨ntp, nt1⟩ := upd_none nt
    have hpt : p ≠ t := ntp.symm
    have g1 : (upd (upd H1 p (.ins C dx (aF1 (S s)))) t (.tup (wV ws))) p = some (.ins C dx (aF1 (S s))) := by rw [upd_ne hpt, upd_same]
    refine ⟨_, rfl, p, C, dx, _, rfl, g1, T.cl, T.nP, aF1_len _, ?_⟩
    have g2 : (upd (upd (upd H1 p (.ins C dx (aF1 (S s)))) t (.tup (wV ws))) p (.ins C dx (aF2 (S s) t))) t = some (.tup (wV ws)) := by rw [upd_ne ntp, upd_same]
    refine ⟨_, rfl, p, C, dx, _, _, rfl, upd_same, T.cl, T.nP, aF2_path _ _, _, _, rfl, .inr ⟨_, .inl (.inl g2), rfl⟩, _, rfl, p, C, dx, _, _, rfl, upd_same, T.cl, T.nS, aF2_state _ _, _, rfl, p, C, dx, _, _, rfl, upd_same, T.cl, T.nP, aF2_path _ _, by show 3 ≤ sizeLine; decide, fun k nk => ?_⟩
    obtain ⟨nkp, nk1⟩ := upd_none nk
    obtain ⟨nkt, nk2⟩ := upd_none nk1
    obtain ⟨_, nk3⟩ := upd_none nk2
    refine ⟨_, rfl, p, C, dx, aF2 (S s) t, rfl, (by rw [upd_ne nkp.symm]; exact upd_same), T.cl, T.nK, aF2_len _ _, ?_⟩
    refine q _ t ⟨dx, k, upd_same, ?_⟩ (s1.free nt1) fun b o e hb => ?_
    · rw [upd_ne ntp, upd_ne nkt.symm, upd_ne ntp, upd_same]
    · have e1 := s1 _ _ e
      rw [upd_ne hb, upd_ne (ne_of_none e1 nk3), upd_ne hb, upd_ne (ne_of_none e1 nt1), upd_ne hb]
      exact e1
/-! ### the getters -/
def spState (C : Addr) : Sp := fun vs H Q _ => ∃ (a t : Addr) (s : List Nat) (ps : List (List Nat)), vs = [.ref a] ∧ AddrT C H a t s ps ∧ Q (.str (S s)) H
def spPath (C : Addr) : Sp := fun vs H Q _ => ∃ (a t : Addr) (s : List Nat) (ps : List (List Nat)), vs = [.ref a] ∧ AddrT C H a t s ps ∧ Q (.ref t) H
theorem scState : FnScope ["self"] ["self"] (defScope sState) := ⟨rfl, rfl, rfl, by decide +kernel, rfl, by decide +kernel, by decide +kernel⟩
theorem scPath : FnScope ["self"] ["self"] (defScope sPath) := ⟨rfl, rfl, rfl, by decide +kernel, rfl, by decide +kernel, by decide +kernel⟩
theorem ok_state {f C : Addr} {fd : FuncData} (F : Fun K "state" "Address.state" sState f fd) (T : ATxt K mg C) : FnOk P w K mg base CX0 1 f fd ["self"] (spState C) := by
  refine F.ok scState (fun vs H Q E h => ?_) (fun cdv A outer s0 H vs Q E hr h => ?_)
  · obtain ⟨a, t, s, ps, rfl, _⟩ := h
    rfl
  · obtain ⟨a, t, s, ps, rfl, ⟨dx, k, h1, h2⟩, q⟩ := h
    exact ⟨_, pss_one (ps_ret (pe_fld (pv 0) rfl)), _, rfl, a, C, dx, _, _, rfl, h1, T.cl, T.nS, aF_state _ _ _, q⟩
theorem ok_path {f C : Addr} {fd : FuncData} (F : Fun K "path" "Address.path" sPath f fd) (T : ATxt K mg C) : FnOk P w K mg base CX0 1 f fd ["self"] (spPath C) := by
  refine F.ok scPath (fun vs H Q E h => ?_) (fun cdv A outer s0 H vs Q E hr h => ?_)
  · obtain ⟨a, t, s, ps, rfl, _⟩ := h
    rfl
  · obtain ⟨a, t, s, ps, rfl, ⟨dx, k, h1, h2⟩, q⟩ := h
    exact ⟨_, pss_one (ps_ret (pe_fld (pv 0) rfl)), _, rfl, a, C, dx, _, _, rfl, h1, T.cl, T.nP, aF_path _ _ _, q⟩
/-! ### text: slots self 0, word 1 -/
def txt (s : List Nat) (ps : List (List Nat)) : List Nat := s ++ 58 :: (ps.map fun p => 47 :: p).flatten
def spText (C : Addr) : Sp := fun vs H Q _ => ∃ (a t : Addr) (s : List Nat) (ps : List (List Nat)), vs = [.ref a] ∧ AddrT C H a t s ps ∧ s.length ≤ 8 ∧ ps.length ≤ 1000 ∧ (∀ x ∈ ps, x.length ≤ 8) ∧ ∀ H', Same H H' → Q (.str (S (txt s ps))) H'
theorem scText : FnScope ["self", "word"] ["self"] (defScope sText) := ⟨rfl, rfl, rfl, by decide +kernel, rfl, by decide +kernel, by decide +kernel⟩
theorem colon_S : (Str.ofString ":" : Str) = S [58] := by decide +kernel
theorem slash_S : (Str.ofString "/" : Str) = S [47] := by decide +kernel
theorem sum_le8 : ∀ (ps : List (List Nat)), (∀ x ∈ ps, x.length ≤ 8) → (((ps.map fun p => 47 :: p).map S).map (·.length)).sum ≤ 9 * ps.length
  | [], _ => Nat.le_refl _
  | p :: r, h => by
    have ih := sum_le8 r fun x hx => h x (List.mem_cons_of_mem _ hx)
    have hp := h p (List.mem_cons_self ..)
    rw [List.map_cons, List.map_cons, List.map_cons, List.sum_cons, len_S, List.length_cons, List.length_cons]
    omega
theorem flat_len : ∀ (ps : List (List Nat)), (∀ x ∈ ps, x.length ≤ 8) → ((ps.map fun p => 47 :: p).flatten).length ≤ 9 * ps.length
  | [], _ => Nat.le_refl _
  | p :: r, h => by
    have ih := flat_len r fun x hx => h x (List.mem_cons_of_mem _ hx)
    have hp := h p (List.mem_cons_self ..)
    rw [List.map_cons, List.flatten_cons, List.length_append, List.length_cons, List.length_cons]
    omega
theorem ok_text {f C : Addr} {fd : FuncData} (F : Fun K "text" "Address.text" sText f fd) (T : ATxt K mg C) : FnOk P w K mg base CX0 1 f fd ["self"] (spText C) := by
  refine F.ok scText (fun vs H Q E h => ?_) (fun cdv A outer s0 H vs Q E hr h => ?_)
  · obtain ⟨a, t, s, ps, rfl, _⟩ := h
    rfl
  · obtain ⟨a, t, s, ps, rfl, ⟨dx, k, h1, h2⟩, hs, hl, hw, q⟩ := h
    refine ⟨_, pss_one (ps_ret (pe_op op_add_str (pe_op op_add_str (pe_fld (pv 0) rfl) pe_str) (pe_join pe_str (pe_lc (own := [("word", 1)]) (g := gName 1) (tt := tYes) rfl scText.nd (pi_tup (pe_fld (pv 0) rfl))
      (blkOk_by (own := [("word", 1)]) (N := ["self", "word"]) (sc := defScope sText) (by decide +kernel)) (fun _ _ _ _ _ => pg_name (i := 1) scText.nd rfl (Or.inl rfl)) (fun _ _ _ _ _ => pts_nil)
      (fun _ _ _ _ _ => pe_op op_add_str pe_str (pv 1)))))), ?_⟩
    refine ⟨_, rfl, a, C, dx, _, _, rfl, h1, T.cl, T.nS, aF_state _ _ _, _, _, rfl, rfl, by rw [colon_S, len_S, len_S]; exact size_ok (by show s.length + 1 ≤ _; omega), ⟨_, rfl⟩, ?_⟩
    refine ⟨_, rfl, a, C, dx, _, _, rfl, h1, T.cl, T.nP, aF_path _ _ _, t, rfl, ⟨_, .inl (.inl h2)⟩, fun D hD => ?_⟩
    refine lc_tup (K := K) (a := t) (xs := wV ps) (fun i H' => Same H H' ∧ H' D = some (.lst (wV ((ps.take i).map fun p => 47 :: p))))
      ⟨same_new hD, upd_same⟩ (fun i H' _ z => .inl (.inl (z.1 _ _ h2))) ?_ ?_
    · rintro i x H' hx ⟨s2, hDl⟩
      have hi : i < ps.length := by
        have z := (List.getElem?_eq_some_iff.mp hx).1
        rw [List.length_map] at z
        exact z
      have ex : x = V.str (S ps[i]) := by
        rw [List.getElem?_map, List.getElem?_eq_getElem hi] at hx
        exact (Option.some.inj hx).symm
      subst ex
      have h8 := hw _ (List.getElem_mem hi)
      refine ⟨rfl, _, rfl, _, _, rfl, rfl, by rw [slash_S, len_S, len_S]; exact size_ok (by show 1 + _ ≤ _; omega), _, hDl, by rw [List.length_map, List.length_map, List.length_take]; exact size_lt (by omega), ?_, ?_⟩
      · exact fun b o e => by rw [upd_ne (ne_of_none e hD)]; exact s2 b o e
      · rw [upd_same, slash_S, S_cat, List.take_succ_eq_append_getElem hi, List.map_append]
        show _ = some (HO.lst (List.map _ (_ ++ _)))
        rw [List.map_append]
        rfl
    · rintro H' ⟨s2, hDl⟩
      have el : (wV ps).length = ps.length := by rw [List.length_map]
      rw [el, List.take_length] at hDl
      have e2 : wV (ps.map fun p => 47 :: p) = ((ps.map fun p => 47 :: p).map S).map V.str := wV_str _
      rw [e2] at hDl
      have h9 := sum_le8 ps hw
      have h10 := flat_len ps hw
      refine ⟨_, D, _, rfl, rfl, .inl (.inl (.inl hDl)), by rw [emp_S, len_S]; show _ + _ * 0 ≤ _; omega, _, _, rfl, rfl, ?_, ?_⟩
      · rw [emp_S, join_S0, colon_S, S_cat, len_S, len_S, List.length_append]
        exact size_ok (by show s.length + 1 + _ ≤ _; omega)
      · rw [emp_S, join_S0, colon_S, S_cat, S_cat, List.append_assoc]
        exact q H' s2
end
end K3

namespace K3
open PySem L2 SX AddrMath
theorem a_S : (Str.ofString "a" : Str) = S [97] := by decide +kernel
theorem z_S : (Str.ofString "z" : Str) = S [122] := by decide +kernel
theorem le_one (c d : Nat) : (!decide ((S [d]).cps.toList < (S [c]).cps.toList)) = decide (c ≤ d) := by
  show (!decide ([d] < [c])) = decide (c ≤ d)
  have e : ([d] < [c]) ↔ d < c := by
    rw [List.cons_lt_cons_iff]
    constructor
    · rintro (h | ⟨_, h⟩)
      · exact h
      · exact absurd h (List.not_lt_nil _)
    · exact .inl
  by_cases h : c ≤ d
  · rw [decide_eq_true h, decide_eq_false (fun z => absurd (e.mp z) (by omega))]
    rfl
  · rw [decide_eq_false h, decide_eq_true (e.mpr (by omega))]
    rfl
theorem if_ndec {c A B : Prop} [Decidable c] (h : ¬ c) (b : B) : if decide c = true then A else B := by
  rw [if_neg (by rw [decide_eq_false h]; exact Bool.false_ne_true)]
  exact b
section
variable {P : Program} {w : World} {K : PySem.W.Frag} {mg : Str → Option Value} {base : Heap}
/-! ### word_end: slots text 0, start 1, end 2 -/
def spWordEnd : Sp := fun vs H Q _ => ∃ (l : List Nat) (st : Nat), vs = [.str (S l), .int (st : Int)] ∧ l.length ≤ 100000 ∧ st ≤ l.length ∧ Q (.int ((st + run 0 (l.drop st) : Nat) : Int)) H
theorem scWordEnd : FnScope ["text", "start", "end"] ["text", "start"] (defScope sWordEnd) := ⟨rfl, rfl, rfl, by decide +kernel, rfl, by decide +kernel, by decide +kernel⟩
theorem run_cons (k c : Nat) (r : List Nat) : run k (c :: r) = if k < 8 ∧ isL c = true then run (k + 1) r + 1 else 0 := rfl
theorem ok_wordend {f : Addr} {fd : FuncData} {t : Tok} (F : Fun K "word_end" "word_end" sWordEnd f fd) (ml : mg "len" = none) (mL : mg "LETTERS" = some (.int 8 t)) : FnOk P w K mg base CX0 1 f fd ["text", "start"] spWordEnd := by
  refine F.ok scWordEnd (fun vs H Q E h => ?_) (fun cdv A outer s0 H vs Q E hr h => ?_)
  · obtain ⟨l, st, rfl, _⟩ := h
    rfl
  · obtain ⟨l, st, rfl, hl, hst, q⟩ := h
    refine ⟨_, pss_cons (ps_set (i := 2) scWordEnd.nd rfl (Or.inl rfl) (pv 1))
      (pss_cons (ps_while PassesOwn.never (PW.pt (pw_and (pt_cmpR op_lt (pv 2) (pe_callB call_len_str (by rfl) ml (by decide +kernel) (pa_cons (pv 0) pa_nil)) (nomark _))
          (pw_and (pt_cmpR op_lt (pe_op op_sub (pv 2) (pv 1)) (pe_glob (v := .int 8) rfl mL ⟨_, rfl⟩) (nomark _)) (pw_and1 (pt_chain op_le_str op_le_str pe_str (pe_ix ix_str (pv 0) (pv 2) (fun _ _ => rfl)) pe_str)))))
        (pss_one (ps_aug (i := 2) scWordEnd.nd rfl (.inl rfl) pe_int ip_add)))
      (pss_one (ps_ret (pv 2)))), ?_⟩
    refine ⟨_, rfl, fun m σ H' => ∃ e : Nat, σ = [some (.str (S l)), some (.int (st : Int)), some (.int (e : Int))] ∧ H' = H ∧ m = l.length - e ∧ st ≤ e ∧ e ≤ l.length ∧ e ≤ st + 8 ∧ st + run 0 (l.drop st) = e + run (e - st) (l.drop e),
      ⟨l.length - st, st, rfl, rfl, rfl, Nat.le_refl _, hst, by omega, by rw [Nat.sub_self]⟩, ?_⟩
    rintro m σ H' ⟨e, rfl, rfl, rfl, h1, h2, h3, h4⟩
    refine ⟨_, rfl, _, rfl, _, rfl, size_ok (by rw [len_S]; omega), _, _, rfl, rfl, _, rfl, ?_⟩
    have stop : run (e - st) (l.drop e) = 0 → Q (.int (e : Int)) H' := fun z => by
      rw [z, Nat.add_zero] at h4
      rw [← h4]
      exact q
    by_cases ha : e < l.length
    · refine if_dec (by rw [len_S]; omega) ?_
      refine ⟨_, rfl, _, rfl, _, _, rfl, rfl, _, _, rfl, rfl, _, rfl, ?_⟩
      have hd : l.drop e = l[e] :: l.drop (e + 1) := List.drop_eq_getElem_cons ha
      rw [hd, run_cons] at stop h4
      by_cases hb : e - st < 8
      · refine if_dec (by omega) ?_
        refine ⟨_, rfl, _, rfl, _, _, l[e], rfl, rfl, size_ok (by rw [len_S]; omega), at_ofN rfl (List.getElem?_eq_getElem ha), _, _, rfl, rfl, _, rfl, ?_⟩
        have ea : (!decide (({ cps := #[l[e]] } : Str).cps.toList < (Str.ofString "a" : Str).cps.toList)) = decide (97 ≤ l[e]) := by
          rw [a_S]
          exact le_one 97 l[e]
        have ez : (!decide ((Str.ofString "z" : Str).cps.toList < ({ cps := #[l[e]] } : Str).cps.toList)) = decide (l[e] ≤ 122) := by
          rw [z_S]
          exact le_one l[e] 122
        rw [ea]
        by_cases h97 : 97 ≤ l[e]
        · refine if_dec h97 ?_
          refine ⟨_, _, rfl, rfl, _, rfl, ?_⟩
          rw [ez]
          by_cases h122 : l[e] ≤ 122
          · refine if_dec h122 ?_
            have hL : isL l[e] = true := by
              unfold isL
              rw [decide_eq_true h97, decide_eq_true h122]
              rfl
            rw [if_pos ⟨hb, hL⟩] at h4
            refine ⟨fun σ'' H'' => σ'' = [some (.str (S l)), some (.int (st : Int)), some (.int ((e + 1 : Nat) : Int))] ∧ H'' = H', ?_, _, rfl, _, _, rfl, rfl, rfl, rfl⟩
            rintro σ'' H'' ⟨rfl, rfl⟩
            exact ⟨l.length - (e + 1), by omega, e + 1, rfl, rfl, rfl, by omega, by omega, by omega, by rw [show e + 1 - st = e - st + 1 by omega]; omega⟩
          · rw [decide_eq_false h122]
            refine iteF ⟨_, rfl, stop ?_⟩
            rw [if_neg]
            rintro ⟨_, z⟩
            unfold isL at z
            rw [decide_eq_false h122, Bool.and_false] at z
            cases z
        · rw [decide_eq_false h97]
          refine iteF ⟨_, rfl, iteF ⟨_, rfl, stop ?_⟩⟩
          rw [if_neg]
          rintro ⟨_, z⟩
          unfold isL at z
          rw [decide_eq_false h97, Bool.false_and] at z
          cases z
      · refine if_ndec (by omega) ?_
        refine iteF ⟨_, rfl, stop ?_⟩
        rw [if_neg (fun z => hb z.1)]
    · refine if_ndec (by rw [len_S]; omega) ?_
      refine iteF ⟨_, rfl, stop ?_⟩
      rw [List.drop_of_length_le (by omega)]
      rfl
end
end K3

namespace K3X
open PySem PySem.W PySem.Spec PySem.Calls PyProof.Rows
variable {pr : Program} {wo : World} {Ar : Around} {Er : Value → Shared → Prop} {F : Frag} {x D : Addr} {ox : Obj}
/-- e.__class__ of an error that has its own dict -/
theorem cls_xd {s : Shared} {od : Obj} {G : Option Value → Shared → Prop} (C : L2.ExcC F D) (inF : F.In s.heap) (at_ : InstAt s.heap x ox D (some od)) (fin : G (some (.ref D)) { s with toks := s.toks + 1 }) :
    wpAny (model pr wo) Ar (getAttr? (.ref x) "__class__") G Er s := by
  have found : findObj F D (some od) "__class__" = some (.bind (.builtin "getset_descriptor.__get__") (.builtin "object.__class__")) :=
    findObj_data (by obtain ⟨_, hcd, _⟩ := any_some C.hd; rw [hcd]; rfl) C.ha C.hn C.ht
  obtain ⟨hh, ge, dr, tk, os⟩ := s
  have lt := at_.type (M := model pr wo); have lg := looks_findIn (M := model pr wo) inF C.hg
  have lk := looks_findIn (M := model pr wo) inF C.hk; have lf := looks_find (M := model pr wo) inF at_ found
  have isB : Looks (model pr wo) hh (isInstance (.ref x) (.type "BaseException")) true := lt.andThen (looks_subIn inF C.hs)
  have n2 : (Value.builtin "BaseException.__getattribute__" == Value.builtin "object.__getattribute__") = false := by decide +kernel
  have n1 : (onTheHeap (Value.ref D) && Value.builtin "BaseException.__getattribute__" == Value.builtin "object.__getattribute__") = false := by rw [n2]; rfl
  unfold getAttr? getAttrBy? getAttrBy; refine wpAny_bind (wpAny_mkText (wpAny_bind (wpAny_attempt (wpAny_holding (wpAny_bind (lt.at (wpAny_bind (lg.at ?_))))))))
  show wpAny _ _ (ite ((onTheHeap (Value.ref D) && Value.builtin "BaseException.__getattribute__" == Value.builtin "object.__getattribute__") = true) _ _) _ _ _
  rw [n1, if_neg Bool.false_ne_true]; unfold getAttrByItsOwn hookBefore
  refine wpAny_bind ?_; rw [if_pos (show onTheHeap (Value.ref D) = true from rfl)]; refine lk.at ?_
  refine wpAny_bind (wpAny_attempt (wpAny_holding ?_)); unfold callGetattribute
  rw [show (false && onTheHeap (Value.builtin "BaseException.__getattribute__")) = false from rfl, if_neg Bool.false_ne_true]; unfold boundAndCalled
  rw [PySem.F.excAttr_ValueError.ga.bind (.ref x)]; refine wpAny_bind (wpAny_pure ?_)
  show wpAny _ _ (call (.builtin "BaseException.__getattribute__") [.ref x, .str "__class__" tk]) _ _ _
  refine wpAny_call (codeAny_call_builtin PySem.F.excAttr_ValueError.ga.plain PySem.F.entry_bexc_ga (@check_slot (model pr wo) _ _ ⟨hh, ge, dr, tk + 1, os⟩ "BaseException.__getattribute__" "BaseException" "__getattribute__" (.ref x)
    [.str "__class__" tk] [] _ (by decide +kernel) (by decide +kernel) isB (PySem.F.args_bexc_ga (.ref x) (.str "__class__" tk)) ?_))
  unfold Builtin.«object.__getattribute__»; refine wpAny_bind (wpAny_of_eq (a := ((Value.ref x : Value), [Value.str "__class__" tk])) (by first | rfl | (simp only [slotArgs]; rfl)) ?_)
  refine wpAny_bind (wpAny_pure (wpAny_bind (lt.at (wpAny_bind (lf.at ?_)))))
  show wpAny _ _ (holding [Value.builtin "object.__class__"] (call (.builtin "getset_descriptor.__get__") [.builtin "object.__class__", .ref x, .ref D]) >>= ret) _ _ _
  refine wpAny_bind (wpAny_holding (wpAny_call (class_get (s := ⟨hh, ge, dr, tk + 1, os⟩) (ox := ox) (od := some od) inF at_ C.hm (wpAny_pure ?_))))
  show wpAny _ _ (handedOut (.ref D)) _ _ _
  rw [handedOut_of (v := .ref D) rfl]
  first
    | exact wpAny_pure (wpAny_pure fin)
    | exact wpAny_pure fin
    | exact wpAny_pure (wpAny_bind (wpAny_pure (wpAny_pure fin)))
/-- the class's own record -/
theorem rec_of {h : Heap} (C : L2.ExcC F D) (inF : F.In h) : ∃ o cd, h.get? D = some o ∧ o.data = .cls cd ∧ F.lookup D = some o := by
  obtain ⟨cd, hcd, _⟩ := any_some C.hd
  unfold clsIn at hcd
  split at hcd
  · rename_i c1 d1 cd1 sl1 ho
    exact ⟨_, cd1, inF _ _ ho, rfl, ho⟩
  · cases hcd
theorem kit_xd (C : L2.ExcC F D) : KitX F (.ref x) (.ref D) (fun h => ∃ od, InstAt h x ox D (some od)) where
  ty := fun _ _ _ ⟨_, I⟩ => I.type
  it := fun _ _ inF _ => by
    intro A1 Q1 E1 s1 kp q
    obtain ⟨o, cd, ho, hd, _⟩ := rec_of C inF
    unfold isType loadHead
    exact wpAny_bind (wpAny_loadPart (kp _ _ ho) (by rw [hd]; exact wpAny_pure q))
  ne := fun h tp dd its n sl inF htp => by
    obtain ⟨o, cd, ho, hd, _⟩ := rec_of C inF
    refine Bool.eq_false_iff.mpr fun q => ?_
    have e : D = tp := Value.ref.inj (beq_iff_eq.mp q)
    subst e
    rw [ho] at htp
    have z := Option.some.inj htp
    rw [z] at hd
    cases hd
  ca := fun inF ⟨_, I⟩ k => cls_xd C inF I k
end K3X
namespace K3
open PySem L2 SX AddrMath
/-- isinstance(e, c), e the caught error with a dict of its own -/
def rIsX (F : PySem.W.Frag) (D a : Addr) (cls : Value) (d : Option Addr) : List V → Hp → VK → Prop := fun xs H Q => ∃ (c : V) (cv : Value) (b : Bool) (dd : Addr) (fs : List (Str × V)), xs = [.ref a, c] ∧ cls = .ref D ∧ (∀ u, RelV c u → u = cv) ∧ d = some dd ∧ H dd = some (.xd fs) ∧ PySem.W.kitOne F (.ref D) cv = some b ∧ Q (.bl b) H
theorem call_isX {X : Cx} {a D : Addr} {cls : Value} {d : Option Addr} {oe : Obj} {pn : List (Addr × Obj)} (C : ExcC X.K D) (hz : Zc cls d oe) (hf : ∃ vs, oe.data = .fields vs) : CallR (X.suite a ((a, oe) :: pn)) (.builtin "isinstance") (rIsX X.K D a cls d) := by
  intro pins s σ H xs us Q I r h
  obtain ⟨c, cv, b, dd, fs, rfl, ecl, hcv, rfl, hdd, e, q⟩ := h
  subst ecl
  cases r with
  | cons rx rr =>
    cases rr with
    | cons rt rr =>
      cases rr
      cases rx
      obtain rfl := hcv _ rt
      have ha := (I.pin (a, oe) (List.mem_append_left _ List.mem_cons_self)).1
      obtain ⟨vs, hv⟩ := hf
      have hx : ObjOk X.prog X.w H s.heap dd (.xd fs) := I.hok dd _ hdd
      obtain ⟨mA, hns, _⟩ := hx
      obtain ⟨od, ho, _⟩ := lookIn_ns hns
      have J : PySem.W.InstAt s.heap a oe D (some od) := ⟨ha, hz.1, by unfold PySem.W.notCls; rw [hv] <;> rfl, by rw [hz.2]; exact ho⟩
      exact PySem.W.kia_one (K3X.kit_xd C) I.kIn ⟨od, J⟩ e (fun z => nomatch z) fun tk => ⟨.bl b, H, I.kept (t' := tk) fun _ _ z => z, rfl, q⟩
end K3

namespace K3
open PySem L2 SX AddrMath PySem.Spec PyProof.Rows
section
variable {X : Cx} {CX : CXT} {k i : Nat} {C f g p : Addr} {fd : FuncData} {ps : List Str} {sp : Sp} {mc : Value} {x m : Str} {np pos apos : Pos} {o e : Expr} {es : List Expr} {ta : TE} {t : TA} {dvs : List V} {ds : List Value}
/-- x(e, ..), x a local name that holds the class at C -/
def tMakeL (i : Nat) (C : Addr) (sp : Sp) (dvs : List V) (E : XK) (t : TA) : TE := fun σ H Q => σ[i]? = some (some (.ref C)) ∧ tMake C sp dvs E t σ H Q
theorem pe_makeL {E : XK} (M : Mk X.K C f) (Fo : FnOk X.prog X.w X.K X.mg X.base CX k f fd ps sp) (room : Room (k + 1) X.A) (at_ : X.N[i]? = some x) (vis : Vis X.env.scope x) (bi : Binds X.K fd ps ds) (dv : Vals dvs ds) (ps_ : Passes CX X E) (args : PA X (e :: es) t)
    (d1 : (x == ("__debug__" : Str)) = false := by decide) (d2 : (x == ("__classdict__" : Str)) = false := by decide)
    (st : starEach (e :: es) X.env = (false, eval e X.env) :: starEach es X.env := by rfl) (pl : (backTo pos (starEach es X.env)).any (·.1) = false := by rfl) : PE X (.Call (.Name x np) (e :: es) [] pos) (tMakeL i C sp dvs E t) := by
  refine ⟨fun pins s σ H Q I hh => ?_⟩
  refine wpAny_Call_Name_kw (thn ((pe_var (pos := np) at_ vis d1 d2).run pins s σ H (fun v H1 => v = .ref C ∧ H1 = H) I ⟨.ref C, hh.1, rfl, rfl⟩) fun u s1 ⟨v, H1, I1, r1, ev, eH⟩ => ?_)
  subst ev eH
  cases r1
  refine PySem.W.callWith_K (h₀ := X.base) I.ok.mod.kin M.kp (thn (args.run pos pins s1 σ _ _ I1 hh.2) fun us s2 ⟨vs, H2, I2, rv, q⟩ => ⟨I2.kIn, ?_⟩) st pl
  exact run_make M Fo room bi dv ps_ I2 rv q
/-- a class method's call, what it lets out wished for at the caller's slots -/
theorem run_cmS {pins : List (Addr × Obj)} {σ : L2.St} {H : Hp} {s : Shared} {E : L2.St → XK} {Q : VK} {q : Addr} {us : List Value} {vs : List V} (Fo : FnOk X.prog X.w X.K X.mg X.base CX k g fd ps sp) (room : Room k X.A) (bi : Binds X.K fd ps []) (pa : PassesAt CX X σ (E σ))
    (I : Inv X ((q, PySem.W.methodObj (.ref g) (.ref C)) :: pins) σ H s) (rv : Vals vs us) (w : sp (.ref C :: vs) H Q (E σ)) : wpAny (model X.prog X.w) X.A (call (.ref q) us) (EP X pins σ Q) X.xe s := by
  have rv' : Vals (V.ref C :: vs) (Value.ref C :: us) := .cons rfl rv
  have b := bi s (.ref C :: us) I.kIn (by rw [List.append_nil, ← rv'.length]; exact Fo.len _ _ _ _ w)
  rw [List.append_nil] at b
  refine thn (wpAny_call (PySem.W.method_call (ClX.pin_at I) (codeAny_mono (Fo.run X.A X.stack s H ⟨.ref C :: us, []⟩ (.ref C :: us) (.ref C :: vs) Q (E σ) room I.env0 b rv' w) fun r s' hq => ?_))) fun _ _ y => ClX.unpinE (p := (q, PySem.W.methodObj (.ref g) (.ref C))) y
  match r, hq with
  | .error er, hq => exact pa _ _ _ _ _ I hq
  | .ok (.ret u), hq => exact I.after hq
  | .ok .next, hq => exact False.elim hq
  | .ok .brk, hq => exact False.elim hq
  | .ok .cont, hq => exact False.elim hq
def tCMethS (C : Addr) (sp : Sp) (E : L2.St → XK) (ta : TE) (t : TA) : TE := fun σ H Q => ta σ H fun v H1 => v = .ref C ∧ t σ H1 fun vs H2 => sp (.ref C :: vs) H2 Q (E σ)
theorem pe_cmethS {E : L2.St → XK} {pl : Sem Bool} (oe : PE X o ta) (rd : ClX.CRead X.K C mc) (cm : ClX.CMet X.K C mc m p g) (Fo : FnOk X.prog X.w X.K X.mg X.base CX k g fd ps sp) (room : Room k X.A) (bi : Binds X.K fd ps []) (pa : ∀ σ, PassesAt CX X σ (E σ)) (args : PA X (e :: es) t)
    (st : starEach (e :: es) X.env = (false, eval e X.env) :: starEach es X.env := by rfl) (pn : (backTo pos (starEach es X.env)).any (·.1) = false := by rfl)
    (tr : eval (.Call (.Attribute o m apos) (e :: es) [] pos) X.env = (eval o X.env >>= fun ov => standAt apos.atName >>= fun _ => holding [ov] (getMethod ov m pl) >>= fun z =>
      callWith pos z.1 z.2 (backTo pos (starEach (e :: es) X.env)) (backToKw pos (keywordEach [] X.env))) := by rfl) :
    PE X (.Call (.Attribute o m apos) (e :: es) [] pos) (tCMethS C sp E ta t) := by
  refine ⟨fun pins s σ H Q I hh => ?_⟩
  refine PySem.W.methodCall_KW (pl := pl) (thn (oe.run pins s σ H _ I hh) fun u s1 ⟨v, H1, I1, rx, ev, q⟩ => ?_) tr
  subst ev
  obtain rfl : u = Value.ref C := rx
  refine ClX.getmethcm_ok I1 rd cm fun s2 I2 => ?_
  refine ClX.callwith_cm I2 (ClX.base_none I1 (Nat.le_refl _)) cm.fi (thn (args.run pos _ s2 σ H1 _ I2 q) fun us s3 ⟨vs, H2, I3, rv, q2⟩ => ⟨⟨ClX.pin_at I3, I3.kIn⟩, ?_⟩) st pn
  exact run_cmS Fo room bi (pa σ) I3 rv q2
end
end K3

namespace K3
open PySem L2 SX AddrMath
abbrev sErr : Stmt := inClass (top 2) 0
/-- what the text says of InvalidText, at C, and of its __init__, at fI -/
structure ErrC (K : PySem.W.Frag) (mg : Str → Option Value) (C fI : Addr) : Prop where
  ox : OexC K C
  iC : PySem.W.findIn K (.ref C) "__init__" = some (some (.ref fI))
  tI : PySem.W.typeIn K (.ref fI) = some (.type "function")
  no : PySem.W.findIn K (.ref C) "index" = some none
  mgC : mg "InvalidText" = some (.ref C)
abbrev ixF (v : V) : List (Str × V) := [(("index" : Str), v)]
theorem st_go {i : Nat} {v : V} {σ σ' : L2.St} {H : Hp} {Q : L2.St → Hp → Prop} (e : σ.set i (some v) = σ') (h : Q σ' H) : gName i v σ H Q := by
  show Q (σ.set i (some v)) H
  rw [e]
  exact h
theorem iteT' {A B : Prop} {b : Bool} (h : b = true) (a : A) : if b = true then A else B := by
  rw [if_pos h]
  exact a
theorem iteF' {A B : Prop} {b : Bool} (h : b = false) (a : B) : if b = true then A else B := by
  rw [h]
  exact iteF a
section
variable {P : Program} {w : World} {K : PySem.W.Frag} {mg : Str → Option Value} {base : Heap}
/-! ### InvalidText.__init__ -/
def spErr (C : Addr) : Sp := fun vs H Q _ => ∃ (a : Addr) (v : V), vs = [.ref a, v] ∧ H a = some (exo a C none) ∧ ∀ dx, H dx = none → dx ≠ a → Q .non (upd (upd H dx (exd dx (ixF v))) a (exo a C (some dx)))
theorem scErr : FnScope ["self", "index"] ["self", "index"] (defScope sErr) := ⟨rfl, rfl, rfl, by decide +kernel, rfl, by decide +kernel, by decide +kernel⟩
theorem ok_err {f C fI : Addr} {fd : FuncData} (F : Fun K "__init__" "InvalidText.__init__" sErr f fd) (T : ErrC K mg C fI) : FnOk P w K mg base CX0 1 f fd ["self", "index"] (spErr C) := by
  refine F.ok scErr (fun vs H Q E h => ?_) (fun cdv A outer s0 H vs Q E hr h => ?_)
  · obtain ⟨a, v, rfl, _⟩ := h
    rfl
  · obtain ⟨a, v, rfl, ha, q⟩ := h
    exact ⟨_, pss_one (ps_ost (pv 0) (pv 1)), _, rfl, _, rfl, a, C, rfl, T.ox, T.no, .inl ⟨ha, q⟩⟩
/-- InvalidText(v), made -/
theorem err_use {C a : Addr} {H1 : Hp} {v : V} {Q : XK} {E : XK} (na : H1 a = none) (q : ∀ d, H1 d = none → Q (.ref C) (some d) (upd H1 d (.xd (ixF v)))) :
    spErr C [.ref a, v] (upd H1 a (exo a C none)) (fun u H2 => u = .non ∧ ∃ (d : Addr) (fs : List (Str × V)), H2 a = some (exo a C (some d)) ∧ H2 d = some (exd d fs) ∧ H1 d = none ∧ Q (.ref C) (some d) (upd (del H2 a) d (.xd fs))) E := by
  refine ⟨a, v, rfl, upd_same, fun dx nd ne => ⟨rfl, dx, ixF v, upd_same, ?_, ?_, ?_⟩⟩
  · rw [upd_ne ne, upd_same]
  · rw [upd_ne ne] at nd
    exact nd
  · have n1 : H1 dx = none := by
      rw [upd_ne ne] at nd
      exact nd
    have e : upd (del (upd (upd (upd H1 a (exo a C none)) dx (exd dx (ixF v))) a (exo a C (some dx))) a) dx (.xd (ixF v)) = upd H1 dx (.xd (ixF v)) := by
      funext b
      by_cases h1 : b = dx
      · rw [h1, upd_same, upd_same]
      · rw [upd_ne h1, upd_ne h1]
        by_cases h2 : b = a
        · rw [h2, del_same, na]
        · rw [del_ne h2, upd_ne h2, upd_ne h1, upd_ne h2]
    rw [e]
    exact q dx n1
/-! ### Address.read: slots cls 0, text 1, end 2, state 3, path 4, start 5 -/
/-- a value that is no string, as isinstance sees it -/
def NoStr (K : PySem.W.Frag) (H : Hp) (x : V) : Prop := ∃ t : Value, TyX K H x t ∧ PySem.W.kitOne K t (.type "str") = some false
def spRead (K : PySem.W.Frag) (C CT : Addr) : Sp := fun vs H Q E => ∃ x : V, vs = [.ref C, x] ∧
  ((NoStr K H x ∧ ∀ d, H d = none → E (.ref CT) (some d) (upd H d (.xd (ixF (.int 0))))) ∨
   (∃ l : List Nat, x = .str (S l) ∧ l.length ≤ 1000 ∧
     (∀ n, rd l = .bad n → ∀ d H', Same H H' → H' d = some (.xd (ixF (.int (n : Int)))) → H d = none → E (.ref CT) (some d) H') ∧
     (∀ s p, rd l = .good s p → ∀ a t H', Same H H' → AddrT C H' a t s p → H a = none → Q (.ref a) H')))
theorem scRead : FnScope ["cls", "text", "end", "state", "path", "start"] ["cls", "text"] (defScope sRead) := ⟨rfl, rfl, rfl, by decide +kernel, rfl, by decide +kernel, by decide +kernel⟩
theorem ok_read {f fE fW fI C CT : Addr} {fd fdE fdW fdI : FuncData} (F : Fun K "read" "Address.read" sRead f fd) (TE : ErrC K mg CT fE) (GE : FnOk P w K mg base CX0 1 fE fdE ["self", "index"] (spErr CT)) (bE : Binds K fdE ["self", "index"] [])
    (GW : FnOk P w K mg base CX0 1 fW fdW ["text", "start"] spWordEnd) (cW : Cd K mg "word_end" fW) (bW : Binds K fdW ["text", "start"] [])
    (MI : Mk K C fI) (GI : FnOk P w K mg base CX0 3 fI fdI ["self", "state", "path"] (spInit C)) (bI : Binds K fdI ["self", "state", "path"] [])
    (ms : mg "isinstance" = none) (mt : mg "str" = none) (ml : mg "len" = none) : FnOk P w K mg base (L2.CX P w) 5 f fd ["cls", "text"] (spRead K C CT) := by
  refine F.okX scRead (fun vs H Q E h => ?_) (fun cdv A outer s0 H vs Q E hr h => ?_)
  · obtain ⟨x, rfl, _⟩ := h
    rfl
  · obtain ⟨x, rfl, h⟩ := h
    have hr1 : Room 1 _ := hr.mono (by decide)
    have hr2 : Room 2 _ := hr.mono (by decide)
    refine ⟨_, pss_cons (ps_if (pt_not (pt_val (pe_callB call_isi (by rfl) ms (by decide +kernel) (pa_cons (pv 1) (pa_cons (pe_bltn (v := .ty "str") (by rfl) mt (by decide +kernel) rfl) pa_nil)))))
        (pss_one (ps_raise rfl (takes_of rfl rfl rfl rfl) (pmk_oex TE.ox TE.iC TE.tI GE hr2 bE .nil pass0 (by rfl) TE.mgC (by exact (pa_cons pe_int pa_nil))))) pss_nil)
      (pss_cons (ps_set (i := 2) scRead.nd rfl (Or.inl rfl) (pe_call GW hr1 (by rfl) cW.mg cW.kp bW .nil pass0 (pa_cons (pv 1) (pa_cons pe_int pa_nil))))
      (pss_cons (ps_if (PW.pt (pw_or (pt_cmpR op_eq (pv 2) pe_int (nomark _)) (pw_or1 (pt_cmpR op_ne (pe_slice sl_str (pv 1) (po_some (pv 2)) (po_some (pe_op op_add (pv 2) pe_int))) pe_str (nomark _)))))
        (pss_one (ps_raise rfl (takes_of rfl rfl rfl rfl) (pmk_oex TE.ox TE.iC TE.tI GE hr2 bE .nil pass0 (by rfl) TE.mgC (by exact (pa_cons (pv 2) pa_nil))))) pss_nil)
      (pss_cons (ps_set (i := 3) scRead.nd rfl (Or.inl rfl) (pe_slice sl_str (pv 1) po_none (po_some (pv 2))))
      (pss_cons (ps_set (i := 4) scRead.nd rfl (Or.inl rfl) (pe_lst pa_nil))
      (pss_cons (ps_aug (i := 2) scRead.nd rfl (.inl rfl) pe_int ip_add)
      (pss_cons (ps_while (passes_of rfl) (pt_cmpR op_lt (pv 2) (pe_callB call_len_str (by rfl) ml (by decide +kernel) (pa_cons (pv 1) pa_nil)) (nomark _))
        (pss_cons (ps_if (pt_cmpR op_ne (pe_ix ix_str (pv 1) (pv 2) (fun _ _ => rfl)) pe_str (nomark _))
          (pss_one (ps_raise rfl (takes_of rfl rfl rfl rfl) (pmk_oex TE.ox TE.iC TE.tI GE hr2 bE .nil pass0 (by rfl) TE.mgC (by exact (pa_cons (pv 2) pa_nil))))) pss_nil)
        (pss_cons (ps_set (i := 5) scRead.nd rfl (Or.inl rfl) (pe_op op_add (pv 2) pe_int))
        (pss_cons (ps_set (i := 2) scRead.nd rfl (Or.inl rfl) (pe_call GW hr1 (by rfl) cW.mg cW.kp bW .nil pass0 (pa_cons (pv 1) (pa_cons (pv 5) pa_nil))))
        (pss_cons (ps_if (pt_cmpR op_eq (pv 2) (pv 5) (nomark _))
          (pss_one (ps_raise rfl (takes_of rfl rfl rfl rfl) (pmk_oex TE.ox TE.iC TE.tI GE hr2 bE .nil pass0 (by rfl) TE.mgC (by exact (pa_cons (pv 2) pa_nil))))) pss_nil)
        (pss_one (ps_expr (pe_bm PySem.F.plainAttrs_list PySem.F.slot_list_append PySem.F.type_list_append mt_append (pv 4) (pa_cons (pe_slice sl_str (pv 1) (po_some (pv 5)) (po_some (pv 2))) pa_nil)))))))))
      (pss_one (ps_ret (pe_makeL (i := 0) MI GI hr rfl (.inl rfl) bI .nil pass0 (pa_cons (pv 3) (pa_cons (pv 4) pa_nil))))))))))), ?_⟩
    rcases h with ⟨⟨t, ty, kt⟩, q⟩ | ⟨l, rfl, hl, qb, qg⟩
    · exact ⟨_, rfl, _, _, t, _, false, rfl, .ty "str", ty, kt, _, rfl, iteT ⟨by show 1 ≤ 1000; decide, fun a na => err_use na q⟩⟩
    · refine ⟨_, rfl, _, _, _, _, true, rfl, .ty "str", .base (.str _), kit_ty (by decide +kernel), _, rfl, iteF ?_⟩
      refine ⟨_, rfl, l, 0, rfl, by omega, Nat.zero_le _, ?_⟩
      obtain ⟨w0, ew⟩ : ∃ w0, run 0 l = w0 := ⟨_, rfl⟩
      have hw8 := run_8 l 0 (by decide)
      have hwl := run_le l 0
      have hwa := run_all l 0
      rw [ew] at hw8 hwl hwa
      refine st_go (σ' := [some (.ref C), some (.str (S l)), some (.int (w0 : Int)), none, none, none]) (by rw [List.drop_zero, Nat.zero_add, ew]; rfl) ?_
      have rdl1 : (w0 = 0 ∨ (l.drop w0).head? ≠ some 58) → rd l = .bad w0 := fun z => by
        unfold rd
        rw [ew, if_pos z]
      have rdl2 : ¬ (w0 = 0 ∨ (l.drop w0).head? ≠ some 58) → ∀ n, rdB l.length (l.drop (w0 + 1)) (w0 + 1) [] = .inl n → rd l = .bad n := fun z n hn => by
        unfold rd
        rw [ew, if_neg z, hn]
      have rdl3 : ¬ (w0 = 0 ∨ (l.drop w0).head? ≠ some 58) → ∀ p, rdB l.length (l.drop (w0 + 1)) (w0 + 1) [] = .inr p → rd l = .good (l.take w0) p := fun z n hn => by
        unfold rd
        rw [ew, if_neg z, hn]
      -- if end == 0 or text[end:end + 1] != ":"
      refine ⟨_, rfl, rfl, _, rfl, ?_⟩
      by_cases hw0 : w0 = 0
      · refine iteT' (by rw [hw0]; rfl) (iteT ?_)
        refine ⟨_, rfl, by show 1 ≤ 1000; decide, fun a na => err_use na fun d nd => qb w0 (rdl1 (.inl hw0)) d _ (same_new nd) upd_same nd⟩
      refine iteF' (decide_eq_false fun z => hw0 (by injection z with z; omega)) ?_
      refine ⟨_, rfl, _, rfl, (w0 : Int), rfl, _, rfl, _, _, rfl, rfl, ((w0 + 1 : Nat) : Int), rfl, _, rfl, size_ok (by rw [len_S]; omega), rfl, _, rfl, ?_⟩
      rw [cutS_mid, colon_S]
      have e58 : (!decide (V.str (S ((l.take (w0 + 1)).drop w0)) = V.str (S [58]))) = !decide ((l.drop w0).head? = some 58) := by
        congr 1
        have iff : (V.str (S ((l.take (w0 + 1)).drop w0)) = V.str (S [58])) ↔ ((l.drop w0).head? = some 58) := by
          have e : (l.take (w0 + 1)).drop w0 = (l.drop w0).take 1 := by
            rw [List.drop_take]
            congr 1
            omega
          rw [e]
          cases l.drop w0 with
          | nil =>
            constructor
            · intro z
              injection z with z
              have z2 : ([] : List Nat) = [58] := S_inj z
              cases z2
            · intro z
              cases z
          | cons x y =>
            constructor
            · intro z
              injection z with z
              have z2 : [x] = [58] := S_inj z
              injection z2 with z3
              rw [z3]
              rfl
            · intro z
              have z2 : x = 58 := Option.some.inj z
              rw [z2]
              rfl
        by_cases h : (l.drop w0).head? = some 58
        · rw [decide_eq_true h, decide_eq_true (iff.mpr h)]
        · rw [decide_eq_false h, decide_eq_false (fun z => h (iff.mp z))]
      rw [e58]
      by_cases hc : (l.drop w0).head? = some 58
      rotate_left
      · refine iteT' (by rw [decide_eq_false hc]; rfl) ?_
        refine ⟨_, rfl, by show 1 ≤ 1000; decide, fun a na => err_use na fun d nd => qb w0 (rdl1 (.inr hc)) d _ (same_new nd) upd_same nd⟩
      refine iteF' (by rw [decide_eq_true hc]; rfl) ?_
      have hnc : ¬ (w0 = 0 ∨ (l.drop w0).head? ≠ some 58) := fun z => z.elim hw0 fun z => z hc
      have hw1 : w0 < l.length := by
        by_cases h : w0 < l.length
        · exact h
        · rw [List.drop_of_length_le (by omega)] at hc
          cases hc
      -- state = text[:end]; path = []; end += 1
      refine ⟨_, rfl, _, rfl, (w0 : Int), rfl, _, rfl, size_ok (by rw [len_S]; omega), st_go (σ' := [some (.ref C), some (.str (S l)), some (.int (w0 : Int)), some (.str (S (l.take w0))), none, none]) (by rw [cutS_to]; rfl) ?_⟩
      refine ⟨Nat.zero_le _, fun o no => st_go (σ' := [some (.ref C), some (.str (S l)), some (.int (w0 : Int)), some (.str (S (l.take w0))), some (.ref o), none]) rfl ?_⟩
      refine ⟨_, rfl, _, _, rfl, rfl, ?_⟩
      -- while
      refine ⟨fun m σ H' => ∃ (e f : Nat) (path : List (List Nat)) (v5 : Option V), σ = [some (.ref C), some (.str (S l)), some (.int (e : Int)), some (.str (S (l.take w0))), some (.ref o), v5] ∧ Same H H' ∧ H' o = some (.lst (wV path)) ∧
        m = l.length - e ∧ e ≤ l.length ∧ path.length ≤ e ∧ (∀ x ∈ path, isW x = true) ∧ (l.drop e).length ≤ f ∧ rdB l.length (l.drop (w0 + 1)) (w0 + 1) [] = rdB f (l.drop e) e path,
        ⟨l.length - (w0 + 1), w0 + 1, l.length, [], none, rfl, same_new no, upd_same, rfl, hw1, Nat.zero_le _, (fun x hx => by cases hx), by rw [List.length_drop]; omega, rfl⟩, ?_⟩
      rintro m σ H' ⟨e, fu, path, v5, rfl, s1, ho, rfl, he, hpl, hpw, hfu, hrd⟩
      refine ⟨_, rfl, _, rfl, _, rfl, size_ok (by rw [len_S]; omega), _, _, rfl, rfl, _, rfl, ?_⟩
      by_cases hlt : e < l.length
      rotate_left
      · refine if_ndec (by rw [len_S]; omega) ?_
        have hd : l.drop e = [] := List.drop_of_length_le (by omega)
        rw [hd] at hrd
        have hr0 : rdB fu [] e path = .inr path := by cases fu <;> rfl
        rw [hr0] at hrd
        have good := rdl3 hnc path hrd
        refine ⟨rfl, _, rfl, _, rfl, fun x dx nx ndx nex => ?_⟩
        have sx : Same H' (upd (upd H' dx (.own x)) x (.ins C dx [])) := fun b o e => by
          rw [upd_ne (ne_of_none e nx), upd_ne (ne_of_none e ndx)]
          exact e
        refine ⟨x, dx, o, l.take w0, path, rfl, upd_same, isW_iff.mpr ⟨?_, ?_, hwa⟩, sx _ _ ho, by omega, hpw, fun H2 t A2 nt kp => ⟨rfl, ?_⟩⟩
        · rw [List.length_take]
          omega
        · rw [List.length_take]
          omega
        · exact qg _ _ good x t H2 (fun b u e => kp b u (sx _ _ (s1 _ _ e)) (ne_of_none (s1 _ _ e) nx)) A2 (s1.free nx)
      · refine if_dec (by rw [len_S]; omega) ?_
        refine ⟨_, fun σ'' H'' h => h, ?_⟩
        have hd : l.drop e = l[e] :: l.drop (e + 1) := List.drop_eq_getElem_cons hlt
        obtain ⟨fu', rfl⟩ : ∃ fu', fu = fu' + 1 := ⟨fu - 1, by rw [List.length_drop] at hfu; omega⟩
        rw [hd] at hrd
        have hrd2 : rdB (fu' + 1) (l[e] :: l.drop (e + 1)) e path = (if l[e] ≠ 47 then .inl e else if run 0 (l.drop (e + 1)) = 0 then .inl (e + 1) else rdB fu' ((l.drop (e + 1)).drop (run 0 (l.drop (e + 1)))) (e + 1 + run 0 (l.drop (e + 1))) (path ++ [(l.drop (e + 1)).take (run 0 (l.drop (e + 1)))])) := rfl
        rw [hrd2] at hrd
        -- if text[end] != "/"
        refine ⟨_, rfl, _, rfl, _, _, l[e], rfl, rfl, size_ok (by rw [len_S]; omega), at_ofN rfl (List.getElem?_eq_getElem hlt), rfl, _, rfl, ?_⟩
        have e47 : (V.str (⟨#[l[e]]⟩ : Str) = V.str (Str.ofString "/")) ↔ l[e] = 47 := by
          rw [slash_S]
          constructor
          · intro z
            injection z with z
            have z2 : [l[e]] = [47] := S_inj z
            injection z2
          · intro z
            rw [z]
        by_cases h47 : l[e] = 47
        rotate_left
        · refine iteT' (by rw [decide_eq_false (fun z => h47 (e47.mp z))]; rfl) ?_
          rw [if_pos h47] at hrd
          exact ⟨_, rfl, by show 1 ≤ 1000; decide, fun a na => err_use na fun d nd => qb e (rdl2 hnc e hrd) d _ (fun b u z => same_new nd _ _ (s1 _ _ z)) upd_same (s1.free nd)⟩
        refine iteF' (by rw [decide_eq_true (e47.mpr h47)]; rfl) ?_
        rw [if_neg (fun z => z h47)] at hrd
        -- start = end + 1; end = word_end(text, start)
        refine ⟨_, rfl, _, _, rfl, rfl, st_go (σ' := [some (.ref C), some (.str (S l)), some (.int (e : Int)), some (.str (S (l.take w0))), some (.ref o), some (.int ((e + 1 : Nat) : Int))]) rfl ?_⟩
        obtain ⟨w1, ew1⟩ : ∃ w1, run 0 (l.drop (e + 1)) = w1 := ⟨_, rfl⟩
        have hw18 := run_8 (l.drop (e + 1)) 0 (by decide)
        have hw1l := run_le (l.drop (e + 1)) 0
        have hw1a := run_all (l.drop (e + 1)) 0
        rw [ew1] at hrd hw18 hw1l hw1a
        rw [List.length_drop] at hw1l
        refine ⟨_, rfl, _, rfl, l, e + 1, rfl, by omega, by omega, st_go (σ' := [some (.ref C), some (.str (S l)), some (.int ((e + 1 + w1 : Nat) : Int)), some (.str (S (l.take w0))), some (.ref o), some (.int ((e + 1 : Nat) : Int))]) (by rw [ew1]; rfl) ?_⟩
        -- if end == start
        refine ⟨_, rfl, _, rfl, rfl, _, rfl, ?_⟩
        by_cases hw10 : w1 = 0
        · refine iteT' (by rw [hw10]; exact decide_eq_true rfl) ?_
          rw [if_pos hw10] at hrd
          refine ⟨_, rfl, by show 1 ≤ 1000; decide, fun a na => err_use na fun d nd => ?_⟩
          have z := qb (e + 1) (rdl2 hnc _ hrd) d (upd H' d (.xd (ixF (.int ((e + 1 : Nat) : Int))))) (fun b u z => same_new nd _ _ (s1 _ _ z)) upd_same (s1.free nd)
          rw [hw10]
          exact z
        refine iteF' (decide_eq_false fun z => hw10 (by injection z with z; omega)) ?_
        rw [if_neg hw10] at hrd
        -- path.append(text[start:end])
        refine ⟨_, rfl, .inl ⟨rfl, _, .inl (.inl ho)⟩, _, rfl, _, rfl, ((e + 1 : Nat) : Int), rfl, _, rfl, ((e + 1 + w1 : Nat) : Int), rfl, _, rfl, size_ok (by rw [len_S]; omega), o, _, _, rfl, rfl, ho, size_lt (by rw [List.length_map]; omega), ?_⟩
        rw [cutS_mid]
        have ecut : (l.take (e + 1 + w1)).drop (e + 1) = (l.drop (e + 1)).take w1 := by
          rw [List.drop_take]
          congr 1
          omega
        rw [ecut]
        have hno : H o = none := no
        refine ⟨l.length - (e + 1 + w1), by omega, e + 1 + w1, fu', path ++ [(l.drop (e + 1)).take w1], _, rfl, fun b u z => ?_, ?_, rfl, by omega, ?_, ?_, ?_, ?_⟩
        · rw [upd_ne (ne_of_none z hno)]
          exact s1 _ _ z
        · rw [upd_same]
          show _ = some (HO.lst (List.map _ (_ ++ _)))
          rw [List.map_append]
          rfl
        · rw [List.length_append, List.length_singleton]
          omega
        · intro y hy
          rcases List.mem_append.mp hy with h | h
          · exact hpw y h
          · rw [List.mem_singleton.mp h]
            refine isW_iff.mpr ⟨?_, ?_, hw1a⟩
            · rw [List.length_take, List.length_drop]
              omega
            · rw [List.length_take, List.length_drop]
              omega
        · rw [List.length_drop] at hfu ⊢
          omega
        · rw [hrd, List.drop_drop]
end
end K3

namespace K3
open PySem L2 SX AddrMath
abbrev sAny : Stmt := top 18
abbrev sLWord : Stmt := top 19
abbrev sCan : Stmt := top 20
abbrev sDue : Stmt := top 21
abbrev sTold : Stmt := top 22
abbrev sBent : Stmt := top 23
abbrev sLaw : Stmt := top 24
/-- a comprehension over the signs of a text -/
theorem lc_signs {l : List Nat} {g : TG} {tt : TT} {te : TE} {vs : List Nat} {σ : L2.St} {H1 : Hp} {D : Addr} {Qd : Hp → Prop} (Pv : Nat → Hp → Prop) (h0 : Pv 0 (upd H1 D (.lst [])))
    (turn : ∀ i c H, l[i]? = some c → Pv i H → g (.str (S [c])) (wipe σ vs) H fun σ2 H2 => wipe σ2 vs = wipe σ vs ∧ tt σ2 H2 fun b H3 =>
      if b = true then te σ2 H3 fun y H4 => ∃ acc, H4 D = some (.lst acc) ∧ acc.length < sizeLine ∧ Pv (i + 1) (upd H4 D (.lst (acc ++ [y]))) else Pv (i + 1) H3) (done : ∀ H, Pv l.length H → Qd H) :
    ∃ W : Nat → Nat → Hp → Prop, (∃ m, W 0 m (upd H1 D (.lst []))) ∧ ∀ i m H, W i m H →
      ((Its (S l)).stop i H ∧ Qd H) ∨ ((Its (S l)).go i H ∧ ∃ Nx : Hp → Prop, (∀ H', Nx H' → ∃ m', m' < m ∧ W (i + 1) m' H') ∧ ∀ x H', (Its (S l)).yld i H x H' → g x (wipe σ vs) H' fun σ2 H2 => wipe σ2 vs = wipe σ vs ∧ tt σ2 H2 fun b H3 =>
        if b = true then te σ2 H3 fun y H4 => ∃ acc, H4 D = some (.lst acc) ∧ acc.length < sizeLine ∧ Nx (upd H4 D (.lst (acc ++ [y]))) else Nx H3) := by
  have sz : (S l).cps.size = l.length := by simp [S]
  refine ⟨fun i m H => m = l.length - i ∧ i ≤ l.length ∧ Pv i H, ⟨_, rfl, Nat.zero_le _, h0⟩, fun i m H hW => ?_⟩
  obtain ⟨rfl, hi, p⟩ := hW
  rcases Nat.lt_or_ge i l.length with hlt | hge
  · refine .inr ⟨by show i < (S l).cps.size; rw [sz]; exact hlt, Pv (i + 1), fun H' p' => ⟨l.length - (i + 1), by omega, rfl, hlt, p'⟩, fun x H' y => ?_⟩
    obtain ⟨rfl, c, hc, rfl⟩ := y
    refine turn i c H' ?_ p
    simpa [S] using hc
  · have e : i = l.length := by omega
    subst e
    exact .inl ⟨by show (S l).cps.size ≤ _; rw [sz]; exact Nat.le_refl _, done H p⟩
theorem letters_in : ∀ k : Nat, k < 26 → 97 + k ∈ lettersL := by decide +kernel
theorem letters_iff (c : Nat) : c ∈ lettersL ↔ isL c = true := by
  constructor
  · exact letters_all c
  · intro h
    unfold isL at h
    rw [Bool.and_eq_true, decide_eq_true_eq, decide_eq_true_eq] at h
    have z := letters_in (c - 97) (by omega)
    rw [show 97 + (c - 97) = c by omega] at z
    exact z
theorem dp_strs {K : PySem.W.Frag} {H : Hp} : ∀ ws : List (List Nat), DpAll K H (wV ws) (ws.map fun x => PyData.str (S x))
  | [] => .nil
  | n :: r => .cons (.str _) (dp_strs r)
/-- plain signs -/
def asc (l : List Nat) : Prop := ∀ c ∈ l, c < 128
theorem ok_asc {l : List Nat} (h : asc l) : PyData.strOk (S l) = true := by
  unfold PyData.strOk
  rw [← Array.all_toList, List.all_eq_true]
  intro c hc
  have := h c hc
  exact decide_eq_true (by omega)
theorem cl_strs : ∀ {ws : List (List Nat)}, (∀ x ∈ ws, asc x) → PyData.canLayAll0 (ws.map fun x => PyData.str (S x)) = true
  | [], _ => rfl
  | x :: r, h => by
    have h1 := cl_strs (ws := r) fun y hy => h y (List.mem_cons_of_mem _ hy)
    have h2 := ok_asc (h x (List.mem_cons_self ..))
    simp only [List.map_cons, PyData.canLayAll0, PyData.canLay0, h1, h2, Bool.and_self]
theorem da_strs : ∀ ws : List (List Nat), PyData.depthAll (ws.map fun x => PyData.str (S x)) = 0
  | [] => rfl
  | x :: r => by
    have h1 := da_strs r
    simp only [List.map_cons, PyData.depthAll, PyData.depth, h1, Nat.max_self]
theorem sh_strs {ws : List (List Nat)} (h : ∀ x ∈ ws, asc x) : SeqAt.shaped (.list (ws.map fun x => PyData.str (S x))) = true := by
  simp [SeqAt.shaped, PyData.canLay0, PyData.depth, cl_strs h, da_strs]
theorem sh_strsT {ws : List (List Nat)} (h : ∀ x ∈ ws, asc x) : SeqAt.shaped (.tuple (ws.map fun x => PyData.str (S x))) = true := by
  simp [SeqAt.shaped, PyData.canLay0, PyData.depth, cl_strs h, da_strs]
theorem eqv_none (ds : List PyData) : PyData.eqv (.list ds) (.list []) = ds.isEmpty := by
  cases ds <;> rfl
theorem isW_eq {l : List Nat} (h1 : 1 ≤ l.length) (h8 : l.length ≤ 8) : isW l = l.all isL := by
  unfold isW
  rw [decide_eq_true h1, decide_eq_true h8]
  rfl
section
variable {P : Program} {w : World} {K : PySem.W.Frag} {mg : Str → Option Value} {base : Heap}
/-! ### _law_is_word, of a text: slots value 0, letters 1, sign 2 -/
def spLWord : Sp := fun vs H Q _ => ∃ l : List Nat, vs = [.str (S l)] ∧ l.length ≤ 1000 ∧ asc l ∧ ∀ H', Same H H' → Q (.bl (isW l)) H'
theorem scLWord : FnScope ["_law_value", "_law_letters", "_law_sign"] ["_law_value"] (defScope sLWord) := ⟨rfl, rfl, rfl, by decide +kernel, rfl, by decide +kernel, by decide +kernel⟩
theorem ok_lword {f : Addr} {fd : FuncData} (F : Fun K "_law_is_word" "_law_is_word" sLWord f fd) (ms : mg "isinstance" = none) (mt : mg "str" = none) (ml : mg "len" = none) : FnOk P w K mg base CX0 1 f fd ["_law_value"] spLWord := by
  refine F.ok scLWord (fun vs H Q E h => ?_) (fun cdv A outer s0 H vs Q E hr h => ?_)
  · obtain ⟨l, rfl, _⟩ := h
    rfl
  · obtain ⟨l, rfl, hl, ha, q⟩ := h
    refine ⟨_, pss_cons (ps_set (i := 1) scLWord.nd rfl (Or.inr rfl) pe_str)
      (pss_cons (ps_if (PW.pt (pw_or (pt_not (pt_val (pe_callB call_isi (by rfl) ms (by decide +kernel) (pa_cons (pv 0) (pa_cons (pe_bltn (v := .ty "str") (by rfl) mt (by decide +kernel) rfl) pa_nil)))))
          (pw_or1 (pt_not (pt_chain op_le op_le pe_int (pe_callB call_len_str (by rfl) ml (by decide +kernel) (pa_cons (pv 0) pa_nil)) pe_int))))) (pss_one (ps_ret pe_bl)) pss_nil)
      (pss_one (ps_ret (pe_cmpR (op_eqD hr.units) (pe_lc (own := [("_law_sign", 2)]) (g := gName 2) rfl scLWord.nd (pi_str (pv 0)) (blkOk_by (own := [("_law_sign", 2)]) (N := ["_law_value", "_law_letters", "_law_sign"]) (sc := defScope sLWord) (by decide +kernel))
        (fun _ _ _ _ _ => pg_name (i := 2) scLWord.nd rfl (Or.inl rfl)) (fun _ _ _ _ _ => pts_one (pt_cmpR op_notIn_sign (pv 2) (pv 1) rfl)) (fun _ _ _ _ _ => pv 2)) (pe_lst pa_nil) (nomark _))))), ?_⟩
    refine ⟨_, rfl, _, _, _, _, true, rfl, .ty "str", .base (.str _), kit_ty (by decide +kernel), _, rfl, iteF ?_⟩
    refine ⟨_, rfl, _, rfl, size_ok (by rw [len_S]; omega), _, _, rfl, rfl, _, rfl, ?_⟩
    have no : isW l = false → Q (.bl false) H := fun z => by
      have y := q H (Same.refl H)
      rw [z] at y
      exact y
    by_cases h1 : 1 ≤ l.length
    rotate_left
    · refine if_ndec (by rw [len_S]; omega) ⟨_, rfl, iteT ?_⟩
      refine no ?_
      cases z : isW l with
      | false => rfl
      | true => exact absurd (isW_iff.mp z).1 h1
    refine if_dec (by rw [len_S]; omega) ⟨_, _, rfl, rfl, _, rfl, ?_⟩
    by_cases h8 : l.length ≤ 8
    rotate_left
    · refine iteT' (by rw [decide_eq_false (by rw [len_S]; omega)]; rfl) ?_
      exact no (isW_long (by omega))
    refine iteF' (by rw [decide_eq_true (by rw [len_S]; omega)]; rfl) ?_
    -- [sign for sign in value if sign not in letters] == []
    refine ⟨_, rfl, S l, rfl, fun D hD => ?_⟩
    refine lc_signs (l := l) (fun i H' => Same H H' ∧ H' D = some (.lst (wV (((l.take i).filter fun c => !isL c).map fun c => [c])))) ⟨same_new hD, upd_same⟩ ?_ ?_
    · rintro i c H' hc ⟨s1, hDl⟩
      have ht : l.take (i + 1) = l.take i ++ [c] := by rw [List.take_add_one, hc]; rfl
      refine ⟨rfl, _, rfl, _, rfl, c, _, rfl, rfl, _, rfl, ?_⟩
      by_cases hL : isL c = true
      · refine iteF' (by rw [decide_eq_true ((letters_iff c).mpr hL)]; rfl) ⟨s1, ?_⟩
        rw [hDl, ht, List.filter_append, List.filter_cons_of_neg (by rw [hL]; exact Bool.false_ne_true), List.filter_nil, List.append_nil]
      · refine iteT' (by rw [decide_eq_false (fun z => hL ((letters_iff c).mp z))]; rfl) ?_
        have hle : ((l.take i).filter fun c => !isL c).length ≤ 8 := Nat.le_trans (List.length_filter_le _ _) (by rw [List.length_take]; omega)
        refine ⟨_, rfl, _, hDl, by rw [List.length_map, List.length_map]; exact size_lt (by omega), fun b o z => by rw [upd_ne (ne_of_none z hD)]; exact s1 _ _ z, ?_⟩
        rw [upd_same, ht, List.filter_append, List.filter_cons_of_pos (by simpa using hL), List.filter_nil, List.map_append]
        show _ = some (HO.lst (List.map _ (_ ++ _)))
        rw [List.map_append]
        rfl
    · rintro H' ⟨s1, hDl⟩
      rw [List.take_length] at hDl
      refine ⟨Nat.zero_le _, fun e ne => ?_⟩
      have s2 : Same H' (upd H' e (.lst [])) := same_new ne
      refine ⟨_, .list [], .lst (.inl (.inl (s2 _ _ hDl))) (dp_strs _), .lst (.inl (.inl upd_same)) .nil, sh_strs ?_, by decide +kernel, ?_⟩
      · intro x hx
        obtain ⟨c, hc, rfl⟩ := List.mem_map.mp hx
        intro y hy
        rw [List.mem_singleton.mp hy]
        exact ha c (List.mem_filter.mp hc).1
      · rw [eqv_none]
        have e2 : (((l.filter fun c => !isL c).map fun c => [c]).map fun x => PyData.str (S x)).isEmpty = isW l := by
          rw [isW_eq h1 h8]
          cases hf : l.filter fun c => !isL c with
          | nil =>
            have : l.all isL = true := by
              rw [List.all_eq_true]
              intro c hc
              cases hL : isL c with
              | true => rfl
              | false =>
                have : c ∈ l.filter fun c => !isL c := List.mem_filter.mpr ⟨hc, by rw [hL]; rfl⟩
                rw [hf] at this
                cases this
            rw [this]
            rfl
          | cons x y =>
            have hx : x ∈ l.filter fun c => !isL c := by rw [hf]; exact List.mem_cons_self ..
            have hx2 := List.mem_filter.mp hx
            have : l.all isL = false := by
              rw [List.all_eq_false]
              exact ⟨x, hx2.1, by simpa using hx2.2⟩
            rw [this]
            rfl
        rw [e2]
        exact q _ fun b o z => s2 _ _ (s1 _ _ z)
end
end K3

namespace K3
open PySem L2 SX AddrMath
theorem spl_sp (d : Nat) : ∀ (l acc p : List Nat) (q : List (List Nat)), sp d l = p :: q → TL.spl [d] 0 acc l = (acc ++ p) :: q
  | [], acc, p, q, h => by
    have e : ([[]] : List (List Nat)) = p :: q := h
    injection e with e1 e2
    rw [← e1, ← e2, TL.spl_nil, List.append_nil]
  | c :: r, acc, p, q, h => by
    obtain ⟨p', q', hr⟩ := sp_cons d r
    have hpre : TL.pre [d] (c :: r) = decide (c = d) := by
      show (([c] : List Nat) == [d]) = decide (c = d)
      by_cases e : c = d
      · rw [e, decide_eq_true rfl]
        exact beq_self_eq_true _
      · rw [decide_eq_false e]
        exact beq_eq_false_iff_ne.mpr fun z => e (by injection z)
    by_cases e : c = d
    · rw [TL.spl_hit (by rw [hpre, decide_eq_true e])]
      rw [e, sp_hit] at h
      injection h with h1 h2
      have ih := spl_sp d r [] p' q' hr
      rw [← h1, ← h2, List.append_nil, hr]
      show acc :: TL.spl [d] 0 [] r = acc :: p' :: q'
      rw [ih]
      rfl
    · rw [TL.spl_miss (by rw [hpre, decide_eq_false e])]
      rw [sp_miss e hr] at h
      injection h with h1 h2
      rw [spl_sp d r (acc ++ [c]) p' q' hr, ← h1, ← h2, List.append_assoc]
      rfl
theorem split_sp (l : List Nat) {d : Nat} (hd : d < 256) : Txt.split (S l) (S [d]) = (sp d l).map S := by
  obtain ⟨p, q, h⟩ := sp_cons d l
  rw [split_S (by simp) (by simpa using hd), spl_sp d l [] p q h, h]
  rfl
theorem sp_sub (d : Nat) : ∀ (l x : List Nat), x ∈ sp d l → ∀ c ∈ x, c ∈ l
  | [], x, h, c, hc => by
    have e : x = [] := by simpa [sp] using h
    rw [e] at hc
    cases hc
  | a :: r, x, h, c, hc => by
    obtain ⟨p, q, hr⟩ := sp_cons d r
    by_cases e : a = d
    · rw [e, sp_hit] at h
      rcases List.mem_cons.mp h with h | h
      · rw [h] at hc
        cases hc
      · exact List.mem_cons_of_mem _ (sp_sub d r x h c hc)
    · rw [sp_miss e hr] at h
      rcases List.mem_cons.mp h with h | h
      · rw [h] at hc
        rcases List.mem_cons.mp hc with z | z
        · rw [z]
          exact List.mem_cons_self ..
        · exact List.mem_cons_of_mem _ (sp_sub d r p (by rw [hr]; exact List.mem_cons_self ..) c z)
      · exact List.mem_cons_of_mem _ (sp_sub d r x (by rw [hr]; exact List.mem_cons_of_mem _ h) c hc)
theorem sp_lens (d : Nat) : ∀ (l : List Nat), (sp d l).length ≤ l.length + 1 ∧ ∀ x ∈ sp d l, x.length ≤ l.length
  | [] => ⟨Nat.le_refl _, fun x h => by have e : x = [] := by simpa [sp] using h
                                        rw [e]
                                        exact Nat.le_refl _⟩
  | a :: r => by
    obtain ⟨p, q, hr⟩ := sp_cons d r
    obtain ⟨i1, i2⟩ := sp_lens d r
    by_cases e : a = d
    · rw [e, sp_hit]
      refine ⟨by rw [List.length_cons, List.length_cons]; omega, fun x h => ?_⟩
      rcases List.mem_cons.mp h with h | h
      · rw [h]
        exact Nat.zero_le _
      · exact Nat.le_succ_of_le (i2 x h)
    · rw [sp_miss e hr]
      rw [hr] at i1 i2
      refine ⟨by rw [List.length_cons] at i1; rw [List.length_cons, List.length_cons]; omega, fun x h => ?_⟩
      rcases List.mem_cons.mp h with h | h
      · rw [h, List.length_cons, List.length_cons]
        exact Nat.succ_le_succ (i2 p (List.mem_cons_self ..))
      · exact Nat.le_succ_of_le (i2 x (List.mem_cons_of_mem _ h))
theorem segs_mid : ∀ (m : List (List Nat)) (z : List Nat), segs (m ++ [z]) = (m.all isW && (decide (z = []) || isW z))
  | [], z => rfl
  | [p], z => by
    show (isW p && segs [z]) = (([p] : List (List Nat)).all isW && _)
    rw [List.all_cons, List.all_nil, Bool.and_true]
    rfl
  | p :: q :: r, z => by
    show (isW p && segs ((q :: r) ++ [z])) = _
    rw [segs_mid (q :: r) z, List.all_cons (a := p), Bool.and_assoc]
theorem cut_mid (xs : List V) : cutV xs (some 1) (some (-1)) = (xs.drop 1).dropLast := by
  unfold cutV
  rw [show (1 : Int) = ((1 : Nat) : Int) from rfl, HT.sIx_nat]
  have e : HT.sIx xs.length xs.length (some (-((1 : Nat) : Int))) = xs.length - 1 := by
    unfold HT.sIx
    show (if (-((1 : Nat) : Int)) < 0 then (-((1 : Nat) : Int) + (xs.length : Int)).toNat else _) = _
    rw [if_pos (by omega)]
    omega
  rw [e, List.dropLast_eq_take, List.length_drop]
  by_cases h : 1 ≤ xs.length
  · rw [Nat.min_eq_left h]
  · have e0 : xs = [] := List.length_eq_zero_iff.mp (by omega)
    rw [e0]
    rfl
theorem dec_int (a b : Int) : decide (V.int a = V.int b) = decide (a = b) := by
  by_cases h : a = b
  · rw [h, decide_eq_true rfl, decide_eq_true rfl]
  · rw [decide_eq_false h, decide_eq_false fun z => h (by injection z)]
theorem dec_str (a b : List Nat) : decide (V.str (S a) = V.str (S b)) = decide (a = b) := by
  by_cases h : a = b
  · rw [h, decide_eq_true rfl, decide_eq_true rfl]
  · rw [decide_eq_false h, decide_eq_false fun z => h (by injection z with z; exact S_inj z)]
theorem cb_one {l a : List Nat} (h : sp 58 l = [a]) : cb l = (decide (a = []) || isW a) := by
  unfold cb
  rw [h]
theorem cb_two {l a b : List Nat} (h : sp 58 l = [a, b]) : cb l = (isW a && (decide (b = []) || tailOk b)) := by
  unfold cb
  rw [h]
theorem cb_more {l a b c : List Nat} {r : List (List Nat)} (h : sp 58 l = a :: b :: c :: r) : cb l = false := by
  unfold cb
  rw [h]
theorem sp_self {d : Nat} {l a : List Nat} (h : sp d l = [a]) : a = l := by
  by_cases hm : d ∈ l
  · obtain ⟨p, q, s, e⟩ := sp_two hm
    rw [h] at e
    cases e
  · rw [sp_free hm] at h
    injection h with h
    exact h.symm
section
variable {P : Program} {w : World} {K : PySem.W.Frag} {mg : Str → Option Value} {base : Heap}
/-! ### _law_can_begin: slots text 0, parts 1, pieces 2, one 3 -/
def spCan : Sp := fun vs H Q _ => ∃ l : List Nat, vs = [.str (S l)] ∧ l.length ≤ 900 ∧ asc l ∧ ∀ H', Same H H' → Q (.bl (cb l)) H'
theorem scCan : FnScope ["_law_text", "_law_parts", "_law_pieces", "_law_one"] ["_law_text"] (defScope sCan) := ⟨rfl, rfl, rfl, by decide +kernel, rfl, by decide +kernel, by decide +kernel⟩
theorem ok_can {f fW : Addr} {fd fdW : FuncData} (F : Fun K "_law_can_begin" "_law_can_begin" sCan f fd) (GW : FnOk P w K mg base CX0 1 fW fdW ["_law_value"] spLWord) (cW : Cd K mg "_law_is_word" fW) (bW : Binds K fdW ["_law_value"] [])
    (ml : mg "len" = none) : FnOk P w K mg base CX0 2 f fd ["_law_text"] spCan := by
  refine F.ok scCan (fun vs H Q E h => ?_) (fun cdv A outer s0 H vs Q E hr h => ?_)
  · obtain ⟨l, rfl, _⟩ := h
    rfl
  · obtain ⟨l, rfl, hl, ha, q⟩ := h
    refine ⟨_, pss_cons (ps_set (i := 1) scCan.nd rfl (Or.inl rfl) (pe_split (pv 0) pe_str))
      (pss_cons (ps_if (pt_cmpR op_eq (pe_callB call_len_seq (by rfl) ml PySem.boot_len (pa_cons (pv 1) pa_nil)) pe_int (nomark _))
        (pss_one (ps_ret (pe_or (pe_cmpR op_eq (pv 0) pe_str (nomark _)) (pe_one (pe_call GW hr (by rfl) cW.mg cW.kp bW .nil pass0 (pa_cons (pv 0) pa_nil)))))) pss_nil)
      (pss_cons (ps_if (PW.pt (pw_or (pt_cmpR op_gt (pe_callB call_len_seq (by rfl) ml PySem.boot_len (pa_cons (pv 1) pa_nil)) pe_int (nomark _))
          (pw_or1 (pt_not (pt_val (pe_call GW hr (by rfl) cW.mg cW.kp bW .nil pass0 (pa_cons (pe_ix ix_list (pv 1) pe_int (fun _ _ => rfl)) pa_nil))))))) (pss_one (ps_ret pe_bl)) pss_nil)
      (pss_cons (ps_if (pt_cmpR op_eq (pe_ix ix_list (pv 1) pe_int (fun _ _ => rfl)) pe_str (nomark _)) (pss_one (ps_ret pe_bl)) pss_nil)
      (pss_cons (ps_set (i := 2) scCan.nd rfl (Or.inl rfl) (pe_split (pe_ix ix_list (pv 1) pe_int (fun _ _ => rfl)) pe_str))
      (pss_cons (ps_if (PW.pt (pw_or (pt_cmpR op_ne (pe_ix ix_list (pv 2) pe_int (fun _ _ => rfl)) pe_str (nomark _))
          (pw_or1 (pt_cmpR (op_neD hr.units) (pe_lc (own := [("_law_one", 3)]) (g := gName 3) rfl scCan.nd (pi_list (pe_slice sl_list (pv 2) (po_some pe_int) (po_some (pe_un un_neg pe_int))))
            (blkOk_by (own := [("_law_one", 3)]) (N := ["_law_text", "_law_parts", "_law_pieces", "_law_one"]) (sc := defScope sCan) (by decide +kernel))
            (fun _ _ _ _ _ => pg_name (i := 3) scCan.nd rfl (Or.inl rfl)) (fun _ _ _ _ _ => pts_one (pt_not (pt_val (pe_call GW hr (by rfl) cW.mg cW.kp bW .nil pass0 (pa_cons (pv 3) pa_nil))))) (fun _ _ _ _ _ => pv 3)) (pe_lst pa_nil) (nomark _)))))
        (pss_one (ps_ret pe_bl)) pss_nil)
      (pss_one (ps_ret (pe_or (pe_cmpR op_eq (pe_ix ix_list (pv 2) (pe_un un_neg pe_int) (fun _ _ => rfl)) pe_str (nomark _))
        (pe_one (pe_call GW hr (by rfl) cW.mg cW.kp bW .nil pass0 (pa_cons (pe_ix ix_list (pv 2) (pe_un un_neg pe_int) (fun _ _ => rfl)) pa_nil))))))))))), ?_⟩
    have hsp58 : (Txt.split (S l) (Str.ofString ":")).map V.str = wV (sp 58 l) := by
      rw [colon_S, split_sp l (by decide), ← wV_str]
    refine ⟨_, rfl, ⟨_, rfl⟩, _, _, rfl, rfl, by rw [colon_S]; rfl, by rw [len_S]; exact size_ok (by omega), fun p np => ?_⟩
    rw [hsp58]
    have s1 : Same H (upd H p (.lst (wV (sp 58 l)))) := same_new np
    have hp : (upd H p (.lst (wV (sp 58 l)))) p = some (.lst (wV (sp 58 l))) := upd_same
    generalize upd H p (.lst (wV (sp 58 l))) = H1 at s1 hp
    refine st_go (σ' := [some (.str (S l)), some (.ref p), none, none]) rfl ?_
    obtain ⟨hcnt, hlens⟩ := sp_lens 58 l
    have hasc : ∀ x ∈ sp 58 l, asc x := fun x hx c hc => ha c (sp_sub 58 l x hx c hc)
    have fin : ∀ H', Same H1 H' → Q (.bl (cb l)) H' := fun H' s => q H' fun b o e => s _ _ (s1 _ _ e)
    -- if len(parts) == 1
    refine ⟨_, rfl, p, _, rfl, .inl (.inl (.inl hp)), rfl, _, rfl, ?_⟩
    rw [dec_int]
    obtain ⟨a, rest, hsp⟩ := sp_cons 58 l
    rw [hsp] at hp hcnt hlens hasc ⊢
    have hla := hlens a (List.mem_cons_self ..)
    cases rest with
    | nil =>
      refine if_dec (by simp) ?_
      have e := sp_self hsp
      have ec := cb_one hsp
      rw [e] at ec
      rw [ec] at fin
      refine ⟨_, rfl, rfl, _, rfl, ?_⟩
      first | rw [emp_S, dec_str] | rw [dec_str]
      by_cases h0 : l = []
      · refine if_dec h0 ?_
        have := fin H1 (Same.refl _)
        rw [decide_eq_true h0, Bool.true_or] at this
        exact this
      · refine if_ndec h0 ?_
        rw [decide_eq_false h0] at fin
        simp only [Bool.false_or] at fin
        exact ⟨_, rfl, l, rfl, by omega, ha, fin⟩
    | cons b rest =>
      refine if_ndec (by simp; omega) ?_
      -- if len(parts) > 2 or not is_word(parts[0])
      refine ⟨_, rfl, p, _, rfl, .inl (.inl (.inl hp)), _, _, rfl, rfl, _, rfl, ?_⟩
      cases rest with
      | cons c r =>
        refine if_dec (by simp; omega) (iteT ?_)
        have := fin H1 (Same.refl _)
        rw [cb_more hsp] at this
        exact this
      | nil =>
        refine if_ndec (by simp) ?_
        have ec := cb_two hsp
        rw [ec] at fin
        have hlb := hlens b (by simp)
        refine ⟨_, rfl, p, _, _, .str (S a), rfl, rfl, .inl (.inl hp), at_of (j := 0) rfl rfl, a, rfl, by omega, hasc a (by simp), fun H2 s2 => ?_⟩
        refine ⟨_, rfl, ?_⟩
        cases hwa : isW a with
        | false =>
          refine iteT ?_
          have := fin H2 s2
          rw [hwa] at this
          exact this
        | true =>
          refine iteF ?_
          rw [hwa] at fin
          simp only [Bool.true_and] at fin
          have hp2 := s2 _ _ hp
          -- if parts[1] == ""
          refine ⟨_, rfl, p, _, _, .str (S b), rfl, rfl, .inl (.inl hp2), at_of (j := 1) rfl rfl, rfl, _, rfl, ?_⟩
          first | rw [emp_S, dec_str] | rw [dec_str]
          by_cases hb : b = []
          · refine if_dec hb ?_
            have := fin H2 s2
            rw [decide_eq_true hb, Bool.true_or] at this
            exact this
          refine if_ndec hb ?_
          rw [decide_eq_false hb] at fin
          simp only [Bool.false_or] at fin
          -- pieces = parts[1].split("/")
          have hsp47 : (Txt.split (S b) (Str.ofString "/")).map V.str = wV (sp 47 b) := by
            rw [slash_S, split_sp b (by decide), ← wV_str]
          refine ⟨_, rfl, p, _, _, .str (S b), rfl, rfl, .inl (.inl hp2), at_of (j := 1) rfl rfl, ⟨_, rfl⟩, _, _, rfl, rfl, by rw [slash_S]; rfl, by rw [len_S]; exact size_ok (by omega), fun t nt => ?_⟩
          rw [hsp47]
          have s3 : Same H2 (upd H2 t (.lst (wV (sp 47 b)))) := same_new nt
          have ht : (upd H2 t (.lst (wV (sp 47 b)))) t = some (.lst (wV (sp 47 b))) := upd_same
          have s13 : Same H1 (upd H2 t (.lst (wV (sp 47 b)))) := fun u o e => s3 _ _ (s2 _ _ e)
          generalize upd H2 t (.lst (wV (sp 47 b))) = H3 at s3 ht s13
          refine st_go (σ' := [some (.str (S l)), some (.ref p), some (.ref t), none]) rfl ?_
          obtain ⟨kcnt, klens⟩ := sp_lens 47 b
          have hab : asc b := hasc b (by simp)
          have kasc : ∀ x ∈ sp 47 b, asc x := fun x hx c hc => hab c (sp_sub 47 b x hx c hc)
          obtain ⟨x, ys, hsp2⟩ := sp_cons 47 b
          have htail : tailOk b = (decide (x = []) && segs ys) := by
            unfold tailOk
            rw [hsp2]
          rw [htail] at fin
          rw [hsp2] at ht kcnt klens kasc
          -- if pieces[0] != "" or ..
          refine ⟨_, rfl, t, _, _, .str (S x), rfl, rfl, .inl (.inl ht), at_of (j := 0) rfl rfl, rfl, _, rfl, ?_⟩
          first | rw [emp_S, dec_str] | rw [dec_str]
          by_cases hx : x = []
          rotate_left
          · refine iteT' (by rw [decide_eq_false hx]; rfl) (iteT ?_)
            have := fin H3 s13
            rw [decide_eq_false hx, Bool.false_and] at this
            exact this
          refine iteF' (by rw [decide_eq_true hx]; rfl) ?_
          rw [decide_eq_true hx] at fin
          simp only [Bool.true_and] at fin
          have hys : ys ≠ [] := fun z => by
            rw [z] at hsp2
            exact hb ((sp_self hsp2).symm.trans hx)
          obtain ⟨m, z, rfl⟩ : ∃ m z, ys = m ++ [z] := ⟨ys.dropLast, ys.getLast hys, (List.dropLast_concat_getLast hys).symm⟩
          rw [segs_mid] at fin
          have hcut : cutV (wV (x :: (m ++ [z]))) (some 1) (some (-1)) = wV m := by
            rw [cut_mid]
            show (wV (m ++ [z])).dropLast = wV m
            show (List.map _ (_ ++ _)).dropLast = _
            rw [List.map_append]
            exact List.dropLast_concat
          have hml : m.length ≤ 901 := by
            rw [List.length_cons, List.length_append] at kcnt
            simp at kcnt
            omega
          refine ⟨_, rfl, 1, rfl, _, rfl, _, rfl, t, _, rfl, .inl (.inl ht), fun g ng => ?_⟩
          rw [show (-1 : Int) = -1 from rfl, hcut]
          have s4 : Same H3 (upd H3 g (.lst (wV m))) := same_new ng
          have hg : (upd H3 g (.lst (wV m))) g = some (.lst (wV m)) := upd_same
          generalize upd H3 g (.lst (wV m)) = H4 at s4 hg
          refine ⟨g, rfl, ⟨_, .inl (.inl hg)⟩, fun D hD => ?_⟩
          refine lc_list (K := K) (a := g) (xs := wV m) (fun i H' => Same H4 H' ∧ H' D = some (.lst (wV ((m.take i).filter fun y => !isW y)))) ⟨same_new hD, upd_same⟩ (fun i H' _ y => .inl (.inl (y.1 _ _ hg))) ?_ ?_
          · rintro i v H' hv ⟨s5, hDl⟩
            have hi : i < m.length := by
              have y := (List.getElem?_eq_some_iff.mp hv).1
              rw [List.length_map] at y
              exact y
            have ev : v = V.str (S m[i]) := by
              rw [List.getElem?_map, List.getElem?_eq_getElem hi] at hv
              exact (Option.some.inj hv).symm
            subst ev
            have hmem : m[i] ∈ x :: (m ++ [z]) := List.mem_cons_of_mem _ (List.mem_append_left _ (List.getElem_mem hi))
            have htk : m.take (i + 1) = m.take i ++ [m[i]] := List.take_succ_eq_append_getElem hi
            refine ⟨rfl, _, rfl, m[i], rfl, by have := klens _ hmem; omega, kasc _ hmem, fun H5 s6 => ⟨_, rfl, ?_⟩⟩
            have hDl5 := s6 _ _ hDl
            have s7 : Same H4 H5 := fun u o e => s6 _ _ (s5 _ _ e)
            cases hW : isW m[i] with
            | true =>
              refine iteF ⟨s7, ?_⟩
              rw [hDl5, htk, List.filter_append, List.filter_cons_of_neg (by rw [hW]; exact Bool.false_ne_true), List.filter_nil, List.append_nil]
            | false =>
              refine iteT ?_
              have hle : ((m.take i).filter fun y => !isW y).length ≤ 901 := Nat.le_trans (List.length_filter_le _ _) (by rw [List.length_take]; omega)
              refine ⟨_, rfl, _, hDl5, by rw [List.length_map]; exact size_lt (by omega), fun u o e => by rw [upd_ne (ne_of_none e hD)]; exact s7 _ _ e, ?_⟩
              rw [upd_same, htk, List.filter_append, List.filter_cons_of_pos (by rw [hW]; rfl), List.filter_nil]
              show _ = some (HO.lst (List.map _ (_ ++ _)))
              rw [List.map_append]
              rfl
          · rintro H' ⟨s5, hDl⟩
            have el : (wV m).length = m.length := by rw [List.length_map]
            rw [el, List.take_length] at hDl
            refine ⟨Nat.zero_le _, fun e ne => ?_⟩
            have s6 : Same H' (upd H' e (.lst [])) := same_new ne
            have s16 : Same H1 (upd H' e (.lst [])) := fun u o y => s6 _ _ (s5 _ _ (s4 _ _ (s13 _ _ y)))
            refine ⟨_, .list [], .lst (.inl (.inl (s6 _ _ hDl))) (dp_strs _), .lst (.inl (.inl upd_same)) .nil, sh_strs ?_, by decide +kernel, _, rfl, ?_⟩
            · intro y hy
              exact kasc y (List.mem_cons_of_mem _ (List.mem_append_left _ (List.mem_filter.mp hy).1))
            have ht6 := s6 _ _ (s5 _ _ (s4 _ _ ht))
            generalize upd H' e (.lst []) = H6 at s16 ht6
            rw [eqv_none]
            have hall : ((m.filter fun y => !isW y).map fun x => PyData.str (S x)).isEmpty = m.all isW := by
              cases hf : m.filter fun y => !isW y with
              | nil =>
                have : m.all isW = true := by
                  rw [List.all_eq_true]
                  intro c hc
                  cases hL : isW c with
                  | true => rfl
                  | false =>
                    have y : c ∈ m.filter fun y => !isW y := List.mem_filter.mpr ⟨hc, by rw [hL]; rfl⟩
                    rw [hf] at y
                    cases y
                rw [this]
                rfl
              | cons u v =>
                have hu : u ∈ m.filter fun y => !isW y := by rw [hf]; exact List.mem_cons_self ..
                have hu2 := List.mem_filter.mp hu
                have : m.all isW = false := by
                  rw [List.all_eq_false]
                  exact ⟨u, hu2.1, by simpa using hu2.2⟩
                rw [this]
                rfl
            rw [hall]
            cases hA : m.all isW with
            | false =>
              refine iteT ?_
              have := fin H6 s16
              rw [hA, Bool.false_and] at this
              exact this
            | true =>
              refine iteF ?_
              rw [hA] at fin
              simp only [Bool.true_and] at fin
              have hlast : atI (wV (x :: (m ++ [z]))) (-1) = some (V.str (S z)) := by
                have e1 : wV (x :: (m ++ [z])) = wV (x :: m) ++ [V.str (S z)] := by
                  show List.map _ ((x :: m) ++ [z]) = _
                  rw [List.map_append]
                  rfl
                rw [e1]
                exact atI_last _ _
              have hmem : z ∈ x :: (m ++ [z]) := by simp
              -- return pieces[-1] == "" or is_word(pieces[-1])
              refine ⟨_, rfl, _, rfl, t, _, _, .str (S z), rfl, rfl, .inl (.inl ht6), hlast, rfl, _, rfl, ?_⟩
              first | rw [emp_S, dec_str] | rw [dec_str]
              by_cases hz : z = []
              · refine if_dec hz ?_
                have := fin H6 s16
                rw [decide_eq_true hz, Bool.true_or] at this
                exact this
              · refine if_ndec hz ?_
                rw [decide_eq_false hz] at fin
                simp only [Bool.false_or] at fin
                exact ⟨_, rfl, _, rfl, t, _, _, .str (S z), rfl, rfl, .inl (.inl ht6), hlast, z, rfl, by have := klens _ hmem; omega, kasc _ hmem, fun H7 s7 => fin H7 fun u o y => s7 _ _ (s16 _ _ y)⟩
end
end K3

namespace K3
open PySem L2 SX AddrMath
/-- what is told of a text, as a tuple at r -/
def ResAt (H : Hp) (r : Addr) : Told → Prop
  | .bad n => H r = some (.tup [.str (Str.ofString "text"), .int (n : Int), .bl true])
  | .good s p => ∃ t, H r = some (.tup [.str (Str.ofString "read"), .str (S s), .ref t]) ∧ H t = some (.tup (wV p))
theorem due_lt {l : List Nat} (h : lA 0 l < l.length) : due l = .bad (lA 0 l) := by
  unfold due
  rw [if_pos h]
theorem due_one {l a : List Nat} (h : ¬ lA 0 l < l.length) (e : sp 58 l = [a]) : due l = .bad (lA 0 l) := by
  unfold due
  rw [if_neg h, e]
theorem due_more {l a b c : List Nat} {r : List (List Nat)} (h : ¬ lA 0 l < l.length) (e : sp 58 l = a :: b :: c :: r) : due l = .bad (lA 0 l) := by
  unfold due
  rw [if_neg h, e]
theorem due_last {l a b : List Nat} (h : ¬ lA 0 l < l.length) (e : sp 58 l = [a, b]) (z : lastIs b 47) : due l = .bad (lA 0 l) := by
  unfold due
  rw [if_neg h, e]
  exact if_pos z
theorem due_good {l a b : List Nat} (h : ¬ lA 0 l < l.length) (e : sp 58 l = [a, b]) (z : ¬ lastIs b 47) : due l = .good a (sp 47 b).tail := by
  unfold due
  rw [if_neg h, e]
  exact if_neg z
abbrev fit (l : List Nat) (n : Nat) : List Nat := (List.range n).filter fun k => decide (k ≤ lA 0 l)
theorem fit_len (l : List Nat) (n : Nat) : (fit l n).length ≤ n := Nat.le_trans (List.length_filter_le _ _) (by rw [List.length_range]; exact Nat.le_refl _)
theorem fit_max {l : List Nat} {m : Int} (hm : m ∈ (fit l (l.length + 1)).map fun k : Nat => (k : Int)) (hle : ∀ x ∈ (fit l (l.length + 1)).map fun k : Nat => (k : Int), x ≤ m) : m = (lA 0 l : Int) := by
  obtain ⟨k, hk, rfl⟩ := List.mem_map.mp hm
  have h1 := of_decide_eq_true (List.mem_filter.mp hk).2
  have h2 := hle _ (List.mem_map.mpr ⟨lA 0 l, List.mem_filter.mpr ⟨List.mem_range.mpr (Nat.lt_succ_of_le (lA_le l 0)), decide_eq_true (Nat.le_refl _)⟩, rfl⟩)
  omega
theorem fit_pos (l : List Nat) : 0 < (fit l (l.length + 1)).length := List.length_pos_iff.mpr fun z => by
  have h : lA 0 l ∈ fit l (l.length + 1) := List.mem_filter.mpr ⟨List.mem_range.mpr (Nat.lt_succ_of_le (lA_le l 0)), decide_eq_true (Nat.le_refl _)⟩
  rw [z] at h
  cases h
theorem wV_drop (ws : List (List Nat)) (n : Nat) : (wV ws).drop n = wV (ws.drop n) := List.map_drop.symm
section
variable {P : Program} {w : World} {K : PySem.W.Frag} {mg : Str → Option Value} {base : Heap}
/-! ### _law_due: slots text 0, most 1, parts 2, k 3 -/
def spDue (K : PySem.W.Frag) : Sp := fun vs H Q _ => ∃ x : V, vs = [x] ∧
  ((NoStr K H x ∧ ∀ r H', Same H H' → ResAt H' r (.bad 0) → H r = none → Q (.ref r) H') ∨
   (∃ l : List Nat, x = .str (S l) ∧ l.length ≤ 800 ∧ asc l ∧ ∀ r H', Same H H' → ResAt H' r (due l) → H r = none → Q (.ref r) H'))
theorem scDue : FnScope ["_law_text", "_law_most", "_law_parts", "_law_k"] ["_law_text"] (defScope sDue) := ⟨rfl, rfl, rfl, by decide +kernel, rfl, by decide +kernel, by decide +kernel⟩
theorem ok_due {f fC : Addr} {fd fdC : FuncData} (F : Fun K "_law_due" "_law_due" sDue f fd) (GC : FnOk P w K mg base CX0 2 fC fdC ["_law_text"] spCan) (cC : Cd K mg "_law_can_begin" fC) (bC : Binds K fdC ["_law_text"] [])
    (ms : mg "isinstance" = none) (mS : mg "str" = none) (mm : mg "max" = none) (mr : mg "range" = none) (ml : mg "len" = none) (mt : mg "tuple" = none) (mi : mg "int" = none) : FnOk P w K mg base CX0 3 f fd ["_law_text"] (spDue K) := by
  refine F.ok scDue (fun vs H Q E h => ?_) (fun cdv A outer s0 H vs Q E hr h => ?_)
  · obtain ⟨x, rfl, _⟩ := h
    rfl
  · obtain ⟨x, rfl, h⟩ := h
    have hr2 : Room 2 _ := hr
    refine ⟨_, pss_cons (ps_if (pt_not (pt_val (pe_callB call_isi (by rfl) ms (by decide +kernel) (pa_cons (pv 0) (pa_cons (pe_bltn (v := .ty "str") (by rfl) mS (by decide +kernel) rfl) pa_nil)))))
        (pss_one (ps_ret (pe_tup (pa_cons pe_str (pa_cons pe_int (pa_cons pe_bl pa_nil)))))) pss_nil)
      (pss_cons (ps_set (i := 1) scDue.nd rfl (Or.inl rfl) (pe_callB (cr_max rfl) (by rfl) mm (by decide +kernel) (pa_cons (pe_lc (own := [("_law_k", 3)]) (g := gName 3) rfl scDue.nd
          (pi_range1 (by rfl) mr (pa_cons (pe_op op_add (pe_callB call_len_str (by rfl) ml (by decide +kernel) (pa_cons (pv 0) pa_nil)) pe_int) pa_nil))
          (blkOk_by (own := [("_law_k", 3)]) (N := ["_law_text", "_law_most", "_law_parts", "_law_k"]) (sc := defScope sDue) (by decide +kernel))
          (fun _ _ _ _ _ => pg_name (i := 3) scDue.nd rfl (Or.inl rfl))
          (fun _ _ _ _ _ => pts_one (pt_val (pe_call GC hr2 (by rfl) cC.mg cC.kp bC .nil pass0 (pa_cons (pe_slice sl_str (pv 0) po_none (po_some (pv 3))) pa_nil))))
          (fun _ _ _ _ _ => pe_callTy call_int1 (by rfl) mi (by decide +kernel) (pa_cons (pv 3) pa_nil))) pa_nil)))
      (pss_cons (ps_set (i := 2) scDue.nd rfl (Or.inl rfl) (pe_split (pv 0) pe_str))
      (pss_cons (ps_if (PW.pt (pw_or (pt_cmpR op_lt (pv 1) (pe_callB call_len_str (by rfl) ml (by decide +kernel) (pa_cons (pv 0) pa_nil)) (nomark _))
          (pw_or (pt_cmpR op_ne (pe_callB call_len_seq (by rfl) ml PySem.boot_len (pa_cons (pv 2) pa_nil)) pe_int (nomark _))
            (pw_or1 (PW.pt (pw_and (pt_cmpR op_ne (pe_ix ix_list (pv 2) pe_int (fun _ _ => rfl)) pe_str (nomark _))
              (pw_and1 (pt_cmpR op_eq (pe_ix ix_str (pe_ix ix_list (pv 2) pe_int (fun _ _ => rfl)) (pe_un un_neg pe_int) (fun _ _ => rfl)) pe_str (nomark _)))))))))
        (pss_one (ps_ret (pe_tup (pa_cons pe_str (pa_cons (pv 1) (pa_cons pe_bl pa_nil)))))) pss_nil)
      (pss_one (ps_ret (pe_tup (pa_cons pe_str (pa_cons (pe_ix ix_list (pv 2) pe_int (fun _ _ => rfl)) (pa_cons (pe_callTy call_tuple_of (by rfl) mt (by decide +kernel)
        (pa_cons (pe_slice sl_list (pe_split (pe_ix ix_list (pv 2) pe_int (fun _ _ => rfl)) pe_str) (po_some pe_int) po_none) pa_nil)) pa_nil)))))))))  , ?_⟩
    rcases h with ⟨⟨t, ty, kt⟩, q⟩ | ⟨l, rfl, hl, ha, q⟩
    · refine ⟨_, rfl, _, _, t, _, false, rfl, .ty "str", ty, kt, _, rfl, iteT ⟨by show 3 ≤ sizeLine; decide, fun r nr => ?_⟩⟩
      exact q r _ (same_new nr) upd_same nr
    · refine ⟨_, rfl, _, _, _, _, true, rfl, .ty "str", .base (.str _), kit_ty (by decide +kernel), _, rfl, iteF ?_⟩
      -- most
      refine ⟨_, rfl, _, rfl, size_ok (by rw [len_S]; omega), _, _, rfl, rfl, ((l.length + 1 : Nat) : Int), by rw [len_S]; rfl, by omega, by omega, fun D hD => ?_⟩
      refine lc_range (lo := 0) (n := l.length + 1) (fun i H' => Same H H' ∧ H' D = some (.lst (((fit l i).map fun k : Nat => (k : Int)).map V.int))) ⟨same_new hD, upd_same⟩ ?_ ?_
      · rintro i H' hi ⟨s1, hDl⟩
        have hfit : fit l (i + 1) = fit l i ++ (if i ≤ lA 0 l then [i] else []) := by
          show (List.range (i + 1)).filter _ = _
          rw [List.range_succ, List.filter_append]
          by_cases h : i ≤ lA 0 l
          · rw [if_pos h, show [i].filter (fun k => decide (k ≤ lA 0 l)) = [i] by simp [h]]
          · rw [if_neg h, show [i].filter (fun k => decide (k ≤ lA 0 l)) = [] by simp [h]]
        have hpre : asc (l.take i) := fun c hc => ha c (List.mem_of_mem_take hc)
        refine ⟨rfl, _, rfl, _, rfl, (i : Int), congrArg V.int (Int.zero_add _), S l, rfl, size_ok (by rw [len_S]; omega), l.take i, congrArg (fun z => [V.str z]) (cutS_to l i), by rw [List.length_take]; omega, hpre, fun H2 s2 => ⟨_, rfl, ?_⟩⟩
        have hDl2 := s2 _ _ hDl
        have s12 : Same H H2 := fun b o z => s2 _ _ (s1 _ _ z)
        rw [cb_take l i (by omega)]
        by_cases h : i ≤ lA 0 l
        · refine if_dec h ?_
          rw [if_pos h] at hfit
          refine ⟨_, rfl, .inl ⟨(i : Int), congrArg (fun z => [V.int z]) (Int.zero_add _), _, hDl2, by rw [List.length_map, List.length_map]; exact size_lt (by have := fit_len l i; omega), fun b o z => by rw [upd_ne (ne_of_none z hD)]; exact s12 _ _ z, ?_⟩⟩
          rw [upd_same, hfit, List.map_append, List.map_append]
          rfl
        · refine if_ndec h ⟨s12, ?_⟩
          rw [if_neg h, List.append_nil] at hfit
          rw [hDl2, hfit]
      · rintro H' ⟨s1, hDl⟩
        refine ⟨D, _, rfl, .inl (.inl hDl), by rw [List.length_map]; exact fit_pos l, fun m hm hle => ?_⟩
        obtain rfl := fit_max hm hle
        refine st_go (σ' := [some (.str (S l)), some (.int (lA 0 l : Int)), none, none]) rfl ?_
        -- parts
        have hsp58 : (Txt.split (S l) (Str.ofString ":")).map V.str = wV (sp 58 l) := by
          rw [colon_S, split_sp l (by decide), ← wV_str]
        refine ⟨_, rfl, ⟨_, rfl⟩, _, _, rfl, rfl, by rw [colon_S]; rfl, by rw [len_S]; exact size_ok (by omega), fun p np => ?_⟩
        rw [hsp58]
        have s2 : Same H (upd H' p (.lst (wV (sp 58 l)))) := fun b o z => same_new np _ _ (s1 _ _ z)
        have hp : (upd H' p (.lst (wV (sp 58 l)))) p = some (.lst (wV (sp 58 l))) := upd_same
        generalize upd H' p (.lst (wV (sp 58 l))) = H1 at s2 hp
        refine st_go (σ' := [some (.str (S l)), some (.int (lA 0 l : Int)), some (.ref p), none]) rfl ?_
        -- the answer where something is wrong
        have bad : due l = .bad (lA 0 l) → ∀ {Hx : Hp}, Same H Hx → ∀ r, Hx r = none → Q (.ref r) (upd Hx r (.tup [.str (Str.ofString "text"), .int (lA 0 l : Int), .bl true])) := fun e Hx sx r nr =>
          q r _ (fun b o z => same_new nr _ _ (sx _ _ z)) (by rw [e]; exact upd_same) (sx.free nr)
        have hlA := lA_le l 0
        refine ⟨_, rfl, _, rfl, _, rfl, size_ok (by rw [len_S]; omega), _, _, rfl, rfl, _, rfl, ?_⟩
        by_cases hlt : lA 0 l < l.length
        · refine if_dec (by rw [len_S]; omega) (iteT ⟨_, rfl, by show 3 ≤ sizeLine; decide, fun r nr => bad (due_lt hlt) s2 r nr⟩)
        refine if_ndec (by rw [len_S]; omega) ?_
        obtain ⟨hcnt, hlens⟩ := sp_lens 58 l
        have hasc : ∀ x ∈ sp 58 l, asc x := fun x hx c hc => ha c (sp_sub 58 l x hx c hc)
        obtain ⟨a, rest, hsp⟩ := sp_cons 58 l
        rw [hsp] at hp hcnt hlens hasc
        refine ⟨_, rfl, p, _, rfl, .inl (.inl (.inl hp)), rfl, _, rfl, ?_⟩
        rw [dec_int]
        match rest, hp, hcnt, hlens, hasc, hsp with
        | [], hp, hcnt, hlens, hasc, hsp =>
          refine iteT' (by rfl) (iteT ⟨_, rfl, by show 3 ≤ sizeLine; decide, fun r nr => bad (due_one hlt hsp) s2 r nr⟩)
        | b :: c :: rr, hp, hcnt, hlens, hasc, hsp =>
          refine iteT' (by rw [decide_eq_false (by simp; omega)]; rfl) (iteT ⟨_, rfl, by show 3 ≤ sizeLine; decide, fun r nr => bad (due_more hlt hsp) s2 r nr⟩)
        | [b], hp, hcnt, hlens, hasc, hsp =>
          refine iteF' (by rfl) ?_
          have hlb := hlens b (by simp)
          refine ⟨_, rfl, p, _, _, .str (S b), rfl, rfl, .inl (.inl hp), at_of (j := 1) rfl rfl, rfl, _, rfl, ?_⟩
          first | rw [emp_S, dec_str] | rw [dec_str]
          by_cases hb : b = []
          · have hL : ¬ lastIs b 47 := by rw [hb]; exact fun z => nomatch z
            refine iteF' (by rw [decide_eq_true hb]; rfl) (iteF ?_)
            have hsp47 : (Txt.split (S b) (Str.ofString "/")).map V.str = wV (sp 47 b) := by
              rw [slash_S, split_sp b (by decide), ← wV_str]
            refine ⟨_, rfl, p, _, _, .str (S a), rfl, rfl, .inl (.inl hp), at_of (j := 0) rfl rfl, _, rfl, p, _, _, .str (S b), rfl, rfl, .inl (.inl hp), at_of (j := 1) rfl rfl, ⟨_, rfl⟩, _, _, rfl, rfl, by rw [slash_S]; rfl, by rw [len_S]; exact size_ok (by omega), fun t nt => ?_⟩
            rw [hsp47]
            have s3 : Same H (upd H1 t (.lst (wV (sp 47 b)))) := fun u o z => same_new nt _ _ (s2 _ _ z)
            have ht : (upd H1 t (.lst (wV (sp 47 b)))) t = some (.lst (wV (sp 47 b))) := upd_same
            generalize upd H1 t (.lst (wV (sp 47 b))) = H2 at s3 ht
            refine ⟨1, rfl, t, _, rfl, .inl (.inl ht), fun g ng => ?_⟩
            rw [show (1 : Int) = ((1 : Nat) : Int) from rfl, cut_from, wV_drop]
            have s4 : Same H (upd H2 g (.lst (wV ((sp 47 b).drop 1)))) := fun u o z => same_new ng _ _ (s3 _ _ z)
            have hg : (upd H2 g (.lst (wV ((sp 47 b).drop 1)))) g = some (.lst (wV ((sp 47 b).drop 1))) := upd_same
            generalize upd H2 g (.lst (wV ((sp 47 b).drop 1))) = H3 at s4 hg
            refine ⟨g, _, rfl, .inl ⟨.inl (.inl hg), fun u nu => ?_⟩⟩
            refine ⟨by show 3 ≤ sizeLine; decide, fun r nr => ?_⟩
            obtain ⟨nru, nr3⟩ := upd_none nr
            refine q r _ (fun v o z => same_new nr _ _ (same_new nu _ _ (s4 _ _ z))) ?_ (s4.free nr3)
            rw [due_good hlt hsp hL, List.drop_one]
            exact ⟨u, upd_same, by rw [upd_ne nru.symm, upd_same]⟩
          refine iteT' (by rw [decide_eq_false hb]; rfl) ?_
          obtain ⟨m, z, hmz⟩ : ∃ m z, b = m ++ [z] := ⟨b.dropLast, b.getLast hb, (List.dropLast_concat_getLast hb).symm⟩
          have hla : atI (S b).cps.toList (-1) = some z := by
            rw [hmz]
            exact atI_last _ _
          have hlast : lastIs b 47 ↔ z = 47 := by
            unfold lastIs
            rw [hmz, List.getLast?_concat]
            constructor
            · intro y
              exact Option.some.inj y
            · intro y
              rw [y]
          refine ⟨_, rfl, p, _, _, .str (S b), rfl, rfl, .inl (.inl hp), at_of (j := 1) rfl rfl, _, rfl, _, _, z, rfl, rfl, size_ok (by rw [len_S]; omega), hla, rfl, _, rfl, ?_⟩
          have ez : decide (V.str (⟨#[z]⟩ : Str) = V.str (Str.ofString "/")) = decide (lastIs b 47) := by
            rw [slash_S, show (⟨#[z]⟩ : Str) = S [z] from rfl, dec_str]
            by_cases y : z = 47
            · rw [decide_eq_true (by rw [y]), decide_eq_true (hlast.mpr y)]
            · rw [decide_eq_false (fun x => y (by injection x)), decide_eq_false (fun x => y (hlast.mp x))]
          rw [ez]
          by_cases hL : lastIs b 47
          · exact if_dec hL ⟨_, rfl, by show 3 ≤ sizeLine; decide, fun r nr => bad (due_last hlt hsp hL) s2 r nr⟩
          · refine if_ndec hL ?_
            have hsp47 : (Txt.split (S b) (Str.ofString "/")).map V.str = wV (sp 47 b) := by
              rw [slash_S, split_sp b (by decide), ← wV_str]
            refine ⟨_, rfl, p, _, _, .str (S a), rfl, rfl, .inl (.inl hp), at_of (j := 0) rfl rfl, _, rfl, p, _, _, .str (S b), rfl, rfl, .inl (.inl hp), at_of (j := 1) rfl rfl, ⟨_, rfl⟩, _, _, rfl, rfl, by rw [slash_S]; rfl, by rw [len_S]; exact size_ok (by omega), fun t nt => ?_⟩
            rw [hsp47]
            have s3 : Same H (upd H1 t (.lst (wV (sp 47 b)))) := fun u o z => same_new nt _ _ (s2 _ _ z)
            have ht : (upd H1 t (.lst (wV (sp 47 b)))) t = some (.lst (wV (sp 47 b))) := upd_same
            generalize upd H1 t (.lst (wV (sp 47 b))) = H2 at s3 ht
            refine ⟨1, rfl, t, _, rfl, .inl (.inl ht), fun g ng => ?_⟩
            rw [show (1 : Int) = ((1 : Nat) : Int) from rfl, cut_from, wV_drop]
            have s4 : Same H (upd H2 g (.lst (wV ((sp 47 b).drop 1)))) := fun u o z => same_new ng _ _ (s3 _ _ z)
            have hg : (upd H2 g (.lst (wV ((sp 47 b).drop 1)))) g = some (.lst (wV ((sp 47 b).drop 1))) := upd_same
            generalize upd H2 g (.lst (wV ((sp 47 b).drop 1))) = H3 at s4 hg
            refine ⟨g, _, rfl, .inl ⟨.inl (.inl hg), fun u nu => ?_⟩⟩
            refine ⟨by show 3 ≤ sizeLine; decide, fun r nr => ?_⟩
            obtain ⟨nru, nr3⟩ := upd_none nr
            refine q r _ (fun v o z => same_new nr _ _ (same_new nu _ _ (s4 _ _ z))) ?_ (s4.free nr3)
            rw [due_good hlt hsp hL, List.drop_one]
            exact ⟨u, upd_same, by rw [upd_ne nru.symm, upd_same]⟩
end
end K3

namespace K3
open PySem L2 SX AddrMath
section
variable {P : Program} {w : World} {K : PySem.W.Frag} {mg : Str → Option Value} {base : Heap}
/-! ### _law_told: slots text 0, one 1, e 2 -/
def spTold (K : PySem.W.Frag) : Sp := fun vs H Q _ => ∃ x : V, vs = [x] ∧
  ((NoStr K H x ∧ ∀ r H', Same H H' → ResAt H' r (.bad 0) → H r = none → Q (.ref r) H') ∨
   (∃ l : List Nat, x = .str (S l) ∧ l.length ≤ 1000 ∧ ∀ r H', Same H H' → ResAt H' r (rd l) → H r = none → Q (.ref r) H'))
theorem scTold : FnScope ["_law_text", "_law_one", "e"] ["_law_text"] (defScope sTold) := ⟨rfl, rfl, rfl, by decide +kernel, rfl, by decide +kernel, by decide +kernel⟩
theorem ok_told {f fR fS fP fE C CT pR pS pP : Addr} {mc : Value} {fd fdR fdS fdP : FuncData} (F : Fun K "_law_told" "_law_told" sTold f fd) (T : ATxt K mg C) (TE : ErrC K mg CT fE)
    (rdc : ClX.CRead K C mc) (cm : ClX.CMet K C mc "read" pR fR) (GR : FnOk P w K mg base (L2.CX P w) 5 fR fdR ["cls", "text"] (spRead K C CT)) (bR : Binds K fdR ["cls", "text"] [])
    (hS : PropOf K C "state" pS fS) (GS : FnOk P w K mg base CX0 1 fS fdS ["self"] (spState C)) (bS : Binds K fdS ["self"] []) (hP : PropOf K C "path" pP fP) (GP : FnOk P w K mg base CX0 1 fP fdP ["self"] (spPath C)) (bP : Binds K fdP ["self"] [])
    (xf : XfC K CT) (xc : ExcC K CT) (kv : PySem.W.kitOne K (.ref CT) (.type "ValueError") = some true) (te : PySem.W.exmOne K (.ref CT) (.ref CT) = some true)
    (ms : mg "isinstance" = none) (mv : mg "ValueError" = none) : FnOk P w K mg base CX0 6 f fd ["_law_text"] (spTold K) := by
  refine F.ok scTold (fun vs H Q E h => ?_) (fun cdv A outer s0 H vs Q E hr h => ?_)
  · obtain ⟨x, rfl, h⟩ := h
    rfl
  · obtain ⟨x, rfl, h⟩ := h
    have hr2 : Room 2 _ := hr.mono (by decide)
    refine ⟨_, pss_one (ps_try_as (i := 2) (Wout := fun _ _ _ _ => False) rfl rfl scTold.nd rfl rfl ⟨rfl, by decide, Or.inl TE.mgC⟩ takes0
      (fun W pn xe tk _ => pss_cons (ps_set (i := 1) scTold.nd rfl (Or.inl rfl) (pe_cmethS (pe_glob (v := .ref C) rfl T.mgC rfl) rdc cm GR hr bR (fun σ => passAt tk σ) (pa_cons (pv 0) pa_nil)))
        (pss_one (ps_ret (pe_tup (pa_cons pe_str (pa_cons (pe_prop (pv 1) T.cl hS GS hr2 bS .nil pass0 (by rfl)) (pa_cons (pe_prop (pv 1) T.cl hP GP hr2 bP .nil pass0 (by rfl)) pa_nil)))))))
      (fun a oe cls d pn hz hf => pss_one (ps_ret (pe_tup (pa_cons pe_str (pa_cons (pe_xf xf TE.no hz hf (pv 2)) (pa_cons (pe_callB (call_isX xc hz hf) (by rfl) ms (by decide +kernel) (pa_cons (pv 2) (pa_cons (pe_bltn (v := .ty "ValueError") (by rfl) mv (by decide +kernel) rfl) pa_nil))) pa_nil))))))), ?_⟩
    have ixl : ∀ v : V, (ixF v).lookup ("index" : Str) = some v := fun v => by
      rw [lookup_put, if_pos rfl]
    rcases h with ⟨hno, q⟩ | ⟨l, rfl, hl, q⟩
    · refine ⟨rfl, _, rfl, x, rfl, .inl ⟨hno, fun d nd => ⟨true, te, fun _ a na => ?_, fun z => Bool.noConfusion z⟩⟩⟩
      refine ⟨_, rfl, rfl, rfl, d, _, _, rfl, upd_same, ixl _, _, rfl, _, _, true, d, _, rfl, rfl, fun u r => r, rfl, upd_same, kv, by show 3 ≤ sizeLine; decide, fun r nr => ?_⟩
      obtain ⟨_, nr1⟩ := upd_none nr
      exact q r _ (fun b o z => same_new nr _ _ (same_new nd _ _ z)) upd_same nr1
    · refine ⟨rfl, _, rfl, _, rfl, .inr ⟨l, rfl, hl, fun n hn d H1 s1 h1 nd => ⟨true, te, fun _ a na => ?_, fun z => Bool.noConfusion z⟩, fun s p hg a t H1 s1 A1 na => ?_⟩⟩
      · refine ⟨_, rfl, rfl, rfl, d, _, _, rfl, h1, ixl _, _, rfl, _, _, true, d, _, rfl, rfl, fun u r => r, rfl, h1, kv, by show 3 ≤ sizeLine; decide, fun r nr => ?_⟩
        refine q r _ (fun b o z => same_new nr _ _ (s1 _ _ z)) ?_ (s1.free nr)
        rw [hn]
        exact upd_same
      · obtain ⟨dx, k, g1, g2⟩ := A1
        refine ⟨_, rfl, a, dx, _, rfl, g1, a, t, s, p, rfl, ⟨dx, k, g1, g2⟩, _, rfl, a, dx, _, rfl, g1, a, t, s, p, rfl, ⟨dx, k, g1, g2⟩, by show 3 ≤ sizeLine; decide, fun r nr => ?_⟩
        refine q r _ (fun b o z => same_new nr _ _ (s1 _ _ z)) ?_ (s1.free nr)
        rw [hg]
        exact ⟨t, upd_same, same_new nr _ _ g2⟩
end
end K3

namespace K3
open PySem L2 SX AddrMath
instance (l : List Nat) : Decidable (asc l) := inferInstanceAs (Decidable (∀ c ∈ l, c < 128))
theorem asc_app {a b : List Nat} (ha : asc a) (hb : asc b) : asc (a ++ b) := fun c hc => (List.mem_append.mp hc).elim (ha c) (hb c)
theorem asc_take {a : List Nat} (ha : asc a) (n : Nat) : asc (a.take n) := fun c hc => ha c (List.mem_of_mem_take hc)
theorem asc_drop {a : List Nat} (ha : asc a) (n : Nat) : asc (a.drop n) := fun c hc => ha c (List.mem_of_mem_drop hc)
section
variable {P : Program} {w : World} {K : PySem.W.Frag} {mg : Str → Option Value} {base : Heap}
/-! ### _law_bent: slots pen 0, text 1, at 2, sign 3, way 4 -/
def spBent : Sp := fun vs H Q _ => ∃ (d c : Addr) (n : Nat) (l : List Nat), vs = [.ref d, .str (S l)] ∧ PenAt H d c n ∧ n ≤ 900000 ∧ l.length ≤ 500 ∧ asc l ∧
  ∀ (l' : List Nat) (H' : Hp), l'.length ≤ l.length + 8 → asc l' → PenAt H' d c (n + 3) → But d H H' → Q (.str (S l')) H'
theorem scBent : FnScope ["_law_pen_here", "_law_text", "_law_at", "_law_sign", "_law_way"] ["_law_pen_here", "_law_text"] (defScope sBent) := ⟨rfl, rfl, rfl, by decide +kernel, rfl, by decide +kernel, by decide +kernel⟩
theorem ok_bent {f fD fP : Addr} {fd fdD fdP : FuncData} (F : Fun K "_law_bent" "_law_bent" sBent f fd) (GD : FnOk P w K mg base CX0 1 fD fdD ["_law_pen_here", "_law_many"] spDraw) (cD : Cd K mg "_law_draw" fD) (bD : Binds K fdD ["_law_pen_here", "_law_many"] [])
    (GP : FnOk P w K mg base CX0 2 fP fdP ["_law_pen_here", "_law_items"] spPick) (cP : Cd K mg "_law_pick" fP) (bP : Binds K fdP ["_law_pen_here", "_law_items"] []) (ml : mg "len" = none) : FnOk P w K mg base CX0 3 f fd ["_law_pen_here", "_law_text"] spBent := by
  refine F.ok scBent (fun vs H Q E h => ?_) (fun cdv A outer s0 H vs Q E hr h => ?_)
  · obtain ⟨d, c, n, l, rfl, _⟩ := h
    rfl
  · obtain ⟨d, c, n, l, rfl, p, hn, hl, ha, q⟩ := h
    have hr1 : Room 1 _ := hr.mono (by decide)
    refine ⟨_, pss_cons (ps_set (i := 2) scBent.nd rfl (Or.inl rfl) (pe_call GD hr1 (by rfl) cD.mg cD.kp bD .nil pass0 (pa_cons (pv 0) (pa_cons (pe_op op_add (pe_callB call_len_str (by rfl) ml (by decide +kernel) (pa_cons (pv 1) pa_nil)) pe_int) pa_nil))))
      (pss_cons (ps_set (i := 3) scBent.nd rfl (Or.inl rfl) (pe_call GP hr (by rfl) cP.mg cP.kp bP .nil pass0 (pa_cons (pv 0) (pa_cons (pe_lst (pa_cons pe_str (pa_cons pe_str (pa_cons pe_str (pa_cons pe_str (pa_cons pe_str (pa_cons pe_str (pa_cons pe_str (pa_cons pe_str (pa_cons pe_str (pa_cons pe_str pa_nil))))))))))) pa_nil))))
      (pss_cons (ps_set (i := 4) scBent.nd rfl (Or.inl rfl) (pe_call GD hr1 (by rfl) cD.mg cD.kp bD .nil pass0 (pa_cons (pv 0) (pa_cons pe_int pa_nil))))
      (pss_cons (ps_if (pt_cmpR op_eq (pv 4) pe_int (nomark _)) (pss_one (ps_ret (pe_op op_add_str (pe_op op_add_str (pe_slice sl_str (pv 1) po_none (po_some (pv 2))) (pv 3)) (pe_slice sl_str (pv 1) (po_some (pv 2)) po_none)))) pss_nil)
      (pss_cons (ps_if (pt_cmpR op_eq (pv 4) pe_int (nomark _)) (pss_one (ps_ret (pe_op op_add_str (pe_slice sl_str (pv 1) po_none (po_some (pv 2))) (pe_slice sl_str (pv 1) (po_some (pe_op op_add (pv 2) pe_int)) po_none)))) pss_nil)
      (pss_one (ps_ret (pe_ifExp (pt_cmpR op_eq (pv 4) pe_int (nomark _)) (pe_op op_add_str (pe_op op_add_str (pe_slice sl_str (pv 1) po_none (po_some (pv 2))) (pv 3)) (pe_slice sl_str (pv 1) (po_some (pe_op op_add (pv 2) pe_int)) po_none))
        (pe_slice sl_str (pv 1) po_none (po_some (pv 2)))))))))), ?_⟩
    refine ⟨_, rfl, _, rfl, _, rfl, size_ok (by rw [len_S]; omega), _, _, rfl, rfl, d, c, n, _, rfl, p, by omega, by rw [len_S]; omega, by rw [len_S]; omega, fun j H1 hj0 hj1 p1 b1 => ?_⟩
    rw [len_S] at hj1
    obtain ⟨at_, rfl⟩ : ∃ k : Nat, j = (k : Int) := ⟨j.toNat, by omega⟩
    refine ⟨_, rfl, by show 10 ≤ sizeLine; decide, fun g ng => ?_⟩
    refine ⟨d, c, _, _, rfl, p1.keep (same_new ng), by omega, .inl ⟨g, _, rfl, upd_same, by show 0 < 10; decide, by show 10 < 1000000; decide, fun tv H2 htv p2 b2 => ?_⟩⟩
    obtain ⟨t, rfl, htl, hta⟩ : ∃ t : List Nat, tv = .str (S t) ∧ t.length ≤ 8 ∧ asc t := by
      simp only [List.mem_cons, List.not_mem_nil, or_false] at htv
      rcases htv with rfl | rfl | rfl | rfl | rfl | rfl | rfl | rfl | rfl | rfl
      · exact ⟨[47], congrArg V.str (by decide +kernel), by decide, by decide⟩
      · exact ⟨[58], congrArg V.str (by decide +kernel), by decide, by decide⟩
      · exact ⟨[97], congrArg V.str (by decide +kernel), by decide, by decide⟩
      · exact ⟨[65], congrArg V.str (by decide +kernel), by decide, by decide⟩
      · exact ⟨[32], congrArg V.str (by decide +kernel), by decide, by decide⟩
      · exact ⟨[10], congrArg V.str (by decide +kernel), by decide, by decide⟩
      · exact ⟨[122, 122, 122, 122, 122, 122, 122, 122], congrArg V.str (by decide +kernel), by decide, by decide⟩
      · exact ⟨[47, 47], congrArg V.str (by decide +kernel), by decide, by decide⟩
      · exact ⟨[49], congrArg V.str (by decide +kernel), by decide, by decide⟩
      · exact ⟨[], congrArg V.str (by decide +kernel), by decide, by decide⟩
    refine ⟨_, rfl, d, c, _, 4, rfl, p2, by omega, by decide, by decide, fun way H3 hw0 hw1 p3 b3 => ?_⟩
    have hb : But d H H3 := ((b1.trans (but_of (same_new ng))).trans b2).trans b3
    have p4 : PenAt H3 d c (n + 3) := p3
    refine st_go (σ' := [some (.ref d), some (.str (S l)), some (.int (at_ : Int)), some (.str (S t)), some (.int way)]) rfl ?_
    have fin : ∀ l' : List Nat, l'.length ≤ l.length + 8 → asc l' → Q (.str (S l')) H3 := fun l' h1 h2 => q l' H3 h1 h2 p4 hb
    have lt1 : (l.take at_).length = at_ := by rw [List.length_take]; omega
    have ld1 : (l.drop at_).length = l.length - at_ := List.length_drop
    have ld2 : (l.drop (at_ + 1)).length = l.length - (at_ + 1) := List.length_drop
    have c1 : cutS (S l) none (some (at_ : Int)) = S (l.take at_) := cutS_to l at_
    have c2 : cutS (S l) (some (at_ : Int)) none = S (l.drop at_) := cutS_from l at_
    have c3 : cutS (S l) (some ((at_ : Int) + 1)) none = S (l.drop (at_ + 1)) := cutS_from l (at_ + 1)
    have zl : (S l).length ≤ sizeLine := size_ok (by rw [len_S]; omega)
    refine ⟨_, rfl, rfl, _, rfl, ?_⟩
    by_cases h0 : way = 0
    · refine iteT' (by rw [h0]; exact decide_eq_true rfl) ?_
      refine ⟨_, rfl, _, rfl, (at_ : Int), rfl, _, rfl, zl, _, rfl, _, _, rfl, rfl, by rw [c1, len_S, len_S]; exact size_ok (by omega), _, rfl, _, rfl, (at_ : Int), rfl, _, rfl, zl, _, _, rfl, rfl, ?_, ?_⟩
      · rw [c1, c2, S_cat, len_S, len_S, List.length_append]
        exact size_ok (by omega)
      · rw [c1, c2, S_cat, S_cat]
        exact fin _ (by rw [List.length_append, List.length_append]; omega) (asc_app (asc_app (asc_take ha _) hta) (asc_drop ha _))
    refine iteF' (decide_eq_false fun z => h0 (by injection z)) ?_
    refine ⟨_, rfl, rfl, _, rfl, ?_⟩
    by_cases h1 : way = 1
    · refine iteT' (by rw [h1]; exact decide_eq_true rfl) ?_
      refine ⟨_, rfl, _, rfl, (at_ : Int), rfl, _, rfl, zl, _, rfl, _, rfl, _, _, rfl, rfl, (at_ : Int) + 1, rfl, _, rfl, zl, _, _, rfl, rfl, ?_, ?_⟩
      · rw [c1, c3, len_S, len_S]
        exact size_ok (by omega)
      · rw [c1, c3, S_cat]
        exact fin _ (by rw [List.length_append]; omega) (asc_app (asc_take ha _) (asc_drop ha _))
    refine iteF' (decide_eq_false fun z => h1 (by injection z)) ?_
    refine ⟨_, rfl, rfl, _, rfl, ?_⟩
    by_cases h2 : way = 2
    · refine iteT' (by rw [h2]; exact decide_eq_true rfl) ?_
      refine ⟨_, rfl, _, rfl, (at_ : Int), rfl, _, rfl, zl, _, rfl, _, _, rfl, rfl, by rw [c1, len_S, len_S]; exact size_ok (by omega), _, rfl, _, rfl, _, _, rfl, rfl, (at_ : Int) + 1, rfl, _, rfl, zl, _, _, rfl, rfl, ?_, ?_⟩
      · rw [c1, c3, S_cat, len_S, len_S, List.length_append]
        exact size_ok (by omega)
      · rw [c1, c3, S_cat, S_cat]
        exact fin _ (by rw [List.length_append, List.length_append]; omega) (asc_app (asc_app (asc_take ha _) hta) (asc_drop ha _))
    · refine iteF' (decide_eq_false fun z => h2 (by injection z)) ?_
      refine ⟨_, rfl, _, rfl, (at_ : Int), rfl, _, rfl, zl, ?_⟩
      rw [c1]
      exact fin _ (by omega) (asc_take ha _)
end
end K3

namespace K3
open PySem L2 SX AddrMath
/-- a list, a tuple or a dict stands at a, which is not the pen -/
def Obj (H : Hp) (d a : Addr) : Prop := a ≠ d ∧ ((∃ xs, H a = some (.lst xs)) ∨ (∃ xs, H a = some (.tup xs)) ∨ (∃ kvs, H a = some (.dK kvs)))
def kindO : HO → Prop
  | .lst _ => True
  | .tup _ => True
  | .dK _ => True
  | _ => False
theorem Obj.of {H : Hp} {d a : Addr} {o : HO} (h : H a = some o) (k : kindO o) (ne : a ≠ d) : Obj H d a := by
  refine ⟨ne, ?_⟩
  cases o with
  | lst xs => exact .inl ⟨xs, h⟩
  | tup xs => exact .inr (.inl ⟨xs, h⟩)
  | dK xs => exact .inr (.inr ⟨xs, h⟩)
  | _ => exact k.elim
theorem Obj.but {H H' : Hp} {d a : Addr} (h : Obj H d a) (b : But d H H') : Obj H' d a := by
  obtain ⟨ne, h⟩ := h
  refine ⟨ne, ?_⟩
  rcases h with ⟨xs, h⟩ | ⟨xs, h⟩ | ⟨xs, h⟩
  · exact .inl ⟨xs, b _ _ h ne⟩
  · exact .inr (.inl ⟨xs, b _ _ h ne⟩)
  · exact .inr (.inr ⟨xs, b _ _ h ne⟩)
structure Made (H0 : Hp) (d c : Addr) (n : Nat) (H : Hp) (l : List Addr) : Prop where
  same : Same H0 H
  pen : PenAt H d c n
  obj : ∀ a ∈ l, Obj H d a
theorem Made.add {H0 H : Hp} {d c p : Addr} {n : Nat} {l : List Addr} {o : HO} (m : Made H0 d c n H l) (np : H p = none) (k : kindO o) : Made H0 d c n (upd H p o) (p :: l) :=
  ⟨fun b u e => same_new np _ _ (m.same _ _ e), m.pen.keep (same_new np), fun a ha => (List.mem_cons.mp ha).elim
    (fun e => by rw [e]; exact Obj.of upd_same k fun z => m.pen.ne (by rw [← z]; exact np)) fun h => (m.obj a h).but (But.new np)⟩
/-- a value that is drawn -/
def Val (H : Hp) (d : Addr) (v : V) : Prop := v = .non ∨ (∃ b, v = .bl b) ∨ (∃ i, v = .int i) ∨ (∃ l, v = .str (S l) ∧ l.length ≤ 100 ∧ asc l) ∨ ∃ a, v = .ref a ∧ Obj H d a
theorem Val.but {H H' : Hp} {d : Addr} {v : V} (h : Val H d v) (b : But d H H') : Val H' d v := by
  rcases h with h | h | h | h | ⟨a, h, o⟩
  · exact .inl h
  · exact .inr (.inl h)
  · exact .inr (.inr (.inl h))
  · exact .inr (.inr (.inr (.inl h)))
  · exact .inr (.inr (.inr (.inr ⟨a, h, o.but b⟩)))
theorem val_str {H : Hp} {d : Addr} {z : Str} (h1 : z.length ≤ 100) (h2 : ∀ c ∈ z.cps.toList, c < 128) : Val H d (.str z) := .inr (.inr (.inr (.inl ⟨z.cps.toList, by rw [S_tl], by rw [← TL.len_tl]; exact h1, h2⟩)))
/-- such a value is a text or none, as isinstance sees it -/
theorem Val.kind {K : PySem.W.Frag} {H : Hp} {d : Addr} {v : V} (h : Val H d v) : NoStr K H v ∨ ∃ l, v = .str (S l) ∧ l.length ≤ 100 ∧ asc l := by
  rcases h with rfl | ⟨b, rfl⟩ | ⟨i, rfl⟩ | h | ⟨a, rfl, _, ⟨xs, e⟩ | ⟨xs, e⟩ | ⟨xs, e⟩⟩
  · exact .inl ⟨_, .base .non, kit_ty (by decide +kernel)⟩
  · exact .inl ⟨_, .base (.bl b), kit_ty (by decide +kernel)⟩
  · exact .inl ⟨_, .base (.int i), kit_ty (by decide +kernel)⟩
  · exact .inr h
  · exact .inl ⟨_, .base (.lst e), kit_ty (by decide +kernel)⟩
  · exact .inl ⟨_, .base (.tup e), kit_ty (by decide +kernel)⟩
  · exact .inl ⟨_, .base (.dK e), kit_ty (by decide +kernel)⟩
theorem hp_is {A : L2.St → Hp → Prop} {σ : L2.St} {H H' : Hp} (e : H = H') (h : A σ H') : A σ H := by rw [e]; exact h
theorem hp_is' {A : Hp → Prop} {H H' : Hp} (e : H = H') (h : A H') : A H := by rw [e]; exact h
section
variable {P : Program} {w : World} {K : PySem.W.Frag} {mg : Str → Option Value} {base : Heap}
/-! ### _law_any_value: slots pen 0, some 1 -/
def spAny : Sp := fun vs H Q _ => ∃ (d c : Addr) (n : Nat), vs = [.ref d] ∧ PenAt H d c n ∧ n ≤ 900000 ∧ ∀ (v : V) (H' : Hp), Val H' d v → PenAt H' d c (n + 1) → But d H H' → Q v H'
theorem scAny : FnScope ["_law_pen_here", "_law_some"] ["_law_pen_here"] (defScope sAny) := ⟨rfl, rfl, rfl, by decide +kernel, rfl, by decide +kernel, by decide +kernel⟩
theorem ok_any {f fP : Addr} {fd fdP : FuncData} (F : Fun K "_law_any_value" "_law_any_value" sAny f fd) (GP : FnOk P w K mg base CX0 2 fP fdP ["_law_pen_here", "_law_items"] spPick) (cP : Cd K mg "_law_pick" fP) (bP : Binds K fdP ["_law_pen_here", "_law_items"] []) :
    FnOk P w K mg base CX0 3 f fd ["_law_pen_here"] spAny := by
  refine F.ok scAny (fun vs H Q E h => ?_) (fun cdv A outer s0 H vs Q E hr h => ?_)
  · obtain ⟨d, c, n, rfl, _⟩ := h
    rfl
  · obtain ⟨d, c, n, rfl, p, hn, q⟩ := h
    have hu := hu_of hr
    refine ⟨_, pss_cons (ps_set (i := 1) scAny.nd rfl (Or.inl rfl) (pe_lst (pa_cons pe_non (pa_cons pe_bl (pa_cons pe_bl (pa_cons pe_int (pa_cons pe_int (pa_cons pe_int (pa_cons pe_int (pa_cons (pe_un un_neg pe_int) (pa_cons (pe_op op_pow pe_int pe_int)
        (pa_cons pe_str (pa_cons pe_str (pa_cons pe_str (pa_cons pe_str (pa_cons pe_str (pa_cons pe_str (pa_cons pe_str (pa_cons (pe_tup pa_nil) (pa_cons (pe_tup (pa_cons pe_str pa_nil)) pa_nil))))))))))))))))))))
      (pss_cons (ps_set (i := 1) scAny.nd rfl (Or.inl rfl) (pe_op op_cat (pv 1) (pe_lst (pa_cons (pe_lst pa_nil) (pa_cons (pe_lst (pa_cons pe_str pa_nil)) (pa_cons (pe_lst (pa_cons pe_int pa_nil)) (pa_cons pe_dnewK (pa_cons (pe_disp (pps_cons pe_str pe_int pps_nil) (by rfl) (by rfl) (fun z => by cases z) (by decide))
        (pa_cons (pe_tup (pa_cons pe_int (pa_cons pe_int pa_nil))) (pa_cons (pe_tup (pa_cons pe_str (pa_cons (pe_tup pa_nil) pa_nil))) (pa_cons (pe_tup (pa_cons pe_non pa_nil)) (pa_cons (pe_tup (pa_cons pe_str (pa_cons pe_int pa_nil)))
        (pa_cons (pe_lst (pa_cons (pe_lst (pa_cons pe_str pa_nil)) pa_nil)) (pa_cons (pe_tup (pa_cons (pe_tup (pa_cons pe_str pa_nil)) pa_nil)) (pa_cons pe_str pa_nil)))))))))))))))
      (pss_cons (ps_set (i := 1) scAny.nd rfl (Or.inl rfl) (pe_op op_cat (pv 1) (pe_lst (pa_cons pe_str (pa_cons pe_str pa_nil)))))
      (pss_one (ps_ret (pe_call GP hr (by rfl) cP.mg cP.kp bP .nil pass0 (pa_cons (pv 0) (pa_cons (pv 1) pa_nil))))))), ?_⟩
    have m0 : Made H d c n H [] := ⟨Same.refl H, p, fun a ha => by cases ha⟩
    -- the first list
    refine ⟨_, rfl, _, _, rfl, rfl, ⟨by decide, by decide, by decide⟩, by show 0 ≤ sizeLine; decide, fun a1 n1 => ?_⟩
    have m1 := m0.add (o := .tup []) n1 trivial
    generalize upd H a1 (.tup []) = H1 at m1 ⊢
    refine ⟨by show 1 ≤ sizeLine; decide, fun a2 n2 => ?_⟩
    have m2 := m1.add (o := .tup [.str (Str.ofString "a")]) n2 trivial
    generalize upd H1 a2 (.tup [.str (Str.ofString "a")]) = H2 at m2 ⊢
    refine ⟨by show 18 ≤ sizeLine; decide, fun A nA => ?_⟩
    obtain ⟨xs, exs⟩ : ∃ xs : List V, ([.non, .bl true, .bl false, .int 0, .int 1, .int 2, .int 3, .int (-1), .int (10 ^ 60), .str (Str.ofString ""), .str (Str.ofString "a"), .str (Str.ofString "A"), .str (Str.ofString "ab"), .str (Str.ofString "abcdefghi"), .str (Str.ofString "a b"), .str (Str.ofString "a/b"), .ref a1, .ref a2] : List V) = xs := ⟨_, rfl⟩
    have mA := m2.add (o := .lst ([.non, .bl true, .bl false, .int 0, .int 1, .int 2, .int 3, .int (-1), .int (10 ^ 60), .str (Str.ofString ""), .str (Str.ofString "a"), .str (Str.ofString "A"), .str (Str.ofString "ab"), .str (Str.ofString "abcdefghi"), .str (Str.ofString "a b"), .str (Str.ofString "a/b"), .ref a1, .ref a2] : List V)) nA trivial
    have hA : (upd H2 A (.lst ([.non, .bl true, .bl false, .int 0, .int 1, .int 2, .int 3, .int (-1), .int (10 ^ 60), .str (Str.ofString ""), .str (Str.ofString "a"), .str (Str.ofString "A"), .str (Str.ofString "ab"), .str (Str.ofString "abcdefghi"), .str (Str.ofString "a b"), .str (Str.ofString "a/b"), .ref a1, .ref a2] : List V))) A = some (.lst ([.non, .bl true, .bl false, .int 0, .int 1, .int 2, .int 3, .int (-1), .int (10 ^ 60), .str (Str.ofString ""), .str (Str.ofString "a"), .str (Str.ofString "A"), .str (Str.ofString "ab"), .str (Str.ofString "abcdefghi"), .str (Str.ofString "a b"), .str (Str.ofString "a/b"), .ref a1, .ref a2] : List V)) := upd_same
    have vA : ∀ v ∈ ([.non, .bl true, .bl false, .int 0, .int 1, .int 2, .int 3, .int (-1), .int (10 ^ 60), .str (Str.ofString ""), .str (Str.ofString "a"), .str (Str.ofString "A"), .str (Str.ofString "ab"), .str (Str.ofString "abcdefghi"), .str (Str.ofString "a b"), .str (Str.ofString "a/b"), .ref a1, .ref a2] : List V), Val (upd H2 A (.lst ([.non, .bl true, .bl false, .int 0, .int 1, .int 2, .int 3, .int (-1), .int (10 ^ 60), .str (Str.ofString ""), .str (Str.ofString "a"), .str (Str.ofString "A"), .str (Str.ofString "ab"), .str (Str.ofString "abcdefghi"), .str (Str.ofString "a b"), .str (Str.ofString "a/b"), .ref a1, .ref a2] : List V))) d v := by
      intro v hv
      simp only [List.mem_cons, List.not_mem_nil, or_false] at hv
      rcases hv with rfl | rfl | rfl | rfl | rfl | rfl | rfl | rfl | rfl | rfl | rfl | rfl | rfl | rfl | rfl | rfl | rfl | rfl
      · exact .inl rfl
      · exact .inr (.inl ⟨_, rfl⟩)
      · exact .inr (.inl ⟨_, rfl⟩)
      · exact .inr (.inr (.inl ⟨_, rfl⟩))
      · exact .inr (.inr (.inl ⟨_, rfl⟩))
      · exact .inr (.inr (.inl ⟨_, rfl⟩))
      · exact .inr (.inr (.inl ⟨_, rfl⟩))
      · exact .inr (.inr (.inl ⟨_, rfl⟩))
      · exact .inr (.inr (.inl ⟨_, rfl⟩))
      · exact val_str (by decide +kernel) (by decide +kernel)
      · exact val_str (by decide +kernel) (by decide +kernel)
      · exact val_str (by decide +kernel) (by decide +kernel)
      · exact val_str (by decide +kernel) (by decide +kernel)
      · exact val_str (by decide +kernel) (by decide +kernel)
      · exact val_str (by decide +kernel) (by decide +kernel)
      · exact val_str (by decide +kernel) (by decide +kernel)
      · exact .inr (.inr (.inr (.inr ⟨a1, rfl, mA.obj a1 (by simp)⟩)))
      · exact .inr (.inr (.inr (.inr ⟨a2, rfl, mA.obj a2 (by simp)⟩)))
    have lA : ([.non, .bl true, .bl false, .int 0, .int 1, .int 2, .int 3, .int (-1), .int (10 ^ 60), .str (Str.ofString ""), .str (Str.ofString "a"), .str (Str.ofString "A"), .str (Str.ofString "ab"), .str (Str.ofString "abcdefghi"), .str (Str.ofString "a b"), .str (Str.ofString "a/b"), .ref a1, .ref a2] : List V).length = 18 := rfl
    refine st_go (σ' := [some (.ref d), some (.ref A)]) rfl ?_
    rw [exs] at hA vA mA lA
    obtain ⟨HA, hHA⟩ : ∃ HA, upd H2 A (.lst ([.non, .bl true, .bl false, .int 0, .int 1, .int 2, .int 3, .int (-1), .int (10 ^ 60), .str (Str.ofString ""), .str (Str.ofString "a"), .str (Str.ofString "A"), .str (Str.ofString "ab"), .str (Str.ofString "abcdefghi"), .str (Str.ofString "a b"), .str (Str.ofString "a/b"), .ref a1, .ref a2] : List V)) = HA := ⟨_, rfl⟩
    refine hp_is hHA ?_
    rw [exs] at hHA
    rw [hHA] at hA vA mA
    clear hHA exs
    have k0 : Made HA d c n HA [] := ⟨Same.refl HA, mA.pen, fun a ha => by cases ha⟩
    -- the second list
    refine ⟨_, rfl, by show 0 ≤ sizeLine; decide, fun b1 nb1 => ?_⟩
    have k1 := k0.add (o := .lst []) nb1 trivial
    generalize upd HA b1 (.lst []) = G1 at k1 ⊢
    refine ⟨by show 1 ≤ sizeLine; decide, fun b2 nb2 => ?_⟩
    have k2 := k1.add (o := .lst [.str (Str.ofString "a")]) nb2 trivial
    generalize upd G1 b2 (.lst [.str (Str.ofString "a")]) = G2 at k2 ⊢
    refine ⟨by show 1 ≤ sizeLine; decide, fun b3 nb3 => ?_⟩
    have k3 := k2.add (o := .lst [.int 1]) nb3 trivial
    generalize upd G2 b3 (.lst [.int 1]) = G3 at k3 ⊢
    intro b4 nb4
    have k4 := k3.add (o := .dK []) nb4 trivial
    generalize upd G3 b4 (.dK []) = G4 at k4 ⊢
    intro b5 nb5
    refine ⟨upd_same, [(Sum.inr (Str.ofString "a"), .int 1)], rfl, by show 1 ≤ 15; decide, ?_⟩
    rw [upd_upd]
    have k5 := k4.add (o := .dK [(Sum.inr (Str.ofString "a"), .int 1)]) nb5 trivial
    refine hp_is' (H' := upd G4 b5 (.dK [(Sum.inr (Str.ofString "a"), .int 1)])) rfl ?_
    generalize upd G4 b5 (.dK [(Sum.inr (Str.ofString "a"), .int 1)]) = G5 at k5 ⊢
    refine ⟨by show 2 ≤ sizeLine; decide, fun b6 nb6 => ?_⟩
    have k6 := k5.add (o := .tup [.int 1, .int 2]) nb6 trivial
    generalize upd G5 b6 (.tup [.int 1, .int 2]) = G6 at k6 ⊢
    refine ⟨by show 0 ≤ sizeLine; decide, fun b7 nb7 => ?_⟩
    have k7 := k6.add (o := .tup []) nb7 trivial
    generalize upd G6 b7 (.tup []) = G7 at k7 ⊢
    refine ⟨by show 2 ≤ sizeLine; decide, fun b8 nb8 => ?_⟩
    have k8 := k7.add (o := .tup [.str (Str.ofString "s"), .ref b7]) nb8 trivial
    generalize upd G7 b8 (.tup [.str (Str.ofString "s"), .ref b7]) = G8 at k8 ⊢
    refine ⟨by show 1 ≤ sizeLine; decide, fun b9 nb9 => ?_⟩
    have k9 := k8.add (o := .tup [.non]) nb9 trivial
    generalize upd G8 b9 (.tup [.non]) = G9 at k9 ⊢
    refine ⟨by show 2 ≤ sizeLine; decide, fun b10 nb10 => ?_⟩
    have k10 := k9.add (o := .tup [.str (Str.ofString "a"), .int 1]) nb10 trivial
    generalize upd G9 b10 (.tup [.str (Str.ofString "a"), .int 1]) = G10 at k10 ⊢
    refine ⟨by show 1 ≤ sizeLine; decide, fun b11 nb11 => ?_⟩
    have k11 := k10.add (o := .lst [.str (Str.ofString "a")]) nb11 trivial
    generalize upd G10 b11 (.lst [.str (Str.ofString "a")]) = G11 at k11 ⊢
    refine ⟨by show 1 ≤ sizeLine; decide, fun b12 nb12 => ?_⟩
    have k12 := k11.add (o := .lst [.ref b11]) nb12 trivial
    generalize upd G11 b12 (.lst [.ref b11]) = G12 at k12 ⊢
    refine ⟨by show 1 ≤ sizeLine; decide, fun b13 nb13 => ?_⟩
    have k13 := k12.add (o := .tup [.str (Str.ofString "a")]) nb13 trivial
    generalize upd G12 b13 (.tup [.str (Str.ofString "a")]) = G13 at k13 ⊢
    refine ⟨by show 1 ≤ sizeLine; decide, fun b14 nb14 => ?_⟩
    have k14 := k13.add (o := .tup [.ref b13]) nb14 trivial
    generalize upd G13 b14 (.tup [.ref b13]) = G14 at k14 ⊢
    refine ⟨by show 12 ≤ sizeLine; decide, fun B nB => ?_⟩
    have kB := k14.add (o := .lst ([.ref b1, .ref b2, .ref b3, .ref b4, .ref b5, .ref b6, .ref b8, .ref b9, .ref b10, .ref b12, .ref b14, .str (Str.ofString "web:")] : List V)) nB trivial
    have hB : (upd G14 B (.lst ([.ref b1, .ref b2, .ref b3, .ref b4, .ref b5, .ref b6, .ref b8, .ref b9, .ref b10, .ref b12, .ref b14, .str (Str.ofString "web:")] : List V))) B = some (.lst ([.ref b1, .ref b2, .ref b3, .ref b4, .ref b5, .ref b6, .ref b8, .ref b9, .ref b10, .ref b12, .ref b14, .str (Str.ofString "web:")] : List V)) := upd_same
    have vB : ∀ v ∈ ([.ref b1, .ref b2, .ref b3, .ref b4, .ref b5, .ref b6, .ref b8, .ref b9, .ref b10, .ref b12, .ref b14, .str (Str.ofString "web:")] : List V), Val (upd G14 B (.lst ([.ref b1, .ref b2, .ref b3, .ref b4, .ref b5, .ref b6, .ref b8, .ref b9, .ref b10, .ref b12, .ref b14, .str (Str.ofString "web:")] : List V))) d v := by
      intro v hv
      simp only [List.mem_cons, List.not_mem_nil, or_false] at hv
      rcases hv with rfl | rfl | rfl | rfl | rfl | rfl | rfl | rfl | rfl | rfl | rfl | rfl
      · exact .inr (.inr (.inr (.inr ⟨b1, rfl, kB.obj b1 (by simp)⟩)))
      · exact .inr (.inr (.inr (.inr ⟨b2, rfl, kB.obj b2 (by simp)⟩)))
      · exact .inr (.inr (.inr (.inr ⟨b3, rfl, kB.obj b3 (by simp)⟩)))
      · exact .inr (.inr (.inr (.inr ⟨b4, rfl, kB.obj b4 (by simp)⟩)))
      · exact .inr (.inr (.inr (.inr ⟨b5, rfl, kB.obj b5 (by simp)⟩)))
      · exact .inr (.inr (.inr (.inr ⟨b6, rfl, kB.obj b6 (by simp)⟩)))
      · exact .inr (.inr (.inr (.inr ⟨b8, rfl, kB.obj b8 (by simp)⟩)))
      · exact .inr (.inr (.inr (.inr ⟨b9, rfl, kB.obj b9 (by simp)⟩)))
      · exact .inr (.inr (.inr (.inr ⟨b10, rfl, kB.obj b10 (by simp)⟩)))
      · exact .inr (.inr (.inr (.inr ⟨b12, rfl, kB.obj b12 (by simp)⟩)))
      · exact .inr (.inr (.inr (.inr ⟨b14, rfl, kB.obj b14 (by simp)⟩)))
      · exact val_str (by decide +kernel) (by decide +kernel)
    have lB : ([.ref b1, .ref b2, .ref b3, .ref b4, .ref b5, .ref b6, .ref b8, .ref b9, .ref b10, .ref b12, .ref b14, .str (Str.ofString "web:")] : List V).length = 12 := rfl
    generalize ([.ref b1, .ref b2, .ref b3, .ref b4, .ref b5, .ref b6, .ref b8, .ref b9, .ref b10, .ref b12, .ref b14, .str (Str.ofString "web:")] : List V) = ys at kB hB vB lB ⊢
    generalize upd G14 B (.lst ys) = HB at kB hB vB ⊢
    have hAB := kB.same _ _ hA
    refine ⟨A, B, xs, ys, rfl, rfl, hAB, hB, by rw [lA, lB]; decide, fun D nD => ?_⟩
    have vAB : ∀ v ∈ xs ++ ys, Val HB d v := fun v hv => (List.mem_append.mp hv).elim (fun h => (vA v h).but (but_of kB.same)) (vB v)
    have pB := kB.pen
    have bB : But d H HB := (but_of mA.same).trans (but_of kB.same)
    refine st_go (σ' := [some (.ref d), some (.ref D)]) rfl ?_
    have lAB : (xs ++ ys).length = 30 := by rw [List.length_append, lA, lB]
    generalize xs ++ ys = zs at vAB lAB ⊢
    have kD : Made HB d c n (upd HB D (.lst zs)) [D] := (show Made HB d c n HB [] from ⟨Same.refl HB, pB, fun a ha => by cases ha⟩).add nD trivial
    have hD : (upd HB D (.lst zs)) D = some (.lst zs) := upd_same
    generalize upd HB D (.lst zs) = HD at kD hD ⊢
    -- the third list
    refine ⟨_, rfl, by show 2 ≤ sizeLine; decide, fun Z nZ => ?_⟩
    have kZ := kD.add (o := .lst ([.str (Str.ofString "s /.. stays"), .str (Str.ofString "s /1 to t /1")] : List V)) nZ trivial
    have hZ : (upd HD Z (.lst ([.str (Str.ofString "s /.. stays"), .str (Str.ofString "s /1 to t /1")] : List V))) Z = some (.lst ([.str (Str.ofString "s /.. stays"), .str (Str.ofString "s /1 to t /1")] : List V)) := upd_same
    have hDZ : (upd HD Z (.lst ([.str (Str.ofString "s /.. stays"), .str (Str.ofString "s /1 to t /1")] : List V))) D = some (.lst zs) := same_new nZ _ _ hD
    generalize upd HD Z (.lst ([.str (Str.ofString "s /.. stays"), .str (Str.ofString "s /1 to t /1")] : List V)) = HZ at kZ hZ hDZ ⊢
    refine ⟨D, Z, zs, _, rfl, rfl, hDZ, hZ, by rw [lAB]; decide, fun W nW => st_go (σ' := [some (.ref d), some (.ref W)]) rfl ?_⟩
    refine ⟨_, rfl, _, rfl, d, c, n, _, rfl, kZ.pen.keep (same_new nW), by omega, .inl ⟨W, _, rfl, upd_same, ?_, ?_, fun v H' hv p' b' => ?_⟩⟩
    · rw [List.length_append, lAB]
      exact Nat.succ_pos _
    · rw [List.length_append, lAB]
      decide
    · have b2 : But d HB (upd HZ W (.lst (zs ++ ([.str (Str.ofString "s /.. stays"), .str (Str.ofString "s /1 to t /1")] : List V)))) := (but_of kZ.same).trans (But.new nW)
      refine q v H' ?_ p' ((bB.trans b2).trans b')
      rcases List.mem_append.mp hv with h | h
      · exact ((vAB v h).but b2).but b'
      · simp only [List.mem_cons, List.not_mem_nil, or_false] at h
        rcases h with rfl | rfl
        · exact val_str (by decide +kernel) (by decide +kernel)
        · exact val_str (by decide +kernel) (by decide +kernel)
end
end K3

namespace K3
open PySem L2 SX AddrMath
/-! ### what is told of a right text -/
theorem run_on : ∀ (s r : List Nat) (k : Nat), k + s.length ≤ 8 → (∀ c ∈ s, isL c = true) → (∀ c y, r = c :: y → isL c = false) → run k (s ++ r) = s.length
  | [], r, k, _, _, hr => by
    cases r with
    | nil => rfl
    | cons c y =>
      show (if k < 8 ∧ isL c = true then run (k + 1) y + 1 else 0) = 0
      rw [if_neg]
      rintro ⟨_, z⟩
      rw [hr c y rfl] at z
      cases z
  | a :: s, r, k, hk, hs, hr => by
    have ih := run_on s r (k + 1) (by rw [List.length_cons] at hk; omega) (fun c hc => hs c (List.mem_cons_of_mem _ hc)) hr
    show (if k < 8 ∧ isL a = true then run (k + 1) (s ++ r) + 1 else 0) = _
    rw [if_pos ⟨by rw [List.length_cons] at hk; omega, hs a (List.mem_cons_self ..)⟩, ih]
    rfl
theorem rdB_path : ∀ (ps : List (List Nat)) (f n : Nat) (path : List (List Nat)), (∀ x ∈ ps, isW x = true) → ((ps.map fun p => 47 :: p).flatten).length ≤ f → rdB f ((ps.map fun p => 47 :: p).flatten) n path = .inr (path ++ ps)
  | [], f, n, path, _, _ => by
    rw [List.append_nil]
    cases f <;> rfl
  | p :: ps, f, n, path, hw, hf => by
    have hp := isW_iff.mp (hw p (List.mem_cons_self ..))
    rw [List.map_cons, List.flatten_cons, List.cons_append] at hf ⊢
    obtain ⟨f', rfl⟩ : ∃ f', f = f' + 1 := ⟨f - 1, by rw [List.length_cons] at hf; omega⟩
    have hr : run 0 (p ++ (ps.map fun p => 47 :: p).flatten) = p.length := run_on p _ 0 (by omega) hp.2.2 (by
      intro c y e
      cases ps with
      | nil => cases e
      | cons q ps =>
        rw [List.map_cons, List.flatten_cons, List.cons_append] at e
        injection e with e1 e2
        rw [← e1]
        decide)
    show (if (47 : Nat) ≠ 47 then .inl n else if run 0 (p ++ (ps.map fun p => 47 :: p).flatten) = 0 then .inl (n + 1) else rdB f' ((p ++ (ps.map fun p => 47 :: p).flatten).drop (run 0 (p ++ (ps.map fun p => 47 :: p).flatten))) (n + 1 + run 0 (p ++ (ps.map fun p => 47 :: p).flatten)) (path ++ [(p ++ (ps.map fun p => 47 :: p).flatten).take (run 0 (p ++ (ps.map fun p => 47 :: p).flatten))])) = _
    rw [if_neg (fun z => z rfl), hr, if_neg (by omega), List.drop_left, List.take_left, rdB_path ps f' _ _ (fun x hx => hw x (List.mem_cons_of_mem _ hx)) (by rw [List.length_cons, List.length_append] at hf; omega), List.append_assoc]
    rfl
theorem rd_txt {s : List Nat} {ps : List (List Nat)} (hs : isW s = true) (hp : ∀ x ∈ ps, isW x = true) : rd (txt s ps) = .good s ps := by
  have h := isW_iff.mp hs
  have hr : run 0 (txt s ps) = s.length := run_on s _ 0 (by omega) h.2.2 (by
    intro c y e
    injection e with e1 e2
    rw [← e1]
    decide)
  have hd : (txt s ps).drop s.length = 58 :: (ps.map fun p => 47 :: p).flatten := List.drop_left
  have hd1 : (txt s ps).drop (s.length + 1) = (ps.map fun p => 47 :: p).flatten := by
    have z := congrArg (List.drop 1) hd
    rw [List.drop_drop] at z
    exact z
  unfold rd
  rw [hr, hd, hd1, if_neg]
  · rw [rdB_path ps _ _ _ hp (by unfold txt; rw [List.length_append, List.length_cons]; omega)]
    show Told.good ((txt s ps).take s.length) ([] ++ ps) = _
    rw [show (txt s ps).take s.length = s from List.take_left]
    rfl
  · rintro (z | z)
    · omega
    · exact z rfl
/-! ### answers as data -/
def dat : Told → PyData
  | .bad n => .tuple [.str (Str.ofString "text"), .int (n : Int), .bool true]
  | .good s p => .tuple [.str (Str.ofString "read"), .str (S s), .tuple (p.map fun x => PyData.str (S x))]
def Plain : Told → Prop
  | .bad _ => True
  | .good s p => asc s ∧ ∀ x ∈ p, asc x
theorem dat_dp {K : PySem.W.Frag} {H : Hp} {r : Addr} {t : Told} (h : ResAt H r t) : Dp K H (.ref r) (dat t) := by
  cases t with
  | bad n => exact .tup (.inl (.inl h)) (.cons (.str _) (.cons (.int _) (.cons (.bl _) .nil)))
  | good s p =>
    obtain ⟨a, h1, h2⟩ := h
    exact .tup (.inl (.inl h1)) (.cons (.str _) (.cons (.str _) (.cons (.tup (.inl (.inl h2)) (dp_strs p)) .nil)))
theorem text_ok : PyData.strOk (Str.ofString "text") = true := by decide +kernel
theorem read_ok : PyData.strOk (Str.ofString "read") = true := by decide +kernel
theorem dat_cl {t : Told} (h : Plain t) : (dat t).canLay0 = true := by
  cases t with
  | bad n => simp [dat, PyData.canLay0, PyData.canLayAll0, text_ok]
  | good s p =>
    obtain ⟨h1, h2⟩ := h
    simp [dat, PyData.canLay0, PyData.canLayAll0, read_ok, ok_asc h1, cl_strs h2]
theorem dat_sh {t : Told} (h : Plain t) : SeqAt.shaped (dat t) = true := by
  have hc := dat_cl h
  cases t with
  | bad n =>
    unfold SeqAt.shaped
    rw [hc]
    rfl
  | good s p =>
    unfold SeqAt.shaped
    rw [hc]
    simp [dat, PyData.depth, PyData.depthAll, da_strs]
theorem dat_eq {t : Told} (h : Plain t) : PyData.eqv (dat t) (dat t) = true := SeqAt.eqv_refl _ (dat_cl h)
theorem ResAt.keep {H H' : Hp} {r : Addr} {t : Told} (h : ResAt H r t) (s : Same H H') : ResAt H' r t := by
  cases t with
  | bad n => exact s _ _ h
  | good a p =>
    obtain ⟨b, h1, h2⟩ := h
    exact ⟨b, s _ _ h1, s _ _ h2⟩
theorem plain_rd {l : List Nat} (h : asc l) : Plain (rd l) := by
  rw [rd_due]
  by_cases hlt : lA 0 l < l.length
  · rw [due_lt hlt]
    trivial
  · obtain ⟨a, rest, e⟩ := sp_cons 58 l
    match rest, e with
    | [], e =>
      rw [due_one hlt e]
      trivial
    | b :: c :: r, e =>
      rw [due_more hlt e]
      trivial
    | [b], e =>
      by_cases hL : lastIs b 47
      · rw [due_last hlt e hL]
        trivial
      · rw [due_good hlt e hL]
        refine ⟨fun x hx => h x (sp_sub 58 l a (by rw [e]; simp) x hx), fun y hy x hx => ?_⟩
        exact h x (sp_sub 58 l b (by rw [e]; simp) x (sp_sub 47 b y (List.mem_of_mem_tail hy) x hx))
theorem asc_word {l : List Nat} (h : isW l = true) : asc l := fun c hc => (let_at ((isW_iff.mp h).2.2 c hc)).2.2.2
theorem asc_txt {s : List Nat} {ps : List (List Nat)} (hs : isW s = true) (hp : ∀ x ∈ ps, isW x = true) : asc (txt s ps) := by
  refine asc_app (asc_word hs) fun c hc => ?_
  rcases List.mem_cons.mp hc with h | h
  · rw [h]
    decide
  · obtain ⟨q, hq, hc2⟩ := List.mem_flatten.mp h
    obtain ⟨p, hpp, rfl⟩ := List.mem_map.mp hq
    rcases List.mem_cons.mp hc2 with h | h
    · rw [h]
      decide
    · exact asc_word (hp p hpp) c h
theorem Val.kinds {K : PySem.W.Frag} {H : Hp} {d : Addr} {v : V} (h : Val H d v) : (∃ l, v = .str (S l) ∧ l.length ≤ 100 ∧ asc l) ∨ ∀ H', But d H H' → NoStr K H' v := by
  rcases h with rfl | ⟨b, rfl⟩ | ⟨i, rfl⟩ | h | ⟨a, rfl, o⟩
  · exact .inr fun _ _ => ⟨_, .base .non, kit_ty (by decide +kernel)⟩
  · exact .inr fun _ _ => ⟨_, .base (.bl b), kit_ty (by decide +kernel)⟩
  · exact .inr fun _ _ => ⟨_, .base (.int i), kit_ty (by decide +kernel)⟩
  · exact .inl h
  · refine .inr fun H' b => ?_
    obtain ⟨_, ⟨xs, e⟩ | ⟨xs, e⟩ | ⟨xs, e⟩⟩ := o.but b
    · exact ⟨_, .base (.lst e), kit_ty (by decide +kernel)⟩
    · exact ⟨_, .base (.tup e), kit_ty (by decide +kernel)⟩
    · exact ⟨_, .base (.dK e), kit_ty (by decide +kernel)⟩
theorem web_a : rd [119, 101, 98, 58, 47, 97, 47] = .bad 7 := by rfl
theorem web_0 : rd [119, 101, 98] = .bad 3 := by rfl
end K3

namespace K3
open PySem L2 SX AddrMath
section
variable {P : Program} {w : World} {K : PySem.W.Frag} {mg : Str → Option Value} {base : Heap}
/-! ### law: slots script 0, pen 1, turn 2, words 3, state 4, path 5, text 6, again 7, odd 8, k 9, word 10 -/
def spLaw (K : PySem.W.Frag) : Sp := fun vs H Q _ => ∃ (a : Addr) (ns : List Int), vs = [.ref a] ∧ SqL K H a (ns.map V.int) ∧ ns.length ≤ 63 ∧ ∀ H', Q (.bl true) H'
abbrev lawN : List Str := ["_law_script", "_law_pen_here", "_law_turn", "_law_words_here", "_law_state", "_law_path", "_law_text", "_law_again", "_law_odd", "_law_k", "_law_word"]
theorem scLaw : FnScope lawN ["_law_script"] (defScope sLaw) := ⟨rfl, rfl, rfl, by decide +kernel, rfl, by decide +kernel, by decide +kernel⟩
/-- the defs that law calls -/
structure Defs (P : Program) (w : World) (K : PySem.W.Frag) (mg : Str → Option Value) (base : Heap) (C : Addr) where
  fPen : Addr
  dPen : FuncData
  gPen : FnOk P w K mg base CX0 1 fPen dPen ["_law_script"] (spPen K)
  cPen : Cd K mg "_law_pen" fPen
  bPen : Binds K dPen ["_law_script"] []
  fDraw : Addr
  dDraw : FuncData
  gDraw : FnOk P w K mg base CX0 1 fDraw dDraw ["_law_pen_here", "_law_many"] spDraw
  cDraw : Cd K mg "_law_draw" fDraw
  bDraw : Binds K dDraw ["_law_pen_here", "_law_many"] []
  fPick : Addr
  dPick : FuncData
  gPick : FnOk P w K mg base CX0 2 fPick dPick ["_law_pen_here", "_law_items"] spPick
  cPick : Cd K mg "_law_pick" fPick
  bPick : Binds K dPick ["_law_pen_here", "_law_items"] []
  fWords : Addr
  dWords : FuncData
  gWords : FnOk P w K mg base CX0 3 fWords dWords ["_law_pen_here", "_law_many"] spWords
  cWords : Cd K mg "_law_words" fWords
  bWords : Binds K dWords ["_law_pen_here", "_law_many"] []
  fAny : Addr
  dAny : FuncData
  gAny : FnOk P w K mg base CX0 3 fAny dAny ["_law_pen_here"] spAny
  cAny : Cd K mg "_law_any_value" fAny
  bAny : Binds K dAny ["_law_pen_here"] []
  fDue : Addr
  dDue : FuncData
  gDue : FnOk P w K mg base CX0 3 fDue dDue ["_law_text"] (spDue K)
  cDue : Cd K mg "_law_due" fDue
  bDue : Binds K dDue ["_law_text"] []
  fTold : Addr
  dTold : FuncData
  gTold : FnOk P w K mg base CX0 6 fTold dTold ["_law_text"] (spTold K)
  cTold : Cd K mg "_law_told" fTold
  bTold : Binds K dTold ["_law_text"] []
  fBent : Addr
  dBent : FuncData
  gBent : FnOk P w K mg base CX0 3 fBent dBent ["_law_pen_here", "_law_text"] spBent
  cBent : Cd K mg "_law_bent" fBent
  bBent : Binds K dBent ["_law_pen_here", "_law_text"] []
  fInit : Addr
  dInit : FuncData
  mInit : Mk K C fInit
  gInit : FnOk P w K mg base CX0 3 fInit dInit ["self", "state", "path"] (spInit C)
  bInit : Binds K dInit ["self", "state", "path"] []
  fText : Addr
  dText : FuncData
  mText : Meth K C "text" fText
  gText : FnOk P w K mg base CX0 1 fText dText ["self"] (spText C)
  bText : Binds K dText ["self"] []
theorem ok_law {f C : Addr} {fd : FuncData} (F : Fun K "law" "law" sLaw f fd) (T : ATxt K mg C) (G : Defs P w K mg base C)
    (mr : mg "range" = none) (mm : mg "min" = none) (ml : mg "len" = none) (mt : mg "tuple" = none) (mli : mg "list" = none) : FnOk P w K mg base CX0 7 f fd ["_law_script"] (spLaw K) := by
  refine F.ok scLaw (fun vs H Q E h => ?_) (fun cdv A outer s0 H vs Q E hr h => ?_)
  · obtain ⟨a, ns, rfl, _⟩ := h
    rfl
  · obtain ⟨a, ns, rfl, hS, hlen, q⟩ := h
    have hr1 : Room 1 _ := hr.mono (by decide)
    have hr2 : Room 2 _ := hr.mono (by decide)
    have hr3 : Room 3 _ := hr.mono (by decide)
    have hr4 : Room 4 _ := hr.mono (by decide)
    refine ⟨_, pss_cons (ps_set (i := 1) scLaw.nd rfl (Or.inr rfl) (pe_call G.gPen hr1 (by rfl) G.cPen.mg G.cPen.kp G.bPen .nil pass0 (pa_cons (pv 0) pa_nil)))
      (pss_cons (ps_for PassesOwn.never rfl (pi_range1 (by rfl) mr (pa_cons (pe_op op_add pe_int (pe_callB (call_min2 rfl) (by rfl) mm (by decide +kernel) (pa_cons pe_int (pa_cons (pe_callB call_len_seq (by rfl) ml PySem.boot_len (pa_cons (pv 0) pa_nil)) pa_nil)))) pa_nil)) (pg_name (i := 2) scLaw.nd rfl (Or.inl rfl))
        (pss_cons (ps_set (i := 3) scLaw.nd rfl (Or.inr rfl) (pe_call G.gWords hr3 (by rfl) G.cWords.mg G.cWords.kp G.bWords .nil pass0 (pa_cons (pv 1) (pa_cons pe_int pa_nil))))
        (pss_cons (ps_par (by rfl) scLaw.nd (i := 4) (j := 5) rfl rfl (by decide) rfl rfl (pa_cons (pe_call G.gPick hr2 (by rfl) G.cPick.mg G.cPick.kp G.bPick .nil pass0 (pa_cons (pv 1) (pa_cons (pv 3) pa_nil)))
            (pa_cons (pe_callTy call_tuple_of (by rfl) mt (by decide +kernel) (pa_cons (pe_lc (own := [("_law_k", 9)]) (g := gName 9) (tt := tYes) rfl scLaw.nd (pi_range1 (by rfl) mr (pa_cons (pe_call G.gDraw hr1 (by rfl) G.cDraw.mg G.cDraw.kp G.bDraw .nil pass0 (pa_cons (pv 1) (pa_cons pe_int pa_nil))) pa_nil))
              (blkOk_by (own := [("_law_k", 9)]) (N := lawN) (sc := defScope sLaw) (by decide +kernel)) (fun _ _ _ _ _ => pg_name (i := 9) scLaw.nd rfl (Or.inl rfl)) (fun _ _ _ _ _ => pts_nil)
              (fun _ _ _ _ _ => pe_call G.gPick hr2 (by rfl) G.cPick.mg G.cPick.kp G.bPick .nil pass0 (pa_cons (pv 1) (pa_cons (pv 3) pa_nil)))) pa_nil)) pa_nil)) (by rfl))
        (pss_cons (ps_set (i := 6) scLaw.nd rfl (Or.inl rfl) (pe_meth0 (pe_make G.mInit G.gInit hr4 (by rfl) T.mgC G.bInit .nil pass0 (pa_cons (pv 4) (pa_cons (pe_callTy call_list_of (by rfl) mli (by decide +kernel) (pa_cons (pv 5) pa_nil)) pa_nil))) T.cl G.mText G.gText hr1 G.bText .nil pass0))
        (pss_cons (ps_if (PW.pt (pw_or (pt_cmpR op_ne (pv 6) (pe_op op_add_str (pe_op op_add_str (pv 4) pe_str) (pe_join pe_str (pe_lc (own := [("_law_word", 10)]) (g := gName 10) (tt := tYes) rfl scLaw.nd (pi_tup (pv 5))
              (blkOk_by (own := [("_law_word", 10)]) (N := lawN) (sc := defScope sLaw) (by decide +kernel)) (fun _ _ _ _ _ => pg_name (i := 10) scLaw.nd rfl (Or.inl rfl)) (fun _ _ _ _ _ => pts_nil) (fun _ _ _ _ _ => pe_op op_add_str pe_str (pv 10))))) (nomark _))
            (pw_or1 (pt_cmpR (op_neD hr.units) (pe_call G.gTold hr (by rfl) G.cTold.mg G.cTold.kp G.bTold .nil pass0 (pa_cons (pv 6) pa_nil)) (pe_tup (pa_cons pe_str (pa_cons (pv 4) (pa_cons (pv 5) pa_nil)))) (nomark _)))))
          (pss_one (ps_ret pe_bl)) pss_nil)
        (pss_cons (ps_for PassesOwn.never rfl (pi_range1 (by rfl) mr (pa_cons pe_int pa_nil)) (pg_name (i := 7) scLaw.nd rfl (Or.inl rfl))
          (pss_cons (ps_set (i := 6) scLaw.nd rfl (Or.inl rfl) (pe_call G.gBent hr3 (by rfl) G.cBent.mg G.cBent.kp G.bBent .nil pass0 (pa_cons (pv 1) (pa_cons (pv 6) pa_nil))))
          (pss_one (ps_if (pt_cmpR (op_neD hr.units) (pe_call G.gTold hr (by rfl) G.cTold.mg G.cTold.kp G.bTold .nil pass0 (pa_cons (pv 6) pa_nil)) (pe_call G.gDue hr3 (by rfl) G.cDue.mg G.cDue.kp G.bDue .nil pass0 (pa_cons (pv 6) pa_nil)) (nomark _)) (pss_one (ps_ret pe_bl)) pss_nil))))
        (pss_cons (ps_set (i := 8) scLaw.nd rfl (Or.inl rfl) (pe_call G.gAny hr3 (by rfl) G.cAny.mg G.cAny.kp G.bAny .nil pass0 (pa_cons (pv 1) pa_nil)))
        (pss_one (ps_if (pt_cmpR (op_neD hr.units) (pe_call G.gTold hr (by rfl) G.cTold.mg G.cTold.kp G.bTold .nil pass0 (pa_cons (pv 8) pa_nil)) (pe_call G.gDue hr3 (by rfl) G.cDue.mg G.cDue.kp G.bDue .nil pass0 (pa_cons (pv 8) pa_nil)) (nomark _)) (pss_one (ps_ret pe_bl)) pss_nil)))))))))
      (pss_one (ps_ret (pe_and (pe_cmpR (op_eqD hr.units) (pe_call G.gTold hr (by rfl) G.cTold.mg G.cTold.kp G.bTold .nil pass0 (pa_cons pe_str pa_nil)) (pe_tup (pa_cons pe_str (pa_cons pe_int (pa_cons pe_bl pa_nil)))) (nomark _))
        (pe_one (pe_cmpR (op_eqD hr.units) (pe_call G.gTold hr (by rfl) G.cTold.mg G.cTold.kp G.bTold .nil pass0 (pa_cons pe_str pa_nil)) (pe_tup (pa_cons pe_str (pa_cons pe_int (pa_cons pe_bl pa_nil)))) (nomark _))))))), ?_⟩
    -- pen
    refine ⟨_, rfl, a, ns, rfl, hS, hlen, fun d c H1 p1 s1 nd => st_go (σ' := [some (.ref a), some (.ref d), none, none, none, none, none, none, none, none, none]) rfl ?_⟩
    -- for turn in range(4 + min(4, len(script)))
    have hS1 := s1.seq hS
    obtain ⟨N, eN, hN⟩ : ∃ N : Nat, ((4 : Int) + if (((ns.map V.int).length : Nat) : Int) < 4 then (((ns.map V.int).length : Nat) : Int) else 4) = (N : Int) ∧ N ≤ 8 := by
      by_cases h : (((ns.map V.int).length : Nat) : Int) < 4
      · rw [if_pos h]
        exact ⟨4 + (ns.map V.int).length, by omega, by omega⟩
      · rw [if_neg h]
        exact ⟨8, rfl, Nat.le_refl _⟩
    refine ⟨_, rfl, a, _, rfl, .inl hS1, _, _, rfl, _, _, rfl, rfl, (N : Int), congrArg (fun z => [V.int z]) eN, by omega, by omega, ?_⟩
    refine for_range (n := N) (fun i σ H' => ∃ v2 v3 v4 v5 v6 v7 v8 : Option V, σ = [some (.ref a), some (.ref d), v2, v3, v4, v5, v6, v7, v8, none, none] ∧ PenAt H' d c (40 * i))
      ⟨none, none, none, none, none, none, none, rfl, p1⟩ ?_ ?_
    · rintro i σ H2 hi ⟨v2, v3, v4, v5, v6, v7, v8, rfl, p2⟩
      -- words
      refine ⟨_, rfl, d, c, 40 * i, 4, rfl, p2, by omega, by decide, fun W ws H3 hwl hww hW nW p3 b3 => st_go (σ' := [some (.ref a), some (.ref d), some (.int (0 + (i : Int))), some (.ref W), v4, v5, v6, v7, v8, none, none]) rfl ?_⟩
      have hWp : 0 < (wV ws).length := by rw [List.length_map, hwl]; decide
      have hWl : (wV ws).length < 1000000 := by rw [List.length_map, hwl]; decide
      have hWm : ∀ v ∈ wV ws, ∃ x, v = V.str (S x) ∧ isW x = true := fun v hv => by
        obtain ⟨x, hx, rfl⟩ := List.mem_map.mp hv
        exact ⟨x, rfl, hww x hx⟩
      -- state, path
      refine ⟨_, rfl, _, rfl, d, c, _, _, rfl, p3, by omega, .inl ⟨W, _, rfl, hW, hWp, hWl, fun v H4 hv p4 b4 => ?_⟩⟩
      obtain ⟨s, rfl, hs⟩ := hWm v hv
      have hW4 := b4 _ _ hW (lst_ne hW p3)
      refine ⟨_, rfl, d, c, _, 5, rfl, p4, by omega, by decide, by decide, fun j H5 hj0 hj1 p5 b5 => ?_⟩
      obtain ⟨jn, rfl⟩ : ∃ k : Nat, j = (k : Int) := ⟨j.toNat, by omega⟩
      have hW5 := b5 _ _ hW4 (lst_ne hW4 p4)
      refine ⟨(jn : Int), rfl, by omega, by omega, fun D hD => ?_⟩
      refine lc_range (lo := 0) (n := jn) (fun k H' => PenAt H' d c (40 * i + 10 + 1 + 1 + k) ∧ H' W = some (.lst (wV ws)) ∧ ∃ ps : List (List Nat), H' D = some (.lst (wV ps)) ∧ ps.length = k ∧ ∀ x ∈ ps, isW x = true)
        ⟨p5.keep (same_new hD), same_new hD _ _ hW5, [], upd_same, rfl, fun x hx => by cases hx⟩ ?_ ?_
      · rintro k H' hk ⟨p6, hW6, ps, hps, hpl, hpw⟩
        have hDW : D ≠ W := fun z => by
          rw [z] at hD
          rw [hD] at hW5
          cases hW5
        have hDd : D ≠ d := fun z => p5.ne (by rw [← z]; exact hD)
        have hDc : D ≠ c := fun z => p5.neC (by rw [← z]; exact hD)
        refine ⟨rfl, _, rfl, _, rfl, d, c, _, _, rfl, p6, by omega, .inl ⟨W, _, rfl, hW6, hWp, hWl, fun v H7 hv p7 b7 => ?_⟩⟩
        obtain ⟨x, rfl, hx⟩ := hWm v hv
        refine ⟨_, b7 _ _ hps hDd, by rw [List.length_map]; exact size_lt (by omega), (p7.mono (by omega)).put hDd hDc, ?_, ps ++ [x], ?_, ?_, ?_⟩
        · rw [upd_ne hDW.symm]
          exact b7 _ _ hW6 (lst_ne hW6 p6)
        · rw [upd_same]
          show _ = some (HO.lst (List.map _ (_ ++ _)))
          rw [List.map_append]
          rfl
        · rw [List.length_append, hpl]
          rfl
        · intro y hy
          rcases List.mem_append.mp hy with h | h
          · exact hpw y h
          · rw [List.mem_singleton.mp h]
            exact hx
      · rintro H6 ⟨p6, _, ps, hps, hpl, hpw⟩
        have hpl4 : ps.length ≤ 4 := by omega
        refine ⟨D, _, rfl, .inl ⟨.inl (.inl hps), fun t nt => ⟨_, _, rfl, ?_⟩⟩⟩
        have p7 : PenAt (upd H6 t (.tup (wV ps))) d c (40 * i + 16) := (p6.mono (by omega)).keep (same_new nt)
        have ht : (upd H6 t (.tup (wV ps))) t = some (.tup (wV ps)) := upd_same
        generalize upd H6 t (.tup (wV ps)) = H7 at p7 ht ⊢
        refine st_is (σ' := [some (.ref a), some (.ref d), some (.int (0 + (i : Int))), some (.ref W), some (.str (S s)), some (.ref t), v6, v7, v8, none, none]) rfl ?_
        -- text = Address(state, list(path)).text()
        have hsl := isW_iff.mp hs
        have hps8 : ∀ x ∈ ps, x.length ≤ 8 := fun x hx => (isW_iff.mp (hpw x hx)).2.1
        have htl : (txt s ps).length ≤ 45 := by
          have := flat_len ps hps8
          unfold txt
          rw [List.length_append, List.length_cons]
          omega
        refine ⟨_, rfl, _, rfl, t, _, rfl, .inr (.inl (.inl ht)), fun l nl => ?_⟩
        have p8 : PenAt (upd H7 l (.lst (wV ps))) d c (40 * i + 16) := p7.keep (same_new nl)
        have hl8 : (upd H7 l (.lst (wV ps))) l = some (.lst (wV ps)) := upd_same
        have ht8 := same_new (o := .lst (wV ps)) nl _ _ ht
        generalize upd H7 l (.lst (wV ps)) = H8 at p8 hl8 ht8 ⊢
        intro x dx nx ndx nex
        have s9 : Same H8 (upd (upd H8 dx (.own x)) x (.ins C dx [])) := fun b o e => by
          rw [upd_ne (ne_of_none e nx), upd_ne (ne_of_none e ndx)]
          exact e
        refine ⟨x, dx, l, s, ps, rfl, upd_same, hs, s9 _ _ hl8, by omega, hpw, fun H9 t2 A2 nt2 kp => ⟨rfl, ?_⟩⟩
        have s10 : Same H8 H9 := fun b o e => kp b o (s9 _ _ e) (ne_of_none e nx)
        have A3 := A2
        obtain ⟨dy, ky, g1, g2⟩ := A2
        refine ⟨x, dy, _, rfl, g1, aF_no _ _ _ (by decide +kernel) (by decide +kernel) (by decide +kernel), x, t2, s, ps, rfl, A3, hsl.2.1, by omega, hps8, fun H10 s11 => ?_⟩
        have p10 : PenAt H10 d c (40 * i + 16) := (p8.keep s10).keep s11
        have ht10 := s11 _ _ (s10 _ _ ht8)
        refine st_go (σ' := [some (.ref a), some (.ref d), some (.int (0 + (i : Int))), some (.ref W), some (.str (S s)), some (.ref t), some (.str (S (txt s ps))), v7, v8, none, none]) rfl ?_
        clear kp s9 s10 s11 g1 g2 A3 nt2 nx ndx nex hl8 ht8 p8 nl p7 ht nt hps p6 hD p5 b5 p4 b4 hW4 hW5 p3 b3 p2
        -- if text != state + ":" + .. or told(text) != ("read", state, path)
        refine ⟨_, rfl, _, rfl, _, _, rfl, rfl, by rw [colon_S, len_S, len_S]; exact size_ok (by show s.length + 1 ≤ _; omega), ⟨_, rfl⟩, ?_⟩
        refine ⟨_, rfl, t, rfl, ⟨_, .inl (.inl ht10)⟩, fun D2 hD2 => ?_⟩
        refine lc_tup (K := K) (a := t) (xs := wV ps) (fun k H' => Same H10 H' ∧ H' D2 = some (.lst (wV ((ps.take k).map fun p => 47 :: p))))
          ⟨same_new hD2, upd_same⟩ (fun k H' _ z => .inl (.inl (z.1 _ _ ht10))) ?_ ?_
        · rintro k y H' hy ⟨s2, hDl⟩
          have hk : k < ps.length := by
            have z := (List.getElem?_eq_some_iff.mp hy).1
            rw [List.length_map] at z
            exact z
          have ex : y = V.str (S ps[k]) := by
            rw [List.getElem?_map, List.getElem?_eq_getElem hk] at hy
            exact (Option.some.inj hy).symm
          subst ex
          have h8 := hps8 _ (List.getElem_mem hk)
          refine ⟨rfl, _, rfl, _, _, rfl, rfl, by rw [slash_S, len_S, len_S]; exact size_ok (by show 1 + _ ≤ _; omega), _, hDl, by rw [List.length_map, List.length_map, List.length_take]; exact size_lt (by omega), ?_, ?_⟩
          · exact fun b o e => by rw [upd_ne (ne_of_none e hD2)]; exact s2 b o e
          · rw [upd_same, slash_S, S_cat, List.take_succ_eq_append_getElem hk, List.map_append]
            show _ = some (HO.lst (List.map _ (_ ++ _)))
            rw [List.map_append]
            rfl
        · rintro H11 ⟨s2, hDl⟩
          have el : (wV ps).length = ps.length := by rw [List.length_map]
          rw [el, List.take_length, wV_str] at hDl
          have h9 := sum_le8 ps hps8
          have h10 := flat_len ps hps8
          refine ⟨_, D2, _, rfl, rfl, .inl (.inl (.inl hDl)), by rw [emp_S, len_S]; show _ + _ * 0 ≤ _; omega, _, _, rfl, rfl, ?_, rfl, _, rfl, ?_⟩
          · rw [emp_S, join_S0, colon_S, S_cat, len_S, len_S, List.length_append]
            exact size_ok (by show s.length + 1 + _ ≤ _; omega)
          have p11 : PenAt H11 d c (40 * i + 16) := p10.keep s2
          have ht11 := s2 _ _ ht10
          have etx : V.str (S (txt s ps)) = V.str (S s ++ Str.ofString ":" ++ Txt.join (Str.ofString "") (List.map S (List.map (fun p => 47 :: p) ps))) := by
            rw [emp_S, join_S0, colon_S, S_cat, S_cat, List.append_assoc]
            rfl
          refine iteF' (by rw [decide_eq_true etx]; rfl) ?_
          have hTx := asc_txt hs hpw
          refine ⟨_, rfl, _, rfl, .inr ⟨txt s ps, rfl, by omega, fun r H12 s12 hr12 nr => ?_⟩⟩
          have p12 := p11.keep s12
          have ht12 := s12 _ _ ht11
          rw [rd_txt hs hpw] at hr12
          have hpl2 : Plain (.good s ps) := ⟨asc_word hs, fun x hx => asc_word (hpw x hx)⟩
          refine ⟨_, rfl, _, rfl, by show 3 ≤ sizeLine; decide, fun u nu => ?_⟩
          have p13 : PenAt (upd H12 u (.tup [.str (Str.ofString "read"), .str (S s), .ref t])) d c (40 * i + 16) := p12.keep (same_new nu)
          have hu13 : ResAt (upd H12 u (.tup [.str (Str.ofString "read"), .str (S s), .ref t])) u (.good s ps) := ⟨t, upd_same, same_new nu _ _ ht12⟩
          have hr13 := hr12.keep (same_new (o := .tup [.str (Str.ofString "read"), .str (S s), .ref t]) nu)
          generalize upd H12 u (.tup [.str (Str.ofString "read"), .str (S s), .ref t]) = H13 at p13 hu13 hr13 ⊢
          refine ⟨_, _, dat_dp hr13, dat_dp hu13, dat_sh hpl2, dat_sh hpl2, _, rfl, ?_⟩
          refine iteF' (by rw [dat_eq hpl2]; rfl) ?_
          clear hr12 hr13 hu13 p12 p11 p10 ht12 ht11 ht10 hDl s2 s12 etx nu nr hD2
          -- for again in range(5)
          refine ⟨5, rfl, by decide, by decide, for_range (n := 5) (fun j σ H' => ∃ (v7 : Option V) (l : List Nat), σ = [some (.ref a), some (.ref d), some (.int (0 + (i : Int))), some (.ref W), some (.str (S s)), some (.ref t), some (.str (S l)), v7, v8, none, none] ∧
            PenAt H' d c (40 * i + 16 + 3 * j) ∧ l.length ≤ 45 + 8 * j ∧ asc l) ⟨v7, txt s ps, rfl, p13, htl, hTx⟩ ?_ ?_⟩
          · rintro j σ H14 hj ⟨v7', l, rfl, p14, hll, hla⟩
            refine ⟨_, rfl, _, rfl, d, c, _, l, rfl, p14, by omega, by omega, hla, fun l' H15 h1 h2 p15 b15 => st_go (σ' := [some (.ref a), some (.ref d), some (.int (0 + (i : Int))), some (.ref W), some (.str (S s)), some (.ref t), some (.str (S l')), some (.int (0 + (j : Int))), v8, none, none]) rfl ?_⟩
            refine ⟨_, rfl, _, rfl, .inr ⟨l', rfl, by omega, fun r H16 s16 hr16 nr => ?_⟩⟩
            refine ⟨_, rfl, _, rfl, .inr ⟨l', rfl, by omega, h2, fun r' H17 s17 hr17 nr' => ?_⟩⟩
            rw [← rd_due] at hr17
            refine ⟨_, _, dat_dp (hr16.keep s17), dat_dp hr17, dat_sh (plain_rd h2), dat_sh (plain_rd h2), _, rfl, ?_⟩
            refine iteF' (by rw [dat_eq (plain_rd h2)]; rfl) ?_
            exact ⟨_, l', rfl, ((p15.keep s16).keep s17).mono (by omega), by omega, h2⟩
          · rintro σ H18 ⟨v7', l, rfl, p18, _, _⟩
            -- odd
            refine ⟨_, rfl, d, c, _, rfl, p18, by omega, fun v H19 hv p19 b19 => st_go (σ' := [some (.ref a), some (.ref d), some (.int (0 + (i : Int))), some (.ref W), some (.str (S s)), some (.ref t), some (.str (S l)), v7', some v, none, none]) rfl ?_⟩
            refine ⟨_, rfl, ?_⟩
            rcases hv.kinds (K := K) with ⟨l', rfl, hl1, hl2⟩ | hno
            · refine ⟨_, rfl, .inr ⟨l', rfl, by omega, fun r H20 s20 hr20 nr => ?_⟩⟩
              refine ⟨_, rfl, _, rfl, .inr ⟨l', rfl, by omega, hl2, fun r' H21 s21 hr21 nr' => ?_⟩⟩
              rw [← rd_due] at hr21
              refine ⟨_, _, dat_dp (hr20.keep s21), dat_dp hr21, dat_sh (plain_rd hl2), dat_sh (plain_rd hl2), _, rfl, ?_⟩
              refine iteF' (by rw [dat_eq (plain_rd hl2)]; rfl) ?_
              exact ⟨_, _, _, _, _, _, _, rfl, ((p19.keep s20).keep s21).mono (by omega)⟩
            · refine ⟨_, rfl, .inl ⟨hno _ (But.refl _ _), fun r H20 s20 hr20 nr => ?_⟩⟩
              refine ⟨_, rfl, _, rfl, .inl ⟨hno _ (but_of s20), fun r' H21 s21 hr21 nr' => ?_⟩⟩
              refine ⟨_, _, dat_dp (hr20.keep s21), dat_dp hr21, dat_sh (t := .bad 0) trivial, dat_sh (t := .bad 0) trivial, _, rfl, ?_⟩
              refine iteF' (by rw [dat_eq (t := .bad 0) trivial]; rfl) ?_
              exact ⟨_, _, _, _, _, _, _, rfl, ((p19.keep s20).keep s21).mono (by omega)⟩
    · rintro σ H2 ⟨v2, v3, v4, v5, v6, v7, v8, rfl, p2⟩
      -- return told("web:/a/") == ("text", 7, True) and told("web") == ("text", 3, True)
      refine ⟨_, rfl, .inr ⟨[119, 101, 98, 58, 47, 97, 47], congrArg V.str (by decide +kernel), by decide, fun r H3 s3 hr3 nr => ?_⟩⟩
      rw [web_a] at hr3
      refine ⟨by show 3 ≤ sizeLine; decide, fun u nu => ?_⟩
      have hu : ResAt (upd H3 u (.tup [.str (Str.ofString "text"), .int 7, .bl true])) u (.bad 7) := upd_same
      refine ⟨_, _, dat_dp (hr3.keep (same_new nu)), dat_dp hu, dat_sh (t := .bad 7) trivial, dat_sh (t := .bad 7) trivial, true, ?_, iteT ?_⟩
      · rw [dat_eq (t := .bad 7) trivial]
      refine ⟨_, rfl, .inr ⟨[119, 101, 98], congrArg V.str (by decide +kernel), by decide, fun r' H4 s4 hr4 nr' => ?_⟩⟩
      rw [web_0] at hr4
      refine ⟨by show 3 ≤ sizeLine; decide, fun u' nu' => ?_⟩
      have hu' : ResAt (upd H4 u' (.tup [.str (Str.ofString "text"), .int 3, .bl true])) u' (.bad 3) := upd_same
      refine ⟨_, _, dat_dp (hr4.keep (same_new nu')), dat_dp hu', dat_sh (t := .bad 3) trivial, dat_sh (t := .bad 3) trivial, ?_⟩
      rw [dat_eq (t := .bad 3) trivial]
      exact q _
end
end K3

namespace K3
open PySem L2 SX AddrMath
/-- a class names itself in an except clause -/
theorem exm_own {K : PySem.W.Frag} {S : Addr} (h1 : PySem.W.subIn K (.ref S) (.type "BaseException") = some true) (h2 : PySem.W.hasDictIn K S = true) (h3 : PySem.W.typeIn K (.ref S) = some (.type "type")) (h4 : PySem.W.subIn K (.ref S) (.ref S) = some true) :
    PySem.W.exmOne K (.ref S) (.ref S) = some true := PySem.W.exm_ref h1 h2 h3 h4
theorem kit_own {K : PySem.W.Frag} {S : Addr} (h : PySem.W.subIn K (.ref S) (.type "ValueError") = some true) : PySem.W.kitOne K (.ref S) (.type "ValueError") = some true := by
  unfold PySem.W.kitOne
  rw [if_neg (by intro z; cases (beq_iff_eq.mp z))]
  show (if PySem.W.kitMeta "ValueError" = true then PySem.W.subIn K (.ref S) (.type "ValueError") else none) = some true
  rw [if_pos (by decide +kernel)]
  exact h
theorem all_mk {l : PySem.W.OpenLaw} {w : World} {K : PySem.W.Frag} {h : Heap} {mg : Str → Option Value} {fa : Addr} (X : K.In h) (G : h.Ns mainGlobals mg) (hfa : mg "law" = some (.ref fa))
    {fIsW fAreW fWEnd fPen fDraw fPick fWords fAny fLW fCan fDue fTold fBent fLaw fState fPath fText fRead fErr fInit C CT pS pP pR TD eD : Addr} {odIsW anIsW odAreW anAreW odWEnd anWEnd odPen anPen odDraw anDraw odPick anPick odWords anWords odAny anAny odLW anLW odCan anCan odDue anDue odTold anTold odBent anBent odLaw anLaw odState anState odPath anPath odText anText odRead anRead odErr anErr odInit anInit odT : Option Addr} {slIsW slAreW slWEnd slPen slDraw slPick slWords slAny slLW slCan slDue slTold slBent slLaw slState slPath slText slRead slErr slInit slT : Array (Option Value)} {ocIsW kVIsW dcIsW pmIsW cdIsW ctIsW ocAreW kVAreW dcAreW pmAreW cdAreW ctAreW ocWEnd kVWEnd dcWEnd pmWEnd cdWEnd ctWEnd ocPen kVPen dcPen pmPen cdPen ctPen ocDraw kVDraw dcDraw pmDraw cdDraw ctDraw ocPick kVPick dcPick pmPick cdPick ctPick ocWords kVWords dcWords pmWords cdWords ctWords ocAny kVAny dcAny pmAny cdAny ctAny ocLW kVLW dcLW pmLW cdLW ctLW ocCan kVCan dcCan pmCan cdCan ctCan ocDue kVDue dcDue pmDue cdDue ctDue ocTold kVTold dcTold pmTold cdTold ctTold ocBent kVBent dcBent pmBent cdBent ctBent ocLaw kVLaw dcLaw pmLaw cdLaw ctLaw ocState kVState dcState pmState cdState ctState ocPath kVPath dcPath pmPath cdPath ctPath ocText kVText dcText pmText cdText ctText ocRead kVRead dcRead pmRead cdRead ctRead ocErr kVErr dcErr pmErr cdErr ctErr ocInit kVInit dcInit pmInit cdInit ctInit ocT mc : Value} {nT : Nat} {tk8 : Tok} {rS rP rR : List Value}
    {nm q : Str} {NN : Addr} {bs : List Value} {sn : List Str} {sub : List Value} {ab : Bool} {col : Option Bool} {dd : Option Addr} {m0 m1 m2 m3 m5 : Option Value}
    (aIsW : PySem.W.nsIn K mainGlobals "is_word" = some (some (.ref fIsW)))
    (lIsW : K.lookup fIsW = some ⟨ocIsW, odIsW, .func (PySem.W.fnOf "is_word" "is_word" (defArgs sIsWord) (defBody sIsWord) (defScope sIsWord) .none kVIsW dcIsW pmIsW anIsW cdIsW ctIsW), slIsW⟩) (cIsW : PySem.W.codeIn K cdIsW "is_word" = true) (kIsW : PySem.W.keepIn K (.ref fIsW) = true)
    (aAreW : PySem.W.nsIn K mainGlobals "are_words" = some (some (.ref fAreW)))
    (lAreW : K.lookup fAreW = some ⟨ocAreW, odAreW, .func (PySem.W.fnOf "are_words" "are_words" (defArgs sAreWords) (defBody sAreWords) (defScope sAreWords) .none kVAreW dcAreW pmAreW anAreW cdAreW ctAreW), slAreW⟩) (cAreW : PySem.W.codeIn K cdAreW "are_words" = true) (kAreW : PySem.W.keepIn K (.ref fAreW) = true)
    (aWEnd : PySem.W.nsIn K mainGlobals "word_end" = some (some (.ref fWEnd)))
    (lWEnd : K.lookup fWEnd = some ⟨ocWEnd, odWEnd, .func (PySem.W.fnOf "word_end" "word_end" (defArgs sWordEnd) (defBody sWordEnd) (defScope sWordEnd) .none kVWEnd dcWEnd pmWEnd anWEnd cdWEnd ctWEnd), slWEnd⟩) (cWEnd : PySem.W.codeIn K cdWEnd "word_end" = true) (kWEnd : PySem.W.keepIn K (.ref fWEnd) = true)
    (aPen : PySem.W.nsIn K mainGlobals "_law_pen" = some (some (.ref fPen)))
    (lPen : K.lookup fPen = some ⟨ocPen, odPen, .func (PySem.W.fnOf "_law_pen" "_law_pen" (defArgs sPen) (defBody sPen) (defScope sPen) .none kVPen dcPen pmPen anPen cdPen ctPen), slPen⟩) (cPen : PySem.W.codeIn K cdPen "_law_pen" = true) (kPen : PySem.W.keepIn K (.ref fPen) = true)
    (aDraw : PySem.W.nsIn K mainGlobals "_law_draw" = some (some (.ref fDraw)))
    (lDraw : K.lookup fDraw = some ⟨ocDraw, odDraw, .func (PySem.W.fnOf "_law_draw" "_law_draw" (defArgs sDraw) (defBody sDraw) (defScope sDraw) .none kVDraw dcDraw pmDraw anDraw cdDraw ctDraw), slDraw⟩) (cDraw : PySem.W.codeIn K cdDraw "_law_draw" = true) (kDraw : PySem.W.keepIn K (.ref fDraw) = true)
    (aPick : PySem.W.nsIn K mainGlobals "_law_pick" = some (some (.ref fPick)))
    (lPick : K.lookup fPick = some ⟨ocPick, odPick, .func (PySem.W.fnOf "_law_pick" "_law_pick" (defArgs sPick) (defBody sPick) (defScope sPick) .none kVPick dcPick pmPick anPick cdPick ctPick), slPick⟩) (cPick : PySem.W.codeIn K cdPick "_law_pick" = true) (kPick : PySem.W.keepIn K (.ref fPick) = true)
    (aWords : PySem.W.nsIn K mainGlobals "_law_words" = some (some (.ref fWords)))
    (lWords : K.lookup fWords = some ⟨ocWords, odWords, .func (PySem.W.fnOf "_law_words" "_law_words" (defArgs sWords) (defBody sWords) (defScope sWords) .none kVWords dcWords pmWords anWords cdWords ctWords), slWords⟩) (cWords : PySem.W.codeIn K cdWords "_law_words" = true) (kWords : PySem.W.keepIn K (.ref fWords) = true)
    (aAny : PySem.W.nsIn K mainGlobals "_law_any_value" = some (some (.ref fAny)))
    (lAny : K.lookup fAny = some ⟨ocAny, odAny, .func (PySem.W.fnOf "_law_any_value" "_law_any_value" (defArgs sAny) (defBody sAny) (defScope sAny) .none kVAny dcAny pmAny anAny cdAny ctAny), slAny⟩) (cAny : PySem.W.codeIn K cdAny "_law_any_value" = true) (kAny : PySem.W.keepIn K (.ref fAny) = true)
    (aLW : PySem.W.nsIn K mainGlobals "_law_is_word" = some (some (.ref fLW)))
    (lLW : K.lookup fLW = some ⟨ocLW, odLW, .func (PySem.W.fnOf "_law_is_word" "_law_is_word" (defArgs sLWord) (defBody sLWord) (defScope sLWord) .none kVLW dcLW pmLW anLW cdLW ctLW), slLW⟩) (cLW : PySem.W.codeIn K cdLW "_law_is_word" = true) (kLW : PySem.W.keepIn K (.ref fLW) = true)
    (aCan : PySem.W.nsIn K mainGlobals "_law_can_begin" = some (some (.ref fCan)))
    (lCan : K.lookup fCan = some ⟨ocCan, odCan, .func (PySem.W.fnOf "_law_can_begin" "_law_can_begin" (defArgs sCan) (defBody sCan) (defScope sCan) .none kVCan dcCan pmCan anCan cdCan ctCan), slCan⟩) (cCan : PySem.W.codeIn K cdCan "_law_can_begin" = true) (kCan : PySem.W.keepIn K (.ref fCan) = true)
    (aDue : PySem.W.nsIn K mainGlobals "_law_due" = some (some (.ref fDue)))
    (lDue : K.lookup fDue = some ⟨ocDue, odDue, .func (PySem.W.fnOf "_law_due" "_law_due" (defArgs sDue) (defBody sDue) (defScope sDue) .none kVDue dcDue pmDue anDue cdDue ctDue), slDue⟩) (cDue : PySem.W.codeIn K cdDue "_law_due" = true) (kDue : PySem.W.keepIn K (.ref fDue) = true)
    (aTold : PySem.W.nsIn K mainGlobals "_law_told" = some (some (.ref fTold)))
    (lTold : K.lookup fTold = some ⟨ocTold, odTold, .func (PySem.W.fnOf "_law_told" "_law_told" (defArgs sTold) (defBody sTold) (defScope sTold) .none kVTold dcTold pmTold anTold cdTold ctTold), slTold⟩) (cTold : PySem.W.codeIn K cdTold "_law_told" = true) (kTold : PySem.W.keepIn K (.ref fTold) = true)
    (aBent : PySem.W.nsIn K mainGlobals "_law_bent" = some (some (.ref fBent)))
    (lBent : K.lookup fBent = some ⟨ocBent, odBent, .func (PySem.W.fnOf "_law_bent" "_law_bent" (defArgs sBent) (defBody sBent) (defScope sBent) .none kVBent dcBent pmBent anBent cdBent ctBent), slBent⟩) (cBent : PySem.W.codeIn K cdBent "_law_bent" = true) (kBent : PySem.W.keepIn K (.ref fBent) = true)
    (aLaw : PySem.W.nsIn K mainGlobals "law" = some (some (.ref fLaw)))
    (lLaw : K.lookup fLaw = some ⟨ocLaw, odLaw, .func (PySem.W.fnOf "law" "law" (defArgs sLaw) (defBody sLaw) (defScope sLaw) .none kVLaw dcLaw pmLaw anLaw cdLaw ctLaw), slLaw⟩) (cLaw : PySem.W.codeIn K cdLaw "law" = true) (kLaw : PySem.W.keepIn K (.ref fLaw) = true)
    (aC : PySem.W.nsIn K mainGlobals "Address" = some (some (.ref C)))
    (aCT : PySem.W.nsIn K mainGlobals "InvalidText" = some (some (.ref CT)))
    (aL : PySem.W.nsIn K mainGlobals "LETTERS" = some (some (.int 8 tk8)))
    (pgC : PySem.W.plainGet K C Str.empty = true)
    (hdC : PySem.W.hasDictIn K C = true)
    (poC : PySem.W.plainOver K C = true)
    (saC : PySem.W.findIn K (.ref C) "__setattr__" = some (some (.builtin "object.__setattr__")))
    (mkC : PySem.W.makesIn K C = true)
    (kcC : PySem.W.keepIn K (.ref C) = true)
    (nS : PySem.W.findIn K (.ref C) "_state" = some none)
    (nP : PySem.W.findIn K (.ref C) "_path" = some none)
    (nK : PySem.W.findIn K (.ref C) "_key" = some none)
    (aInit : PySem.W.findIn K (.ref C) "__init__" = some (some (.ref fInit)))
    (iInit : PySem.W.isFn K (.ref fInit) = true)
    (lInit : K.lookup fInit = some ⟨ocInit, odInit, .func (PySem.W.fnOf "__init__" "Address.__init__" (defArgs sInit) (defBody sInit) (defScope sInit) (.ref TD) kVInit dcInit pmInit anInit cdInit ctInit), slInit⟩) (cInit : PySem.W.codeIn K cdInit "Address.__init__" = true) (kInit : PySem.W.keepIn K (.ref fInit) = true)
    (lTD : K.lookup TD = some ⟨ocT, odT, .seq [Value.ref eD].toArray nT, slT⟩)
    (aState : PySem.W.findIn K (.ref C) "state" = some (some (.ref pS)))
    (gState : PySem.W.specialIn K (.ref pS) "__get__" = some (some (.builtin "property.__get__")))
    (tState : PySem.W.takesIn K (.ref pS) = some true)
    (rState : PySem.W.recIn K pS "property" = some (.ref fState :: rS))
    (lState : K.lookup fState = some ⟨ocState, odState, .func (PySem.W.fnOf "state" "Address.state" (defArgs sState) (defBody sState) (defScope sState) .none kVState dcState pmState anState cdState ctState), slState⟩) (cState : PySem.W.codeIn K cdState "Address.state" = true) (kState : PySem.W.keepIn K (.ref fState) = true)
    (aPath : PySem.W.findIn K (.ref C) "path" = some (some (.ref pP)))
    (gPath : PySem.W.specialIn K (.ref pP) "__get__" = some (some (.builtin "property.__get__")))
    (tPath : PySem.W.takesIn K (.ref pP) = some true)
    (rPath : PySem.W.recIn K pP "property" = some (.ref fPath :: rP))
    (lPath : K.lookup fPath = some ⟨ocPath, odPath, .func (PySem.W.fnOf "path" "Address.path" (defArgs sPath) (defBody sPath) (defScope sPath) .none kVPath dcPath pmPath anPath cdPath ctPath), slPath⟩) (cPath : PySem.W.codeIn K cdPath "Address.path" = true) (kPath : PySem.W.keepIn K (.ref fPath) = true)
    (aText : PySem.W.findIn K (.ref C) "text" = some (some (.ref fText)))
    (iText : PySem.W.isFn K (.ref fText) = true)
    (lText : K.lookup fText = some ⟨ocText, odText, .func (PySem.W.fnOf "text" "Address.text" (defArgs sText) (defBody sText) (defScope sText) .none kVText dcText pmText anText cdText ctText), slText⟩) (cText : PySem.W.codeIn K cdText "Address.text" = true) (kText : PySem.W.keepIn K (.ref fText) = true)
    (tyC : PySem.W.typeIn K (.ref C) = some mc)
    (rdC : PySem.W.readsIn K C mc = true)
    (gaC : PySem.W.specialIn K (.ref C) "__getattribute__" = some (some (.builtin "type.__getattribute__")))
    (aRead : PySem.W.findCls K (.ref C) mc "read" = some (.get (.builtin "classmethod.__get__") (.ref pR) .none (.ref C)))
    (rRead : PySem.W.recIn K pR "classmethod" = some (.ref fRead :: rR))
    (fiRead : PySem.W.fnIn K fRead = true)
    (lRead : K.lookup fRead = some ⟨ocRead, odRead, .func (PySem.W.fnOf "read" "Address.read" (defArgs sRead) (defBody sRead) (defScope sRead) .none kVRead dcRead pmRead anRead cdRead ctRead), slRead⟩) (cRead : PySem.W.codeIn K cdRead "Address.read" = true) (kRead : PySem.W.keepIn K (.ref fRead) = true)
    (xT : K.lookup CT = some (excClassObj nm q CT NN bs [.type "ValueError", .type "Exception", .type "BaseException", .type "object"] true sn sub ab col dd m0 m1 m2 m3 m5 "ValueError.__new__"))
    (saT : PySem.W.findIn K (.ref CT) "__setattr__" = some (some (.builtin "object.__setattr__")))
    (exT : PySem.W.subIn K (.ref CT) (.type "BaseException") = some true)
    (tyT : PySem.W.typeIn K (.ref CT) = some (.type "type"))
    (kcT : PySem.W.keepIn K (.ref CT) = true)
    (aErr : PySem.W.findIn K (.ref CT) "__init__" = some (some (.ref fErr)))
    (tErr : PySem.W.typeIn K (.ref fErr) = some (.type "function"))
    (lErr : K.lookup fErr = some ⟨ocErr, odErr, .func (PySem.W.fnOf "__init__" "InvalidText.__init__" (defArgs sErr) (defBody sErr) (defScope sErr) .none kVErr dcErr pmErr anErr cdErr ctErr), slErr⟩) (cErr : PySem.W.codeIn K cdErr "InvalidText.__init__" = true) (kErr : PySem.W.keepIn K (.ref fErr) = true)
    (noT : PySem.W.findIn K (.ref CT) "index" = some none)
    (gaT : PySem.W.findIn K (.ref CT) "__getattribute__" = some (some (.builtin "BaseException.__getattribute__")))
    (ggT : PySem.W.findIn K (.ref CT) "__getattr__" = some none)
    (hdT : PySem.W.hasDictIn K CT = true)
    (clT : PySem.W.findIn K (.ref CT) "__class__" = some (some (.builtin "object.__class__")))
    (clg : PySem.W.specialIn K (.builtin "object.__class__") "__get__" = some (some (.builtin "getset_descriptor.__get__")))
    (clt : PySem.W.takesIn K (.builtin "object.__class__") = some true)
    (moT : PySem.W.mroIn K CT (.type "object") = some true)
    (sVT : PySem.W.subIn K (.ref CT) (.type "ValueError") = some true)
    (sTT : PySem.W.subIn K (.ref CT) (.ref CT) = some true)
    (isT : PySem.W.isClsIn K CT = true)
    (zisinstance : PySem.W.nsIn K mainGlobals "isinstance" = some none)
    (zstr : PySem.W.nsIn K mainGlobals "str" = some none)
    (zlen : PySem.W.nsIn K mainGlobals "len" = some none)
    (zlist : PySem.W.nsIn K mainGlobals "list" = some none)
    (ztuple : PySem.W.nsIn K mainGlobals "tuple" = some none)
    (zall : PySem.W.nsIn K mainGlobals "all" = some none)
    (zrange : PySem.W.nsIn K mainGlobals "range" = some none)
    (zmin : PySem.W.nsIn K mainGlobals "min" = some none)
    (zmax : PySem.W.nsIn K mainGlobals "max" = some none)
    (zint : PySem.W.nsIn K mainGlobals "int" = some none)
    (zValueError : PySem.W.nsIn K mainGlobals "ValueError" = some none) :
    ∃ fd : FuncData, (∀ (s : Shared) (v : Value), BindsTo s fd ⟨[v], []⟩ [("_law_script", v)]) ∧ ∀ base : Heap, K.In base → base.Ns mainGlobals mg → FnOk l.prog w K mg base CX0 7 fa fd ["_law_script"] (spLaw K) := by
  have e := hfa.symm.trans (PySem.W.mg_of X G aLaw)
  cases e
  have yisinstance : mg "isinstance" = none := PySem.W.mg_none_of X G zisinstance
  have ystr : mg "str" = none := PySem.W.mg_none_of X G zstr
  have ylen : mg "len" = none := PySem.W.mg_none_of X G zlen
  have ylist : mg "list" = none := PySem.W.mg_none_of X G zlist
  have ytuple : mg "tuple" = none := PySem.W.mg_none_of X G ztuple
  have yall : mg "all" = none := PySem.W.mg_none_of X G zall
  have yrange : mg "range" = none := PySem.W.mg_none_of X G zrange
  have ymin : mg "min" = none := PySem.W.mg_none_of X G zmin
  have ymax : mg "max" = none := PySem.W.mg_none_of X G zmax
  have yint : mg "int" = none := PySem.W.mg_none_of X G zint
  have yValueError : mg "ValueError" = none := PySem.W.mg_none_of X G zValueError
  have yL : mg "LETTERS" = some (.int 8 tk8) := PySem.W.mg_of X G aL
  have T : ATxt K mg C := ⟨⟨pgC, hdC, poC, saC⟩, nS, nP, nK, PySem.W.mg_of X G aC⟩
  have TE : ErrC K mg CT fErr := ⟨⟨⟨nm, q, NN, bs, _, sn, sub, ab, col, dd, m0, m1, m2, m3, m5, xT, by decide +kernel⟩, saT, exT, tyT, kcT⟩, aErr, tErr, noT, PySem.W.mg_of X G aCT⟩
  have FIsW := fun_mk (st := sIsWord) lIsW cIsW kIsW
  have bIsW := FIsW.binds (ps := ["value"]) fun _ _ _ _ _ _ us hl => match us, hl with | [_], _ => rfl
  have dIsW : Cd K mg "is_word" fIsW := ⟨PySem.W.mg_of X G aIsW, kIsW⟩
  have FAreW := fun_mk (st := sAreWords) lAreW cAreW kAreW
  have bAreW := FAreW.binds (ps := ["value"]) fun _ _ _ _ _ _ us hl => match us, hl with | [_], _ => rfl
  have dAreW : Cd K mg "are_words" fAreW := ⟨PySem.W.mg_of X G aAreW, kAreW⟩
  have FWEnd := fun_mk (st := sWordEnd) lWEnd cWEnd kWEnd
  have bWEnd := FWEnd.binds (ps := ["text", "start"]) fun _ _ _ _ _ _ us hl => match us, hl with | [_, _], _ => rfl
  have dWEnd : Cd K mg "word_end" fWEnd := ⟨PySem.W.mg_of X G aWEnd, kWEnd⟩
  have FPen := fun_mk (st := sPen) lPen cPen kPen
  have bPen := FPen.binds (ps := ["_law_script"]) fun _ _ _ _ _ _ us hl => match us, hl with | [_], _ => rfl
  have dPen : Cd K mg "_law_pen" fPen := ⟨PySem.W.mg_of X G aPen, kPen⟩
  have FDraw := fun_mk (st := sDraw) lDraw cDraw kDraw
  have bDraw := FDraw.binds (ps := ["_law_pen_here", "_law_many"]) fun _ _ _ _ _ _ us hl => match us, hl with | [_, _], _ => rfl
  have dDraw : Cd K mg "_law_draw" fDraw := ⟨PySem.W.mg_of X G aDraw, kDraw⟩
  have FPick := fun_mk (st := sPick) lPick cPick kPick
  have bPick := FPick.binds (ps := ["_law_pen_here", "_law_items"]) fun _ _ _ _ _ _ us hl => match us, hl with | [_, _], _ => rfl
  have dPick : Cd K mg "_law_pick" fPick := ⟨PySem.W.mg_of X G aPick, kPick⟩
  have FWords := fun_mk (st := sWords) lWords cWords kWords
  have bWords := FWords.binds (ps := ["_law_pen_here", "_law_many"]) fun _ _ _ _ _ _ us hl => match us, hl with | [_, _], _ => rfl
  have dWords : Cd K mg "_law_words" fWords := ⟨PySem.W.mg_of X G aWords, kWords⟩
  have FAny := fun_mk (st := sAny) lAny cAny kAny
  have bAny := FAny.binds (ps := ["_law_pen_here"]) fun _ _ _ _ _ _ us hl => match us, hl with | [_], _ => rfl
  have dAny : Cd K mg "_law_any_value" fAny := ⟨PySem.W.mg_of X G aAny, kAny⟩
  have FLW := fun_mk (st := sLWord) lLW cLW kLW
  have bLW := FLW.binds (ps := ["_law_value"]) fun _ _ _ _ _ _ us hl => match us, hl with | [_], _ => rfl
  have dLW : Cd K mg "_law_is_word" fLW := ⟨PySem.W.mg_of X G aLW, kLW⟩
  have FCan := fun_mk (st := sCan) lCan cCan kCan
  have bCan := FCan.binds (ps := ["_law_text"]) fun _ _ _ _ _ _ us hl => match us, hl with | [_], _ => rfl
  have dCan : Cd K mg "_law_can_begin" fCan := ⟨PySem.W.mg_of X G aCan, kCan⟩
  have FDue := fun_mk (st := sDue) lDue cDue kDue
  have bDue := FDue.binds (ps := ["_law_text"]) fun _ _ _ _ _ _ us hl => match us, hl with | [_], _ => rfl
  have dDue : Cd K mg "_law_due" fDue := ⟨PySem.W.mg_of X G aDue, kDue⟩
  have FTold := fun_mk (st := sTold) lTold cTold kTold
  have bTold := FTold.binds (ps := ["_law_text"]) fun _ _ _ _ _ _ us hl => match us, hl with | [_], _ => rfl
  have dTold : Cd K mg "_law_told" fTold := ⟨PySem.W.mg_of X G aTold, kTold⟩
  have FBent := fun_mk (st := sBent) lBent cBent kBent
  have bBent := FBent.binds (ps := ["_law_pen_here", "_law_text"]) fun _ _ _ _ _ _ us hl => match us, hl with | [_, _], _ => rfl
  have dBent : Cd K mg "_law_bent" fBent := ⟨PySem.W.mg_of X G aBent, kBent⟩
  have FLaw := fun_mk (st := sLaw) lLaw cLaw kLaw
  have FState := fun_mk (st := sState) lState cState kState
  have bState := FState.binds (ps := ["self"]) fun _ _ _ _ _ _ us hl => match us, hl with | [_], _ => rfl
  have FPath := fun_mk (st := sPath) lPath cPath kPath
  have bPath := FPath.binds (ps := ["self"]) fun _ _ _ _ _ _ us hl => match us, hl with | [_], _ => rfl
  have FText := fun_mk (st := sText) lText cText kText
  have bText := FText.binds (ps := ["self"]) fun _ _ _ _ _ _ us hl => match us, hl with | [_], _ => rfl
  have FRead := fun_mk (st := sRead) lRead cRead kRead
  have bRead := FRead.binds (ps := ["cls", "text"]) fun _ _ _ _ _ _ us hl => match us, hl with | [_, _], _ => rfl
  have FErr := fun_mk (st := sErr) lErr cErr kErr
  have bErr := FErr.binds (ps := ["self", "index"]) fun _ _ _ _ _ _ us hl => match us, hl with | [_, _], _ => rfl
  have FInit : FunD K "__init__" "Address.__init__" (defArgs sInit) (defBody sInit) (defScope sInit) [.ref eD] [] fInit (PySem.W.fnOf "__init__" "Address.__init__" (defArgs sInit) (defBody sInit) (defScope sInit) (.ref TD) kVInit dcInit pmInit anInit cdInit ctInit) :=
    ⟨⟨ocInit, odInit, _, kVInit, dcInit, pmInit, anInit, cdInit, ctInit, slInit, rfl, lInit, cInit, .inr ⟨by simp, TD, _, [Value.ref eD], nT, rfl, lTD, rfl, .cons rfl .nil⟩, .inl rfl⟩, kInit⟩
  have bInit0 := FInit.binds1 (ps := ["self", "state", "path"]) 3 1 (by simp) rfl fun TT kV doc pm an cdv ct us its h1 h2 => match us, h1, its, h2 with | [_, _, _], _, [_], _ => ⟨_, rfl, rfl⟩
  obtain ⟨ds, vd, bInit⟩ := bInit0
  cases vd
  have MI : Mk K C fInit := ⟨mkC, aInit, iInit, kcC⟩
  refine ⟨PySem.W.fnOf "law" "law" (defArgs sLaw) (defBody sLaw) (defScope sLaw) .none kVLaw dcLaw pmLaw anLaw cdLaw ctLaw, fun s v => .of_eq rfl, fun base _ _ => ?_⟩
  have gPen := ok_pen (P := l.prog) (w := w) (base := base) FPen ylist
  have gDraw := ok_draw (P := l.prog) (w := w) (base := base) FDraw yint ylen
  have gPick := ok_pick FPick gDraw dDraw bDraw ylen
  have gWords := ok_words FWords gDraw dDraw bDraw gPick dPick bPick ylen yrange yint
  have gIsW := ok_isword (P := l.prog) (w := w) (base := base) FIsW yisinstance ystr ylen yL
  have gAreW := ok_arewords FAreW gIsW dIsW bIsW yisinstance ylist ytuple yall
  have gInit := ok_init FInit T gIsW dIsW bIsW gAreW dAreW bAreW ytuple ylen
  have gState' := ok_state (P := l.prog) (w := w) (base := base) FState T
  have gPath' := ok_path (P := l.prog) (w := w) (base := base) FPath T
  have gText := ok_text (P := l.prog) (w := w) (base := base) FText T
  have gWEnd := ok_wordend (P := l.prog) (w := w) (base := base) FWEnd ylen yL
  have gErr := ok_err (P := l.prog) (w := w) (base := base) FErr TE
  have gRead := ok_read FRead TE gErr bErr gWEnd dWEnd bWEnd MI gInit bInit yisinstance ystr ylen
  have gLW := ok_lword (P := l.prog) (w := w) (base := base) FLW yisinstance ystr ylen
  have gCan := ok_can FCan gLW dLW bLW ylen
  have gDue := ok_due FDue gCan dCan bCan yisinstance ystr ymax yrange ylen ytuple yint
  have gTold := ok_told FTold T TE ⟨rdC, gaC⟩ ⟨aRead, ⟨_, rRead⟩, fiRead⟩ gRead bRead ⟨aState, gState, tState, ⟨_, rState⟩⟩ gState' bState ⟨aPath, gPath, tPath, ⟨_, rPath⟩⟩ gPath' bPath ⟨gaT, ggT, exT, hdT⟩ ⟨gaT, ggT, exT, hdT, clT, clg, clt, moT⟩ (kit_own sVT) (exm_own exT hdT tyT sTT) yisinstance yValueError
  have gBent := ok_bent FBent gDraw dDraw bDraw gPick dPick bPick ylen
  have gAny := ok_any FAny gPick dPick bPick
  exact ok_law FLaw T ⟨_, _, gPen, dPen, bPen, _, _, gDraw, dDraw, bDraw, _, _, gPick, dPick, bPick, _, _, gWords, dWords, bWords, _, _, gAny, dAny, bAny, _, _, gDue, dDue, bDue, _, _, gTold, dTold, bTold, _, _, gBent, dBent, bBent, _, _, MI, gInit, bInit, _, _, ⟨aText, iText, kText⟩, gText, bText⟩
    yrange ymin ylen ytuple ylist
theorem walk {l : PySem.W.OpenLaw} {q : Program} {loose : List Str} {XP : (Str → Option Value) → Heap → Prop} {YP : World → Heap → Prop} {d : DefRec} {K : Params → PySem.W.Frag} (hn : l.most = some 63) (hdf : d.params.defaults = [])
    (hY : ∀ (w : World) (h : Heap), YP w h → (K w.params).In h)
    (F : ∀ (w : World) (mg : Str → Option Value) (fa : Addr) (h : Heap), (K w.params).In h → h.Ns mainGlobals mg → mg d.name = some (.ref fa) →
      ∃ fd : FuncData, (∀ (s : Shared) (u : Value), BindsTo s fd ⟨[u], []⟩ [("_law_script", u)]) ∧ ∀ base : Heap, (K w.params).In base → base.Ns mainGlobals mg → FnOk l.prog w (K w.params) mg base CX0 7 fa fd ["_law_script"] (spLaw (K w.params))) :
    PySem.W.WalkO q loose XP YP l.row.toRowW d [] (fun f vs => PySem.call f vs) :=
  L2.walk_of (n := 63) (k := 7) (x := "_law_script") (CX := fun _ => CX0) (sp := fun w => spLaw (K w.params)) hn (by decide) hdf ⟨rfl, by decide, by decide⟩ hY F (fun _ _ a ns hl _ hS => ⟨a, ns, rfl, hS, hl, fun _ => rfl⟩) fun _ _ _ _ _ z => z
end K3

open PySem PySem.W PyProof.Rows
set_option maxRecDepth 100000 in
set_option maxHeartbeats 0 in
theorem PySem.Challenge.cw_sentonward_k03_whole_address_texts_holds : PySem.Challenge.rw_sentonward_k03_whole_address_texts.Holds := by
  w_on; o_law; k_head; (case hw => w_witness2)
  k_fill
  refine K3.walk (l := PySem.Challenge.rw_sentonward_k03_whole_address_texts) rfl rfl (fun w h Y => PySem.W.kIn_of Y) ?F
  case F =>
    intro w mg fa h KX G hmg
    refine' K3.all_mk KX G hmg ?aIsW ?lIsW ?cIsW ?kIsW ?aAreW ?lAreW ?cAreW ?kAreW ?aWEnd ?lWEnd ?cWEnd ?kWEnd ?aPen ?lPen ?cPen ?kPen ?aDraw ?lDraw ?cDraw ?kDraw ?aPick ?lPick ?cPick ?kPick ?aWords ?lWords ?cWords ?kWords ?aAny ?lAny ?cAny ?kAny ?aLW ?lLW ?cLW ?kLW ?aCan ?lCan ?cCan ?kCan ?aDue ?lDue ?cDue ?kDue ?aTold ?lTold ?cTold ?kTold ?aBent ?lBent ?cBent ?kBent ?aLaw ?lLaw ?cLaw ?kLaw ?aC ?aCT ?aL ?pgC ?hdC ?poC ?saC ?mkC ?kcC ?nS ?nP ?nK ?aInit ?iInit ?lInit ?cInit ?kInit ?lTD ?aState ?gState ?tState ?rState ?lState ?cState ?kState ?aPath ?gPath ?tPath ?rPath ?lPath ?cPath ?kPath ?aText ?iText ?lText ?cText ?kText ?tyC ?rdC ?gaC ?aRead ?rRead ?fiRead ?lRead ?cRead ?kRead ?xT ?saT ?exT ?tyT ?kcT ?aErr ?tErr ?lErr ?cErr ?kErr ?noT ?gaT ?ggT ?hdT ?clT ?clg ?clt ?moT ?sVT ?sTT ?isT ?zisinstance ?zstr ?zlen ?zlist ?ztuple ?zall ?zrange ?zmin ?zmax ?zint ?zValueError
    (case aIsW => k_is)
    (case lIsW => k_is)
    (case cIsW => k_is)
    (case kIsW => k_is)
    (case aAreW => k_is)
    (case lAreW => k_is)
    (case cAreW => k_is)
    (case kAreW => k_is)
    (case aWEnd => k_is)
    (case lWEnd => k_is)
    (case cWEnd => k_is)
    (case kWEnd => k_is)
    (case aPen => k_is)
    (case lPen => k_is)
    (case cPen => k_is)
    (case kPen => k_is)
    (case aDraw => k_is)
    (case lDraw => k_is)
    (case cDraw => k_is)
    (case kDraw => k_is)
    (case aPick => k_is)
    (case lPick => k_is)
    (case cPick => k_is)
    (case kPick => k_is)
    (case aWords => k_is)
    (case lWords => k_is)
    (case cWords => k_is)
    (case kWords => k_is)
    (case aAny => k_is)
    (case lAny => k_is)
    (case cAny => k_is)
    (case kAny => k_is)
    (case aLW => k_is)
    (case lLW => k_is)
    (case cLW => k_is)
    (case kLW => k_is)
    (case aCan => k_is)
    (case lCan => k_is)
    (case cCan => k_is)
    (case kCan => k_is)
    (case aDue => k_is)
    (case lDue => k_is)
    (case cDue => k_is)
    (case kDue => k_is)
    (case aTold => k_is)
    (case lTold => k_is)
    (case cTold => k_is)
    (case kTold => k_is)
    (case aBent => k_is)
    (case lBent => k_is)
    (case cBent => k_is)
    (case kBent => k_is)
    (case aLaw => k_is)
    (case lLaw => k_is)
    (case cLaw => k_is)
    (case kLaw => k_is)
    (case aC => k_is)
    (case aCT => k_is)
    (case aL => k_is)
    (case pgC => k_is)
    (case hdC => k_is)
    (case poC => k_is)
    (case saC => k_is)
    (case mkC => k_is)
    (case kcC => k_is)
    (case nS => k_is)
    (case nP => k_is)
    (case nK => k_is)
    (case aInit => k_is)
    (case iInit => k_is)
    (case lInit => k_is)
    (case cInit => k_is)
    (case kInit => k_is)
    (case lTD => k_is)
    (case aState => k_is)
    (case gState => k_is)
    (case tState => k_is)
    (case rState => k_is)
    (case lState => k_is)
    (case cState => k_is)
    (case kState => k_is)
    (case aPath => k_is)
    (case gPath => k_is)
    (case tPath => k_is)
    (case rPath => k_is)
    (case lPath => k_is)
    (case cPath => k_is)
    (case kPath => k_is)
    (case aText => k_is)
    (case iText => k_is)
    (case lText => k_is)
    (case cText => k_is)
    (case kText => k_is)
    (case tyC => k_is)
    (case rdC => k_is)
    (case gaC => k_is)
    (case aRead => k_is)
    (case rRead => k_is)
    (case fiRead => k_is)
    (case lRead => k_is)
    (case cRead => k_is)
    (case kRead => k_is)
    (case xT => k_is)
    (case saT => k_is)
    (case exT => k_is)
    (case tyT => k_is)
    (case kcT => k_is)
    (case aErr => k_is)
    (case tErr => k_is)
    (case lErr => k_is)
    (case cErr => k_is)
    (case kErr => k_is)
    (case noT => k_is)
    (case gaT => k_is)
    (case ggT => k_is)
    (case hdT => k_is)
    (case clT => k_is)
    (case clg => k_is)
    (case clt => k_is)
    (case moT => k_is)
    (case sVT => k_is)
    (case sTT => k_is)
    (case isT => k_is)
    (case zisinstance => k_is)
    (case zstr => k_is)
    (case zlen => k_is)
    (case zlist => k_is)
    (case ztuple => k_is)
    (case zall => k_is)
    (case zrange => k_is)
    (case zmin => k_is)
    (case zmax => k_is)
    (case zint => k_is)
    (case zValueError => k_is)

