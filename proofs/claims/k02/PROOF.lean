import PyProof.Rows.All
import Wide.All
import OpenK.AllK
import Wide.FinOn
import HandS.ForMost
import HandS.ForExc
import HandS.ExcInit
import HandS.ExcField
import HandS.ClsMeth
import HandS.Property
import HandS.Defaults
import HandS.IsInst
import HandS.ExcIs
import HandS.StrMore
import HandS.Codes
import HandS.OwnEq
import HandS.Ends
import HandS.Words
import KE.DatumMoreOrd
import HandS.SlotsOwn
import HandS.TupAny
import PySem.Challenge.RW_sentonward_k02_whole_order_of_addresses
set_option Elab.async false
set_option linter.all false
set_option maxRecDepth 100000
set_option maxHeartbeats 8000000
namespace AddrMath
/-- a letter from a to z -/
def isL (c : Nat) : Bool := decide (97 ≤ c) && decide (c ≤ 122)
/-- a word -/
def isW (l : List Nat) : Bool := decide (1 ≤ l.length) && (decide (l.length ≤ 8) && l.all isL)
theorem isW_iff {l : List Nat} : isW l = true ↔ 1 ≤ l.length ∧ l.length ≤ 8 ∧ ∀ c ∈ l, isL c = true := by
  unfold isW
  rw [Bool.and_eq_true, Bool.and_eq_true, decide_eq_true_eq, decide_eq_true_eq, List.all_eq_true]
theorem isL_ne {c d : Nat} (h : isL c = true) (hd : d < 97) : c ≠ d := by
  unfold isL at h
  rw [Bool.and_eq_true, decide_eq_true_eq, decide_eq_true_eq] at h
  omega
/-- cut at each d -/
def sp (d : Nat) : List Nat → List (List Nat)
  | [] => [[]]
  | c :: r => if c = d then [] :: sp d r else match sp d r with
    | [] => [[c]]
    | p :: q => (c :: p) :: q
theorem sp_ne (d : Nat) : ∀ l, sp d l ≠ []
  | [] => by simp [sp]
  | c :: r => by
    unfold sp
    split
    · simp
    · split <;> simp
theorem sp_hit (d : Nat) (r : List Nat) : sp d (d :: r) = [] :: sp d r := by
  show (if d = d then [] :: sp d r else _) = _
  rw [if_pos rfl]
/-- the first piece and the others -/
theorem sp_cons (d : Nat) (l : List Nat) : ∃ p q, sp d l = p :: q := by
  cases h : sp d l with
  | nil => exact absurd h (sp_ne d l)
  | cons p q => exact ⟨p, q, rfl⟩
theorem sp_miss {d c : Nat} {r p : List Nat} {q : List (List Nat)} (hc : c ≠ d) (h : sp d r = p :: q) : sp d (c :: r) = (c :: p) :: q := by
  show (if c = d then [] :: sp d r else match sp d r with | [] => [[c]] | p :: q => (c :: p) :: q) = _
  rw [if_neg hc, h]
theorem sp_pre {d : Nat} : ∀ {a r p : List Nat} {q : List (List Nat)}, d ∉ a → sp d r = p :: q → sp d (a ++ r) = (a ++ p) :: q
  | [], _, _, _, _, h => h
  | c :: a, r, p, q, ha, h => by
    have h1 : c ≠ d := fun e => ha (by rw [e]; exact List.mem_cons_self ..)
    have h2 : d ∉ a := fun e => ha (List.mem_cons_of_mem _ e)
    exact sp_miss h1 (sp_pre h2 h)
theorem sp_free {d : Nat} {a : List Nat} (h : d ∉ a) : sp d a = [a] := by
  have e := sp_pre (r := []) (p := []) (q := []) h (by rfl)
  rw [List.append_nil] at e
  exact e
theorem sp_at {d : Nat} {a r : List Nat} (h : d ∉ a) : sp d (a ++ d :: r) = a :: sp d r := by
  have e := sp_pre (r := d :: r) (p := []) (q := sp d r) h (sp_hit d r)
  rw [List.append_nil] at e
  exact e
/-! ### the law's own look -/
/-- the pieces behind the first one: words, the last one may be empty -/
def segs : List (List Nat) → Bool
  | [] => false
  | [p] => decide (p = []) || isW p
  | p :: q :: r => isW p && segs (q :: r)
def tailOk (b : List Nat) : Bool := match sp 47 b with
  | [] => false
  | p :: q => decide (p = []) && segs q
def cb (l : List Nat) : Bool := match sp 58 l with
  | [a] => decide (a = []) || isW a
  | [a, b] => isW a && (decide (b = []) || tailOk b)
  | _ => false
/-! ### sign by sign -/
def cC : Nat → List Nat → Bool
  | _, [] => true
  | k, c :: r => if isL c = true then decide (k < 8) && cC (k + 1) r else if c = 47 then decide (1 ≤ k) && cC 0 r else false
def cB : List Nat → Bool
  | [] => true
  | c :: r => if c = 47 then cC 0 r else false
def cA : Nat → List Nat → Bool
  | _, [] => true
  | k, c :: r => if isL c = true then decide (k < 8) && cA (k + 1) r else if c = 58 then decide (1 ≤ k) && cB r else false
theorem isW_long {p : List Nat} (h : 8 < p.length) : isW p = false := by
  cases e : isW p with
  | false => rfl
  | true =>
    have := isW_iff.mp e
    omega
theorem isW_bad {p : List Nat} {c : Nat} (h : c ∈ p) (hc : isL c = false) : isW p = false := by
  cases e : isW p with
  | false => rfl
  | true =>
    have := (isW_iff.mp e).2.2 c h
    rw [hc] at this
    cases this
theorem segs_bad {p : List Nat} {q : List (List Nat)} (h : isW p = false) (hp : p ≠ []) : segs (p :: q) = false := by
  cases q with
  | nil => simp [segs, h, hp]
  | cons a q => simp [segs, h]
theorem isW_mk {a : List Nat} (h8 : a.length ≤ 8) (hl : ∀ c ∈ a, isL c = true) : isW a = decide (1 ≤ a.length) := by
  by_cases h : 1 ≤ a.length
  · rw [decide_eq_true h]
    exact isW_iff.mpr ⟨h, h8, hl⟩
  · rw [decide_eq_false h]
    cases e : isW a with
    | false => rfl
    | true => exact absurd (isW_iff.mp e).1 h
theorem all_snoc {a : List Nat} {c : Nat} (hl : ∀ x ∈ a, isL x = true) (hc : isL c = true) : ∀ x ∈ a ++ [c], isL x = true := by
  intro x hx
  rcases List.mem_append.mp hx with h | h
  · exact hl x h
  · rw [List.mem_singleton.mp h]
    exact hc
theorem no_of {a : List Nat} {d : Nat} (hd : d < 97) (hl : ∀ x ∈ a, isL x = true) : d ∉ a := fun h => isL_ne (hl d h) hd rfl
theorem cC_segs : ∀ (l a : List Nat), a.length ≤ 8 → (∀ c ∈ a, isL c = true) → segs (sp 47 (a ++ l)) = cC a.length l
  | [], a, h8, hl => by
    rw [List.append_nil, sp_free (no_of (by decide) hl)]
    show (decide (a = []) || isW a) = true
    rw [isW_mk h8 hl]
    cases a <;> simp
  | c :: r, a, h8, hl => by
    have h47 := no_of (d := 47) (by decide) hl
    show _ = (if isL c = true then decide (a.length < 8) && cC (a.length + 1) r else if c = 47 then decide (1 ≤ a.length) && cC 0 r else false)
    by_cases hc : isL c = true
    · rw [if_pos hc]
      have hne : c ≠ 47 := isL_ne hc (by decide)
      by_cases hk : a.length < 8
      · have ih := cC_segs r (a ++ [c]) (by rw [List.length_append]; exact hk) (all_snoc hl hc)
        rw [List.append_assoc] at ih
        rw [decide_eq_true hk, Bool.true_and]
        have e : (a ++ [c]).length = a.length + 1 := by simp
        rw [e] at ih
        exact ih
      · rw [decide_eq_false hk, Bool.false_and]
        obtain ⟨p, q, hp⟩ := sp_cons 47 r
        rw [sp_pre h47 (sp_miss hne hp)]
        refine segs_bad (isW_long ?_) (by simp)
        rw [List.length_append, List.length_cons]
        omega
    · rw [if_neg hc]
      by_cases he : c = 47
      · rw [if_pos he, he, sp_at h47]
        obtain ⟨p, q, hp⟩ := sp_cons 47 r
        have ih := cC_segs r [] (by simp) (fun x hx => by cases hx)
        rw [List.nil_append] at ih
        rw [show cC 0 r = cC ([] : List Nat).length r from rfl, ← ih, hp, ← isW_mk h8 hl]
        rfl
      · rw [if_neg he]
        obtain ⟨p, q, hp⟩ := sp_cons 47 r
        rw [sp_pre h47 (sp_miss he hp)]
        exact segs_bad (isW_bad (c := c) (by simp) (by simpa using hc)) (by simp)
/-- behind the colon -/
theorem cB_tail (b : List Nat) : (decide (b = []) || tailOk b) = cB b := by
  cases b with
  | nil => rfl
  | cons c r =>
    show (decide (c :: r = []) || tailOk (c :: r)) = (if c = 47 then cC 0 r else false)
    rw [decide_eq_false (by simp), Bool.false_or]
    by_cases hc : c = 47
    · rw [if_pos hc, hc]
      unfold tailOk
      rw [sp_hit]
      show (decide (([] : List Nat) = []) && segs (sp 47 r)) = _
      rw [decide_eq_true rfl, Bool.true_and]
      exact cC_segs r [] (by simp) (fun x hx => by cases hx)
    · rw [if_neg hc]
      unfold tailOk
      obtain ⟨p, q, hp⟩ := sp_cons 47 r
      rw [sp_miss hc hp]
      show (decide (c :: p = []) && segs q) = false
      rw [decide_eq_false (by simp), Bool.false_and]
theorem cC_58 : ∀ (k : Nat) (r : List Nat), 58 ∈ r → cC k r = false
  | _, [], h => by cases h
  | k, c :: r, h => by
    show (if isL c = true then decide (k < 8) && cC (k + 1) r else if c = 47 then decide (1 ≤ k) && cC 0 r else false) = false
    by_cases hc : isL c = true
    · rw [if_pos hc]
      have hm : 58 ∈ r := by
        rcases List.mem_cons.mp h with e | e
        · exact absurd e.symm (isL_ne hc (by decide))
        · exact e
      rw [cC_58 (k + 1) r hm, Bool.and_false]
    · rw [if_neg hc]
      by_cases he : c = 47
      · rw [if_pos he]
        have hm : 58 ∈ r := by
          rcases List.mem_cons.mp h with e | e
          · omega
          · exact e
        rw [cC_58 0 r hm, Bool.and_false]
      · rw [if_neg he]
theorem cB_58 {r : List Nat} (h : 58 ∈ r) : cB r = false := by
  cases r with
  | nil => cases h
  | cons c r =>
    show (if c = 47 then cC 0 r else false) = false
    by_cases hc : c = 47
    · rw [if_pos hc]
      refine cC_58 0 r ?_
      rcases List.mem_cons.mp h with e | e
      · omega
      · exact e
    · rw [if_neg hc]
theorem sp_two {d : Nat} : ∀ {r : List Nat}, d ∈ r → ∃ p q s, sp d r = p :: q :: s
  | [], h => by cases h
  | c :: r, h => by
    by_cases hc : c = d
    · rw [hc, sp_hit]
      obtain ⟨p, q, e⟩ := sp_cons d r
      exact ⟨[], p, q, by rw [e]⟩
    · have hm : d ∈ r := by
        rcases List.mem_cons.mp h with e | e
        · exact absurd e.symm hc
        · exact e
      obtain ⟨p, q, s, e⟩ := sp_two hm
      exact ⟨c :: p, q, s, sp_miss hc e⟩
theorem cb_bad {p : List Nat} {q : List (List Nat)} {l : List Nat} (e : sp 58 l = p :: q) (h : isW p = false) (hp : p ≠ []) : cb l = false := by
  unfold cb
  rw [e]
  match q with
  | [] => simp [h, hp]
  | [b] => simp [h]
  | _ :: _ :: _ => rfl
theorem cA_cb : ∀ (l a : List Nat), a.length ≤ 8 → (∀ c ∈ a, isL c = true) → cb (a ++ l) = cA a.length l
  | [], a, h8, hl => by
    unfold cb
    rw [List.append_nil, sp_free (no_of (by decide) hl)]
    show (decide (a = []) || isW a) = true
    rw [isW_mk h8 hl]
    cases a <;> simp
  | c :: r, a, h8, hl => by
    have h58 := no_of (d := 58) (by decide) hl
    show _ = (if isL c = true then decide (a.length < 8) && cA (a.length + 1) r else if c = 58 then decide (1 ≤ a.length) && cB r else false)
    by_cases hc : isL c = true
    · rw [if_pos hc]
      have hne : c ≠ 58 := isL_ne hc (by decide)
      by_cases hk : a.length < 8
      · have ih := cA_cb r (a ++ [c]) (by rw [List.length_append]; exact hk) (all_snoc hl hc)
        rw [List.append_assoc] at ih
        rw [decide_eq_true hk, Bool.true_and]
        have e : (a ++ [c]).length = a.length + 1 := by simp
        rw [e] at ih
        exact ih
      · rw [decide_eq_false hk, Bool.false_and]
        obtain ⟨p, q, hp⟩ := sp_cons 58 r
        refine cb_bad (sp_pre h58 (sp_miss hne hp)) (isW_long ?_) (by simp)
        rw [List.length_append, List.length_cons]
        omega
    · rw [if_neg hc]
      by_cases he : c = 58
      · rw [if_pos he, he, ← isW_mk h8 hl]
        by_cases hm : 58 ∈ r
        · obtain ⟨p, q, s, e⟩ := sp_two hm
          rw [cB_58 hm, Bool.and_false]
          unfold cb
          rw [sp_at h58, e]
        · unfold cb
          rw [sp_at h58, sp_free hm, ← cB_tail]
      · rw [if_neg he]
        obtain ⟨p, q, hp⟩ := sp_cons 58 r
        exact cb_bad (sp_pre h58 (sp_miss he hp)) (isW_bad (c := c) (by simp) (by simpa using hc)) (by simp)
theorem cb_cA (l : List Nat) : cb l = cA 0 l := by
  have e := cA_cb l [] (by simp) (fun x hx => by cases hx)
  rw [List.nil_append] at e
  exact e
/-! ### how far it goes -/
def lC : Nat → List Nat → Nat
  | _, [] => 0
  | k, c :: r => if isL c = true then (if k < 8 then lC (k + 1) r + 1 else 0) else if c = 47 then (if 1 ≤ k then lC 0 r + 1 else 0) else 0
def lB : List Nat → Nat
  | [] => 0
  | c :: r => if c = 47 then lC 0 r + 1 else 0
def lA : Nat → List Nat → Nat
  | _, [] => 0
  | k, c :: r => if isL c = true then (if k < 8 then lA (k + 1) r + 1 else 0) else if c = 58 then (if 1 ≤ k then lB r + 1 else 0) else 0
theorem lB_cons (c : Nat) (r : List Nat) : lB (c :: r) = if c = 47 then lC 0 r + 1 else 0 := rfl
theorem cB_cons (c : Nat) (r : List Nat) : cB (c :: r) = if c = 47 then cC 0 r else false := rfl
theorem cC_take : ∀ (l : List Nat) (k j : Nat), j ≤ l.length → cC k (l.take j) = decide (j ≤ lC k l)
  | [], k, j, h => by
    have e : j = 0 := by simpa using h
    subst e
    rfl
  | c :: r, k, 0, _ => by simp [cC]
  | c :: r, k, j + 1, h => by
    have hj : j ≤ r.length := by simpa using h
    rw [List.take_succ_cons]
    unfold cC lC
    by_cases hc : isL c = true
    · rw [if_pos hc, if_pos hc]
      by_cases hk : k < 8
      · rw [if_pos hk, decide_eq_true hk, Bool.true_and, cC_take r (k + 1) j hj]
        simp
      · rw [if_neg hk, decide_eq_false hk, Bool.false_and]
        simp
    · rw [if_neg hc, if_neg hc]
      by_cases he : c = 47
      · rw [if_pos he, if_pos he]
        by_cases hk : 1 ≤ k
        · rw [if_pos hk, decide_eq_true hk, Bool.true_and, cC_take r 0 j hj]
          simp
        · rw [if_neg hk, decide_eq_false hk, Bool.false_and]
          simp
      · rw [if_neg he, if_neg he]
        simp
theorem cB_take (l : List Nat) (j : Nat) (h : j ≤ l.length) : cB (l.take j) = decide (j ≤ lB l) := by
  cases l with
  | nil =>
    have e : j = 0 := by simpa using h
    subst e
    rfl
  | cons c r =>
    cases j with
    | zero => simp [cB]
    | succ j =>
      have hj : j ≤ r.length := by simpa using h
      rw [List.take_succ_cons, cB_cons, lB_cons]
      by_cases he : c = 47
      · rw [if_pos he, if_pos he, cC_take r 0 j hj]
        simp
      · rw [if_neg he, if_neg he]
        simp
theorem cA_take : ∀ (l : List Nat) (k j : Nat), j ≤ l.length → cA k (l.take j) = decide (j ≤ lA k l)
  | [], k, j, h => by
    have e : j = 0 := by simpa using h
    subst e
    rfl
  | c :: r, k, 0, _ => by simp [cA]
  | c :: r, k, j + 1, h => by
    have hj : j ≤ r.length := by simpa using h
    rw [List.take_succ_cons]
    unfold cA lA
    by_cases hc : isL c = true
    · rw [if_pos hc, if_pos hc]
      by_cases hk : k < 8
      · rw [if_pos hk, decide_eq_true hk, Bool.true_and, cA_take r (k + 1) j hj]
        simp
      · rw [if_neg hk, decide_eq_false hk, Bool.false_and]
        simp
    · rw [if_neg hc, if_neg hc]
      by_cases he : c = 58
      · rw [if_pos he, if_pos he]
        by_cases hk : 1 ≤ k
        · rw [if_pos hk, decide_eq_true hk, Bool.true_and, cB_take r j hj]
          simp
        · rw [if_neg hk, decide_eq_false hk, Bool.false_and]
          simp
      · rw [if_neg he, if_neg he]
        simp
theorem lC_le : ∀ (l : List Nat) (k : Nat), lC k l ≤ l.length
  | [], _ => Nat.le_refl _
  | c :: r, k => by
    have i1 := lC_le r (k + 1)
    have i2 := lC_le r 0
    unfold lC
    rw [List.length_cons]
    repeat' split
    all_goals omega
theorem lB_le (l : List Nat) : lB l ≤ l.length := by
  cases l with
  | nil => exact Nat.le_refl _
  | cons c r =>
    have i2 := lC_le r 0
    rw [lB_cons, List.length_cons]
    split <;> omega
theorem lA_le : ∀ (l : List Nat) (k : Nat), lA k l ≤ l.length
  | [], _ => Nat.le_refl _
  | c :: r, k => by
    have i1 := lA_le r (k + 1)
    have i2 := lB_le r
    unfold lA
    rw [List.length_cons]
    repeat' split
    all_goals omega
/-- the longest beginning with which some text begins -/
theorem cb_take (l : List Nat) (j : Nat) (h : j ≤ l.length) : cb (l.take j) = decide (j ≤ lA 0 l) := by
  rw [cb_cA]
  exact cA_take l 0 j h
/-! ### the program's reader -/
/-- letters that are read on from k ones -/
def run : Nat → List Nat → Nat
  | _, [] => 0
  | k, c :: r => if k < 8 ∧ isL c = true then run (k + 1) r + 1 else 0
theorem run_le : ∀ (l : List Nat) (k : Nat), run k l ≤ l.length
  | [], _ => Nat.le_refl _
  | c :: r, k => by
    have := run_le r (k + 1)
    unfold run
    rw [List.length_cons]
    split <;> omega
theorem run_8 : ∀ (l : List Nat) (k : Nat), k ≤ 8 → k + run k l ≤ 8
  | [], k, h => h
  | c :: r, k, h => by
    unfold run
    split
    · rename_i hh
      have := run_8 r (k + 1) (by omega)
      omega
    · omega
theorem run_all : ∀ (l : List Nat) (k : Nat), ∀ c ∈ l.take (run k l), isL c = true
  | [], k, c, h => by simp [run] at h
  | d :: r, k, c, h => by
    unfold run at h
    split at h
    · rename_i hh
      rw [List.take_succ_cons] at h
      rcases List.mem_cons.mp h with e | e
      · rw [e]
        exact hh.2
      · exact run_all r (k + 1) c e
    · simp at h
theorem lC_run : ∀ (l : List Nat) (k : Nat), k ≤ 8 → lC k l = run k l + (if 1 ≤ k + run k l then lB (l.drop (run k l)) else 0)
  | [], k, _ => by
    simp [lC, run, lB]
  | c :: r, k, hk8 => by
    unfold lC run
    by_cases hc : isL c = true
    · by_cases hk : k < 8
      · rw [if_pos hc, if_pos hk, if_pos ⟨hk, hc⟩, lC_run r (k + 1) (by omega), List.drop_succ_cons]
        have e1 : 1 ≤ k + 1 + run (k + 1) r := by omega
        have e2 : 1 ≤ k + (run (k + 1) r + 1) := by omega
        rw [if_pos e1, if_pos e2]
        omega
      · have hn : ¬ (k < 8 ∧ isL c = true) := fun h => hk h.1
        rw [if_pos hc, if_neg hk, if_neg hn, List.drop_zero]
        have e : lB (c :: r) = 0 := by
          rw [lB_cons, if_neg (isL_ne hc (by decide))]
        rw [e]
        split <;> rfl
    · have hn : ¬ (k < 8 ∧ isL c = true) := fun h => hc h.2
      rw [if_neg hc, if_neg hn, List.drop_zero, Nat.zero_add, Nat.add_zero]
      rw [lB_cons]
      by_cases he : c = 47
      · rw [if_pos he, if_pos he]
        rfl
      · rw [if_neg he, if_neg he]
        split <;> rfl
theorem lA_run : ∀ (l : List Nat) (k : Nat), k ≤ 8 → lA k l = run k l + (if 1 ≤ k + run k l ∧ (l.drop (run k l)).head? = some 58 then lB (l.drop (run k l + 1)) + 1 else 0)
  | [], k, _ => by
    simp [lA, run]
  | c :: r, k, hk8 => by
    unfold lA run
    by_cases hc : isL c = true
    · by_cases hk : k < 8
      · rw [if_pos hc, if_pos hk, if_pos ⟨hk, hc⟩, lA_run r (k + 1) (by omega), List.drop_succ_cons, List.drop_succ_cons]
        have e1 : 1 ≤ k + 1 + run (k + 1) r := by omega
        have e2 : 1 ≤ k + (run (k + 1) r + 1) := by omega
        by_cases hh : (r.drop (run (k + 1) r)).head? = some 58
        · rw [if_pos ⟨e1, hh⟩, if_pos ⟨e2, hh⟩]
          omega
        · rw [if_neg (fun z => hh z.2), if_neg (fun z => hh z.2)]
      · have hn : ¬ (k < 8 ∧ isL c = true) := fun h => hk h.1
        rw [if_pos hc, if_neg hk, if_neg hn, List.drop_zero]
        rw [if_neg]
        intro z
        have : c = 58 := by simpa using z.2
        exact isL_ne hc (by decide) this
    · have hn : ¬ (k < 8 ∧ isL c = true) := fun h => hc h.2
      rw [if_neg hc, if_neg hn, List.drop_zero, Nat.zero_add, Nat.add_zero]
      show _ = (if 1 ≤ k ∧ some c = some 58 then lB r + 1 else 0)
      by_cases he : c = 58
      · rw [if_pos he]
        by_cases h1 : 1 ≤ k
        · rw [if_pos h1, if_pos ⟨h1, by rw [he]⟩]
        · rw [if_neg h1, if_neg (fun z => h1 z.1)]
      · rw [if_neg he, if_neg (fun z => he (Option.some.inj z.2))]
theorem lB_58 : ∀ (k : Nat) (r : List Nat), lC k r = r.length → 58 ∉ r
  | _, [], _ => by simp
  | k, c :: r, h => by
    unfold lC at h
    rw [List.length_cons] at h
    by_cases hc : isL c = true
    · rw [if_pos hc] at h
      split at h
      · have := lB_58 (k + 1) r (by omega)
        intro hm
        rcases List.mem_cons.mp hm with e | e
        · exact isL_ne hc (by decide) e.symm
        · exact this e
      · omega
    · rw [if_neg hc] at h
      split at h
      · split at h
        · have := lB_58 0 r (by omega)
          intro hm
          rcases List.mem_cons.mp hm with e | e
          · omega
          · exact this e
        · omega
      · omega
theorem lB_free {b : List Nat} (h : lB b = b.length) : 58 ∉ b := by
  cases b with
  | nil => simp
  | cons c r =>
    rw [lB_cons, List.length_cons] at h
    split at h
    · have := lB_58 0 r (by omega)
      intro hm
      rcases List.mem_cons.mp hm with e | e
      · omega
      · exact this e
    · omega
/-! ### what is told -/
inductive Told where
  | bad (n : Nat)
  | good (s : List Nat) (p : List (List Nat))
/-- the loop behind the colon: what is left, the path so far; how many signs stand ahead -/
def rdB : Nat → List Nat → Nat → List (List Nat) → Nat ⊕ List (List Nat)
  | _, [], _, path => .inr path
  | 0, _ :: _, n, _ => .inl n
  | f + 1, c :: r, n, path => if c ≠ 47 then .inl n else if run 0 r = 0 then .inl (n + 1) else rdB f (r.drop (run 0 r)) (n + 1 + run 0 r) (path ++ [r.take (run 0 r)])
def lastIs (b : List Nat) (c : Nat) : Prop := b.getLast? = some c
instance (b : List Nat) (c : Nat) : Decidable (lastIs b c) := inferInstanceAs (Decidable (_ = _))
def good (b : List Nat) : Prop := lB b = b.length ∧ ¬ lastIs b 47
instance (b : List Nat) : Decidable (good b) := inferInstanceAs (Decidable (_ ∧ _))
theorem rdB_is : ∀ (f : Nat) (b : List Nat) (n : Nat) (path : List (List Nat)), b.length ≤ f → rdB f b n path = if good b then .inr (path ++ (sp 47 b).tail) else .inl (n + lB b)
  | f, [], n, path, _ => by
    have g : good [] := ⟨rfl, by simp [lastIs]⟩
    rw [if_pos g]
    cases f <;> simp [rdB, sp]
  | 0, c :: r, n, path, h => by simp at h
  | f + 1, c :: r, n, path, h => by
    have hr : r.length ≤ f := by simpa using h
    show (if c ≠ 47 then .inl n else if run 0 r = 0 then .inl (n + 1) else rdB f (r.drop (run 0 r)) (n + 1 + run 0 r) (path ++ [r.take (run 0 r)])) = _
    by_cases hc : c = 47
    · rw [if_neg (fun z => z hc)]
      subst hc
      have e1 : lB (47 :: r) = lC 0 r + 1 := by rw [lB_cons, if_pos rfl]
      have e2 := lC_run r 0 (by decide)
      rw [Nat.zero_add] at e2
      by_cases hw : run 0 r = 0
      · rw [if_pos hw]
        rw [hw] at e2
        have e3 : lB (47 :: r) = 1 := by rw [e1, e2]; rfl
        have ng : ¬ good (47 :: r) := by
          intro g
          have g1 := g.1
          rw [e3, List.length_cons] at g1
          have : r = [] := List.length_eq_zero_iff.mp (by omega)
          subst this
          exact g.2 rfl
        rw [if_neg ng, e3]
      · rw [if_neg hw]
        have hw1 : 1 ≤ run 0 r := by omega
        rw [if_pos hw1] at e2
        have hle := run_le r 0
        have ih := rdB_is f (r.drop (run 0 r)) (n + 1 + run 0 r) (path ++ [r.take (run 0 r)]) (by rw [List.length_drop]; omega)
        rw [ih]
        have hsplit : r = r.take (run 0 r) ++ r.drop (run 0 r) := (List.take_append_drop _ _).symm
        have hlet := run_all r 0
        have h47 := no_of (d := 47) (by decide) hlet
        have hlen : (r.drop (run 0 r)).length = r.length - run 0 r := List.length_drop
        have iff : good (47 :: r) ↔ good (r.drop (run 0 r)) := by
          have hl : lB (47 :: r) = (47 :: r).length ↔ lB (r.drop (run 0 r)) = (r.drop (run 0 r)).length := by
            rw [e1, e2, hlen, List.length_cons]
            omega
          have hlast : lastIs (47 :: r) 47 ↔ lastIs (r.drop (run 0 r)) 47 := by
            unfold lastIs
            cases hd : r.drop (run 0 r) with
            | nil =>
              have ht : r.take (run 0 r) = r := by
                have e := hsplit
                rw [hd, List.append_nil] at e
                exact e.symm
              have hr0 : r ≠ [] := by
                intro e
                rw [e] at hw1
                simp [run] at hw1
              constructor
              · intro z
                rw [List.getLast?_cons_of_ne_nil hr0] at z
                have hm := List.mem_of_getLast? z
                rw [← ht] at hm
                exact absurd hm h47
              · intro z
                cases z
            | cons x y =>
              have e : 47 :: r = (47 :: r.take (run 0 r)) ++ (x :: y) := by
                rw [List.cons_append, ← hd, ← hsplit]
              have z : ((47 :: r.take (run 0 r)) ++ (x :: y)).getLast? = (x :: y).getLast? := by
                rw [List.getLast?_append]
                cases hz : (x :: y).getLast? with
                | none => simp at hz
                | some v => rfl
              rw [e, z]
          unfold good
          rw [hl, hlast]
        by_cases g : good (47 :: r)
        · rw [if_pos g, if_pos (iff.mp g)]
          rw [sp_hit, List.tail_cons]
          have g2 := (iff.mp g).1
          have key : sp 47 r = r.take (run 0 r) :: (sp 47 (r.drop (run 0 r))).tail := by
            cases hd : r.drop (run 0 r) with
            | nil =>
              have ht : r.take (run 0 r) = r := by
                have e := hsplit
                rw [hd, List.append_nil] at e
                exact e.symm
              rw [ht] at h47 ⊢
              rw [sp_free h47]
              rfl
            | cons x y =>
              have hx : x = 47 := by
                rw [hd, lB_cons] at g2
                split at g2
                · assumption
                · simp at g2
              subst hx
              have e : r = r.take (run 0 r) ++ 47 :: y := by
                rw [← hd]
                exact hsplit
              rw [sp_hit, List.tail_cons]
              exact (congrArg (sp 47) e).trans (sp_at h47)
          rw [key, List.append_assoc]
          rfl
        · rw [if_neg g, if_neg (fun z => g (iff.mpr z)), e1, e2]
          congr 1
          omega
    · rw [if_pos hc]
      have e : lB (c :: r) = 0 := by rw [lB_cons, if_neg hc]
      have ng : ¬ good (c :: r) := by
        intro g
        have := g.1
        rw [e, List.length_cons] at this
        omega
      rw [if_neg ng, e]
      rfl
/-- the whole reader -/
def rd (l : List Nat) : Told :=
  if run 0 l = 0 ∨ (l.drop (run 0 l)).head? ≠ some 58 then .bad (run 0 l)
  else match rdB l.length (l.drop (run 0 l + 1)) (run 0 l + 1) [] with
    | .inl n => .bad n
    | .inr p => .good (l.take (run 0 l)) p
/-- the law's own -/
def due (l : List Nat) : Told :=
  if lA 0 l < l.length then .bad (lA 0 l) else match sp 58 l with
  | [a, b] => if lastIs b 47 then .bad (lA 0 l) else .good a (sp 47 b).tail
  | _ => .bad (lA 0 l)
theorem rd_due (l : List Nat) : rd l = due l := by
  have e := lA_run l 0 (by decide)
  rw [Nat.zero_add] at e
  have hle := run_le l 0
  have hlet := run_all l 0
  have h58 := no_of (d := 58) (by decide) hlet
  unfold rd
  by_cases hw : run 0 l = 0 ∨ (l.drop (run 0 l)).head? ≠ some 58
  · rw [if_pos hw]
    have hn : ¬ (1 ≤ run 0 l ∧ (l.drop (run 0 l)).head? = some 58) := by
      rintro ⟨h1, h2⟩
      rcases hw with h | h
      · omega
      · exact h h2
    rw [if_neg hn, Nat.add_zero] at e
    unfold due
    rw [e]
    by_cases hlt : run 0 l < l.length
    · rw [if_pos hlt]
    · rw [if_neg hlt]
      have ht : l.take (run 0 l) = l := List.take_of_length_le (by omega)
      rw [ht] at h58
      rw [sp_free h58]
  · rw [if_neg hw]
    have h1 : 1 ≤ run 0 l := by
      rcases Nat.eq_zero_or_pos (run 0 l) with h | h
      · exact absurd (.inl h) hw
      · exact h
    have h2 : (l.drop (run 0 l)).head? = some 58 := by
      by_cases h : (l.drop (run 0 l)).head? = some 58
      · exact h
      · exact absurd (.inr h) hw
    rw [if_pos ⟨h1, h2⟩] at e
    have hd : l.drop (run 0 l) = 58 :: l.drop (run 0 l + 1) := by
      cases hx : l.drop (run 0 l) with
      | nil =>
        rw [hx] at h2
        cases h2
      | cons x y =>
        rw [hx] at h2
        have ex : x = 58 := by simpa using h2
        have ey : y = l.drop (run 0 l + 1) := by
          have z := congrArg (List.drop 1) hx
          rw [List.drop_drop] at z
          simpa using z.symm
        rw [ex, ey]
    have hl : l = l.take (run 0 l) ++ 58 :: l.drop (run 0 l + 1) := by
      rw [← hd]
      exact (List.take_append_drop _ _).symm
    generalize hb : l.drop (run 0 l + 1) = b at *
    have hlen : l.length = run 0 l + (b.length + 1) := by
      have z := congrArg List.length hl
      rw [List.length_append, List.length_take, List.length_cons, Nat.min_eq_left hle] at z
      exact z
    rw [rdB_is l.length b (run 0 l + 1) [] (by omega)]
    have hsp : sp 58 l = l.take (run 0 l) :: sp 58 b := (congrArg (sp 58) hl).trans (sp_at h58)
    have hbl := lB_le b
    unfold due
    rw [e]
    by_cases hfull : lB b = b.length
    · have hnl : ¬ (run 0 l + (lB b + 1) < l.length) := by omega
      rw [if_neg hnl, hsp, sp_free (lB_free hfull)]
      by_cases hz : lastIs b 47
      · have ng : ¬ good b := fun g => g.2 hz
        rw [if_neg ng]
        show Told.bad _ = (if lastIs b 47 then Told.bad _ else _)
        rw [if_pos hz]
        congr 1
        omega
      · rw [if_pos (show good b from ⟨hfull, hz⟩)]
        show Told.good _ _ = (if lastIs b 47 then _ else Told.good _ _)
        rw [if_neg hz]
        rfl
    · have hlt : run 0 l + (lB b + 1) < l.length := by omega
      rw [if_pos hlt, if_neg (fun g : good b => hfull g.1)]
      show Told.bad _ = Told.bad _
      congr 1
      omega
end AddrMath

/-! A law whose body needs to know that no repr is under way: its def's promise where the list of running reprs is known to be empty, and the end of the row by it. -/
namespace GR
open PySem PySem.Spec PyProof.Rows L2 SX
/-- no repr runs -/
abbrev Quiet (Ar : Around) : Prop := Ar.guards = some []
theorem quiet_deeper {Ar : Around} {e : Env} (h : Quiet Ar) : Quiet (Ar.deeper e) := h
structure FnQ (pr : Program) (wo : World) (F : PySem.W.Frag) (gl : Str → Option Value) (b0 : Heap) (n : Nat) (at_ : Addr) (fd : FuncData) (names : List Str) (sp : Sp) : Prop where
  many : ∀ vs H Q E, sp vs H Q E → vs.length = names.length
  runs : ∀ (Ar : Around) (fs : List Env) (s : Shared) (H : Hp) (gs : Args) (us : List Value) (vs : List V) (Q : VK) (E : XK),
    Quiet Ar → Room n Ar → Env0 pr wo F gl b0 Ar fs s H → BindsTo s fd gs (names.zip us) → Vals vs us → sp vs H Q E →
    codeAny (model pr wo) Ar (.call (.ref at_) gs) (CR CX0 fs pr wo H s Q E) s
section
variable {pr : Program} {wo : World} {F : PySem.W.Frag} {gl : Str → Option Value} {b0 : Heap}
theorem quiet_fn {x qual : Str} {st : Stmt} {at_ : Addr} {fd : FuncData} {N names : List Str} {n : Nat} {sp : Sp} (D : Fun F x qual st at_ fd) (S : FnScope N names (defScope st))
    (many : ∀ vs H Q E, sp vs H Q E → vs.length = names.length)
    (body : ∀ (cd : Value) (Ar : Around) (fs : List Env) (s : Shared) (H : Hp) (vs : List V) (Q : VK) (E : XK), Quiet Ar →
      Room n (Ar.deeper (envOfC qual (defScope st) s.heap.objs.size at_ cd)) → sp vs H Q E →
      ∃ t, PSs (cxOf CX0 pr wo F gl b0 N qual (defScope st) at_ cd Ar fs s H E).nox (defBody st) t ∧
        t { nx := fun _ H' => Q .non H', rt := Q } (start N vs) H) :
    FnQ pr wo F gl b0 (n + 1) at_ fd names sp := by
  obtain ⟨oc, od, kV, doc, pm, an, cd, ct, osl, rfl, here, code⟩ := D.ex
  refine ⟨many, ?_⟩
  intro Ar fs s H gs us vs Q E quiet room e0 binds rel want
  have FX : F.In s.heap := e0.mod.kin.keeps (fun b o e => (e0.bs b o e).1)
  have lim : s.heap.NoLimit := e0.mod.nolimit.keeps (fun b o e => (e0.bs b o e).1)
  refine codeAny_call_function room.depth (FX _ _ here) rfl S.co S.gen rfl (PySem.W.codeRec_of FX code) (binds _ _ _ _ ?_)
  refine wpAny_newFunctionEnv_cells S.kind ?_ (fun en en_is s1 inside => ?_)
  · rintro ⟨nm, v⟩ mem
    rcases S.par nm (List.of_mem_zip mem).1 with q | q
    · exact Or.inl q
    · exact Or.inr ⟨q, PySem.W.cellsFrom_some _ _ _ (Or.inl q)⟩
  subst en_is
  refine ⟨lim.keeps inside.toInCall.keep, codeAny_func ?_⟩
  obtain ⟨t, reads, does⟩ := body cd Ar fs s H vs Q E quiet (room.deeper _) want
  have I0 := inv_start (CX := CX0) (E := E) S room.hd e0 (many _ _ _ _ want) rel inside
  refine wpAny_mono (reads.nox.run [] s1 (start N vs) H _ I0 does) ?_ (fun _ _ h => h)
  intro fl s' ends
  cases fl with
  | next =>
    obtain ⟨σ', H', J, q⟩ := ends
    exact ⟨V.non, H', J.os, J.bare, J.base, J.hok, rfl, q⟩
  | ret u =>
    obtain ⟨v, σ', H', J, rv, q⟩ := ends
    exact ⟨v, H', J.os, J.bare, J.base, J.hok, rv, q⟩
  | brk =>
    obtain ⟨_, _, _, z⟩ := ends
    exact z.elim
  | cont =>
    obtain ⟨_, _, _, z⟩ := ends
    exact z.elim
end
/-- the heap behind the top with the script alone in view -/
theorem quiet_from {pr : Program} {wo : World} {F : PySem.W.Frag} {gl gb : Str → Option Value} {n : Nat} {at_ sc : Addr} {fd : FuncData} {x : Str} {sp : Sp} {s : Shared} {ns : List Int} {ob : Obj} {H : Hp}
    (inF : F.In s.heap) (nsm : s.heap.Ns mainGlobals gl) (nsb : s.heap.Ns builtinsNs gb) (bb : ∀ y : Str, y ≠ "__name__" → gb y = bootBuiltins y) (lim : s.heap.NoLimit) (ng : s.gens = #[])
    (atS : s.heap.get? sc = some ob) (seq : ∃ its k, ob.data = .seq its k) (room : Room n callerA)
    (D : ∀ b0 : Heap, F.In b0 → b0.Ns mainGlobals gl → FnQ pr wo F gl b0 n at_ fd [x] sp) (binds : ∀ (s : Shared) (u : Value), BindsTo s fd ⟨[u], []⟩ [(x, u)])
    (want : sp [.ref sc] H (fun v _ => v = .bl true) fun _ _ _ => False)
    (only : Only H) (ok : HOk pr wo H s.heap) (isS : ∀ b, H b ≠ none → b = sc) (away : H sc ≠ none → F.lookup sc = none) :
    codeAny (model pr wo) callerA (.call (.ref at_) ⟨[.ref sc], []⟩) (fun r s' => r = .ok (.ret (.bool true)) ∧ OldK s.heap s'.heap ∧ s'.os = s.os ∧ AllBare s'.gens) s := by
  have out : ∀ {b : Addr} {o : Obj}, s.heap.get? b = some o → (b = sc → H b = none) → (hidT s.heap H).get? b = some o := fun {b o} e h => hidT_get e (by
    cases q : H b with
    | none => rfl
    | some u => exact (by rw [h (isS b (by rw [q]; exact fun z => nomatch z))] at q; cases q))
  have dict : ∀ {b : Addr} {m : Str → Option Value}, s.heap.Ns b m → (hidT s.heap H).Ns b m := by
    rintro b m ⟨o, es, ep, e, d, rest⟩
    refine ⟨o, es, ep, out e (fun z => ?_), d, rest⟩
    exfalso
    subst z
    obtain ⟨its, k, hs⟩ := seq
    rw [atS] at e
    cases e
    rw [hs] at d
    cases d
  have inB : F.In (hidT s.heap H) := fun b o e => out (inF b o e) (fun z => by
    cases q : H b with
    | none => rfl
    | some u =>
      rw [z] at q e
      rw [away (by rw [q]; exact fun z => nomatch z)] at e
      cases e)
  have e0 : Env0 pr wo F gl (hidT s.heap H) callerA [] s H := by
    refine ⟨rfl, ⟨inB, dict nsm, ⟨gb, dict nsb, bb⟩, ?_⟩, fun b o e => of_hidT e, Nat.le_of_eq (hidT_size _ _), trivial, ?_, ok, .of_eq ng⟩
    · obtain ⟨mc, h1, h2⟩ := lim
      exact ⟨mc, dict h1, h2⟩
    · intro b hb
      cases (show b ∈ ([] : List Addr) from hb)
  refine codeAny_mono ((D _ inB (dict nsm)).runs callerA [] s H ⟨[.ref sc], []⟩ [.ref sc] [.ref sc] _ _ rfl room e0 (binds s (.ref sc)) (.cons rfl .nil) want) ?_
  rintro (e | fl) s' h
  · exact (show False from h).elim
  cases fl with
  | next => exact (show False from h).elim
  | brk => exact (show False from h).elim
  | cont => exact (show False from h).elim
  | ret u =>
    obtain ⟨v, H', os, bare, un, ok', rel, q⟩ := h
    cases (show v = V.bl true from q)
    cases (show u = Value.bool true from rel)
    refine ⟨rfl, OldK.of_keep (fun b o e => ?_), os, bare⟩
    cases q : H b with
    | none => exact un.keep b o e q (fun z => by cases (show b ∈ ([] : List Addr) from z)) (by simp)
    | some u =>
      rcases only b with z | ⟨ob', xs, z⟩
      · rw [q] at z
        cases z
      · have p1 := (ok b _ z).1
        have p2 := (ok' b _ (un.frzs b ob' _ z)).1
        rw [e] at p1
        cases p1
        exact p2
/-- the end of a row whose law knows that no repr runs -/
theorem walk_quiet {l : PySem.W.OpenLaw} {most n : Nat} {q : Program} {loose : List Str} {XP : (Str → Option Value) → Heap → Prop} {YP : World → Heap → Prop} {d : DefRec} {F : Params → PySem.W.Frag} {sp : World → Sp} {x : Str}
    (hm : l.most = some most) (small : most ≤ sizeLine) (nd : d.params.defaults = []) (room : Room n callerA)
    (hY : ∀ (wo : World) (h : Heap), YP wo h → (F wo.params).In h)
    (D : ∀ (wo : World) (gl : Str → Option Value) (at_ : Addr) (h : Heap), (F wo.params).In h → h.Ns mainGlobals gl → gl d.name = some (.ref at_) →
      ∃ fd : FuncData, (∀ (s : Shared) (u : Value), BindsTo s fd ⟨[u], []⟩ [(x, u)]) ∧
        ∀ b0 : Heap, (F wo.params).In b0 → b0.Ns mainGlobals gl → FnQ l.prog wo (F wo.params) gl b0 n at_ fd [x] (sp wo))
    (want : ∀ (wo : World) (H : Hp) (sc : Addr) (ns : List Int), ns.length ≤ most → Only H → SqL (F wo.params) H sc (ns.map V.int) → sp wo [.ref sc] H (fun v _ => v = .bl true) fun _ _ _ => False) :
    PySem.W.WalkO q loose XP YP l.row.toRowW d [] (fun f vs => PySem.call f vs) := by
  refine Att.attach_call hm nd ?_
  intro wo s₀ s gl gb at_ o pm cd doc sc vs ns G Y ho hd hcd hgl atS areI len ng
  have inF := hY wo _ Y
  obtain ⟨fd, binds, D0⟩ := D wo gl at_ _ inF G.T.g hgl
  have rv := vals_ints areI
  have lenV := areI.length
  have small' : ns.length ≤ sizeLine := Nat.le_trans len small
  have go := fun (H : Hp) (only : Only H) (seen : SqL (F wo.params) H sc (ns.map V.int)) =>
    quiet_from (pr := l.prog) (wo := wo) (ns := ns) inF G.T.g G.T.b G.T.builtins G.T.nolimit ng atS ⟨vs.toArray, _, rfl⟩ room D0 binds (want wo H sc ns len only seen) only
  by_cases known : (F wo.params).lookup sc = none
  · refine go (fun b => if b = sc then some (.frz { cls := .type "list", data := .seq vs.toArray } (.lst (ns.map V.int))) else none) (fun b => ?_) (Or.inl (Or.inr ⟨{ cls := .type "list", data := .seq vs.toArray }, if_pos rfl⟩)) ?_ (fun b ne => ?_) (fun _ => known)
    · by_cases e : b = sc
      · exact Or.inr ⟨_, _, if_pos e⟩
      · exact Or.inl (if_neg e)
    · intro b u e
      by_cases eq : b = sc
      · have e' := (if_pos eq).symm.trans e
        cases e'
        subst eq
        exact ⟨atS, by rw [List.length_map]; exact small', vs, _, rv, atS⟩
      · have e' := (if_neg eq).symm.trans e
        cases e'
    · by_cases eq : b = sc
      · exact eq
      · exact absurd (if_neg eq) ne
  · obtain ⟨o', ho'⟩ := Option.ne_none_iff_exists'.mp known
    have e := (atS.symm.trans (inF sc o' ho'))
    cases e
    refine go (fun _ => none) (fun _ => Or.inl rfl) (Or.inr ⟨_, vs.toArray, _, ho', rfl, rfl, rfl, by rw [List.size_toArray, lenV]; exact small', by simpa using rv⟩) (fun b u e => by cases (show (none : Option HO) = some u from e)) (fun b ne => absurd rfl ne) (fun ne => absurd rfl ne)
end GR

/-! Operations a law needs beside the hand layer's: repr of data where no repr runs, the order of data, comparisons that a class of the text defines (instances with a dict), isinstance of such an instance. -/
namespace GR
open PySem PySem.W PySem.Spec PySem.Calls PyProof.Rows L2 SX
section
variable {X : Cx}
/-- repr(x), x a list or a tuple of plain data -/
def rRepr (K : Frag) (A : Around) : List V → Hp → VK → Prop := fun xs H Q => ∃ (a : Addr) (d : PyData), xs = [.ref a] ∧ Dp K H (.ref a) d ∧ d.showable = true ∧ d.hasDict = false ∧ A.units + (d.depth + 1) < cLine ∧ d.shown.length ≤ sizeLine ∧ Q (.str d.shown) H
theorem call_reprD (quiet : Quiet X.A) : CallR X (.builtin "repr") (rRepr X.K X.A) := by
  intro pins s σ H xs us Q I rel h
  obtain ⟨a, d, rfl, dp, sh, nd, room, len, q⟩ := h
  obtain ⟨u, rfl, ru⟩ := rel.one
  cases (show u = Value.ref a from ru)
  obtain ⟨as, rd⟩ := dp.reads I d _ _ rfl
  exact repr_of_reads' rd sh (PyData.noDict_hsm nd) quiet room (fun _ _ e => e) (fun h' u tk hk => ⟨.str d.shown, H, I.kept hk, ⟨_, rfl⟩, q⟩) len
/-- x op y of two values that read as data with an order -/
def rDat {α : Type} [DecidableEq α] [DatumOrd α] (K : Frag) (f : α → α → Bool) : R2 := fun x y H Q => ∃ p q : α, Dp K H x (Datum.toD p) ∧ Dp K H y (Datum.toD q) ∧ Q (.bl (f p q)) H
section
variable {α : Type} [DecidableEq α] [DatumOrd α]
theorem opd_lt (hu : X.A.units + Datum.depth α < cLine) : OpR X (compareOp .Lt) (rDat (α := α) X.K fun p q => DatumOrd.lt p q) := by
  intro pins s σ H x y v u Q I rx ry ⟨p, q, hp, hq, fin⟩
  exact lt_datum (Dp.reads I _ _ _ hp rx) (Dp.reads I _ _ _ hq ry) hu ⟨.bl _, H, I, rfl, fin⟩
theorem opd_gt (hu : X.A.units + Datum.depth α < cLine) : OpR X (compareOp .Gt) (rDat (α := α) X.K fun p q => DatumOrd.lt q p) := by
  intro pins s σ H x y v u Q I rx ry ⟨p, q, hp, hq, fin⟩
  exact gt_datum (Dp.reads I _ _ _ hp rx) (Dp.reads I _ _ _ hq ry) hu ⟨.bl _, H, I, rfl, fin⟩
theorem opd_le (hu : X.A.units + Datum.depth α < cLine) : OpR X (compareOp .LtE) (rDat (α := α) X.K fun p q => !DatumOrd.lt q p) := by
  intro pins s σ H x y v u Q I rx ry ⟨p, q, hp, hq, fin⟩
  exact le_datum (Dp.reads I _ _ _ hp rx) (Dp.reads I _ _ _ hq ry) hu ⟨.bl _, H, I, rfl, fin⟩
theorem opd_ge (hu : X.A.units + Datum.depth α < cLine) : OpR X (compareOp .GtE) (rDat (α := α) X.K fun p q => !DatumOrd.lt p q) := by
  intro pins s σ H x y v u Q I rx ry ⟨p, q, hp, hq, fin⟩
  exact ge_datum (Dp.reads I _ _ _ hp rx) (Dp.reads I _ _ _ hq ry) hu ⟨.bl _, H, I, rfl, fin⟩
theorem opd_eq (hu : X.A.units + Datum.depth α < cLine) : OpR X (compareOp .Eq) (rDat (α := α) X.K fun p q => decide (p = q)) := by
  intro pins s σ H x y v u Q I rx ry ⟨p, q, hp, hq, fin⟩
  exact eq_datum (Dp.reads I _ _ _ hp rx) (Dp.reads I _ _ _ hq ry) hu ⟨.bl _, H, I, rfl, fin⟩
theorem opd_ne (hu : X.A.units + Datum.depth α < cLine) : OpR X (compareOp .NotEq) (rDat (α := α) X.K fun p q => decide (p ≠ q)) := by
  intro pins s σ H x y v u Q I rx ry ⟨p, q, hp, hq, fin⟩
  exact ne_datum (Dp.reads I _ _ _ hp rx) (Dp.reads I _ _ _ hq ry) hu ⟨.bl _, H, I, rfl, fin⟩
end
/-- x op y of two instances of the class at C, by its own def -/
def rIns (C : Addr) (sp : Sp) : R2 := fun x y H Q => ∃ (a b dx dy : Addr) (fs gs : List (Str × V)), x = .ref a ∧ y = .ref b ∧ H a = some (.ins C dx fs) ∧ H b = some (.ins C dy gs) ∧ sp [x, y] H Q E0
section
variable {C f : Addr} {fd : FuncData} {ps : List Str} {n : Nat} {sp : Sp}
theorem own_cmp {op : CmpOp} (hop : ∀ a b, compareOp op a b = richCompare op a b) (at_ : findIn X.K (.ref C) (cmpInfo op).2.1 = some (some (.ref f))) (isF : isFn X.K (.ref f) = true)
    (F : FnOk X.prog X.w X.K X.mg X.base CX0 n f fd ps sp) (hb : Binds X.K fd ps []) (room : Room n X.A) : OpR X (compareOp op) (rIns C sp) := by
  intro pins s σ H x y v u Q I rx ry ⟨a, b, dx, dy, fs, gs, ex, ey, ha, hb', q⟩
  subst ex; subst ey
  cases (show v = Value.ref a from rx); cases (show u = Value.ref b from ry)
  obtain ⟨_, J, _⟩ := ins_get I.hok ha
  obtain ⟨_, J', _⟩ := ins_get I.hok hb'
  obtain ⟨od, J, _⟩ := J.look
  obtain ⟨od', J', _⟩ := J'.look
  obtain ⟨m, hF⟩ := I.fr
  rw [hop]
  refine cmp_K (op := op) (tb := .ref C) room.units0 hF I.ok.mod.kin J J'.type (by simp [notFirst]) at_ isF ?_
  refine wpAny_mono (run_fn (us := [.ref a, .ref b]) (vs := [.ref a, .ref b]) F room hb .nil pass0 I (.cons rfl (.cons rfl .nil)) q) ?_ (fun _ _ e => e)
  rintro w s' ⟨z, H', I', rz, qz⟩
  exact SlX.cmpback rz ⟨z, H', I', rz, qz⟩
/-- != where the class has == alone -/
def rNeI (C : Addr) (sp : Sp) : R2 := fun x y H Q => ∃ (a b dx dy : Addr) (fs gs : List (Str × V)), x = .ref a ∧ y = .ref b ∧ H a = some (.ins C dx fs) ∧ H b = some (.ins C dy gs) ∧ sp [x, y] H (fun z H' => ∃ t, z = .bl t ∧ Q (.bl (!t)) H') E0
theorem bindSlot {M : Model} {h : Heap} (self : Value) : Looks M h (bindSpecial (.builtin "object.__ne__") self) (.builtin "object.__ne__", [self]) := Looks.of_pure (PySem.F.slot_object_ne.bind self)
theorem ifBound_B {K : Frag} {M : Model} {A : Around} {E : Value → Shared → Prop} {s : Shared} {x C : Addr} {ox : Obj} {od : Option Obj} {id : String} {name : Str} {args : List Value} {Q : Option Value → Shared → Prop} (inK : K.In s.heap) (J : InstAt s.heap x ox C od)
    (at_ : findIn K (.ref C) name = some (some (.builtin id))) (bd : Looks M s.heap (bindSpecial (.builtin id) (.ref x)) (.builtin id, [.ref x]))
    (h : wpAny M A (call (.builtin id) (.ref x :: args)) (fun v => Q (some v)) E s) : wpAny M A (callSpecialIfBound? (.ref x) name args) Q E s := by
  simp only [callSpecialIfBound?, bindSpecialIfBound?]
  refine wpAny_holding (wpAny_bind (wpAny_bind (wpAny_bind (J.type.here ((looks_findIn inK at_).here ?_)))))
  have fin : wpAny M A (call (.builtin id) ([.ref x] ++ args) >>= fun v => pure (some v)) Q E s := wpAny_bind (wpAny_mono h (fun v s' q => wpAny_pure q) fun _ _ q => q)
  refine wpAny_bind (wpAny_askSetting (wpAny_ite ?_))
  split
  · exact wpAny_bind (bd.here (wpAny_pure (by exact fin)))
  · exact wpAny_tryCatch (wpAny_bind (bd.here (wpAny_pure (by exact fin))))
theorem own_ne (at_ : findIn X.K (.ref C) "__eq__" = some (some (.ref f))) (isF : isFn X.K (.ref f) = true) (ne_ : findIn X.K (.ref C) "__ne__" = some (some (.builtin "object.__ne__"))) (ob : subIn X.K (.ref C) (.type "object") = some true)
    (F : FnOk X.prog X.w X.K X.mg X.base CX0 n f fd ps sp) (hb : Binds X.K fd ps []) (room : Room (n + 1) X.A) : OpR X (compareOp .NotEq) (rNeI C sp) := by
  intro pins s σ H x y v u Q I rx ry ⟨a, b, dx, dy, fs, gs, ex, ey, ha, hb', q⟩
  subst ex; subst ey
  cases (show v = Value.ref a from rx); cases (show u = Value.ref b from ry)
  obtain ⟨_, J, _⟩ := ins_get I.hok ha
  obtain ⟨_, J', _⟩ := ins_get I.hok hb'
  obtain ⟨od, J, _⟩ := J.look
  obtain ⟨od', J', _⟩ := J'.look
  have inK : X.K.In s.heap := I.kIn
  have room1 : Room n X.A.in1 := room.in1
  have go : wpAny (model X.prog X.w) X.A.in1 (call (.ref f) [.ref a, .ref b]) (fun r s' => ∃ t, r = .bool t ∧ EP X pins σ Q (.bool (!t)) s') X.xe s := by
    have bs := hb s [.ref a, .ref b] inK (by rw [List.append_nil]; exact F.len _ _ _ _ q)
    refine wpAny_call (codeAny_mono (F.run X.A.in1 X.stack s H ⟨[.ref a, .ref b], []⟩ [.ref a, .ref b] [.ref a, .ref b] _ E0 room1 I.env0.in1 bs (.cons rfl (.cons rfl .nil)) q) ?_)
    rintro (e | fl) s' h
    · exact (show False from h).elim
    cases fl with
    | next => exact (show False from h).elim
    | brk => exact (show False from h).elim
    | cont => exact (show False from h).elim
    | ret r =>
      obtain ⟨z, H', I', rz, t, ez, qz⟩ := I.after h
      subst ez
      cases (show r = Value.bool t from rz)
      exact ⟨t, rfl, .bl (!t), H', I', rfl, qz⟩
  have inner : wpAny (model X.prog X.w) X.A (call (.builtin "object.__ne__") [.ref a, .ref b]) (fun r s' => ∃ t, r = .bool (!t) ∧ EP X pins σ Q (.bool (!t)) s') X.xe s := by
    refine wpAny_call (codeAny_call_builtin PySem.F.slot_object_ne.plain PySem.F.cmpEntry_ne (check_slot PySem.F.cmpKind_ne PySem.F.cmpSplit_ne (J.type.andThen (looks_subIn inK ob)) (PySem.F.cmpArgs_ne _ _) ?_))
    unfold Builtin.«object.__ne__»
    repeat (first
      | with_reducible refine wpAny_cRoomFor room1.units0 ?_
      | (refine wpAny_bind (m := callSpecialIfBound? (.ref a) (Str.ofString "__eq__") [.ref b]) (ifBound_K inK J at_ isF (wpAny_mono go (fun r s' hr => by
          obtain ⟨t, rfl, hq⟩ := hr
          repeat (first | exact ⟨t, rfl, hq⟩ | exact wpAny_pure ⟨t, rfl, hq⟩ | exact wpAny_truthy_bool ⟨t, rfl, hq⟩ | (refine wpAny_bind (m := truthy (.bool _)) (wpAny_truthy_bool ?_)) | wp_step)) fun _ _ e => e)))
      | wp_step)
  have one : wpAny (model X.prog X.w) X.A (tryCompare (.ref a) "__ne__" (.ref b)) (fun r s' => ∃ v, r = some v ∧ EP X pins σ Q v s') X.xe s := by
    unfold tryCompare
    refine wpAny_bind (ifBound_B inK J ne_ (bindSlot _) (wpAny_mono inner ?_ fun _ _ e => e))
    rintro r s' ⟨t, rfl, hq⟩
    exact wpAny_pure ⟨_, rfl, hq⟩
  show wpAny _ _ (richCompare .NotEq (.ref a) (.ref b)) _ _ _
  unfold richCompare
  simp only [oneThing_ref]
  refine wpAny_holding (wpAny_bind (wpAny_cRoomFor room.units0 ?_))
  refine wpAny_bind (J.type.here (wpAny_bind (J'.type.here ?_)))
  rw [show (Value.ref C != Value.ref C) = false from by simp]
  simp only [Bool.false_eq_true, if_false]
  refine wpAny_bind (wpAny_pure ?_)
  simp only [Bool.false_eq_true, if_false]
  refine wpAny_bind (wpAny_mono one ?_ fun _ _ e => e)
  rintro r s' ⟨v, rfl, hq⟩
  exact wpAny_pure hq
end
end
end GR

namespace K2
open PySem L2
def top (i : Nat) : Stmt := PySem.Challenge.pw_sentonward_k02_whole_order_of_addresses.main.body.getD i (.Pass ⟨0, 0, 0, 0⟩)
abbrev sPen : Stmt := top 14
abbrev sDraw : Stmt := top 15
abbrev sPick : Stmt := top 16
abbrev sWords : Stmt := top 18
/-- all but what stands at d is as it was -/
def But (d : Addr) (H H' : Hp) : Prop := ∀ b o, H b = some o → b ≠ d → H' b = some o
theorem But.refl (d : Addr) (H : Hp) : But d H H := fun _ _ h _ => h
theorem But.trans {d : Addr} {H H1 H2 : Hp} (a : But d H H1) (b : But d H1 H2) : But d H H2 := fun c o h hc => b c o (a c o h hc) hc
theorem But.upd {d : Addr} {H : Hp} {o : HO} : But d H (upd H d o) := fun b u e hb => by rw [upd_ne hb]; exact e
theorem But.new {d p : Addr} {H : Hp} {o : HO} (h : H p = none) : But d H (L2.upd H p o) := fun b u e _ => by rw [upd_ne (ne_of_none e h)]; exact e
theorem but_of {d : Addr} {H H' : Hp} (s : Same H H') : But d H H' := fun b o e _ => s b o e
theorem same_new {p : Addr} {H : Hp} {o : HO} (h : H p = none) : Same H (upd H p o) := fun b u e => by rw [upd_ne (ne_of_none e h)]; exact e
theorem But.free {d a : Addr} {H H' : Hp} {o : HO} (hd : H d = some o) (b : But d H H') (hd' : H' d ≠ none) (h : H' a = none) : H a = none := by
  cases q : H a with
  | none => rfl
  | some u =>
    by_cases e : a = d
    · rw [e] at h
      exact absurd h hd'
    · rw [b a u q e] at h
      cases h
abbrev kCells : Key := Sum.inr ("cells" : Str)
abbrev kSpot : Key := Sum.inr ("spot" : Str)
abbrev kRest : Key := Sum.inr ("rest" : Str)
theorem k_cs : ¬ (kCells = kSpot) := by decide +kernel
theorem k_cr : ¬ (kCells = kRest) := by decide +kernel
theorem k_sc : ¬ (kSpot = kCells) := by decide +kernel
theorem k_sr : ¬ (kSpot = kRest) := by decide +kernel
theorem k_rc : ¬ (kRest = kCells) := by decide +kernel
theorem k_rs : ¬ (kRest = kSpot) := by decide +kernel
def penKV (c : Addr) (spot rest : Int) : List (Key × V) := [(kCells, .ref c), (kSpot, .int spot), (kRest, .int rest)]
theorem pen_cells (c : Addr) (s r : Int) : valV (penKV c s r) kCells = some (.ref c) := valV_pos rfl
theorem pen_spot (c : Addr) (s r : Int) : valV (penKV c s r) kSpot = some (.int s) := (valV_neg k_cs).trans (valV_pos rfl)
theorem pen_rest (c : Addr) (s r : Int) : valV (penKV c s r) kRest = some (.int r) := (valV_neg k_cr).trans ((valV_neg k_sr).trans (valV_pos rfl))
theorem pen_putS (c : Addr) (s r z : Int) : putK (penKV c s r) kSpot (.int z) = penKV c z r := by
  unfold putK penKV
  rw [if_pos (by simp)]
  simp only [List.map_cons, List.map_nil, if_neg k_cs, if_neg k_rs, if_pos trivial]
theorem pen_putR (c : Addr) (s r z : Int) : putK (penKV c s r) kRest (.int z) = penKV c s z := by
  unfold putK penKV
  rw [if_pos (by simp)]
  simp only [List.map_cons, List.map_nil, if_neg k_cr, if_neg k_sr, if_pos trivial]
theorem pen_made (c : Addr) (s r : Int) : mergeK [] (penKV c s r) = penKV c s r := by
  show putK (putK (putK [] kCells (V.ref c)) kSpot (V.int s)) kRest (V.int r) = _
  have e1 : putK [] kCells (V.ref c) = [(kCells, V.ref c)] := putK_new _ rfl
  have e2 : putK [(kCells, V.ref c)] kSpot (V.int s) = [(kCells, V.ref c), (kSpot, V.int s)] := putK_new _ (valV_neg k_cs)
  rw [e1, e2]
  exact putK_new _ ((valV_neg k_cr).trans (valV_neg k_sr))
/-- a source of draws stands at d, at most n draws were begun -/
def PenAt (H : Hp) (d c : Addr) (n : Nat) : Prop := ∃ (ns : List Int) (s : Nat) (r : Int), H d = some (.dK (penKV c (s : Int) r)) ∧ H c = some (.lst (ns.map V.int)) ∧ ns.length ≤ 63 ∧ s ≤ n
theorem PenAt.keep {H H' : Hp} {d c : Addr} {n : Nat} (p : PenAt H d c n) (s : Same H H') : PenAt H' d c n := by
  obtain ⟨ns, k, r, h1, h2, h3, h4⟩ := p
  exact ⟨ns, k, r, s _ _ h1, s _ _ h2, h3, h4⟩
theorem PenAt.mono {H : Hp} {d c : Addr} {n m : Nat} (p : PenAt H d c n) (h : n ≤ m) : PenAt H d c m := by
  obtain ⟨ns, k, r, h1, h2, h3, h4⟩ := p
  exact ⟨ns, k, r, h1, h2, h3, Nat.le_trans h4 h⟩
theorem PenAt.ne {H : Hp} {d c : Addr} {n : Nat} (p : PenAt H d c n) : H d ≠ none := by
  obtain ⟨ns, k, r, h1, h2, h3, h4⟩ := p
  rw [h1]
  exact fun z => nomatch z
theorem PenAt.neC {H : Hp} {d c : Addr} {n : Nat} (p : PenAt H d c n) : H c ≠ none := by
  obtain ⟨ns, k, r, h1, h2, h3, h4⟩ := p
  rw [h2]
  exact fun z => nomatch z
theorem PenAt.free {H H' : Hp} {d c a : Addr} {n m : Nat} (p : PenAt H d c n) (p' : PenAt H' d c m) (b : But d H H') (h : H' a = none) : H a = none := by
  obtain ⟨ns, k, r, h1, h2, h3, h4⟩ := p
  exact b.free h1 p'.ne h
/-- another object is written -/
theorem PenAt.put {H : Hp} {d c a : Addr} {n : Nat} {o : HO} (p : PenAt H d c n) (h1 : a ≠ d) (h2 : a ≠ c) : PenAt (upd H a o) d c n := by
  obtain ⟨ns, k, r, e1, e2, h3, h4⟩ := p
  exact ⟨ns, k, r, by rw [upd_ne h1.symm]; exact e1, by rw [upd_ne h2.symm]; exact e2, h3, h4⟩
theorem But.put {d a : Addr} {H H' : Hp} {o : HO} (b : But d H H') (h : H a = none) : But d H (L2.upd H' a o) := fun x u e hx => by
  rw [upd_ne (ne_of_none e h)]
  exact b x u e hx
theorem dp_ints {K : PySem.W.Frag} {H : Hp} : ∀ ns : List Int, DpAll K H (ns.map V.int) (ns.map PyData.int)
  | [] => .nil
  | n :: r => .cons (.int n) (dp_ints r)
theorem cl_ints : ∀ ns : List Int, PyData.canLayAll0 (ns.map PyData.int) = true
  | [] => rfl
  | _ :: r => by simp [PyData.canLayAll0, PyData.canLay0, cl_ints r]
theorem da_ints : ∀ ns : List Int, PyData.depthAll (ns.map PyData.int) = 0
  | [] => rfl
  | _ :: r => by simp [PyData.depthAll, PyData.depth, da_ints r]
theorem sh_ints (ns : List Int) : SeqAt.shaped (.list (ns.map PyData.int)) = true := by
  simp [SeqAt.shaped, PyData.canLay0, PyData.depth, cl_ints, da_ints]
theorem fmod_in (x : Int) {m : Int} (h : 0 < m) : 0 ≤ x.fmod m ∧ x.fmod m < m := by
  rw [Int.fmod_eq_emod_of_nonneg x (by omega)]
  exact ⟨Int.emod_nonneg x (by omega), Int.emod_lt_of_pos x h⟩
theorem eqv_ints (ns : List Int) : PyData.eqv (.list (ns.map PyData.int)) (.list []) = ns.isEmpty := by
  cases ns <;> rfl
theorem st_is {A : L2.St → Hp → Prop} {σ σ' : L2.St} {H : Hp} (e : σ = σ') (h : A σ' H) : A σ H := by rw [e]; exact h
theorem nz1 : (2147483423 : Int) ≠ 0 := by decide
theorem nz2 : (2147483477 : Int) ≠ 0 := by decide
theorem nz3 : (2147483489 : Int) ≠ 0 := by decide
theorem nz4 : (2147483497 : Int) ≠ 0 := by decide
theorem cut_to (xs : List V) (k : Nat) : cutV xs none (some (k : Int)) = xs.take k := by
  unfold cutV
  rw [HT.sIx_none, HT.sIx_nat, List.drop_zero, Nat.sub_zero]
  by_cases h : k ≤ xs.length
  · rw [Nat.min_eq_left h]
  · rw [Nat.min_eq_right (by omega), List.take_of_length_le (Nat.le_refl _), List.take_of_length_le (by omega)]
theorem cut_from (xs : List V) (k : Nat) : cutV xs (some (k : Int)) none = xs.drop k := by
  unfold cutV
  rw [HT.sIx_none, HT.sIx_nat]
  by_cases h : k ≤ xs.length
  · rw [Nat.min_eq_left h, List.take_of_length_le (by rw [List.length_drop]; omega)]
  · rw [Nat.min_eq_right (by omega), List.drop_eq_nil_of_le (Nat.le_refl _), List.drop_eq_nil_of_le (by omega)]
    simp
section
variable {P : Program} {w : World} {K : PySem.W.Frag} {mg : Str → Option Value} {base : Heap}
/-! ### _law_pen -/
def spPen (K : PySem.W.Frag) : Sp := fun vs H Q _ => ∃ (a : Addr) (ns : List Int), vs = [.ref a] ∧ SqL K H a (ns.map V.int) ∧ ns.length ≤ 63 ∧ ∀ (d c : Addr) (H' : Hp), PenAt H' d c 0 → Same H H' → H d = none → Q (.ref d) H'
theorem scPen : FnScope ["_law_script"] ["_law_script"] (defScope sPen) := ⟨rfl, rfl, rfl, by decide +kernel, rfl, by decide +kernel, by decide +kernel⟩
theorem ok_pen {f : Addr} {fd : FuncData} (F : Fun K "_law_pen" "_law_pen" sPen f fd) (ml : mg "list" = none) : FnOk P w K mg base CX0 1 f fd ["_law_script"] (spPen K) := by
  refine F.ok scPen (fun vs H Q E h => ?_) (fun cdv A outer s H vs Q E hr h => ?_)
  · obtain ⟨a, ns, rfl, _⟩ := h
    rfl
  · obtain ⟨a, ns, rfl, hS, hlen, q⟩ := h
    refine ⟨_, pss_one (ps_ret (pe_disp (pps_cons pe_str (pe_callTy call_list_of (by rfl) ml (by decide +kernel) (pa_cons (pe_slice sl_list (pv 0) po_none (po_some pe_int)) pa_nil))
      (pps_cons pe_str pe_int (pps_cons pe_str pe_int pps_nil))) (by rfl) (by rfl) (fun z => by cases z) (by decide))), ?_⟩
    intro p hp
    have s1 : Same H (upd H p (.dK [])) := same_new hp
    refine ⟨_, rfl, 63, rfl, a, ns.map V.int, rfl, s1.seq hS, fun c nc => ?_⟩
    have s2 : Same (upd H p (.dK [])) _ := same_new (o := .lst (cutV (ns.map V.int) none (some 63))) nc
    refine ⟨c, _, rfl, .inl (.inl (.inl upd_same)), fun l nl => ?_⟩
    have s3 : Same _ _ := same_new (o := .lst (cutV (ns.map V.int) none (some 63))) nl
    have h3 := s3 _ _ (s2 _ _ upd_same)
    refine ⟨h3, penKV l 0 0, rfl, by show 3 ≤ 15; decide, ?_⟩
    rw [pen_made]
    have npl : l ≠ p := fun z => by
      rw [z, s2 _ _ upd_same] at nl
      cases nl
    refine q p l _ ⟨ns.take 63, 0, 0, upd_same, ?_, by rw [List.length_take]; omega, Nat.le_refl _⟩ (fun b o e => ?_) hp
    · rw [upd_ne npl, upd_same, show (63 : Int) = ((63 : Nat) : Int) from rfl, cut_to, List.map_take]
    · rw [upd_ne (ne_of_none e hp)]
      exact s3 _ _ (s2 _ _ (s1 _ _ e))
/-! ### _law_draw: slots pen 0, many 1, digit 2, spot 3, cell 4, mixed 5 -/
def spDraw : Sp := fun vs H Q _ => ∃ (d c : Addr) (n : Nat) (m : Int), vs = [.ref d, .int m] ∧ PenAt H d c n ∧ n ≤ 1000000 ∧ 0 < m ∧ m < 1000000 ∧ ∀ (j : Int) (H' : Hp), 0 ≤ j → j < m → PenAt H' d c (n + 1) → But d H H' → Q (.int j) H'
theorem scDraw : FnScope ["_law_pen_here", "_law_many", "_law_digit", "_law_spot", "_law_cell", "_law_mixed"] ["_law_pen_here", "_law_many"] (defScope sDraw) := ⟨rfl, rfl, rfl, by decide +kernel, rfl, by decide +kernel, by decide +kernel⟩
theorem ok_draw {f : Addr} {fd : FuncData} (F : Fun K "_law_draw" "_law_draw" sDraw f fd) (mi : mg "int" = none) (ml : mg "len" = none) : FnOk P w K mg base CX0 1 f fd ["_law_pen_here", "_law_many"] spDraw := by
  refine F.ok scDraw (fun vs H Q E h => ?_) (fun cdv A outer s H vs Q E hr h => ?_)
  · obtain ⟨d, c, n, m, rfl, _⟩ := h
    rfl
  · obtain ⟨d, c, n, m, rfl, p, hn, hm0, hm1, q⟩ := h
    have hu := hu_of hr
    refine ⟨_, pss_cons (ps_if (pt_cmpR op_ge (pe_dget hu (pv 0) pe_str (fun _ _ => rfl)) (pv 1) (nomark _))
        (pss_cons (ps_set (i := 2) scDraw.nd rfl (Or.inl rfl) (pe_op op_modN (pe_callTy call_int1 (by rfl) mi (by decide +kernel) (pa_cons (pe_dget hu (pv 0) pe_str (fun _ _ => rfl)) pa_nil)) (pv 1)))
          (pss_cons (ps_dput hu (pv 0) pe_str (pe_op op_fdivN (pe_dget hu (pv 0) pe_str (fun _ _ => rfl)) (pv 1)) rfl)
            (pss_one (ps_ret (pv 2))))) pss_nil)
      (pss_cons (ps_set (i := 3) scDraw.nd rfl (Or.inl rfl) (pe_dget hu (pv 0) pe_str (fun _ _ => rfl)))
      (pss_cons (ps_dput hu (pv 0) pe_str (pe_op op_add (pv 3) pe_int) rfl)
      (pss_cons (ps_set (i := 4) scDraw.nd rfl (Or.inl rfl) (pe_op op_add (pe_op op_mul pe_int (pv 3)) pe_int))
      (pss_cons (ps_if (pt_cmpR (op_neD hr.units) (pe_dget hu (pv 0) pe_str (fun _ _ => rfl)) (pe_lst pa_nil) (nomark _))
          (pss_one (ps_set (i := 4) scDraw.nd rfl (Or.inl rfl) (pe_ix ix_list (pe_dget hu (pv 0) pe_str (fun _ _ => rfl))
            (pe_op op_modN (pe_callTy call_int1 (by rfl) mi (by decide +kernel) (pa_cons (pv 3) pa_nil)) (pe_callB call_len_seq (by rfl) ml PySem.boot_len (pa_cons (pe_dget hu (pv 0) pe_str (fun _ _ => rfl)) pa_nil))) (fun _ _ => rfl)))) pss_nil)
      (pss_cons (ps_if (PW.pt (pw_and (pt_cmpR op_lt (pv 3) (pe_callB call_len_seq (by rfl) ml PySem.boot_len (pa_cons (pe_dget hu (pv 0) pe_str (fun _ _ => rfl)) pa_nil)) (nomark _)) (pw_and1 (pt_cmpR op_ge (pv 4) (pe_op op_pow pe_int pe_int) (nomark _)))))
          (pss_cons (ps_dput hu (pv 0) pe_str (pe_op op_fdivN (pe_op op_sub (pv 4) (pe_op op_pow pe_int pe_int)) (pv 1)) rfl)
            (pss_one (ps_ret (pe_op op_modN (pe_callTy call_int1 (by rfl) mi (by decide +kernel) (pa_cons (pe_op op_sub (pv 4) (pe_op op_pow pe_int pe_int)) pa_nil)) (pv 1))))) pss_nil)
      (pss_cons (ps_set (i := 5) scDraw.nd rfl (Or.inl rfl) (pe_op op_mul (pe_op op_modN (pe_callTy call_int1 (by rfl) mi (by decide +kernel) (pa_cons (pv 4) pa_nil)) pe_int) pe_int))
      (pss_cons (ps_set (i := 5) scDraw.nd rfl (Or.inl rfl) (pe_op op_modN (pe_callTy call_int1 (by rfl) mi (by decide +kernel) (pa_cons (pe_op op_add (pe_op op_add (pe_op op_add (pv 5) (pe_op op_mul (pe_op op_mul pe_int (pv 3)) (pv 3))) (pe_op op_mul pe_int (pv 3))) pe_int) pa_nil)) pe_int))
      (pss_cons (ps_set (i := 5) scDraw.nd rfl (Or.inl rfl) (pe_op op_modN (pe_callTy call_int1 (by rfl) mi (by decide +kernel) (pa_cons (pe_op op_mul (pv 5) (pe_op op_add (pv 5) pe_int)) pa_nil)) pe_int))
      (pss_one (ps_ret (pe_op op_modN (pe_callTy call_int1 (by rfl) mi (by decide +kernel) (pa_cons (pe_op op_fdivN (pe_op op_modN (pe_callTy call_int1 (by rfl) mi (by decide +kernel) (pa_cons (pe_op op_add (pe_op op_mul (pv 5) (pv 5)) (pe_op op_mul pe_int (pv 5))) pa_nil)) pe_int) pe_int) pa_nil)) (pv 1)))))))))))), ?_⟩
    obtain ⟨ns, sp, r, h1, h2, h3, h4⟩ := p
    have gC : ∀ {H : Hp} {x y : Int}, H d = some (.dK (penKV c x y)) → DGet H d (.str "cells") (some (.ref c)) := fun {H x y} e => by
      have z := DGet.k (k := kCells) e
      rw [pen_cells] at z
      exact z
    have gS : ∀ {H : Hp} {x y : Int}, H d = some (.dK (penKV c x y)) → DGet H d (.str "spot") (some (.int x)) := fun {H x y} e => by
      have z := DGet.k (k := kSpot) e
      rw [pen_spot] at z
      exact z
    have gR : ∀ {H : Hp} {x y : Int}, H d = some (.dK (penKV c x y)) → DGet H d (.str "rest") (some (.int y)) := fun {H x y} e => by
      have z := DGet.k (k := kRest) e
      rw [pen_rest] at z
      exact z
    have uS : ∀ {H : Hp} {x y z : Int}, H d = some (.dK (penKV c x y)) → DPut H d (.str "spot") (.int z) (upd H d (.dK (penKV c z y))) := fun {H x y z} e => by
      have q := DPut.k (k := kSpot) (v := .int z) e (small1000 (by show 3 ≤ 1000; decide))
      rw [pen_putS] at q
      exact q
    have uR : ∀ {H : Hp} {x y z : Int}, H d = some (.dK (penKV c x y)) → DPut H d (.str "rest") (.int z) (upd H d (.dK (penKV c x z))) := fun {H x y z} e => by
      have q := DPut.k (k := kRest) (v := .int z) e (small1000 (by show 3 ≤ 1000; decide))
      rw [pen_putR] at q
      exact q
    have ncd : c ≠ d := ne_of h2 h1 (fun z => by cases z)
    have hmn : m ≠ 0 := by omega
    have hma : m.natAbs < 1073741824 := by omega
    have fm : ∀ x : Int, 0 ≤ x.fmod m ∧ x.fmod m < m := fun x => fmod_in x hm0
    -- if pen["rest"] >= many
    refine ⟨_, rfl, d, _, rfl, gR h1, _, rfl, _, _, rfl, rfl, _, rfl, ?_⟩
    refine ite2 (fun _ => ?_) (fun _ => ?_)
    · -- digit = int(pen["rest"]) % many; pen["rest"] = pen["rest"] // many; return digit
      refine ⟨_, rfl, d, _, rfl, gR h1, .inl ⟨_, rfl, _, rfl, _, _, rfl, rfl, hmn, ?_⟩⟩
      refine ⟨_, rfl, d, _, rfl, gR h1, _, rfl, _, _, rfl, rfl, ⟨hmn, hma⟩, _, rfl, d, _, rfl, uR h1, _, rfl, ?_⟩
      exact q _ _ (fm r).1 (fm r).2 ⟨ns, sp, _, upd_same, by rw [upd_ne ncd]; exact h2, h3, by omega⟩ But.upd
    · -- spot = pen["spot"]; pen["spot"] = spot + 1; cell = 61 * spot + 37
      refine ⟨_, rfl, d, _, rfl, gS h1, _, rfl, _, _, rfl, rfl, _, rfl, d, _, rfl, uS h1, ?_⟩
      have hsp : (sp : Int) ≤ 1000000 := by omega
      refine ⟨_, rfl, _, _, rfl, rfl, .inl ⟨by decide, by decide⟩, _, _, rfl, rfl, ?_⟩
      have p1 : (upd H d (.dK (penKV c ((sp : Int) + 1) r))) d = some (.dK (penKV c ((sp : Int) + 1) r)) := upd_same
      have c1 : (upd H d (.dK (penKV c ((sp : Int) + 1) r))) c = some (.lst (ns.map V.int)) := by rw [upd_ne ncd]; exact h2
      have b1 : But d H (upd H d (.dK (penKV c ((sp : Int) + 1) r))) := But.upd
      generalize upd H d (.dK (penKV c ((sp : Int) + 1) r)) = H1 at p1 c1 b1
      -- if pen["cells"] != []
      refine ⟨_, rfl, d, _, rfl, gC p1, Nat.zero_le _, fun l nl => ?_⟩
      have s2 : Same H1 (upd H1 l (.lst [])) := same_new nl
      refine ⟨.list (ns.map PyData.int), .list [], .lst (.inl (.inl (s2 _ _ c1))) (dp_ints ns), .lst (.inl (.inl upd_same)) .nil, sh_ints ns, by decide +kernel, _, rfl, ?_⟩
      have p2 := s2 _ _ p1
      have c2 := s2 _ _ c1
      have b2 : But d H (upd H1 l (.lst [])) := b1.trans (but_of s2)
      generalize upd H1 l (.lst []) = H2 at p2 c2 b2
      rw [eqv_ints]
      refine ite2 (fun hne => ?_) (fun _ => ?_)
      · have hpos : 0 < ns.length := by
          cases ns with
          | nil => cases hne
          | cons a t => exact Nat.succ_pos _
        have hl0 : (0 : Int) < ((ns.map V.int).length : Int) := by rw [List.length_map]; omega
        have fi := fmod_in (sp : Int) hl0
        obtain ⟨j, ej⟩ : ∃ j : Nat, (sp : Int).fmod ((ns.map V.int).length : Int) = (j : Int) := ⟨((sp : Int).fmod ((ns.map V.int).length : Int)).toNat, by omega⟩
        have hj : j < ns.length := by
          have z := fi.2
          rw [ej, List.length_map] at z
          omega
        -- cell = pen["cells"][int(spot) % len(pen["cells"])]
        refine ⟨_, rfl, d, _, rfl, gC p2, _, rfl, .inl ⟨_, rfl, _, rfl, d, _, rfl, gC p2, _, _, rfl, .inl (.inl (.inl c2)), _, _, rfl, rfl, by omega, c, _, _, .int ns[j], rfl, rfl, .inl (.inl c2), at_of (j := j) ej (by rw [List.getElem?_map, List.getElem?_eq_getElem hj]; rfl), ?_⟩⟩
        generalize ns[j] = z
        refine ⟨_, rfl, _, rfl, d, _, rfl, gC p2, _, _, rfl, .inl (.inl (.inl c2)), _, _, rfl, rfl, _, rfl, ?_⟩
        refine ite2 (fun _ => ⟨_, rfl, _, _, rfl, rfl, ⟨by decide, by decide, by decide⟩, _, _, rfl, rfl, _, rfl, ite2 (fun _ => ?_) (fun _ => ?_)⟩) (fun _ => ?_)
        · refine ⟨_, rfl, _, _, rfl, rfl, ⟨by decide, by decide, by decide⟩, _, _, rfl, rfl, _, rfl, _, _, rfl, rfl, ⟨hmn, hma⟩, _, rfl, d, _, rfl, uR p2, ?_⟩
          refine ⟨_, rfl, _, _, rfl, rfl, ⟨by decide, by decide, by decide⟩, _, _, rfl, rfl, .inl ⟨_, rfl, _, rfl, _, _, rfl, rfl, hmn, ?_⟩⟩
          exact q _ _ (fm _).1 (fm _).2 ⟨ns, sp + 1, _, upd_same, by rw [upd_ne ncd]; exact c2, h3, by omega⟩ (b2.trans But.upd)
        · refine ⟨_, rfl, .inl ⟨_, rfl, _, _, rfl, rfl, nz1, _, _, rfl, rfl, .inr ⟨by decide, by decide⟩, ?_⟩⟩
          obtain ⟨z1, e1⟩ : ∃ z1, (z.fmod 2147483423) * 40009 = z1 := ⟨_, rfl⟩
          refine ⟨_, rfl, _, rfl, _, _, rfl, rfl, .inl ⟨by decide, by decide⟩, _, rfl, _, _, rfl, rfl, .inr ⟨by omega, by omega⟩, z1, _, congrArg V.int e1, rfl, _, rfl, _, _, rfl, rfl, .inl ⟨by decide, by decide⟩, _, _, rfl, rfl, _, _, rfl, rfl, .inl ⟨_, rfl, _, _, rfl, rfl, nz2, ?_⟩⟩
          obtain ⟨z2, e2⟩ : ∃ z2, (z1 + 52361 * (sp : Int) * (sp : Int) + 97 * (sp : Int) + 29).fmod 2147483477 = z2 := ⟨_, rfl⟩
          have f2 := fmod_in (z1 + 52361 * (sp : Int) * (sp : Int) + 97 * (sp : Int) + 29) (m := 2147483477) (by decide)
          rw [e2] at f2
          refine ⟨_, rfl, _, rfl, z2, _, congrArg V.int e2, rfl, z2, _, congrArg V.int e2, rfl, .inl ⟨by omega, by omega⟩, .inl ⟨_, rfl, _, _, rfl, rfl, nz3, ?_⟩⟩
          obtain ⟨z3, e3⟩ : ∃ z3, (z2 * (z2 + 70001)).fmod 2147483489 = z3 := ⟨_, rfl⟩
          have f3 := fmod_in (z2 * (z2 + 70001)) (m := 2147483489) (by decide)
          rw [e3] at f3
          refine ⟨_, rfl, _, rfl, z3, z3, congrArg V.int e3, congrArg V.int e3, .inl ⟨by omega, by omega⟩, _, rfl, _, z3, rfl, congrArg V.int e3, .inl ⟨by decide, by decide⟩, _, _, rfl, rfl, .inl ⟨_, rfl, _, _, rfl, rfl, nz4, _, _, rfl, rfl, ⟨by decide, by decide⟩, .inl ⟨_, rfl, _, rfl, _, _, rfl, rfl, hmn, ?_⟩⟩⟩
          exact q _ _ (fm _).1 (fm _).2 ⟨ns, sp + 1, _, p2, c2, h3, by omega⟩ b2
        · refine ⟨_, rfl, .inl ⟨_, rfl, _, _, rfl, rfl, nz1, _, _, rfl, rfl, .inr ⟨by decide, by decide⟩, ?_⟩⟩
          obtain ⟨z1, e1⟩ : ∃ z1, (z.fmod 2147483423) * 40009 = z1 := ⟨_, rfl⟩
          refine ⟨_, rfl, _, rfl, _, _, rfl, rfl, .inl ⟨by decide, by decide⟩, _, rfl, _, _, rfl, rfl, .inr ⟨by omega, by omega⟩, z1, _, congrArg V.int e1, rfl, _, rfl, _, _, rfl, rfl, .inl ⟨by decide, by decide⟩, _, _, rfl, rfl, _, _, rfl, rfl, .inl ⟨_, rfl, _, _, rfl, rfl, nz2, ?_⟩⟩
          obtain ⟨z2, e2⟩ : ∃ z2, (z1 + 52361 * (sp : Int) * (sp : Int) + 97 * (sp : Int) + 29).fmod 2147483477 = z2 := ⟨_, rfl⟩
          have f2 := fmod_in (z1 + 52361 * (sp : Int) * (sp : Int) + 97 * (sp : Int) + 29) (m := 2147483477) (by decide)
          rw [e2] at f2
          refine ⟨_, rfl, _, rfl, z2, _, congrArg V.int e2, rfl, z2, _, congrArg V.int e2, rfl, .inl ⟨by omega, by omega⟩, .inl ⟨_, rfl, _, _, rfl, rfl, nz3, ?_⟩⟩
          obtain ⟨z3, e3⟩ : ∃ z3, (z2 * (z2 + 70001)).fmod 2147483489 = z3 := ⟨_, rfl⟩
          have f3 := fmod_in (z2 * (z2 + 70001)) (m := 2147483489) (by decide)
          rw [e3] at f3
          refine ⟨_, rfl, _, rfl, z3, z3, congrArg V.int e3, congrArg V.int e3, .inl ⟨by omega, by omega⟩, _, rfl, _, z3, rfl, congrArg V.int e3, .inl ⟨by decide, by decide⟩, _, _, rfl, rfl, .inl ⟨_, rfl, _, _, rfl, rfl, nz4, _, _, rfl, rfl, ⟨by decide, by decide⟩, .inl ⟨_, rfl, _, rfl, _, _, rfl, rfl, hmn, ?_⟩⟩⟩
          exact q _ _ (fm _).1 (fm _).2 ⟨ns, sp + 1, _, p2, c2, h3, by omega⟩ b2
      · obtain ⟨z, ez⟩ : ∃ z, 61 * (sp : Int) + 37 = z := ⟨_, rfl⟩
        refine st_is (σ' := [some (.ref d), some (.int m), none, some (.int (sp : Int)), some (.int z), none]) (by rw [← ez]; rfl) ?_
        refine ⟨_, rfl, _, rfl, d, _, rfl, gC p2, _, _, rfl, .inl (.inl (.inl c2)), _, _, rfl, rfl, _, rfl, ?_⟩
        refine ite2 (fun _ => ⟨_, rfl, _, _, rfl, rfl, ⟨by decide, by decide, by decide⟩, _, _, rfl, rfl, _, rfl, ite2 (fun _ => ?_) (fun _ => ?_)⟩) (fun _ => ?_)
        · refine ⟨_, rfl, _, _, rfl, rfl, ⟨by decide, by decide, by decide⟩, _, _, rfl, rfl, _, rfl, _, _, rfl, rfl, ⟨hmn, hma⟩, _, rfl, d, _, rfl, uR p2, ?_⟩
          refine ⟨_, rfl, _, _, rfl, rfl, ⟨by decide, by decide, by decide⟩, _, _, rfl, rfl, .inl ⟨_, rfl, _, rfl, _, _, rfl, rfl, hmn, ?_⟩⟩
          exact q _ _ (fm _).1 (fm _).2 ⟨ns, sp + 1, _, upd_same, by rw [upd_ne ncd]; exact c2, h3, by omega⟩ (b2.trans But.upd)
        · refine ⟨_, rfl, .inl ⟨_, rfl, _, _, rfl, rfl, nz1, _, _, rfl, rfl, .inr ⟨by decide, by decide⟩, ?_⟩⟩
          obtain ⟨z1, e1⟩ : ∃ z1, (z.fmod 2147483423) * 40009 = z1 := ⟨_, rfl⟩
          refine ⟨_, rfl, _, rfl, _, _, rfl, rfl, .inl ⟨by decide, by decide⟩, _, rfl, _, _, rfl, rfl, .inr ⟨by omega, by omega⟩, z1, _, congrArg V.int e1, rfl, _, rfl, _, _, rfl, rfl, .inl ⟨by decide, by decide⟩, _, _, rfl, rfl, _, _, rfl, rfl, .inl ⟨_, rfl, _, _, rfl, rfl, nz2, ?_⟩⟩
          obtain ⟨z2, e2⟩ : ∃ z2, (z1 + 52361 * (sp : Int) * (sp : Int) + 97 * (sp : Int) + 29).fmod 2147483477 = z2 := ⟨_, rfl⟩
          have f2 := fmod_in (z1 + 52361 * (sp : Int) * (sp : Int) + 97 * (sp : Int) + 29) (m := 2147483477) (by decide)
          rw [e2] at f2
          refine ⟨_, rfl, _, rfl, z2, _, congrArg V.int e2, rfl, z2, _, congrArg V.int e2, rfl, .inl ⟨by omega, by omega⟩, .inl ⟨_, rfl, _, _, rfl, rfl, nz3, ?_⟩⟩
          obtain ⟨z3, e3⟩ : ∃ z3, (z2 * (z2 + 70001)).fmod 2147483489 = z3 := ⟨_, rfl⟩
          have f3 := fmod_in (z2 * (z2 + 70001)) (m := 2147483489) (by decide)
          rw [e3] at f3
          refine ⟨_, rfl, _, rfl, z3, z3, congrArg V.int e3, congrArg V.int e3, .inl ⟨by omega, by omega⟩, _, rfl, _, z3, rfl, congrArg V.int e3, .inl ⟨by decide, by decide⟩, _, _, rfl, rfl, .inl ⟨_, rfl, _, _, rfl, rfl, nz4, _, _, rfl, rfl, ⟨by decide, by decide⟩, .inl ⟨_, rfl, _, rfl, _, _, rfl, rfl, hmn, ?_⟩⟩⟩
          exact q _ _ (fm _).1 (fm _).2 ⟨ns, sp + 1, _, p2, c2, h3, by omega⟩ b2
        · refine ⟨_, rfl, .inl ⟨_, rfl, _, _, rfl, rfl, nz1, _, _, rfl, rfl, .inr ⟨by decide, by decide⟩, ?_⟩⟩
          obtain ⟨z1, e1⟩ : ∃ z1, (z.fmod 2147483423) * 40009 = z1 := ⟨_, rfl⟩
          refine ⟨_, rfl, _, rfl, _, _, rfl, rfl, .inl ⟨by decide, by decide⟩, _, rfl, _, _, rfl, rfl, .inr ⟨by omega, by omega⟩, z1, _, congrArg V.int e1, rfl, _, rfl, _, _, rfl, rfl, .inl ⟨by decide, by decide⟩, _, _, rfl, rfl, _, _, rfl, rfl, .inl ⟨_, rfl, _, _, rfl, rfl, nz2, ?_⟩⟩
          obtain ⟨z2, e2⟩ : ∃ z2, (z1 + 52361 * (sp : Int) * (sp : Int) + 97 * (sp : Int) + 29).fmod 2147483477 = z2 := ⟨_, rfl⟩
          have f2 := fmod_in (z1 + 52361 * (sp : Int) * (sp : Int) + 97 * (sp : Int) + 29) (m := 2147483477) (by decide)
          rw [e2] at f2
          refine ⟨_, rfl, _, rfl, z2, _, congrArg V.int e2, rfl, z2, _, congrArg V.int e2, rfl, .inl ⟨by omega, by omega⟩, .inl ⟨_, rfl, _, _, rfl, rfl, nz3, ?_⟩⟩
          obtain ⟨z3, e3⟩ : ∃ z3, (z2 * (z2 + 70001)).fmod 2147483489 = z3 := ⟨_, rfl⟩
          have f3 := fmod_in (z2 * (z2 + 70001)) (m := 2147483489) (by decide)
          rw [e3] at f3
          refine ⟨_, rfl, _, rfl, z3, z3, congrArg V.int e3, congrArg V.int e3, .inl ⟨by omega, by omega⟩, _, rfl, _, z3, rfl, congrArg V.int e3, .inl ⟨by decide, by decide⟩, _, _, rfl, rfl, .inl ⟨_, rfl, _, _, rfl, rfl, nz4, _, _, rfl, rfl, ⟨by decide, by decide⟩, .inl ⟨_, rfl, _, rfl, _, _, rfl, rfl, hmn, ?_⟩⟩⟩
          exact q _ _ (fm _).1 (fm _).2 ⟨ns, sp + 1, _, p2, c2, h3, by omega⟩ b2
end
end K2

namespace K2
open PySem L2
/-- what a call of a def of the text wants, beside its promise -/
structure Cd (K : PySem.W.Frag) (mg : Str → Option Value) (x : Str) (f : Addr) : Prop where
  mg : mg x = some (.ref f)
  kp : PySem.W.keepIn K (.ref f) = true
section
variable {P : Program} {w : World} {K : PySem.W.Frag} {mg : Str → Option Value} {base : Heap}
theorem lst_ne {H : Hp} {a d c : Addr} {xs : List V} {n : Nat} (h : H a = some (.lst xs)) (p : PenAt H d c n) : a ≠ d := by
  obtain ⟨ns, s, r, h1, _⟩ := p
  exact ne_of h h1 (fun z => by cases z)
theorem tup_ne {H : Hp} {a d c : Addr} {xs : List V} {n : Nat} (h : H a = some (.tup xs)) (p : PenAt H d c n) : a ≠ d := by
  obtain ⟨ns, s, r, h1, _⟩ := p
  exact ne_of h h1 (fun z => by cases z)
/-! ### _law_pick: slots pen 0, items 1 -/
def spPick : Sp := fun vs H Q _ => ∃ (d c : Addr) (n : Nat) (x : V), vs = [.ref d, x] ∧ PenAt H d c n ∧ n ≤ 1000000 ∧
  ((∃ (a : Addr) (xs : List V), x = .ref a ∧ H a = some (.lst xs) ∧ 0 < xs.length ∧ xs.length < 1000000 ∧ ∀ (v : V) (H' : Hp), v ∈ xs → PenAt H' d c (n + 1) → But d H H' → Q v H') ∨
   (∃ z : Str, x = .str z ∧ 0 < z.length ∧ z.length < 1000000 ∧ ∀ (y : Nat) (H' : Hp), y ∈ z.cps.toList → PenAt H' d c (n + 1) → But d H H' → Q (.str ⟨#[y]⟩) H'))
theorem scPick : FnScope ["_law_pen_here", "_law_items"] ["_law_pen_here", "_law_items"] (defScope sPick) := ⟨rfl, rfl, rfl, by decide +kernel, rfl, by decide +kernel, by decide +kernel⟩
theorem ok_pick {f fD : Addr} {fd fdD : FuncData} (F : Fun K "_law_pick" "_law_pick" sPick f fd) (GD : FnOk P w K mg base CX0 1 fD fdD ["_law_pen_here", "_law_many"] spDraw) (cD : Cd K mg "_law_draw" fD) (bD : Binds K fdD ["_law_pen_here", "_law_many"] [])
    (ml : mg "len" = none) : FnOk P w K mg base CX0 2 f fd ["_law_pen_here", "_law_items"] spPick := by
  refine F.ok scPick (fun vs H Q E h => ?_) (fun cdv A outer s H vs Q E hr h => ?_)
  · obtain ⟨d, c, n, x, rfl, _⟩ := h
    rfl
  · obtain ⟨d, c, n, x, rfl, p, hn, h⟩ := h
    refine ⟨_, pss_one (ps_ret (pe_ix ix_seq (pv 1) (pe_call GD hr rfl cD.mg cD.kp bD .nil pass0 (pa_cons (pv 0) (pa_cons (pe_callB call_len (by rfl) ml (by decide +kernel) (pa_cons (pv 1) pa_nil)) pa_nil))) (fun _ _ => rfl))), ?_⟩
    rcases h with ⟨a, xs, rfl, hx, h0, h1, q⟩ | ⟨z, rfl, h0, h1, q⟩
    · refine ⟨_, rfl, _, rfl, _, rfl, _, _, rfl, .inl ⟨_, .inl (.inl hx), rfl⟩, d, c, n, (xs.length : Int), rfl, p, hn, by omega, by omega, fun j H' hj0 hj1 p' b => ?_⟩
      have hx' := b a _ hx (lst_ne hx p)
      obtain ⟨k, rfl⟩ : ∃ k : Nat, j = (k : Int) := ⟨j.toNat, by omega⟩
      have hk : k < xs.length := by omega
      exact .inl ⟨a, xs, _, xs[k], rfl, rfl, .inl (.inl hx'), atI_nat (List.getElem?_eq_getElem hk), q _ _ (List.getElem_mem hk) p' b⟩
    · have hz : z.length ≤ sizeLine := by have := small1000 (n := 0) (by decide); rw [sizeLine_eq]; omega
      refine ⟨_, rfl, _, rfl, _, rfl, _, _, rfl, ⟨hz, rfl⟩, d, c, n, (z.length : Int), rfl, p, hn, by omega, by omega, fun j H' hj0 hj1 p' b => ?_⟩
      obtain ⟨k, rfl⟩ : ∃ k : Nat, j = (k : Int) := ⟨j.toNat, by omega⟩
      have hk : k < z.cps.toList.length := by rw [← TL.len_tl]; omega
      exact .inr (.inr ⟨z, _, z.cps.toList[k], rfl, rfl, hz, atI_nat (List.getElem?_eq_getElem hk), q _ _ (List.getElem_mem hk) p' b⟩)
end
end K2

namespace K2
open PySem L2 SX AddrMath
/-! ### texts by their signs -/
theorem len_S (l : List Nat) : (S l).length = l.length := S_len l
theorem cutS_to (l : List Nat) (k : Nat) : cutS (S l) none (some (k : Int)) = S (l.take k) := by
  unfold cutS
  rw [HT.sIx_none, HT.sIx_nat, len_S, List.drop_zero, Nat.sub_zero]
  show S (l.take (min k l.length)) = _
  by_cases h : k ≤ l.length
  · rw [Nat.min_eq_left h]
  · rw [Nat.min_eq_right (by omega), List.take_of_length_le (Nat.le_refl _), List.take_of_length_le (by omega)]
theorem cutS_from (l : List Nat) (k : Nat) : cutS (S l) (some (k : Int)) none = S (l.drop k) := by
  unfold cutS
  rw [HT.sIx_none, HT.sIx_nat, len_S]
  show S ((l.drop (min k l.length)).take (l.length - min k l.length)) = _
  by_cases h : k ≤ l.length
  · rw [Nat.min_eq_left h, List.take_of_length_le (by rw [List.length_drop]; omega)]
  · rw [Nat.min_eq_right (by omega), List.drop_eq_nil_of_le (Nat.le_refl _), List.drop_eq_nil_of_le (show l.length ≤ k by omega)]
    simp
theorem cutS_mid (l : List Nat) (i k : Nat) : cutS (S l) (some (i : Int)) (some (k : Int)) = S ((l.take k).drop i) := by
  unfold cutS
  rw [HT.sIx_nat, HT.sIx_nat, len_S]
  show S ((l.drop (min i l.length)).take (min k l.length - min i l.length)) = _
  congr 1
  apply List.ext_getElem?
  intro n
  rw [List.getElem?_take, List.getElem?_drop, List.getElem?_drop, List.getElem?_take]
  by_cases hi : i ≤ l.length
  · rw [Nat.min_eq_left hi]
    by_cases hk : k ≤ l.length
    · rw [Nat.min_eq_left hk]
      by_cases h : n < k - i
      · rw [if_pos h, if_pos (by omega)]
      · rw [if_neg h, if_neg (by omega)]
    · rw [Nat.min_eq_right (by omega)]
      by_cases h : n < l.length - i
      · rw [if_pos h, if_pos (by omega)]
      · rw [if_neg h]
        split
        · exact (List.getElem?_eq_none (by omega)).symm
        · rfl
  · rw [Nat.min_eq_right (by omega : l.length ≤ i)]
    rw [if_neg (by omega)]
    split
    · exact (List.getElem?_eq_none (by omega)).symm
    · rfl
theorem joinL_nil : ∀ ys : List (List Nat), TL.joinL [] ys = ys.flatten
  | [] => rfl
  | [p] => by simp [TL.joinL]
  | p :: q :: r => by
    show p ++ ([] ++ TL.joinL [] (q :: r)) = _
    rw [joinL_nil (q :: r)]
    rfl
theorem join_S0 (ys : List (List Nat)) : Txt.join (S []) (ys.map S) = S ys.flatten := by rw [join_S, joinL_nil]
theorem emp_S : (Str.ofString "" : Str) = S [] := by decide +kernel
theorem nz3' : (3 : Int) ≠ 0 := by decide
theorem nz26 : (26 : Int) ≠ 0 := by decide
theorem at_ofN {xs : List Nat} {z : Int} {j : Nat} {v : Nat} (e : z = (j : Int)) (h : xs[j]? = some v) : atI xs z = some v := by
  rw [e]
  exact atI_nat h
theorem size_ok {n : Nat} (h : n ≤ 1000000) : n ≤ sizeLine := by rw [sizeLine_eq]; omega
theorem size_lt {n : Nat} (h : n ≤ 1000000) : n < sizeLine := by rw [sizeLine_eq]; omega
abbrev lettersL : List Nat := (Str.ofString "abcdefghijklmnopqrstuvwxyz" : Str).cps.toList
theorem letters_all : ∀ c ∈ lettersL, isL c = true := by decide +kernel
theorem letters_len : lettersL.length = 26 := by decide +kernel
theorem letters_S : (Str.ofString "abcdefghijklmnopqrstuvwxyz" : Str) = S lettersL := (S_tl _).symm
theorem flat_one (cs : List Nat) : (cs.map fun c => [c]).flatten = cs := by
  induction cs with
  | nil => rfl
  | cons c r ih =>
    rw [List.map_cons, List.flatten_cons, ih]
    rfl
theorem map_one (cs : List Nat) : (cs.map fun c => V.str (S [c])) = ((cs.map fun c => [c]).map S).map V.str := by
  rw [List.map_map, List.map_map]
  rfl
theorem sum_one (cs : List Nat) : (((cs.map fun c => [c]).map S).map (·.length)).sum = cs.length := by
  induction cs with
  | nil => rfl
  | cons c r ih =>
    rw [List.map_cons, List.map_cons, List.map_cons, List.sum_cons, ih, List.length_cons, len_S]
    exact Nat.add_comm _ _
section
variable {P : Program} {w : World} {K : PySem.W.Frag} {mg : Str → Option Value} {base : Heap}
/-! ### _law_words: slots pen 0, many 1, letters 2, k 3, stem 4, at 5, front 6, step 7, tail 8, found 9, word 10 -/
def spWords : Sp := fun vs H Q _ => ∃ (d c : Addr) (n m : Nat), vs = [.ref d, .int (m : Int)] ∧ PenAt H d c n ∧ n ≤ 900000 ∧ m ≤ 20 ∧
  ∀ (a : Addr) (ws : List (List Nat)) (H' : Hp), ws.length = m → (∀ x ∈ ws, isW x = true) → H' a = some (.lst (ws.map fun x => V.str (S x))) → H a = none → PenAt H' d c (n + 10) → But d H H' → Q (.ref a) H'
theorem scWords : FnScope ["_law_pen_here", "_law_many", "_law_letters", "_law_k", "_law_stem", "_law_at", "_law_front", "_law_step", "_law_tail", "_law_found", "_law_word"] ["_law_pen_here", "_law_many"] (defScope sWords) := ⟨rfl, rfl, rfl, by decide +kernel, rfl, by decide +kernel, by decide +kernel⟩
theorem ok_words {f fD fP : Addr} {fd fdD fdP : FuncData} (F : Fun K "_law_words" "_law_words" sWords f fd) (GD : FnOk P w K mg base CX0 1 fD fdD ["_law_pen_here", "_law_many"] spDraw) (cD : Cd K mg "_law_draw" fD) (bD : Binds K fdD ["_law_pen_here", "_law_many"] [])
    (GP : FnOk P w K mg base CX0 2 fP fdP ["_law_pen_here", "_law_items"] spPick) (cP : Cd K mg "_law_pick" fP) (bP : Binds K fdP ["_law_pen_here", "_law_items"] [])
    (ml : mg "len" = none) (mr : mg "range" = none) (mi : mg "int" = none) : FnOk P w K mg base CX0 3 f fd ["_law_pen_here", "_law_many"] spWords := by
  refine F.ok scWords (fun vs H Q E h => ?_) (fun cdv A outer s H vs Q E hr h => ?_)
  · obtain ⟨d, c, n, m, rfl, _⟩ := h
    rfl
  · obtain ⟨d, c, n, m, rfl, p, hn, hm, q⟩ := h
    have hr1 : Room 1 _ := hr.mono (by decide)
    refine ⟨_, pss_cons (ps_set (i := 2) scWords.nd rfl (Or.inr rfl) pe_str)
      (pss_cons (ps_set (i := 4) scWords.nd rfl (Or.inl rfl) (pe_join pe_str (pe_lc (own := [("_law_k", 3)]) (g := gName 3) (tt := tYes) rfl scWords.nd (pi_range1 (by rfl) mr (pa_cons (pe_call GD hr1 rfl cD.mg cD.kp bD .nil pass0 (pa_cons (pv 0) (pa_cons pe_int pa_nil))) pa_nil))
          (blkOk_by (own := [("_law_k", 3)]) (N := ["_law_pen_here", "_law_many", "_law_letters", "_law_k", "_law_stem", "_law_at", "_law_front", "_law_step", "_law_tail", "_law_found", "_law_word"]) (sc := defScope sWords) (by decide +kernel))
          (fun _ _ _ _ _ => pg_name (i := 3) scWords.nd rfl (Or.inl rfl)) (fun _ _ _ _ _ => pts_nil)
          (fun _ _ _ _ _ => pe_call GP hr rfl cP.mg cP.kp bP .nil pass0 (pa_cons (pv 0) (pa_cons (pv 2) pa_nil))))))
      (pss_cons (ps_par (by rfl) scWords.nd (i := 5) (j := 6) rfl rfl (by decide) rfl rfl (pa_cons (pe_call GD hr1 rfl cD.mg cD.kp bD .nil pass0 (pa_cons (pv 0) (pa_cons (pe_op op_add (pe_callB call_len_str (by rfl) ml (by decide +kernel) (pa_cons (pv 4) pa_nil)) pe_int) pa_nil)))
          (pa_cons (pe_call GD hr1 rfl cD.mg cD.kp bD .nil pass0 (pa_cons (pv 0) (pa_cons pe_int pa_nil))) pa_nil)) (by rfl))
      (pss_cons (ps_par (by rfl) scWords.nd (i := 7) (j := 8) rfl rfl (by decide) rfl rfl (pa_cons (pe_call GP hr rfl cP.mg cP.kp bP .nil pass0 (pa_cons (pv 0) (pa_cons (pe_lst (pa_cons pe_int (pa_cons pe_int (pa_cons pe_int (pa_cons pe_int (pa_cons pe_int (pa_cons pe_int (pa_cons pe_int (pa_cons pe_int pa_nil))))))))) pa_nil)))
          (pa_cons (pe_call GP hr rfl cP.mg cP.kp bP .nil pass0 (pa_cons (pv 0) (pa_cons (pe_lst (pa_cons pe_str (pa_cons pe_str (pa_cons pe_str (pa_cons pe_str pa_nil))))) pa_nil))) pa_nil)) (by rfl))
      (pss_cons (ps_set (i := 9) scWords.nd rfl (Or.inl rfl) (pe_lst pa_nil))
      (pss_cons (ps_for PassesOwn.never rfl (pi_range1 (by rfl) mr (pa_cons (pv 1) pa_nil)) (pg_name (i := 3) scWords.nd rfl (Or.inl rfl))
        (pss_cons (ps_set (i := 10) scWords.nd rfl (Or.inl rfl) (pe_op op_add_str (pe_op op_add_str (pe_slice sl_str (pv 4) po_none (po_some (pv 5)))
            (pe_ix ix_str (pv 2) (pe_op op_modN (pe_callTy call_int1 (by rfl) mi (by decide +kernel) (pa_cons (pe_op op_add (pv 6) (pe_op op_mul (pv 7) (pv 3))) pa_nil)) pe_int) (fun _ _ => rfl))) (pe_slice sl_str (pv 4) (po_some (pv 5)) po_none)))
        (pss_one (ps_expr (pe_bm PySem.F.plainAttrs_list PySem.F.slot_list_append PySem.F.type_list_append mt_append (pv 9)
          (pa_cons (pe_ifExp (pt_cmpR op_eq (pe_op op_modN (pe_callTy call_int1 (by rfl) mi (by decide +kernel) (pa_cons (pv 3) pa_nil)) pe_int) pe_int (nomark _)) (pe_op op_add_str (pv 10) (pv 8)) (pv 10)) pa_nil))))))
      (pss_one (ps_ret (pv 9)))))))), ?_⟩
    -- stem
    refine ⟨⟨_, rfl⟩, _, rfl, d, c, n, 6, rfl, p, by omega, by decide, by decide, fun j H1 hj0 hj1 p1 b1 => ?_⟩
    obtain ⟨jn, rfl⟩ : ∃ k : Nat, j = (k : Int) := ⟨j.toNat, by omega⟩
    refine ⟨(jn : Int), rfl, by omega, by omega, fun D hD => ?_⟩
    refine lc_range (lo := 0) (n := jn) (fun i H' => PenAt H' d c (n + 1 + i) ∧ But d H1 H' ∧ ∃ cs : List Nat, H' D = some (.lst (cs.map fun c => V.str (S [c]))) ∧ cs.length = i ∧ ∀ c ∈ cs, isL c = true)
      ⟨p1.keep (same_new hD), but_of (same_new hD), [], upd_same, rfl, fun c hc => by cases hc⟩ ?_ ?_
    · rintro i H' hi ⟨p2, b2, cs, hcs, hcl, hca⟩
      refine ⟨rfl, _, rfl, _, rfl, d, c, n + 1 + i, _, rfl, p2, by omega, .inr ⟨_, rfl, by decide +kernel, by decide +kernel, fun y H3 hy p3 b3 => ?_⟩⟩
      have hne : D ≠ d := lst_ne hcs p2
      have h3 := b3 D _ hcs hne
      have hDc : D ≠ c := fun z => p1.neC (by rw [← z]; exact hD)
      refine ⟨_, h3, by rw [List.length_map]; exact size_lt (by omega), ?_, ?_, cs ++ [y], ?_, ?_, ?_⟩
      · exact (p3.mono (by omega)).put hne hDc
      · exact (b2.trans b3).put hD
      · rw [upd_same, List.map_append]
        rfl
      · rw [List.length_append, hcl]
        rfl
      · exact all_snoc hca (letters_all y hy)
    · rintro H2 ⟨p2, b2, cs, hcs, hcl, hca⟩
      refine ⟨_, D, (cs.map fun c => [c]).map S, rfl, rfl, .inl (.inl (.inl (hcs.trans ?_))), ?_, ?_⟩
      · rw [map_one]
      · rw [sum_one, emp_S, len_S]
        show cs.length + _ * 0 ≤ _
        omega
      refine st_is (σ' := [some (.ref d), some (.int (m : Int)), some (.str (S lettersL)), none, some (.str (S cs)), none, none, none, none, none, none]) (by rw [emp_S, join_S0, flat_one, letters_S]; rfl) ?_
      have hb : But d H H2 := b1.trans b2
      have hcs5 : cs.length ≤ 5 := by omega
      clear hcs b1 b2 p1 hD
      -- at, front
      refine ⟨_, rfl, _, rfl, _, rfl, size_ok (by rw [len_S]; omega), _, _, rfl, rfl, d, c, n + 1 + jn, _, rfl, p2, by omega, by rw [len_S]; omega, by rw [len_S]; omega, fun a0 H3 ha0 ha1 p3 b3 => ?_⟩
      refine ⟨_, rfl, d, c, _, 26, rfl, p3, by omega, by decide, by decide, fun fr H4 hf0 hf1 p4 b4 => ⟨_, _, rfl, ?_⟩⟩
      obtain ⟨at_, rfl⟩ : ∃ k : Nat, a0 = (k : Int) := ⟨a0.toNat, by omega⟩
      rw [len_S] at ha1
      -- step, tail
      refine ⟨_, rfl, by show 8 ≤ sizeLine; decide, fun l nl => ?_⟩
      refine ⟨d, c, _, _, rfl, p4.keep (same_new nl), by omega, .inl ⟨l, _, rfl, upd_same, by show 0 < 8; decide, by show 8 < 1000000; decide, fun st H5 hst p5 b5 => ?_⟩⟩
      refine ⟨_, rfl, by show 4 ≤ sizeLine; decide, fun l2 nl2 => ?_⟩
      refine ⟨d, c, _, _, rfl, p5.keep (same_new nl2), by omega, .inl ⟨l2, _, rfl, upd_same, by show 0 < 4; decide, by show 4 < 1000000; decide, fun tv H6 htv p6 b6 => ⟨_, _, rfl, ?_⟩⟩⟩
      obtain ⟨sk, rfl, hk0, hk1⟩ : ∃ k : Int, st = .int k ∧ 0 ≤ k ∧ k ≤ 17 := by
        simp only [List.mem_cons, List.not_mem_nil, or_false] at hst
        rcases hst with rfl | rfl | rfl | rfl | rfl | rfl | rfl | rfl <;> exact ⟨_, rfl, by decide, by decide⟩
      obtain ⟨tl_, rfl, htl, hta⟩ : ∃ t : List Nat, tv = .str (S t) ∧ t.length ≤ 2 ∧ ∀ c ∈ t, isL c = true := by
        simp only [List.mem_cons, List.not_mem_nil, or_false] at htv
        rcases htv with rfl | rfl | rfl | rfl
        · exact ⟨[], congrArg V.str emp_S, by decide, by decide⟩
        · exact ⟨[], congrArg V.str emp_S, by decide, by decide⟩
        · exact ⟨[119], congrArg V.str (by decide +kernel), by decide, by decide⟩
        · exact ⟨[119, 119], congrArg V.str (by decide +kernel), by decide, by decide⟩
      have hb6 : But d H H6 := (((((hb.trans b3).trans b4).trans (but_of (same_new nl))).trans b5).trans (but_of (same_new nl2))).trans b6
      have p6' : PenAt H6 d c (n + 10) := p6.mono (by omega)
      clear b3 b4 b5 b6 p3 p4 p5 nl nl2 hb p2 hst htv p6
      -- found
      refine ⟨Nat.zero_le _, fun o no => ?_⟩
      have noH : H o = none := p.free p6' hb6 no
      have p7 : PenAt (upd H6 o (.lst [])) d c (n + 10) := p6'.keep (same_new no)
      have hod : o ≠ d := fun z => p6'.ne (by rw [← z]; exact no)
      have hoc : o ≠ c := fun z => p6'.neC (by rw [← z]; exact no)
      -- for
      refine ⟨_, rfl, m, rfl, by omega, by omega, for_range (n := m) (fun i σ H' => ∃ v3 v10 : Option V, σ = [some (.ref d), some (.int (m : Int)), some (.str (S lettersL)), v3, some (.str (S cs)), some (.int (at_ : Int)), some (.int fr), some (.int sk), some (.str (S tl_)), some (.ref o), v10] ∧
        PenAt H' d c (n + 10) ∧ But d H H' ∧ ∃ ws : List (List Nat), H' o = some (.lst (ws.map fun x => V.str (S x))) ∧ ws.length = i ∧ ∀ x ∈ ws, isW x = true)
        ⟨none, none, rfl, p7, hb6.put noH, [], upd_same, rfl, fun x hx => by cases hx⟩ ?_ ?_⟩
      · rintro i σ H' hi ⟨v3, v10, rfl, p8, b8, ws, hws, hwl, hwa⟩
        obtain ⟨j, ej⟩ : ∃ j : Nat, (fr + sk * (0 + (i : Int))).fmod 26 = (j : Int) := ⟨((fr + sk * (0 + (i : Int))).fmod 26).toNat, by have := fmod_in (fr + sk * (0 + (i : Int))) (m := 26) (by decide); omega⟩
        have hj : j < lettersL.length := by
          have := fmod_in (fr + sk * (0 + (i : Int))) (m := 26) (by decide)
          rw [letters_len]
          omega
        have hle : cs.length ≤ 5 := hcs5
        refine ⟨_, rfl, _, rfl, (at_ : Int), rfl, _, rfl, size_ok (by rw [len_S]; omega), _, rfl, _, rfl, _, rfl, _, rfl, _, _, rfl, rfl, .inl ⟨by omega, by omega⟩, _, _, rfl, rfl, .inl ⟨_, rfl, _, _, rfl, rfl, nz26, _, _, lettersL[j], rfl, rfl, size_ok (by rw [len_S, letters_len]; decide), at_ofN ej (List.getElem?_eq_getElem hj), ?_⟩⟩
        have e1 : cutS (S cs) none (some (at_ : Int)) = S (cs.take at_) := cutS_to cs at_
        have e2 : cutS (S cs) (some (at_ : Int)) none = S (cs.drop at_) := cutS_from cs at_
        have hlet : isL lettersL[j] = true := letters_all _ (List.getElem_mem hj)
        have hW : (cs.take at_ ++ lettersL[j] :: cs.drop at_).length = cs.length + 1 := by
          rw [List.length_append, List.length_cons, List.length_take, List.length_drop]
          omega
        have hWa : ∀ c ∈ cs.take at_ ++ lettersL[j] :: cs.drop at_, isL c = true := by
          intro c hc
          rcases List.mem_append.mp hc with h | h
          · exact hca c (List.mem_of_mem_take h)
          · rcases List.mem_cons.mp h with h | h
            · rw [h]
              exact hlet
            · exact hca c (List.mem_of_mem_drop h)
        generalize hWl : cs.take at_ ++ lettersL[j] :: cs.drop at_ = W at hW hWa
        refine ⟨_, _, rfl, rfl, ?_, _, rfl, _, rfl, (at_ : Int), rfl, _, rfl, size_ok (by rw [len_S]; omega), _, _, rfl, rfl, ?_, ?_⟩
        · rw [e1, len_S, List.length_take]
          exact size_ok (by show min at_ cs.length + 1 ≤ _; omega)
        · rw [e1, e2]
          have z2 : (S (cs.drop at_)).length = cs.length - at_ := by rw [len_S, List.length_drop]
          have z : (S (cs.take at_) ++ (⟨#[lettersL[j]]⟩ : Str)).length = (cs.take at_ ++ [lettersL[j]]).length := by
            rw [show (⟨#[lettersL[j]]⟩ : Str) = S [lettersL[j]] from rfl, S_cat, len_S]
          rw [z, z2, List.length_append, List.length_take, List.length_singleton]
          exact size_ok (by omega)
        refine st_is (σ' := [some (.ref d), some (.int (m : Int)), some (.str (S lettersL)), some (.int (0 + (i : Int))), some (.str (S cs)), some (.int (at_ : Int)), some (.int fr), some (.int sk), some (.str (S tl_)), some (.ref o), some (.str (S W))]) (by
          rw [e1, e2, show (⟨#[lettersL[j]]⟩ : Str) = S [lettersL[j]] from rfl, S_cat, S_cat, List.append_assoc, List.singleton_append, hWl]
          rfl) ?_
        have fin : ∀ x : List Nat, isW x = true → ∃ v3 v10 : Option V, [some (.ref d), some (.int (m : Int)), some (.str (S lettersL)), some (.int (0 + (i : Int))), some (.str (S cs)), some (.int (at_ : Int)), some (.int fr), some (.int sk), some (.str (S tl_)), some (.ref o), some (.str (S W))] = [some (.ref d), some (.int (m : Int)), some (.str (S lettersL)), v3, some (.str (S cs)), some (.int (at_ : Int)), some (.int fr), some (.int sk), some (.str (S tl_)), some (.ref o), v10] ∧
            PenAt (upd H' o (.lst ((ws.map fun x => V.str (S x)) ++ [.str (S x)]))) d c (n + 10) ∧ But d H (upd H' o (.lst ((ws.map fun x => V.str (S x)) ++ [.str (S x)]))) ∧
            ∃ ws' : List (List Nat), (upd H' o (.lst ((ws.map fun x => V.str (S x)) ++ [.str (S x)]))) o = some (.lst (ws'.map fun x => V.str (S x))) ∧ ws'.length = i + 1 ∧ ∀ x ∈ ws', isW x = true := fun x hx => by
          refine ⟨_, _, rfl, p8.put hod hoc, b8.put noH, ws ++ [x], ?_, ?_, ?_⟩
          · rw [upd_same, List.map_append]
            rfl
          · rw [List.length_append, hwl]
            rfl
          · intro y hy
            rcases List.mem_append.mp hy with h | h
            · exact hwa y h
            · rw [List.mem_singleton.mp h]
              exact hx
        -- found.append(..)
        refine ⟨_, rfl, .inl ⟨rfl, _, .inl (.inl hws)⟩, _, rfl, .inl ⟨_, rfl, _, _, rfl, rfl, nz3', rfl, _, rfl, ?_⟩⟩
        refine ite2 (fun _ => ?_) (fun _ => ?_)
        · refine ⟨_, rfl, _, rfl, _, _, rfl, rfl, size_ok (by rw [len_S, len_S]; omega), o, _, _, rfl, rfl, hws, size_lt (by rw [List.length_map]; omega), ?_⟩
          rw [S_cat]
          refine fin (W ++ tl_) (isW_iff.mpr ⟨by rw [List.length_append]; omega, by rw [List.length_append]; omega, fun c hc => ?_⟩)
          rcases List.mem_append.mp hc with h | h
          · exact hWa c h
          · exact hta c h
        · refine ⟨_, rfl, o, _, _, rfl, rfl, hws, size_lt (by rw [List.length_map]; omega), ?_⟩
          exact fin W (isW_iff.mpr ⟨by omega, by omega, hWa⟩)
      · rintro σ H' ⟨v3, v10, rfl, p8, b8, ws, hws, hwl, hwa⟩
        exact ⟨_, rfl, q o ws H' hwl hwa hws noH p8 b8⟩
end
end K2

namespace K2
open PySem L2 SX AddrMath
abbrev sIsWord : Stmt := top 6
abbrev sAreWords : Stmt := top 7
abbrev sWordEnd : Stmt := top 11
abbrev sInit : Stmt := inClass (top 12) 0
abbrev sState : Stmt := inClass (top 12) 1
abbrev sPath : Stmt := inClass (top 12) 2
abbrev sText : Stmt := inClass (top 12) 13
abbrev sRead : Stmt := inClass (top 12) 14
theorem let_facts : ∀ k : Nat, k < 26 → (Unicode.isAlpha (97 + k) && Unicode.isLower (97 + k) && !(Unicode.isUpper (97 + k) || Unicode.isTitle (97 + k))) = true := by decide +kernel
theorem let_at {c : Nat} (h : isL c = true) : Unicode.isAlpha c = true ∧ Unicode.isLower c = true ∧ (Unicode.isUpper c || Unicode.isTitle c) = false ∧ c < 128 := by
  unfold isL at h
  rw [Bool.and_eq_true, decide_eq_true_eq, decide_eq_true_eq] at h
  have z := let_facts (c - 97) (by omega)
  rw [show 97 + (c - 97) = c by omega] at z
  simp only [Bool.and_eq_true, Bool.not_eq_true'] at z
  exact ⟨z.1.1, z.1.2, z.2, by omega⟩
theorem w_ascii {l : List Nat} (h : isW l = true) : Txt.isascii (S l) = true := by
  unfold Txt.isascii
  rw [← Array.all_toList, List.all_eq_true]
  intro c hc
  exact decide_eq_true (let_at ((isW_iff.mp h).2.2 c hc)).2.2.2
theorem w_alpha {l : List Nat} (h : isW l = true) : Txt.isalpha (S l) = true := by
  unfold Txt.isalpha
  rw [← Array.all_toList, Bool.and_eq_true, List.all_eq_true, len_S]
  exact ⟨decide_eq_true (isW_iff.mp h).1, fun c hc => (let_at ((isW_iff.mp h).2.2 c hc)).1⟩
theorem w_lower {l : List Nat} (h : isW l = true) : Txt.islower (S l) = true := by
  have hw := isW_iff.mp h
  unfold Txt.islower
  rw [← Array.any_toList, ← Array.any_toList, Bool.and_eq_true]
  constructor
  · rw [List.any_eq_true]
    cases l with
    | nil => exact absurd hw.1 (by decide)
    | cons c r => exact ⟨c, List.mem_cons_self .., (let_at (hw.2.2 c (List.mem_cons_self ..))).2.1⟩
  · rw [Bool.not_eq_true', List.any_eq_false]
    intro c hc
    rw [(let_at (hw.2.2 c hc)).2.2.1]
    exact Bool.false_ne_true
theorem if_dec {c A B : Prop} [Decidable c] (h : c) (a : A) : if decide c = true then A else B := by
  rw [if_pos (decide_eq_true h)]
  exact a
section
variable {P : Program} {w : World} {K : PySem.W.Frag} {mg : Str → Option Value} {base : Heap}
/-! ### is_word, of a word -/
def spIsWord : Sp := fun vs H Q _ => ∃ l : List Nat, vs = [.str (S l)] ∧ isW l = true ∧ Q (.bl true) H
theorem scIsWord : FnScope ["value"] ["value"] (defScope sIsWord) := ⟨rfl, rfl, rfl, by decide +kernel, rfl, by decide +kernel, by decide +kernel⟩
theorem ok_isword {f : Addr} {fd : FuncData} {t : Tok} (F : Fun K "is_word" "is_word" sIsWord f fd) (ms : mg "isinstance" = none) (mt : mg "str" = none) (ml : mg "len" = none) (mL : mg "LETTERS" = some (.int 8 t)) :
    FnOk P w K mg base CX0 1 f fd ["value"] spIsWord := by
  refine F.ok scIsWord (fun vs H Q E h => ?_) (fun cdv A outer s H vs Q E hr h => ?_)
  · obtain ⟨l, rfl, _⟩ := h
    rfl
  · obtain ⟨l, rfl, hl, q⟩ := h
    have hw := isW_iff.mp hl
    refine ⟨_, pss_cons (ps_if (pt_not (pt_val (pe_callB call_isi (by rfl) ms (by decide +kernel) (pa_cons (pv 0) (pa_cons (pe_bltn (v := .ty "str") (by rfl) mt (by decide +kernel) rfl) pa_nil))))) (pss_one (ps_ret pe_bl)) pss_nil)
      (pss_one (ps_ret (pe_and (pe_chain op_le op_le pe_int (pe_callB call_len_str (by rfl) ml (by decide +kernel) (pa_cons (pv 0) pa_nil)) (pe_glob (v := .int 8) rfl mL ⟨_, rfl⟩))
        (pe_and (pe_m0 PySem.F.slot_str_isascii PySem.F.type_str_isascii mt_isascii (pv 0)) (pe_and (pe_m0 PySem.F.slot_str_isalpha PySem.F.type_str_isalpha mt_isalpha (pv 0)) (pe_one (pe_m0 PySem.F.slot_str_islower PySem.F.type_str_islower mt_islower (pv 0)))))))), ?_⟩
    refine ⟨_, rfl, _, _, _, _, true, rfl, .ty "str", .base (.str _), kit_ty (by decide +kernel), _, rfl, ?_⟩
    refine iteF ?_
    refine ⟨_, rfl, _, rfl, size_ok (by rw [len_S]; omega), _, _, rfl, rfl, _, rfl, ?_⟩
    refine if_dec (by rw [len_S]; omega) ?_
    refine ⟨_, _, rfl, rfl, _, rfl, if_dec (by rw [len_S]; omega) ?_⟩
    refine ⟨_, rfl, ⟨_, rfl⟩, _, rfl, rfl, trivial, true, congrArg V.bl (w_ascii hl), iteT ?_⟩
    refine ⟨_, rfl, ⟨_, rfl⟩, _, rfl, rfl, trivial, true, congrArg V.bl (w_alpha hl), iteT ?_⟩
    refine ⟨_, rfl, ⟨_, rfl⟩, _, rfl, rfl, trivial, ?_⟩
    rw [w_lower hl]
    exact q
/-! ### are_words, of words: slots value 0, item 1 -/
theorem eqvs_true : ∀ n : Nat, (List.replicate n true).all id = true
  | 0 => rfl
  | n + 1 => by rw [List.replicate_succ, List.all_cons, eqvs_true n]; rfl
def spAreWords : Sp := fun vs H Q _ => ∃ (a : Addr) (ws : List (List Nat)), vs = [.ref a] ∧ H a = some (.lst (ws.map fun x => V.str (S x))) ∧ ws.length ≤ 1000 ∧ (∀ x ∈ ws, isW x = true) ∧ ∀ H', Same H H' → Q (.bl true) H'
theorem scAreWords : FnScope ["value", "item"] ["value"] (defScope sAreWords) := ⟨rfl, rfl, rfl, by decide +kernel, rfl, by decide +kernel, by decide +kernel⟩
theorem kit_lt {K : PySem.W.Frag} : PySem.W.kitAny K (.type "list") [.type "list", .type "tuple"] = some true := by
  unfold PySem.W.kitAny
  rw [kit_ty (K := K) (a := "list") (b := "list") (r := true) (by decide +kernel)]
theorem ok_arewords {f fW : Addr} {fd fdW : FuncData} (F : Fun K "are_words" "are_words" sAreWords f fd) (GW : FnOk P w K mg base CX0 1 fW fdW ["value"] spIsWord) (cW : Cd K mg "is_word" fW) (bW : Binds K fdW ["value"] [])
    (ms : mg "isinstance" = none) (ml : mg "list" = none) (mt : mg "tuple" = none) (ma : mg "all" = none) : FnOk P w K mg base CX0 2 f fd ["value"] spAreWords := by
  refine F.ok scAreWords (fun vs H Q E h => ?_) (fun cdv A outer s H vs Q E hr h => ?_)
  · obtain ⟨a, ws, rfl, _⟩ := h
    rfl
  · obtain ⟨a, ws, rfl, ha, hl, hw, q⟩ := h
    refine ⟨_, pss_one (ps_ret (pe_and (pe_callB call_isiT (by rfl) ms (by decide +kernel) (pa_cons (pv 0) (pa_cons (pe_tup (pa_cons (pe_bltn (v := .ty "list") (by rfl) ml (by decide +kernel) rfl) (pa_cons (pe_bltn (v := .ty "tuple") (by rfl) mt (by decide +kernel) rfl) pa_nil))) pa_nil)))
      (pe_one (pe_callB (cr_all rfl) (by rfl) ma (by decide +kernel) (pa_cons (pe_lc (own := [("item", 1)]) (g := gName 1) (tt := tYes) rfl scAreWords.nd (pi_list (pv 0)) (blkOk_by (own := [("item", 1)]) (N := ["value", "item"]) (sc := defScope sAreWords) (by decide +kernel))
          (fun _ _ _ _ _ => pg_name (i := 1) scAreWords.nd rfl (Or.inl rfl)) (fun _ _ _ _ _ => pts_nil)
          (fun _ _ _ _ _ => pe_call GW hr rfl cW.mg cW.kp bW .nil pass0 (pa_cons (pv 1) pa_nil))) pa_nil))))), ?_⟩
    refine ⟨_, rfl, by show 2 ≤ sizeLine; decide, fun t nt => ?_⟩
    have s1 : Same H (upd H t (.tup [.ty "list", .ty "tuple"])) := same_new nt
    refine ⟨_, t, _, _, [.type "list", .type "tuple"], true, rfl, upd_same, .cons (.ty "list") (.cons (.ty "tuple") .nil), .base (.lst (s1 _ _ ha)), kit_lt, _, rfl, iteT ?_⟩
    refine ⟨_, rfl, a, rfl, ⟨_, .inl (.inl (s1 _ _ ha))⟩, fun D hD => ?_⟩
    refine lc_list (K := K) (a := a) (xs := ws.map fun x => V.str (S x)) (fun i H' => Same H H' ∧ H D = none ∧ H' D = some (.lst ((List.replicate i true).map V.bl)))
      ⟨fun b o e => by rw [upd_ne (ne_of_none (s1 _ _ e) hD)]; exact s1 _ _ e, s1.free hD, upd_same⟩ (fun i H' _ z => .inl (.inl (z.1 _ _ ha))) ?_ ?_
    · rintro i x H' hx ⟨s2, nD, hDl⟩
      have hi : i < ws.length := by
        have z := (List.getElem?_eq_some_iff.mp hx).1
        rw [List.length_map] at z
        exact z
      have ex : x = V.str (S ws[i]) := by
        rw [List.getElem?_map, List.getElem?_eq_getElem hi] at hx
        exact (Option.some.inj hx).symm
      subst ex
      refine ⟨rfl, _, rfl, _, rfl, hw _ (List.getElem_mem hi), _, hDl, by rw [List.length_map, List.length_replicate]; exact size_lt (by omega), ?_, nD, ?_⟩
      · exact fun b o e => by rw [upd_ne (ne_of_none e nD)]; exact s2 b o e
      · rw [upd_same, List.replicate_succ', List.map_append]
        rfl
    · rintro H' ⟨s2, nD, hDl⟩
      refine ⟨D, _, rfl, .inl (.inl hDl), ?_⟩
      rw [eqvs_true]
      exact q H' s2
end
end K2

namespace K2
open PySem L2 SX AddrMath
/-! ### an address: its attributes -/
theorem n_sp : ¬ (("_state" : Str) = "_path") := by decide +kernel
theorem n_sk : ¬ (("_state" : Str) = "_key") := by decide +kernel
theorem n_pk : ¬ (("_path" : Str) = "_key") := by decide +kernel
theorem n_ps : ¬ (("_path" : Str) = "_state") := by decide +kernel
def aF1 (z : Str) : List (Str × V) := putF "_state" (.str z) []
def aF2 (z : Str) (t : Addr) : List (Str × V) := putF "_path" (.ref t) (aF1 z)
def aF (z : Str) (t k : Addr) : List (Str × V) := putF "_key" (.ref k) (aF2 z t)
theorem aF2_state (z : Str) (t : Addr) : (aF2 z t).lookup ("_state" : Str) = some (.str z) := by
  unfold aF2 aF1
  rw [lookup_putF, if_neg n_sp, lookup_putF, if_pos rfl]
theorem aF2_path (z : Str) (t : Addr) : (aF2 z t).lookup ("_path" : Str) = some (.ref t) := by
  unfold aF2
  rw [lookup_putF, if_pos rfl]
theorem aF_state (z : Str) (t k : Addr) : (aF z t k).lookup ("_state" : Str) = some (.str z) := by
  unfold aF
  rw [lookup_putF, if_neg n_sk, aF2_state]
theorem aF_path (z : Str) (t k : Addr) : (aF z t k).lookup ("_path" : Str) = some (.ref t) := by
  unfold aF
  rw [lookup_putF, if_neg n_pk, aF2_path]
theorem aF_no (z : Str) (t k : Addr) {m : Str} (h1 : ¬ m = "_state") (h2 : ¬ m = "_path") (h3 : ¬ m = "_key") : (aF z t k).lookup m = none := by
  unfold aF aF2 aF1
  rw [lookup_putF, if_neg h3, lookup_putF, if_neg h2, lookup_putF, if_neg h1]
  rfl
theorem aF1_len (z : Str) : (aF1 z).length < 1000 := by
  show (1 : Nat) < 1000
  decide
theorem aF2_eq (z : Str) (t : Addr) : aF2 z t = ([("_state", V.str z), ("_path", V.ref t)] : List (Str × V)) := by
  show (if ("_state" : Str) = "_path" then [(("_state" : Str), V.ref t)] else (("_state" : Str), V.str z) :: putF "_path" (V.ref t) []) = _
  rw [if_neg n_sp]
  rfl
theorem aF2_len (z : Str) (t : Addr) : (aF2 z t).length < 1000 := by
  rw [aF2_eq]
  show (2 : Nat) < 1000
  decide
/-- words as values -/
abbrev wV (ws : List (List Nat)) : List V := ws.map fun x => V.str (S x)
theorem wV_str (ws : List (List Nat)) : wV ws = (ws.map S).map V.str := by
  rw [List.map_map]
  rfl
/-- an address stands at a, its path's tuple at t -/
def AddrT (C : Addr) (H : Hp) (a t : Addr) (s : List Nat) (ps : List (List Nat)) : Prop := ∃ dx k, H a = some (.ins C dx (aF (S s) t k)) ∧ H t = some (.tup (wV ps)) ∧ H k = some (.tup [.int ps.length, .str (S s), .ref t])
structure ATxt (K : PySem.W.Frag) (mg : Str → Option Value) (C : Addr) : Prop where
  cl : Cls K C
  nS : NoAttr K C "_state"
  nP : NoAttr K C "_path"
  nK : NoAttr K C "_key"
  mgC : mg "Address" = some (.ref C)
theorem upd_none {H : Hp} {p t : Addr} {o : HO} (h : upd H p o t = none) : t ≠ p ∧ H t = none := by
  by_cases e : t = p
  · rw [e, upd_same] at h
    cases h
  · rw [upd_ne e] at h
    exact ⟨e, h⟩
/-- a def with defaults that lets nothing out -/
theorem fund0 {P : Program} {w : World} {K : PySem.W.Frag} {mg : Str → Option Value} {base : Heap} {x qual : Str} {params : Arguments} {body : List Stmt} {scope : Scope} {dvs : List V} {kws : List (Str × V)} {f : Addr} {fd : FuncData}
    {N ps : List Str} {k : Nat} {sp : Sp} (F : FunD K x qual params body scope dvs kws f fd) (S : FnScope N ps scope) (len : ∀ vs H Q E, sp vs H Q E → vs.length = ps.length)
    (hb : ∀ (cdv : Value) (A : Around) (outer : List Env) (s : Shared) (H : Hp) (vs : List V) (Q : VK) (E : XK), Room k (A.deeper (PyProof.Rows.envOfC qual scope s.heap.objs.size f cdv)) → sp vs H Q E →
      ∃ t, PSs (cxOf CX0 P w K mg base N qual scope f cdv A outer s H E).nox body t ∧ t { nx := fun _ H' => Q .non H', rt := Q } (L2.start N vs) H) : FnOk P w K mg base CX0 (k + 1) f fd ps sp :=
  F.ok S len fun cdv A outer s H vs Q E hr h =>
    let ⟨t, a, b⟩ := hb cdv A outer s H vs Q E hr h
    ⟨t, a.nox, b⟩
section
variable {P : Program} {w : World} {K : PySem.W.Frag} {mg : Str → Option Value} {base : Heap}
/-! ### Address.__init__, of a word and a list of words: slots self 0, state 1, path 2 -/
def spInit (C : Addr) : Sp := fun vs H Q _ => ∃ (p dx a : Addr) (s : List Nat) (ws : List (List Nat)), vs = [.ref p, .str (S s), .ref a] ∧ H p = some (.ins C dx []) ∧ isW s = true ∧ H a = some (.lst (wV ws)) ∧ ws.length ≤ 1000 ∧ (∀ x ∈ ws, isW x = true) ∧
  ∀ (H' : Hp) (t : Addr), AddrT C H' p t s ws → H t = none → (∀ b o, H b = some o → b ≠ p → H' b = some o) → Q .non H'
theorem scInit : FnScope ["self", "state", "path"] ["self", "state", "path"] (defScope sInit) := ⟨rfl, rfl, rfl, by decide +kernel, rfl, by decide +kernel, by decide +kernel⟩
theorem ok_init {f fW fA C : Addr} {fd fdW fdA : FuncData} {dvs : List V} {kws : List (Str × V)} (F : FunD K "__init__" "Address.__init__" (defArgs sInit) (defBody sInit) (defScope sInit) dvs kws f fd) (T : ATxt K mg C)
    (GW : FnOk P w K mg base CX0 1 fW fdW ["value"] spIsWord) (cW : Cd K mg "is_word" fW) (bW : Binds K fdW ["value"] []) (GA : FnOk P w K mg base CX0 2 fA fdA ["value"] spAreWords) (cA : Cd K mg "are_words" fA) (bA : Binds K fdA ["value"] [])
    (mt : mg "tuple" = none) (ml : mg "len" = none) : FnOk P w K mg base CX0 3 f fd ["self", "state", "path"] (spInit C) := by
  refine fund0 F scInit (fun vs H Q E h => ?_) (fun cdv A outer s0 H vs Q E hr h => ?_)
  · obtain ⟨p, dx, a, s, ws, rfl, _⟩ := h
    rfl
  · obtain ⟨p, dx, a, s, ws, rfl, hp, hs, ha, hl, hw, q⟩ := h
    have hr1 : Room 1 _ := hr.mono (by decide)
    refine ⟨_, pss_cons (ps_if (pt_not (pt_val (pe_call GW hr1 rfl cW.mg cW.kp bW .nil pass0 (pa_cons (pv 1) pa_nil)))) (pss_one ps_never) pss_nil)
      (pss_cons (ps_if (pt_not (pt_val (pe_call GA hr rfl cA.mg cA.kp bA .nil pass0 (pa_cons (pv 2) pa_nil)))) (pss_one ps_never) pss_nil)
      (pss_cons (ps_fld (pv 0) (pv 1) rfl)
      (pss_cons (ps_fld (pv 0) (pe_callTy call_tuple_of (by rfl) mt (by decide +kernel) (pa_cons (pv 2) pa_nil)) rfl)
      (pss_one (ps_fld (pv 0) (pe_tup (pa_cons (pe_callB call_len (by rfl) ml (by decide +kernel) (pa_cons (pe_fld (pv 0) rfl) pa_nil)) (pa_cons (pe_fld (pv 0) rfl) (pa_cons (pe_fld (pv 0) rfl) pa_nil)))) rfl))))), ?_⟩
    refine ⟨_, rfl, s, rfl, hs, _, rfl, iteF ?_⟩
    refine ⟨_, rfl, a, ws, rfl, ha, hl, hw, fun H1 s1 => ⟨_, rfl, iteF ?_⟩⟩
    have hp1 := s1 _ _ hp
    have ha1 := s1 _ _ ha
    refine ⟨_, rfl, _, rfl, p, C, dx, _, rfl, hp1, T.cl, T.nS, (by show 0 < 1000; decide), ?_⟩
    have hap : a ≠ p := ne_of ha1 hp1 (fun z => by cases z)
    refine ⟨_, rfl, a, _, rfl, .inl ⟨.inl (.inl (by rw [upd_ne hap]; exact ha1)), fun t nt => ?_⟩⟩
    obtain ⟨ntp, nt1⟩ := upd_none nt
    have hpt : p ≠ t := ntp.symm
    have g1 : (upd (upd H1 p (.ins C dx (aF1 (S s)))) t (.tup (wV ws))) p = some (.ins C dx (aF1 (S s))) := by rw [upd_ne hpt, upd_same]
    refine ⟨_, rfl, p, C, dx, _, rfl, g1, T.cl, T.nP, aF1_len _, ?_⟩
    have g2 : (upd (upd (upd H1 p (.ins C dx (aF1 (S s)))) t (.tup (wV ws))) p (.ins C dx (aF2 (S s) t))) t = some (.tup (wV ws)) := by rw [upd_ne ntp, upd_same]
    refine ⟨_, rfl, p, C, dx, _, _, rfl, upd_same, T.cl, T.nP, aF2_path _ _, _, _, rfl, .inr ⟨_, .inl (.inl g2), rfl⟩, _, rfl, p, C, dx, _, _, rfl, upd_same, T.cl, T.nS, aF2_state _ _, _, rfl, p, C, dx, _, _, rfl, upd_same, T.cl, T.nP, aF2_path _ _, by show 3 ≤ sizeLine; decide, fun k nk => ?_⟩
    obtain ⟨nkp, nk1⟩ := upd_none nk
    obtain ⟨nkt, nk2⟩ := upd_none nk1
    obtain ⟨_, nk3⟩ := upd_none nk2
    refine ⟨_, rfl, p, C, dx, aF2 (S s) t, rfl, (by rw [upd_ne nkp.symm]; exact upd_same), T.cl, T.nK, aF2_len _ _, ?_⟩
    refine q _ t ⟨dx, k, upd_same, ?_⟩ (s1.free nt1) fun b o e hb => ?_
    · refine ⟨by rw [upd_ne ntp, upd_ne nkt.symm, upd_ne ntp, upd_same], ?_⟩
      rw [upd_ne nkp, upd_same]
      simp only [List.length_map]
    · have e1 := s1 _ _ e
      rw [upd_ne hb, upd_ne (ne_of_none e1 nk3), upd_ne hb, upd_ne (ne_of_none e1 nt1), upd_ne hb]
      exact e1
/-! ### the getters -/
def spState (C : Addr) : Sp := fun vs H Q _ => ∃ (a t : Addr) (s : List Nat) (ps : List (List Nat)), vs = [.ref a] ∧ AddrT C H a t s ps ∧ Q (.str (S s)) H
def spPath (C : Addr) : Sp := fun vs H Q _ => ∃ (a t : Addr) (s : List Nat) (ps : List (List Nat)), vs = [.ref a] ∧ AddrT C H a t s ps ∧ Q (.ref t) H
theorem scState : FnScope ["self"] ["self"] (defScope sState) := ⟨rfl, rfl, rfl, by decide +kernel, rfl, by decide +kernel, by decide +kernel⟩
theorem scPath : FnScope ["self"] ["self"] (defScope sPath) := ⟨rfl, rfl, rfl, by decide +kernel, rfl, by decide +kernel, by decide +kernel⟩
theorem ok_state {f C : Addr} {fd : FuncData} (F : Fun K "state" "Address.state" sState f fd) (T : ATxt K mg C) : FnOk P w K mg base CX0 1 f fd ["self"] (spState C) := by
  refine F.ok scState (fun vs H Q E h => ?_) (fun cdv A outer s0 H vs Q E hr h => ?_)
  · obtain ⟨a, t, s, ps, rfl, _⟩ := h
    rfl
  · obtain ⟨a, t, s, ps, rfl, ⟨dx, k, h1, h2, h3⟩, q⟩ := h
    exact ⟨_, pss_one (ps_ret (pe_fld (pv 0) rfl)), _, rfl, a, C, dx, _, _, rfl, h1, T.cl, T.nS, aF_state _ _ _, q⟩
theorem ok_path {f C : Addr} {fd : FuncData} (F : Fun K "path" "Address.path" sPath f fd) (T : ATxt K mg C) : FnOk P w K mg base CX0 1 f fd ["self"] (spPath C) := by
  refine F.ok scPath (fun vs H Q E h => ?_) (fun cdv A outer s0 H vs Q E hr h => ?_)
  · obtain ⟨a, t, s, ps, rfl, _⟩ := h
    rfl
  · obtain ⟨a, t, s, ps, rfl, ⟨dx, k, h1, h2, h3⟩, q⟩ := h
    exact ⟨_, pss_one (ps_ret (pe_fld (pv 0) rfl)), _, rfl, a, C, dx, _, _, rfl, h1, T.cl, T.nP, aF_path _ _ _, q⟩
end
end K2

namespace K2
open PySem L2 SX AddrMath PySem.W GR
/-! ### the key of an address -/
abbrev KT := T3 Int Str (Tup Str)
def kOf (s : List Nat) (ws : List (List Nat)) : KT := ⟨(ws.length : Int), S s, ⟨ws.map S⟩⟩
theorem dp_words {K : Frag} {H : Hp} : ∀ ws : List (List Nat), DpAll K H (wV ws) ((ws.map S).map Datum.toD)
  | [] => .nil
  | x :: r => .cons (.str (S x)) (dp_words r)
theorem dp_key {K : Frag} {H : Hp} {k t : Addr} {s : List Nat} {ws : List (List Nat)} (hk : SqT K H k [.int (ws.length : Int), .str (S s), .ref t]) (ht : SqT K H t (wV ws)) : Dp K H (.ref k) (Datum.toD (kOf s ws)) :=
  .tup hk (.cons (.int _) (.cons (.str _) (.cons (.tup ht (dp_words ws)) .nil)))
theorem sqt {K : Frag} {H : Hp} {a : Addr} {xs : List V} (h : H a = some (.tup xs)) : SqT K H a xs := .inl (.inl h)
/-- what the class at C is, for isinstance and comparisons -/
structure AOwn (K : Frag) (C : Addr) : Prop where
  ic : isClsIn K C = true
  pg : plainGet K C "__class__" = true
  ca : findIn K (.ref C) "__class__" = some (some (.builtin "object.__class__"))
  cn : specialIn K (.builtin "object.__class__") "__get__" = some (some (.builtin "getset_descriptor.__get__"))
  ct : takesIn K (.builtin "object.__class__") = some true
  cm : mroIn K C (.type "object") = some true
  me : kitOne K (.ref C) (.ref C) = some true
def rIsI (C : Addr) : List V → Hp → VK → Prop := fun xs H Q => ∃ (a dx : Addr) (fs : List (Str × V)), xs = [.ref a, .ref C] ∧ H a = some (.ins C dx fs) ∧ Q (.bl true) H
theorem call_isI {X : Cx} {C : Addr} (W : AOwn X.K C) : CallR X (.builtin "isinstance") (rIsI C) := by
  intro pins s σ H xs us Q I r ⟨a, dx, fs, ex, ha, q⟩
  subst ex
  obtain ⟨u1, u2, rfl, r1, r2⟩ := r.two
  cases (show u1 = Value.ref a from r1)
  cases (show u2 = Value.ref C from r2)
  obtain ⟨_, J, _⟩ := ins_get I.hok ha
  obtain ⟨od, J, _⟩ := J.look
  exact kia_one (OwX.kitx_slt W.ic W.pg W.ca W.cn W.ct W.cm) I.kIn J W.me (fun z => nomatch z) fun tk => ⟨.bl true, H, I.tok _, rfl, q⟩
abbrev sLen : Stmt := inClass (top 12) 3
abbrev sEq : Stmt := inClass (top 12) 8
abbrev sLt : Stmt := inClass (top 12) 9
abbrev sLe : Stmt := inClass (top 12) 10
abbrev sGt : Stmt := inClass (top 12) 11
abbrev sGe : Stmt := inClass (top 12) 12
section
variable {P : Program} {w : World} {K : PySem.W.Frag} {mg : Str → Option Value} {base : Heap}
def spLen (C : Addr) : Sp := fun vs H Q _ => ∃ (a t : Addr) (s : List Nat) (ps : List (List Nat)), vs = [.ref a] ∧ AddrT C H a t s ps ∧ ps.length ≤ 1000 ∧ Q (.int (ps.length : Int)) H
theorem scLen : FnScope ["self"] ["self"] (defScope sLen) := ⟨rfl, rfl, rfl, by decide +kernel, rfl, by decide +kernel, by decide +kernel⟩
theorem ok_len {f C : Addr} {fd : FuncData} (F : Fun K "__len__" "Address.__len__" sLen f fd) (T : ATxt K mg C) (ml : mg "len" = none) : FnOk P w K mg base CX0 1 f fd ["self"] (spLen C) := by
  refine F.ok scLen (fun vs H Q E h => ?_) (fun cdv A outer s0 H vs Q E hr h => ?_)
  · obtain ⟨a, t, s, ps, rfl, _⟩ := h
    rfl
  · obtain ⟨a, t, s, ps, rfl, ⟨dx, k, h1, h2, h3⟩, hl, q⟩ := h
    refine ⟨_, pss_one (ps_ret (pe_callB call_len (by rfl) ml (by decide +kernel) (pa_cons (pe_fld (pv 0) rfl) pa_nil))), ?_⟩
    refine ⟨_, rfl, a, C, dx, _, _, rfl, h1, T.cl, T.nP, aF_path _ _ _, _, _, rfl, .inr ⟨_, .inl (.inl h2), rfl⟩, ?_⟩
    rw [List.length_map]
    exact q
theorem aF_key (z : Str) (t k : Addr) : (aF z t k).lookup ("_key" : Str) = some (.ref k) := by
  unfold aF
  rw [lookup_putF, if_pos rfl]
def spCmp (C : Addr) (f : KT → KT → Bool) : Sp := fun vs H Q _ => ∃ (a b t u : Addr) (s r : List Nat) (ps qs : List (List Nat)), vs = [.ref a, .ref b] ∧ AddrT C H a t s ps ∧ AddrT C H b u r qs ∧ Q (.bl (f (kOf s ps) (kOf r qs))) H
theorem scEq : FnScope ["self", "other"] ["self", "other"] (defScope sEq) := ⟨rfl, rfl, rfl, by decide +kernel, rfl, by decide +kernel, by decide +kernel⟩
theorem ok_eq {f C : Addr} {fd : FuncData} (F : Fun K "__eq__" "Address.__eq__" sEq f fd) (T : ATxt K mg C) (W : AOwn K C) (mi : mg "isinstance" = none) : FnOk P w K mg base CX0 1 f fd ["self", "other"] (spCmp C fun p q => decide (p = q)) := by
  refine F.ok scEq (fun vs H Q E h => ?_) (fun cdv A outer s0 H vs Q E hr h => ?_)
  · obtain ⟨a, b, t, u, s, r, ps, qs, rfl, _⟩ := h
    rfl
  · obtain ⟨a, b, t, u, s, r, ps, qs, rfl, ⟨dx, k, h1, h2, h3⟩, ⟨dy, l, g1, g2, g3⟩, q⟩ := h
    refine ⟨_, pss_cons (ps_if (pt_not (pt_val (pe_callB (call_isI W) (by rfl) mi (by decide +kernel) (pa_cons (pv 1) (pa_cons (pe_glob (v := .ref C) (by rfl) T.mgC rfl) pa_nil))))) (pss_one ps_never) pss_nil)
      (pss_one (ps_ret (pe_cmpR (opd_eq (α := KT) (room_all (k := 64) (by decide) hr.units)) (pe_fld (pv 0) rfl) (pe_fld (pv 1) rfl) (nomark _)))), ?_⟩
    refine ⟨_, rfl, b, dy, _, rfl, g1, _, rfl, iteF ?_⟩
    exact ⟨_, rfl, a, C, dx, _, _, rfl, h1, T.cl, T.nK, aF_key _ _ _, _, rfl, b, C, dy, _, _, rfl, g1, T.cl, T.nK, aF_key _ _ _, _, _, dp_key (sqt h3) (sqt h2), dp_key (sqt g3) (sqt g2), q⟩
theorem scLt : FnScope ["self", "other"] ["self", "other"] (defScope sLt) := ⟨rfl, rfl, rfl, by decide +kernel, rfl, by decide +kernel, by decide +kernel⟩
theorem ok_lt {f C : Addr} {fd : FuncData} (F : Fun K "__lt__" "Address.__lt__" sLt f fd) (T : ATxt K mg C) (W : AOwn K C) (mi : mg "isinstance" = none) : FnOk P w K mg base CX0 1 f fd ["self", "other"] (spCmp C fun p q => DatumOrd.lt p q) := by
  refine F.ok scLt (fun vs H Q E h => ?_) (fun cdv A outer s0 H vs Q E hr h => ?_)
  · obtain ⟨a, b, t, u, s, r, ps, qs, rfl, _⟩ := h
    rfl
  · obtain ⟨a, b, t, u, s, r, ps, qs, rfl, ⟨dx, k, h1, h2, h3⟩, ⟨dy, l, g1, g2, g3⟩, q⟩ := h
    refine ⟨_, pss_cons (ps_if (pt_not (pt_val (pe_callB (call_isI W) (by rfl) mi (by decide +kernel) (pa_cons (pv 1) (pa_cons (pe_glob (v := .ref C) (by rfl) T.mgC rfl) pa_nil))))) (pss_one ps_never) pss_nil)
      (pss_one (ps_ret (pe_cmpR (opd_lt (α := KT) (room_all (k := 64) (by decide) hr.units)) (pe_fld (pv 0) rfl) (pe_fld (pv 1) rfl) (nomark _)))), ?_⟩
    refine ⟨_, rfl, b, dy, _, rfl, g1, _, rfl, iteF ?_⟩
    exact ⟨_, rfl, a, C, dx, _, _, rfl, h1, T.cl, T.nK, aF_key _ _ _, _, rfl, b, C, dy, _, _, rfl, g1, T.cl, T.nK, aF_key _ _ _, _, _, dp_key (sqt h3) (sqt h2), dp_key (sqt g3) (sqt g2), q⟩
theorem scLe : FnScope ["self", "other"] ["self", "other"] (defScope sLe) := ⟨rfl, rfl, rfl, by decide +kernel, rfl, by decide +kernel, by decide +kernel⟩
theorem ok_le {f C : Addr} {fd : FuncData} (F : Fun K "__le__" "Address.__le__" sLe f fd) (T : ATxt K mg C) (W : AOwn K C) (mi : mg "isinstance" = none) : FnOk P w K mg base CX0 1 f fd ["self", "other"] (spCmp C fun p q => !DatumOrd.lt q p) := by
  refine F.ok scLe (fun vs H Q E h => ?_) (fun cdv A outer s0 H vs Q E hr h => ?_)
  · obtain ⟨a, b, t, u, s, r, ps, qs, rfl, _⟩ := h
    rfl
  · obtain ⟨a, b, t, u, s, r, ps, qs, rfl, ⟨dx, k, h1, h2, h3⟩, ⟨dy, l, g1, g2, g3⟩, q⟩ := h
    refine ⟨_, pss_cons (ps_if (pt_not (pt_val (pe_callB (call_isI W) (by rfl) mi (by decide +kernel) (pa_cons (pv 1) (pa_cons (pe_glob (v := .ref C) (by rfl) T.mgC rfl) pa_nil))))) (pss_one ps_never) pss_nil)
      (pss_one (ps_ret (pe_cmpR (opd_le (α := KT) (room_all (k := 64) (by decide) hr.units)) (pe_fld (pv 0) rfl) (pe_fld (pv 1) rfl) (nomark _)))), ?_⟩
    refine ⟨_, rfl, b, dy, _, rfl, g1, _, rfl, iteF ?_⟩
    exact ⟨_, rfl, a, C, dx, _, _, rfl, h1, T.cl, T.nK, aF_key _ _ _, _, rfl, b, C, dy, _, _, rfl, g1, T.cl, T.nK, aF_key _ _ _, _, _, dp_key (sqt h3) (sqt h2), dp_key (sqt g3) (sqt g2), q⟩
theorem scGt : FnScope ["self", "other"] ["self", "other"] (defScope sGt) := ⟨rfl, rfl, rfl, by decide +kernel, rfl, by decide +kernel, by decide +kernel⟩
theorem ok_gt {f C : Addr} {fd : FuncData} (F : Fun K "__gt__" "Address.__gt__" sGt f fd) (T : ATxt K mg C) (W : AOwn K C) (mi : mg "isinstance" = none) : FnOk P w K mg base CX0 1 f fd ["self", "other"] (spCmp C fun p q => DatumOrd.lt q p) := by
  refine F.ok scGt (fun vs H Q E h => ?_) (fun cdv A outer s0 H vs Q E hr h => ?_)
  · obtain ⟨a, b, t, u, s, r, ps, qs, rfl, _⟩ := h
    rfl
  · obtain ⟨a, b, t, u, s, r, ps, qs, rfl, ⟨dx, k, h1, h2, h3⟩, ⟨dy, l, g1, g2, g3⟩, q⟩ := h
    refine ⟨_, pss_cons (ps_if (pt_not (pt_val (pe_callB (call_isI W) (by rfl) mi (by decide +kernel) (pa_cons (pv 1) (pa_cons (pe_glob (v := .ref C) (by rfl) T.mgC rfl) pa_nil))))) (pss_one ps_never) pss_nil)
      (pss_one (ps_ret (pe_cmpR (opd_gt (α := KT) (room_all (k := 64) (by decide) hr.units)) (pe_fld (pv 0) rfl) (pe_fld (pv 1) rfl) (nomark _)))), ?_⟩
    refine ⟨_, rfl, b, dy, _, rfl, g1, _, rfl, iteF ?_⟩
    exact ⟨_, rfl, a, C, dx, _, _, rfl, h1, T.cl, T.nK, aF_key _ _ _, _, rfl, b, C, dy, _, _, rfl, g1, T.cl, T.nK, aF_key _ _ _, _, _, dp_key (sqt h3) (sqt h2), dp_key (sqt g3) (sqt g2), q⟩
theorem scGe : FnScope ["self", "other"] ["self", "other"] (defScope sGe) := ⟨rfl, rfl, rfl, by decide +kernel, rfl, by decide +kernel, by decide +kernel⟩
theorem ok_ge {f C : Addr} {fd : FuncData} (F : Fun K "__ge__" "Address.__ge__" sGe f fd) (T : ATxt K mg C) (W : AOwn K C) (mi : mg "isinstance" = none) : FnOk P w K mg base CX0 1 f fd ["self", "other"] (spCmp C fun p q => !DatumOrd.lt p q) := by
  refine F.ok scGe (fun vs H Q E h => ?_) (fun cdv A outer s0 H vs Q E hr h => ?_)
  · obtain ⟨a, b, t, u, s, r, ps, qs, rfl, _⟩ := h
    rfl
  · obtain ⟨a, b, t, u, s, r, ps, qs, rfl, ⟨dx, k, h1, h2, h3⟩, ⟨dy, l, g1, g2, g3⟩, q⟩ := h
    refine ⟨_, pss_cons (ps_if (pt_not (pt_val (pe_callB (call_isI W) (by rfl) mi (by decide +kernel) (pa_cons (pv 1) (pa_cons (pe_glob (v := .ref C) (by rfl) T.mgC rfl) pa_nil))))) (pss_one ps_never) pss_nil)
      (pss_one (ps_ret (pe_cmpR (opd_ge (α := KT) (room_all (k := 64) (by decide) hr.units)) (pe_fld (pv 0) rfl) (pe_fld (pv 1) rfl) (nomark _)))), ?_⟩
    refine ⟨_, rfl, b, dy, _, rfl, g1, _, rfl, iteF ?_⟩
    exact ⟨_, rfl, a, C, dx, _, _, rfl, h1, T.cl, T.nK, aF_key _ _ _, _, rfl, b, C, dy, _, _, rfl, g1, T.cl, T.nK, aF_key _ _ _, _, _, dp_key (sqt h3) (sqt h2), dp_key (sqt g3) (sqt g2), q⟩
end
end K2

namespace K2
open PySem L2 SX AddrMath PySem.W GR
/-- a list != [] -/
def rNeE : R2 := fun x y H Q => ∃ (a b : Addr) (xs : List V), x = .ref a ∧ y = .ref b ∧ H a = some (.lst xs) ∧ H b = some (.lst []) ∧ Q (.bl (!xs.isEmpty)) H
theorem op_neE {X : Cx} (hu : X.A.units < cLine) : OpR X (compareOp .NotEq) rNeE := by
  intro pins s σ H x y v u Q I rx ry ⟨a, b, xs, ex, ey, ha, hb, q⟩
  subst ex; subst ey
  cases (show v = Value.ref a from rx); cases (show u = Value.ref b from ry)
  obtain ⟨z, its, n, r, hl, e⟩ := I.lstM ha
  obtain ⟨z2, its2, n2, r2, hl2, e2⟩ := I.lstM hb
  have no : its2 = [] := List.length_eq_zero_iff.mp (by rw [← hl2]; rfl)
  subst no
  show wpAny _ _ (richCompare .NotEq (.ref a) (.ref b)) _ _ _
  cases its with
  | nil =>
    have nx : xs = [] := List.length_eq_zero_iff.mp (by rw [hl]; rfl)
    subst nx
    exact richCompare_meets_room (op := .NotEq) ⟨_, e, rfl⟩ ⟨_, e2, rfl⟩ F.slot_list_ne F.entry_list_ne (F.args_list_ne_2 _ _) (SeqAt.list_neAt a b _ _ n n2 none none #[] #[] rfl (fun _ => true))
      ⟨e, e2, fun j h1 _ => by simp at h1, (fun z => nomatch z), V.bl false, H, I, rfl, q⟩ hu
  | cons w ws =>
    cases xs with
    | nil => simp at hl
    | cons y ys =>
      exact richCompare_meets_room (op := .NotEq) ⟨_, e, rfl⟩ ⟨_, e2, rfl⟩ F.slot_list_ne F.entry_list_ne (F.args_list_ne_2 _ _) (SeqAt.list_ne_lengthsAt a b _ _ n n2 none none #[] #[] (by simp))
        ⟨e, e2, (fun z => nomatch z), V.bl true, H, I, rfl, q⟩ hu
theorem perm_erase {α : Type} : ∀ (l : List α) (k : Nat) (h : k < l.length), (l[k] :: l.eraseIdx k).Perm l
  | x :: r, 0, _ => .refl _
  | x :: r, k + 1, h => (List.Perm.swap x (r[k]'(Nat.lt_of_succ_lt_succ h)) (r.eraseIdx k)).trans (.cons x (perm_erase r k (Nat.lt_of_succ_lt_succ h)))
theorem ite_so {c : Bool} {A B : Prop} (h : c = true) (a : A) : if c = true then A else B := by
  rw [if_pos h]
  exact a
abbrev sShuf : Stmt := top 17
section
variable {P : Program} {w : World} {K : PySem.W.Frag} {mg : Str → Option Value} {base : Heap}
/-! ### _law_shuffled: pen 0, items 1, left 2, found 3 -/
def spShuf : Sp := fun vs H Q _ => ∃ (d c m : Addr) (n : Nat) (xs : List V), vs = [.ref d, .ref m] ∧ PenAt H d c n ∧ H m = some (.lst xs) ∧ xs.length ≤ 20 ∧ n ≤ 900000 ∧
  ∀ (o : Addr) (ys : List V) (H' : Hp), ys.Perm xs → H' o = some (.lst ys) → H o = none → PenAt H' d c (n + 20) → But d H H' → Q (.ref o) H'
theorem scShuf : FnScope ["_law_pen_here", "_law_items", "_law_left", "_law_found"] ["_law_pen_here", "_law_items"] (defScope sShuf) := ⟨rfl, rfl, rfl, by decide +kernel, rfl, by decide +kernel, by decide +kernel⟩
theorem ok_shuf {f fD : Addr} {fd fdD : FuncData} (F : Fun K "_law_shuffled" "_law_shuffled" sShuf f fd) (GD : FnOk P w K mg base CX0 1 fD fdD ["_law_pen_here", "_law_many"] spDraw) (cD : Cd K mg "_law_draw" fD) (bD : Binds K fdD ["_law_pen_here", "_law_many"] [])
    (mli : mg "list" = none) (ml : mg "len" = none) : FnOk P w K mg base CX0 2 f fd ["_law_pen_here", "_law_items"] spShuf := by
  refine F.ok scShuf (fun vs H Q E h => ?_) (fun cdv A outer s H vs Q E hr h => ?_)
  · obtain ⟨d, c, m, n, xs, rfl, _⟩ := h
    rfl
  · obtain ⟨d, c, m, n, xs, rfl, p, hm, hx, hn, q⟩ := h
    refine ⟨_, pss_cons (ps_par (by rfl) scShuf.nd (i := 2) (j := 3) rfl rfl (by decide) rfl rfl (pa_cons (pe_callTy call_list_of (by rfl) mli (by decide +kernel) (pa_cons (pv 1) pa_nil)) (pa_cons (pe_lst pa_nil) pa_nil)) (by rfl))
      (pss_cons (ps_while PassesOwn.never (pt_cmpR (op_neE hr.units0) (pv 2) (pe_lst pa_nil) (nomark _))
        (pss_one (ps_expr (pe_bm PySem.F.plainAttrs_list PySem.F.slot_list_append PySem.F.type_list_append mt_append (pv 3)
          (pa_cons (pe_bm PySem.F.plainAttrs_list PySem.F.slot_list_pop PySem.F.type_list_pop mt_popAt (pv 2)
            (pa_cons (pe_call GD hr rfl cD.mg cD.kp bD .nil pass0 (pa_cons (pv 0) (pa_cons (pe_callB call_len_seq (by rfl) ml PySem.boot_len (pa_cons (pv 2) pa_nil)) pa_nil))) pa_nil)) pa_nil)))))
      (pss_one (ps_ret (pv 3)))), ?_⟩
    refine ⟨_, rfl, m, xs, rfl, .inl (.inl (.inl hm)), fun l nl => ⟨by show 0 ≤ sizeLine; exact Nat.zero_le _, fun o no => ⟨_, _, rfl, ?_⟩⟩⟩
    obtain ⟨nol, no1⟩ := upd_none no
    have p0 : PenAt (upd (upd H l (.lst xs)) o (.lst [])) d c n := (p.keep (same_new nl)).keep (same_new no)
    have b0 : But d H (upd (upd H l (.lst xs)) o (.lst [])) := (But.new nl).trans (But.new no)
    have hld : l ≠ d := fun z => p.ne (by rw [← z]; exact nl)
    have hlc : l ≠ c := fun z => p.neC (by rw [← z]; exact nl)
    have hod : o ≠ d := fun z => p.ne (by rw [← z]; exact no1)
    have hoc : o ≠ c := fun z => p.neC (by rw [← z]; exact no1)
    refine ⟨fun k σ H' => ∃ ls fs : List V, σ = [some (.ref d), some (.ref m), some (.ref l), some (.ref o)] ∧ k = ls.length ∧ H' l = some (.lst ls) ∧ H' o = some (.lst fs) ∧ (fs ++ ls).Perm xs ∧ PenAt H' d c (n + fs.length) ∧ But d H H',
      ⟨xs.length, xs, [], rfl, rfl, by rw [upd_ne nol.symm, upd_same], upd_same, .refl _, p0, b0⟩, ?_⟩
    rintro k σ H' ⟨ls, fs, rfl, rfl, hl, ho, pm, p1, b1⟩
    have hlen : fs.length + ls.length = xs.length := by rw [← List.length_append]; exact pm.length_eq
    refine ⟨_, rfl, by show 0 ≤ sizeLine; exact Nat.zero_le _, fun e ne => ⟨l, e, ls, rfl, rfl, by rw [upd_ne (ne_of_none hl ne)]; exact hl, upd_same, _, rfl, ?_⟩⟩
    have hl2 : upd H' e (.lst []) l = some (.lst ls) := by rw [upd_ne (ne_of_none hl ne)]; exact hl
    have ho2 : upd H' e (.lst []) o = some (.lst fs) := by rw [upd_ne (ne_of_none ho ne)]; exact ho
    have p2 : PenAt (upd H' e (.lst [])) d c (n + fs.length) := p1.keep (same_new ne)
    have b2 : But d H (upd H' e (.lst [])) := b1.trans (But.new ne)
    cases ls with
    | nil =>
      refine iteF ⟨_, rfl, q o fs _ ?_ ho2 no1 (p2.mono (by omega)) b2⟩
      rw [List.append_nil] at pm
      exact pm
    | cons y0 ys =>
      have len1 : (y0 :: ys).length = ys.length + 1 := rfl
      have ne0 : (!(y0 :: ys).isEmpty) = true := rfl
      generalize hls : y0 :: ys = ls at *
      refine ite_so ne0 ⟨fun σ' H'' => ∃ (j : Nat) (y : V), ls[j]? = some y ∧ σ' = [some (.ref d), some (.ref m), some (.ref l), some (.ref o)] ∧ H'' l = some (.lst (ls.eraseIdx j)) ∧ H'' o = some (.lst (fs ++ [y])) ∧ PenAt H'' d c (n + fs.length + 1) ∧ But d H H'', ?_, ?_⟩
      · rintro σ' H'' ⟨j, y, hy, rfl, h1, h2, h3, h4⟩
        have hj : j < ls.length := (List.getElem?_eq_some_iff.mp hy).1
        refine ⟨(ls.eraseIdx j).length, by rw [List.length_eraseIdx_of_lt hj]; omega, _, _, rfl, rfl, h1, h2, ?_, by rw [List.length_append]; exact h3, h4⟩
        refine .trans ?_ pm
        rw [List.append_assoc]
        refine List.Perm.append_left _ ?_
        obtain ⟨_, rfl⟩ := List.getElem?_eq_some_iff.mp hy
        exact perm_erase ls j hj
      · refine ⟨_, rfl, .inl ⟨rfl, _, .inl (.inl ho2)⟩, _, rfl, .inl ⟨rfl, _, .inl (.inl hl2)⟩, _, rfl, _, rfl, l, ls, rfl, .inl (.inl (.inl hl2)), d, c, n + fs.length, _, rfl, p2, by omega, by omega, by omega, fun j H3 hj0 hj1 p3 b3 => ?_⟩
        obtain ⟨k, rfl⟩ : ∃ k : Nat, j = (k : Int) := ⟨j.toNat, by omega⟩
        have hk : k < ls.length := by omega
        have hl3 : H3 l = some (.lst ls) := b3 _ _ hl2 hld
        have ho3 : H3 o = some (.lst fs) := b3 _ _ ho2 hod
        refine ⟨l, ls, (k : Int), k, ls[k], rfl, rfl, hl3, by omega, by omega, ?_, List.getElem?_eq_getElem hk, ?_⟩
        · exact seqIndex_of (by omega) (by omega)
        · refine ⟨o, fs, ls[k], rfl, rfl, by rw [upd_ne nol]; exact ho3, size_lt (by omega), ?_⟩
          refine ⟨k, ls[k], List.getElem?_eq_getElem hk, rfl, by rw [upd_ne nol.symm, upd_same], upd_same, ?_, ?_⟩
          · exact (p3.put hld hlc).put hod hoc
          · exact ((b2.trans b3).put nl).put no1
end
end K2

namespace K2
open PySem L2 SX AddrMath PySem.W GR
theorem cat_read {K : Frag} {H : Hp} {t b : Addr} {xs ys : List V} {Q : VK} (ht : H t = some (.tup xs)) (hb : H b = some (.tup ys)) (hz : xs.length + ys.length ≤ sizeLine)
    (q : ∀ (p : Addr) (H' : Hp), H' p = some (.tup (xs ++ ys)) → Same H H' → Q (.ref p) H') : rCatA K (.ref t) (.ref b) H Q := by
  refine ⟨t, b, xs, ys, rfl, rfl, sqt ht, sqt hb, hz, fun e => ?_, fun _ e => ?_, fun _ _ p np => q p _ upd_same (same_new np)⟩
  · subst e
    exact q b H hb (Same.refl H)
  · subst e
    exact q t H (by rw [List.append_nil]; exact ht) (Same.refl H)
theorem cut_whole {xs : List V} {lo hi : Option Int} (h : HT.sIx xs.length 0 lo = 0 ∧ HT.sIx xs.length xs.length hi = xs.length) : cutV xs lo hi = xs := by
  unfold cutV
  rw [h.1, h.2]
  simp
theorem sl_read {K : Frag} {H : Hp} {t : Addr} {xs : List V} {lo hi : Option Int} {Q : VK} (ht : H t = some (.tup xs))
    (q : ∀ (p : Addr) (H' : Hp), H' p = some (.tup (cutV xs lo hi)) → Same H H' → Q (.ref p) H') : rSlA K (.ref t) lo hi H Q :=
  ⟨t, xs, rfl, sqt ht, fun h => q t H (by rw [cut_whole h]; exact ht) (Same.refl H), fun _ p np => q p _ upd_same (same_new np)⟩
theorem wV_snoc (ps : List (List Nat)) (x : List Nat) : (some (HO.tup (wV ps ++ [V.str (S x)])) : Option HO) = some (.tup (wV (ps ++ [x]))) := by
  show _ = some (HO.tup ((ps ++ [x]).map _))
  rw [List.map_append]
  rfl
theorem all_words {ps : List (List Nat)} {x : List Nat} (h : ∀ y ∈ ps, isW y = true) (hx : isW x = true) : ∀ y ∈ ps ++ [x], isW y = true := fun y hy =>
  (List.mem_append.mp hy).elim (h y) fun e => by
    rw [List.mem_singleton.mp e]
    exact hx
theorem wV_cat (ps qs : List (List Nat)) : wV ps ++ wV qs = wV (ps ++ qs) := List.map_append.symm
theorem wV_take (ps : List (List Nat)) (k : Nat) : (wV ps).take k = wV (ps.take k) := List.map_take.symm
theorem wV_drop (ps : List (List Nat)) (k : Nat) : (wV ps).drop k = wV (ps.drop k) := List.map_drop.symm
/-- (state, path) stands at p, its path at t -/
def PlT (H : Hp) (p t : Addr) (s : List Nat) (ps : List (List Nat)) : Prop := H p = some (.tup [.str (S s), .ref t]) ∧ H t = some (.tup (wV ps)) ∧ isW s = true ∧ (∀ x ∈ ps, isW x = true) ∧ ps.length ≤ 100
abbrev sNear : Stmt := top 19
section
variable {P : Program} {w : World} {K : PySem.W.Frag} {mg : Str → Option Value} {base : Heap}
def spNear : Sp := fun vs H Q _ => ∃ (d c m o t : Addr) (n : Nat) (ws ps : List (List Nat)) (s : List Nat), vs = [.ref d, .ref m, .ref o] ∧ PenAt H d c n ∧ n ≤ 900000 ∧ H m = some (.lst (wV ws)) ∧ 0 < ws.length ∧ ws.length ≤ 20 ∧ (∀ x ∈ ws, isW x = true) ∧
  PlT H o t s ps ∧ ps.length < 100 ∧ ∀ (o' t' : Addr) (s' : List Nat) (ps' : List (List Nat)) (H' : Hp), PlT H' o' t' s' ps' → ps'.length ≤ ps.length + 1 → PenAt H' d c (n + 3) → But d H H' → o' ≠ d → Q (.ref o') H'
theorem scNear : FnScope ["_law_pen_here", "_law_words_here", "_law_one", "_law_state", "_law_path", "_law_way", "_law_at"] ["_law_pen_here", "_law_words_here", "_law_one"] (defScope sNear) := ⟨rfl, rfl, rfl, by decide +kernel, rfl, by decide +kernel, by decide +kernel⟩
theorem ok_near {f fD fP : Addr} {fd fdD fdP : FuncData} (F : Fun K "_law_near" "_law_near" sNear f fd) (GD : FnOk P w K mg base CX0 1 fD fdD ["_law_pen_here", "_law_many"] spDraw) (cD : Cd K mg "_law_draw" fD) (bD : Binds K fdD ["_law_pen_here", "_law_many"] [])
    (GP : FnOk P w K mg base CX0 2 fP fdP ["_law_pen_here", "_law_items"] spPick) (cP : Cd K mg "_law_pick" fP) (bP : Binds K fdP ["_law_pen_here", "_law_items"] [])
    (ml : mg "len" = none) : FnOk P w K mg base CX0 3 f fd ["_law_pen_here", "_law_words_here", "_law_one"] spNear := by
  refine F.ok scNear (fun vs H Q E h => ?_) (fun cdv A outer s0 H vs Q E hr h => ?_)
  · obtain ⟨d, c, m, o, t, n, ws, ps, s, rfl, _⟩ := h
    rfl
  · obtain ⟨d, c, m, o, t, n, ws, ps, s, rfl, p, hn, hm, hw0, hw20, hww, pl, hps, q⟩ := h
    have hr1 : Room 1 _ := hr.mono (by decide)
    refine ⟨_, pss_cons (ps_asg (pv 2) (pg_tup (by rfl) (pgs_cons (pg_name (i := 3) scNear.nd rfl (Or.inl rfl)) (pgs_cons (pg_name (i := 4) scNear.nd rfl (Or.inl rfl)) pgs_nil))))
      (pss_cons (ps_set (i := 5) scNear.nd rfl (Or.inl rfl) (pe_call GD hr1 rfl cD.mg cD.kp bD .nil pass0 (pa_cons (pv 0) (pa_cons pe_int pa_nil))))
      (pss_cons (ps_if (pt_cmpR op_eq (pv 5) pe_int (nomark _)) (pss_one (ps_ret (pe_tup (pa_cons (pe_call GP hr rfl cP.mg cP.kp bP .nil pass0 (pa_cons (pv 0) (pa_cons (pv 1) pa_nil))) (pa_cons (pv 4) pa_nil))))) pss_nil)
      (pss_cons (ps_if (pt_cmpR op_eq (pv 5) pe_int (nomark _)) (pss_one (ps_ret (pe_tup (pa_cons (pv 3) (pa_cons (pe_op op_catA (pv 4) (pe_tup (pa_cons (pe_call GP hr rfl cP.mg cP.kp bP .nil pass0 (pa_cons (pv 0) (pa_cons (pv 1) pa_nil))) pa_nil))) pa_nil))))) pss_nil)
      (pss_cons (ps_if (PW.pt (pw_and (pt_cmpR op_eq (pv 5) pe_int (nomark _)) (pw_and1 (pt_cmpR (opd_ne (α := Tup Str) (room_all (k := 64) (by decide) hr.units)) (pv 4) (pe_tup pa_nil) (nomark _)))))
        (pss_cons (ps_set (i := 6) scNear.nd rfl (Or.inl rfl) (pe_call GD hr1 rfl cD.mg cD.kp bD .nil pass0 (pa_cons (pv 0) (pa_cons (pe_callB call_len_seq (by rfl) ml PySem.boot_len (pa_cons (pv 4) pa_nil)) pa_nil))))
          (pss_one (ps_ret (pe_tup (pa_cons (pv 3) (pa_cons (pe_op op_catA (pe_op op_catA (pe_slice sl_tupA (pv 4) po_none (po_some (pv 6))) (pe_tup (pa_cons (pe_call GP hr rfl cP.mg cP.kp bP .nil pass0 (pa_cons (pv 0) (pa_cons (pv 1) pa_nil))) pa_nil)))
            (pe_slice sl_tupA (pv 4) (po_some (pe_op op_add (pv 6) pe_int)) po_none)) pa_nil)))))) pss_nil)
      (pss_cons (ps_if (pt_cmpR op_eq (pv 5) pe_int (nomark _)) (pss_one (ps_ret (pe_tup (pa_cons (pv 3) (pa_cons (pe_slice sl_tupA (pv 4) (po_some pe_int) po_none) pa_nil))))) pss_nil)
      (pss_one (ps_ret (pv 2)))))))), ?_⟩
    obtain ⟨h1, h2, hsw, hpw, hp100⟩ := pl
    refine ⟨_, rfl, o, _, rfl, sqt h1, rfl, _, _, rfl, _, _, rfl, rfl, ?_⟩
    refine ⟨_, rfl, d, c, n, 5, rfl, p, by omega, by decide, by decide, fun j H1 hj0 hj1 p1 b1 => ?_⟩
    have hod : o ≠ d := fun z => by
      obtain ⟨_, _, _, e1, _⟩ := p
      rw [← z, h1] at e1
      cases e1
    have htd : t ≠ d := fun z => by
      obtain ⟨_, _, _, e1, _⟩ := p
      rw [← z, h2] at e1
      cases e1
    have hmd : m ≠ d := lst_ne hm p
    have g1 := b1 _ _ h1 hod
    have g2 := b1 _ _ h2 htd
    have gm := b1 _ _ hm hmd
    have pick : ∀ (v : V), v ∈ wV ws → ∃ x, v = .str (S x) ∧ isW x = true := fun v hv => by
      obtain ⟨x, hx, rfl⟩ := List.mem_map.mp hv
      exact ⟨x, rfl, hww x hx⟩
    refine ⟨_, rfl, rfl, _, rfl, ite2 (fun _ => ?_) (fun _ => ?_)⟩
    · -- another state
      refine ⟨_, rfl, _, rfl, d, c, n + 1, _, rfl, p1, by omega, .inl ⟨m, _, rfl, gm, by rw [List.length_map]; exact hw0, by rw [List.length_map]; omega, fun v H2 hv p2 b2 => ?_⟩⟩
      obtain ⟨x, rfl, hx⟩ := pick v hv
      refine ⟨_, rfl, by show 2 ≤ sizeLine; decide, fun a na => ?_⟩
      exact q a t x ps _ ⟨upd_same, by rw [upd_ne (ne_of_none (b2 _ _ g2 htd) na)]; exact b2 _ _ g2 htd, hx, hpw, hp100⟩ (by omega) ((p2.keep (same_new na)).mono (by omega)) ((b1.trans b2).trans (But.new na)) (fun z => p2.ne (by rw [← z]; exact na))
    refine ⟨_, rfl, rfl, _, rfl, ite2 (fun _ => ?_) (fun _ => ?_)⟩
    · -- one more
      refine ⟨_, rfl, _, rfl, _, rfl, _, rfl, d, c, n + 1, _, rfl, p1, by omega, .inl ⟨m, _, rfl, gm, by rw [List.length_map]; exact hw0, by rw [List.length_map]; omega, fun v H2 hv p2 b2 => ?_⟩⟩
      obtain ⟨x, rfl, hx⟩ := pick v hv
      refine ⟨by show 1 ≤ sizeLine; decide, fun a na => ?_⟩
      have e2 := same_new (o := .tup [.str (S x)]) na _ _ (b2 _ _ g2 htd)
      refine cat_read e2 upd_same (by rw [List.length_map]; exact size_ok (by show ps.length + 1 ≤ _; omega)) fun r H3 h3 s3 => ?_
      refine ⟨by show 2 ≤ sizeLine; decide, fun b nb => ?_⟩
      have p3 : PenAt H3 d c (n + 2) := (p2.keep (same_new na)).keep s3
      have b3 : But d H H3 := ((b1.trans b2).trans (But.new na)).trans (but_of s3)
      exact q b r s (ps ++ [x]) _ ⟨upd_same, by rw [upd_ne (ne_of_none h3 nb), h3, wV_snoc], hsw, all_words hpw hx, by rw [List.length_append]; show ps.length + 1 ≤ 100; omega⟩ (by rw [List.length_append]; exact Nat.le_refl _)
        ((p3.keep (same_new nb)).mono (by omega)) (b3.trans (But.new nb)) (fun z => p3.ne (by rw [← z]; exact nb))
    refine ⟨_, rfl, rfl, _, rfl, ite2 (fun _ => ?_) (fun _ => ?_)⟩
    · refine ⟨_, rfl, by show 0 ≤ sizeLine; exact Nat.zero_le _, fun e ne => ?_⟩
      have k1 := same_new (o := .tup []) ne _ _ g1
      have k2 := same_new (o := .tup []) ne _ _ g2
      have km := same_new (o := .tup []) ne _ _ gm
      have pe := p1.keep (same_new (o := .tup []) ne)
      have be := b1.trans (But.new (d := d) (o := .tup []) ne)
      refine ⟨⟨ps.map S⟩, ⟨[]⟩, .tup (sqt k2) (dp_words ps), .tup (sqt upd_same) .nil, _, rfl, ?_⟩
      generalize upd H1 e (.tup []) = He at k1 k2 km pe be ⊢
      refine ite2 (fun hne => ?_) (fun _ => ?_)
      · have nz : 0 < ps.length := by
          cases ps with
          | nil => exact absurd hne (by decide)
          | cons y ys => exact Nat.succ_pos _
        refine ⟨_, rfl, _, rfl, t, _, rfl, .inr (sqt k2), d, c, n + 1, _, rfl, pe, by omega, by rw [List.length_map]; omega, by rw [List.length_map]; omega, fun jj H4 ha0 ha1 p4 b4 => ?_⟩
        obtain ⟨k, rfl⟩ : ∃ k : Nat, jj = (k : Int) := ⟨jj.toNat, by omega⟩
        rw [List.length_map] at ha1
        have hk : k < ps.length := by omega
        refine ⟨_, rfl, _, rfl, _, rfl, _, rfl, ?_⟩
        refine sl_read (b4 _ _ k2 htd) fun r1 H5 e5 s5 => ?_
        refine ⟨_, rfl, _, rfl, d, c, n + 2, _, rfl, p4.keep s5, by omega, .inl ⟨m, _, rfl, s5 _ _ (b4 _ _ km hmd), by rw [List.length_map]; exact hw0, by rw [List.length_map]; omega, fun v H6 hv p6 b6 => ?_⟩⟩
        obtain ⟨x, rfl, hx⟩ := pick v hv
        rw [cut_to, wV_take] at e5
        have r1d : r1 ≠ d := fun z => by
          obtain ⟨_, _, _, e1, _⟩ := p4.keep s5
          rw [← z, e5] at e1
          cases e1
        refine ⟨by show 1 ≤ sizeLine; decide, fun a na => ?_⟩
        refine cat_read (same_new (o := .tup [.str (S x)]) na _ _ (b6 _ _ e5 r1d)) upd_same (by rw [List.length_map, List.length_take]; exact size_ok (by show min k ps.length + 1 ≤ _; omega)) fun r2 H7 e7 s7 => ?_
        rw [wV_snoc] at e7
        have t7 : H7 t = some (.tup (wV ps)) := s7 _ _ (same_new na _ _ (b6 _ _ (s5 _ _ (b4 _ _ k2 htd)) htd))
        refine ⟨_, rfl, _, rfl, _, _, rfl, rfl, _, rfl, ?_⟩
        unfold tNoPart
        refine sl_read t7 fun r3 H8 e8 s8 => ?_
        rw [show ((k : Int) + 1) = ((k + 1 : Nat) : Int) by omega, cut_from, wV_drop] at e8
        refine cat_read (s8 _ _ e7) e8 (by rw [List.length_map, List.length_map, List.length_append, List.length_take, List.length_drop]; exact size_ok (by show min k ps.length + 1 + (ps.length - (k + 1)) ≤ _; omega)) fun r4 H9 e9 s9 => ?_
        rw [wV_cat] at e9
        refine ⟨by show 2 ≤ sizeLine; decide, fun b nb => ?_⟩
        have p9 : PenAt H9 d c (n + 3) := (((p6.keep (same_new na)).keep s7).keep s8).keep s9
        have b9 : But d H H9 := (((((((be.trans b4).trans (but_of s5)).trans b6).trans (But.new na)).trans (but_of s7)).trans (but_of s8)).trans (but_of s9))
        have len9 : (ps.take k ++ [x] ++ ps.drop (k + 1)).length = ps.length := by
          rw [List.length_append, List.length_append, List.length_take, List.length_drop]
          show min k ps.length + 1 + _ = _
          omega
        refine q b r4 s (ps.take k ++ [x] ++ ps.drop (k + 1)) _ ⟨upd_same, by rw [upd_ne (ne_of_none e9 nb)]; exact e9, hsw, fun y hy => ?_, by rw [len9]; exact hp100⟩ (by rw [len9]; omega) (p9.keep (same_new nb)) (b9.trans (But.new nb)) (fun z => p9.ne (by rw [← z]; exact nb))
        rcases List.mem_append.mp hy with h | h
        · exact all_words (fun y hy => hpw y (List.mem_of_mem_take hy)) hx y h
        · exact hpw y (List.mem_of_mem_drop h)
      · refine ⟨_, rfl, rfl, _, rfl, ite2 (fun _ => ?_) (fun _ => ?_)⟩
        · -- without the first
          refine ⟨_, rfl, _, rfl, _, rfl, ?_⟩
          unfold tNoPart
          refine sl_read k2 fun r H2 e2 s2 => ?_
          refine ⟨by show 2 ≤ sizeLine; decide, fun a na => ?_⟩
          rw [show ((1 : Int)) = ((1 : Nat) : Int) from rfl, cut_from, wV_drop] at e2
          have p3 : PenAt H2 d c (n + 1) := pe.keep s2
          have b3 : But d H H2 := be.trans (but_of s2)
          exact q a r s (ps.drop 1) _ ⟨upd_same, by rw [upd_ne (ne_of_none e2 na)]; exact e2, hsw, fun y hy => hpw y (List.mem_of_mem_drop hy), by rw [List.length_drop]; omega⟩ (by rw [List.length_drop]; omega)
            ((p3.keep (same_new na)).mono (by omega)) (b3.trans (But.new na)) (fun z => p3.ne (by rw [← z]; exact na))
        · exact ⟨_, rfl, q o t s ps _ ⟨k1, k2, hsw, hpw, hp100⟩ (by omega) (pe.mono (by omega)) be hod⟩
    · refine ⟨_, rfl, rfl, _, rfl, ite2 (fun _ => ?_) (fun _ => ?_)⟩
      · -- without the first
        refine ⟨_, rfl, _, rfl, _, rfl, ?_⟩
        unfold tNoPart
        refine sl_read g2 fun r H2 e2 s2 => ?_
        refine ⟨by show 2 ≤ sizeLine; decide, fun a na => ?_⟩
        rw [show ((1 : Int)) = ((1 : Nat) : Int) from rfl, cut_from, wV_drop] at e2
        have p3 : PenAt H2 d c (n + 1) := p1.keep s2
        have b3 : But d H H2 := b1.trans (but_of s2)
        exact q a r s (ps.drop 1) _ ⟨upd_same, by rw [upd_ne (ne_of_none e2 na)]; exact e2, hsw, fun y hy => hpw y (List.mem_of_mem_drop hy), by rw [List.length_drop]; omega⟩ (by rw [List.length_drop]; omega)
          ((p3.keep (same_new na)).mono (by omega)) (b3.trans (But.new na)) (fun z => p3.ne (by rw [← z]; exact na))
      · exact ⟨_, rfl, q o t s ps _ ⟨g1, g2, hsw, hpw, hp100⟩ (by omega) (p1.mono (by omega)) b1 hod⟩
end
end K2

namespace K2
open PySem L2 SX AddrMath PySem.W GR
abbrev sKey : Stmt := top 20
abbrev sOrder : Stmt := top 21
theorem if_ndec {c A B : Prop} [Decidable c] (h : ¬ c) (b : B) : if decide c = true then A else B := by
  rw [decide_eq_false h]
  exact iteF b
/-! ### an order by insertion -/
def leK (p q : KT) : Bool := !DatumOrd.lt q p
def insK {α : Type} (z : α × KT) (acc : List (α × KT)) : List (α × KT) := acc.takeWhile (fun y => leK y.2 z.2) ++ z :: acc.dropWhile (fun y => leK y.2 z.2)
def sortK {α : Type} (zs : List (α × KT)) : List (α × KT) := zs.foldl (fun acc z => insK z acc) []
theorem ins_len {α : Type} (z : α × KT) (acc : List (α × KT)) : (insK z acc).length = acc.length + 1 := by
  have e := congrArg List.length (List.takeWhile_append_dropWhile (p := fun y : α × KT => leK y.2 z.2) (l := acc))
  rw [List.length_append] at e
  unfold insK
  rw [List.length_append, List.length_cons]
  omega
theorem ins_map {α β : Type} (f : α → β) (z : α × KT) (acc : List (α × KT)) : (insK z acc).map (fun y => (f y.1, y.2)) = insK (f z.1, z.2) (acc.map fun y => (f y.1, y.2)) := by
  unfold insK
  rw [List.map_append, List.map_cons, List.takeWhile_map, List.dropWhile_map]
  rfl
theorem tw_step {α : Type} (p : α → Bool) : ∀ (l : List α) (j : Nat) (h : j < l.length), j ≤ (l.takeWhile p).length → p l[j] = true → j + 1 ≤ (l.takeWhile p).length
  | y :: r, 0, _, _, e => by
    rw [List.takeWhile_cons, if_pos (show p y = true from e)]
    exact Nat.succ_le_succ (Nat.zero_le _)
  | y :: r, j + 1, h, hj, e => by
    rw [List.takeWhile_cons] at hj ⊢
    by_cases hy : p y = true
    · rw [if_pos hy] at hj ⊢
      exact Nat.succ_le_succ (tw_step p r j (Nat.lt_of_succ_lt_succ h) (Nat.le_of_succ_le_succ hj) e)
    · rw [if_neg hy] at hj
      exact absurd hj (Nat.not_succ_le_zero j)
theorem tw_stop {α : Type} (p : α → Bool) : ∀ (l : List α) (j : Nat) (h : j < l.length), j ≤ (l.takeWhile p).length → p l[j] = false → j = (l.takeWhile p).length
  | y :: r, 0, _, _, e => by
    have ne : ¬ p y = true := fun z => by
      rw [show p y = false from e] at z
      cases z
    rw [List.takeWhile_cons, if_neg ne]
    rfl
  | y :: r, j + 1, h, hj, e => by
    rw [List.takeWhile_cons] at hj ⊢
    by_cases hy : p y = true
    · rw [if_pos hy] at hj ⊢
      exact congrArg (· + 1) (tw_stop p r j (Nat.lt_of_succ_lt_succ h) (Nat.le_of_succ_le_succ hj) e)
    · rw [if_neg hy] at hj
      exact absurd hj (Nat.not_succ_le_zero j)
theorem tw_le {α : Type} (p : α → Bool) (l : List α) : (l.takeWhile p).length ≤ l.length := by
  have e := congrArg List.length (List.takeWhile_append_dropWhile (p := p) (l := l))
  rw [List.length_append] at e
  omega
theorem tw_take {α : Type} (p : α → Bool) (l : List α) : l.take (l.takeWhile p).length = l.takeWhile p := by
  have e := List.take_left (l₁ := l.takeWhile p) (l₂ := l.dropWhile p)
  rw [List.takeWhile_append_dropWhile] at e
  exact e
theorem tw_drop {α : Type} (p : α → Bool) (l : List α) : l.drop (l.takeWhile p).length = l.dropWhile p := by
  have e := List.drop_left (l₁ := l.takeWhile p) (l₂ := l.dropWhile p)
  rw [List.takeWhile_append_dropWhile] at e
  exact e
theorem ins_mem {α : Type} {z y : α × KT} {acc : List (α × KT)} (h : y ∈ insK z acc) : y = z ∨ y ∈ acc := by
  unfold insK at h
  rcases List.mem_append.mp h with h | h
  · exact .inr ((List.takeWhile_sublist _).subset h)
  · rcases List.mem_cons.mp h with h | h
    · exact .inl h
    · exact .inr ((List.dropWhile_sublist _).subset h)
theorem sort_snoc {α : Type} (l : List (α × KT)) (z : α × KT) : sortK (l ++ [z]) = insK z (sortK l) := by
  unfold sortK
  rw [List.foldl_append]
  rfl
theorem sort_take {α : Type} (zs : List (α × KT)) : ∀ i, i ≤ zs.length → (sortK (zs.take i)).length = i ∧ ∀ y ∈ sortK (zs.take i), y ∈ zs
  | 0, _ => ⟨rfl, fun y h => by cases h⟩
  | i + 1, h => by
    obtain ⟨e, m⟩ := sort_take zs i (Nat.le_of_succ_le h)
    have hi : i < zs.length := h
    rw [List.take_succ_eq_append_getElem hi, sort_snoc]
    refine ⟨by rw [ins_len, e], fun y hy => ?_⟩
    rcases ins_mem hy with rfl | hy
    · exact List.getElem_mem hi
    · exact m y hy
/-- x is what the key q belongs to: the key itself, or an address with that key -/
def OrdK (C : Addr) (b : Bool) (H : Hp) (x : V) (q : KT) : Prop :=
  (b = true ∧ ∃ (k t : Addr) (s : List Nat) (ps : List (List Nat)), x = .ref k ∧ H k = some (.tup [.int (ps.length : Int), .str (S s), .ref t]) ∧ H t = some (.tup (wV ps)) ∧ q = kOf s ps) ∨
  (b = false ∧ ∃ (a t : Addr) (s : List Nat) (ps : List (List Nat)), x = .ref a ∧ AddrT C H a t s ps ∧ q = kOf s ps)
theorem AddrT.keep {C : Addr} {H H' : Hp} {a t : Addr} {s : List Nat} {ps : List (List Nat)} (h : AddrT C H a t s ps) (e : Same H H') : AddrT C H' a t s ps := by
  obtain ⟨dx, k, h1, h2, h3⟩ := h
  exact ⟨dx, k, e _ _ h1, e _ _ h2, e _ _ h3⟩
theorem OrdK.keep {C : Addr} {b : Bool} {H H' : Hp} {x : V} {q : KT} (h : OrdK C b H x q) (e : Same H H') : OrdK C b H' x q := by
  rcases h with ⟨hb, k, t, s, ps, hx, h1, h2, hq⟩ | ⟨hb, a, t, s, ps, hx, h, hq⟩
  · exact .inl ⟨hb, k, t, s, ps, hx, e _ _ h1, e _ _ h2, hq⟩
  · exact .inr ⟨hb, a, t, s, ps, hx, h.keep e, hq⟩
def rEi (r1 r2 : R2) : R2 := fun x y H Q => r1 x y H Q ∨ r2 x y H Q
theorem opr_or {X : Cx} {f : Value → Value → Sem Value} {r1 r2 : R2} (h1 : OpR X f r1) (h2 : OpR X f r2) : OpR X f (rEi r1 r2) := fun pins s σ H x y v u Q I rx ry h =>
  h.elim (fun h => h1 pins s σ H x y v u Q I rx ry h) fun h => h2 pins s σ H x y v u Q I rx ry h
/-- <= of two keys, or of two addresses -/
abbrev rLe (K : Frag) (C : Addr) : R2 := rEi (rDat (α := KT) K fun p q => !DatumOrd.lt q p) (rIns C (spCmp C fun p q => !DatumOrd.lt q p))
theorem le_read {K : Frag} {C : Addr} {b : Bool} {H : Hp} {x y : V} {p q : KT} {Q : VK} (hx : OrdK C b H x p) (hy : OrdK C b H y q) (h : Q (.bl (leK p q)) H) : rLe K C x y H Q := by
  rcases hx with ⟨hb, k, t, s, ps, rfl, h1, h2, rfl⟩ | ⟨hb, a, t, s, ps, rfl, h1, rfl⟩
  · rcases hy with ⟨_, k', t', s', ps', rfl, g1, g2, rfl⟩ | ⟨hb', _⟩
    · exact .inl ⟨_, _, dp_key (sqt h1) (sqt h2), dp_key (sqt g1) (sqt g2), h⟩
    · rw [hb] at hb'
      cases hb'
  · rcases hy with ⟨hb', _⟩ | ⟨_, a', t', s', ps', rfl, g1, rfl⟩
    · rw [hb] at hb'
      cases hb'
    · obtain ⟨dx, k, e1, _⟩ := id h1
      obtain ⟨dy, l, e2, _⟩ := id g1
      exact .inr ⟨a, a', dx, dy, _, _, rfl, rfl, e1, e2, a, a', t, t', s, s', ps, ps', rfl, h1, g1, h⟩
section
variable {P : Program} {w : World} {K : PySem.W.Frag} {mg : Str → Option Value} {base : Heap}
/-! ### _law_key -/
def spKey : Sp := fun vs H Q _ => ∃ (p t : Addr) (s : List Nat) (ps : List (List Nat)), vs = [.ref p] ∧ PlT H p t s ps ∧ ∀ (k : Addr) (H' : Hp), H' k = some (.tup [.int (ps.length : Int), .str (S s), .ref t]) → Same H H' → H k = none → Q (.ref k) H'
theorem scKey : FnScope ["_law_one"] ["_law_one"] (defScope sKey) := ⟨rfl, rfl, rfl, by decide +kernel, rfl, by decide +kernel, by decide +kernel⟩
theorem ok_key {f : Addr} {fd : FuncData} (F : Fun K "_law_key" "_law_key" sKey f fd) (ml : mg "len" = none) : FnOk P w K mg base CX0 1 f fd ["_law_one"] spKey := by
  refine F.ok scKey (fun vs H Q E h => ?_) (fun cdv A outer s0 H vs Q E hr h => ?_)
  · obtain ⟨p, t, s, ps, rfl, _⟩ := h
    rfl
  · obtain ⟨p, t, s, ps, rfl, ⟨h1, h2, _⟩, q⟩ := h
    refine ⟨_, pss_one (ps_ret (pe_tup (pa_cons (pe_callB call_len_seq (by rfl) ml PySem.boot_len (pa_cons (pe_ix ix_tup (pv 0) pe_int (fun _ _ => rfl)) pa_nil)) (pa_cons (pe_ix ix_tup (pv 0) pe_int (fun _ _ => rfl)) (pa_cons (pe_ix ix_tup (pv 0) pe_int (fun _ _ => rfl)) pa_nil))))), ?_⟩
    refine ⟨_, rfl, p, _, 1, .ref t, rfl, rfl, sqt h1, rfl, t, _, rfl, .inr (sqt h2), ?_⟩
    refine ⟨_, rfl, p, _, 0, .str (S s), rfl, rfl, sqt h1, rfl, _, rfl, p, _, 1, .ref t, rfl, rfl, sqt h1, rfl, by show 3 ≤ sizeLine; decide, fun k nk => ?_⟩
    refine q k _ ?_ (same_new nk) nk
    rw [upd_same, List.length_map]
/-! ### _law_in_order: some 0, found 1, one 2, at 3 -/
def spOrder (C : Addr) : Sp := fun vs H Q _ => ∃ (m : Addr) (b : Bool) (zs : List (V × KT)), vs = [.ref m] ∧ H m = some (.lst (zs.map (·.1))) ∧ zs.length ≤ 20 ∧ (∀ z ∈ zs, OrdK C b H z.1 z.2) ∧
  ∀ (o : Addr) (H' : Hp), H' o = some (.lst ((sortK zs).map (·.1))) → Same H H' → Q (.ref o) H'
theorem scOrder : FnScope ["_law_some", "_law_found", "_law_one", "_law_at"] ["_law_some"] (defScope sOrder) := ⟨rfl, rfl, rfl, by decide +kernel, rfl, by decide +kernel, by decide +kernel⟩
theorem ok_order {f g C : Addr} {fd gd : FuncData} (F : Fun K "_law_in_order" "_law_in_order" sOrder f fd) (T : ATxt K mg C) (G : FnOk P w K mg base CX0 1 g gd ["self", "other"] (spCmp C fun p q => !DatumOrd.lt q p)) (gB : Binds K gd ["self", "other"] [])
    (gAt : findIn K (.ref C) "__le__" = some (some (.ref g))) (gF : isFn K (.ref g) = true) (ml : mg "len" = none) : FnOk P w K mg base CX0 2 f fd ["_law_some"] (spOrder C) := by
  refine F.ok scOrder (fun vs H Q E h => ?_) (fun cdv A outer s0 H vs Q E hr h => ?_)
  · obtain ⟨m, b, zs, rfl, _⟩ := h
    rfl
  · obtain ⟨m, b, zs, rfl, hm, hz, hk, q⟩ := h
    refine ⟨_, pss_cons (ps_set (i := 1) scOrder.nd rfl (Or.inl rfl) (pe_lst pa_nil))
      (pss_cons (ps_for PassesOwn.never rfl (pi_list (pv 0)) (pg_name (i := 2) scOrder.nd rfl (Or.inl rfl))
        (pss_cons (ps_set (i := 3) scOrder.nd rfl (Or.inl rfl) pe_int)
        (pss_cons (ps_while PassesOwn.never (PW.pt (pw_and (pt_cmpR op_lt (pv 3) (pe_callB call_len_seq (by rfl) ml PySem.boot_len (pa_cons (pv 1) pa_nil)) (nomark _))
            (pw_and1 (pt_cmpR (opr_or (opd_le (α := KT) (room_all (k := 64) (by decide) hr.units)) (own_cmp (C := C) (op := .LtE) (fun _ _ => rfl) gAt gF G gB hr)) (pe_ix ix_list (pv 1) (pv 3) (fun _ _ => rfl)) (pv 2) (nomark _)))))
          (pss_one (ps_set (i := 3) scOrder.nd rfl (Or.inl rfl) (pe_op op_add (pv 3) pe_int))))
        (pss_one (ps_set (i := 1) scOrder.nd rfl (Or.inl rfl) (pe_op op_cat (pe_op op_cat (pe_slice sl_list (pv 1) po_none (po_some (pv 3))) (pe_lst (pa_cons (pv 2) pa_nil))) (pe_slice sl_list (pv 1) (po_some (pv 3)) po_none)))))))
      (pss_one (ps_ret (pv 1)))), ?_⟩
    refine ⟨by show 0 ≤ sizeLine; exact Nat.zero_le _, fun o no => ?_⟩
    refine ⟨_, rfl, m, rfl, ⟨_, .inl (.inl (same_new no _ _ hm))⟩, for_list (xs := zs.map (·.1)) (fun i σ H' => ∃ (o' : Addr) (v2 v3 : Option V) , σ = [some (.ref m), some (.ref o'), v2, v3] ∧ Same H H' ∧ H' o' = some (.lst ((sortK (zs.take i)).map (·.1))))
      ⟨o, none, none, rfl, same_new no, upd_same⟩ ?_ ?_ ?_⟩
    · rintro i σ H' hi ⟨o', v2, v3, rfl, sm, ho⟩
      exact .inl (.inl (sm _ _ hm))
    · rintro i x σ H' hx ⟨o', v2, v3, rfl, sm, ho⟩
      have hi : i < zs.length := by
        have z := (List.getElem?_eq_some_iff.mp hx).1
        rwa [List.length_map] at z
      have ex : x = zs[i].1 := by
        rw [List.getElem?_map, List.getElem?_eq_getElem hi] at hx
        exact (Option.some.inj hx).symm
      obtain ⟨la, ma⟩ := sort_take zs i (Nat.le_of_lt hi)
      rw [List.take_succ_eq_append_getElem hi, sort_snoc]
      generalize hacc : sortK (zs.take i) = acc at ho la ma
      have okz := (hk _ (List.getElem_mem hi)).keep sm
      generalize hz' : zs[i] = z at ex okz
      subst ex
      have oka : ∀ y ∈ acc, OrdK C b H' y.1 y.2 := fun y hy => (hk y (ma y hy)).keep sm
      refine ⟨fun k σ1 H1 => ∃ j : Nat, σ1 = [some (.ref m), some (.ref o'), some z.1, some (.int (j : Int))] ∧ H1 = H' ∧ j ≤ (acc.takeWhile fun y => leK y.2 z.2).length ∧ k = acc.length - j, ⟨_, 0, rfl, rfl, Nat.zero_le _, rfl⟩, ?_⟩
      rintro k σ1 H1 ⟨j, rfl, rfl, hj, rfl⟩
      have hle := tw_le (fun y : V × KT => leK y.2 z.2) acc
      refine ⟨_, rfl, _, rfl, o', _, rfl, .inl (.inl (.inl ho)), _, _, rfl, rfl, _, rfl, ?_⟩
      by_cases hlt : j < acc.length
      · refine if_dec (by rw [List.length_map]; omega) ?_
        have hj' : (acc.map (·.1))[j]? = some acc[j].1 := by rw [List.getElem?_map, List.getElem?_eq_getElem hlt]; rfl
        refine ⟨_, rfl, _, rfl, o', _, (j : Int), acc[j].1, rfl, rfl, .inl (.inl ho), atI_nat hj', _, rfl, ?_⟩
        refine le_read (oka _ (List.getElem_mem hlt)) okz ⟨_, rfl, ?_⟩
        cases hc : leK acc[j].2 z.2 with
        | true =>
          refine ite_so rfl ⟨fun σ2 H2 => σ2 = [some (.ref m), some (.ref o'), some z.1, some (.int ((j + 1 : Nat) : Int))] ∧ H2 = H1, ?_, _, rfl, _, _, rfl, rfl, rfl, rfl⟩
          rintro σ2 H2 ⟨rfl, rfl⟩
          exact ⟨acc.length - (j + 1), by omega, j + 1, rfl, rfl, tw_step (fun y : V × KT => leK y.2 z.2) acc j hlt hj hc, rfl⟩
        | false =>
          have ej := tw_stop (fun y : V × KT => leK y.2 z.2) acc j hlt hj hc
          refine iteF ⟨_, rfl, _, rfl, _, rfl, o', _, rfl, .inl (.inl ho), fun p1 n1 => ⟨_, rfl, by show 1 ≤ sizeLine; decide, fun p2 n2 => ?_⟩⟩
          have e1 : upd H1 p1 (.lst (cutV (acc.map (·.1)) none (some (j : Int)))) p1 = _ := upd_same
          have o2 := same_new (o := .lst [z.1]) n2 _ _ (same_new (o := .lst (cutV (acc.map (·.1)) none (some (j : Int)))) n1 _ _ ho)
          have e2 := same_new (o := .lst [z.1]) n2 _ _ e1
          have s2 : Same H (upd (upd H1 p1 (.lst (cutV (acc.map (·.1)) none (some (j : Int))))) p2 (.lst [z.1])) := (sm.trans (same_new n1)).trans (same_new n2)
          generalize hH2 : upd (upd H1 p1 (.lst (cutV (acc.map (·.1)) none (some (j : Int))))) p2 (.lst [z.1]) = H2 at o2 e2 s2 n2 ⊢
          have e3 : H2 p2 = some (.lst [z.1]) := by rw [← hH2]; exact upd_same
          have c1 := cutV_length (acc.map (·.1)) none (some (j : Int))
          have c2 := cutV_length (acc.map (·.1)) (some (j : Int)) none
          rw [List.length_map] at c1 c2
          refine ⟨p1, p2, _, _, rfl, rfl, e2, e3, size_ok (by show _ + 1 ≤ _; omega), fun p3 n3 => ?_⟩
          refine ⟨_, rfl, _, rfl, _, rfl, o', _, rfl, .inl (.inl (same_new n3 _ _ o2)), fun p4 n4 => ?_⟩
          refine ⟨p3, p4, _, _, rfl, rfl, same_new n4 _ _ upd_same, upd_same, size_ok (by rw [List.length_append]; show _ + 1 + _ ≤ _; omega), fun p5 n5 => ?_⟩
          refine ⟨p5, _, _, rfl, ((s2.trans (same_new n3)).trans (same_new n4)).trans (same_new n5), ?_⟩
          rw [upd_same, cut_to, cut_from, ej]
          unfold insK
          rw [List.map_append, List.map_cons, ← List.map_take, ← List.map_drop, tw_take, tw_drop, List.append_assoc]
          rfl
      · have ej : j = (acc.takeWhile fun y => leK y.2 z.2).length := by omega
        refine if_ndec (by rw [List.length_map]; omega) ?_
        refine iteF ⟨_, rfl, _, rfl, _, rfl, o', _, rfl, .inl (.inl ho), fun p1 n1 => ⟨_, rfl, by show 1 ≤ sizeLine; decide, fun p2 n2 => ?_⟩⟩
        have e1 : upd H1 p1 (.lst (cutV (acc.map (·.1)) none (some (j : Int)))) p1 = _ := upd_same
        have o2 := same_new (o := .lst [z.1]) n2 _ _ (same_new (o := .lst (cutV (acc.map (·.1)) none (some (j : Int)))) n1 _ _ ho)
        have e2 := same_new (o := .lst [z.1]) n2 _ _ e1
        have s2 : Same H (upd (upd H1 p1 (.lst (cutV (acc.map (·.1)) none (some (j : Int))))) p2 (.lst [z.1])) := (sm.trans (same_new n1)).trans (same_new n2)
        generalize hH2 : upd (upd H1 p1 (.lst (cutV (acc.map (·.1)) none (some (j : Int))))) p2 (.lst [z.1]) = H2 at o2 e2 s2 n2 ⊢
        have e3 : H2 p2 = some (.lst [z.1]) := by rw [← hH2]; exact upd_same
        have c1 := cutV_length (acc.map (·.1)) none (some (j : Int))
        have c2 := cutV_length (acc.map (·.1)) (some (j : Int)) none
        rw [List.length_map] at c1 c2
        refine ⟨p1, p2, _, _, rfl, rfl, e2, e3, size_ok (by show _ + 1 ≤ _; omega), fun p3 n3 => ?_⟩
        refine ⟨_, rfl, _, rfl, _, rfl, o', _, rfl, .inl (.inl (same_new n3 _ _ o2)), fun p4 n4 => ?_⟩
        refine ⟨p3, p4, _, _, rfl, rfl, same_new n4 _ _ upd_same, upd_same, size_ok (by rw [List.length_append]; show _ + 1 + _ ≤ _; omega), fun p5 n5 => ?_⟩
        refine ⟨p5, _, _, rfl, ((s2.trans (same_new n3)).trans (same_new n4)).trans (same_new n5), ?_⟩
        rw [upd_same, cut_to, cut_from, ej]
        unfold insK
        rw [List.map_append, List.map_cons, ← List.map_take, ← List.map_drop, tw_take, tw_drop, List.append_assoc]
        rfl
    · rintro σ H' ⟨o', v2, v3, rfl, sm, ho⟩
      rw [List.length_map, List.take_of_length_le (Nat.le_refl _)] at ho
      exact ⟨_, rfl, q o' H' ho sm⟩
end
end K2

namespace K2
open PySem L2 SX AddrMath PySem.W GR
/-- a strict order in which two unlike things are told apart -/
structure StO {α : Type} (lt : α → α → Bool) : Prop where
  irr : ∀ a, lt a a = false
  tr : ∀ a b c, lt a b = true → lt b c = true → lt a c = true
  tri : ∀ a b, a = b ∨ lt a b = true ∨ lt b a = true
theorem StO.inj {α β : Type} {lt : α → α → Bool} {l2 : β → β → Bool} (f : β → α) (h : StO lt) (hf : ∀ a b, f a = f b → a = b) (e : ∀ a b, l2 a b = lt (f a) (f b)) : StO l2 :=
  ⟨fun a => by rw [e]; exact h.irr _, fun a b c x y => by rw [e] at x y ⊢; exact h.tr _ _ _ x y, fun a b => by
    rw [e, e]
    exact (h.tri (f a) (f b)).imp (hf a b) id⟩
theorem StO.lex {α β γ : Type} [DecidableEq α] {la : α → α → Bool} {lb : β → β → Bool} {lg : γ → γ → Bool} (f : γ → α) (g : γ → β) (ha : StO la) (hb : StO lb) (hi : ∀ x y, f x = f y → g x = g y → x = y)
    (e : ∀ x y, lg x y = if f x = f y then lb (g x) (g y) else la (f x) (f y)) : StO lg := by
  refine ⟨fun x => by rw [e, if_pos rfl]; exact hb.irr _, fun x y z h1 h2 => ?_, fun x y => ?_⟩
  · rw [e] at h1 h2 ⊢
    by_cases p : f x = f y
    · rw [if_pos p] at h1
      by_cases q : f y = f z
      · rw [if_pos q] at h2
        rw [if_pos (p.trans q)]
        exact hb.tr _ _ _ h1 h2
      · rw [if_neg q] at h2
        rw [if_neg (by rw [p]; exact q), p]
        exact h2
    · rw [if_neg p] at h1
      by_cases q : f y = f z
      · rw [if_neg (by rw [← q]; exact p), ← q]
        exact h1
      · rw [if_neg q] at h2
        have t := ha.tr _ _ _ h1 h2
        rw [if_neg, t]
        intro z2
        rw [z2, ha.irr] at t
        cases t
  · rw [e, e]
    by_cases p : f x = f y
    · rw [if_pos p, if_pos p.symm]
      exact (hb.tri (g x) (g y)).imp (hi x y p) id
    · rw [if_neg p, if_neg (fun z => p z.symm)]
      rcases ha.tri (f x) (f y) with h | h
      · exact absurd h p
      · exact .inr h
def lexL {α : Type} [DecidableEq α] (lt : α → α → Bool) : List α → List α → Bool
  | [], [] => false
  | [], _ :: _ => true
  | _ :: _, [] => false
  | x :: xs, y :: ys => if x = y then lexL lt xs ys else lt x y
theorem StO.list {α : Type} [DecidableEq α] {lt : α → α → Bool} (h : StO lt) : StO (lexL lt) := by
  refine ⟨?_, ?_, ?_⟩
  · intro l
    induction l with
    | nil => rfl
    | cons x r ih => rw [lexL, if_pos rfl, ih]
  · intro a
    induction a with
    | nil =>
      intro b c h1 h2
      cases b with
      | nil => cases h1
      | cons y ys =>
        cases c with
        | nil => cases h2
        | cons z zs => rfl
    | cons x xs ih =>
      intro b c h1 h2
      cases b with
      | nil => cases h1
      | cons y ys =>
        cases c with
        | nil => cases h2
        | cons z zs =>
          rw [lexL] at h1 h2 ⊢
          by_cases p : x = y
          · rw [if_pos p] at h1
            by_cases q : y = z
            · rw [if_pos q] at h2
              rw [if_pos (p.trans q)]
              exact ih _ _ h1 h2
            · rw [if_neg q] at h2
              rw [if_neg (by rw [p]; exact q), p]
              exact h2
          · rw [if_neg p] at h1
            by_cases q : y = z
            · rw [if_neg (by rw [← q]; exact p), ← q]
              exact h1
            · rw [if_neg q] at h2
              have t := h.tr _ _ _ h1 h2
              rw [if_neg, t]
              intro z2
              rw [z2, h.irr] at t
              cases t
  · intro a
    induction a with
    | nil =>
      intro b
      cases b with
      | nil => exact .inl rfl
      | cons y ys => exact .inr (.inl rfl)
    | cons x xs ih =>
      intro b
      cases b with
      | nil => exact .inr (.inr rfl)
      | cons y ys =>
        rw [lexL, lexL]
        by_cases p : x = y
        · rw [if_pos p, if_pos p.symm]
          exact (ih ys).imp (fun z => by rw [p, z]) id
        · rw [if_neg p, if_neg (fun z => p z.symm)]
          rcases h.tri x y with z | z
          · exact absurd z p
          · exact .inr z
theorem sto_int : StO (DatumOrd.lt (α := Int)) := by
  refine ⟨fun a => decide_eq_false (by omega), fun a b c x y => ?_, fun a b => ?_⟩
  · have h1 : a < b := of_decide_eq_true x
    have h2 : b < c := of_decide_eq_true y
    exact decide_eq_true (by omega)
  · rcases Int.lt_trichotomy a b with h | h | h
    · exact .inr (.inl (decide_eq_true h))
    · exact .inl h
    · exact .inr (.inr (decide_eq_true h))
theorem sto_nat : StO (fun a b : Nat => decide (a < b)) := by
  refine ⟨fun a => decide_eq_false (by omega), fun a b c x y => ?_, fun a b => ?_⟩
  · have h1 : a < b := of_decide_eq_true x
    have h2 : b < c := of_decide_eq_true y
    exact decide_eq_true (by omega)
  · rcases Nat.lt_trichotomy a b with h | h | h
    · exact .inr (.inl (decide_eq_true h))
    · exact .inl h
    · exact .inr (.inr (decide_eq_true h))
theorem lexN : ∀ a b : List Nat, decide (a < b) = lexL (fun x y => decide (x < y)) a b
  | [], [] => by rw [lexL]; exact decide_eq_false (List.lt_irrefl [])
  | [], y :: ys => by rw [lexL]; exact decide_eq_true (List.nil_lt_cons y ys)
  | x :: xs, [] => by rw [lexL]; exact decide_eq_false (List.not_lt_nil _)
  | x :: xs, y :: ys => by
    rw [lexL]
    by_cases p : x = y
    · rw [if_pos p, ← lexN xs ys]
      refine decide_eq_decide.mpr ?_
      rw [List.cons_lt_cons_iff]
      constructor
      · rintro (h | ⟨_, h⟩)
        · omega
        · exact h
      · exact fun h => .inr ⟨p, h⟩
    · rw [if_neg p]
      refine decide_eq_decide.mpr ?_
      rw [List.cons_lt_cons_iff]
      constructor
      · rintro (h | ⟨h, _⟩)
        · exact h
        · exact absurd h p
      · exact .inl
theorem sto_str : StO (DatumOrd.lt (α := Str)) := sto_nat.list.inj (fun z : Str => z.cps.toList) (fun a b e => by
    cases a
    cases b
    exact congrArg Str.mk (Array.toList_inj.mp e)) fun a b => lexN _ _
theorem listLt_lex {α : Type} [DecidableEq α] [DatumOrd α] : ∀ a b : List α, listLt a b = lexL DatumOrd.lt a b
  | [], [] => rfl
  | [], _ :: _ => rfl
  | _ :: _, [] => rfl
  | x :: xs, y :: ys => by
    rw [listLt, lexL, listLt_lex xs ys]
theorem sto_tup : StO (DatumOrd.lt (α := Tup Str)) := sto_str.list.inj (fun z : Tup Str => z.items) (fun a b e => by
    cases a
    cases b
    exact congrArg Tup.mk e) fun a b => listLt_lex _ _
theorem sto_key : StO (DatumOrd.lt (α := KT)) :=
  StO.lex (γ := KT) (fun p => p.a) (fun p => (p.b, p.c)) sto_int
    (StO.lex (γ := Str × Tup Str) (lg := fun p q => if p.1 = q.1 then DatumOrd.lt p.2 q.2 else DatumOrd.lt p.1 q.1) (fun p => p.1) (fun p => p.2) sto_str sto_tup (fun x y h1 h2 => Prod.ext h1 h2) fun x y => rfl)
    (fun x y h1 h2 => T3.same h1 (congrArg Prod.fst h2) (congrArg Prod.snd h2)) fun x y => rfl
/-! ### what is sorted -/
theorem le_tot (p q : KT) : leK p q = true ∨ leK q p = true := by
  unfold leK
  cases h : DatumOrd.lt q p with
  | false => exact .inl rfl
  | true =>
    cases h2 : DatumOrd.lt p q with
    | false => exact .inr rfl
    | true =>
      have t := sto_key.tr _ _ _ h h2
      rw [sto_key.irr] at t
      cases t
theorem le_tr {p q r : KT} (h1 : leK p q = true) (h2 : leK q r = true) : leK p r = true := by
  unfold leK at *
  rw [Bool.not_eq_true'] at *
  cases h : DatumOrd.lt r p with
  | false => rfl
  | true =>
    exfalso
    rcases sto_key.tri p q with e | e | e
    · rw [← e, h] at h2
      cases h2
    · rw [sto_key.tr _ _ _ h e] at h2
      cases h2
    · rw [e] at h1
      cases h1
theorem le_anti {p q : KT} (h1 : leK p q = true) (h2 : leK q p = true) : p = q := by
  unfold leK at *
  rw [Bool.not_eq_true'] at *
  rcases sto_key.tri p q with e | e | e
  · exact e
  · rw [e] at h2
    cases h2
  · rw [e] at h1
    cases h1
def insQ (z : KT) : List KT → List KT
  | [] => [z]
  | y :: r => if leK y z = true then y :: insQ z r else z :: y :: r
theorem ins_snd {α : Type} (z : α × KT) : ∀ acc : List (α × KT), (insK z acc).map (·.2) = insQ z.2 (acc.map (·.2))
  | [] => rfl
  | y :: r => by
    have ih := ins_snd z r
    unfold insK at ih ⊢
    rw [List.takeWhile_cons, List.dropWhile_cons, List.map_cons (l := r), insQ]
    by_cases h : leK y.2 z.2 = true
    · rw [if_pos h, if_pos h, if_pos h, List.cons_append, List.map_cons, ih]
    · rw [if_neg h, if_neg h, if_neg h]
      rfl
theorem insQ_perm (z : KT) : ∀ l : List KT, (insQ z l).Perm (z :: l)
  | [] => .refl _
  | y :: r => by
    rw [insQ]
    by_cases h : leK y z = true
    · rw [if_pos h]
      exact (List.Perm.cons y (insQ_perm z r)).trans (List.Perm.swap z y r)
    · rw [if_neg h]
theorem insQ_sorted (z : KT) : ∀ l : List KT, l.Pairwise (fun p q => leK p q = true) → (insQ z l).Pairwise fun p q => leK p q = true
  | [], _ => List.pairwise_singleton _ _
  | y :: r, h => by
    obtain ⟨h1, h2⟩ := List.pairwise_cons.mp h
    rw [insQ]
    by_cases c : leK y z = true
    · rw [if_pos c]
      refine List.pairwise_cons.mpr ⟨fun x hx => ?_, insQ_sorted z r h2⟩
      rcases List.mem_cons.mp ((insQ_perm z r).mem_iff.mp hx) with e | e
      · rw [e]
        exact c
      · exact h1 x e
    · rw [if_neg c]
      have c2 : leK z y = true := (le_tot z y).resolve_right c
      refine List.pairwise_cons.mpr ⟨fun x hx => ?_, h⟩
      rcases List.mem_cons.mp hx with e | e
      · rw [e]
        exact c2
      · exact le_tr c2 (h1 x e)
theorem sort_snd {α : Type} (zs : List (α × KT)) : ∀ acc : List (α × KT), (acc.map (·.2)).Pairwise (fun p q => leK p q = true) →
    (((zs.foldl (fun acc z => insK z acc) acc).map (·.2)).Pairwise fun p q => leK p q = true) ∧ ((zs.foldl (fun acc z => insK z acc) acc).map (·.2)).Perm (acc.map (·.2) ++ zs.map (·.2)) := by
  induction zs with
  | nil =>
    intro acc h
    exact ⟨h, by rw [List.map_nil, List.append_nil]; exact .refl _⟩
  | cons z r ih =>
    intro acc h
    obtain ⟨h1, h2⟩ := ih (insK z acc) (by rw [ins_snd]; exact insQ_sorted _ _ h)
    refine ⟨h1, h2.trans ?_⟩
    rw [ins_snd, List.map_cons]
    exact ((insQ_perm z.2 _).append_right _).trans List.perm_middle.symm
theorem sorted_eq : ∀ l m : List KT, l.Pairwise (fun p q => leK p q = true) → m.Pairwise (fun p q => leK p q = true) → l.Perm m → l = m
  | [], m, _, _, h => h.nil_eq
  | x :: xs, [], _, _, h => by
    have := h.length_eq
    cases this
  | x :: xs, y :: ys, h1, h2, h => by
    obtain ⟨a1, a2⟩ := List.pairwise_cons.mp h1
    obtain ⟨b1, b2⟩ := List.pairwise_cons.mp h2
    have e : x = y := by
      rcases List.mem_cons.mp (h.mem_iff.mp (List.mem_cons_self (a := x))) with e | e
      · exact e
      · rcases List.mem_cons.mp (h.mem_iff.mpr (List.mem_cons_self (a := y))) with e2 | e2
        · exact e2.symm
        · exact le_anti (a1 _ e2) (b1 _ e)
    subst e
    rw [sorted_eq xs ys a2 b2 h.cons_inv]
theorem sort_same {α β : Type} (zs : List (α × KT)) (ys : List (β × KT)) (h : (zs.map (·.2)).Perm (ys.map (·.2))) : (sortK zs).map (·.2) = (sortK ys).map (·.2) := by
  obtain ⟨a1, a2⟩ := sort_snd zs [] .nil
  obtain ⟨b1, b2⟩ := sort_snd ys [] .nil
  exact sorted_eq _ _ a1 b1 (a2.trans (h.trans b2.symm))
end K2

namespace K2
open PySem L2 SX AddrMath PySem.W GR
abbrev sLaw : Stmt := top 22
def spLaw (K : PySem.W.Frag) : Sp := fun vs H Q _ => ∃ (a : Addr) (ns : List Int), vs = [.ref a] ∧ SqL K H a (ns.map V.int) ∧ ns.length ≤ 63 ∧ ∀ H', Q (.bl true) H'
abbrev lawN : List Str := ["_law_script", "_law_pen_here", "_law_turn", "_law_words_here", "_law_plain", "_law_k", "_law_made", "_law_j", "_law_one", "_law_other", "_law_due", "_law_a", "_law_b", "_law_keys", "_law_told", "_law_state", "_law_path"]
theorem scLaw : FnScope lawN ["_law_script"] (defScope sLaw) := ⟨rfl, rfl, rfl, by decide +kernel, rfl, by decide +kernel, by decide +kernel⟩
/-- len(x) of an address -/
def rLenI (C : Addr) (sp : Sp) : List V → Hp → VK → Prop := fun xs H Q => ∃ (a dx : Addr) (fs : List (Str × V)), xs = [.ref a] ∧ H a = some (.ins C dx fs) ∧ sp [.ref a] H (fun z H' => ∃ n : Nat, z = .int (n : Int) ∧ n < 1000000 ∧ Q (.int (n : Int)) H') E0
theorem call_lenI {X : Cx} {C f : Addr} {fd : FuncData} {ps : List Str} {n : Nat} {sp : Sp} (at_ : findIn X.K (.ref C) "__len__" = some (some (.ref f))) (isF : isFn X.K (.ref f) = true)
    (F : FnOk X.prog X.w X.K X.mg X.base CX0 n f fd ps sp) (hb : Binds X.K fd ps []) (room : Room (n + 1) X.A) : CallR X (.builtin "len") (rLenI C sp) := by
  intro pins s σ H xs us Q I r ⟨a, dx, fs, ex, ha, q⟩
  subst ex
  obtain ⟨u, rfl, ru⟩ := r.one
  cases (show u = Value.ref a from ru)
  obtain ⟨_, J, _⟩ := ins_get I.hok ha
  obtain ⟨od, J, _⟩ := J.look
  obtain ⟨m, hF⟩ := I.fr
  refine len_K hF I.ok.mod.kin J at_ isF ?_
  have bs := hb s [.ref a] I.kIn (by rw [List.append_nil]; exact F.len _ _ _ _ q)
  refine wpAny_call (codeAny_mono (F.run X.A.in1 X.stack s H ⟨[.ref a], []⟩ [.ref a] [.ref a] _ E0 room.in1 I.env0.in1 bs (.cons rfl .nil) q) ?_)
  rintro (e | fl) s' h
  · exact (show False from h).elim
  cases fl with
  | next => exact (show False from h).elim
  | brk => exact (show False from h).elim
  | cont => exact (show False from h).elim
  | ret r =>
    obtain ⟨z, H', I', rz, k, ez, hk, qz⟩ := I.after h
    subst ez
    obtain ⟨t, rfl⟩ := (show ∃ t, r = Value.int (k : Int) t from rz)
    exact ⟨⟨by omega, by omega⟩, .int (k : Int), H', I'.tok _, ⟨_, rfl⟩, qz⟩
/-- list(x), the written part by its name -/
def rListK (K : Frag) : List V → Hp → VK → Prop := fun xs H Q => ∃ p ys, xs = [V.ref p] ∧ (SqL K H p ys ∨ SqT K H p ys) ∧ ∀ l, H l = none → Q (.ref l) (upd H l (.lst ys))
theorem call_listK {X : Cx} {K : Frag} (e : X.K = K) : CallR X (.type "list") (rListK K) := by
  subst e
  exact call_list_of
theorem st_go {i : Nat} {v : V} {σ σ' : L2.St} {H : Hp} {Q : L2.St → Hp → Prop} (e : σ.set i (some v) = σ') (h : Q σ' H) : gName i v σ H Q := by
  show Q (σ.set i (some v)) H
  rw [e]
  exact h
/-- a state and a path: where the pair (or the address) stands, where the path stands -/
structure Row where
  p : Addr
  t : Addr
  s : List Nat
  ps : List (List Nat)
def Row.v (r : Row) : V := .ref r.p
def Row.q (r : Row) : KT := kOf r.s r.ps
theorem PlT.but {H H' : Hp} {d c p t : Addr} {s : List Nat} {ps : List (List Nat)} {n : Nat} (h : PlT H p t s ps) (pn : PenAt H d c n) (b : But d H H') : PlT H' p t s ps := by
  obtain ⟨h1, h2, h3⟩ := h
  exact ⟨b _ _ h1 (tup_ne h1 pn), b _ _ h2 (tup_ne h2 pn), h3⟩
theorem PlT.set {H : Hp} {l p t : Addr} {s : List Nat} {ps : List (List Nat)} {xs : List V} {o : HO} (h : PlT H p t s ps) (hl : H l = some (.lst xs)) : PlT (upd H l o) p t s ps := by
  obtain ⟨h1, h2, h3⟩ := h
  exact ⟨by rw [upd_ne (ne_of h1 hl (fun z => by cases z))]; exact h1, by rw [upd_ne (ne_of h2 hl (fun z => by cases z))]; exact h2, h3⟩
theorem AddrT.but {C : Addr} {H H' : Hp} {d c p t : Addr} {s : List Nat} {ps : List (List Nat)} {n : Nat} (h : AddrT C H p t s ps) (pn : PenAt H d c n) (b : But d H H') : AddrT C H' p t s ps := by
  obtain ⟨dx, k, h1, h2, h3⟩ := h
  obtain ⟨_, _, _, e1, _⟩ := id pn
  exact ⟨dx, k, b _ _ h1 (ne_of h1 e1 (fun z => by cases z)), b _ _ h2 (tup_ne h2 pn), b _ _ h3 (tup_ne h3 pn)⟩
theorem AddrT.set {C : Addr} {H : Hp} {l p t : Addr} {s : List Nat} {ps : List (List Nat)} {xs : List V} {o : HO} (h : AddrT C H p t s ps) (hl : H l = some (.lst xs)) : AddrT C (upd H l o) p t s ps := by
  obtain ⟨dx, k, h1, h2, h3⟩ := h
  exact ⟨dx, k, by rw [upd_ne (ne_of h1 hl (fun z => by cases z))]; exact h1, by rw [upd_ne (ne_of h2 hl (fun z => by cases z))]; exact h2, by rw [upd_ne (ne_of h3 hl (fun z => by cases z))]; exact h3⟩
/-- the plain pairs' list at m -/
def PlL (H : Hp) (m : Addr) (rows : List Row) : Prop := H m = some (.lst (rows.map Row.v)) ∧ ∀ r ∈ rows, PlT H r.p r.t r.s r.ps
theorem PlL.but {H H' : Hp} {d c m : Addr} {rows : List Row} {n : Nat} (h : PlL H m rows) (pn : PenAt H d c n) (b : But d H H') : PlL H' m rows := ⟨b _ _ h.1 (lst_ne h.1 pn), fun r hr => (h.2 r hr).but pn b⟩
theorem PlL.keep {H H' : Hp} {m : Addr} {rows : List Row} (h : PlL H m rows) (b : Same H H') : PlL H' m rows := ⟨b _ _ h.1, fun r hr => ⟨b _ _ (h.2 r hr).1, b _ _ (h.2 r hr).2.1, (h.2 r hr).2.2⟩⟩
/-- the addresses' list at m -/
def MdL (C : Addr) (H : Hp) (m : Addr) (rows : List Row) : Prop := H m = some (.lst (rows.map Row.v)) ∧ ∀ r ∈ rows, AddrT C H r.p r.t r.s r.ps
theorem MdL.but {C : Addr} {H H' : Hp} {d c m : Addr} {rows : List Row} {n : Nat} (h : MdL C H m rows) (pn : PenAt H d c n) (b : But d H H') : MdL C H' m rows := ⟨b _ _ h.1 (lst_ne h.1 pn), fun r hr => (h.2 r hr).but pn b⟩
theorem MdL.keep {C : Addr} {H H' : Hp} {m : Addr} {rows : List Row} (h : MdL C H m rows) (b : Same H H') : MdL C H' m rows := ⟨b _ _ h.1, fun r hr => (h.2 r hr).keep b⟩
theorem OrdK.set {C : Addr} {b : Bool} {H : Hp} {x : V} {q : KT} {l : Addr} {xs : List V} {o : HO} (h : OrdK C b H x q) (hl : H l = some (.lst xs)) : OrdK C b (upd H l o) x q := by
  rcases h with ⟨hb, k, t, s, ps, hx, h1, h2, hq⟩ | ⟨hb, a, t, s, ps, hx, h, hq⟩
  · exact .inl ⟨hb, k, t, s, ps, hx, by rw [upd_ne (ne_of h1 hl (fun z => by cases z))]; exact h1, by rw [upd_ne (ne_of h2 hl (fun z => by cases z))]; exact h2, hq⟩
  · exact .inr ⟨hb, a, t, s, ps, hx, h.set hl, hq⟩
theorem hp_is {A : L2.St → Hp → Prop} {σ : L2.St} {H H' : Hp} (e : H = H') (h : A σ H') : A σ H := by rw [e]; exact h
theorem iteF' {c : Bool} {A B : Prop} (h : c = false) (b : B) : if c = true then A else B := by
  rw [h]
  exact iteF b
theorem dec_ne {x y : V} (h : x = y) : (!decide (x = y)) = false := by
  rw [decide_eq_true h]
  rfl
def show6 (b1 b2 b3 b4 b5 b6 : Bool) : Str := (PyData.list [.bool b1, .bool b2, .bool b3, .bool b4, .bool b5, .bool b6]).shown
theorem len6 : ∀ b1 b2 b3 b4 b5 b6 : Bool, (show6 b1 b2 b3 b4 b5 b6).length ≤ 100 := by decide +kernel
theorem repr6 {K : Frag} {A : Around} {H : Hp} {l : Addr} {b1 b2 b3 b4 b5 b6 : Bool} {Q : VK} (hA : ∀ m, m ≤ 64 → A.units + m < cLine) (h : H l = some (.lst [.bl b1, .bl b2, .bl b3, .bl b4, .bl b5, .bl b6])) (q : Q (.str (show6 b1 b2 b3 b4 b5 b6)) H) : rRepr K A [.ref l] H Q :=
  ⟨l, _, rfl, .lst (.inl (.inl h)) (.cons (.bl b1) (.cons (.bl b2) (.cons (.bl b3) (.cons (.bl b4) (.cons (.bl b5) (.cons (.bl b6) .nil)))))), rfl, rfl, hA _ (by show 2 ≤ 64; decide), Nat.le_trans (len6 b1 b2 b3 b4 b5 b6) (by decide), q⟩
theorem perm_lift {α β : Type} (f : α → β) : ∀ (l : List α) (ys : List β), ys.Perm (l.map f) → ∃ l' : List α, l'.Perm l ∧ ys = l'.map f
  | [], ys, h => ⟨[], .refl _, h.eq_nil⟩
  | x :: r, ys, h => by
    have mx : f x ∈ ys := h.mem_iff.mpr (by rw [List.map_cons]; exact List.mem_cons_self)
    obtain ⟨y1, y2, rfl⟩ := List.append_of_mem mx
    have h2 : (y1 ++ y2).Perm (r.map f) := (List.perm_middle.symm.trans h).cons_inv
    obtain ⟨l', h3, h4⟩ := perm_lift f r _ h2
    obtain ⟨l1, l2, rfl, rfl, rfl⟩ := List.append_eq_map_iff.mp h4
    refine ⟨l1 ++ x :: l2, List.perm_middle.trans (h3.cons x), ?_⟩
    rw [List.map_append, List.map_cons]
theorem dp_keys {K : Frag} {C : Addr} {H : Hp} : ∀ zs : List (V × KT), (∀ z ∈ zs, OrdK C true H z.1 z.2) → DpAll K H (zs.map (·.1)) ((zs.map (·.2)).map Datum.toD)
  | [], _ => .nil
  | z :: r, h => by
    refine .cons ?_ (dp_keys r fun y hy => h y (List.mem_cons_of_mem _ hy))
    show Dp K H z.1 (Datum.toD z.2)
    rcases h z List.mem_cons_self with ⟨_, k, t, s, ps, hx, h1, h2, hq⟩ | ⟨hb, _⟩
    · rw [hx, hq]
      exact dp_key (sqt h1) (sqt h2)
    · cases hb
theorem dp_list {K : Frag} {C : Addr} {H : Hp} {l : Addr} {zs : List (V × KT)} (hl : H l = some (.lst (zs.map (·.1)))) (h : ∀ z ∈ zs, OrdK C true H z.1 z.2) : Dp K H (.ref l) (Datum.toD (zs.map (·.2))) := .lst (.inl (.inl hl)) (dp_keys zs h)
theorem sort_mem {α : Type} {zs : List (α × KT)} {y : α × KT} (h : y ∈ sortK zs) : y ∈ zs := by
  have z := (sort_take zs zs.length (Nat.le_refl _)).2
  rw [List.take_length] at z
  exact z y h
theorem sort_len {α : Type} (zs : List (α × KT)) : (sortK zs).length = zs.length := by
  have z := (sort_take zs zs.length (Nat.le_refl _)).1
  rw [List.take_length] at z
  exact z
section
variable {P : Program} {w : World} {K : PySem.W.Frag} {mg : Str → Option Value} {base : Heap}
/-- a comparison of the class, by its name -/
structure Cmp1 (P : Program) (w : World) (K : Frag) (mg : Str → Option Value) (base : Heap) (C : Addr) (x : Str) (r : KT → KT → Bool) where
  f : Addr
  fd : FuncData
  at_ : findIn K (.ref C) x = some (some (.ref f))
  isF : isFn K (.ref f) = true
  ok : FnOk P w K mg base CX0 1 f fd ["self", "other"] (spCmp C r)
  bd : Binds K fd ["self", "other"] []
/-- a def of the row -/
structure Def1 (P : Program) (w : World) (K : Frag) (mg : Str → Option Value) (base : Heap) (x : Str) (n : Nat) (ps : List Str) (sp : Sp) where
  f : Addr
  fd : FuncData
  ok : FnOk P w K mg base CX0 n f fd ps sp
  cd : Cd K mg x f
  bd : Binds K fd ps []
structure Defs (P : Program) (w : World) (K : Frag) (mg : Str → Option Value) (base : Heap) (C : Addr) where
  pen : Def1 P w K mg base "_law_pen" 1 ["_law_script"] (spPen K)
  draw : Def1 P w K mg base "_law_draw" 1 ["_law_pen_here", "_law_many"] spDraw
  pick : Def1 P w K mg base "_law_pick" 2 ["_law_pen_here", "_law_items"] spPick
  shuf : Def1 P w K mg base "_law_shuffled" 2 ["_law_pen_here", "_law_items"] spShuf
  words : Def1 P w K mg base "_law_words" 3 ["_law_pen_here", "_law_many"] spWords
  near : Def1 P w K mg base "_law_near" 3 ["_law_pen_here", "_law_words_here", "_law_one"] spNear
  key : Def1 P w K mg base "_law_key" 1 ["_law_one"] spKey
  order : Def1 P w K mg base "_law_in_order" 2 ["_law_some"] (spOrder C)
  lt : Cmp1 P w K mg base C "__lt__" fun p q => DatumOrd.lt p q
  le : Cmp1 P w K mg base C "__le__" fun p q => !DatumOrd.lt q p
  gt : Cmp1 P w K mg base C "__gt__" fun p q => DatumOrd.lt q p
  ge : Cmp1 P w K mg base C "__ge__" fun p q => !DatumOrd.lt p q
  eq : Cmp1 P w K mg base C "__eq__" fun p q => decide (p = q)
  ne : findIn K (.ref C) "__ne__" = some (some (.builtin "object.__ne__"))
  ob : subIn K (.ref C) (.type "object") = some true
  fInit : Addr
  dInit : FuncData
  mInit : Mk K C fInit
  gInit : FnOk P w K mg base CX0 3 fInit dInit ["self", "state", "path"] (spInit C)
  bInit : Binds K dInit ["self", "state", "path"] []
  fLen : Addr
  dLen : FuncData
  aLen : findIn K (.ref C) "__len__" = some (some (.ref fLen))
  iLen : isFn K (.ref fLen) = true
  gLen : FnOk P w K mg base CX0 1 fLen dLen ["self"] (spLen C)
  bLen : Binds K dLen ["self"] []
theorem ok_law {f C pS fS pP fP : Addr} {fd dS dP : FuncData} (F : Fun K "law" "law" sLaw f fd) (T : ATxt K mg C) (G : Defs P w K mg base C)
    (hS : PropOf K C "state" pS fS) (GS : FnOk P w K mg base CX0 1 fS dS ["self"] (spState C)) (bS : Binds K dS ["self"] []) (hP : PropOf K C "path" pP fP) (GP : FnOk P w K mg base CX0 1 fP dP ["self"] (spPath C)) (bP : Binds K dP ["self"] [])
    (mr : mg "range" = none) (mm : mg "min" = none) (ml : mg "len" = none) (mt : mg "tuple" = none) (mli : mg "list" = none) (mre : mg "repr" = none) : FnQ P w K mg base 7 f fd ["_law_script"] (spLaw K) := by
  refine quiet_fn F scLaw (fun vs H Q E h => ?_) (fun cdv A outer s0 H vs Q E hq hr h => ?_)
  · obtain ⟨a, ns, rfl, _⟩ := h
    rfl
  · obtain ⟨a, ns, rfl, hSc, hlen, q⟩ := h
    have hr1 : Room 1 _ := hr.mono (by decide)
    have hr2 : Room 2 _ := hr.mono (by decide)
    have hr3 : Room 3 _ := hr.mono (by decide)
    have hr4 : Room 4 _ := hr.mono (by decide)
    have hA : ∀ m, m ≤ 64 → (A.deeper (PyProof.Rows.envOfC "law" (defScope sLaw) s0.heap.objs.size f cdv)).units + m < cLine := fun m hm => room_all hm hr.units
    have hu := room_all (m := Datum.depth KT) (k := 64) (by decide) hr.units
    have hu2 := room_all (m := Datum.depth (List KT)) (k := 64) (by decide) hr.units
    refine ⟨_, pss_cons (ps_set (i := 1) scLaw.nd rfl (Or.inr rfl) (pe_call G.pen.ok hr1 (by rfl) G.pen.cd.mg G.pen.cd.kp G.pen.bd .nil pass0 (pa_cons (pv 0) pa_nil)))
      (pss_cons (ps_for PassesOwn.never rfl (pi_range1 (by rfl) mr (pa_cons (pe_op op_add pe_int (pe_callB (call_min2 rfl) (by rfl) mm (by decide +kernel) (pa_cons pe_int (pa_cons (pe_callB call_len_seq (by rfl) ml PySem.boot_len (pa_cons (pv 0) pa_nil)) pa_nil)))) pa_nil)) (pg_name (i := 2) scLaw.nd rfl (Or.inl rfl))
        (pss_cons (ps_set (i := 3) scLaw.nd rfl (Or.inr rfl) (pe_call G.words.ok hr3 (by rfl) G.words.cd.mg G.words.cd.kp G.words.bd .nil pass0 (pa_cons (pv 1) (pa_cons pe_int pa_nil))))
        (pss_cons (ps_set (i := 4) scLaw.nd rfl (Or.inl rfl) (pe_lst (pa_cons (pe_tup (pa_cons (pe_call G.pick.ok hr2 (by rfl) G.pick.cd.mg G.pick.cd.kp G.pick.bd .nil pass0 (pa_cons (pv 1) (pa_cons (pv 3) pa_nil)))
            (pa_cons (pe_callTy call_tuple_of (by rfl) mt (by decide +kernel) (pa_cons (pe_lc (own := [("_law_k", 5)]) (g := gName 5) (tt := tYes) rfl scLaw.nd (pi_range1 (by rfl) mr (pa_cons (pe_call G.draw.ok hr1 (by rfl) G.draw.cd.mg G.draw.cd.kp G.draw.bd .nil pass0 (pa_cons (pv 1) (pa_cons pe_int pa_nil))) pa_nil))
              (blkOk_by (own := [("_law_k", 5)]) (N := lawN) (sc := defScope sLaw) (by decide +kernel)) (fun _ _ _ _ _ => pg_name (i := 5) scLaw.nd rfl (Or.inl rfl)) (fun _ _ _ _ _ => pts_nil)
              (fun _ _ _ _ _ => pe_call G.pick.ok hr2 (by rfl) G.pick.cd.mg G.pick.cd.kp G.pick.bd .nil pass0 (pa_cons (pv 1) (pa_cons (pv 3) pa_nil)))) pa_nil)) pa_nil))) pa_nil)))
        (pss_cons (ps_for PassesOwn.never rfl (pi_range1 (by rfl) mr (pa_cons pe_int pa_nil)) (pg_name (i := 5) scLaw.nd rfl (Or.inl rfl))
          (pss_one (ps_expr (pe_bm PySem.F.plainAttrs_list PySem.F.slot_list_append PySem.F.type_list_append mt_append (pv 4)
            (pa_cons (pe_call G.near.ok hr3 (by rfl) G.near.cd.mg G.near.cd.kp G.near.bd .nil pass0 (pa_cons (pv 1) (pa_cons (pv 3) (pa_cons (pe_call G.pick.ok hr2 (by rfl) G.pick.cd.mg G.pick.cd.kp G.pick.bd .nil pass0 (pa_cons (pv 1) (pa_cons (pv 4) pa_nil))) pa_nil)))) pa_nil)))))
        (pss_cons (ps_setLc (i := 6) (own := [("_law_state", 15), ("_law_path", 16)]) (g := gTup K 2 (gCons (gName 15) (gCons (gName 16) gNil))) (tt := tYes) rfl scLaw.nd rfl rfl (sw_true rfl rfl rfl (by decide +kernel)) (pi_list (pv 4))
            (blkOk_by (own := [("_law_state", 15), ("_law_path", 16)]) (N := lawN) (sc := defScope sLaw) (by decide +kernel)) (fun _ _ _ _ _ => pg_tup (by rfl) (pgs_cons (pg_name (i := 15) scLaw.nd rfl (Or.inl rfl)) (pgs_cons (pg_name (i := 16) scLaw.nd rfl (Or.inl rfl)) pgs_nil))) (fun _ _ _ _ _ => pts_nil)
            (fun _ _ _ _ _ => pe_make G.mInit G.gInit hr4 (by rfl) T.mgC G.bInit .nil pass0 (pa_cons (pv 15) (pa_cons (pe_callTy (call_listK (K := K) rfl) (by rfl) mli PyProof.Rows.boot_list (pa_cons (pv 16) pa_nil)) pa_nil))))
        (pss_cons (ps_for PassesOwn.never rfl (pi_range1 (by rfl) mr (pa_cons (pe_callB call_len_seq (by rfl) ml PySem.boot_len (pa_cons (pv 4) pa_nil)) pa_nil)) (pg_name (i := 5) scLaw.nd rfl (Or.inl rfl))
          (pss_one (ps_for PassesOwn.never rfl (pi_range1 (by rfl) mr (pa_cons (pe_callB call_len_seq (by rfl) ml PySem.boot_len (pa_cons (pv 4) pa_nil)) pa_nil)) (pg_name (i := 7) scLaw.nd rfl (Or.inl rfl))
            (pss_cons (ps_par (by rfl) scLaw.nd (i := 8) (j := 9) rfl rfl (by decide) rfl rfl (pa_cons (pe_call G.key.ok hr1 (by rfl) G.key.cd.mg G.key.cd.kp G.key.bd .nil pass0 (pa_cons (pe_ix ix_list (pv 4) (pv 5) (fun _ _ => rfl)) pa_nil))
                (pa_cons (pe_call G.key.ok hr1 (by rfl) G.key.cd.mg G.key.cd.kp G.key.bd .nil pass0 (pa_cons (pe_ix ix_list (pv 4) (pv 7) (fun _ _ => rfl)) pa_nil)) pa_nil)) (by rfl))
            (pss_cons (ps_set (i := 10) scLaw.nd rfl (Or.inl rfl) (pe_lst (pa_cons (pe_cmpR (opd_lt (α := KT) hu) (pv 8) (pv 9) (nomark _)) (pa_cons (pe_cmpR (opd_le (α := KT) hu) (pv 8) (pv 9) (nomark _)) (pa_cons (pe_cmpR (opd_gt (α := KT) hu) (pv 8) (pv 9) (nomark _))
                (pa_cons (pe_cmpR (opd_ge (α := KT) hu) (pv 8) (pv 9) (nomark _)) (pa_cons (pe_cmpR (opd_eq (α := KT) hu) (pv 8) (pv 9) (nomark _)) (pa_cons (pe_cmpR (opd_ne (α := KT) hu) (pv 8) (pv 9) (nomark _)) pa_nil))))))))
            (pss_cons (ps_par (by rfl) scLaw.nd (i := 11) (j := 12) rfl rfl (by decide) rfl rfl (pa_cons (pe_ix ix_list (pv 6) (pv 5) (fun _ _ => rfl)) (pa_cons (pe_ix ix_list (pv 6) (pv 7) (fun _ _ => rfl)) pa_nil)) (by rfl))
            (pss_one (ps_if (pt_cmpR op_ne
              (pe_callB (call_reprD hq) (by rfl) mre (by decide +kernel) (pa_cons (pe_lst (pa_cons (pe_cmpR (own_cmp (C := C) (op := .Lt) (fun _ _ => rfl) G.lt.at_ G.lt.isF G.lt.ok G.lt.bd hr1) (pv 11) (pv 12) (nomark _)) (pa_cons (pe_cmpR (own_cmp (C := C) (op := .LtE) (fun _ _ => rfl) G.le.at_ G.le.isF G.le.ok G.le.bd hr1) (pv 11) (pv 12) (nomark _))
                (pa_cons (pe_cmpR (own_cmp (C := C) (op := .Gt) (fun _ _ => rfl) G.gt.at_ G.gt.isF G.gt.ok G.gt.bd hr1) (pv 11) (pv 12) (nomark _)) (pa_cons (pe_cmpR (own_cmp (C := C) (op := .GtE) (fun _ _ => rfl) G.ge.at_ G.ge.isF G.ge.ok G.ge.bd hr1) (pv 11) (pv 12) (nomark _))
                (pa_cons (pe_cmpR (own_cmp (C := C) (op := .Eq) (fun _ _ => rfl) G.eq.at_ G.eq.isF G.eq.ok G.eq.bd hr1) (pv 11) (pv 12) (nomark _)) (pa_cons (pe_cmpR (own_ne (C := C) G.eq.at_ G.eq.isF G.ne G.ob G.eq.ok G.eq.bd hr2) (pv 11) (pv 12) (nomark _)) pa_nil))))))) pa_nil))
              (pe_callB (call_reprD hq) (by rfl) mre (by decide +kernel) (pa_cons (pv 10) pa_nil)) (nomark _)) (pss_one (ps_ret pe_bl)) pss_nil))))))))
        (pss_cons (ps_set (i := 13) scLaw.nd rfl (Or.inl rfl) (pe_call G.order.ok hr2 (by rfl) G.order.cd.mg G.order.cd.kp G.order.bd .nil pass0 (pa_cons (pe_lc (own := [("_law_one", 8)]) (g := gName 8) (tt := tYes) rfl scLaw.nd (pi_list (pv 4))
            (blkOk_by (own := [("_law_one", 8)]) (N := lawN) (sc := defScope sLaw) (by decide +kernel)) (fun _ _ _ _ _ => pg_name (i := 8) scLaw.nd rfl (Or.inl rfl)) (fun _ _ _ _ _ => pts_nil)
            (fun _ _ _ _ _ => pe_call G.key.ok hr1 (by rfl) G.key.cd.mg G.key.cd.kp G.key.bd .nil pass0 (pa_cons (pv 8) pa_nil))) pa_nil)))
        (pss_cons (ps_set (i := 14) scLaw.nd rfl (Or.inl rfl) (pe_call G.order.ok hr2 (by rfl) G.order.cd.mg G.order.cd.kp G.order.bd .nil pass0 (pa_cons (pe_call G.shuf.ok hr2 (by rfl) G.shuf.cd.mg G.shuf.cd.kp G.shuf.bd .nil pass0 (pa_cons (pv 1) (pa_cons (pv 6) pa_nil))) pa_nil)))
        (pss_one (ps_if (pt_cmpR (opd_ne (α := List KT) hu2) (pe_lc (own := [("_law_one", 8)]) (g := gName 8) (tt := tYes) rfl scLaw.nd (pi_list (pv 14))
            (blkOk_by (own := [("_law_one", 8)]) (N := lawN) (sc := defScope sLaw) (by decide +kernel)) (fun _ _ _ _ _ => pg_name (i := 8) scLaw.nd rfl (Or.inl rfl)) (fun _ _ _ _ _ => pts_nil)
            (fun _ _ _ _ _ => pe_tup (pa_cons (pe_callB (call_lenI (C := C) G.aLen G.iLen G.gLen G.bLen hr2) (by rfl) ml PySem.boot_len (pa_cons (pv 8) pa_nil)) (pa_cons (pe_prop (pv 8) T.cl hS GS hr2 bS .nil pass0 (by rfl)) (pa_cons (pe_prop (pv 8) T.cl hP GP hr2 bP .nil pass0 (by rfl)) pa_nil))))) (pv 13) (nomark _))
          (pss_one (ps_ret pe_bl)) pss_nil))))))))))
      (pss_one (ps_ret pe_bl))), ?_⟩
    -- pen
    refine ⟨_, rfl, a, ns, rfl, hSc, hlen, fun d c H1 p1 s1 nd => st_go (σ' := [some (.ref a), some (.ref d), none, none, none, none, none, none, none, none, none, none, none, none, none, none, none]) rfl ?_⟩
    have hS1 := s1.seq hSc
    obtain ⟨N, eN, hN⟩ : ∃ N : Nat, ((3 : Int) + if (((ns.map V.int).length : Nat) : Int) < 3 then (((ns.map V.int).length : Nat) : Int) else 3) = (N : Int) ∧ N ≤ 6 := by
      by_cases h : (((ns.map V.int).length : Nat) : Int) < 3
      · rw [if_pos h]
        exact ⟨3 + (ns.map V.int).length, by omega, by omega⟩
      · rw [if_neg h]
        exact ⟨6, rfl, Nat.le_refl _⟩
    refine ⟨_, rfl, a, _, rfl, .inl hS1, _, _, rfl, _, _, rfl, rfl, (N : Int), congrArg (fun z => [V.int z]) eN, by omega, by omega, ?_⟩
    refine for_range (n := N) (fun i σ H' => ∃ v2 v3 v4 v5 v6 v7 v8 v9 v10 v11 v12 v13 v14 : Option V, σ = [some (.ref a), some (.ref d), v2, v3, v4, v5, v6, v7, v8, v9, v10, v11, v12, v13, v14, none, none] ∧ PenAt H' d c (100 * i))
      ⟨none, none, none, none, none, none, none, none, none, none, none, none, none, rfl, p1⟩ ?_ ?_
    · rintro i σ H2 hi ⟨v2, v3, v4, v5, v6, v7, v8, v9, v10, v11, v12, v13, v14, rfl, p2⟩
      refine ⟨_, rfl, d, c, 100 * i, 5, rfl, p2, by omega, by decide, fun W ws H3 hwl hww hW nW p3 b3 => st_go (σ' := [some (.ref a), some (.ref d), some (.int (0 + (i : Int))), some (.ref W), v4, v5, v6, v7, v8, v9, v10, v11, v12, v13, v14, none, none]) rfl ?_⟩
      have hWp : 0 < (wV ws).length := by rw [List.length_map, hwl]; decide
      have hWl : (wV ws).length < 1000000 := by rw [List.length_map, hwl]; decide
      have hWm : ∀ v ∈ wV ws, ∃ x, v = V.str (S x) ∧ isW x = true := fun v hv => by
        obtain ⟨x, hx, rfl⟩ := List.mem_map.mp hv
        exact ⟨x, rfl, hww x hx⟩
      -- plain
      refine ⟨_, rfl, _, rfl, d, c, _, _, rfl, p3, by omega, .inl ⟨W, _, rfl, hW, hWp, hWl, fun v H4 hv p4 b4 => ?_⟩⟩
      obtain ⟨s, rfl, hs⟩ := hWm v hv
      have hW4 := b4 _ _ hW (lst_ne hW p3)
      refine ⟨_, rfl, d, c, _, 5, rfl, p4, by omega, by decide, by decide, fun j H5 hj0 hj1 p5 b5 => ?_⟩
      obtain ⟨jn, rfl⟩ : ∃ k : Nat, j = (k : Int) := ⟨j.toNat, by omega⟩
      have hW5 := b5 _ _ hW4 (lst_ne hW4 p4)
      refine ⟨(jn : Int), rfl, by omega, by omega, fun D hD => ?_⟩
      refine lc_range (lo := 0) (n := jn) (fun k H' => PenAt H' d c (100 * i + 10 + 1 + 1 + k) ∧ H' W = some (.lst (wV ws)) ∧ ∃ ps : List (List Nat), H' D = some (.lst (wV ps)) ∧ ps.length = k ∧ ∀ x ∈ ps, isW x = true)
        ⟨p5.keep (same_new hD), same_new hD _ _ hW5, [], upd_same, rfl, fun x hx => by cases hx⟩ ?_ ?_
      · rintro k H' hk ⟨p6, hW6, ps, hps, hpl, hpw⟩
        have hDW : D ≠ W := fun z => by
          rw [z] at hD
          rw [hD] at hW5
          cases hW5
        have hDd : D ≠ d := fun z => p5.ne (by rw [← z]; exact hD)
        have hDc : D ≠ c := fun z => p5.neC (by rw [← z]; exact hD)
        refine ⟨rfl, _, rfl, _, rfl, d, c, _, _, rfl, p6, by omega, .inl ⟨W, _, rfl, hW6, hWp, hWl, fun v H7 hv p7 b7 => ?_⟩⟩
        obtain ⟨x, rfl, hx⟩ := hWm v hv
        refine ⟨_, b7 _ _ hps hDd, by rw [List.length_map]; exact size_lt (by omega), (p7.mono (by omega)).put hDd hDc, ?_, ps ++ [x], ?_, ?_, all_words hpw hx⟩
        · rw [upd_ne hDW.symm]
          exact b7 _ _ hW6 (lst_ne hW6 p6)
        · rw [upd_same]
          show _ = some (HO.lst (List.map _ (_ ++ _)))
          rw [List.map_append]
          rfl
        · rw [List.length_append, hpl]
          rfl
      · rintro H6 ⟨p6, hW6, ps, hps, hpl, hpw⟩
        refine ⟨D, _, rfl, .inl ⟨.inl (.inl hps), fun t nt => ?_⟩⟩
        refine ⟨by show 2 ≤ sizeLine; decide, fun e ne => ⟨by show 1 ≤ sizeLine; decide, fun pl npl => ?_⟩⟩
        have sE : Same H6 (upd (upd (upd H6 t (.tup (wV ps))) e (.tup [.str (S s), .ref t])) pl (.lst [.ref e])) := ((same_new nt).trans (same_new ne)).trans (same_new npl)
        have t2 : upd (upd (upd H6 t (.tup (wV ps))) e (.tup [.str (S s), .ref t])) pl (.lst [.ref e]) t = some (.tup (wV ps)) := same_new npl _ _ (same_new ne _ _ upd_same)
        have e2 : upd (upd (upd H6 t (.tup (wV ps))) e (.tup [.str (S s), .ref t])) pl (.lst [.ref e]) e = some (.tup [.str (S s), .ref t]) := same_new npl _ _ upd_same
        have l2 : upd (upd (upd H6 t (.tup (wV ps))) e (.tup [.str (S s), .ref t])) pl (.lst [.ref e]) pl = some (.lst [.ref e]) := upd_same
        have fpl : H6 pl = none := (upd_none (upd_none npl).2).2
        refine st_go (σ' := [some (.ref a), some (.ref d), some (.int (0 + (i : Int))), some (.ref W), some (.ref pl), v5, v6, v7, v8, v9, v10, v11, v12, v13, v14, none, none]) rfl ?_
        have p7 := (p6.mono (show 100 * i + 10 + 1 + 1 + jn ≤ 100 * i + 20 by omega)).keep sE
        have hW7 := sE _ _ hW6
        have hpd : pl ≠ d := fun z => p6.ne (by rw [← z]; exact fpl)
        have hpc : pl ≠ c := fun z => p6.neC (by rw [← z]; exact fpl)
        have hpW : W ≠ pl := fun z => by
          rw [z, fpl] at hW6
          cases hW6
        have L0 : PlL (upd (upd (upd H6 t (.tup (wV ps))) e (.tup [.str (S s), .ref t])) pl (.lst [.ref e])) pl [⟨e, t, s, ps⟩] := ⟨l2, fun r hr => by
          rw [List.mem_singleton.mp hr]
          exact ⟨e2, t2, hs, hpw, by show ps.length ≤ 100; omega⟩⟩
        generalize upd (upd (upd H6 t (.tup (wV ps))) e (.tup [.str (S s), .ref t])) pl (.lst [.ref e]) = H7 at p7 hW7 L0 ⊢
        clear sE t2 e2 l2 hps p6 hD p5 b5 p4 b4 hW4 hW5 p3 b3 p2 hW nW nt ne npl fpl hW6
        -- six more
        refine ⟨6, rfl, by decide, by decide, for_range (n := 6) (fun k σ H' => ∃ v5 : Option V, σ = [some (.ref a), some (.ref d), some (.int (0 + (i : Int))), some (.ref W), some (.ref pl), v5, v6, v7, v8, v9, v10, v11, v12, v13, v14, none, none] ∧ PenAt H' d c (100 * i + 20 + 4 * k) ∧ H' W = some (.lst (wV ws)) ∧
          ∃ rows, PlL H' pl rows ∧ rows.length = k + 1 ∧ ∀ r ∈ rows, r.ps.length ≤ 4 + k) ⟨v5, rfl, p7, hW7, [⟨e, t, s, ps⟩], L0, rfl, fun r hr => by rw [List.mem_singleton.mp hr]; show ps.length ≤ 4 + 0; omega⟩ ?_ ?_⟩
        · rintro k σ H8 hk ⟨v5', rfl, p8, hW8, rows, L8, hrl, hrp⟩
          refine ⟨_, rfl, .inl ⟨rfl, _, .inl (.inl L8.1)⟩, _, rfl, _, rfl, _, rfl, _, rfl, d, c, _, _, rfl, p8, by omega, .inl ⟨pl, _, rfl, L8.1, by rw [List.length_map]; omega, by rw [List.length_map]; omega, fun v H9 hv p9 b9 => ?_⟩⟩
          obtain ⟨r, hr, rfl⟩ := List.mem_map.mp hv
          have L9 := L8.but p8 b9
          have hW9 := b9 _ _ hW8 (lst_ne hW8 p8)
          have hrk := hrp r hr
          refine ⟨d, c, W, r.p, r.t, _, ws, r.ps, r.s, rfl, p9, by omega, hW9, by omega, by omega, hww, L9.2 r hr, by omega, fun o' t' s' ps' H10 pt' pl' p10 b10 od' => ?_⟩
          have L10 := L9.but p9 b10
          refine ⟨pl, _, _, rfl, rfl, L10.1, by rw [List.length_map]; exact size_lt (by omega), ?_⟩
          refine ⟨_, rfl, (p10.mono (show 100 * i + 20 + 4 * k + 1 + 3 ≤ 100 * i + 20 + 4 * (k + 1) by omega)).put hpd hpc, ?_, rows ++ [⟨o', t', s', ps'⟩], ⟨?_, fun r' hr' => ?_⟩, ?_, fun r' hr' => ?_⟩
          · rw [upd_ne hpW]
            exact b10 _ _ hW9 (lst_ne hW9 p9)
          · rw [upd_same, List.map_append]
            rfl
          · rcases List.mem_append.mp hr' with h | h
            · exact (L10.2 r' h).set L10.1
            · rw [List.mem_singleton.mp h]
              exact pt'.set L10.1
          · rw [List.length_append, hrl]
            rfl
          · rcases List.mem_append.mp hr' with h | h
            · have := hrp r' h
              omega
            · rw [List.mem_singleton.mp h]
              show ps'.length ≤ _
              omega
        · rintro σ H8 ⟨v5', rfl, p8, hW8, rows, L8, hrl, hrp⟩
          -- made
          refine ⟨_, rfl, pl, rfl, ⟨_, .inl (.inl L8.1)⟩, fun M hM => ?_⟩
          refine lc_list (K := K) (a := pl) (xs := rows.map Row.v) (fun k H' => Same H8 H' ∧ ∃ ms : List Row, H' M = some (.lst (ms.map Row.v)) ∧ ms.length = k ∧ (∀ r ∈ ms, AddrT C H' r.p r.t r.s r.ps ∧ r.ps.length ≤ 100) ∧ ms.map Row.q = (rows.take k).map Row.q)
            ⟨same_new hM, [], upd_same, rfl, (fun r hr => by cases hr), rfl⟩ (fun k H' _ z => .inl (.inl (z.1 _ _ L8.1))) ?_ ?_
          · rintro k x H' hx ⟨sm, ms, hms, hml, hma, hmq⟩
            have hk : k < rows.length := by
              have z := (List.getElem?_eq_some_iff.mp hx).1
              rwa [List.length_map] at z
            have ex : x = rows[k].v := by
              rw [List.getElem?_map, List.getElem?_eq_getElem hk] at hx
              exact (Option.some.inj hx).symm
            subst ex
            obtain ⟨g1, g2, g3, g4, g5⟩ := L8.2 _ (List.getElem_mem hk)
            refine ⟨_, _, rfl, sqt (sm _ _ g1), rfl, _, _, rfl, _, _, rfl, rfl, rfl, ?_⟩
            refine ⟨_, rfl, _, rfl, _, _, rfl, .inr (sqt (sm _ _ g2)), fun l nl => ?_⟩
            have hl9 : (upd H' l (.lst (wV rows[k].ps))) l = some (.lst (wV rows[k].ps)) := upd_same
            have sl : Same H' (upd H' l (.lst (wV rows[k].ps))) := same_new nl
            generalize upd H' l (.lst (wV rows[k].ps)) = H9 at hl9 sl ⊢
            intro x dx nx ndx nex
            have s9 : Same H9 (upd (upd H9 dx (.own x)) x (.ins C dx [])) := fun b o e => by
              rw [upd_ne (ne_of_none e nx), upd_ne (ne_of_none e ndx)]
              exact e
            refine ⟨x, dx, l, rows[k].s, rows[k].ps, rfl, upd_same, g3, s9 _ _ hl9, by omega, g4, fun H10 t2 A2 nt2 kp => ⟨rfl, ?_⟩⟩
            have s10 : Same H' H10 := fun b o e => kp b o (s9 _ _ (sl _ _ e)) (ne_of_none (sl _ _ e) nx)
            have hM10 := s10 _ _ hms
            refine ⟨_, hM10, by rw [List.length_map]; exact size_lt (by omega), ?_, ms ++ [⟨x, t2, rows[k].s, rows[k].ps⟩], ?_, ?_, ?_, ?_⟩
            · exact fun b o e => by rw [upd_ne (ne_of_none e hM)]; exact s10 _ _ (sm _ _ e)
            · rw [upd_same, List.map_append]
              rfl
            · rw [List.length_append, hml]
              rfl
            · intro r hr
              rcases List.mem_append.mp hr with h | h
              · exact ⟨((hma r h).1.keep s10).set hM10, (hma r h).2⟩
              · rw [List.mem_singleton.mp h]
                exact ⟨A2.set hM10, g5⟩
            · rw [List.map_append, hmq, List.take_succ_eq_append_getElem hk, List.map_append]
              rfl
          · rintro H9 ⟨sm, ms, hms, hml, hma, hmq⟩
            rw [List.length_map] at hml hmq
            rw [List.take_length] at hmq
            refine st_go (σ' := [some (.ref a), some (.ref d), some (.int (0 + (i : Int))), some (.ref W), some (.ref pl), v5', some (.ref M), v7, v8, v9, v10, v11, v12, v13, v14, none, none]) rfl ?_
            have p9 := p8.keep sm
            have L9 := L8.keep sm
            have M9 : MdL C H9 M ms := ⟨hms, fun r hr => (hma r hr).1⟩
            have ms100 : ∀ r ∈ ms, r.ps.length ≤ 100 := fun r hr => (hma r hr).2
            clear hma sm hM hms L8 p8 hW8
            have atR : ∀ k, (h : k < rows.length) → (rows.map Row.v)[k]? = some rows[k].v := fun k h => by rw [List.getElem?_map, List.getElem?_eq_getElem h]; rfl
            have atM : ∀ k, (h : k < ms.length) → (ms.map Row.v)[k]? = some ms[k].v := fun k h => by rw [List.getElem?_map, List.getElem?_eq_getElem h]; rfl
            have keyEq : ∀ k, (h : k < rows.length) → (h2 : k < ms.length) → ms[k].q = rows[k].q := fun k h h2 => by
              have z := congrArg (fun l => l[k]?) hmq
              rw [List.getElem?_map, List.getElem?_map, List.getElem?_eq_getElem h, List.getElem?_eq_getElem h2] at z
              exact Option.some.inj z
            -- all pairs
            refine ⟨_, rfl, pl, _, rfl, .inl (.inl (.inl L9.1)), ((rows.map Row.v).length : Int), rfl, by omega, by rw [List.length_map]; omega, ?_⟩
            refine for_range (n := (rows.map Row.v).length) (fun k σ H' => ∃ v5 v7 v8 v9 v10 v11 v12 : Option V, σ = [some (.ref a), some (.ref d), some (.int (0 + (i : Int))), some (.ref W), some (.ref pl), v5, some (.ref M), v7, v8, v9, v10, v11, v12, v13, v14, none, none] ∧ Same H9 H')
              ⟨v5', v7, v8, v9, v10, v11, v12, rfl, Same.refl H9⟩ ?_ ?_
            · rintro k σ H10 hk ⟨v5, v7, v8, v9, v10, v11, v12, rfl, s10⟩
              rw [List.length_map] at hk
              refine st_go (σ' := [some (.ref a), some (.ref d), some (.int (0 + (i : Int))), some (.ref W), some (.ref pl), some (.int (k : Int)), some (.ref M), v7, v8, v9, v10, v11, v12, v13, v14, none, none]) (by rw [Int.zero_add (k : Int)]; rfl) ?_
              refine ⟨_, rfl, pl, _, rfl, .inl (.inl (.inl (L9.keep s10).1)), ((rows.map Row.v).length : Int), rfl, by omega, by rw [List.length_map]; omega, ?_⟩
              refine for_range (n := (rows.map Row.v).length) (fun j σ H' => ∃ v7 v8 v9 v10 v11 v12 : Option V, σ = [some (.ref a), some (.ref d), some (.int (0 + (i : Int))), some (.ref W), some (.ref pl), some (.int (k : Int)), some (.ref M), v7, v8, v9, v10, v11, v12, v13, v14, none, none] ∧ Same H9 H')
                ⟨v7, v8, v9, v10, v11, v12, rfl, s10⟩ ?_ ?_
              · rintro j σ H11 hj ⟨v7, v8, v9, v10, v11, v12, rfl, s11⟩
                rw [List.length_map] at hj
                refine st_go (σ' := [some (.ref a), some (.ref d), some (.int (0 + (i : Int))), some (.ref W), some (.ref pl), some (.int (k : Int)), some (.ref M), some (.int (j : Int)), v8, v9, v10, v11, v12, v13, v14, none, none]) (by rw [Int.zero_add (j : Int)]; rfl) ?_
                have L11 := L9.keep s11
                have PK := L11.2 _ (List.getElem_mem hk)
                refine ⟨_, rfl, _, rfl, pl, _, (k : Int), rows[k].v, rfl, rfl, .inl (.inl L11.1), atI_nat (atR k hk), rows[k].p, rows[k].t, rows[k].s, rows[k].ps, rfl, PK, fun k1 H12 e1 s12 n1 => ?_⟩
                have L12 := L11.keep s12
                have PJ := L12.2 _ (List.getElem_mem hj)
                refine ⟨_, rfl, _, rfl, pl, _, (j : Int), rows[j].v, rfl, rfl, .inl (.inl L12.1), atI_nat (atR j hj), rows[j].p, rows[j].t, rows[j].s, rows[j].ps, rfl, PJ, fun k2 H13 e2 s13 n2 => ⟨_, _, rfl, ?_⟩⟩
                refine st_is (σ' := [some (.ref a), some (.ref d), some (.int (0 + (i : Int))), some (.ref W), some (.ref pl), some (.int (k : Int)), some (.ref M), some (.int (j : Int)), some (.ref k1), some (.ref k2), v10, v11, v12, v13, v14, none, none]) rfl ?_
                have D1 : Dp K H13 (.ref k1) (Datum.toD rows[k].q) := dp_key (sqt (s13 _ _ e1)) (sqt (s13 _ _ (s12 _ _ PK.2.1)))
                have D2 : Dp K H13 (.ref k2) (Datum.toD rows[j].q) := dp_key (sqt e2) (sqt (s13 _ _ PJ.2.1))
                have s14 : Same H9 H13 := (s11.trans s12).trans s13
                refine ⟨_, rfl, _, rfl, _, _, D1, D2, _, rfl, _, rfl, _, _, D1, D2, _, rfl, _, rfl, _, _, D1, D2, _, rfl, _, rfl, _, _, D1, D2, _, rfl, _, rfl, _, _, D1, D2, _, rfl, _, rfl, _, _, D1, D2, by show 6 ≤ sizeLine; decide, fun du ndu => ?_⟩
                refine st_go (σ' := [some (.ref a), some (.ref d), some (.int (0 + (i : Int))), some (.ref W), some (.ref pl), some (.int (k : Int)), some (.ref M), some (.int (j : Int)), some (.ref k1), some (.ref k2), some (.ref du), v11, v12, v13, v14, none, none]) rfl ?_
                have hk' : k < ms.length := by omega
                have hj' : j < ms.length := by omega
                have kk := keyEq k hk hk'
                have kj := keyEq j hj hj'
                have hdu := upd_same (H := H13) (a := du) (o := .lst [.bl (DatumOrd.lt rows[k].q rows[j].q), .bl (!DatumOrd.lt rows[j].q rows[k].q), .bl (DatumOrd.lt rows[j].q rows[k].q), .bl (!DatumOrd.lt rows[k].q rows[j].q), .bl (decide (rows[k].q = rows[j].q)), .bl (decide (rows[k].q ≠ rows[j].q))])
                have s15 : Same H9 (upd H13 du (.lst [.bl (DatumOrd.lt rows[k].q rows[j].q), .bl (!DatumOrd.lt rows[j].q rows[k].q), .bl (DatumOrd.lt rows[j].q rows[k].q), .bl (!DatumOrd.lt rows[k].q rows[j].q), .bl (decide (rows[k].q = rows[j].q)), .bl (decide (rows[k].q ≠ rows[j].q))])) := s14.trans (same_new ndu)
                refine hp_is (H' := upd H13 du (.lst [.bl (DatumOrd.lt rows[k].q rows[j].q), .bl (!DatumOrd.lt rows[j].q rows[k].q), .bl (DatumOrd.lt rows[j].q rows[k].q), .bl (!DatumOrd.lt rows[k].q rows[j].q), .bl (decide (rows[k].q = rows[j].q)), .bl (decide (rows[k].q ≠ rows[j].q))])) rfl ?_
                generalize upd H13 du _ = H14 at hdu s15 ⊢
                have MM := M9.keep s15
                have A1 := MM.2 _ (List.getElem_mem hk')
                have A2 := MM.2 _ (List.getElem_mem hj')
                obtain ⟨dx, _, g1, _⟩ := id A1
                obtain ⟨dy, _, g2, _⟩ := id A2
                refine ⟨_, rfl, _, rfl, M, _, (k : Int), ms[k].v, rfl, rfl, .inl (.inl MM.1), atI_nat (atM k hk'), _, rfl, _, rfl, M, _, (j : Int), ms[j].v, rfl, rfl, .inl (.inl MM.1), atI_nat (atM j hj'), _, _, rfl, ?_⟩
                refine st_is (σ' := [some (.ref a), some (.ref d), some (.int (0 + (i : Int))), some (.ref W), some (.ref pl), some (.int (k : Int)), some (.ref M), some (.int (j : Int)), some (.ref k1), some (.ref k2), some (.ref du), some ms[k].v, some ms[j].v, v13, v14, none, none]) rfl ?_
                refine ⟨_, rfl, _, rfl, ms[k].p, ms[j].p, dx, dy, _, _, rfl, rfl, g1, g2, ms[k].p, ms[j].p, ms[k].t, ms[j].t, ms[k].s, ms[j].s, ms[k].ps, ms[j].ps, rfl, A1, A2, _, rfl, _, rfl, ms[k].p, ms[j].p, dx, dy, _, _, rfl, rfl, g1, g2, ms[k].p, ms[j].p, ms[k].t, ms[j].t, ms[k].s, ms[j].s, ms[k].ps, ms[j].ps, rfl, A1, A2, _, rfl, _, rfl, ms[k].p, ms[j].p, dx, dy, _, _, rfl, rfl, g1, g2, ms[k].p, ms[j].p, ms[k].t, ms[j].t, ms[k].s, ms[j].s, ms[k].ps, ms[j].ps, rfl, A1, A2, _, rfl, _, rfl, ms[k].p, ms[j].p, dx, dy, _, _, rfl, rfl, g1, g2, ms[k].p, ms[j].p, ms[k].t, ms[j].t, ms[k].s, ms[j].s, ms[k].ps, ms[j].ps, rfl, A1, A2, _, rfl, _, rfl, ms[k].p, ms[j].p, dx, dy, _, _, rfl, rfl, g1, g2, ms[k].p, ms[j].p, ms[k].t, ms[j].t, ms[k].s, ms[j].s, ms[k].ps, ms[j].ps, rfl, A1, A2, _, rfl, _, rfl, ms[k].p, ms[j].p, dx, dy, _, _, rfl, rfl, g1, g2, ms[k].p, ms[j].p, ms[k].t, ms[j].t, ms[k].s, ms[j].s, ms[k].ps, ms[j].ps, rfl, A1, A2, _, rfl, by show 6 ≤ sizeLine; decide, fun l nl => ?_⟩
                unfold tNil
                refine repr6 hA upd_same ?_
                refine ⟨_, rfl, ?_⟩
                refine repr6 hA (same_new nl _ _ hdu) ?_
                refine ⟨rfl, _, rfl, iteF' (dec_ne (congrArg V.str ?_)) ?_⟩
                · show show6 (DatumOrd.lt ms[k].q ms[j].q) (!DatumOrd.lt ms[j].q ms[k].q) (DatumOrd.lt ms[j].q ms[k].q) (!DatumOrd.lt ms[k].q ms[j].q) (decide (ms[k].q = ms[j].q)) (!decide (ms[k].q = ms[j].q)) = _
                  rw [kk, kj]
                  congr 1
                  exact (decide_not).symm
                · exact ⟨_, _, _, _, _, _, rfl, s15.trans (same_new nl)⟩
              · rintro σ H11 ⟨v7, v8, v9, v10, v11, v12, rfl, s11⟩
                exact ⟨_, _, _, _, _, _, _, rfl, s11⟩
            · rintro σ H10 ⟨v5, v7, v8, v9, v10, v11, v12, rfl, s10⟩
              -- keys
              have L10 := L9.keep s10
              refine ⟨_, rfl, pl, rfl, ⟨_, .inl (.inl L10.1)⟩, fun B hB => ?_⟩
              refine lc_list (K := K) (a := pl) (xs := rows.map Row.v) (fun k H' => Same H10 H' ∧ ∃ zs : List (V × KT), H' B = some (.lst (zs.map (·.1))) ∧ zs.length = k ∧ (∀ z ∈ zs, OrdK C true H' z.1 z.2) ∧ zs.map (·.2) = (rows.take k).map Row.q)
                ⟨same_new hB, [], upd_same, rfl, (fun r hr => by cases hr), rfl⟩ (fun k H' _ z => .inl (.inl (z.1 _ _ L10.1))) ?_ ?_
              · rintro k x H' hx ⟨sm, zs, hzs, hzl, hza, hzq⟩
                have hk : k < rows.length := by
                  have z := (List.getElem?_eq_some_iff.mp hx).1
                  rwa [List.length_map] at z
                have ex : x = rows[k].v := by
                  rw [atR k hk] at hx
                  exact (Option.some.inj hx).symm
                subst ex
                have PK := (L10.keep sm).2 _ (List.getElem_mem hk)
                refine ⟨rfl, _, rfl, rows[k].p, rows[k].t, rows[k].s, rows[k].ps, rfl, PK, fun k1 H12 e1 s12 n1 => ?_⟩
                have hB12 := s12 _ _ hzs
                refine ⟨_, hB12, by rw [List.length_map]; exact size_lt (by omega), ?_, zs ++ [(.ref k1, rows[k].q)], ?_, ?_, ?_, ?_⟩
                · exact fun b o e => by rw [upd_ne (ne_of_none e hB)]; exact s12 _ _ (sm _ _ e)
                · rw [upd_same, List.map_append]
                  rfl
                · rw [List.length_append, hzl]
                  rfl
                · intro z hz
                  rcases List.mem_append.mp hz with h | h
                  · exact ((hza z h).keep s12).set hB12
                  · rw [List.mem_singleton.mp h]
                    exact OrdK.set (.inl ⟨rfl, k1, rows[k].t, rows[k].s, rows[k].ps, rfl, e1, s12 _ _ PK.2.1, rfl⟩) hB12
                · rw [List.map_append, hzq, List.take_succ_eq_append_getElem hk, List.map_append]
                  rfl
              · rintro H11 ⟨sm, zs, hzs, hzl, hza, hzq⟩
                rw [List.length_map] at hzl hzq
                rw [List.take_length] at hzq
                refine ⟨B, true, zs, rfl, hzs, by omega, hza, fun o1 H12 ho1 s12 => ?_⟩
                refine st_go (σ' := [some (.ref a), some (.ref d), some (.int (0 + (i : Int))), some (.ref W), some (.ref pl), v5, some (.ref M), v7, v8, v9, v10, v11, v12, some (.ref o1), v14, none, none]) rfl ?_
                have sA : Same H9 H12 := (s10.trans sm).trans s12
                have p12 := p9.keep sA
                have M12 := M9.keep sA
                -- told
                refine ⟨_, rfl, _, rfl, d, c, M, _, ms.map Row.v, rfl, p12, M12.1, by rw [List.length_map]; omega, by omega, fun o2 ys H13 pm ho2 no2 p13 b13 => ?_⟩
                have M13 := M12.but p12 b13
                obtain ⟨ms', pm', rfl⟩ := perm_lift Row.v ms ys pm
                have in' : ∀ r ∈ ms', r ∈ ms := fun r hr => pm'.mem_iff.mp hr
                have okk : ∀ z ∈ zs, OrdK C true H12 z.1 z.2 := fun z hz => (hza z hz).keep s12
                have okk13 : ∀ z ∈ zs, OrdK C true H13 z.1 z.2 := fun z hz => by
                  rcases okk z hz with ⟨hb, k, t, s, ps, hx, h1, h2, hq⟩ | ⟨hb, _⟩
                  · exact .inl ⟨hb, k, t, s, ps, hx, b13 _ _ h1 (tup_ne h1 p12), b13 _ _ h2 (tup_ne h2 p12), hq⟩
                  · cases hb
                have ho1' := b13 _ _ ho1 (lst_ne ho1 p12)
                have hlm : ms'.length = rows.length := by rw [pm'.length_eq]; omega
                refine ⟨o2, false, ms'.map (fun r => (r.v, r.q)), rfl, by rw [List.map_map]; exact ho2, by rw [List.length_map]; omega, fun z hz => ?_, fun o3 H14 ho3 s14 => ?_⟩
                · obtain ⟨r, hr, rfl⟩ := List.mem_map.mp hz
                  exact .inr ⟨rfl, r.p, r.t, r.s, r.ps, rfl, M13.2 r (in' r hr), rfl⟩
                refine st_go (σ' := [some (.ref a), some (.ref d), some (.int (0 + (i : Int))), some (.ref W), some (.ref pl), v5, some (.ref M), v7, v8, v9, v10, v11, v12, some (.ref o1), some (.ref o3), none, none]) rfl ?_
                have M14 := M13.keep s14
                have okk14 : ∀ z ∈ zs, OrdK C true H14 z.1 z.2 := fun z hz => (okk13 z hz).keep s14
                have ho14 := s14 _ _ ho1'
                have p14 := p13.keep s14
                have same := sort_same zs (ms'.map (fun r => (r.v, r.q))) (by
                  rw [hzq, List.map_map, ← hmq]
                  exact (pm'.map Row.q).symm)
                have memS : ∀ z ∈ sortK (ms'.map (fun r => (r.v, r.q))), ∃ r ∈ ms', z = (r.v, r.q) := fun z hz => by
                  obtain ⟨r, hr, e⟩ := List.mem_map.mp (sort_mem hz)
                  exact ⟨r, hr, e.symm⟩
                have lenS := sort_len (ms'.map (fun r : Row => (r.v, r.q)))
                rw [List.length_map] at lenS
                generalize sortK (ms'.map (fun r : Row => (r.v, r.q))) = zz at ho3 same memS lenS
                -- what is told
                refine ⟨_, rfl, o3, rfl, ⟨_, .inl (.inl ho3)⟩, fun G2 hG => ?_⟩
                refine lc_list (K := K) (a := o3) (xs := zz.map (·.1)) (fun k H' => Same H14 H' ∧ ∃ us : List (V × KT), H' G2 = some (.lst (us.map (·.1))) ∧ us.length = k ∧ (∀ z ∈ us, OrdK C true H' z.1 z.2) ∧ us.map (·.2) = (zz.take k).map (·.2))
                  ⟨same_new hG, [], upd_same, rfl, (fun r hr => by cases hr), rfl⟩ (fun k H' _ z => .inl (.inl (z.1 _ _ ho3))) ?_ ?_
                · rintro k x H' hx ⟨sm', us, hus, hul, hua, huq⟩
                  have hk : k < zz.length := by
                    have z := (List.getElem?_eq_some_iff.mp hx).1
                    rwa [List.length_map] at z
                  obtain ⟨r, hr, er⟩ := memS _ (List.getElem_mem hk)
                  have ex : x = r.v := by
                    rw [List.getElem?_map, List.getElem?_eq_getElem hk, er] at hx
                    exact (Option.some.inj hx).symm
                  subst ex
                  have AK := (M14.keep sm').2 r (in' r hr)
                  obtain ⟨dx, kx, g1, g2, g3⟩ := id AK
                  have r100 := ms100 r (in' r hr)
                  have nol : ∀ m : Str, ¬ m = "_state" → ¬ m = "_path" → ¬ m = "_key" → (aF (S r.s) r.t kx).lookup m = none := fun m => aF_no _ _ _
                  refine ⟨rfl, _, rfl, r.p, dx, _, rfl, g1, r.p, r.t, r.s, r.ps, rfl, AK, by omega, r.ps.length, rfl, by omega, _, rfl, r.p, dx, _, rfl, g1, r.p, r.t, r.s, r.ps, rfl, AK, _, rfl, r.p, dx, _, rfl, g1, r.p, r.t, r.s, r.ps, rfl, AK, by show 3 ≤ sizeLine; decide, fun e ne => ?_⟩
                  have hG2 := same_new (o := .tup [.int (r.ps.length : Int), .str (S r.s), .ref r.t]) ne _ _ hus
                  refine ⟨_, hG2, by rw [List.length_map]; exact size_lt (by omega), ?_, us ++ [(.ref e, r.q)], ?_, ?_, ?_, ?_⟩
                  · exact fun b o e' => by rw [upd_ne (ne_of_none e' hG)]; exact same_new ne _ _ (sm' _ _ e')
                  · rw [upd_same, List.map_append]
                    rfl
                  · rw [List.length_append, hul]
                    rfl
                  · intro z hz
                    rcases List.mem_append.mp hz with h | h
                    · exact ((hua z h).keep (same_new ne)).set hG2
                    · rw [List.mem_singleton.mp h]
                      exact OrdK.set (.inl ⟨rfl, e, r.t, r.s, r.ps, rfl, upd_same, same_new ne _ _ g2, rfl⟩) hG2
                  · rw [List.map_append, huq, List.take_succ_eq_append_getElem hk, List.map_append, er]
                    rfl
                · rintro H15 ⟨sm', us, hus, hul, hua, huq⟩
                  rw [List.length_map] at hul huq
                  rw [List.take_length] at huq
                  refine ⟨_, rfl, us.map (·.2), (sortK zs).map (·.2), dp_list hus hua, dp_list (sm' _ _ ho14) (fun z hz => (okk14 z (sort_mem hz)).keep sm'), _, rfl, ?_⟩
                  refine iteF' (decide_eq_false (fun z => z (huq.trans same.symm))) ?_
                  exact ⟨_, _, _, _, _, _, _, _, _, _, _, _, _, rfl, (p14.keep sm').mono (by omega)⟩
    · rintro σ H2 ⟨v2, v3, v4, v5, v6, v7, v8, v9, v10, v11, v12, v13, v14, rfl, p2⟩
      exact q _
end
end K2

namespace K2
open PySem L2 SX AddrMath GR
theorem kit_me {K : PySem.W.Frag} {S : Addr} : PySem.W.kitOne K (.ref S) (.ref S) = some true := by
  unfold PySem.W.kitOne
  rw [if_pos (by simp)]
theorem all_mk {l : PySem.W.OpenLaw} {w : World} {K : PySem.W.Frag} {h : Heap} {mg : Str → Option Value} {fa : Addr} (X : K.In h) (G : h.Ns mainGlobals mg) (hfa : mg "law" = some (.ref fa))
    {fIsW fAreW fPen fDraw fPick fShuf fWords fNear fKey fOrder fLaw fState fPath fLen fEq fLt fLe fGt fGe fInit C pS pP TD eD : Addr} {odIsW anIsW odAreW anAreW odPen anPen odDraw anDraw odPick anPick odShuf anShuf odWords anWords odNear anNear odKey anKey odOrder anOrder odLaw anLaw odState anState odPath anPath odLen anLen odEq anEq odLt anLt odLe anLe odGt anGt odGe anGe odInit anInit odT : Option Addr} {slIsW slAreW slPen slDraw slPick slShuf slWords slNear slKey slOrder slLaw slState slPath slLen slEq slLt slLe slGt slGe slInit slT : Array (Option Value)} {ocIsW kVIsW dcIsW pmIsW cdIsW ctIsW ocAreW kVAreW dcAreW pmAreW cdAreW ctAreW ocPen kVPen dcPen pmPen cdPen ctPen ocDraw kVDraw dcDraw pmDraw cdDraw ctDraw ocPick kVPick dcPick pmPick cdPick ctPick ocShuf kVShuf dcShuf pmShuf cdShuf ctShuf ocWords kVWords dcWords pmWords cdWords ctWords ocNear kVNear dcNear pmNear cdNear ctNear ocKey kVKey dcKey pmKey cdKey ctKey ocOrder kVOrder dcOrder pmOrder cdOrder ctOrder ocLaw kVLaw dcLaw pmLaw cdLaw ctLaw ocState kVState dcState pmState cdState ctState ocPath kVPath dcPath pmPath cdPath ctPath ocLen kVLen dcLen pmLen cdLen ctLen ocEq kVEq dcEq pmEq cdEq ctEq ocLt kVLt dcLt pmLt cdLt ctLt ocLe kVLe dcLe pmLe cdLe ctLe ocGt kVGt dcGt pmGt cdGt ctGt ocGe kVGe dcGe pmGe cdGe ctGe ocInit kVInit dcInit pmInit cdInit ctInit ocT : Value} {nT : Nat} {tk8 : Tok} {rS rP : List Value}
    (aIsW : PySem.W.nsIn K mainGlobals "is_word" = some (some (.ref fIsW)))
    (lIsW : K.lookup fIsW = some ⟨ocIsW, odIsW, .func (PySem.W.fnOf "is_word" "is_word" (defArgs sIsWord) (defBody sIsWord) (defScope sIsWord) .none kVIsW dcIsW pmIsW anIsW cdIsW ctIsW), slIsW⟩) (cIsW : PySem.W.codeIn K cdIsW "is_word" = true) (kIsW : PySem.W.keepIn K (.ref fIsW) = true)
    (aAreW : PySem.W.nsIn K mainGlobals "are_words" = some (some (.ref fAreW)))
    (lAreW : K.lookup fAreW = some ⟨ocAreW, odAreW, .func (PySem.W.fnOf "are_words" "are_words" (defArgs sAreWords) (defBody sAreWords) (defScope sAreWords) .none kVAreW dcAreW pmAreW anAreW cdAreW ctAreW), slAreW⟩) (cAreW : PySem.W.codeIn K cdAreW "are_words" = true) (kAreW : PySem.W.keepIn K (.ref fAreW) = true)
    (aPen : PySem.W.nsIn K mainGlobals "_law_pen" = some (some (.ref fPen)))
    (lPen : K.lookup fPen = some ⟨ocPen, odPen, .func (PySem.W.fnOf "_law_pen" "_law_pen" (defArgs sPen) (defBody sPen) (defScope sPen) .none kVPen dcPen pmPen anPen cdPen ctPen), slPen⟩) (cPen : PySem.W.codeIn K cdPen "_law_pen" = true) (kPen : PySem.W.keepIn K (.ref fPen) = true)
    (aDraw : PySem.W.nsIn K mainGlobals "_law_draw" = some (some (.ref fDraw)))
    (lDraw : K.lookup fDraw = some ⟨ocDraw, odDraw, .func (PySem.W.fnOf "_law_draw" "_law_draw" (defArgs sDraw) (defBody sDraw) (defScope sDraw) .none kVDraw dcDraw pmDraw anDraw cdDraw ctDraw), slDraw⟩) (cDraw : PySem.W.codeIn K cdDraw "_law_draw" = true) (kDraw : PySem.W.keepIn K (.ref fDraw) = true)
    (aPick : PySem.W.nsIn K mainGlobals "_law_pick" = some (some (.ref fPick)))
    (lPick : K.lookup fPick = some ⟨ocPick, odPick, .func (PySem.W.fnOf "_law_pick" "_law_pick" (defArgs sPick) (defBody sPick) (defScope sPick) .none kVPick dcPick pmPick anPick cdPick ctPick), slPick⟩) (cPick : PySem.W.codeIn K cdPick "_law_pick" = true) (kPick : PySem.W.keepIn K (.ref fPick) = true)
    (aShuf : PySem.W.nsIn K mainGlobals "_law_shuffled" = some (some (.ref fShuf)))
    (lShuf : K.lookup fShuf = some ⟨ocShuf, odShuf, .func (PySem.W.fnOf "_law_shuffled" "_law_shuffled" (defArgs sShuf) (defBody sShuf) (defScope sShuf) .none kVShuf dcShuf pmShuf anShuf cdShuf ctShuf), slShuf⟩) (cShuf : PySem.W.codeIn K cdShuf "_law_shuffled" = true) (kShuf : PySem.W.keepIn K (.ref fShuf) = true)
    (aWords : PySem.W.nsIn K mainGlobals "_law_words" = some (some (.ref fWords)))
    (lWords : K.lookup fWords = some ⟨ocWords, odWords, .func (PySem.W.fnOf "_law_words" "_law_words" (defArgs sWords) (defBody sWords) (defScope sWords) .none kVWords dcWords pmWords anWords cdWords ctWords), slWords⟩) (cWords : PySem.W.codeIn K cdWords "_law_words" = true) (kWords : PySem.W.keepIn K (.ref fWords) = true)
    (aNear : PySem.W.nsIn K mainGlobals "_law_near" = some (some (.ref fNear)))
    (lNear : K.lookup fNear = some ⟨ocNear, odNear, .func (PySem.W.fnOf "_law_near" "_law_near" (defArgs sNear) (defBody sNear) (defScope sNear) .none kVNear dcNear pmNear anNear cdNear ctNear), slNear⟩) (cNear : PySem.W.codeIn K cdNear "_law_near" = true) (kNear : PySem.W.keepIn K (.ref fNear) = true)
    (aKey : PySem.W.nsIn K mainGlobals "_law_key" = some (some (.ref fKey)))
    (lKey : K.lookup fKey = some ⟨ocKey, odKey, .func (PySem.W.fnOf "_law_key" "_law_key" (defArgs sKey) (defBody sKey) (defScope sKey) .none kVKey dcKey pmKey anKey cdKey ctKey), slKey⟩) (cKey : PySem.W.codeIn K cdKey "_law_key" = true) (kKey : PySem.W.keepIn K (.ref fKey) = true)
    (aOrder : PySem.W.nsIn K mainGlobals "_law_in_order" = some (some (.ref fOrder)))
    (lOrder : K.lookup fOrder = some ⟨ocOrder, odOrder, .func (PySem.W.fnOf "_law_in_order" "_law_in_order" (defArgs sOrder) (defBody sOrder) (defScope sOrder) .none kVOrder dcOrder pmOrder anOrder cdOrder ctOrder), slOrder⟩) (cOrder : PySem.W.codeIn K cdOrder "_law_in_order" = true) (kOrder : PySem.W.keepIn K (.ref fOrder) = true)
    (aLaw : PySem.W.nsIn K mainGlobals "law" = some (some (.ref fLaw)))
    (lLaw : K.lookup fLaw = some ⟨ocLaw, odLaw, .func (PySem.W.fnOf "law" "law" (defArgs sLaw) (defBody sLaw) (defScope sLaw) .none kVLaw dcLaw pmLaw anLaw cdLaw ctLaw), slLaw⟩) (cLaw : PySem.W.codeIn K cdLaw "law" = true) (kLaw : PySem.W.keepIn K (.ref fLaw) = true)
    (aC : PySem.W.nsIn K mainGlobals "Address" = some (some (.ref C)))
    (aL : PySem.W.nsIn K mainGlobals "LETTERS" = some (some (.int 8 tk8)))
    (pgC : PySem.W.plainGet K C Str.empty = true)
    (hdC : PySem.W.hasDictIn K C = true)
    (poC : PySem.W.plainOver K C = true)
    (saC : PySem.W.findIn K (.ref C) "__setattr__" = some (some (.builtin "object.__setattr__")))
    (mkC : PySem.W.makesIn K C = true)
    (kcC : PySem.W.keepIn K (.ref C) = true)
    (nS : PySem.W.findIn K (.ref C) "_state" = some none)
    (nP : PySem.W.findIn K (.ref C) "_path" = some none)
    (nK : PySem.W.findIn K (.ref C) "_key" = some none)
    (aInit : PySem.W.findIn K (.ref C) "__init__" = some (some (.ref fInit)))
    (iInit : PySem.W.isFn K (.ref fInit) = true)
    (lInit : K.lookup fInit = some ⟨ocInit, odInit, .func (PySem.W.fnOf "__init__" "Address.__init__" (defArgs sInit) (defBody sInit) (defScope sInit) (.ref TD) kVInit dcInit pmInit anInit cdInit ctInit), slInit⟩) (cInit : PySem.W.codeIn K cdInit "Address.__init__" = true) (kInit : PySem.W.keepIn K (.ref fInit) = true)
    (lTD : K.lookup TD = some ⟨ocT, odT, .seq [Value.ref eD].toArray nT, slT⟩)
    (aState : PySem.W.findIn K (.ref C) "state" = some (some (.ref pS)))
    (gState : PySem.W.specialIn K (.ref pS) "__get__" = some (some (.builtin "property.__get__")))
    (tState : PySem.W.takesIn K (.ref pS) = some true)
    (rState : PySem.W.recIn K pS "property" = some (.ref fState :: rS))
    (lState : K.lookup fState = some ⟨ocState, odState, .func (PySem.W.fnOf "state" "Address.state" (defArgs sState) (defBody sState) (defScope sState) .none kVState dcState pmState anState cdState ctState), slState⟩) (cState : PySem.W.codeIn K cdState "Address.state" = true) (kState : PySem.W.keepIn K (.ref fState) = true)
    (aPath : PySem.W.findIn K (.ref C) "path" = some (some (.ref pP)))
    (gPath : PySem.W.specialIn K (.ref pP) "__get__" = some (some (.builtin "property.__get__")))
    (tPath : PySem.W.takesIn K (.ref pP) = some true)
    (rPath : PySem.W.recIn K pP "property" = some (.ref fPath :: rP))
    (lPath : K.lookup fPath = some ⟨ocPath, odPath, .func (PySem.W.fnOf "path" "Address.path" (defArgs sPath) (defBody sPath) (defScope sPath) .none kVPath dcPath pmPath anPath cdPath ctPath), slPath⟩) (cPath : PySem.W.codeIn K cdPath "Address.path" = true) (kPath : PySem.W.keepIn K (.ref fPath) = true)
    (aLen : PySem.W.findIn K (.ref C) "__len__" = some (some (.ref fLen)))
    (iLen : PySem.W.isFn K (.ref fLen) = true)
    (lLen : K.lookup fLen = some ⟨ocLen, odLen, .func (PySem.W.fnOf "__len__" "Address.__len__" (defArgs sLen) (defBody sLen) (defScope sLen) .none kVLen dcLen pmLen anLen cdLen ctLen), slLen⟩) (cLen : PySem.W.codeIn K cdLen "Address.__len__" = true) (kLen : PySem.W.keepIn K (.ref fLen) = true)
    (aEq : PySem.W.findIn K (.ref C) "__eq__" = some (some (.ref fEq)))
    (iEq : PySem.W.isFn K (.ref fEq) = true)
    (lEq : K.lookup fEq = some ⟨ocEq, odEq, .func (PySem.W.fnOf "__eq__" "Address.__eq__" (defArgs sEq) (defBody sEq) (defScope sEq) .none kVEq dcEq pmEq anEq cdEq ctEq), slEq⟩) (cEq : PySem.W.codeIn K cdEq "Address.__eq__" = true) (kEq : PySem.W.keepIn K (.ref fEq) = true)
    (aLt : PySem.W.findIn K (.ref C) "__lt__" = some (some (.ref fLt)))
    (iLt : PySem.W.isFn K (.ref fLt) = true)
    (lLt : K.lookup fLt = some ⟨ocLt, odLt, .func (PySem.W.fnOf "__lt__" "Address.__lt__" (defArgs sLt) (defBody sLt) (defScope sLt) .none kVLt dcLt pmLt anLt cdLt ctLt), slLt⟩) (cLt : PySem.W.codeIn K cdLt "Address.__lt__" = true) (kLt : PySem.W.keepIn K (.ref fLt) = true)
    (aLe : PySem.W.findIn K (.ref C) "__le__" = some (some (.ref fLe)))
    (iLe : PySem.W.isFn K (.ref fLe) = true)
    (lLe : K.lookup fLe = some ⟨ocLe, odLe, .func (PySem.W.fnOf "__le__" "Address.__le__" (defArgs sLe) (defBody sLe) (defScope sLe) .none kVLe dcLe pmLe anLe cdLe ctLe), slLe⟩) (cLe : PySem.W.codeIn K cdLe "Address.__le__" = true) (kLe : PySem.W.keepIn K (.ref fLe) = true)
    (aGt : PySem.W.findIn K (.ref C) "__gt__" = some (some (.ref fGt)))
    (iGt : PySem.W.isFn K (.ref fGt) = true)
    (lGt : K.lookup fGt = some ⟨ocGt, odGt, .func (PySem.W.fnOf "__gt__" "Address.__gt__" (defArgs sGt) (defBody sGt) (defScope sGt) .none kVGt dcGt pmGt anGt cdGt ctGt), slGt⟩) (cGt : PySem.W.codeIn K cdGt "Address.__gt__" = true) (kGt : PySem.W.keepIn K (.ref fGt) = true)
    (aGe : PySem.W.findIn K (.ref C) "__ge__" = some (some (.ref fGe)))
    (iGe : PySem.W.isFn K (.ref fGe) = true)
    (lGe : K.lookup fGe = some ⟨ocGe, odGe, .func (PySem.W.fnOf "__ge__" "Address.__ge__" (defArgs sGe) (defBody sGe) (defScope sGe) .none kVGe dcGe pmGe anGe cdGe ctGe), slGe⟩) (cGe : PySem.W.codeIn K cdGe "Address.__ge__" = true) (kGe : PySem.W.keepIn K (.ref fGe) = true)
    (neC : PySem.W.findIn K (.ref C) "__ne__" = some (some (.builtin "object.__ne__")))
    (obC : PySem.W.subIn K (.ref C) (.type "object") = some true)
    (icC : PySem.W.isClsIn K C = true)
    (pcC : PySem.W.plainGet K C "__class__" = true)
    (clC : PySem.W.findIn K (.ref C) "__class__" = some (some (.builtin "object.__class__")))
    (clg : PySem.W.specialIn K (.builtin "object.__class__") "__get__" = some (some (.builtin "getset_descriptor.__get__")))
    (clt : PySem.W.takesIn K (.builtin "object.__class__") = some true)
    (moC : PySem.W.mroIn K C (.type "object") = some true)
    (zisinstance : PySem.W.nsIn K mainGlobals "isinstance" = some none)
    (zstr : PySem.W.nsIn K mainGlobals "str" = some none)
    (zlen : PySem.W.nsIn K mainGlobals "len" = some none)
    (zlist : PySem.W.nsIn K mainGlobals "list" = some none)
    (ztuple : PySem.W.nsIn K mainGlobals "tuple" = some none)
    (zall : PySem.W.nsIn K mainGlobals "all" = some none)
    (zrange : PySem.W.nsIn K mainGlobals "range" = some none)
    (zmin : PySem.W.nsIn K mainGlobals "min" = some none)
    (zint : PySem.W.nsIn K mainGlobals "int" = some none)
    (zrepr : PySem.W.nsIn K mainGlobals "repr" = some none) :
    ∃ fd : FuncData, (∀ (s : Shared) (v : Value), BindsTo s fd ⟨[v], []⟩ [("_law_script", v)]) ∧ ∀ base : Heap, K.In base → base.Ns mainGlobals mg → FnQ l.prog w K mg base 7 fa fd ["_law_script"] (spLaw K) := by
  have e := hfa.symm.trans (PySem.W.mg_of X G aLaw)
  cases e
  have yisinstance : mg "isinstance" = none := PySem.W.mg_none_of X G zisinstance
  have ystr : mg "str" = none := PySem.W.mg_none_of X G zstr
  have ylen : mg "len" = none := PySem.W.mg_none_of X G zlen
  have ylist : mg "list" = none := PySem.W.mg_none_of X G zlist
  have ytuple : mg "tuple" = none := PySem.W.mg_none_of X G ztuple
  have yall : mg "all" = none := PySem.W.mg_none_of X G zall
  have yrange : mg "range" = none := PySem.W.mg_none_of X G zrange
  have ymin : mg "min" = none := PySem.W.mg_none_of X G zmin
  have yint : mg "int" = none := PySem.W.mg_none_of X G zint
  have yrepr : mg "repr" = none := PySem.W.mg_none_of X G zrepr
  have yL : mg "LETTERS" = some (.int 8 tk8) := PySem.W.mg_of X G aL
  have T : ATxt K mg C := ⟨⟨pgC, hdC, poC, saC⟩, nS, nP, nK, PySem.W.mg_of X G aC⟩
  have W : AOwn K C := ⟨icC, pcC, clC, clg, clt, moC, kit_me⟩
  have FIsW := fun_mk (st := sIsWord) lIsW cIsW kIsW
  have bIsW := FIsW.binds (ps := ["value"]) fun _ _ _ _ _ _ us hl => match us, hl with | [_], _ => rfl
  have dIsW : Cd K mg "is_word" fIsW := ⟨PySem.W.mg_of X G aIsW, kIsW⟩
  have FAreW := fun_mk (st := sAreWords) lAreW cAreW kAreW
  have bAreW := FAreW.binds (ps := ["value"]) fun _ _ _ _ _ _ us hl => match us, hl with | [_], _ => rfl
  have dAreW : Cd K mg "are_words" fAreW := ⟨PySem.W.mg_of X G aAreW, kAreW⟩
  have FPen := fun_mk (st := sPen) lPen cPen kPen
  have bPen := FPen.binds (ps := ["_law_script"]) fun _ _ _ _ _ _ us hl => match us, hl with | [_], _ => rfl
  have dPen : Cd K mg "_law_pen" fPen := ⟨PySem.W.mg_of X G aPen, kPen⟩
  have FDraw := fun_mk (st := sDraw) lDraw cDraw kDraw
  have bDraw := FDraw.binds (ps := ["_law_pen_here", "_law_many"]) fun _ _ _ _ _ _ us hl => match us, hl with | [_, _], _ => rfl
  have dDraw : Cd K mg "_law_draw" fDraw := ⟨PySem.W.mg_of X G aDraw, kDraw⟩
  have FPick := fun_mk (st := sPick) lPick cPick kPick
  have bPick := FPick.binds (ps := ["_law_pen_here", "_law_items"]) fun _ _ _ _ _ _ us hl => match us, hl with | [_, _], _ => rfl
  have dPick : Cd K mg "_law_pick" fPick := ⟨PySem.W.mg_of X G aPick, kPick⟩
  have FShuf := fun_mk (st := sShuf) lShuf cShuf kShuf
  have bShuf := FShuf.binds (ps := ["_law_pen_here", "_law_items"]) fun _ _ _ _ _ _ us hl => match us, hl with | [_, _], _ => rfl
  have dShuf : Cd K mg "_law_shuffled" fShuf := ⟨PySem.W.mg_of X G aShuf, kShuf⟩
  have FWords := fun_mk (st := sWords) lWords cWords kWords
  have bWords := FWords.binds (ps := ["_law_pen_here", "_law_many"]) fun _ _ _ _ _ _ us hl => match us, hl with | [_, _], _ => rfl
  have dWords : Cd K mg "_law_words" fWords := ⟨PySem.W.mg_of X G aWords, kWords⟩
  have FNear := fun_mk (st := sNear) lNear cNear kNear
  have bNear := FNear.binds (ps := ["_law_pen_here", "_law_words_here", "_law_one"]) fun _ _ _ _ _ _ us hl => match us, hl with | [_, _, _], _ => rfl
  have dNear : Cd K mg "_law_near" fNear := ⟨PySem.W.mg_of X G aNear, kNear⟩
  have FKey := fun_mk (st := sKey) lKey cKey kKey
  have bKey := FKey.binds (ps := ["_law_one"]) fun _ _ _ _ _ _ us hl => match us, hl with | [_], _ => rfl
  have dKey : Cd K mg "_law_key" fKey := ⟨PySem.W.mg_of X G aKey, kKey⟩
  have FOrder := fun_mk (st := sOrder) lOrder cOrder kOrder
  have bOrder := FOrder.binds (ps := ["_law_some"]) fun _ _ _ _ _ _ us hl => match us, hl with | [_], _ => rfl
  have dOrder : Cd K mg "_law_in_order" fOrder := ⟨PySem.W.mg_of X G aOrder, kOrder⟩
  have FLaw := fun_mk (st := sLaw) lLaw cLaw kLaw
  have FState := fun_mk (st := sState) lState cState kState
  have bState := FState.binds (ps := ["self"]) fun _ _ _ _ _ _ us hl => match us, hl with | [_], _ => rfl
  have FPath := fun_mk (st := sPath) lPath cPath kPath
  have bPath := FPath.binds (ps := ["self"]) fun _ _ _ _ _ _ us hl => match us, hl with | [_], _ => rfl
  have FLen := fun_mk (st := sLen) lLen cLen kLen
  have bLen := FLen.binds (ps := ["self"]) fun _ _ _ _ _ _ us hl => match us, hl with | [_], _ => rfl
  have FEq := fun_mk (st := sEq) lEq cEq kEq
  have bEq := FEq.binds (ps := ["self", "other"]) fun _ _ _ _ _ _ us hl => match us, hl with | [_, _], _ => rfl
  have FLt := fun_mk (st := sLt) lLt cLt kLt
  have bLt := FLt.binds (ps := ["self", "other"]) fun _ _ _ _ _ _ us hl => match us, hl with | [_, _], _ => rfl
  have FLe := fun_mk (st := sLe) lLe cLe kLe
  have bLe := FLe.binds (ps := ["self", "other"]) fun _ _ _ _ _ _ us hl => match us, hl with | [_, _], _ => rfl
  have FGt := fun_mk (st := sGt) lGt cGt kGt
  have bGt := FGt.binds (ps := ["self", "other"]) fun _ _ _ _ _ _ us hl => match us, hl with | [_, _], _ => rfl
  have FGe := fun_mk (st := sGe) lGe cGe kGe
  have bGe := FGe.binds (ps := ["self", "other"]) fun _ _ _ _ _ _ us hl => match us, hl with | [_, _], _ => rfl
  have FInit : FunD K "__init__" "Address.__init__" (defArgs sInit) (defBody sInit) (defScope sInit) [.ref eD] [] fInit (PySem.W.fnOf "__init__" "Address.__init__" (defArgs sInit) (defBody sInit) (defScope sInit) (.ref TD) kVInit dcInit pmInit anInit cdInit ctInit) :=
    ⟨⟨ocInit, odInit, _, kVInit, dcInit, pmInit, anInit, cdInit, ctInit, slInit, rfl, lInit, cInit, .inr ⟨by simp, TD, _, [Value.ref eD], nT, rfl, lTD, rfl, .cons rfl .nil⟩, .inl rfl⟩, kInit⟩
  have bInit0 := FInit.binds1 (ps := ["self", "state", "path"]) 3 1 (by simp) rfl fun TT kV doc pm an cdv ct us its h1 h2 => match us, h1, its, h2 with | [_, _, _], _, [_], _ => ⟨_, rfl, rfl⟩
  obtain ⟨ds, vd, bInit⟩ := bInit0
  cases vd
  have MI : Mk K C fInit := ⟨mkC, aInit, iInit, kcC⟩
  refine ⟨PySem.W.fnOf "law" "law" (defArgs sLaw) (defBody sLaw) (defScope sLaw) .none kVLaw dcLaw pmLaw anLaw cdLaw ctLaw, fun s v => .of_eq rfl, fun base _ _ => ?_⟩
  have gPen := ok_pen (P := l.prog) (w := w) (base := base) FPen ylist
  have gDraw := ok_draw (P := l.prog) (w := w) (base := base) FDraw yint ylen
  have gPick := ok_pick FPick gDraw dDraw bDraw ylen
  have gShuf := ok_shuf FShuf gDraw dDraw bDraw ylist ylen
  have gWords := ok_words FWords gDraw dDraw bDraw gPick dPick bPick ylen yrange yint
  have gNear := ok_near FNear gDraw dDraw bDraw gPick dPick bPick ylen
  have gIsW := ok_isword (P := l.prog) (w := w) (base := base) FIsW yisinstance ystr ylen yL
  have gAreW := ok_arewords FAreW gIsW dIsW bIsW yisinstance ylist ytuple yall
  have gInit := ok_init FInit T gIsW dIsW bIsW gAreW dAreW bAreW ytuple ylen
  have gState' := ok_state (P := l.prog) (w := w) (base := base) FState T
  have gPath' := ok_path (P := l.prog) (w := w) (base := base) FPath T
  have gLen' := ok_len (P := l.prog) (w := w) (base := base) FLen T ylen
  have gEq := ok_eq (P := l.prog) (w := w) (base := base) FEq T W yisinstance
  have gLt := ok_lt (P := l.prog) (w := w) (base := base) FLt T W yisinstance
  have gLe := ok_le (P := l.prog) (w := w) (base := base) FLe T W yisinstance
  have gGt := ok_gt (P := l.prog) (w := w) (base := base) FGt T W yisinstance
  have gGe := ok_ge (P := l.prog) (w := w) (base := base) FGe T W yisinstance
  have gKey := ok_key (P := l.prog) (w := w) (base := base) FKey ylen
  have gOrder := ok_order (P := l.prog) (w := w) (base := base) FOrder T gLe bLe aLe iLe ylen
  exact ok_law FLaw T ⟨⟨_, _, gPen, dPen, bPen⟩, ⟨_, _, gDraw, dDraw, bDraw⟩, ⟨_, _, gPick, dPick, bPick⟩, ⟨_, _, gShuf, dShuf, bShuf⟩, ⟨_, _, gWords, dWords, bWords⟩, ⟨_, _, gNear, dNear, bNear⟩, ⟨_, _, gKey, dKey, bKey⟩, ⟨_, _, gOrder, dOrder, bOrder⟩, ⟨_, _, aLt, iLt, gLt, bLt⟩, ⟨_, _, aLe, iLe, gLe, bLe⟩, ⟨_, _, aGt, iGt, gGt, bGt⟩, ⟨_, _, aGe, iGe, gGe, bGe⟩, ⟨_, _, aEq, iEq, gEq, bEq⟩, neC, obC, _, _, MI, gInit, bInit, _, _, aLen, iLen, gLen', bLen⟩
    ⟨aState, gState, tState, ⟨_, rState⟩⟩ gState' bState ⟨aPath, gPath, tPath, ⟨_, rPath⟩⟩ gPath' bPath yrange ymin ylen ytuple ylist yrepr
theorem walk {l : PySem.W.OpenLaw} {q : Program} {loose : List Str} {XP : (Str → Option Value) → Heap → Prop} {YP : World → Heap → Prop} {d : DefRec} {K : Params → PySem.W.Frag} (hn : l.most = some 63) (hdf : d.params.defaults = [])
    (hY : ∀ (w : World) (h : Heap), YP w h → (K w.params).In h)
    (F : ∀ (w : World) (mg : Str → Option Value) (fa : Addr) (h : Heap), (K w.params).In h → h.Ns mainGlobals mg → mg d.name = some (.ref fa) →
      ∃ fd : FuncData, (∀ (s : Shared) (u : Value), BindsTo s fd ⟨[u], []⟩ [("_law_script", u)]) ∧ ∀ base : Heap, (K w.params).In base → base.Ns mainGlobals mg → FnQ l.prog w (K w.params) mg base 7 fa fd ["_law_script"] (spLaw (K w.params))) :
    PySem.W.WalkO q loose XP YP l.row.toRowW d [] (fun f vs => PySem.call f vs) :=
  walk_quiet (most := 63) (n := 7) (x := "_law_script") (sp := fun w => spLaw (K w.params)) hn (by decide) hdf ⟨rfl, by decide, by decide⟩ hY F fun _ _ a ns hl _ hS => ⟨a, ns, rfl, hS, hl, fun _ => rfl⟩
end K2

open PySem PySem.W PyProof.Rows
set_option maxRecDepth 100000 in
set_option maxHeartbeats 0 in
theorem PySem.Challenge.cw_sentonward_k02_whole_order_of_addresses_holds : PySem.Challenge.rw_sentonward_k02_whole_order_of_addresses.Holds := by
  w_on; o_law; k_head; (case hw => w_witness2)
  k_fill
  refine K2.walk (l := PySem.Challenge.rw_sentonward_k02_whole_order_of_addresses) rfl rfl (fun w h Y => PySem.W.kIn_of Y) ?F
  case F =>
    intro w mg fa h KX G hmg
    refine' K2.all_mk KX G hmg ?aIsW ?lIsW ?cIsW ?kIsW ?aAreW ?lAreW ?cAreW ?kAreW ?aPen ?lPen ?cPen ?kPen ?aDraw ?lDraw ?cDraw ?kDraw ?aPick ?lPick ?cPick ?kPick ?aShuf ?lShuf ?cShuf ?kShuf ?aWords ?lWords ?cWords ?kWords ?aNear ?lNear ?cNear ?kNear ?aKey ?lKey ?cKey ?kKey ?aOrder ?lOrder ?cOrder ?kOrder ?aLaw ?lLaw ?cLaw ?kLaw ?aC ?aL ?pgC ?hdC ?poC ?saC ?mkC ?kcC ?nS ?nP ?nK ?aInit ?iInit ?lInit ?cInit ?kInit ?lTD ?aState ?gState ?tState ?rState ?lState ?cState ?kState ?aPath ?gPath ?tPath ?rPath ?lPath ?cPath ?kPath ?aLen ?iLen ?lLen ?cLen ?kLen ?aEq ?iEq ?lEq ?cEq ?kEq ?aLt ?iLt ?lLt ?cLt ?kLt ?aLe ?iLe ?lLe ?cLe ?kLe ?aGt ?iGt ?lGt ?cGt ?kGt ?aGe ?iGe ?lGe ?cGe ?kGe ?neC ?obC ?icC ?pcC ?clC ?clg ?clt ?moC ?zisinstance ?zstr ?zlen ?zlist ?ztuple ?zall ?zrange ?zmin ?zint ?zrepr
    (case aIsW => k_is)
    (case lIsW => k_is)
    (case cIsW => k_is)
    (case kIsW => k_is)
    (case aAreW => k_is)
    (case lAreW => k_is)
    (case cAreW => k_is)
    (case kAreW => k_is)
    (case aPen => k_is)
    (case lPen => k_is)
    (case cPen => k_is)
    (case kPen => k_is)
    (case aDraw => k_is)
    (case lDraw => k_is)
    (case cDraw => k_is)
    (case kDraw => k_is)
    (case aPick => k_is)
    (case lPick => k_is)
    (case cPick => k_is)
    (case kPick => k_is)
    (case aShuf => k_is)
    (case lShuf => k_is)
    (case cShuf => k_is)
    (case kShuf => k_is)
    (case aWords => k_is)
    (case lWords => k_is)
    (case cWords => k_is)
    (case kWords => k_is)
    (case aNear => k_is)
    (case lNear => k_is)
    (case cNear => k_is)
    (case kNear => k_is)
    (case aKey => k_is)
    (case lKey => k_is)
    (case cKey => k_is)
    (case kKey => k_is)
    (case aOrder => k_is)
    (case lOrder => k_is)
    (case cOrder => k_is)
    (case kOrder => k_is)
    (case aLaw => k_is)
    (case lLaw => k_is)
    (case cLaw => k_is)
    (case kLaw => k_is)
    (case aC => k_is)
    (case aL => k_is)
    (case pgC => k_is)
    (case hdC => k_is)
    (case poC => k_is)
    (case saC => k_is)
    (case mkC => k_is)
    (case kcC => k_is)
    (case nS => k_is)
    (case nP => k_is)
    (case nK => k_is)
    (case aInit => k_is)
    (case iInit => k_is)
    (case lInit => k_is)
    (case cInit => k_is)
    (case kInit => k_is)
    (case lTD => k_is)
    (case aState => k_is)
    (case gState => k_is)
    (case tState => k_is)
    (case rState => k_is)
    (case lState => k_is)
    (case cState => k_is)
    (case kState => k_is)
    (case aPath => k_is)
    (case gPath => k_is)
    (case tPath => k_is)
    (case rPath => k_is)
    (case lPath => k_is)
    (case cPath => k_is)
    (case kPath => k_is)
    (case aLen => k_is)
    (case iLen => k_is)
    (case lLen => k_is)
    (case cLen => k_is)
    (case kLen => k_is)
    (case aEq => k_is)
    (case iEq => k_is)
    (case lEq => k_is)
    (case cEq => k_is)
    (case kEq => k_is)
    (case aLt => k_is)
    (case iLt => k_is)
    (case lLt => k_is)
    (case cLt => k_is)
    (case kLt => k_is)
    (case aLe => k_is)
    (case iLe => k_is)
    (case lLe => k_is)
    (case cLe => k_is)
    (case kLe => k_is)
    (case aGt => k_is)
    (case iGt => k_is)
    (case lGt => k_is)
    (case cGt => k_is)
    (case kGt => k_is)
    (case aGe => k_is)
    (case iGe => k_is)
    (case lGe => k_is)
    (case cGe => k_is)
    (case kGe => k_is)
    (case neC => k_is)
    (case obC => k_is)
    (case icC => k_is)
    (case pcC => k_is)
    (case clC => k_is)
    (case clg => k_is)
    (case clt => k_is)
    (case moC => k_is)
    (case zisinstance => k_is)
    (case zstr => k_is)
    (case zlen => k_is)
    (case zlist => k_is)
    (case ztuple => k_is)
    (case zall => k_is)
    (case zrange => k_is)
    (case zmin => k_is)
    (case zint => k_is)
    (case zrepr => k_is)

