import PyProof.Rows.All
import Wide.All
import OpenK.AllK
import Wide.FinOn
import HandS.ForMost
import HandS.ForExc
import HandS.ExcInit
import HandS.ExcField
import HandS.ClsMeth
import HandS.Property
import HandS.Defaults
import HandS.IsInst
import HandS.ExcIs
import HandS.StrMore
import HandS.Codes
import HandS.OwnEq
import HandS.Ends
import HandS.Words
import KE.DatumMoreOrd
import HandS.SlotsOwn
import PyProof.EqAt
import PyProof.EqKinds
import PyProof.TupleCall
import PyProof.Rows.SortShellAny
import HandS.Base
import HandS.Call
import HandS.List
import HandS.Set
import HandS.SetFor
import HandS.TupAny
import HandS.TupLen
import KE.KDictCopyH
import HandS.MakeKw
import HandS.MakeKwOnly
import HandS.Walk
import HandS.DictComp
import PyProof.NeKinds
import HandS.Flow
import HandS.Small
import HandS.Lambda
import HandS.RaiseMore
import HandS.EndTab
import HandS.EndOwn
import PySem.Challenge.RW_sentonward_k41_far_addresses_made
set_option Elab.async false
set_option linter.all false
set_option maxRecDepth 100000
set_option maxHeartbeats 8000000
namespace AddrMath
/-- a letter from a to z -/
def isL (c : Nat) : Bool := decide (97 ≤ c) && decide (c ≤ 122)
/-- a word -/
def isW (l : List Nat) : Bool := decide (1 ≤ l.length) && (decide (l.length ≤ 8) && l.all isL)
theorem isW_iff {l : List Nat} : isW l = true ↔ 1 ≤ l.length ∧ l.length ≤ 8 ∧ ∀ c ∈ l, isL c = true := by
  unfold isW
  rw [Bool.and_eq_true, Bool.and_eq_true, decide_eq_true_eq, decide_eq_true_eq, List.all_eq_true]
theorem isL_ne {c d : Nat} (h : isL c = true) (hd : d < 97) : c ≠ d := by
  unfold isL at h
  rw [Bool.and_eq_true, decide_eq_true_eq, decide_eq_true_eq] at h
  omega
/-- cut at each d -/
def sp (d : Nat) : List Nat → List (List Nat)
  | [] => [[]]
  | c :: r => if c = d then [] :: sp d r else match sp d r with
    | [] => [[c]]
    | p :: q => (c :: p) :: q
theorem sp_ne (d : Nat) : ∀ l, sp d l ≠ []
  | [] => by simp [sp]
  | c :: r => by
    unfold sp
    split
    · simp
    · split <;> simp
theorem sp_hit (d : Nat) (r : List Nat) : sp d (d :: r) = [] :: sp d r := by
  show (if d = d then [] :: sp d r else _) = _
  rw [if_pos rfl]
/-- the first piece and the others -/
theorem sp_cons (d : Nat) (l : List Nat) : ∃ p q, sp d l = p :: q := by
  cases h : sp d l with
  | nil => exact absurd h (sp_ne d l)
  | cons p q => exact ⟨p, q, rfl⟩
theorem sp_miss {d c : Nat} {r p : List Nat} {q : List (List Nat)} (hc : c ≠ d) (h : sp d r = p :: q) : sp d (c :: r) = (c :: p) :: q := by
  show (if c = d then [] :: sp d r else match sp d r with | [] => [[c]] | p :: q => (c :: p) :: q) = _
  rw [if_neg hc, h]
theorem sp_pre {d : Nat} : ∀ {a r p : List Nat} {q : List (List Nat)}, d ∉ a → sp d r = p :: q → sp d (a ++ r) = (a ++ p) :: q
  | [], _, _, _, _, h => h
  | c :: a, r, p, q, ha, h => by
    have h1 : c ≠ d := fun e => ha (by rw [e]; exact List.mem_cons_self ..)
    have h2 : d ∉ a := fun e => ha (List.mem_cons_of_mem _ e)
    exact sp_miss h1 (sp_pre h2 h)
theorem sp_free {d : Nat} {a : List Nat} (h : d ∉ a) : sp d a = [a] := by
  have e := sp_pre (r := []) (p := []) (q := []) h (by rfl)
  rw [List.append_nil] at e
  exact e
theorem sp_at {d : Nat} {a r : List Nat} (h : d ∉ a) : sp d (a ++ d :: r) = a :: sp d r := by
  have e := sp_pre (r := d :: r) (p := []) (q := sp d r) h (sp_hit d r)
  rw [List.append_nil] at e
  exact e
/-! ### the law's own look -/
/-- the pieces behind the first one: words, the last one may be empty -/
def segs : List (List Nat) → Bool
  | [] => false
  | [p] => decide (p = []) || isW p
  | p :: q :: r => isW p && segs (q :: r)
def tailOk (b : List Nat) : Bool := match sp 47 b with
  | [] => false
  | p :: q => decide (p = []) && segs q
def cb (l : List Nat) : Bool := match sp 58 l with
  | [a] => decide (a = []) || isW a
  | [a, b] => isW a && (decide (b = []) || tailOk b)
  | _ => false
/-! ### sign by sign -/
def cC : Nat → List Nat → Bool
  | _, [] => true
  | k, c :: r => if isL c = true then decide (k < 8) && cC (k + 1) r else if c = 47 then decide (1 ≤ k) && cC 0 r else false
def cB : List Nat → Bool
  | [] => true
  | c :: r => if c = 47 then cC 0 r else false
def cA : Nat → List Nat → Bool
  | _, [] => true
  | k, c :: r => if isL c = true then decide (k < 8) && cA (k + 1) r else if c = 58 then decide (1 ≤ k) && cB r else false
theorem isW_long {p : List Nat} (h : 8 < p.length) : isW p = false := by
  cases e : isW p with
  | false => rfl
  | true =>
    have := isW_iff.mp e
    omega
theorem isW_bad {p : List Nat} {c : Nat} (h : c ∈ p) (hc : isL c = false) : isW p = false := by
  cases e : isW p with
  | false => rfl
  | true =>
    have := (isW_iff.mp e).2.2 c h
    rw [hc] at this
    cases this
theorem segs_bad {p : List Nat} {q : List (List Nat)} (h : isW p = false) (hp : p ≠ []) : segs (p :: q) = false := by
  cases q with
  | nil => simp [segs, h, hp]
  | cons a q => simp [segs, h]
theorem isW_mk {a : List Nat} (h8 : a.length ≤ 8) (hl : ∀ c ∈ a, isL c = true) : isW a = decide (1 ≤ a.length) := by
  by_cases h : 1 ≤ a.length
  · rw [decide_eq_true h]
    exact isW_iff.mpr ⟨h, h8, hl⟩
  · rw [decide_eq_false h]
    cases e : isW a with
    | false => rfl
    | true => exact absurd (isW_iff.mp e).1 h
theorem all_snoc {a : List Nat} {c : Nat} (hl : ∀ x ∈ a, isL x = true) (hc : isL c = true) : ∀ x ∈ a ++ [c], isL x = true := by
  intro x hx
  rcases List.mem_append.mp hx with h | h
  · exact hl x h
  · rw [List.mem_singleton.mp h]
    exact hc
theorem no_of {a : List Nat} {d : Nat} (hd : d < 97) (hl : ∀ x ∈ a, isL x = true) : d ∉ a := fun h => isL_ne (hl d h) hd rfl
theorem cC_segs : ∀ (l a : List Nat), a.length ≤ 8 → (∀ c ∈ a, isL c = true) → segs (sp 47 (a ++ l)) = cC a.length l
  | [], a, h8, hl => by
    rw [List.append_nil, sp_free (no_of (by decide) hl)]
    show (decide (a = []) || isW a) = true
    rw [isW_mk h8 hl]
    cases a <;> simp
  | c :: r, a, h8, hl => by
    have h47 := no_of (d := 47) (by decide) hl
    show _ = (if isL c = true then decide (a.length < 8) && cC (a.length + 1) r else if c = 47 then decide (1 ≤ a.length) && cC 0 r else false)
    by_cases hc : isL c = true
    · rw [if_pos hc]
      have hne : c ≠ 47 := isL_ne hc (by decide)
      by_cases hk : a.length < 8
      · have ih := cC_segs r (a ++ [c]) (by rw [List.length_append]; exact hk) (all_snoc hl hc)
        rw [List.append_assoc] at ih
        rw [decide_eq_true hk, Bool.true_and]
        have e : (a ++ [c]).length = a.length + 1 := by simp
        rw [e] at ih
        exact ih
      · rw [decide_eq_false hk, Bool.false_and]
        obtain ⟨p, q, hp⟩ := sp_cons 47 r
        rw [sp_pre h47 (sp_miss hne hp)]
        refine segs_bad (isW_long ?_) (by simp)
        rw [List.length_append, List.length_cons]
        omega
    · rw [if_neg hc]
      by_cases he : c = 47
      · rw [if_pos he, he, sp_at h47]
        obtain ⟨p, q, hp⟩ := sp_cons 47 r
        have ih := cC_segs r [] (by simp) (fun x hx => by cases hx)
        rw [List.nil_append] at ih
        rw [show cC 0 r = cC ([] : List Nat).length r from rfl, ← ih, hp, ← isW_mk h8 hl]
        rfl
      · rw [if_neg he]
        obtain ⟨p, q, hp⟩ := sp_cons 47 r
        rw [sp_pre h47 (sp_miss he hp)]
        exact segs_bad (isW_bad (c := c) (by simp) (by simpa using hc)) (by simp)
/-- behind the colon -/
theorem cB_tail (b : List Nat) : (decide (b = []) || tailOk b) = cB b := by
  cases b with
  | nil => rfl
  | cons c r =>
    show (decide (c :: r = []) || tailOk (c :: r)) = (if c = 47 then cC 0 r else false)
    rw [decide_eq_false (by simp), Bool.false_or]
    by_cases hc : c = 47
    · rw [if_pos hc, hc]
      unfold tailOk
      rw [sp_hit]
      show (decide (([] : List Nat) = []) && segs (sp 47 r)) = _
      rw [decide_eq_true rfl, Bool.true_and]
      exact cC_segs r [] (by simp) (fun x hx => by cases hx)
    · rw [if_neg hc]
      unfold tailOk
      obtain ⟨p, q, hp⟩ := sp_cons 47 r
      rw [sp_miss hc hp]
      show (decide (c :: p = []) && segs q) = false
      rw [decide_eq_false (by simp), Bool.false_and]
theorem cC_58 : ∀ (k : Nat) (r : List Nat), 58 ∈ r → cC k r = false
  | _, [], h => by cases h
  | k, c :: r, h => by
    show (if isL c = true then decide (k < 8) && cC (k + 1) r else if c = 47 then decide (1 ≤ k) && cC 0 r else false) = false
    by_cases hc : isL c = true
    · rw [if_pos hc]
      have hm : 58 ∈ r := by
        rcases List.mem_cons.mp h with e | e
        · exact absurd e.symm (isL_ne hc (by decide))
        · exact e
      rw [cC_58 (k + 1) r hm, Bool.and_false]
    · rw [if_neg hc]
      by_cases he : c = 47
      · rw [if_pos he]
        have hm : 58 ∈ r := by
          rcases List.mem_cons.mp h with e | e
          · omega
          · exact e
        rw [cC_58 0 r hm, Bool.and_false]
      · rw [if_neg he]
theorem cB_58 {r : List Nat} (h : 58 ∈ r) : cB r = false := by
  cases r with
  | nil => cases h
  | cons c r =>
    show (if c = 47 then cC 0 r else false) = false
    by_cases hc : c = 47
    · rw [if_pos hc]
      refine cC_58 0 r ?_
      rcases List.mem_cons.mp h with e | e
      · omega
      · exact e
    · rw [if_neg hc]
theorem sp_two {d : Nat} : ∀ {r : List Nat}, d ∈ r → ∃ p q s, sp d r = p :: q :: s
  | [], h => by cases h
  | c :: r, h => by
    by_cases hc : c = d
    · rw [hc, sp_hit]
      obtain ⟨p, q, e⟩ := sp_cons d r
      exact ⟨[], p, q, by rw [e]⟩
    · have hm : d ∈ r := by
        rcases List.mem_cons.mp h with e | e
        · exact absurd e.symm hc
        · exact e
      obtain ⟨p, q, s, e⟩ := sp_two hm
      exact ⟨c :: p, q, s, sp_miss hc e⟩
theorem cb_bad {p : List Nat} {q : List (List Nat)} {l : List Nat} (e : sp 58 l = p :: q) (h : isW p = false) (hp : p ≠ []) : cb l = false := by
  unfold cb
  rw [e]
  match q with
  | [] => simp [h, hp]
  | [b] => simp [h]
  | _ :: _ :: _ => rfl
theorem cA_cb : ∀ (l a : List Nat), a.length ≤ 8 → (∀ c ∈ a, isL c = true) → cb (a ++ l) = cA a.length l
  | [], a, h8, hl => by
    unfold cb
    rw [List.append_nil, sp_free (no_of (by decide) hl)]
    show (decide (a = []) || isW a) = true
    rw [isW_mk h8 hl]
    cases a <;> simp
  | c :: r, a, h8, hl => by
    have h58 := no_of (d := 58) (by decide) hl
    show _ = (if isL c = true then decide (a.length < 8) && cA (a.length + 1) r else if c = 58 then decide (1 ≤ a.length) && cB r else false)
    by_cases hc : isL c = true
    · rw [if_pos hc]
      have hne : c ≠ 58 := isL_ne hc (by decide)
      by_cases hk : a.length < 8
      · have ih := cA_cb r (a ++ [c]) (by rw [List.length_append]; exact hk) (all_snoc hl hc)
        rw [List.append_assoc] at ih
        rw [decide_eq_true hk, Bool.true_and]
        have e : (a ++ [c]).length = a.length + 1 := by simp
        rw [e] at ih
        exact ih
      · rw [decide_eq_false hk, Bool.false_and]
        obtain ⟨p, q, hp⟩ := sp_cons 58 r
        refine cb_bad (sp_pre h58 (sp_miss hne hp)) (isW_long ?_) (by simp)
        rw [List.length_append, List.length_cons]
        omega
    · rw [if_neg hc]
      by_cases he : c = 58
      · rw [if_pos he, he, ← isW_mk h8 hl]
        by_cases hm : 58 ∈ r
        · obtain ⟨p, q, s, e⟩ := sp_two hm
          rw [cB_58 hm, Bool.and_false]
          unfold cb
          rw [sp_at h58, e]
        · unfold cb
          rw [sp_at h58, sp_free hm, ← cB_tail]
      · rw [if_neg he]
        obtain ⟨p, q, hp⟩ := sp_cons 58 r
        exact cb_bad (sp_pre h58 (sp_miss he hp)) (isW_bad (c := c) (by simp) (by simpa using hc)) (by simp)
theorem cb_cA (l : List Nat) : cb l = cA 0 l := by
  have e := cA_cb l [] (by simp) (fun x hx => by cases hx)
  rw [List.nil_append] at e
  exact e
/-! ### how far it goes -/
def lC : Nat → List Nat → Nat
  | _, [] => 0
  | k, c :: r => if isL c = true then (if k < 8 then lC (k + 1) r + 1 else 0) else if c = 47 then (if 1 ≤ k then lC 0 r + 1 else 0) else 0
def lB : List Nat → Nat
  | [] => 0
  | c :: r => if c = 47 then lC 0 r + 1 else 0
def lA : Nat → List Nat → Nat
  | _, [] => 0
  | k, c :: r => if isL c = true then (if k < 8 then lA (k + 1) r + 1 else 0) else if c = 58 then (if 1 ≤ k then lB r + 1 else 0) else 0
theorem lB_cons (c : Nat) (r : List Nat) : lB (c :: r) = if c = 47 then lC 0 r + 1 else 0 := rfl
theorem cB_cons (c : Nat) (r : List Nat) : cB (c :: r) = if c = 47 then cC 0 r else false := rfl
theorem cC_take : ∀ (l : List Nat) (k j : Nat), j ≤ l.length → cC k (l.take j) = decide (j ≤ lC k l)
  | [], k, j, h => by
    have e : j = 0 := by simpa using h
    subst e
    rfl
  | c :: r, k, 0, _ => by simp [cC]
  | c :: r, k, j + 1, h => by
    have hj : j ≤ r.length := by simpa using h
    rw [List.take_succ_cons]
    unfold cC lC
    by_cases hc : isL c = true
    · rw [if_pos hc, if_pos hc]
      by_cases hk : k < 8
      · rw [if_pos hk, decide_eq_true hk, Bool.true_and, cC_take r (k + 1) j hj]
        simp
      · rw [if_neg hk, decide_eq_false hk, Bool.false_and]
        simp
    · rw [if_neg hc, if_neg hc]
      by_cases he : c = 47
      · rw [if_pos he, if_pos he]
        by_cases hk : 1 ≤ k
        · rw [if_pos hk, decide_eq_true hk, Bool.true_and, cC_take r 0 j hj]
          simp
        · rw [if_neg hk, decide_eq_false hk, Bool.false_and]
          simp
      · rw [if_neg he, if_neg he]
        simp
theorem cB_take (l : List Nat) (j : Nat) (h : j ≤ l.length) : cB (l.take j) = decide (j ≤ lB l) := by
  cases l with
  | nil =>
    have e : j = 0 := by simpa using h
    subst e
    rfl
  | cons c r =>
    cases j with
    | zero => simp [cB]
    | succ j =>
      have hj : j ≤ r.length := by simpa using h
      rw [List.take_succ_cons, cB_cons, lB_cons]
      by_cases he : c = 47
      · rw [if_pos he, if_pos he, cC_take r 0 j hj]
        simp
      · rw [if_neg he, if_neg he]
        simp
theorem cA_take : ∀ (l : List Nat) (k j : Nat), j ≤ l.length → cA k (l.take j) = decide (j ≤ lA k l)
  | [], k, j, h => by
    have e : j = 0 := by simpa using h
    subst e
    rfl
  | c :: r, k, 0, _ => by simp [cA]
  | c :: r, k, j + 1, h => by
    have hj : j ≤ r.length := by simpa using h
    rw [List.take_succ_cons]
    unfold cA lA
    by_cases hc : isL c = true
    · rw [if_pos hc, if_pos hc]
      by_cases hk : k < 8
      · rw [if_pos hk, decide_eq_true hk, Bool.true_and, cA_take r (k + 1) j hj]
        simp
      · rw [if_neg hk, decide_eq_false hk, Bool.false_and]
        simp
    · rw [if_neg hc, if_neg hc]
      by_cases he : c = 58
      · rw [if_pos he, if_pos he]
        by_cases hk : 1 ≤ k
        · rw [if_pos hk, decide_eq_true hk, Bool.true_and, cB_take r j hj]
          simp
        · rw [if_neg hk, decide_eq_false hk, Bool.false_and]
          simp
      · rw [if_neg he, if_neg he]
        simp
theorem lC_le : ∀ (l : List Nat) (k : Nat), lC k l ≤ l.length
  | [], _ => Nat.le_refl _
  | c :: r, k => by
    have i1 := lC_le r (k + 1)
    have i2 := lC_le r 0
    unfold lC
    rw [List.length_cons]
    repeat' split
    all_goals omega
theorem lB_le (l : List Nat) : lB l ≤ l.length := by
  cases l with
  | nil => exact Nat.le_refl _
  | cons c r =>
    have i2 := lC_le r 0
    rw [lB_cons, List.length_cons]
    split <;> omega
theorem lA_le : ∀ (l : List Nat) (k : Nat), lA k l ≤ l.length
  | [], _ => Nat.le_refl _
  | c :: r, k => by
    have i1 := lA_le r (k + 1)
    have i2 := lB_le r
    unfold lA
    rw [List.length_cons]
    repeat' split
    all_goals omega
/-- the longest beginning with which some text begins -/
theorem cb_take (l : List Nat) (j : Nat) (h : j ≤ l.length) : cb (l.take j) = decide (j ≤ lA 0 l) := by
  rw [cb_cA]
  exact cA_take l 0 j h
/-! ### the program's reader -/
/-- letters that are read on from k ones -/
def run : Nat → List Nat → Nat
  | _, [] => 0
  | k, c :: r => if k < 8 ∧ isL c = true then run (k + 1) r + 1 else 0
theorem run_le : ∀ (l : List Nat) (k : Nat), run k l ≤ l.length
  | [], _ => Nat.le_refl _
  | c :: r, k => by
    have := run_le r (k + 1)
    unfold run
    rw [List.length_cons]
    split <;> omega
theorem run_8 : ∀ (l : List Nat) (k : Nat), k ≤ 8 → k + run k l ≤ 8
  | [], k, h => h
  | c :: r, k, h => by
    unfold run
    split
    · rename_i hh
      have := run_8 r (k + 1) (by omega)
      omega
    · omega
theorem run_all : ∀ (l : List Nat) (k : Nat), ∀ c ∈ l.take (run k l), isL c = true
  | [], k, c, h => by simp [run] at h
  | d :: r, k, c, h => by
    unfold run at h
    split at h
    · rename_i hh
      rw [List.take_succ_cons] at h
      rcases List.mem_cons.mp h with e | e
      · rw [e]
        exact hh.2
      · exact run_all r (k + 1) c e
    · simp at h
theorem lC_run : ∀ (l : List Nat) (k : Nat), k ≤ 8 → lC k l = run k l + (if 1 ≤ k + run k l then lB (l.drop (run k l)) else 0)
  | [], k, _ => by
    simp [lC, run, lB]
  | c :: r, k, hk8 => by
    unfold lC run
    by_cases hc : isL c = true
    · by_cases hk : k < 8
      · rw [if_pos hc, if_pos hk, if_pos ⟨hk, hc⟩, lC_run r (k + 1) (by omega), List.drop_succ_cons]
        have e1 : 1 ≤ k + 1 + run (k + 1) r := by omega
        have e2 : 1 ≤ k + (run (k + 1) r + 1) := by omega
        rw [if_pos e1, if_pos e2]
        omega
      · have hn : ¬ (k < 8 ∧ isL c = true) := fun h => hk h.1
        rw [if_pos hc, if_neg hk, if_neg hn, List.drop_zero]
        have e : lB (c :: r) = 0 := by
          rw [lB_cons, if_neg (isL_ne hc (by decide))]
        rw [e]
        split <;> rfl
    · have hn : ¬ (k < 8 ∧ isL c = true) := fun h => hc h.2
      rw [if_neg hc, if_neg hn, List.drop_zero, Nat.zero_add, Nat.add_zero]
      rw [lB_cons]
      by_cases he : c = 47
      · rw [if_pos he, if_pos he]
        rfl
      · rw [if_neg he, if_neg he]
        split <;> rfl
theorem lA_run : ∀ (l : List Nat) (k : Nat), k ≤ 8 → lA k l = run k l + (if 1 ≤ k + run k l ∧ (l.drop (run k l)).head? = some 58 then lB (l.drop (run k l + 1)) + 1 else 0)
  | [], k, _ => by
    simp [lA, run]
  | c :: r, k, hk8 => by
    unfold lA run
    by_cases hc : isL c = true
    · by_cases hk : k < 8
      · rw [if_pos hc, if_pos hk, if_pos ⟨hk, hc⟩, lA_run r (k + 1) (by omega), List.drop_succ_cons, List.drop_succ_cons]
        have e1 : 1 ≤ k + 1 + run (k + 1) r := by omega
        have e2 : 1 ≤ k + (run (k + 1) r + 1) := by omega
        by_cases hh : (r.drop (run (k + 1) r)).head? = some 58
        · rw [if_pos ⟨e1, hh⟩, if_pos ⟨e2, hh⟩]
          omega
        · rw [if_neg (fun z => hh z.2), if_neg (fun z => hh z.2)]
      · have hn : ¬ (k < 8 ∧ isL c = true) := fun h => hk h.1
        rw [if_pos hc, if_neg hk, if_neg hn, List.drop_zero]
        rw [if_neg]
        intro z
        have : c = 58 := by simpa using z.2
        exact isL_ne hc (by decide) this
    · have hn : ¬ (k < 8 ∧ isL c = true) := fun h => hc h.2
      rw [if_neg hc, if_neg hn, List.drop_zero, Nat.zero_add, Nat.add_zero]
      show _ = (if 1 ≤ k ∧ some c = some 58 then lB r + 1 else 0)
      by_cases he : c = 58
      · rw [if_pos he]
        by_cases h1 : 1 ≤ k
        · rw [if_pos h1, if_pos ⟨h1, by rw [he]⟩]
        · rw [if_neg h1, if_neg (fun z => h1 z.1)]
      · rw [if_neg he, if_neg (fun z => he (Option.some.inj z.2))]
theorem lB_58 : ∀ (k : Nat) (r : List Nat), lC k r = r.length → 58 ∉ r
  | _, [], _ => by simp
  | k, c :: r, h => by
    unfold lC at h
    rw [List.length_cons] at h
    by_cases hc : isL c = true
    · rw [if_pos hc] at h
      split at h
      · have := lB_58 (k + 1) r (by omega)
        intro hm
        rcases List.mem_cons.mp hm with e | e
        · exact isL_ne hc (by decide) e.symm
        · exact this e
      · omega
    · rw [if_neg hc] at h
      split at h
      · split at h
        · have := lB_58 0 r (by omega)
          intro hm
          rcases List.mem_cons.mp hm with e | e
          · omega
          · exact this e
        · omega
      · omega
theorem lB_free {b : List Nat} (h : lB b = b.length) : 58 ∉ b := by
  cases b with
  | nil => simp
  | cons c r =>
    rw [lB_cons, List.length_cons] at h
    split at h
    · have := lB_58 0 r (by omega)
      intro hm
      rcases List.mem_cons.mp hm with e | e
      · omega
      · exact this e
    · omega
/-! ### what is told -/
inductive Told where
  | bad (n : Nat)
  | good (s : List Nat) (p : List (List Nat))
/-- the loop behind the colon: what is left, the path so far; how many signs stand ahead -/
def rdB : Nat → List Nat → Nat → List (List Nat) → Nat ⊕ List (List Nat)
  | _, [], _, path => .inr path
  | 0, _ :: _, n, _ => .inl n
  | f + 1, c :: r, n, path => if c ≠ 47 then .inl n else if run 0 r = 0 then .inl (n + 1) else rdB f (r.drop (run 0 r)) (n + 1 + run 0 r) (path ++ [r.take (run 0 r)])
def lastIs (b : List Nat) (c : Nat) : Prop := b.getLast? = some c
instance (b : List Nat) (c : Nat) : Decidable (lastIs b c) := inferInstanceAs (Decidable (_ = _))
def good (b : List Nat) : Prop := lB b = b.length ∧ ¬ lastIs b 47
instance (b : List Nat) : Decidable (good b) := inferInstanceAs (Decidable (_ ∧ _))
theorem rdB_is : ∀ (f : Nat) (b : List Nat) (n : Nat) (path : List (List Nat)), b.length ≤ f → rdB f b n path = if good b then .inr (path ++ (sp 47 b).tail) else .inl (n + lB b)
  | f, [], n, path, _ => by
    have g : good [] := ⟨rfl, by simp [lastIs]⟩
    rw [if_pos g]
    cases f <;> simp [rdB, sp]
  | 0, c :: r, n, path, h => by simp at h
  | f + 1, c :: r, n, path, h => by
    have hr : r.length ≤ f := by simpa using h
    show (if c ≠ 47 then .inl n else if run 0 r = 0 then .inl (n + 1) else rdB f (r.drop (run 0 r)) (n + 1 + run 0 r) (path ++ [r.take (run 0 r)])) = _
    by_cases hc : c = 47
    · rw [if_neg (fun z => z hc)]
      subst hc
      have e1 : lB (47 :: r) = lC 0 r + 1 := by rw [lB_cons, if_pos rfl]
      have e2 := lC_run r 0 (by decide)
      rw [Nat.zero_add] at e2
      by_cases hw : run 0 r = 0
      · rw [if_pos hw]
        rw [hw] at e2
        have e3 : lB (47 :: r) = 1 := by rw [e1, e2]; rfl
        have ng : ¬ good (47 :: r) := by
          intro g
          have g1 := g.1
          rw [e3, List.length_cons] at g1
          have : r = [] := List.length_eq_zero_iff.mp (by omega)
          subst this
          exact g.2 rfl
        rw [if_neg ng, e3]
      · rw [if_neg hw]
        have hw1 : 1 ≤ run 0 r := by omega
        rw [if_pos hw1] at e2
        have hle := run_le r 0
        have ih := rdB_is f (r.drop (run 0 r)) (n + 1 + run 0 r) (path ++ [r.take (run 0 r)]) (by rw [List.length_drop]; omega)
        rw [ih]
        have hsplit : r = r.take (run 0 r) ++ r.drop (run 0 r) := (List.take_append_drop _ _).symm
        have hlet := run_all r 0
        have h47 := no_of (d := 47) (by decide) hlet
        have hlen : (r.drop (run 0 r)).length = r.length - run 0 r := List.length_drop
        have iff : good (47 :: r) ↔ good (r.drop (run 0 r)) := by
          have hl : lB (47 :: r) = (47 :: r).length ↔ lB (r.drop (run 0 r)) = (r.drop (run 0 r)).length := by
            rw [e1, e2, hlen, List.length_cons]
            omega
          have hlast : lastIs (47 :: r) 47 ↔ lastIs (r.drop (run 0 r)) 47 := by
            unfold lastIs
            cases hd : r.drop (run 0 r) with
            | nil =>
              have ht : r.take (run 0 r) = r := by
                have e := hsplit
                rw [hd, List.append_nil] at e
                exact e.symm
              have hr0 : r ≠ [] := by
                intro e
                rw [e] at hw1
                simp [run] at hw1
              constructor
              · intro z
                rw [List.getLast?_cons_of_ne_nil hr0] at z
                have hm := List.mem_of_getLast? z
                rw [← ht] at hm
                exact absurd hm h47
              · intro z
                cases z
            | cons x y =>
              have e : 47 :: r = (47 :: r.take (run 0 r)) ++ (x :: y) := by
                rw [List.cons_append, ← hd, ← hsplit]
              have z : ((47 :: r.take (run 0 r)) ++ (x :: y)).getLast? = (x :: y).getLast? := by
                rw [List.getLast?_append]
                cases hz : (x :: y).getLast? with
                | none => simp at hz
                | some v => rfl
              rw [e, z]
          unfold good
          rw [hl, hlast]
        by_cases g : good (47 :: r)
        · rw [if_pos g, if_pos (iff.mp g)]
          rw [sp_hit, List.tail_cons]
          have g2 := (iff.mp g).1
          have key : sp 47 r = r.take (run 0 r) :: (sp 47 (r.drop (run 0 r))).tail := by
            cases hd : r.drop (run 0 r) with
            | nil =>
              have ht : r.take (run 0 r) = r := by
                have e := hsplit
                rw [hd, List.append_nil] at e
                exact e.symm
              rw [ht] at h47 ⊢
              rw [sp_free h47]
              rfl
            | cons x y =>
              have hx : x = 47 := by
                rw [hd, lB_cons] at g2
                split at g2
                · assumption
                · simp at g2
              subst hx
              have e : r = r.take (run 0 r) ++ 47 :: y := by
                rw [← hd]
                exact hsplit
              rw [sp_hit, List.tail_cons]
              exact (congrArg (sp 47) e).trans (sp_at h47)
          rw [key, List.append_assoc]
          rfl
        · rw [if_neg g, if_neg (fun z => g (iff.mpr z)), e1, e2]
          congr 1
          omega
    · rw [if_pos hc]
      have e : lB (c :: r) = 0 := by rw [lB_cons, if_neg hc]
      have ng : ¬ good (c :: r) := by
        intro g
        have := g.1
        rw [e, List.length_cons] at this
        omega
      rw [if_neg ng, e]
      rfl
/-- the whole reader -/
def rd (l : List Nat) : Told :=
  if run 0 l = 0 ∨ (l.drop (run 0 l)).head? ≠ some 58 then .bad (run 0 l)
  else match rdB l.length (l.drop (run 0 l + 1)) (run 0 l + 1) [] with
    | .inl n => .bad n
    | .inr p => .good (l.take (run 0 l)) p
/-- the law's own -/
def due (l : List Nat) : Told :=
  if lA 0 l < l.length then .bad (lA 0 l) else match sp 58 l with
  | [a, b] => if lastIs b 47 then .bad (lA 0 l) else .good a (sp 47 b).tail
  | _ => .bad (lA 0 l)
theorem rd_due (l : List Nat) : rd l = due l := by
  have e := lA_run l 0 (by decide)
  rw [Nat.zero_add] at e
  have hle := run_le l 0
  have hlet := run_all l 0
  have h58 := no_of (d := 58) (by decide) hlet
  unfold rd
  by_cases hw : run 0 l = 0 ∨ (l.drop (run 0 l)).head? ≠ some 58
  · rw [if_pos hw]
    have hn : ¬ (1 ≤ run 0 l ∧ (l.drop (run 0 l)).head? = some 58) := by
      rintro ⟨h1, h2⟩
      rcases hw with h | h
      · omega
      · exact h h2
    rw [if_neg hn, Nat.add_zero] at e
    unfold due
    rw [e]
    by_cases hlt : run 0 l < l.length
    · rw [if_pos hlt]
    · rw [if_neg hlt]
      have ht : l.take (run 0 l) = l := List.take_of_length_le (by omega)
      rw [ht] at h58
      rw [sp_free h58]
  · rw [if_neg hw]
    have h1 : 1 ≤ run 0 l := by
      rcases Nat.eq_zero_or_pos (run 0 l) with h | h
      · exact absurd (.inl h) hw
      · exact h
    have h2 : (l.drop (run 0 l)).head? = some 58 := by
      by_cases h : (l.drop (run 0 l)).head? = some 58
      · exact h
      · exact absurd (.inr h) hw
    rw [if_pos ⟨h1, h2⟩] at e
    have hd : l.drop (run 0 l) = 58 :: l.drop (run 0 l + 1) := by
      cases hx : l.drop (run 0 l) with
      | nil =>
        rw [hx] at h2
        cases h2
      | cons x y =>
        rw [hx] at h2
        have ex : x = 58 := by simpa using h2
        have ey : y = l.drop (run 0 l + 1) := by
          have z := congrArg (List.drop 1) hx
          rw [List.drop_drop] at z
          simpa using z.symm
        rw [ex, ey]
    have hl : l = l.take (run 0 l) ++ 58 :: l.drop (run 0 l + 1) := by
      rw [← hd]
      exact (List.take_append_drop _ _).symm
    generalize hb : l.drop (run 0 l + 1) = b at *
    have hlen : l.length = run 0 l + (b.length + 1) := by
      have z := congrArg List.length hl
      rw [List.length_append, List.length_take, List.length_cons, Nat.min_eq_left hle] at z
      exact z
    rw [rdB_is l.length b (run 0 l + 1) [] (by omega)]
    have hsp : sp 58 l = l.take (run 0 l) :: sp 58 b := (congrArg (sp 58) hl).trans (sp_at h58)
    have hbl := lB_le b
    unfold due
    rw [e]
    by_cases hfull : lB b = b.length
    · have hnl : ¬ (run 0 l + (lB b + 1) < l.length) := by omega
      rw [if_neg hnl, hsp, sp_free (lB_free hfull)]
      by_cases hz : lastIs b 47
      · have ng : ¬ good b := fun g => g.2 hz
        rw [if_neg ng]
        show Told.bad _ = (if lastIs b 47 then Told.bad _ else _)
        rw [if_pos hz]
        congr 1
        omega
      · rw [if_pos (show good b from ⟨hfull, hz⟩)]
        show Told.good _ _ = (if lastIs b 47 then _ else Told.good _ _)
        rw [if_neg hz]
        rfl
    · have hlt : run 0 l + (lB b + 1) < l.length := by omega
      rw [if_pos hlt, if_neg (fun g : good b => hfull g.1)]
      show Told.bad _ = Told.bad _
      congr 1
      omega
end AddrMath

/-! A law whose body needs to know that no repr is under way: its def's promise where the list of running reprs is known to be empty, and the end of the row by it. -/
namespace GR
open PySem PySem.Spec PyProof.Rows L2 SX
/-- no repr runs -/
abbrev Quiet (Ar : Around) : Prop := Ar.guards = some []
theorem quiet_deeper {Ar : Around} {e : Env} (h : Quiet Ar) : Quiet (Ar.deeper e) := h
structure FnQ (pr : Program) (wo : World) (F : PySem.W.Frag) (gl : Str → Option Value) (b0 : Heap) (n : Nat) (at_ : Addr) (fd : FuncData) (names : List Str) (sp : Sp) : Prop where
  many : ∀ vs H Q E, sp vs H Q E → vs.length = names.length
  runs : ∀ (Ar : Around) (fs : List Env) (s : Shared) (H : Hp) (gs : Args) (us : List Value) (vs : List V) (Q : VK) (E : XK),
    Quiet Ar → Room n Ar → Env0 pr wo F gl b0 Ar fs s H → BindsTo s fd gs (names.zip us) → Vals vs us → sp vs H Q E →
    codeAny (model pr wo) Ar (.call (.ref at_) gs) (CR CX0 fs pr wo H s Q E) s
section
variable {pr : Program} {wo : World} {F : PySem.W.Frag} {gl : Str → Option Value} {b0 : Heap}
theorem quiet_fn {x qual : Str} {st : Stmt} {at_ : Addr} {fd : FuncData} {N names : List Str} {n : Nat} {sp : Sp} (D : Fun F x qual st at_ fd) (S : FnScope N names (defScope st))
    (many : ∀ vs H Q E, sp vs H Q E → vs.length = names.length)
    (body : ∀ (cd : Value) (Ar : Around) (fs : List Env) (s : Shared) (H : Hp) (vs : List V) (Q : VK) (E : XK), Quiet Ar →
      Room n (Ar.deeper (envOfC qual (defScope st) s.heap.objs.size at_ cd)) → sp vs H Q E →
      ∃ t, PSs (cxOf CX0 pr wo F gl b0 N qual (defScope st) at_ cd Ar fs s H E).nox (defBody st) t ∧
        t { nx := fun _ H' => Q .non H', rt := Q } (start N vs) H) :
    FnQ pr wo F gl b0 (n + 1) at_ fd names sp := by
  obtain ⟨oc, od, kV, doc, pm, an, cd, ct, osl, rfl, here, code⟩ := D.ex
  refine ⟨many, ?_⟩
  intro Ar fs s H gs us vs Q E quiet room e0 binds rel want
  have FX : F.In s.heap := e0.mod.kin.keeps (fun b o e => (e0.bs b o e).1)
  have lim : s.heap.NoLimit := e0.mod.nolimit.keeps (fun b o e => (e0.bs b o e).1)
  refine codeAny_call_function room.depth (FX _ _ here) rfl S.co S.gen rfl (PySem.W.codeRec_of FX code) (binds _ _ _ _ ?_)
  refine wpAny_newFunctionEnv_cells S.kind ?_ (fun en en_is s1 inside => ?_)
  · rintro ⟨nm, v⟩ mem
    rcases S.par nm (List.of_mem_zip mem).1 with q | q
    · exact Or.inl q
    · exact Or.inr ⟨q, PySem.W.cellsFrom_some _ _ _ (Or.inl q)⟩
  subst en_is
  refine ⟨lim.keeps inside.toInCall.keep, codeAny_func ?_⟩
  obtain ⟨t, reads, does⟩ := body cd Ar fs s H vs Q E quiet (room.deeper _) want
  have I0 := inv_start (CX := CX0) (E := E) S room.hd e0 (many _ _ _ _ want) rel inside
  refine wpAny_mono (reads.nox.run [] s1 (start N vs) H _ I0 does) ?_ (fun _ _ h => h)
  intro fl s' ends
  cases fl with
  | next =>
    obtain ⟨σ', H', J, q⟩ := ends
    exact ⟨V.non, H', J.os, J.bare, J.base, J.hok, rfl, q⟩
  | ret u =>
    obtain ⟨v, σ', H', J, rv, q⟩ := ends
    exact ⟨v, H', J.os, J.bare, J.base, J.hok, rv, q⟩
  | brk =>
    obtain ⟨_, _, _, z⟩ := ends
    exact z.elim
  | cont =>
    obtain ⟨_, _, _, z⟩ := ends
    exact z.elim
end
/-- the heap behind the top with the script alone in view -/
theorem quiet_from {pr : Program} {wo : World} {F : PySem.W.Frag} {gl gb : Str → Option Value} {n : Nat} {at_ sc : Addr} {fd : FuncData} {x : Str} {sp : Sp} {s : Shared} {ns : List Int} {ob : Obj} {H : Hp}
    (inF : F.In s.heap) (nsm : s.heap.Ns mainGlobals gl) (nsb : s.heap.Ns builtinsNs gb) (bb : ∀ y : Str, y ≠ "__name__" → gb y = bootBuiltins y) (lim : s.heap.NoLimit) (ng : s.gens = #[])
    (atS : s.heap.get? sc = some ob) (seq : ∃ its k, ob.data = .seq its k) (room : Room n callerA)
    (D : ∀ b0 : Heap, F.In b0 → b0.Ns mainGlobals gl → FnQ pr wo F gl b0 n at_ fd [x] sp) (binds : ∀ (s : Shared) (u : Value), BindsTo s fd ⟨[u], []⟩ [(x, u)])
    (want : sp [.ref sc] H (fun v _ => v = .bl true) fun _ _ _ => False)
    (only : Only H) (ok : HOk pr wo H s.heap) (isS : ∀ b, H b ≠ none → b = sc) (away : H sc ≠ none → F.lookup sc = none) :
    codeAny (model pr wo) callerA (.call (.ref at_) ⟨[.ref sc], []⟩) (fun r s' => r = .ok (.ret (.bool true)) ∧ OldK s.heap s'.heap ∧ s'.os = s.os ∧ AllBare s'.gens) s := by
  have out : ∀ {b : Addr} {o : Obj}, s.heap.get? b = some o → (b = sc → H b = none) → (hidT s.heap H).get? b = some o := fun {b o} e h => hidT_get e (by
    cases q : H b with
    | none => rfl
    | some u => exact (by rw [h (isS b (by rw [q]; exact fun z => nomatch z))] at q; cases q))
  have dict : ∀ {b : Addr} {m : Str → Option Value}, s.heap.Ns b m → (hidT s.heap H).Ns b m := by
    rintro b m ⟨o, es, ep, e, d, rest⟩
    refine ⟨o, es, ep, out e (fun z => ?_), d, rest⟩
    exfalso
    subst z
    obtain ⟨its, k, hs⟩ := seq
    rw [atS] at e
    cases e
    rw [hs] at d
    cases d
  have inB : F.In (hidT s.heap H) := fun b o e => out (inF b o e) (fun z => by
    cases q : H b with
    | none => rfl
    | some u =>
      rw [z] at q e
      rw [away (by rw [q]; exact fun z => nomatch z)] at e
      cases e)
  have e0 : Env0 pr wo F gl (hidT s.heap H) callerA [] s H := by
    refine ⟨rfl, ⟨inB, dict nsm, ⟨gb, dict nsb, bb⟩, ?_⟩, fun b o e => of_hidT e, Nat.le_of_eq (hidT_size _ _), trivial, ?_, ok, .of_eq ng⟩
    · obtain ⟨mc, h1, h2⟩ := lim
      exact ⟨mc, dict h1, h2⟩
    · intro b hb
      cases (show b ∈ ([] : List Addr) from hb)
  refine codeAny_mono ((D _ inB (dict nsm)).runs callerA [] s H ⟨[.ref sc], []⟩ [.ref sc] [.ref sc] _ _ rfl room e0 (binds s (.ref sc)) (.cons rfl .nil) want) ?_
  rintro (e | fl) s' h
  · exact (show False from h).elim
  cases fl with
  | next => exact (show False from h).elim
  | brk => exact (show False from h).elim
  | cont => exact (show False from h).elim
  | ret u =>
    obtain ⟨v, H', os, bare, un, ok', rel, q⟩ := h
    cases (show v = V.bl true from q)
    cases (show u = Value.bool true from rel)
    refine ⟨rfl, OldK.of_keep (fun b o e => ?_), os, bare⟩
    cases q : H b with
    | none => exact un.keep b o e q (fun z => by cases (show b ∈ ([] : List Addr) from z)) (by simp)
    | some u =>
      rcases only b with z | ⟨ob', xs, z⟩
      · rw [q] at z
        cases z
      · have p1 := (ok b _ z).1
        have p2 := (ok' b _ (un.frzs b ob' _ z)).1
        rw [e] at p1
        cases p1
        exact p2
/-- the end of a row whose law knows that no repr runs -/
theorem walk_quiet {l : PySem.W.OpenLaw} {most n : Nat} {q : Program} {loose : List Str} {XP : (Str → Option Value) → Heap → Prop} {YP : World → Heap → Prop} {d : DefRec} {F : Params → PySem.W.Frag} {sp : World → Sp} {x : Str}
    (hm : l.most = some most) (small : most ≤ sizeLine) (nd : d.params.defaults = []) (room : Room n callerA)
    (hY : ∀ (wo : World) (h : Heap), YP wo h → (F wo.params).In h)
    (D : ∀ (wo : World) (gl : Str → Option Value) (at_ : Addr) (h : Heap), (F wo.params).In h → h.Ns mainGlobals gl → gl d.name = some (.ref at_) →
      ∃ fd : FuncData, (∀ (s : Shared) (u : Value), BindsTo s fd ⟨[u], []⟩ [(x, u)]) ∧
        ∀ b0 : Heap, (F wo.params).In b0 → b0.Ns mainGlobals gl → FnQ l.prog wo (F wo.params) gl b0 n at_ fd [x] (sp wo))
    (want : ∀ (wo : World) (H : Hp) (sc : Addr) (ns : List Int), ns.length ≤ most → Only H → SqL (F wo.params) H sc (ns.map V.int) → sp wo [.ref sc] H (fun v _ => v = .bl true) fun _ _ _ => False) :
    PySem.W.WalkO q loose XP YP l.row.toRowW d [] (fun f vs => PySem.call f vs) := by
  refine Att.attach_call hm nd ?_
  intro wo s₀ s gl gb at_ o pm cd doc sc vs ns G Y ho hd hcd hgl atS areI len ng
  have inF := hY wo _ Y
  obtain ⟨fd, binds, D0⟩ := D wo gl at_ _ inF G.T.g hgl
  have rv := vals_ints areI
  have lenV := areI.length
  have small' : ns.length ≤ sizeLine := Nat.le_trans len small
  have go := fun (H : Hp) (only : Only H) (seen : SqL (F wo.params) H sc (ns.map V.int)) =>
    quiet_from (pr := l.prog) (wo := wo) (ns := ns) inF G.T.g G.T.b G.T.builtins G.T.nolimit ng atS ⟨vs.toArray, _, rfl⟩ room D0 binds (want wo H sc ns len only seen) only
  by_cases known : (F wo.params).lookup sc = none
  · refine go (fun b => if b = sc then some (.frz { cls := .type "list", data := .seq vs.toArray } (.lst (ns.map V.int))) else none) (fun b => ?_) (Or.inl (Or.inr ⟨{ cls := .type "list", data := .seq vs.toArray }, if_pos rfl⟩)) ?_ (fun b ne => ?_) (fun _ => known)
    · by_cases e : b = sc
      · exact Or.inr ⟨_, _, if_pos e⟩
      · exact Or.inl (if_neg e)
    · intro b u e
      by_cases eq : b = sc
      · have e' := (if_pos eq).symm.trans e
        cases e'
        subst eq
        exact ⟨atS, by rw [List.length_map]; exact small', vs, _, rv, atS⟩
      · have e' := (if_neg eq).symm.trans e
        cases e'
    · by_cases eq : b = sc
      · exact eq
      · exact absurd (if_neg eq) ne
  · obtain ⟨o', ho'⟩ := Option.ne_none_iff_exists'.mp known
    have e := (atS.symm.trans (inF sc o' ho'))
    cases e
    refine go (fun _ => none) (fun _ => Or.inl rfl) (Or.inr ⟨_, vs.toArray, _, ho', rfl, rfl, rfl, by rw [List.size_toArray, lenV]; exact small', by simpa using rv⟩) (fun b u e => by cases (show (none : Option HO) = some u from e)) (fun b ne => absurd rfl ne) (fun ne => absurd rfl ne)
end GR

/-! Operations a law needs beside the hand layer's: repr of data where no repr runs, the order of data, comparisons that a class of the text defines (instances with a dict), isinstance of such an instance. -/
namespace GR
open PySem PySem.W PySem.Spec PySem.Calls PyProof.Rows L2 SX
section
variable {X : Cx}
/-- repr(x), x a list or a tuple of plain data -/
def rRepr (K : Frag) (A : Around) : List V → Hp → VK → Prop := fun xs H Q => ∃ (a : Addr) (d : PyData), xs = [.ref a] ∧ Dp K H (.ref a) d ∧ d.showable = true ∧ d.hasDict = false ∧ A.units + (d.depth + 1) < cLine ∧ d.shown.length ≤ sizeLine ∧ Q (.str d.shown) H
theorem call_reprD (quiet : Quiet X.A) : CallR X (.builtin "repr") (rRepr X.K X.A) := by
  intro pins s σ H xs us Q I rel h
  obtain ⟨a, d, rfl, dp, sh, nd, room, len, q⟩ := h
  obtain ⟨u, rfl, ru⟩ := rel.one
  cases (show u = Value.ref a from ru)
  obtain ⟨as, rd⟩ := dp.reads I d _ _ rfl
  exact repr_of_reads' rd sh (PyData.noDict_hsm nd) quiet room (fun _ _ e => e) (fun h' u tk hk => ⟨.str d.shown, H, I.kept hk, ⟨_, rfl⟩, q⟩) len
/-- x op y of two values that read as data with an order -/
def rDat {α : Type} [DecidableEq α] [DatumOrd α] (K : Frag) (f : α → α → Bool) : R2 := fun x y H Q => ∃ p q : α, Dp K H x (Datum.toD p) ∧ Dp K H y (Datum.toD q) ∧ Q (.bl (f p q)) H
section
variable {α : Type} [DecidableEq α] [DatumOrd α]
theorem opd_lt (hu : X.A.units + Datum.depth α < cLine) : OpR X (compareOp .Lt) (rDat (α := α) X.K fun p q => DatumOrd.lt p q) := by
  intro pins s σ H x y v u Q I rx ry ⟨p, q, hp, hq, fin⟩
  exact lt_datum (Dp.reads I _ _ _ hp rx) (Dp.reads I _ _ _ hq ry) hu ⟨.bl _, H, I, rfl, fin⟩
theorem opd_gt (hu : X.A.units + Datum.depth α < cLine) : OpR X (compareOp .Gt) (rDat (α := α) X.K fun p q => DatumOrd.lt q p) := by
  intro pins s σ H x y v u Q I rx ry ⟨p, q, hp, hq, fin⟩
  exact gt_datum (Dp.reads I _ _ _ hp rx) (Dp.reads I _ _ _ hq ry) hu ⟨.bl _, H, I, rfl, fin⟩
theorem opd_le (hu : X.A.units + Datum.depth α < cLine) : OpR X (compareOp .LtE) (rDat (α := α) X.K fun p q => !DatumOrd.lt q p) := by
  intro pins s σ H x y v u Q I rx ry ⟨p, q, hp, hq, fin⟩
  exact le_datum (Dp.reads I _ _ _ hp rx) (Dp.reads I _ _ _ hq ry) hu ⟨.bl _, H, I, rfl, fin⟩
theorem opd_ge (hu : X.A.units + Datum.depth α < cLine) : OpR X (compareOp .GtE) (rDat (α := α) X.K fun p q => !DatumOrd.lt p q) := by
  intro pins s σ H x y v u Q I rx ry ⟨p, q, hp, hq, fin⟩
  exact ge_datum (Dp.reads I _ _ _ hp rx) (Dp.reads I _ _ _ hq ry) hu ⟨.bl _, H, I, rfl, fin⟩
theorem opd_eq (hu : X.A.units + Datum.depth α < cLine) : OpR X (compareOp .Eq) (rDat (α := α) X.K fun p q => decide (p = q)) := by
  intro pins s σ H x y v u Q I rx ry ⟨p, q, hp, hq, fin⟩
  exact eq_datum (Dp.reads I _ _ _ hp rx) (Dp.reads I _ _ _ hq ry) hu ⟨.bl _, H, I, rfl, fin⟩
theorem opd_ne (hu : X.A.units + Datum.depth α < cLine) : OpR X (compareOp .NotEq) (rDat (α := α) X.K fun p q => decide (p ≠ q)) := by
  intro pins s σ H x y v u Q I rx ry ⟨p, q, hp, hq, fin⟩
  exact ne_datum (Dp.reads I _ _ _ hp rx) (Dp.reads I _ _ _ hq ry) hu ⟨.bl _, H, I, rfl, fin⟩
end
/-- x op y of two instances of the class at C, by its own def -/
def rIns (C : Addr) (sp : Sp) : R2 := fun x y H Q => ∃ (a b dx dy : Addr) (fs gs : List (Str × V)), x = .ref a ∧ y = .ref b ∧ H a = some (.ins C dx fs) ∧ H b = some (.ins C dy gs) ∧ sp [x, y] H Q E0
section
variable {C f : Addr} {fd : FuncData} {ps : List Str} {n : Nat} {sp : Sp}
theorem own_cmp {op : CmpOp} (hop : ∀ a b, compareOp op a b = richCompare op a b) (at_ : findIn X.K (.ref C) (cmpInfo op).2.1 = some (some (.ref f))) (isF : isFn X.K (.ref f) = true)
    (F : FnOk X.prog X.w X.K X.mg X.base CX0 n f fd ps sp) (hb : Binds X.K fd ps []) (room : Room n X.A) : OpR X (compareOp op) (rIns C sp) := by
  intro pins s σ H x y v u Q I rx ry ⟨a, b, dx, dy, fs, gs, ex, ey, ha, hb', q⟩
  subst ex; subst ey
  cases (show v = Value.ref a from rx); cases (show u = Value.ref b from ry)
  obtain ⟨_, J, _⟩ := ins_get I.hok ha
  obtain ⟨_, J', _⟩ := ins_get I.hok hb'
  obtain ⟨od, J, _⟩ := J.look
  obtain ⟨od', J', _⟩ := J'.look
  obtain ⟨m, hF⟩ := I.fr
  rw [hop]
  refine cmp_K (op := op) (tb := .ref C) room.units0 hF I.ok.mod.kin J J'.type (by simp [notFirst]) at_ isF ?_
  refine wpAny_mono (run_fn (us := [.ref a, .ref b]) (vs := [.ref a, .ref b]) F room hb .nil pass0 I (.cons rfl (.cons rfl .nil)) q) ?_ (fun _ _ e => e)
  rintro w s' ⟨z, H', I', rz, qz⟩
  exact SlX.cmpback rz ⟨z, H', I', rz, qz⟩
/-- != where the class has == alone -/
def rNeI (C : Addr) (sp : Sp) : R2 := fun x y H Q => ∃ (a b dx dy : Addr) (fs gs : List (Str × V)), x = .ref a ∧ y = .ref b ∧ H a = some (.ins C dx fs) ∧ H b = some (.ins C dy gs) ∧ sp [x, y] H (fun z H' => ∃ t, z = .bl t ∧ Q (.bl (!t)) H') E0
theorem bindSlot {M : Model} {h : Heap} (self : Value) : Looks M h (bindSpecial (.builtin "object.__ne__") self) (.builtin "object.__ne__", [self]) := Looks.of_pure (PySem.F.slot_object_ne.bind self)
theorem ifBound_B {K : Frag} {M : Model} {A : Around} {E : Value → Shared → Prop} {s : Shared} {x C : Addr} {ox : Obj} {od : Option Obj} {id : String} {name : Str} {args : List Value} {Q : Option Value → Shared → Prop} (inK : K.In s.heap) (J : InstAt s.heap x ox C od)
    (at_ : findIn K (.ref C) name = some (some (.builtin id))) (bd : Looks M s.heap (bindSpecial (.builtin id) (.ref x)) (.builtin id, [.ref x]))
    (h : wpAny M A (call (.builtin id) (.ref x :: args)) (fun v => Q (some v)) E s) : wpAny M A (callSpecialIfBound? (.ref x) name args) Q E s := by
  simp only [callSpecialIfBound?, bindSpecialIfBound?]
  refine wpAny_holding (wpAny_bind (wpAny_bind (wpAny_bind (J.type.here ((looks_findIn inK at_).here ?_)))))
  have fin : wpAny M A (call (.builtin id) ([.ref x] ++ args) >>= fun v => pure (some v)) Q E s := wpAny_bind (wpAny_mono h (fun v s' q => wpAny_pure q) fun _ _ q => q)
  refine wpAny_bind (wpAny_askSetting (wpAny_ite ?_))
  split
  · exact wpAny_bind (bd.here (wpAny_pure (by exact fin)))
  · exact wpAny_tryCatch (wpAny_bind (bd.here (wpAny_pure (by exact fin))))
theorem own_ne (at_ : findIn X.K (.ref C) "__eq__" = some (some (.ref f))) (isF : isFn X.K (.ref f) = true) (ne_ : findIn X.K (.ref C) "__ne__" = some (some (.builtin "object.__ne__"))) (ob : subIn X.K (.ref C) (.type "object") = some true)
    (F : FnOk X.prog X.w X.K X.mg X.base CX0 n f fd ps sp) (hb : Binds X.K fd ps []) (room : Room (n + 1) X.A) : OpR X (compareOp .NotEq) (rNeI C sp) := by
  intro pins s σ H x y v u Q I rx ry ⟨a, b, dx, dy, fs, gs, ex, ey, ha, hb', q⟩
  subst ex; subst ey
  cases (show v = Value.ref a from rx); cases (show u = Value.ref b from ry)
  obtain ⟨_, J, _⟩ := ins_get I.hok ha
  obtain ⟨_, J', _⟩ := ins_get I.hok hb'
  obtain ⟨od, J, _⟩ := J.look
  obtain ⟨od', J', _⟩ := J'.look
  have inK : X.K.In s.heap := I.kIn
  have room1 : Room n X.A.in1 := room.in1
  have go : wpAny (model X.prog X.w) X.A.in1 (call (.ref f) [.ref a, .ref b]) (fun r s' => ∃ t, r = .bool t ∧ EP X pins σ Q (.bool (!t)) s') X.xe s := by
    have bs := hb s [.ref a, .ref b] inK (by rw [List.append_nil]; exact F.len _ _ _ _ q)
    refine wpAny_call (codeAny_mono (F.run X.A.in1 X.stack s H ⟨[.ref a, .ref b], []⟩ [.ref a, .ref b] [.ref a, .ref b] _ E0 room1 I.env0.in1 bs (.cons rfl (.cons rfl .nil)) q) ?_)
    rintro (e | fl) s' h
    · exact (show False from h).elim
    cases fl with
    | next => exact (show False from h).elim
    | brk => exact (show False from h).elim
    | cont => exact (show False from h).elim
    | ret r =>
      obtain ⟨z, H', I', rz, t, ez, qz⟩ := I.after h
      subst ez
      cases (show r = Value.bool t from rz)
      exact ⟨t, rfl, .bl (!t), H', I', rfl, qz⟩
  have inner : wpAny (model X.prog X.w) X.A (call (.builtin "object.__ne__") [.ref a, .ref b]) (fun r s' => ∃ t, r = .bool (!t) ∧ EP X pins σ Q (.bool (!t)) s') X.xe s := by
    refine wpAny_call (codeAny_call_builtin PySem.F.slot_object_ne.plain PySem.F.cmpEntry_ne (check_slot PySem.F.cmpKind_ne PySem.F.cmpSplit_ne (J.type.andThen (looks_subIn inK ob)) (PySem.F.cmpArgs_ne _ _) ?_))
    unfold Builtin.«object.__ne__»
    repeat (first
      | with_reducible refine wpAny_cRoomFor room1.units0 ?_
      | (refine wpAny_bind (m := callSpecialIfBound? (.ref a) (Str.ofString "__eq__") [.ref b]) (ifBound_K inK J at_ isF (wpAny_mono go (fun r s' hr => by
          obtain ⟨t, rfl, hq⟩ := hr
          repeat (first | exact ⟨t, rfl, hq⟩ | exact wpAny_pure ⟨t, rfl, hq⟩ | exact wpAny_truthy_bool ⟨t, rfl, hq⟩ | (refine wpAny_bind (m := truthy (.bool _)) (wpAny_truthy_bool ?_)) | wp_step)) fun _ _ e => e)))
      | wp_step)
  have one : wpAny (model X.prog X.w) X.A (tryCompare (.ref a) "__ne__" (.ref b)) (fun r s' => ∃ v, r = some v ∧ EP X pins σ Q v s') X.xe s := by
    unfold tryCompare
    refine wpAny_bind (ifBound_B inK J ne_ (bindSlot _) (wpAny_mono inner ?_ fun _ _ e => e))
    rintro r s' ⟨t, rfl, hq⟩
    exact wpAny_pure ⟨_, rfl, hq⟩
  show wpAny _ _ (richCompare .NotEq (.ref a) (.ref b)) _ _ _
  unfold richCompare
  simp only [oneThing_ref]
  refine wpAny_holding (wpAny_bind (wpAny_cRoomFor room.units0 ?_))
  refine wpAny_bind (J.type.here (wpAny_bind (J'.type.here ?_)))
  rw [show (Value.ref C != Value.ref C) = false from by simp]
  simp only [Bool.false_eq_true, if_false]
  refine wpAny_bind (wpAny_pure ?_)
  simp only [Bool.false_eq_true, if_false]
  refine wpAny_bind (wpAny_mono one ?_ fun _ _ e => e)
  rintro r s' ⟨v, rfl, hq⟩
  exact wpAny_pure hq
end
end
end GR

/-! sorted(set(xs)), xs a list of texts -/
namespace TxSet
open PySem PySem.Spec PyProof.Rows L2
abbrev sk (P : Program) (w : World) := PySem.strKind P w
def wd (e : Int × Value) : Str := match e.2 with | .str x _ => x | _ => Str.empty
def Tx (w : World) (e : Int × Value) : Prop := ∃ x u, e.2 = Value.str x u ∧ e.1 = hashStr w x
/-- the set of texts at a -/
def SetX (w : World) (h : Heap) (a : Addr) (M : Str → Bool) (m : Nat) : Prop :=
  ∃ ob cells ep tb, h.get? a = some ob ∧ ob.ExactSet ∧ ob.data = .set cells ep tb ∧ (∀ c ∈ cells.toList, Tx w c) ∧ (cells.toList.map wd).Nodup ∧ (∀ z, M z = true ↔ z ∈ cells.toList.map wd) ∧
    cells.size < scanBound ∧ tb.fits cells.size = true ∧ cells.size = m ∧ Ris tb.place.toList ∧ (w.params.followText "set-order" = true ∨ tb.led = true)
section
variable {P : Program} {w : World} {h h' : Heap} {a : Addr} {M : Str → Bool} {m : Nat}
theorem SetX.stay (R : SetX w h a M m) (k : ∀ ob, h.get? a = some ob → h'.get? a = some ob) : SetX w h' a M m := by
  obtain ⟨ob, cells, ep, tb, ho, r⟩ := R
  exact ⟨ob, cells, ep, tb, k ob ho, r⟩
theorem SetX.like {M' : Str → Bool} (R : SetX w h a M m) (e : ∀ z, M' z = M z) : SetX w h a M' m := by
  have q : M' = M := funext e
  rw [q]
  exact R
theorem tx_elems {l : List (Int × Value)} (g : ∀ c ∈ l, Tx w c) : ElemsOf (sk P w) l := fun c hc => by
  obtain ⟨z, u, h1, h2⟩ := g c hc
  exact ⟨⟨z, by rw [h1]; exact PySem.strKind_is P w z u, h2⟩, by rw [h1] <;> rfl⟩
theorem tx_is {c : Int × Value} (g : Tx w c) (z : Str) : (sk P w).is z c.2 = true ↔ wd c = z := by
  obtain ⟨z0, u, h1, _⟩ := g
  unfold wd
  rw [h1]
  constructor
  · intro q
    exact (sk P w).inj _ _ _ (PySem.strKind_is P w z0 u) q
  · intro q
    have q' : z0 = z := q
    rw [← q']
    exact PySem.strKind_is P w z0 u
theorem tx_mem {l : List (Int × Value)} (g : ∀ c ∈ l, Tx w c) (z : Str) : z ∈ l.map wd ↔ ∃ c ∈ l, (sk P w).is z c.2 = true := by
  rw [List.mem_map]
  constructor
  · rintro ⟨c, hc, q⟩
    exact ⟨c, hc, (tx_is (g c hc) z).2 q⟩
  · rintro ⟨c, hc, q⟩
    exact ⟨c, hc, (tx_is (g c hc) z).1 q⟩
theorem SetX.setOf (R : SetX w h a M m) : h.SetOf (sk P w) a M m := by
  obtain ⟨ob, cells, ep, tb, ho, hx, hd, g, nd, hm, hb, hf, hn, _⟩ := R
  exact ⟨ob, cells, ep, tb, ho, hx, hd, tx_elems g, fun z => (hm z).trans (tx_mem g z), hb, hf, hn⟩
end
section
variable {P : Program} {w : World} {A : Around} {E : Value → Shared → Prop} {s : Shared} {a : Addr} {M : Str → Bool} {m : Nat}
/-- behind the laying of a new entry: the table is stored, and laid anew where it is too full -/
theorem lay_tail {gv : Bool → Sem Unit} (hgv : ∀ (b : Bool) (s₁ : Shared) (Q' : Unit → Shared → Prop), Q' () s₁ → wpAny (model P w) A (gv b) Q' E s₁)
    {ob : Obj} {cells : Array (Int × Value)} {ep : Nat} {tb : SetTable} (ho : s.heap.get? a = some ob) (hex : ob.ExactSet) (hd : ob.data = .set cells ep tb)
    {c1 : Array (Int × Value)} {t2 : SetTable} {M' : Str → Bool} (g1 : ∀ c ∈ c1.toList, Tx w c) (nd1 : (c1.toList.map wd).Nodup) (m1 : ∀ z, M' z = true ↔ z ∈ c1.toList.map wd)
    (hb1 : c1.size < scanBound) (hf2 : t2.fits c1.size = true) (hr : Ris t2.place.toList) (hl : w.params.followText "set-order" = true ∨ t2.led = true) {dum : Bool} {R : Option Bool → Shared → Prop}
    (hR : ∀ h', Heap.SameBut a s.heap h' → SetX w h' a M' c1.size → R (some true) { s with heap := h' }) :
    wpAny (model P w) A (do
        storeSet a c1 t2
        if (!dum && t2.tooFull) = true then do
            gv (relayAll t2 c1 (SetTable.grown c1.size)).2.2
            storeSet a (relayAll t2 c1 (SetTable.grown c1.size)).1 (relayAll t2 c1 (SetTable.grown c1.size)).2.1
            pure (some true)
          else pure (some true)) R E s := by
  refine wpAny_bind (wpAny_storeSet_of ho hd ?_ (fits_of_scanBound hb1))
  have ho1 := store_at (es' := c1) (t' := t2) ho hd
  have sb1 := Heap.SameBut.update s.heap a (Obj.putSet c1 t2)
  split
  · have pm := relayAll_perm t2 c1 (SetTable.grown c1.size)
    have hf3 := relayAll_fits t2 c1 (SetTable.grown c1.size)
    have hr3 := relayAll_ris t2 c1 (SetTable.grown c1.size)
    have hl3 := relayAll_led t2 c1 (SetTable.grown c1.size)
    generalize relayAll t2 c1 (SetTable.grown c1.size) = Z at pm hf3 hr3 hl3 ⊢
    obtain ⟨c2, t3, gave⟩ := Z
    dsimp only at pm hf3 hr3 hl3 ⊢
    have hsz : c2.size = c1.size := by rw [← Array.length_toList, pm.length_eq, Array.length_toList]
    have hb2 : c2.size < scanBound := by rw [hsz]; exact hb1
    refine wpAny_bind (hgv _ _ _ ?_)
    refine wpAny_bind (wpAny_storeSet_of ho1 rfl ?_ (fits_of_scanBound hb2))
    have ho2 := store_at (es' := c2) (t' := t3) ho1 rfl
    refine wpAny_pure (hR _ (sb1.trans (Heap.SameBut.update _ a _)) ?_)
    exact ⟨_, c2, _, t3, ho2, hex, rfl, fun c hc => g1 c (pm.mem_iff.mp hc), (pm.map wd).nodup_iff.mpr nd1, fun z => (m1 z).trans (pm.map wd).mem_iff.symm, hb2, hf3, hsz, hr3,
      hl.imp id fun z => by rw [hl3]; exact z⟩
  · exact wpAny_pure (hR _ sb1 ⟨_, c1, _, t2, ho1, hex, rfl, g1, nd1, m1, hb1, hf2, rfl, hr, hl⟩)
theorem add_hashed {z : Str} {u : Tok} {Q : Bool → Shared → Prop} (R : SetX w s.heap a M m) (room : m + 1 < scanBound)
    (hQ : ∀ h', Heap.SameBut a s.heap h' → SetX w h' a (fun j => M j || decide (j = z)) (if M z = true then m else m + 1) → Q (!M z) { s with heap := h' }) :
    wpAny (model P w) A (setAddHashed a (.str z u) ((sk P w).hash z)) Q E s := by
  obtain ⟨ob, cells, ep, tb, ho, hex, hd, g, nd, hm, hb, hf, hn, hr, hl⟩ := R
  have hkey : (sk P w).is z (.str z u) = true := PySem.strKind_is P w z u
  have hsc : (Value.str z u).scannable = true := rfl
  have hel : ElemsOf (sk P w) cells.toList := tx_elems g
  unfold setAddHashed setAddHashedIn
  refine wpAny_holding (wpAny_bind (wpAny_setState_of ho hd hf ?_))
  dsimp only
  rw [byScan_of hsc hb hel]
  simp only [↓reduceIte]
  unfold setAddByScan
  refine wpAny_bind ?_
  refine wpAny_bind (wpAny_rule ?_)
  refine wpAny_bind (wpAny_setScan_of hkey ho hd hf hel ?_)
  cases hfi : List.findIdx? (fun c => (sk P w).is z c.2) cells.toList with
  | some j =>
    dsimp only
    obtain ⟨hj, pj, _⟩ := List.findIdx?_eq_some_iff_getElem.mp hfi
    have hMz : M z = true := (hm z).2 ((tx_mem (P := P) (w := w) g z).2 ⟨cells.toList[j], List.getElem_mem hj, pj⟩)
    refine wpAny_pure (wpAny_pure ?_)
    have q := hQ s.heap (Heap.SameBut.refl a s.heap) ⟨ob, cells, ep, tb, ho, hex, hd, g, nd, fun i => by
      rw [Bool.or_eq_true, decide_eq_true_eq, ← hm i]
      exact ⟨fun y => y.elim id (fun e => e ▸ hMz), .inl⟩, hb, hf, by rw [if_pos hMz]; exact hn, hr, hl⟩
    rw [hMz] at q
    exact q
  | none =>
    dsimp only
    have hnz : z ∉ cells.toList.map wd := fun y => by
      obtain ⟨c, hc, q⟩ := (tx_mem (P := P) (w := w) g z).1 y
      have d := List.findIdx?_eq_none_iff.mp hfi c hc
      rw [q] at d
      cases d
    have hMz : M z = false := by
      cases q : M z with
      | false => rfl
      | true => exact absurd ((hm z).1 q) hnz
    have hgw : ∀ (b : Bool) {s₁ : Shared} {Q' : Unit → Shared → Prop}, Q' () s₁ → wpAny (model P w) A (match b with | true => rule "set.scan.the-table-gave-way" | false => pure ()) Q' E s₁ :=
      fun b s₁ Q' q => by cases b <;> first | exact wpAny_pure q | exact wpAny_rule q
    have pm := layNew_perm tb cells ((sk P w).hash z) (.str z u)
    have hf1 := layNew_fits tb cells ((sk P w).hash z) (.str z u)
    have hr1 := layNew_ris tb cells ((sk P w).hash z) (.str z u) hr
    have hl1 := layNew_led tb cells ((sk P w).hash z) (.str z u)
    generalize layNew tb cells ((sk P w).hash z) (.str z u) = Z at pm hf1 hr1 hl1 ⊢
    obtain ⟨c1, t1, dum, gave⟩ := Z
    dsimp only at pm hf1 hr1 hl1 ⊢
    rw [Array.toList_push] at pm
    have pc : c1.toList.Perm (((sk P w).hash z, Value.str z u) :: cells.toList) := pm.trans (List.perm_append_singleton _ _)
    have pk : (c1.toList.map wd).Perm (z :: cells.toList.map wd) := pc.map wd
    have g1 : ∀ c ∈ c1.toList, Tx w c := fun c hc => by
      rcases List.mem_cons.mp (pc.mem_iff.mp hc) with y | y
      · rw [y]; exact ⟨z, u, rfl, rfl⟩
      · exact g c y
    have nd1 : (c1.toList.map wd).Nodup := pk.nodup_iff.mpr (List.nodup_cons.mpr ⟨hnz, nd⟩)
    have m1 : ∀ i, (M i || decide (i = z)) = true ↔ i ∈ c1.toList.map wd := fun i => by
      rw [Bool.or_eq_true, decide_eq_true_eq, hm i, pk.mem_iff, List.mem_cons]
      exact Or.comm
    have hsz : c1.size = m + 1 := by rw [← Array.length_toList, pc.length_eq, List.length_cons, Array.length_toList, hn]
    have hb1 : c1.size < scanBound := by rw [hsz]; exact room
    have hled : w.params.followText "set-order" = true ∨ t1.led = true := hl.imp id fun y => by rw [hl1]; exact y
    have fin : ∀ h', Heap.SameBut a s.heap h' → SetX w h' a (fun j => M j || decide (j = z)) c1.size → Q true { s with heap := h' } := fun h' sb r => by
      have q := hQ h' sb
      rw [hMz] at q
      rw [hsz] at r
      exact q r
    refine wpAny_bind (hgw _ ?_)
    split
    · refine wpAny_bind ?_
      rw [hashByValue_scannable 8 hsc]
      refine wpAny_pure ?_
      refine lay_tail ?_ ho hex hd g1 nd1 m1 hb1 ?_ ?_ ?_ ?_
      · intro b s₁ Q' q; cases b <;> first | exact wpAny_pure q | exact wpAny_rule q
      · first | (split <;> first | exact hf1 | exact SetTable.fits_plain_off hf1) | exact hf1
      · first | (split <;> exact hr1) | exact hr1
      · first | (split <;> exact hled) | exact hled
      · intro h' sb r; dsimp only; exact wpAny_pure (fin h' sb r)
    · refine wpAny_bind (wpAny_pure ?_)
      simp only [↓reduceIte]
      refine lay_tail ?_ ho hex hd g1 nd1 m1 hb1 hf1 hr1 hled ?_
      · intro b s₁ Q' q; cases b <;> first | exact wpAny_pure q | exact wpAny_rule q
      · intro h' sb r; dsimp only; exact wpAny_pure (fin h' sb r)
end
theorem txt_at : ∀ {us : List Value} {xs : List Str}, StrsAre us xs → ∀ (i : Nat) (v : Value), us[i]? = some v → ∃ t, v = .str (xs.getD i Str.empty) t
  | _, _, .nil, i, v, h => by simp at h
  | _, _, .cons n t hr, 0, v, h => by
    simp at h
    exact ⟨t, by rw [← h] <;> rfl⟩
  | _, _, .cons n t hr, i + 1, v, h => by
    simp only [List.getElem?_cons_succ] at h
    obtain ⟨t', e⟩ := txt_at hr i v h
    exact ⟨t', by rw [e] <;> rfl⟩
/-- what stands among the first i -/
def among (xs : List Str) (i : Nat) : Str → Bool := fun k => (xs.take i).any (· == k)
theorem among_succ (xs : List Str) {i : Nat} (h : i < xs.length) (k : Str) : among xs (i + 1) k = (among xs i k || decide (k = xs.getD i Str.empty)) := by
  unfold among
  have e : xs.getD i Str.empty = xs[i] := by rw [List.getD_eq_getElem?_getD, List.getElem?_eq_getElem h] <;> rfl
  rw [e, List.take_succ, List.getElem?_eq_getElem h, Option.toList_some, List.any_append]
  congr 1
  show ([xs[i]].any fun y => y == k) = _
  rw [List.any_cons, List.any_nil, Bool.or_false]
  by_cases q : k = xs[i]
  · rw [decide_eq_true q, q]
    exact beq_self_eq_true _
  · rw [decide_eq_false q]
    exact beq_eq_false_iff_ne.mpr fun z => q z.symm
section
variable {prog : Program} {w : World} {A : Around} {R : Result → Shared → Prop} {I : Addr} {fp wr : List Addr} {G : Array GenState → Array GenState → Prop} {n : Nat} {Pv : Nat → Value → Prop} {St : Nat → Shared → Prop}
theorem fill_loop (W : WalksS prog w A.in1 I fp wr G n Pv St) (S : Addr) (hSf : S ∉ fp) (xs : List Str) (hsz : xs.length = n) (hn1 : n + 1 < scanBound)
    (hval : ∀ i v, Pv i v → ∃ t, v = .str (xs.getD i Str.empty) t) :
    ∀ (k i m : Nat) (s : Shared), n - i = k → i ≤ n → m ≤ i → St i s → SetX w s.heap S (among xs i) m →
      (∀ s' m', m' ≤ n → Moved (S :: wr) G s s' → SetX w s'.heap S (among xs n) m' → R (.ok (.ret .none)) s') →
      codeAny (model prog w) A (.builtin "set.update.loop" ⟨[.ref S, .ref I], []⟩) R s := by
  have hSw : S ∉ wr := fun h => hSf (W.sub _ h)
  have hsub : ∀ b ∈ wr, b ∈ S :: wr := fun b hb => List.mem_cons_of_mem _ hb
  intro k
  induction k with
  | zero =>
    intro i m s hk hi hmi hst hS hR
    have hin : i = n := by omega
    subst hin
    refine codeAny_builtin PyProof.Rows.F.entry_set_update_loop ?_
    rw [Around.under_plainId PyProof.Rows.F.plain_set_update_loop _]
    show wpAny _ A.in1 (pyNext (.ref I) >>= _) _ _ s
    refine wpAny_bind (W.done s _ _ hst fun s' hm => ?_)
    show wpAny _ A.in1 (ret Value.none) _ _ s'
    exact wpAny_pure (hR s' m hmi (hm.mono hsub) (hS.stay fun ob ho => hm.heap S _ hSw ho))
  | succ k ih =>
    intro i m s hk hi hmi hst hS hR
    have hlt : i < n := by omega
    refine codeAny_builtin PyProof.Rows.F.entry_set_update_loop ?_
    rw [Around.under_plainId PyProof.Rows.F.plain_set_update_loop _]
    show wpAny _ A.in1 (pyNext (.ref I) >>= _) _ _ s
    refine wpAny_bind (W.item i s _ _ hlt hst fun v s' hP hst' hm => ?_)
    obtain ⟨t, rfl⟩ := hval i v hP
    have hS' : SetX w s'.heap S (among xs i) m := hS.stay fun ob ho => hm.heap S _ hSw ho
    show wpAny _ A.in1 (holding [Value.str (xs.getD i Str.empty) t] (setAdd S (.str (xs.getD i Str.empty) t)) >>= _) _ _ s'
    refine wpAny_bind (wpAny_holding ?_)
    unfold setAdd
    refine wpAny_holding ?_
    refine wpAny_bind ((PySem.strKind prog w).pyHash (k := xs.getD i Str.empty) (PySem.strKind_is _ _ _ _) ?_)
    refine add_hashed (s := { s' with toks := s'.toks + 1 }) hS' (by omega) fun h' hsb hS2 => ?_
    have hSi : SetX w h' S (among xs (i + 1)) (if among xs i (xs.getD i Str.empty) = true then m else m + 1) := hS2.like fun j => among_succ xs (by omega) j
    have hmi' : (if among xs i (xs.getD i Str.empty) = true then m else m + 1) ≤ i + 1 := by split <;> omega
    refine wpAny_pure ⟨plainId_quiet PyProof.Rows.F.plain_set_update_loop _, ih (i + 1) _ _ (by omega) hlt hmi' (W.frame _ s' _ _ hst' (Nat.le_succ _) fun b hb o e => ?_) hSi fun s'' m'' hm2 hm'' hS'' => ?_⟩
    · rw [hsb.2 b (fun h : b = S => hSf (by rw [← h]; exact hb))]
      exact e
    · refine hR s'' m'' hm2 (Moved.trans W.gtrans ((hm.mono hsub).then_heap (Nat.le_succ _) fun b o hb e => ?_) hm'') hS''
      rw [hsb.2 b (fun h : b = S => hb (by rw [h]; exact List.mem_cons_self))]
      exact e
end
end TxSet

namespace TxSet
open PySem PySem.Spec PyProof.Rows L2
/-- the fresh set -/
abbrev newSet (led : Bool) : Obj := { cls := .type "set", dict := none, data := .set #[] 0 (.fresh 0 0 led) }
section
variable {prog : Program} {w : World} {A : Around} {E : Value → Shared → Prop} {s : Shared}
theorem setX_fresh {h : Heap} {a : Addr} (w : World) (hg : h.get? a = some (newSet (!w.params.followText "set-order"))) : SetX w h a (fun _ => false) 0 :=
  ⟨_, #[], 0, _, hg, ⟨rfl, rfl, rfl⟩, rfl, (fun c hc => by simp at hc), (by simp), (fun z => by simp), (by decide), (by rfl), rfl, List.Pairwise.nil, by
    show _ ∨ (!w.params.followText "set-order") = true
    cases w.params.followText "set-order"
    · exact .inr rfl
    · exact .inl rfl⟩
set_option maxHeartbeats 8000000 in
theorem call_set_txt {l : Addr} {items : Array Value} {xs : List Str} {Q : Value → Shared → Prop}
    (hh : A.handled = none) (hl : s.heap.IsList l items) (hi : PyProof.Rows.StrsAre items.toList xs) (hn1 : xs.length + 1 < scanBound)
    (h : ∀ (h' : Heap) (tk m : Nat), m ≤ xs.length → SetX w h' s.heap.objs.size (fun z => decide (z ∈ xs)) m →
      (∀ b o, b < s.heap.objs.size → s.heap.get? b = some o → h'.get? b = some o) → Q (.ref s.heap.objs.size) { s with heap := h', toks := tk }) :
    wpAny (model prog w) A (call (.type "set") [.ref l]) Q E s := by
  have hsz0 : xs.length = items.size := by rw [← StrsAre.len_eq hi, Array.length_toList]
  obtain ⟨c, tl, hmro⟩ := PySem.F.called_set.mro
  have hmade := PySem.F.called_set.made
  have hsub := PySem.F.called_set.sub
  refine wpAny_call (codeAny_of_tree ?_)
  show wpAny _ _ (callAny (.type "set") _) _ _ _
  refine wpAny_pure ⟨Code.quiet_builtin _ (by decide +kernel), codeAny_builtin PySem.F.entry_type_call ?_⟩
  rw [Around.under_plain (weight_type_call_type "set" [.ref l] []) rfl]
  have h1 := PySem.F.called_set.notType
  have h2 := PySem.F.called_set.canCreate
  have hct := PySem.F.typeCall_set_1 (.ref l)
  repeat (any_goals (first | assumption | wp_step))
  refine codeAny_mono (code_set_led1 (.ref l) (E := E) (Q₁ := fun obj s₁ => obj = .ref s.heap.objs.size ∧ s₁ = { s with heap := s.heap.push (newSet (!w.params.followText "set-order")) }) ⟨rfl, rfl⟩) fun r s₁ hr => ?_
  cases r with
  | error e => exact hr
  | ok fl =>
    cases fl with
    | ret obj =>
      obtain ⟨rfl, rfl⟩ := hr
      have hS : (s.heap.push (newSet (!w.params.followText "set-order"))).get? s.heap.objs.size = some (newSet (!w.params.followText "set-order")) := Heap.get?_push_size _ rfl
      have hT : Shared.TypeIs { s with heap := s.heap.push (newSet (!w.params.followText "set-order")) } (.ref s.heap.objs.size) "set" := ⟨_, hS, rfl⟩
      have hli := PySem.F.called_set.init.lookup
      have hbi := PySem.F.called_set.init.bind (.ref s.heap.objs.size)
      repeat (any_goals (first | assumption | wp_step))
      refine codeAny_mono (codeAny_call_builtin (R := wants (fun r s₂ => r = .none ∧ ∃ h' tk m, s₂ = { s with heap := h', toks := tk } ∧ m ≤ xs.length ∧
          SetX w h' s.heap.objs.size (fun z => decide (z ∈ xs)) m ∧
          (∀ b o, b < s.heap.objs.size → s.heap.get? b = some o → h'.get? b = some o)) E) PySem.F.called_set.init.plain PySem.F.entry_set_init (check_set_init_1 hT ?_)) fun r₂ s₂ hr₂ => ?_
      · obtain ⟨ol, hol, hcl, nl, hdl⟩ := hl
        obtain ⟨ocls, odict, odata, oslots⟩ := ol
        simp only at hcl hdl
        subst hcl; subst hdl
        have hol' : (s.heap.push (newSet (!w.params.followText "set-order"))).get? l = some { cls := .type "list", dict := odict, data := .seq items nl, slots := oslots } := Heap.get?_push_of_some _ hol
        have hsls := PySem.F.sub_list_set
        have hslf := PySem.F.sub_list_frozenset
        have hne : (Value.type "list" == Value.type "dict") = false := by decide
        have hl1 : (s.heap.push (newSet (!w.params.followText "set-order"))).IsList l items := ⟨_, hol', rfl, nl, rfl⟩
        unfold Builtin.«set.__init__» noKeywords Builtin.Frozenset.updateFrom
        generalize hPI : pyIter = PI
        wp_walk
        subst hPI
        refine wpAny_pyIter_list hl1 ?_
        refine wpAny_bind (wpAny_runValue ?_)
        have hlS : l < s.heap.objs.size := Heap.lt_size hol
        have hh3 : A.in1.in1.in1.handled = none := by simp [hh]
        have hneI : l ≠ (s.heap.push (newSet (!w.params.followText "set-order"))).objs.size := by
          rw [Heap.size_push]; exact Nat.ne_of_lt (Nat.lt_succ_of_lt hlS)
        have hSf : s.heap.objs.size ∉ [(s.heap.push (newSet (!w.params.followText "set-order"))).objs.size, l] := by
          rw [Heap.size_push]; simp only [List.mem_cons, List.mem_singleton, List.not_mem_nil, or_false, not_or]
          exact ⟨Nat.ne_of_lt (Nat.lt_succ_self _), Nat.ne_of_gt hlS⟩
        have hval : ∀ (i : Nat) (v : Value), items[i]? = some v → ∃ t, v = .str (xs.getD i Str.empty) t := fun i v hv => txt_at hi i v (by rw [Array.getElem?_toList]; exact hv)
        refine fill_loop ((Walks.list hh3 _ l hneI items).toS) s.heap.objs.size
          hSf xs hsz0 (by rw [← hsz0]; exact hn1) hval (items.size - 0) 0 0 _ (by omega) (Nat.zero_le _) (Nat.le_refl _)
          ⟨⟨_, Heap.get?_push_size _ rfl, rfl, rfl⟩, (hl1.push _)⟩ ?hS0 ?hR
        case hS0 =>
          have hget : ((s.heap.push (newSet (!w.params.followText "set-order"))).push { cls := .type "list_iterator", data := .fields #[.ref l, .int 0 0] }).get? s.heap.objs.size
              = some (newSet (!w.params.followText "set-order")) := Heap.get?_push_of_some _ hS
          exact (setX_fresh w hget).like fun z => rfl
        case hR =>
          intro s' m' hm' hm hS'
          obtain ⟨h', g', d', tk', os'⟩ := s'
          have eg : g' = s.gens := hm.gens
          have ed : d' = s.drawn := hm.drawn
          have eo : os' = s.os := hm.os
          subst eg; subst ed; subst eo
          show wpAny _ _ _ _ _ _
          refine wpAny_pure ?_
          show wpAny _ _ (ret Value.none) _ _ _
          refine wpAny_pure ⟨rfl, h', tk', m', rfl, by omega, hS'.like fun z => ?_, fun b o hb e => ?_⟩
          · unfold among
            rw [← hsz0, List.take_length]
            by_cases q : z ∈ xs
            · rw [decide_eq_true q]
              exact ((List.any_eq_true (p := fun x => x == z)).mpr ⟨z, q, beq_self_eq_true z⟩).symm
            · rw [decide_eq_false q]
              refine (List.any_eq_false.mpr fun y hy e => q ?_).symm
              rw [← beq_iff_eq.mp e]
              exact hy
          · have hb1 : b ≠ s.heap.objs.size := Nat.ne_of_lt hb
            have hb2 : b ≠ (s.heap.push (newSet (!w.params.followText "set-order"))).objs.size := by
              rw [Heap.size_push]; exact Nat.ne_of_lt (Nat.lt_succ_of_lt hb)
            exact hm.heap b o (by simp only [List.mem_cons, List.mem_singleton, List.not_mem_nil, or_false, not_or]; exact ⟨hb1, hb2⟩) (Heap.get?_push_of_some _ (Heap.get?_push_of_some _ e))
      · cases r₂ with
        | error e => exact hr₂
        | ok fl₂ =>
          cases fl₂ with
          | ret r =>
            obtain ⟨rfl, h', tk, m', rfl, hm', hS', hk'⟩ := hr₂
            repeat (any_goals (first | assumption | wp_step))
            exact h _ _ m' hm' hS' hk'
          | _ => exact hr₂.elim
    | _ => exact hr.elim
theorem strs_all {w : World} {vs : List Value} {cells : List (Int × Value)} (g : ∀ c ∈ cells, Tx w c) (pm : vs.Perm (cells.map (·.2))) : ∀ v, v ∈ vs → ∃ x t, v = .str x t := fun v hv => by
  obtain ⟨c, hc, q⟩ := List.mem_map.mp (pm.mem_iff.mp hv)
  obtain ⟨x, t, h1, _⟩ := g c hc
  exact ⟨x, t, by rw [← q]; exact h1⟩
theorem wd_eq {w : World} {c : Int × Value} (g : Tx w c) : strOf c.2 = wd c := by
  obtain ⟨x, t, h1, _⟩ := g
  unfold strOf wd
  rw [h1]
theorem sorted_txt {a : Addr} {M : Str → Bool} {m : Nat} {Q : Value → Shared → Prop} (R : SetX w s.heap a M m) (hh : A.handled = none)
    (hQ : ∀ s' p (out : Array Value) (c : Nat) (ys : List Str), (∀ b o, s.heap.get? b = some o → s'.heap.get? b = some o) → s'.gens = s.gens → s'.os = s.os → s.heap.objs.size ≤ p →
      s'.heap.get? p = some (seqObj "list" out c) → StrsAre out.toList ys → sortedS ys = true → ys.Nodup → (∀ z, z ∈ ys ↔ M z = true) → ys.length = m → Q (.ref p) s') :
    wpAny (model prog w) A (call (.builtin "sorted") [.ref a]) Q E s := by
  obtain ⟨ob, cells, ep, tb, ho, hex, hd, g, nd, hm, hb, hf, hn, hr, hl⟩ := R
  refine Calls.call_function_entry kind_sorted plain_sorted entry_sorted (args_sorted1 _) ?_
  unfold Builtin.«sorted»
  refine wpAny_bind (m := checkCount "sorted" 1 1 _) (wpAny_pure ?_)
  refine wpAny_bind (collect_set (A := A.in1) hh ⟨ob, ho, hex.1, hd⟩ hf hb hr hl fun s1 vs k1 hz g1 o1 pm => ?_)
  have hvl : vs.length = m := by rw [pm.length_eq, List.length_map, Array.length_toList]; exact hn
  have hS : StrsAre vs (vs.map strOf) := strsAre_map vs (strs_all g pm)
  have pk : (vs.map strOf).Perm (cells.toList.map wd) := by
    have q := pm.map strOf
    rw [List.map_map] at q
    have e : cells.toList.map (strOf ∘ fun x => x.2) = cells.toList.map wd := List.map_congr_left fun c hc => wd_eq (g c hc)
    rw [e] at q
    exact q
  have hsl : vs.length ≤ sizeLine := by rw [hvl, ← hn]; exact fits_of_scanBound hb
  refine wpAny_bind (wpAny_newList ?_ hsl)
  have hoL : (s1.heap.push (seqObj "list" vs.toArray 0)).get? s1.heap.objs.size = some (seqObj "list" vs.toArray 0) := Heap.get?_push_size _ rfl
  refine wpAny_bind (wpAny_holding (wpAny_call_entry slot_list_sort ⟨_, hoL, rfl⟩ entry_list_sort (list_sort_treeKAny strKind_oneLt hoL hS.keysOf (fun v₁ v₂ rest e => keyKind_strs (by rw [← e]; exact hS)) hsl fun st' hp hs => ⟨_, rfl, ?_⟩) (args_list_sort _)))
  obtain ⟨ys, a1, a2, a3⟩ := sorted_out_str hS hp hs
  obtain ⟨c, hc⟩ := sortedHeap_at (vs := vs) (out := (arrOf st').map (·.2)) hoL
  have pn : ys.Perm (cells.toList.map wd) := a2.trans pk
  refine wpAny_pure ⟨_, rfl, hQ _ s1.heap.objs.size _ c ys (fun b u e => ?_) g1 o1 hz hc a1 a3 (pn.nodup_iff.mpr nd) (fun z => by rw [pn.mem_iff, ← hm z]) ?_⟩
  · have q := k1 b u e
    have hlt := Heap.lt_size q
    show (sortedHeap (s1.heap.push (seqObj "list" vs.toArray 0)) s1.heap.objs.size vs _).get? b = some u
    rw [sortedHeap_old (Nat.ne_of_lt hlt) (by rw [size_push']; exact Nat.lt_succ_of_lt hlt)]
    exact Heap.get?_push_of_some _ q
  · rw [pn.length_eq, List.length_map, Array.length_toList]; exact hn
end
section
variable {X : Cx}
theorem txts_of : ∀ {ys : List Str} {us : List Value}, Vals (ys.map V.str) us → StrsAre us ys
  | [], _, .nil => .nil
  | y :: ys, _, .cons r t => by
    obtain ⟨k, rfl⟩ := r
    exact .cons y k (txts_of t)
theorem srt_fin {pins : List (Addr × Obj)} {σ : L2.St} {H1 : Hp} {Q : VK} {s2 : Shared} (I2 : Inv X pins σ H1 s2) (hc : X.calm = true) {a0 : Addr} {M : Str → Bool} {m : Nat} (hS : SetX X.w s2.heap a0 M m) (hm : m ≤ 1000)
    (q1 : ∀ (ys : List Str) (p : Addr), sortedS ys = true → ys.Nodup → (∀ z, z ∈ ys ↔ M z = true) → H1 p = none → Q (.ref p) (upd H1 p (.lst (ys.map V.str)))) :
    wpAny (model X.prog X.w) X.A (call (.builtin "sorted") [.ref a0]) (EP X pins σ Q) X.xe s2 := by
  refine sorted_txt hS (I2.ok.hd hc) fun s' p' out c ys k g o hp hgt hi hs hnd hmem hlen => ?_
  have hle : (ys.map V.str).length ≤ sizeLine := by rw [List.length_map, sizeLine_eq]; omega
  have hn : H1 p' = none := I2.hok.fresh hp
  have J : Inv X pins σ (upd H1 p' (.lst (ys.map V.str))) { s2 with heap := s'.heap, gens := s'.gens, drawn := s'.drawn, toks := s'.toks } :=
    I2.call (ch := []) (Un.laid k hp hn) (I2.hok.laid k hp ⟨hle, out.toList, c, vals_of_strs hi, hgt⟩) (by rw [g]; exact I2.bare) (fun _ z => nomatch z)
  have e : s' = { s2 with heap := s'.heap, gens := s'.gens, drawn := s'.drawn, toks := s'.toks } := by
    cases s'
    cases s2
    cases o
    rfl
  rw [e]
  exact ⟨.ref p', _, J, rfl, q1 ys p' hs hnd hmem hn⟩
/-- sorted(set(xs)), xs a list of texts: what is among them, each once, in order -/
def tSrtSet (K : PySem.W.Frag) (ta : TE) : TE := fun σ H Q => ta σ H fun x H1 => ∃ (l : Addr) (xs : List Str), x = .ref l ∧ SqL K H1 l (xs.map V.str) ∧ xs.length ≤ 1000 ∧
  ∀ (ys : List Str) (p : Addr), sortedS ys = true → ys.Nodup → (∀ z, z ∈ ys ↔ z ∈ xs) → H1 p = none → Q (.ref p) (upd H1 p (.lst (ys.map V.str)))
theorem pe_srtSet {a : Expr} {ta : TE} {p p2 q pos : Pos} (hc : X.calm = true) (hg : Gl X "sorted") (hm : X.mg "sorted" = none) (hg2 : Gl X "set") (hm2 : X.mg "set" = none) (ha : PE X a ta)
    (na : starEach [a] X.env = (false, eval a X.env) :: starEach [] X.env := by rfl) : PE X (.Call (.Name "sorted" p) [.Call (.Name "set" p2) [a] [] q] [] pos) (tSrtSet X.K ta) := by
  refine ⟨fun pins s σ H Q I h => ?_⟩
  refine Call_ (ld_blt I hg hm (u := .builtin "sorted") (by decide +kernel) ?_)
  refine PyProof.Rows.callWith_builtin1 (PyProof.Rows.args_cons ?_ rfl) rfl rfl
  refine Call_ (ld_blt I hg2 hm2 boot_set ?_)
  refine PyProof.Rows.callWith_type1 (PyProof.Rows.args_cons (thn (ha.run pins s σ H _ I h) fun v s1 ⟨x, H1, I1, r1, q1⟩ => PyProof.Rows.args_nil ?_) na) na rfl
  obtain ⟨l, xs, rfl, hq, hfew, q1⟩ := q1
  cases r1
  obtain ⟨its, r, pl, hz⟩ := I1.list hq
  refine call_set_txt (I1.ok.hd hc) pl.isList (by simpa using txts_of r) (by unfold scanBound; omega) fun h' tk m hm' hS hk => ?_
  refine PyProof.Rows.args_nil ?_
  have I2 : Inv X pins σ H1 { s1 with heap := h', toks := tk } := I1.kept fun b o e => hk b o (Heap.lt_size e) e
  exact srt_fin I2 hc hS (by omega) fun ys p' hs hnd hmem hn => q1 ys p' hs hnd (fun z => by rw [hmem z, decide_eq_true_eq]) hn
end
end TxSet

/-! Values as data, whatever the row: what is said of a word, a hole, entries, a goal. -/
namespace VA
open PySem L2 SX AddrMath
/-- all but what stands at d is as it was -/
def But (d : Addr) (H H' : Hp) : Prop := ∀ b o, H b = some o → b ≠ d → H' b = some o
theorem same_new {p : Addr} {H : Hp} {o : HO} (h : H p = none) : Same H (upd H p o) := fun b u e => by rw [upd_ne (ne_of_none e h)]; exact e
theorem same_seqT {K : PySem.W.Frag} {H H' : Hp} {a : Addr} {xs : List V} (e : Same H H') (h : SqT K H a xs) : SqT K H' a xs := by
  rcases h with (h | ⟨o, h⟩) | h
  · exact .inl (.inl (e _ _ h))
  · exact .inl (.inr ⟨o, e _ _ h⟩)
  · exact .inr h
/-- a list or a tuple of these is to be read at a -/
def SqA (K : PySem.W.Frag) (H : Hp) (a : Addr) (xs : List V) : Prop := SqL K H a xs ∨ SqT K H a xs
theorem SqA.same {K : PySem.W.Frag} {H H' : Hp} {a : Addr} {xs : List V} (h : SqA K H a xs) (e : Same H H') : SqA K H' a xs := h.imp e.seq (same_seqT e)
/-- a list, a tuple, what is locked -/
def seqO : HO → Bool
  | .lst _ => true
  | .tup _ => true
  | .frz _ _ => true
  | _ => false
/-- lists and tuples stand as they stood -/
def Kp (H H' : Hp) : Prop := ∀ b o, H b = some o → seqO o = true → H' b = some o
theorem kp_same {H H' : Hp} (s : Same H H') : Kp H H' := fun b o e _ => s b o e
theorem Kp.trans {H H1 H2 : Hp} (a : Kp H H1) (b : Kp H1 H2) : Kp H H2 := fun c o e k => b c o (a c o e k) k
theorem kp_put {H : Hp} {p : Addr} {u o : HO} (h : H p = some u) (n : seqO u = false) : Kp H (upd H p o) := fun b v e k => by
  by_cases z : b = p
  · rw [z, h] at e
    cases e
    rw [n] at k
    cases k
  · rw [upd_ne z]
    exact e
theorem kp_but {d : Addr} {H H' : Hp} {u : HO} (h : H d = some u) (n : seqO u = false) (b : But d H H') : Kp H H' := fun c o e k => b c o e fun z => by
  rw [z, h] at e
  cases e
  rw [n] at k
  cases k
theorem Kp.sqL {K : PySem.W.Frag} {H H' : Hp} {a : Addr} {xs : List V} (e : Kp H H') (h : SqL K H a xs) : SqL K H' a xs := by
  rcases h with (h | ⟨o, h⟩) | h
  · exact .inl (.inl (e _ _ h rfl))
  · exact .inl (.inr ⟨o, e _ _ h rfl⟩)
  · exact .inr h
theorem Kp.sqT {K : PySem.W.Frag} {H H' : Hp} {a : Addr} {xs : List V} (e : Kp H H') (h : SqT K H a xs) : SqT K H' a xs := by
  rcases h with (h | ⟨o, h⟩) | h
  · exact .inl (.inl (e _ _ h rfl))
  · exact .inl (.inr ⟨o, e _ _ h rfl⟩)
  · exact .inr h
theorem Kp.sqA {K : PySem.W.Frag} {H H' : Hp} {a : Addr} {xs : List V} (e : Kp H H') (h : SqA K H a xs) : SqA K H' a xs := h.imp e.sqL e.sqT
section
variable {K : PySem.W.Frag}
mutual
theorem dp_kp {H H' : Hp} (s : Kp H H') : ∀ {d : PyData} {v : V}, Dp K H v d → Dp K H' v d
  | .none, _, h => by
    cases h
    exact .non
  | .bool b, _, h => by
    cases h
    exact .bl b
  | .int i, _, h => by
    cases h
    exact .int i
  | .str x, _, h => by
    cases h
    exact .str x
  | .list ds, _, h => by
    cases h with
    | lst h1 h2 => exact .lst (s.sqL h1) (dps_kp s h2)
  | .tuple ds, _, h => by
    cases h with
    | tup h1 h2 => exact .tup (s.sqT h1) (dps_kp s h2)
  | .dict _, _, h => by cases h
theorem dps_kp {H H' : Hp} (s : Kp H H') : ∀ {ds : List PyData} {vs : List V}, DpAll K H vs ds → DpAll K H' vs ds
  | [], _, h => by
    cases h
    exact .nil
  | d :: ds, _, h => by
    cases h with
    | cons h1 h2 => exact .cons (dp_kp s h1) (dps_kp s h2)
end
theorem dp_same {H H' : Hp} (s : Same H H') {d : PyData} {v : V} (h : Dp K H v d) : Dp K H' v d := dp_kp (kp_same s) h
theorem dps_same {H H' : Hp} (s : Same H H') {ds : List PyData} {vs : List V} (h : DpAll K H vs ds) : DpAll K H' vs ds := dps_kp (kp_same s) h
theorem dps_len {H : Hp} : ∀ {ds : List PyData} {vs : List V}, DpAll K H vs ds → vs.length = ds.length
  | [], _, h => by cases h; rfl
  | d :: ds, _, h => by
    cases h with
    | cons h1 h2 => rw [List.length_cons, List.length_cons, dps_len h2]
theorem dps_at {H : Hp} : ∀ {ds : List PyData} {vs : List V}, DpAll K H vs ds → ∀ {v}, v ∈ vs → ∃ d ∈ ds, Dp K H v d
  | [], _, h, v, hv => by cases h; cases hv
  | d :: ds, _, h, v, hv => by
    cases h with
    | cons h1 h2 =>
      rcases List.mem_cons.mp hv with e | e
      · rw [e]
        exact ⟨d, List.mem_cons_self .., h1⟩
      · obtain ⟨d', hd, h'⟩ := dps_at h2 e
        exact ⟨d', List.mem_cons_of_mem _ hd, h'⟩
theorem dps_get {H : Hp} : ∀ {ds : List PyData} {vs : List V}, DpAll K H vs ds → ∀ {i : Nat} {v : V}, vs[i]? = some v → ∃ d, ds[i]? = some d ∧ Dp K H v d
  | [], _, h, i, v, hv => by cases h; cases hv
  | d :: ds, _, h, 0, v, hv => by
    cases h with
    | cons h1 h2 =>
      cases hv
      exact ⟨d, rfl, h1⟩
  | d :: ds, _, h, i + 1, v, hv => by
    cases h with
    | cons h1 h2 => exact dps_get h2 hv
theorem dps_app {H : Hp} : ∀ {ds es : List PyData} {vs us : List V}, DpAll K H vs ds → DpAll K H us es → DpAll K H (vs ++ us) (ds ++ es)
  | [], _, _, _, h, g => by cases h; exact g
  | d :: ds, es, _, us, h, g => by
    cases h with
    | cons h1 h2 => exact .cons h1 (dps_app h2 g)
/-! ### the size of data -/
mutual
def okD : Nat → PyData → Bool
  | _, .none => true
  | _, .bool _ => true
  | _, .int _ => true
  | _, .str x => decide (x.length ≤ 1000) && PyData.strOk x
  | n, .list l => decide (1 ≤ n) && (decide (l.length ≤ 1000) && okAll (n - 1) l)
  | n, .tuple l => decide (1 ≤ n) && (decide (l.length ≤ 1000) && okAll (n - 1) l)
  | _, .dict _ => false
def okAll : Nat → List PyData → Bool
  | _, [] => true
  | n, d :: ds => okD n d && okAll n ds
end
theorem okAll_mem : ∀ {n : Nat} {ds : List PyData}, okAll n ds = true → ∀ d ∈ ds, okD n d = true
  | n, [], _, d, h => by cases h
  | n, e :: ds, h, d, hd => by
    rw [okAll, Bool.and_eq_true] at h
    rcases List.mem_cons.mp hd with z | z
    · rw [z]
      exact h.1
    · exact okAll_mem h.2 d z
theorem okAll_of : ∀ {n : Nat} {ds : List PyData}, (∀ d ∈ ds, okD n d = true) → okAll n ds = true
  | n, [], _ => by rw [okAll]
  | n, e :: ds, h => by
    rw [okAll, Bool.and_eq_true]
    exact ⟨h e (List.mem_cons_self ..), okAll_of fun d hd => h d (List.mem_cons_of_mem _ hd)⟩
mutual
theorem ok_lay : ∀ {n : Nat} {d : PyData}, okD n d = true → d.canLay0 = true ∧ d.depth ≤ n
  | n, .none, _ => ⟨rfl, by simp [PyData.depth]⟩
  | n, .bool _, _ => ⟨rfl, by simp [PyData.depth]⟩
  | n, .int _, _ => ⟨rfl, by simp [PyData.depth]⟩
  | n, .str x, h => by
    rw [okD, Bool.and_eq_true] at h
    exact ⟨by simpa [PyData.canLay0] using h.2, by simp [PyData.depth]⟩
  | n, .list l, h => by
    rw [okD, Bool.and_eq_true, Bool.and_eq_true, decide_eq_true_eq] at h
    have q := oks_lay h.2.2
    refine ⟨by rw [PyData.canLay0]; exact q.1, ?_⟩
    rw [PyData.depth]
    have := h.1
    have := q.2
    omega
  | n, .tuple l, h => by
    rw [okD, Bool.and_eq_true, Bool.and_eq_true, decide_eq_true_eq] at h
    have q := oks_lay h.2.2
    refine ⟨by rw [PyData.canLay0]; exact q.1, ?_⟩
    rw [PyData.depth]
    have := h.1
    have := q.2
    omega
  | n, .dict _, h => by rw [okD] at h; cases h
theorem oks_lay : ∀ {n : Nat} {ds : List PyData}, okAll n ds = true → PyData.canLayAll0 ds = true ∧ PyData.depthAll ds ≤ n
  | n, [], _ => ⟨by rw [PyData.canLayAll0], by rw [PyData.depthAll]; omega⟩
  | n, d :: ds, h => by
    rw [okAll, Bool.and_eq_true] at h
    have a := ok_lay h.1
    have b := oks_lay h.2
    refine ⟨by rw [PyData.canLayAll0, a.1, b.1]; rfl, ?_⟩
    rw [PyData.depthAll]
    have := a.2
    have := b.2
    omega
end
theorem ok_shaped {n : Nat} {d : PyData} (h : okD n d = true) (hn : n ≤ 60) : SeqAt.shaped d = true := by
  have q := ok_lay h
  unfold SeqAt.shaped
  rw [q.1, Bool.true_and]
  exact decide_eq_true (by have := q.2; omega)
mutual
theorem ok_mono : ∀ {n m : Nat} {d : PyData}, n ≤ m → okD n d = true → okD m d = true
  | n, m, .none, _, _ => by rw [okD]
  | n, m, .bool _, _, _ => by rw [okD]
  | n, m, .int _, _, _ => by rw [okD]
  | n, m, .str x, _, h => by rw [okD] at h ⊢; exact h
  | n, m, .list l, k, h => by
    rw [okD, Bool.and_eq_true, Bool.and_eq_true, decide_eq_true_eq] at h ⊢
    exact ⟨by omega, h.2.1, oks_mono (by omega) h.2.2⟩
  | n, m, .tuple l, k, h => by
    rw [okD, Bool.and_eq_true, Bool.and_eq_true, decide_eq_true_eq] at h ⊢
    exact ⟨by omega, h.2.1, oks_mono (by omega) h.2.2⟩
  | n, m, .dict _, _, h => by rw [okD] at h; cases h
theorem oks_mono : ∀ {n m : Nat} {ds : List PyData}, n ≤ m → okAll n ds = true → okAll m ds = true
  | n, m, [], _, _ => by rw [okAll]
  | n, m, d :: ds, k, h => by
    rw [okAll, Bool.and_eq_true] at h ⊢
    exact ⟨ok_mono k h.1, oks_mono k h.2⟩
end
theorem ok_seq {n : Nat} {ds : List PyData} (h : ds.length ≤ 1000) (k : ∀ d ∈ ds, okD n d = true) : okD (n + 1) (.list ds) = true ∧ okD (n + 1) (.tuple ds) = true := by
  constructor
  · rw [okD, Bool.and_eq_true, Bool.and_eq_true, decide_eq_true_eq, decide_eq_true_eq]
    exact ⟨by omega, h, okAll_of k⟩
  · rw [okD, Bool.and_eq_true, Bool.and_eq_true, decide_eq_true_eq, decide_eq_true_eq]
    exact ⟨by omega, h, okAll_of k⟩
/-! ### a value that is data, or a dict -/
def Vx (K : PySem.W.Frag) (H : Hp) (x : V) (d : PyData) : Prop := (Dp K H x d ∧ okD 8 d = true) ∨ ∃ a kvs, x = .ref a ∧ H a = some (.dK kvs) ∧ d = .dict []
theorem Vx.same {H H' : Hp} {x : V} {d : PyData} (h : Vx K H x d) (s : Same H H') : Vx K H' x d := by
  rcases h with ⟨h, o⟩ | ⟨a, kvs, e, h, q⟩
  · exact .inl ⟨dp_same s h, o⟩
  · exact .inr ⟨a, kvs, e, s _ _ h, q⟩
def tyN : PyData → String
  | .none => "NoneType"
  | .bool _ => "bool"
  | .int _ => "int"
  | .str _ => "str"
  | .list _ => "list"
  | .tuple _ => "tuple"
  | .dict _ => "dict"
theorem sql_ty {H : Hp} {a : Addr} {xs : List V} (h : SqL K H a xs) : TyX K H (.ref a) (.type "list") := by
  rcases h with (h | ⟨o, h⟩) | ⟨o, its, n, h1, h2, _⟩
  · exact .base (.lst h)
  · exact .base (.frz h)
  · exact .kList h1 h2
theorem sqt_ty {H : Hp} {a : Addr} {xs : List V} (h : SqT K H a xs) : TyX K H (.ref a) (.type "tuple") := by
  rcases h with (h | ⟨o, h⟩) | ⟨o, its, n, h1, h2, _⟩
  · exact .base (.tup h)
  · exact .fTuple h
  · exact .kTuple h1 h2
theorem dp_ty {H : Hp} {x : V} {d : PyData} (h : Dp K H x d) : TyX K H x (.type (tyN d)) := by
  cases h with
  | non => exact .base .non
  | bl b => exact .base (.bl b)
  | int i => exact .base (.int i)
  | str z => exact .base (.str z)
  | lst h1 h2 => exact sql_ty h1
  | tup h1 h2 => exact sqt_ty h1
theorem Vx.ty {H : Hp} {x : V} {d : PyData} (h : Vx K H x d) : TyX K H x (.type (tyN d)) := by
  rcases h with ⟨h, _⟩ | ⟨a, kvs, rfl, h, rfl⟩
  · exact dp_ty h
  · exact .base (.dK h)
/-! ### what is a word, a hole, entries, a goal -/
def isWordD : PyData → Bool
  | .str x => isW x.cps.toList
  | _ => false
def isIntD : PyData → Bool
  | .int _ => true
  | _ => false
def isHoleD : PyData → Bool
  | .int i => decide (1 ≤ i) && decide (i ≤ 2)
  | _ => false
def isEntD (d : PyData) : Bool := isWordD d || isHoleD d
def isSeqD : PyData → Bool
  | .list _ => true
  | .tuple _ => true
  | _ => false
def itemsD : PyData → List PyData
  | .list l => l
  | .tuple l => l
  | _ => []
def areEntD (most : Int) (d : PyData) : Bool := isSeqD d && (decide (((itemsD d).length : Int) ≤ most) && (itemsD d).all isEntD)
/-- an entry is among these -/
def inD (e : PyData) (ds : List PyData) : Bool := ds.any fun d => PyData.eqv d e
def isGoalD (g p : PyData) : Bool := match g with
  | .none => true
  | .tuple [s, b] => isWordD s && (areEntD 4 b && (itemsD b).all fun e => isWordD e || inD e (itemsD p))
  | _ => false
/-- the first wrong argument of a rule -/
def wrongD (s p g x : PyData) : Option Str :=
  if isWordD s = false then some (Str.ofString "state") else if areEntD 2 p = false then some (Str.ofString "pattern") else if isGoalD g p = false then some (Str.ofString "goal")
  else match x with
    | .bool _ => none
    | _ => some (Str.ofString "is_exact")
/-- an entry's value -/
def entV : PyData → V
  | .int i => .int i
  | .str x => .str x
  | _ => .non
theorem ent_val {H : Hp} {x : V} {d : PyData} (h : Dp K H x d) (e : isEntD d = true) : x = entV d := by
  cases h with
  | int i => rfl
  | str z => rfl
  | non => cases e
  | bl b => cases e
  | lst h1 h2 => cases e
  | tup h1 h2 => cases e
theorem ents_val {H : Hp} : ∀ {ds : List PyData} {vs : List V}, DpAll K H vs ds → ds.all isEntD = true → vs = ds.map entV
  | [], _, h, _ => by cases h; rfl
  | d :: ds, _, h, e => by
    cases h with
    | cons h1 h2 =>
      rw [List.all_cons, Bool.and_eq_true] at e
      rw [List.map_cons, ← ent_val h1 e.1, ← ents_val h2 e.2]
theorem ent_dp {H : Hp} {d : PyData} (e : isEntD d = true) : Dp K H (entV d) d := by
  cases d with
  | int i => exact .int i
  | str z => exact .str z
  | _ => cases e
theorem ents_dp {H : Hp} : ∀ {ds : List PyData}, ds.all isEntD = true → DpAll K H (ds.map entV) ds
  | [], _ => .nil
  | d :: ds, e => by
    rw [List.all_cons, Bool.and_eq_true] at e
    exact .cons (ent_dp e.1) (ents_dp e.2)
theorem ent_flat {d : PyData} (e : isEntD d = true) : flatV (entV d) = true := by
  cases d with
  | int i => rfl
  | str z => rfl
  | _ => cases e
theorem ents_flat : ∀ {ds : List PyData}, ds.all isEntD = true → (ds.map entV).all flatV = true
  | [], _ => rfl
  | d :: ds, e => by
    rw [List.all_cons, Bool.and_eq_true] at e
    rw [List.map_cons, List.all_cons, ent_flat e.1, ents_flat e.2]
    rfl
theorem eqv_ent {d e : PyData} (hd : isEntD d = true) (he : isEntD e = true) : eqV (entV d) (entV e) = PyData.eqv d e := by
  cases d with
  | int i =>
    cases e with
    | int j => simp [entV, eqV, PyData.eqv]
    | str z => simp [entV, eqV, PyData.eqv]
    | _ => cases he
  | str z =>
    cases e with
    | int j => simp [entV, eqV, PyData.eqv]
    | str y => simp [entV, eqV, PyData.eqv]
    | _ => cases he
  | _ => cases hd
theorem inV_ent {e : PyData} (he : isEntD e = true) : ∀ {ds : List PyData}, ds.all isEntD = true → inV (entV e) (ds.map entV) = inD e ds
  | [], _ => rfl
  | d :: ds, h => by
    rw [List.all_cons, Bool.and_eq_true] at h
    have ih := inV_ent he h.2
    unfold inV inD at ih ⊢
    rw [List.map_cons, List.any_cons, List.any_cons, eqv_ent h.1 he, ih]
/-! ### a word, by the signs -/
theorem asc_facts : ∀ c : Nat, c < 128 → (Unicode.isAlpha c && !(Unicode.isUpper c || Unicode.isTitle c)) = isL c := by decide +kernel
theorem low_facts : ∀ k : Nat, k < 26 → Unicode.isLower (97 + k) = true := by decide +kernel
theorem word_txt (x : Str) (h1 : 1 ≤ x.length) (h8 : x.length ≤ 8) : (Txt.isascii x && (Txt.isalpha x && Txt.islower x)) = isW x.cps.toList := by
  have hl : x.cps.toList.length = x.length := (TL.len_tl x).symm
  have e1 : Txt.isascii x = x.cps.toList.all (fun c => decide (c < 128)) := by
    unfold Txt.isascii
    rw [← Array.all_toList]
  have e2 : Txt.isalpha x = x.cps.toList.all (fun c => Unicode.isAlpha c) := by
    unfold Txt.isalpha
    rw [← Array.all_toList, decide_eq_true (show x.length > 0 from h1), Bool.true_and]
  have e3 : Txt.islower x = (x.cps.toList.any (fun c => Unicode.isLower c) && !(x.cps.toList.any fun c => Unicode.isUpper c || Unicode.isTitle c)) := by
    unfold Txt.islower
    rw [← Array.any_toList, ← Array.any_toList]
  rw [e1, e2, e3]
  cases hW : isW x.cps.toList with
  | true =>
    have hw := (isW_iff.mp hW).2.2
    have le : ∀ c ∈ x.cps.toList, c < 128 := fun c hc => by
      have := hw c hc
      unfold isL at this
      rw [Bool.and_eq_true, decide_eq_true_eq, decide_eq_true_eq] at this
      omega
    have f : ∀ c ∈ x.cps.toList, Unicode.isAlpha c = true ∧ (Unicode.isUpper c || Unicode.isTitle c) = false := fun c hc => by
      have q := asc_facts c (le c hc)
      rw [hw c hc, Bool.and_eq_true, Bool.not_eq_true'] at q
      exact q
    rw [List.all_eq_true.mpr fun c hc => decide_eq_true (le c hc), List.all_eq_true.mpr fun c hc => (f c hc).1]
    have e4 : (x.cps.toList.any fun c => Unicode.isUpper c || Unicode.isTitle c) = false := List.any_eq_false.mpr fun c hc => by rw [(f c hc).2]; exact Bool.false_ne_true
    rw [e4]
    obtain ⟨c, r, e⟩ : ∃ c r, x.cps.toList = c :: r := by
      cases q : x.cps.toList with
      | nil =>
        rw [q] at hl
        have : (0 : Nat) = x.length := hl
        omega
      | cons c r => exact ⟨c, r, rfl⟩
    have hc : isL c = true := hw c (by rw [e]; exact List.mem_cons_self ..)
    have lc : Unicode.isLower c = true := by
      unfold isL at hc
      rw [Bool.and_eq_true, decide_eq_true_eq, decide_eq_true_eq] at hc
      have z := low_facts (c - 97) (by omega)
      rw [show 97 + (c - 97) = c by omega] at z
      exact z
    rw [e, List.any_cons, lc]
    rfl
  | false =>
    cases h : (x.cps.toList.all (fun c => decide (c < 128)) && (x.cps.toList.all (fun c => Unicode.isAlpha c) && (x.cps.toList.any (fun c => Unicode.isLower c) && !(x.cps.toList.any fun c => Unicode.isUpper c || Unicode.isTitle c)))) with
    | false => rfl
    | true =>
      rw [Bool.and_eq_true, Bool.and_eq_true, Bool.and_eq_true, List.all_eq_true, List.all_eq_true, Bool.not_eq_true', List.any_eq_false] at h
      obtain ⟨a, b, c, d⟩ := h
      have : isW x.cps.toList = true := isW_iff.mpr ⟨by rw [hl]; exact h1, by rw [hl]; exact h8, fun z hz => by
        have q := asc_facts z (by have := a z hz; exact of_decide_eq_true this)
        rw [b z hz, Bool.eq_false_iff.mpr (d z hz)] at q
        exact q.symm⟩
      rw [this] at hW
      cases hW
theorem word_len {x : Str} (h : isW x.cps.toList = true) : 1 ≤ x.length ∧ x.length ≤ 8 := by
  have q := isW_iff.mp h
  have hl : x.cps.toList.length = x.length := (TL.len_tl x).symm
  rw [hl] at q
  exact ⟨q.1, q.2.1⟩
end
end VA

/-! Rules beside the hand layer's: what is walked may be a list or a tuple; a comprehension that maps; a def of the text with all that a call of it wants. -/
namespace VA
open PySem L2 SX AddrMath
/-- a def of the text and all that a call of it wants -/
structure Own (P : Program) (w : World) (K : PySem.W.Frag) (mg : Str → Option Value) (base : Heap) (CX : CXT) (n : Nat) (x : Str) (ps : List Str) (sp : Sp) where
  f : Addr
  fd : FuncData
  g : FnOk P w K mg base CX n f fd ps sp
  mg : mg x = some (.ref f)
  kp : PySem.W.keepIn K (.ref f) = true
  b : Binds K fd ps []
theorem st_is {A : L2.St → Hp → Prop} {σ σ' : L2.St} {H : Hp} (e : σ = σ') (h : A σ' H) : A σ H := by rw [e]; exact h
theorem hp_is {A : L2.St → Hp → Prop} {σ : L2.St} {H H' : Hp} (e : H = H') (h : A σ H') : A σ H := by rw [e]; exact h
section
variable {X : Cx} {tg : Expr}
def iSeq (K : PySem.W.Frag) (te : TE) : TI := fun σ H R => te σ H fun x H1 => ∃ a, x = .ref a ∧ (((∃ xs, SqL K H1 a xs) ∧ R (Itl K a) H1) ∨ ((∃ xs, SqT K H1 a xs) ∧ R (Itt K a) H1))
theorem pi_seq {e : Expr} {te : TE} (pe : PE X e te) : PI X tg e (iSeq X.K te) := by
  refine ⟨fun pn s σ H R J h => ?_⟩
  refine thn (pe.run pn s σ H _ J h) fun v s2 ⟨x, H2, J2, rx, q2⟩ => ?_
  obtain ⟨a, ex, q2⟩ := q2
  subst ex
  cases rx
  rcases q2 with ⟨⟨xs, hq⟩, q⟩ | ⟨⟨xs, hq⟩, q⟩
  · obtain ⟨its, rv, p, hz⟩ := J2.list hq
    refine wpAny_pyIter_list p.isList ⟨s2.heap.objs.size, [s2.heap.objs.size], _, _, H2, rfl, J2.kept (t' := s2.toks) fun b o z => Heap.get?_push_of_some _ z, turn_list a _, ⟨_, Heap.get?_push_size _ rfl, rfl, rfl⟩, fun b hb => ?_, q⟩
    obtain rfl : b = s2.heap.objs.size := by simpa using hb
    exact J2.fpOk (Nat.le_refl _) (J2.hok.fresh (Nat.le_refl _))
  · obtain ⟨its, rv, p, hz⟩ := J2.tuple hq
    refine wpAny_pyIter_tuple (show s2.heap.IsTuple a its.toArray from p) ⟨s2.heap.objs.size, [s2.heap.objs.size], _, _, H2, rfl, J2.kept (t' := s2.toks) fun b o z => Heap.get?_push_of_some _ z, turn_tuple a _, ⟨_, Heap.get?_push_size _ rfl, rfl, rfl⟩, fun b hb => ?_, q⟩
    obtain rfl : b = s2.heap.objs.size := by simpa using hb
    exact J2.fpOk (Nat.le_refl _) (J2.hok.fresh (Nat.le_refl _))
end
theorem take_snoc {α : Type} {xs : List α} {i : Nat} {x : α} (h : xs[i]? = some x) : xs.take (i + 1) = xs.take i ++ [x] := by
  rw [List.take_succ, h]
  rfl
/-- a comprehension over a list or a tuple whose test and element are known by values, and leave what stands -/
theorem seq_map {K : PySem.W.Frag} {a : Addr} {xs : List V} {j : Nat} {tt : TT} {te : TE} {vs : List Nat} {σ : L2.St} {H1 : Hp} {Qd : Addr → Hp → Prop} (hq : SqA K H1 a xs) (few : xs.length ≤ 1000) (p : V → Bool) (F : V → V)
    (hw : ∀ x, wipe ((wipe σ vs).set j (some x)) vs = wipe σ vs)
    (step : ∀ x ∈ xs, ∀ H, Same H1 H → (∀ R : Bool → Hp → Prop, (∀ H', Same H H' → R (p x) H') → tt ((wipe σ vs).set j (some x)) H R) ∧ (p x = true → ∀ H', Same H H' → ∀ R : VK, (∀ H'', Same H' H'' → R (F x) H'') → te ((wipe σ vs).set j (some x)) H' R))
    (fin : ∀ D H', H1 D = none → H' D = some (.lst ((xs.filter p).map F)) → Same H1 H' → Qd D H') :
    ∃ a', V.ref a = V.ref a' ∧ (((∃ ys, SqL K H1 a' ys) ∧ ∀ D, H1 D = none → ∃ W : Nat → Nat → Hp → Prop, (∃ m, W 0 m (upd H1 D (.lst []))) ∧ ∀ i m H, W i m H →
      ((Itl K a').stop i H ∧ Qd D H) ∨ ((Itl K a').go i H ∧ ∃ Nx : Hp → Prop, (∀ H', Nx H' → ∃ m', m' < m ∧ W (i + 1) m' H') ∧ ∀ x H', (Itl K a').yld i H x H' → gName j x (wipe σ vs) H' fun σ2 H2 => wipe σ2 vs = wipe σ vs ∧ tt σ2 H2 fun b H3 =>
        if b = true then te σ2 H3 fun y H4 => ∃ acc, H4 D = some (.lst acc) ∧ acc.length < sizeLine ∧ Nx (upd H4 D (.lst (acc ++ [y]))) else Nx H3)) ∨
     ((∃ ys, SqT K H1 a' ys) ∧ ∀ D, H1 D = none → ∃ W : Nat → Nat → Hp → Prop, (∃ m, W 0 m (upd H1 D (.lst []))) ∧ ∀ i m H, W i m H →
      ((Itt K a').stop i H ∧ Qd D H) ∨ ((Itt K a').go i H ∧ ∃ Nx : Hp → Prop, (∀ H', Nx H' → ∃ m', m' < m ∧ W (i + 1) m' H') ∧ ∀ x H', (Itt K a').yld i H x H' → gName j x (wipe σ vs) H' fun σ2 H2 => wipe σ2 vs = wipe σ vs ∧ tt σ2 H2 fun b H3 =>
        if b = true then te σ2 H3 fun y H4 => ∃ acc, H4 D = some (.lst acc) ∧ acc.length < sizeLine ∧ Nx (upd H4 D (.lst (acc ++ [y]))) else Nx H3))) := by
  have key : ∀ D, H1 D = none → ∀ i x H, xs[i]? = some x → (Same H1 H ∧ H D = some (.lst (((xs.take i).filter p).map F))) → gName j x (wipe σ vs) H fun σ2 H2 => wipe σ2 vs = wipe σ vs ∧ tt σ2 H2 fun b H3 =>
        if b = true then te σ2 H3 fun y H4 => ∃ acc, H4 D = some (.lst acc) ∧ acc.length < sizeLine ∧ (Same H1 (upd H4 D (.lst (acc ++ [y]))) ∧ (upd H4 D (.lst (acc ++ [y]))) D = some (.lst (((xs.take (i + 1)).filter p).map F))) else (Same H1 H3 ∧ H3 D = some (.lst (((xs.take (i + 1)).filter p).map F))) := by
    rintro D nD i x H hx ⟨s1, hD⟩
    have hm : x ∈ xs := List.mem_of_getElem? hx
    obtain ⟨t1, t2⟩ := step x hm H s1
    refine ⟨hw x, t1 _ fun H' s2 => ?_⟩
    have hD2 := s2 _ _ hD
    rw [take_snoc hx, List.filter_append, List.map_append]
    cases e : p x with
    | false =>
      refine iteF ⟨s1.trans s2, ?_⟩
      rw [show [x].filter p = [] by simp [e], List.map_nil, List.append_nil]
      exact hD2
    | true =>
      refine iteT (t2 e H' s2 _ fun H'' s3 => ⟨_, s3 _ _ hD2, ?_, fun b o z => ?_, ?_⟩)
      · refine small1000 (Nat.le_trans ?_ few)
        rw [List.length_map]
        exact Nat.le_trans (List.length_filter_le _ _) (by rw [List.length_take]; exact Nat.min_le_right _ _)
      · rw [upd_ne (ne_of_none z nD)]
        exact s3 _ _ (s2 _ _ (s1 _ _ z))
      · rw [upd_same, show [x].filter p = [x] by simp [e]]
        rfl
  have fin' : ∀ D, H1 D = none → ∀ H, (Same H1 H ∧ H D = some (.lst (((xs.take xs.length).filter p).map F))) → Qd D H := by
    rintro D nD H ⟨s1, hD⟩
    rw [List.take_length] at hD
    exact fin D H nD hD s1
  refine ⟨a, rfl, ?_⟩
  rcases hq with hq | hq
  · exact .inl ⟨⟨xs, hq⟩, fun D nD => lc_list (K := K) (a := a) (xs := xs) (fun i H => Same H1 H ∧ H D = some (.lst (((xs.take i).filter p).map F))) ⟨same_new nD, upd_same⟩ (fun i H _ z => z.1.seq hq) (key D nD) (fin' D nD)⟩
  · exact .inr ⟨⟨xs, hq⟩, fun D nD => lc_tup (K := K) (a := a) (xs := xs) (fun i H => Same H1 H ∧ H D = some (.lst (((xs.take i).filter p).map F))) ⟨same_new nD, upd_same⟩ (fun i H _ z => same_seqT z.1 hq) (key D nD) (fin' D nD)⟩
theorem filter_yes {α : Type} (xs : List α) : xs.filter (fun _ => true) = xs := by simp
theorem no_test {σ : L2.St} {H : Hp} {R : Bool → Hp → Prop} (h : ∀ H', Same H H' → R true H') : tYes σ H R := h H (Same.refl H)
end VA
namespace VA
open PySem L2 SX AddrMath
theorem op_inK {X : Cx} {K : PySem.W.Frag} (h : X.K = K) : OpR X (compareOp .In) (rIn K false) := by
  subst h
  exact op_in_seq
theorem op_notInK {X : Cx} {K : PySem.W.Frag} (h : X.K = K) : OpR X (compareOp .NotIn) (rIn K true) := by
  subst h
  exact op_notIn_seq
end VA
namespace VA
open PySem L2 SX AddrMath
/-- tuple(x), x a list or a tuple: a tuple of the same -/
def rTupA (K : PySem.W.Frag) : List V → Hp → VK → Prop := fun xs H Q => ∃ p ys, xs = [V.ref p] ∧ SqA K H p ys ∧ ∀ t H', SqT K H' t ys → Same H H' → Q (.ref t) H'
theorem call_tupA {X : Cx} : CallR X (.type "tuple") (rTupA X.K) := by
  intro pn s σ H xs us Q J r h
  obtain ⟨p, ys, e, hp, q⟩ := h
  refine call_tuple_of pn s σ H xs us Q J r ⟨p, ys, e, ?_⟩
  rcases hp with hp | hp
  · exact .inl ⟨hp, fun l nl => q l _ (.inl (.inl upd_same)) (same_new nl)⟩
  · exact .inr ⟨hp, q p H hp (Same.refl H)⟩
/-- t + u of tuples -/
def rCatB (K : PySem.W.Frag) : R2 := fun x y H Q => ∃ a b xs ys, x = .ref a ∧ y = .ref b ∧ SqT K H a xs ∧ SqT K H b ys ∧ xs.length + ys.length ≤ 1000 ∧ ∀ t H', SqT K H' t (xs ++ ys) → Same H H' → Q (.ref t) H'
theorem op_catB {X : Cx} : OpR X (binaryOp .Add) (rCatB X.K) := by
  intro pn s σ H x y v u Q J rx ry h
  obtain ⟨a, b, xs, ys, ex, ey, ha, hb, few, q⟩ := h
  refine op_catA pn s σ H x y v u Q J rx ry ⟨a, b, xs, ys, ex, ey, ha, hb, Nat.le_of_lt (small1000 few), fun e => ?_, fun _ e => ?_, fun _ _ t nt => q t _ (.inl (.inl upd_same)) (same_new nt)⟩
  · subst e
    exact q b H hb (Same.refl H)
  · subst e
    refine q a H ?_ (Same.refl H)
    rw [List.append_nil]
    exact ha
/-- list(x), x a list or a tuple: a new list -/
def rLstA (K : PySem.W.Frag) : List V → Hp → VK → Prop := fun xs H Q => ∃ p ys, xs = [V.ref p] ∧ SqA K H p ys ∧ ∀ l, H l = none → Q (.ref l) (upd H l (.lst ys))
theorem call_lstA {X : Cx} : CallR X (.type "list") (rLstA X.K) := by
  intro pn s σ H xs us Q J r h
  obtain ⟨p, ys, e, hp, q⟩ := h
  exact call_list_of pn s σ H xs us Q J r ⟨p, ys, e, hp, q⟩
end VA
namespace VA
open PySem L2 SX AddrMath
/-- an expression's reading, said otherwise -/
theorem pe_by {X : Cx} {e : Expr} {t : TE} (t' : TE) (h : PE X e t) (k : ∀ σ H Q, t' σ H Q → t σ H Q) : PE X e t' := ⟨fun pn s σ H Q J w => h.run pn s σ H Q J (k σ H Q w)⟩
theorem ps_by {X : Cx} {st : Stmt} {t : TS} (t' : TS) (h : PS X st t) (k : ∀ D σ H, t' D σ H → t D σ H) : PS X st t' := ⟨fun pn s σ H D J w => h.run pn s σ H D J (k D σ H w)⟩
theorem pss_by {X : Cx} {st : List Stmt} {t : TS} (t' : TS) (h : PSs X st t) (k : ∀ D σ H, t' D σ H → t D σ H) : PSs X st t' := ⟨fun pn s σ H D J w => h.run pn s σ H D J (k D σ H w)⟩
theorem pt_by {X : Cx} {e : Expr} {t : TT} (t' : TT) (h : PT X e t) (k : ∀ σ H Q, t' σ H Q → t σ H Q) : PT X e t' := ⟨fun pn s σ H Q J w => h.run pn s σ H Q J (k σ H Q w)⟩
end VA

/-! len of a written dict. -/
namespace VA
open PySem PySem.Spec PyProof.Rows L2
section
variable {prog : Program} {w : World} {A : Around} {E : Value → Shared → Prop} {s : Shared} {d : Addr} {es : Array DictEntry} {ep : Nat}
theorem len_raw {Q : Value → Shared → Prop} (hd : (d == sysModules) = false) (hm : s.heap.DictRaw d es ep) (few : (es.size : Int) < 2 ^ 63)
    (h : Q (.int es.size (s.toks + 1)) { s with toks := s.toks + 1 + 1 }) : wpAny (model prog w) A (call (.builtin "len") [.ref d]) Q E s := by
  refine Calls.call_function_entry kind_len plain_len entry_len (args_len1 _) ?_
  unfold Builtin.«len»
  refine wpAny_bind (m := oneArg "len" _) (wpAny_pure ?_)
  refine wpAny_bind (m := callSpecial? (.ref d) (Str.ofString "__len__")) (wpAny_callSpecial?_slot (name := Str.ofString "__len__") hm.typeIs F.slot_dict_len (call_len_raw hd hm ?_))
  show wpAny _ _ _ _ _ { s with toks := s.toks + 1 }
  refine wpAny_bind (wpAny_holding (wpAny_pure ?_))
  refine wpAny_bind (wpAny_letGo ?_)
  show wpAny _ _ (if ((es.size : Nat) : Int) < 0 then _ else _) _ _ _
  rw [if_neg (by omega)]
  show wpAny _ _ (if ((es.size : Nat) : Int) ≥ 2 ^ 63 then _ else _) _ _ _
  rw [if_neg (by omega)]
  exact wpAny_bind (wpAny_mkInt (wpAny_pure ⟨_, rfl, h⟩))
end
/-- len(d), d a dict of the written part -/
theorem call_lenK {X : Cx} {d : Addr} {es : Array DictEntry} {n : Nat} (at_ : X.K.lookup d = some ⟨.type "dict", none, .dict es n, #[]⟩) (low : (d == sysModules) = false) (few : (es.size : Int) < 2 ^ 63) :
    CallR X (.builtin "len") (fun xs H Q => xs = [V.ref d] ∧ Q (.int es.size) H) := by
  intro pn s σ H xs us Q J r h
  obtain ⟨rfl, q⟩ := h
  obtain ⟨u, rfl, ru⟩ := vals1 r
  cases ru
  exact len_raw low ⟨_, J.kIn _ _ at_, ⟨rfl, rfl, rfl⟩, rfl⟩ few ⟨.int es.size, H, J.tok _, ⟨_, rfl⟩, q⟩
end VA

/-! Own errors of one field: made, caught, looked at; an instance made with keywords where it may raise. -/
namespace K3X
open PySem PySem.W PySem.Spec PySem.Calls PyProof.Rows
variable {pr : Program} {wo : World} {Ar : Around} {Er : Value → Shared → Prop} {F : Frag} {x D : Addr} {ox : Obj}
/-- e.__class__ of an error that has its own dict -/
theorem cls_xd {s : Shared} {od : Obj} {G : Option Value → Shared → Prop} (C : L2.ExcC F D) (inF : F.In s.heap) (at_ : InstAt s.heap x ox D (some od)) (fin : G (some (.ref D)) { s with toks := s.toks + 1 }) :
    wpAny (model pr wo) Ar (getAttr? (.ref x) "__class__") G Er s := by
  have found : findObj F D (some od) "__class__" = some (.bind (.builtin "getset_descriptor.__get__") (.builtin "object.__class__")) :=
    findObj_data (by obtain ⟨_, hcd, _⟩ := any_some C.hd; rw [hcd]; rfl) C.ha C.hn C.ht
  obtain ⟨hh, ge, dr, tk, os⟩ := s
  have lt := at_.type (M := model pr wo); have lg := looks_findIn (M := model pr wo) inF C.hg
  have lk := looks_findIn (M := model pr wo) inF C.hk; have lf := looks_find (M := model pr wo) inF at_ found
  have isB : Looks (model pr wo) hh (isInstance (.ref x) (.type "BaseException")) true := lt.andThen (looks_subIn inF C.hs)
  have n2 : (Value.builtin "BaseException.__getattribute__" == Value.builtin "object.__getattribute__") = false := by decide +kernel
  have n1 : (onTheHeap (Value.ref D) && Value.builtin "BaseException.__getattribute__" == Value.builtin "object.__getattribute__") = false := by rw [n2]; rfl
  unfold getAttr? getAttrBy? getAttrBy; refine wpAny_bind (wpAny_mkText (wpAny_bind (wpAny_attempt (wpAny_holding (wpAny_bind (lt.at (wpAny_bind (lg.at ?_))))))))
  show wpAny _ _ (ite ((onTheHeap (Value.ref D) && Value.builtin "BaseException.__getattribute__" == Value.builtin "object.__getattribute__") = true) _ _) _ _ _
  rw [n1, if_neg Bool.false_ne_true]; unfold getAttrByItsOwn hookBefore
  refine wpAny_bind ?_; rw [if_pos (show onTheHeap (Value.ref D) = true from rfl)]; refine lk.at ?_
  refine wpAny_bind (wpAny_attempt (wpAny_holding ?_)); unfold callGetattribute
  rw [show (false && onTheHeap (Value.builtin "BaseException.__getattribute__")) = false from rfl, if_neg Bool.false_ne_true]; unfold boundAndCalled
  rw [PySem.F.excAttr_ValueError.ga.bind (.ref x)]; refine wpAny_bind (wpAny_pure ?_)
  show wpAny _ _ (call (.builtin "BaseException.__getattribute__") [.ref x, .str "__class__" tk]) _ _ _
  refine wpAny_call (codeAny_call_builtin PySem.F.excAttr_ValueError.ga.plain PySem.F.entry_bexc_ga (@check_slot (model pr wo) _ _ ⟨hh, ge, dr, tk + 1, os⟩ "BaseException.__getattribute__" "BaseException" "__getattribute__" (.ref x)
    [.str "__class__" tk] [] _ (by decide +kernel) (by decide +kernel) isB (PySem.F.args_bexc_ga (.ref x) (.str "__class__" tk)) ?_))
  unfold Builtin.«object.__getattribute__»; refine wpAny_bind (wpAny_of_eq (a := ((Value.ref x : Value), [Value.str "__class__" tk])) (by first | rfl | (simp only [slotArgs]; rfl)) ?_)
  refine wpAny_bind (wpAny_pure (wpAny_bind (lt.at (wpAny_bind (lf.at ?_)))))
  show wpAny _ _ (holding [Value.builtin "object.__class__"] (call (.builtin "getset_descriptor.__get__") [.builtin "object.__class__", .ref x, .ref D]) >>= ret) _ _ _
  refine wpAny_bind (wpAny_holding (wpAny_call (class_get (s := ⟨hh, ge, dr, tk + 1, os⟩) (ox := ox) (od := some od) inF at_ C.hm (wpAny_pure ?_))))
  show wpAny _ _ (handedOut (.ref D)) _ _ _
  rw [handedOut_of (v := .ref D) rfl]
  first
    | exact wpAny_pure (wpAny_pure fin)
    | exact wpAny_pure fin
    | exact wpAny_pure (wpAny_bind (wpAny_pure (wpAny_pure fin)))
/-- the class's own record -/
theorem rec_of {h : Heap} (C : L2.ExcC F D) (inF : F.In h) : ∃ o cd, h.get? D = some o ∧ o.data = .cls cd ∧ F.lookup D = some o := by
  obtain ⟨cd, hcd, _⟩ := any_some C.hd
  unfold clsIn at hcd
  split at hcd
  · rename_i c1 d1 cd1 sl1 ho
    exact ⟨_, cd1, inF _ _ ho, rfl, ho⟩
  · cases hcd
theorem kit_xd (C : L2.ExcC F D) : KitX F (.ref x) (.ref D) (fun h => ∃ od, InstAt h x ox D (some od)) where
  ty := fun _ _ _ ⟨_, I⟩ => I.type
  it := fun _ _ inF _ => by
    intro A1 Q1 E1 s1 kp q
    obtain ⟨o, cd, ho, hd, _⟩ := rec_of C inF
    unfold isType loadHead
    exact wpAny_bind (wpAny_loadPart (kp _ _ ho) (by rw [hd]; exact wpAny_pure q))
  ne := fun h tp dd its n sl inF htp => by
    obtain ⟨o, cd, ho, hd, _⟩ := rec_of C inF
    refine Bool.eq_false_iff.mpr fun q => ?_
    have e : D = tp := Value.ref.inj (beq_iff_eq.mp q)
    subst e
    rw [ho] at htp
    have z := Option.some.inj htp
    rw [z] at hd
    cases hd
  ca := fun inF ⟨_, I⟩ k => cls_xd C inF I k
end K3X
namespace VA
open PySem L2 SX AddrMath
/-- isinstance(e, c), e the caught error with a dict of its own -/
def rIsX (F : PySem.W.Frag) (D a : Addr) (cls : Value) (d : Option Addr) : List V → Hp → VK → Prop := fun xs H Q => ∃ (c : V) (cv : Value) (b : Bool) (dd : Addr) (fs : List (Str × V)), xs = [.ref a, c] ∧ cls = .ref D ∧ (∀ u, RelV c u → u = cv) ∧ d = some dd ∧ H dd = some (.xd fs) ∧ PySem.W.kitOne F (.ref D) cv = some b ∧ Q (.bl b) H
theorem call_isX {X : Cx} {a D : Addr} {cls : Value} {d : Option Addr} {oe : Obj} {pn : List (Addr × Obj)} (C : ExcC X.K D) (hz : Zc cls d oe) (hf : ∃ vs, oe.data = .fields vs) : CallR (X.suite a ((a, oe) :: pn)) (.builtin "isinstance") (rIsX X.K D a cls d) := by
  intro pins s σ H xs us Q I r h
  obtain ⟨c, cv, b, dd, fs, rfl, ecl, hcv, rfl, hdd, e, q⟩ := h
  subst ecl
  cases r with
  | cons rx rr =>
    cases rr with
    | cons rt rr =>
      cases rr
      cases rx
      obtain rfl := hcv _ rt
      have ha := (I.pin (a, oe) (List.mem_append_left _ List.mem_cons_self)).1
      obtain ⟨vs, hv⟩ := hf
      have hx : ObjOk X.prog X.w H s.heap dd (.xd fs) := I.hok dd _ hdd
      obtain ⟨mA, hns, _⟩ := hx
      obtain ⟨od, ho, _⟩ := lookIn_ns hns
      have J : PySem.W.InstAt s.heap a oe D (some od) := ⟨ha, hz.1, by unfold PySem.W.notCls; rw [hv] <;> rfl, by rw [hz.2]; exact ho⟩
      exact PySem.W.kia_one (K3X.kit_xd C) I.kIn ⟨od, J⟩ e (fun z => nomatch z) fun tk => ⟨.bl b, H, I.kept (t' := tk) fun _ _ z => z, rfl, q⟩
end VA
namespace VA
open PySem L2 SX AddrMath PySem.Spec PyProof.Rows
/-- what the text says of an own error with one field n, at C, and of its __init__, at fI -/
structure ErrC (K : PySem.W.Frag) (mg : Str → Option Value) (x n : Str) (C fI : Addr) : Prop where
  ox : OexC K C
  iC : PySem.W.findIn K (.ref C) "__init__" = some (some (.ref fI))
  tI : PySem.W.typeIn K (.ref fI) = some (.type "function")
  no : PySem.W.findIn K (.ref C) n = some none
  mgC : mg x = some (.ref C)
abbrev ixF (n : Str) (v : V) : List (Str × V) := [(n, v)]
def spErr (n : Str) (C : Addr) : Sp := fun vs H Q _ => ∃ (a : Addr) (v : V), vs = [.ref a, v] ∧ H a = some (exo a C none) ∧ ∀ dx, H dx = none → dx ≠ a → Q .non (upd (upd H dx (exd dx (ixF n v))) a (exo a C (some dx)))
/-- an own error of one field, made -/
theorem err_use {n : Str} {C a : Addr} {H1 : Hp} {v : V} {Q : XK} {E : XK} (na : H1 a = none) (q : ∀ d, H1 d = none → Q (.ref C) (some d) (upd H1 d (.xd (ixF n v)))) :
    spErr n C [.ref a, v] (upd H1 a (exo a C none)) (fun u H2 => u = .non ∧ ∃ (d : Addr) (fs : List (Str × V)), H2 a = some (exo a C (some d)) ∧ H2 d = some (exd d fs) ∧ H1 d = none ∧ Q (.ref C) (some d) (upd (del H2 a) d (.xd fs))) E := by
  refine ⟨a, v, rfl, upd_same, fun dx nd ne => ⟨rfl, dx, ixF n v, upd_same, ?_, ?_, ?_⟩⟩
  · rw [upd_ne ne, upd_same]
  · rw [upd_ne ne] at nd
    exact nd
  · have n1 : H1 dx = none := by
      rw [upd_ne ne] at nd
      exact nd
    have e : upd (del (upd (upd (upd H1 a (exo a C none)) dx (exd dx (ixF n v))) a (exo a C (some dx))) a) dx (.xd (ixF n v)) = upd H1 dx (.xd (ixF n v)) := by
      funext b
      by_cases h1 : b = dx
      · rw [h1, upd_same, upd_same]
      · rw [upd_ne h1, upd_ne h1]
        by_cases h2 : b = a
        · rw [h2, del_same, na]
        · rw [del_ne h2, upd_ne h2, upd_ne h1, upd_ne h2]
    rw [e]
    exact q dx n1

/-! ### C(e, .., k = v, ..) where what __init__ lets out is wished for at the caller's slots -/
def tMakeNS (C : Addr) (n m : Nat) (sp : Sp) (gV : List V → List V → List V) (E : L2.St → XK) (t tk : TA) : TE := fun σ H Q => t σ H fun vs H1 => tk σ H1 fun zs H2 => vs.length = n ∧ zs.length = m ∧
  ∀ y dy, H2 y = none → H2 dy = none → dy ≠ y → sp (gV (.ref y :: vs) zs) (upd (upd H2 dy (.own y)) y (.ins C dy [])) (fun v H3 => v = .non ∧ Q (.ref y) H3) (E σ)
section
variable {X : Cx} {CX : CXT} {k n : Nat} {f C : Addr} {fd : FuncData} {names ks : List Str} {sp : Sp} {E : L2.St → XK} {x : Str} {p pos : Pos} {e : Expr} {es : List Expr} {kws : List Keyword} {t tk : TA} {g : List Value → List Value → List Value} {gV : List V → List V → List V}
theorem make_kS {pn : List (Addr × Obj)} {σ : L2.St} {H : Hp} {s : Shared} {Q : VK} {us ws : List Value} {vs zs : List V} (M : Mk X.K C f) (D : FnOk X.prog X.w X.K X.mg X.base CX k f fd names sp) (room : Room (k + 1) X.A) (bn : KBn X.K fd names (n + 1) ks g gV)
    (pa : PassesAt CX X σ (E σ)) (J : Inv X pn σ H s) (rv : Vals vs us) (rz : Vals zs ws) (l1 : vs.length = n) (l2 : zs.length = ks.length)
    (want : ∀ y dy, H y = none → H dy = none → dy ≠ y → sp (gV (.ref y :: vs) zs) (upd (upd H dy (.own y)) y (.ins C dy [])) (fun v H2 => v = .non ∧ Q (.ref y) H2) (E σ)) :
    wpAny (model X.prog X.w) X.A (call (.ref C) us (ks.zip ws)) (EP X pn σ Q) X.xe s := by
  have w1 := want (s.heap.objs.size + 1) s.heap.objs.size (J.hok.fresh (Nat.le_succ _)) (J.hok.fresh (Nat.le_refl _)) (Nat.ne_of_lt (Nat.lt_succ_self _))
  have J2 := Inv.made (C := C) J
  have rv1 : Vals (V.ref (s.heap.objs.size + 1) :: vs) (Value.ref (s.heap.objs.size + 1) :: us) := .cons rfl rv
  have many : (Value.ref (s.heap.objs.size + 1) :: us).length = n + 1 := rv1.length.symm.trans (congrArg Nat.succ l1)
  refine wpAny_call (make_map (f := f) J.kIn M.makes M.init (beq_iff_eq.mp M.fn) (codeAny_mono (D.run _ X.stack _ _ ⟨Value.ref (s.heap.objs.size + 1) :: us, ks.zip ws⟩ (g (Value.ref (s.heap.objs.size + 1) :: us) ws) _ _ (E σ) (room.make C us (ks.zip ws))
    (J2.env0.make C us (ks.zip ws)) (bn.to _ (Value.ref (s.heap.objs.size + 1) :: us) ws J2.kIn many (rz.length.symm.trans l2)) (bn.rel rv1 rz) w1) fun r s' out => ?_))
  match r, out with
  | .error er, out => exact pa _ _ _ _ _ J2 out
  | .ok (.ret u), out =>
    obtain ⟨v, H', J3, ru, ev, q3⟩ := J2.after out
    subst ev
    exact ⟨ru, ⟨V.ref (s.heap.objs.size + 1), H', J3, rfl, q3⟩⟩
  | .ok .next, out => exact False.elim out
  | .ok .brk, out => exact False.elim out
  | .ok .cont, out => exact False.elim out
theorem pe_makeNS (M : Mk X.K C f) (D : FnOk X.prog X.w X.K X.mg X.base CX k f fd names sp) (room : Room (k + 1) X.A) (hg : Gl X x) (hm : X.mg x = some (.ref C)) (bn : KBn X.K fd names (n + 1) ks g gV) (pa : ∀ σ, PassesAt CX X σ (E σ))
    (ha : PA X (e :: es) t) (hkw : PK X kws tk) (hall : (backToKw pos (keywordEach kws X.env)).all (·.1.isSome) = true := by rfl) (hks : (backToKw pos (keywordEach kws X.env)).filterMap (·.1) = ks := by rfl)
    (hdb : (x == ("__debug__" : Str)) = false := by decide) (he : starEach (e :: es) X.env = (false, eval e X.env) :: starEach es X.env := by rfl)
    (hpl : ((backTo pos (starEach (e :: es) X.env)).any (·.1) || (backToKw pos (keywordEach kws X.env)).any (·.1.isNone)) = false := by rfl) :
    PE X (.Call (.Name x p) (e :: es) kws pos) (tMakeNS C n ks.length sp gV E t tk) := by
  refine ⟨fun pn s σ H Q J want => ?_⟩
  refine wpAny_Call_Name_kw (ld_glob J hg hm ?_ hdb)
  refine PySem.W.callWith_KW (h₀ := X.base) J.ok.mod.kin M.kp hall (thn (ha.run pos pn s σ H _ J want) fun us s1 ⟨vs, H1, J1, rv, q⟩ => ?_) hpl he
  refine thn (hkw.run pos pn s1 σ H1 _ J1 q) fun ws s2 ⟨zs, H2, J2, rz, l1, l2, q2⟩ => ⟨J2.kIn, ?_⟩
  rw [hks]
  exact make_kS M D room bn (pa σ) J2 rv rz l1 l2 q2
end
end VA

/-! The source of draws, whatever the row. -/
namespace VA
open PySem L2 SX AddrMath
theorem But.refl (d : Addr) (H : Hp) : But d H H := fun _ _ h _ => h
theorem But.trans {d : Addr} {H H1 H2 : Hp} (a : But d H H1) (b : But d H1 H2) : But d H H2 := fun c o h hc => b c o (a c o h hc) hc
theorem But.upd {d : Addr} {H : Hp} {o : HO} : But d H (upd H d o) := fun b u e hb => by rw [upd_ne hb]; exact e
theorem But.new {d p : Addr} {H : Hp} {o : HO} (h : H p = none) : But d H (L2.upd H p o) := fun b u e _ => by rw [upd_ne (ne_of_none e h)]; exact e
theorem but_of {d : Addr} {H H' : Hp} (s : Same H H') : But d H H' := fun b o e _ => s b o e
theorem But.free {d a : Addr} {H H' : Hp} {o : HO} (hd : H d = some o) (b : But d H H') (hd' : H' d ≠ none) (h : H' a = none) : H a = none := by
  cases q : H a with
  | none => rfl
  | some u =>
    by_cases e : a = d
    · rw [e] at h
      exact absurd h hd'
    · rw [b a u q e] at h
      cases h
abbrev kCells : Key := Sum.inr ("cells" : Str)
abbrev kSpot : Key := Sum.inr ("spot" : Str)
abbrev kRest : Key := Sum.inr ("rest" : Str)
theorem k_cs : ¬ (kCells = kSpot) := by decide +kernel
theorem k_cr : ¬ (kCells = kRest) := by decide +kernel
theorem k_sc : ¬ (kSpot = kCells) := by decide +kernel
theorem k_sr : ¬ (kSpot = kRest) := by decide +kernel
theorem k_rc : ¬ (kRest = kCells) := by decide +kernel
theorem k_rs : ¬ (kRest = kSpot) := by decide +kernel
def penKV (c : Addr) (spot rest : Int) : List (Key × V) := [(kCells, .ref c), (kSpot, .int spot), (kRest, .int rest)]
theorem pen_cells (c : Addr) (s r : Int) : valV (penKV c s r) kCells = some (.ref c) := valV_pos rfl
theorem pen_spot (c : Addr) (s r : Int) : valV (penKV c s r) kSpot = some (.int s) := (valV_neg k_cs).trans (valV_pos rfl)
theorem pen_rest (c : Addr) (s r : Int) : valV (penKV c s r) kRest = some (.int r) := (valV_neg k_cr).trans ((valV_neg k_sr).trans (valV_pos rfl))
theorem pen_putS (c : Addr) (s r z : Int) : putK (penKV c s r) kSpot (.int z) = penKV c z r := by
  unfold putK penKV
  rw [if_pos (by simp)]
  simp only [List.map_cons, List.map_nil, if_neg k_cs, if_neg k_rs, if_pos trivial]
theorem pen_putR (c : Addr) (s r z : Int) : putK (penKV c s r) kRest (.int z) = penKV c s z := by
  unfold putK penKV
  rw [if_pos (by simp)]
  simp only [List.map_cons, List.map_nil, if_neg k_cr, if_neg k_sr, if_pos trivial]
theorem pen_made (c : Addr) (s r : Int) : mergeK [] (penKV c s r) = penKV c s r := by
  show putK (putK (putK [] kCells (V.ref c)) kSpot (V.int s)) kRest (V.int r) = _
  have e1 : putK [] kCells (V.ref c) = [(kCells, V.ref c)] := putK_new _ rfl
  have e2 : putK [(kCells, V.ref c)] kSpot (V.int s) = [(kCells, V.ref c), (kSpot, V.int s)] := putK_new _ (valV_neg k_cs)
  rw [e1, e2]
  exact putK_new _ ((valV_neg k_cr).trans (valV_neg k_sr))
/-- a source of draws stands at d, at most n draws were begun -/
def PenAt (H : Hp) (d c : Addr) (n : Nat) : Prop := ∃ (ns : List Int) (s : Nat) (r : Int), H d = some (.dK (penKV c (s : Int) r)) ∧ H c = some (.lst (ns.map V.int)) ∧ ns.length ≤ 63 ∧ s ≤ n
theorem PenAt.keep {H H' : Hp} {d c : Addr} {n : Nat} (p : PenAt H d c n) (s : Same H H') : PenAt H' d c n := by
  obtain ⟨ns, k, r, h1, h2, h3, h4⟩ := p
  exact ⟨ns, k, r, s _ _ h1, s _ _ h2, h3, h4⟩
theorem PenAt.mono {H : Hp} {d c : Addr} {n m : Nat} (p : PenAt H d c n) (h : n ≤ m) : PenAt H d c m := by
  obtain ⟨ns, k, r, h1, h2, h3, h4⟩ := p
  exact ⟨ns, k, r, h1, h2, h3, Nat.le_trans h4 h⟩
theorem PenAt.ne {H : Hp} {d c : Addr} {n : Nat} (p : PenAt H d c n) : H d ≠ none := by
  obtain ⟨ns, k, r, h1, h2, h3, h4⟩ := p
  rw [h1]
  exact fun z => nomatch z
theorem PenAt.neC {H : Hp} {d c : Addr} {n : Nat} (p : PenAt H d c n) : H c ≠ none := by
  obtain ⟨ns, k, r, h1, h2, h3, h4⟩ := p
  rw [h2]
  exact fun z => nomatch z
theorem PenAt.free {H H' : Hp} {d c a : Addr} {n m : Nat} (p : PenAt H d c n) (p' : PenAt H' d c m) (b : But d H H') (h : H' a = none) : H a = none := by
  obtain ⟨ns, k, r, h1, h2, h3, h4⟩ := p
  exact b.free h1 p'.ne h
/-- another object is written -/
theorem PenAt.put {H : Hp} {d c a : Addr} {n : Nat} {o : HO} (p : PenAt H d c n) (h1 : a ≠ d) (h2 : a ≠ c) : PenAt (upd H a o) d c n := by
  obtain ⟨ns, k, r, e1, e2, h3, h4⟩ := p
  exact ⟨ns, k, r, by rw [upd_ne h1.symm]; exact e1, by rw [upd_ne h2.symm]; exact e2, h3, h4⟩
theorem But.put {d a : Addr} {H H' : Hp} {o : HO} (b : But d H H') (h : H a = none) : But d H (L2.upd H' a o) := fun x u e hx => by
  rw [upd_ne (ne_of_none e h)]
  exact b x u e hx
theorem dp_ints {K : PySem.W.Frag} {H : Hp} : ∀ ns : List Int, DpAll K H (ns.map V.int) (ns.map PyData.int)
  | [] => .nil
  | n :: r => .cons (.int n) (dp_ints r)
theorem cl_ints : ∀ ns : List Int, PyData.canLayAll0 (ns.map PyData.int) = true
  | [] => rfl
  | _ :: r => by simp [PyData.canLayAll0, PyData.canLay0, cl_ints r]
theorem da_ints : ∀ ns : List Int, PyData.depthAll (ns.map PyData.int) = 0
  | [] => rfl
  | _ :: r => by simp [PyData.depthAll, PyData.depth, da_ints r]
theorem sh_ints (ns : List Int) : SeqAt.shaped (.list (ns.map PyData.int)) = true := by
  simp [SeqAt.shaped, PyData.canLay0, PyData.depth, cl_ints, da_ints]
theorem fmod_in (x : Int) {m : Int} (h : 0 < m) : 0 ≤ x.fmod m ∧ x.fmod m < m := by
  rw [Int.fmod_eq_emod_of_nonneg x (by omega)]
  exact ⟨Int.emod_nonneg x (by omega), Int.emod_lt_of_pos x h⟩
theorem eqv_ints (ns : List Int) : PyData.eqv (.list (ns.map PyData.int)) (.list []) = ns.isEmpty := by
  cases ns <;> rfl
theorem nz1 : (2147483423 : Int) ≠ 0 := by decide
theorem nz2 : (2147483477 : Int) ≠ 0 := by decide
theorem nz3 : (2147483489 : Int) ≠ 0 := by decide
theorem nz4 : (2147483497 : Int) ≠ 0 := by decide
theorem cut_to (xs : List V) (k : Nat) : cutV xs none (some (k : Int)) = xs.take k := by
  unfold cutV
  rw [HT.sIx_none, HT.sIx_nat, List.drop_zero, Nat.sub_zero]
  by_cases h : k ≤ xs.length
  · rw [Nat.min_eq_left h]
  · rw [Nat.min_eq_right (by omega), List.take_of_length_le (Nat.le_refl _), List.take_of_length_le (by omega)]
theorem cut_from (xs : List V) (k : Nat) : cutV xs (some (k : Int)) none = xs.drop k := by
  unfold cutV
  rw [HT.sIx_none, HT.sIx_nat]
  by_cases h : k ≤ xs.length
  · rw [Nat.min_eq_left h, List.take_of_length_le (by rw [List.length_drop]; omega)]
  · rw [Nat.min_eq_right (by omega), List.drop_eq_nil_of_le (Nat.le_refl _), List.drop_eq_nil_of_le (by omega)]
    simp
theorem size_ok {n : Nat} (h : n ≤ 1000000) : n ≤ sizeLine := by rw [sizeLine_eq]; omega
theorem size_lt {n : Nat} (h : n ≤ 1000000) : n < sizeLine := by rw [sizeLine_eq]; omega
/-! ### texts by their signs -/
theorem len_S (l : List Nat) : (S l).length = l.length := S_len l
theorem cutS_to (l : List Nat) (k : Nat) : cutS (S l) none (some (k : Int)) = S (l.take k) := by
  unfold cutS
  rw [HT.sIx_none, HT.sIx_nat, len_S, List.drop_zero, Nat.sub_zero]
  show S (l.take (min k l.length)) = _
  by_cases h : k ≤ l.length
  · rw [Nat.min_eq_left h]
  · rw [Nat.min_eq_right (by omega), List.take_of_length_le (Nat.le_refl _), List.take_of_length_le (by omega)]
theorem cutS_from (l : List Nat) (k : Nat) : cutS (S l) (some (k : Int)) none = S (l.drop k) := by
  unfold cutS
  rw [HT.sIx_none, HT.sIx_nat, len_S]
  show S ((l.drop (min k l.length)).take (l.length - min k l.length)) = _
  by_cases h : k ≤ l.length
  · rw [Nat.min_eq_left h, List.take_of_length_le (by rw [List.length_drop]; omega)]
  · rw [Nat.min_eq_right (by omega), List.drop_eq_nil_of_le (Nat.le_refl _), List.drop_eq_nil_of_le (show l.length ≤ k by omega)]
    simp
theorem cutS_mid (l : List Nat) (i k : Nat) : cutS (S l) (some (i : Int)) (some (k : Int)) = S ((l.take k).drop i) := by
  unfold cutS
  rw [HT.sIx_nat, HT.sIx_nat, len_S]
  show S ((l.drop (min i l.length)).take (min k l.length - min i l.length)) = _
  congr 1
  apply List.ext_getElem?
  intro n
  rw [List.getElem?_take, List.getElem?_drop, List.getElem?_drop, List.getElem?_take]
  by_cases hi : i ≤ l.length
  · rw [Nat.min_eq_left hi]
    by_cases hk : k ≤ l.length
    · rw [Nat.min_eq_left hk]
      by_cases h : n < k - i
      · rw [if_pos h, if_pos (by omega)]
      · rw [if_neg h, if_neg (by omega)]
    · rw [Nat.min_eq_right (by omega)]
      by_cases h : n < l.length - i
      · rw [if_pos h, if_pos (by omega)]
      · rw [if_neg h]
        split
        · exact (List.getElem?_eq_none (by omega)).symm
        · rfl
  · rw [Nat.min_eq_right (by omega : l.length ≤ i)]
    rw [if_neg (by omega)]
    split
    · exact (List.getElem?_eq_none (by omega)).symm
    · rfl
theorem joinL_nil : ∀ ys : List (List Nat), TL.joinL [] ys = ys.flatten
  | [] => rfl
  | [p] => by simp [TL.joinL]
  | p :: q :: r => by
    show p ++ ([] ++ TL.joinL [] (q :: r)) = _
    rw [joinL_nil (q :: r)]
    rfl
theorem join_S0 (ys : List (List Nat)) : Txt.join (S []) (ys.map S) = S ys.flatten := by rw [join_S, joinL_nil]
theorem emp_S : (Str.ofString "" : Str) = S [] := by decide +kernel
theorem nz3' : (3 : Int) ≠ 0 := by decide
theorem nz26 : (26 : Int) ≠ 0 := by decide
theorem at_ofN {xs : List Nat} {z : Int} {j : Nat} {v : Nat} (e : z = (j : Int)) (h : xs[j]? = some v) : atI xs z = some v := by
  rw [e]
  exact atI_nat h
abbrev lettersL : List Nat := (Str.ofString "abcdefghijklmnopqrstuvwxyz" : Str).cps.toList
theorem letters_all : ∀ c ∈ lettersL, isL c = true := by decide +kernel
theorem letters_len : lettersL.length = 26 := by decide +kernel
theorem letters_S : (Str.ofString "abcdefghijklmnopqrstuvwxyz" : Str) = S lettersL := (S_tl _).symm
theorem flat_one (cs : List Nat) : (cs.map fun c => [c]).flatten = cs := by
  induction cs with
  | nil => rfl
  | cons c r ih =>
    rw [List.map_cons, List.flatten_cons, ih]
    rfl
theorem map_one (cs : List Nat) : (cs.map fun c => V.str (S [c])) = ((cs.map fun c => [c]).map S).map V.str := by
  rw [List.map_map, List.map_map]
  rfl
theorem sum_one (cs : List Nat) : (((cs.map fun c => [c]).map S).map (·.length)).sum = cs.length := by
  induction cs with
  | nil => rfl
  | cons c r ih =>
    rw [List.map_cons, List.map_cons, List.map_cons, List.sum_cons, ih, List.length_cons, len_S]
    exact Nat.add_comm _ _
end VA

namespace RL
open PySem L2 SX AddrMath VA
def top (i : Nat) : Stmt := PySem.Challenge.pw_sentonward_k41_far_addresses_made.main.body.getD i (.Pass ⟨0, 0, 0, 0⟩)
/-- names that are the built-in ones -/
structure Blt (mg : Str → Option Value) : Prop where
  isinstance_ : mg "isinstance" = none
  str_ : mg "str" = none
  int_ : mg "int" = none
  bool_ : mg "bool" = none
  list_ : mg "list" = none
  tuple_ : mg "tuple" = none
  len_ : mg "len" = none
  all_ : mg "all" = none
  sorted_ : mg "sorted" = none
  set_ : mg "set" = none
  range_ : mg "range" = none
  min_ : mg "min" = none
  repr_ : mg "repr" = none
  zip_ : mg "zip" = none
theorem if_dec {c A B : Prop} [Decidable c] (h : c) (a : A) : if decide c = true then A else B := by
  rw [if_pos (decide_eq_true h)]
  exact a
theorem if_not {c A B : Prop} [Decidable c] (h : ¬ c) (b : B) : if decide c = true then A else B := by
  rw [if_neg (by simpa using h)]
  exact b
theorem if_is {b : Bool} {A B : Prop} (t : b = true → A) (f : b = false → B) : if b = true then A else B := by
  cases b with
  | true => exact iteT (t rfl)
  | false => exact iteF (f rfl)
theorem kitSeq {K : PySem.W.Frag} (d : PyData) : PySem.W.kitAny K (.type (tyN d)) [.type "list", .type "tuple"] = some (isSeqD d) := by
  cases d with
  | none => exact kitAny_cons (kit_ty (show kitB "NoneType" "list" = some false by decide +kernel)) (fun _ => kitAny_cons (kit_ty (show kitB "NoneType" "tuple" = some false by decide +kernel)) (fun _ => rfl) (fun z => by cases z)) (fun z => by cases z)
  | bool b => exact kitAny_cons (kit_ty (show kitB "bool" "list" = some false by decide +kernel)) (fun _ => kitAny_cons (kit_ty (show kitB "bool" "tuple" = some false by decide +kernel)) (fun _ => rfl) (fun z => by cases z)) (fun z => by cases z)
  | int i => exact kitAny_cons (kit_ty (show kitB "int" "list" = some false by decide +kernel)) (fun _ => kitAny_cons (kit_ty (show kitB "int" "tuple" = some false by decide +kernel)) (fun _ => rfl) (fun z => by cases z)) (fun z => by cases z)
  | str x => exact kitAny_cons (kit_ty (show kitB "str" "list" = some false by decide +kernel)) (fun _ => kitAny_cons (kit_ty (show kitB "str" "tuple" = some false by decide +kernel)) (fun _ => rfl) (fun z => by cases z)) (fun z => by cases z)
  | list l => exact kitAny_cons (kit_ty (show kitB "list" "list" = some true by decide +kernel)) (fun z => by cases z) fun _ => rfl
  | tuple l => exact kitAny_cons (kit_ty (show kitB "tuple" "list" = some false by decide +kernel)) (fun _ => kitAny_cons (kit_ty (show kitB "tuple" "tuple" = some true by decide +kernel)) (fun z => by cases z) fun _ => rfl) (fun z => by cases z)
  | dict l => exact kitAny_cons (kit_ty (show kitB "dict" "list" = some false by decide +kernel)) (fun _ => kitAny_cons (kit_ty (show kitB "dict" "tuple" = some false by decide +kernel)) (fun _ => rfl) (fun z => by cases z)) (fun z => by cases z)
def isStrD : PyData → Bool
  | .str _ => true
  | _ => false
def isBoolD : PyData → Bool
  | .bool _ => true
  | _ => false
def isTupD : PyData → Bool
  | .tuple _ => true
  | _ => false
def isNumD : PyData → Bool
  | .int _ => true
  | .bool _ => true
  | _ => false
theorem kitStr {K : PySem.W.Frag} (d : PyData) : PySem.W.kitOne K (.type (tyN d)) (.type "str") = some (isStrD d) := by
  cases d with
  | none => exact (kit_ty (show kitB "NoneType" "str" = some false by decide +kernel))
  | bool b => exact (kit_ty (show kitB "bool" "str" = some false by decide +kernel))
  | int i => exact (kit_ty (show kitB "int" "str" = some false by decide +kernel))
  | str x => exact (kit_ty (show kitB "str" "str" = some true by decide +kernel))
  | list l => exact (kit_ty (show kitB "list" "str" = some false by decide +kernel))
  | tuple l => exact (kit_ty (show kitB "tuple" "str" = some false by decide +kernel))
  | dict l => exact (kit_ty (show kitB "dict" "str" = some false by decide +kernel))
theorem kitBool {K : PySem.W.Frag} (d : PyData) : PySem.W.kitOne K (.type (tyN d)) (.type "bool") = some (isBoolD d) := by
  cases d with
  | none => exact (kit_ty (show kitB "NoneType" "bool" = some false by decide +kernel))
  | bool b => exact (kit_ty (show kitB "bool" "bool" = some true by decide +kernel))
  | int i => exact (kit_ty (show kitB "int" "bool" = some false by decide +kernel))
  | str x => exact (kit_ty (show kitB "str" "bool" = some false by decide +kernel))
  | list l => exact (kit_ty (show kitB "list" "bool" = some false by decide +kernel))
  | tuple l => exact (kit_ty (show kitB "tuple" "bool" = some false by decide +kernel))
  | dict l => exact (kit_ty (show kitB "dict" "bool" = some false by decide +kernel))
theorem kitTup {K : PySem.W.Frag} (d : PyData) : PySem.W.kitOne K (.type (tyN d)) (.type "tuple") = some (isTupD d) := by
  cases d with
  | none => exact (kit_ty (show kitB "NoneType" "tuple" = some false by decide +kernel))
  | bool b => exact (kit_ty (show kitB "bool" "tuple" = some false by decide +kernel))
  | int i => exact (kit_ty (show kitB "int" "tuple" = some false by decide +kernel))
  | str x => exact (kit_ty (show kitB "str" "tuple" = some false by decide +kernel))
  | list l => exact (kit_ty (show kitB "list" "tuple" = some false by decide +kernel))
  | tuple l => exact (kit_ty (show kitB "tuple" "tuple" = some true by decide +kernel))
  | dict l => exact (kit_ty (show kitB "dict" "tuple" = some false by decide +kernel))
theorem kitInt {K : PySem.W.Frag} (d : PyData) : PySem.W.kitOne K (.type (tyN d)) (.type "int") = some (isNumD d) := by
  cases d with
  | none => exact (kit_ty (show kitB "NoneType" "int" = some false by decide +kernel))
  | bool b => exact (kit_ty (show kitB "bool" "int" = some true by decide +kernel))
  | int i => exact (kit_ty (show kitB "int" "int" = some true by decide +kernel))
  | str x => exact (kit_ty (show kitB "str" "int" = some false by decide +kernel))
  | list l => exact (kit_ty (show kitB "list" "int" = some false by decide +kernel))
  | tuple l => exact (kit_ty (show kitB "tuple" "int" = some false by decide +kernel))
  | dict l => exact (kit_ty (show kitB "dict" "int" = some false by decide +kernel))
theorem vx_str {K : PySem.W.Frag} {H : Hp} {x : V} {d : PyData} (h : Vx K H x d) (e : isStrD d = true) : ∃ z : Str, x = .str z ∧ d = .str z ∧ z.length ≤ 1000 := by
  rcases h with ⟨h, o⟩ | ⟨a, kvs, rfl, h, rfl⟩
  · cases h with
    | str z =>
      rw [okD, Bool.and_eq_true, decide_eq_true_eq] at o
      exact ⟨z, rfl, rfl, o.1⟩
    | non => cases e
    | bl b => cases e
    | int i => cases e
    | lst h1 h2 => cases e
    | tup h1 h2 => cases e
  · cases e
theorem vx_seq {K : PySem.W.Frag} {H : Hp} {x : V} {d : PyData} (h : Vx K H x d) (e : isSeqD d = true) : ∃ a xs, x = .ref a ∧ SqA K H a xs ∧ DpAll K H xs (itemsD d) ∧ (itemsD d).length ≤ 1000 ∧ ∀ e ∈ itemsD d, okD 7 e = true := by
  rcases h with ⟨h, o⟩ | ⟨a, kvs, rfl, h, rfl⟩
  · cases h with
    | str z => cases e
    | non => cases e
    | bl b => cases e
    | int i => cases e
    | lst h1 h2 =>
      rw [okD, Bool.and_eq_true, Bool.and_eq_true, decide_eq_true_eq, decide_eq_true_eq] at o
      exact ⟨_, _, rfl, .inl h1, h2, o.2.1, okAll_mem o.2.2⟩
    | tup h1 h2 =>
      rw [okD, Bool.and_eq_true, Bool.and_eq_true, decide_eq_true_eq, decide_eq_true_eq] at o
      exact ⟨_, _, rfl, .inr h1, h2, o.2.1, okAll_mem o.2.2⟩
  · cases e
section
variable {P : Program} {w : World} {K : PySem.W.Frag} {mg : Str → Option Value} {base : Heap}
/-! ### is_word: slots value 0 -/
abbrev sIsWord : Stmt := top 4
def spIsWord (K : PySem.W.Frag) : Sp := fun vs H Q _ => ∃ x d, vs = [x] ∧ Vx K H x d ∧ Q (.bl (isWordD d)) H
theorem scIsWord : FnScope ["value"] ["value"] (defScope sIsWord) := ⟨rfl, rfl, rfl, by decide +kernel, rfl, by decide +kernel, by decide +kernel⟩
theorem ok_isword {f : Addr} {fd : FuncData} {t : Tok} (F : Fun K "is_word" "is_word" sIsWord f fd) (B : Blt mg) (mL : mg "LETTERS" = some (.int 8 t)) :
    FnOk P w K mg base CX0 1 f fd ["value"] (spIsWord K) := by
  refine F.ok scIsWord (fun vs H Q E h => ?_) (fun cdv A outer s H vs Q E hr h => ?_)
  · obtain ⟨x, d, rfl, _⟩ := h
    rfl
  · obtain ⟨x, d, rfl, hx, q⟩ := h
    refine ⟨_, (pss_cons (ps_if (pt_not (pt_val (pe_callB call_isi (by rfl) B.isinstance_ (by decide +kernel) (pa_cons (pv 0) (pa_cons (pe_bltn (v := .ty "str") (by rfl) B.str_ (by decide +kernel) rfl) pa_nil))))) (pss_one (ps_ret pe_bl)) pss_nil)
      (pss_one (ps_ret (pe_and (pe_chain op_le op_le pe_int (pe_callB call_len_str (by rfl) B.len_ (by decide +kernel) (pa_cons (pv 0) pa_nil)) (pe_glob (v := .int 8) rfl mL ⟨_, rfl⟩)) (pe_and (pe_m0 PySem.F.slot_str_isascii PySem.F.type_str_isascii mt_isascii (pv 0)) (pe_and (pe_m0 PySem.F.slot_str_isalpha PySem.F.type_str_isalpha mt_isalpha (pv 0)) (pe_one (pe_m0 PySem.F.slot_str_islower PySem.F.type_str_islower mt_islower (pv 0))))))))), ?_⟩
    refine ⟨_, rfl, _, _, _, _, isStrD d, rfl, .ty "str", hx.ty, kitStr d, _, rfl, ?_⟩
    cases e : isStrD d with
    | false =>
      refine iteT ?_
      have : isWordD d = false := by cases d <;> first | rfl | cases e
      rw [this] at q
      exact q
    | true =>
      refine iteF ?_
      obtain ⟨z, rfl, rfl, hz⟩ := vx_str hx e
      have q' : Q (.bl (isW z.cps.toList)) H := q
      refine ⟨_, rfl, _, rfl, size_ok (by omega), _, _, rfl, rfl, _, rfl, if_is (fun h1 => ?_) (fun h1 => ?_)⟩
      · have h1' : (1 : Int) ≤ (z.length : Int) := of_decide_eq_true h1
        refine ⟨_, _, rfl, rfl, _, rfl, if_is (fun h8 => ?_) (fun h8 => ?_)⟩
        · have h8' : (z.length : Int) ≤ 8 := of_decide_eq_true h8
          have e2 := word_txt z (by omega) (by omega)
          refine ⟨_, rfl, ⟨_, rfl⟩, _, rfl, rfl, trivial, _, rfl, if_is (fun a1 => ?_) (fun a1 => ?_)⟩
          · refine ⟨_, rfl, ⟨_, rfl⟩, _, rfl, rfl, trivial, _, rfl, if_is (fun a2 => ?_) (fun a2 => ?_)⟩
            · refine ⟨_, rfl, ⟨_, rfl⟩, _, rfl, rfl, trivial, ?_⟩
              rw [a1, a2, Bool.true_and, Bool.true_and] at e2
              rw [e2]
              exact q'
            · rw [a1, a2, Bool.true_and, Bool.false_and] at e2
              rw [e2]
              exact q'
          · rw [a1, Bool.false_and] at e2
            rw [e2]
            exact q'
        · have : isW z.cps.toList = false := Bool.eq_false_iff.mpr fun y => by
            have := word_len y
            have := of_decide_eq_false h8
            omega
          rw [this] at q'
          exact q'
      · have : isW z.cps.toList = false := Bool.eq_false_iff.mpr fun y => by
          have := word_len y
          have := of_decide_eq_false h1
          omega
        rw [this] at q'
        exact ⟨_, rfl, iteF q'⟩
/-! ### is_integer: slots value 0 -/
abbrev sIsInteger : Stmt := top 6
def spIsInt (K : PySem.W.Frag) : Sp := fun vs H Q _ => ∃ x d, vs = [x] ∧ Vx K H x d ∧ Q (.bl (isIntD d)) H
theorem scIsInteger : FnScope ["value"] ["value"] (defScope sIsInteger) := ⟨rfl, rfl, rfl, by decide +kernel, rfl, by decide +kernel, by decide +kernel⟩
theorem ok_isint {f : Addr} {fd : FuncData} (F : Fun K "is_integer" "is_integer" sIsInteger f fd) (B : Blt mg) : FnOk P w K mg base CX0 1 f fd ["value"] (spIsInt K) := by
  refine F.ok scIsInteger (fun vs H Q E h => ?_) (fun cdv A outer s H vs Q E hr h => ?_)
  · obtain ⟨x, d, rfl, _⟩ := h
    rfl
  · obtain ⟨x, d, rfl, hx, q⟩ := h
    refine ⟨_, (pss_one (ps_ret (pe_and (pe_callB call_isi (by rfl) B.isinstance_ (by decide +kernel) (pa_cons (pv 0) (pa_cons (pe_bltn (v := .ty "int") (by rfl) B.int_ (by decide +kernel) rfl) pa_nil))) (pe_one (pe_not (pe_callB call_isi (by rfl) B.isinstance_ (by decide +kernel) (pa_cons (pv 0) (pa_cons (pe_bltn (v := .ty "bool") (by rfl) B.bool_ (by decide +kernel) rfl) pa_nil)))))))), ?_⟩
    refine ⟨_, rfl, _, _, _, _, isNumD d, rfl, .ty "int", hx.ty, kitInt d, _, rfl, if_is (fun e => ?_) (fun e => ?_)⟩
    · refine ⟨_, rfl, _, _, _, _, isBoolD d, rfl, .ty "bool", hx.ty, kitBool d, _, rfl, ?_⟩
      have : (!isBoolD d) = isIntD d := by cases d <;> first | rfl | cases e
      rw [this]
      exact q
    · have : isIntD d = false := by cases d <;> first | rfl | cases e
      rw [this] at q
      exact q
end
end RL

/-! Written values: a literal's data, and lists of values of any kind. -/
namespace VA
open PySem L2 SX AddrMath
/-- what is new, or no object -/
def Fresh (H : Hp) (v : V) : Prop := ∀ a, v = .ref a → H a = none
theorem Fresh.back {H H' : Hp} {v : V} (s : Same H H') (f : Fresh H' v) : Fresh H v := fun a e => s.free (f a e)
/-- a literal: a new value of this data -/
def tLit (K : PySem.W.Frag) (d : PyData) : TE := fun σ H Q => ∀ v H', Dp K H' v d → Fresh H v → Same H H' → Q v H'
def tLits (K : PySem.W.Frag) (ds : List PyData) : TA := fun σ H Q => ∀ vs H', DpAll K H' vs ds → (∀ v ∈ vs, Fresh H v) → Same H H' → Q vs H'
/-- a new value of any kind -/
def tAny (K : PySem.W.Frag) : TE := fun σ H Q => ∀ v H' d, Vx K H' v d → Fresh H v → Same H H' → Q v H'
def tAnys (K : PySem.W.Frag) (n : Nat) : TA := fun σ H Q => ∀ vs H', (∀ v ∈ vs, Fresh H v ∧ ∃ d, Vx K H' v d) → vs.length = n → Same H H' → Q vs H'
def tAnyL (K : PySem.W.Frag) (n : Nat) : TE := fun σ H Q => ∀ p xs H', H' p = some (.lst xs) → (∀ v ∈ xs, Fresh H v ∧ ∃ d, Vx K H' v d) → xs.length = n → Same H H' → H p = none → Q (.ref p) H'
def tLitL (K : PySem.W.Frag) (ds : List PyData) : TE := fun σ H Q => ∀ p xs H', H' p = some (.lst xs) → DpAll K H' xs ds → (∀ v ∈ xs, Fresh H v) → Same H H' → H p = none → Q (.ref p) H'
section
variable {X : Cx} {K : PySem.W.Frag}
theorem lit_c {e : Expr} {v : V} {d : PyData} (h : PE X e (tC v)) (k : ∀ H, Dp K H v d) (nr : ∀ a, v ≠ .ref a) : PE X e (tLit K d) :=
  pe_by _ h fun σ H Q w => w v H (k H) (fun a e => absurd e (nr a)) (Same.refl H)
theorem lit_non {j : Nat} {pos : Pos} : PE X (.Constant .none j pos) (tLit K .none) := lit_c pe_non (fun _ => .non) (fun _ z => by cases z)
theorem lit_bl {b : Bool} {j : Nat} {pos : Pos} : PE X (.Constant (.bool b) j pos) (tLit K (.bool b)) := lit_c pe_bl (fun _ => .bl b) (fun _ z => by cases z)
theorem lit_int {i : Int} {j : Nat} {pos : Pos} : PE X (.Constant (.int i) j pos) (tLit K (.int i)) := lit_c pe_int (fun _ => .int i) (fun _ z => by cases z)
theorem lit_str {x : Str} {j : Nat} {pos : Pos} : PE X (.Constant (.str x) j pos) (tLit K (.str x)) := lit_c pe_str (fun _ => .str x) (fun _ z => by cases z)
theorem lit_neg {i : Int} {j : Nat} {pos p2 : Pos} : PE X (.UnaryOp .USub (.Constant (.int i) j p2) pos) (tLit K (.int (-i))) :=
  pe_by _ (pe_un un_neg pe_int) fun σ H Q w => ⟨i, rfl, w _ H (.int _) (fun a e => by cases e) (Same.refl H)⟩
theorem lit_pow {a b : Int} {j j2 : Nat} {pos p2 p3 : Pos} (hb : 0 ≤ b ∧ b ≤ 1000000 ∧ a.natAbs < 2 ^ 64) : PE X (.BinOp (.Constant (.int a) j p2) .Pow (.Constant (.int b) j2 p3) pos) (tLit K (.int (a ^ b.toNat))) :=
  pe_by _ (pe_op op_pow pe_int pe_int) fun σ H Q w => ⟨a, b, rfl, rfl, hb, w _ H (.int _) (fun a e => by cases e) (Same.refl H)⟩
theorem lits_nil : PA X [] (tLits K []) := ⟨fun cp pn s σ H Q J w => pa_nil.run cp pn s σ H Q J (w [] H .nil (fun v hv => by cases hv) (Same.refl H))⟩
theorem pa_by {es : List Expr} {t : TA} (t' : TA) (h : PA X es t) (k : ∀ σ H Q, t' σ H Q → t σ H Q) : PA X es t' := ⟨fun cp pn s σ H Q J w => h.run cp pn s σ H Q J (k σ H Q w)⟩
theorem lits_cons {e : Expr} {es : List Expr} {d : PyData} {ds : List PyData} (h : PE X e (tLit K d)) (t : PA X es (tLits K ds)) (hs : starEach (e :: es) X.env = (false, eval e X.env) :: starEach es X.env := by rfl) : PA X (e :: es) (tLits K (d :: ds)) :=
  pa_by _ (pa_cons h t hs) fun σ H Q w v H1 hv fv s1 vs H2 hvs fvs s2 => w (v :: vs) H2 (.cons (dp_same s2 hv) hvs) (fun u hu => by
    rcases List.mem_cons.mp hu with e | e
    · rw [e]
      exact fv
    · exact (fvs u e).back s1) (s1.trans s2)
theorem lit_tup {x1} {es : List Expr} {ds : List PyData} {pos : Pos} (t : PA X es (tLits K ds)) (few : ds.length ≤ 1000) : PE X (.Tuple es x1 pos) (tLit K (.tuple ds)) :=
  pe_by _ (pe_tup t) fun σ H Q w vs H1 hv fv s1 => ⟨Nat.le_of_lt (small1000 (by rw [dps_len hv]; exact few)), fun p np => w (.ref p) _ (.tup (.inl (.inl upd_same)) (dps_same (same_new np) hv)) (fun a e => by cases e; exact s1.free np) (s1.trans (same_new np))⟩
theorem litL {es : List Expr} {ds : List PyData} {pos : Pos} (t : PA X es (tLits K ds)) (few : ds.length ≤ 1000) : PE X (.List es pos) (tLitL K ds) :=
  pe_by _ (pe_lst t) fun σ H Q w vs H1 hv fv s1 => ⟨Nat.le_of_lt (small1000 (by rw [dps_len hv]; exact few)), fun p np => w p vs _ upd_same (dps_same (same_new np) hv) fv (s1.trans (same_new np)) (s1.free np)⟩
theorem lit_lst {es : List Expr} {ds : List PyData} {pos : Pos} (t : PA X es (tLits K ds)) (few : ds.length ≤ 1000) : PE X (.List es pos) (tLit K (.list ds)) :=
  pe_by _ (litL t few) fun σ H Q w p xs H' hp hx fx s np => w (.ref p) H' (.lst (.inl (.inl hp)) hx) (fun a e => by cases e; exact np) s
theorem any_lit {e : Expr} {d : PyData} (h : PE X e (tLit K d)) (ok : okD 8 d = true) : PE X e (tAny K) := pe_by _ h fun σ H Q w v H' hv fv s => w v H' d (.inl ⟨hv, ok⟩) fv s
theorem any_dict {e : Expr} (h : PE X e tDNewK) : PE X e (tAny K) := pe_by _ h fun σ H Q w p np => w (.ref p) _ (.dict []) (.inr ⟨p, _, rfl, upd_same, rfl⟩) (fun a e => by cases e; exact np) (same_new np)
theorem any_disp {keys : List (Option Expr)} {values : List Expr} {pos : Pos} {x : Str} {i : Int} (h : PE X (.Dict keys values pos) (tDisp [(tC (.str x), tC (.int i))])) : PE X (.Dict keys values pos) (tAny K) :=
  pe_by _ h fun σ H Q w p np => ⟨upd_same, [(Sum.inr x, .int i)], rfl, by show 1 ≤ 15; decide, w (.ref p) _ (.dict []) (.inr ⟨p, _, rfl, upd_same, rfl⟩) (fun a e => by cases e; exact np) fun b o e => by
    rw [upd_ne (ne_of_none e np), upd_ne (ne_of_none e np)]
    exact e⟩
theorem anys_nil : PA X [] (tAnys K 0) := ⟨fun cp pn s σ H Q J w => pa_nil.run cp pn s σ H Q J (w [] H (fun v hv => by cases hv) rfl (Same.refl H))⟩
theorem anys_cons {e : Expr} {es : List Expr} {n : Nat} (h : PE X e (tAny K)) (t : PA X es (tAnys K n)) (hs : starEach (e :: es) X.env = (false, eval e X.env) :: starEach es X.env := by rfl) : PA X (e :: es) (tAnys K (n + 1)) :=
  pa_by _ (pa_cons h t hs) fun σ H Q w v H1 d hv fv s1 vs H2 hvs hl s2 => w (v :: vs) H2 (fun u hu => by
    rcases List.mem_cons.mp hu with e | e
    · rw [e]
      exact ⟨fv, d, hv.same s2⟩
    · obtain ⟨a, b⟩ := hvs u e
      exact ⟨a.back s1, b⟩) (by rw [List.length_cons, hl]) (s1.trans s2)
theorem anyL {es : List Expr} {n : Nat} {pos : Pos} (t : PA X es (tAnys K n)) (few : n ≤ 1000) : PE X (.List es pos) (tAnyL K n) :=
  pe_by _ (pe_lst t) fun σ H Q w vs H1 hv hl s1 => ⟨Nat.le_of_lt (small1000 (by rw [hl]; exact few)), fun p np => w p vs _ upd_same (fun u hu => by
    obtain ⟨a, d, b⟩ := hv u hu
    exact ⟨a, d, b.same (same_new np)⟩) hl (s1.trans (same_new np)) (s1.free np)⟩
end
/-- data, or a dict that is not the pen -/
def Vy (K : PySem.W.Frag) (H : Hp) (d : Addr) (v : V) : Prop := (∃ x, Dp K H v x ∧ okD 8 x = true) ∨ ∃ a kvs, v = .ref a ∧ a ≠ d ∧ H a = some (.dK kvs)
theorem Vy.vx {K : PySem.W.Frag} {H : Hp} {d : Addr} {v : V} (h : Vy K H d v) : ∃ x, Vx K H v x := by
  rcases h with ⟨x, h⟩ | ⟨a, kvs, e, _, h⟩
  · exact ⟨x, .inl h⟩
  · exact ⟨.dict [], .inr ⟨a, kvs, e, h, rfl⟩⟩
theorem pen_kp {H H' : Hp} {d c : Addr} {n : Nat} (p : PenAt H d c n) (b : But d H H') : Kp H H' := by
  obtain ⟨ns, s, r, h1, _⟩ := p
  exact kp_but h1 rfl b
theorem Vy.but {K : PySem.W.Frag} {H H' : Hp} {d c : Addr} {n : Nat} {v : V} (h : Vy K H d v) (p : PenAt H d c n) (b : But d H H') : Vy K H' d v := by
  rcases h with ⟨x, h, o⟩ | ⟨a, kvs, e, ne, h⟩
  · exact .inl ⟨x, dp_kp (pen_kp p b) h, o⟩
  · exact .inr ⟨a, kvs, e, ne, b _ _ h ne⟩
theorem Vy.same {K : PySem.W.Frag} {H H' : Hp} {d : Addr} {v : V} (h : Vy K H d v) (s : Same H H') : Vy K H' d v := by
  rcases h with ⟨x, h, o⟩ | ⟨a, kvs, e, ne, h⟩
  · exact .inl ⟨x, dp_same s h, o⟩
  · exact .inr ⟨a, kvs, e, ne, s _ _ h⟩
theorem vy_of {K : PySem.W.Frag} {H G : Hp} {d : Addr} {v : V} (f : Fresh G v) (nd : G d ≠ none) (h : ∃ x, Vx K H v x) : Vy K H d v := by
  obtain ⟨x, h | ⟨a, kvs, e, h, _⟩⟩ := h
  · exact .inl ⟨x, h⟩
  · exact .inr ⟨a, kvs, e, fun z => nd (f d (by rw [e, z])), h⟩
end VA

/-! Comprehensions over a text; a list that is compared with the empty one. -/
namespace VA
open PySem L2 SX AddrMath
/-- a comprehension over the signs of a text -/
theorem lc_signs {l : List Nat} {g : TG} {tt : TT} {te : TE} {vs : List Nat} {σ : L2.St} {H1 : Hp} {D : Addr} {Qd : Hp → Prop} (Pv : Nat → Hp → Prop) (h0 : Pv 0 (upd H1 D (.lst [])))
    (turn : ∀ i c H, l[i]? = some c → Pv i H → g (.str (S [c])) (wipe σ vs) H fun σ2 H2 => wipe σ2 vs = wipe σ vs ∧ tt σ2 H2 fun b H3 =>
      if b = true then te σ2 H3 fun y H4 => ∃ acc, H4 D = some (.lst acc) ∧ acc.length < sizeLine ∧ Pv (i + 1) (upd H4 D (.lst (acc ++ [y]))) else Pv (i + 1) H3) (done : ∀ H, Pv l.length H → Qd H) :
    ∃ W : Nat → Nat → Hp → Prop, (∃ m, W 0 m (upd H1 D (.lst []))) ∧ ∀ i m H, W i m H →
      ((Its (S l)).stop i H ∧ Qd H) ∨ ((Its (S l)).go i H ∧ ∃ Nx : Hp → Prop, (∀ H', Nx H' → ∃ m', m' < m ∧ W (i + 1) m' H') ∧ ∀ x H', (Its (S l)).yld i H x H' → g x (wipe σ vs) H' fun σ2 H2 => wipe σ2 vs = wipe σ vs ∧ tt σ2 H2 fun b H3 =>
        if b = true then te σ2 H3 fun y H4 => ∃ acc, H4 D = some (.lst acc) ∧ acc.length < sizeLine ∧ Nx (upd H4 D (.lst (acc ++ [y]))) else Nx H3) := by
  have sz : (S l).cps.size = l.length := by simp [S]
  refine ⟨fun i m H => m = l.length - i ∧ i ≤ l.length ∧ Pv i H, ⟨_, rfl, Nat.zero_le _, h0⟩, fun i m H hW => ?_⟩
  obtain ⟨rfl, hi, p⟩ := hW
  rcases Nat.lt_or_ge i l.length with hlt | hge
  · refine .inr ⟨by show i < (S l).cps.size; rw [sz]; exact hlt, Pv (i + 1), fun H' p' => ⟨l.length - (i + 1), by omega, rfl, hlt, p'⟩, fun x H' y => ?_⟩
    obtain ⟨rfl, c, hc, rfl⟩ := y
    refine turn i c H' ?_ p
    simpa [S] using hc
  · have e : i = l.length := by omega
    subst e
    exact .inl ⟨by show (S l).cps.size ≤ _; rw [sz]; exact Nat.le_refl _, done H p⟩
theorem letters_in : ∀ k : Nat, k < 26 → 97 + k ∈ lettersL := by decide +kernel
theorem letters_iff (c : Nat) : c ∈ lettersL ↔ isL c = true := by
  constructor
  · exact letters_all c
  · intro h
    unfold isL at h
    rw [Bool.and_eq_true, decide_eq_true_eq, decide_eq_true_eq] at h
    have z := letters_in (c - 97) (by omega)
    rw [show 97 + (c - 97) = c by omega] at z
    exact z

theorem eqv_nil (ds : List PyData) : PyData.eqv (.list ds) (.list []) = ds.isEmpty := by
  cases ds <;> rfl
/-- xs == [], the list xs just made -/
theorem eq_nil {K : PySem.W.Frag} {σ : L2.St} {H : Hp} {D : Addr} {xs : List V} {ds : List PyData} {Q : VK} (hD : H D = some (.lst xs)) (hd : DpAll K H xs ds) (few : ds.length ≤ 1000) (ok : ∀ d ∈ ds, okD 7 d = true) (q : ∀ H', Same H H' → Q (.bl ds.isEmpty) H') :
    tLst tNil σ H fun y H2 => rEqD K (.ref D) y H2 Q := by
  refine ⟨Nat.zero_le _, fun e ne => ?_⟩
  have s := same_new (o := .lst []) ne
  refine ⟨.list ds, .list [], .lst (.inl (.inl (s _ _ hD))) (dps_same s hd), .lst (.inl (.inl upd_same)) .nil, ok_shaped (ok_seq few ok).1 (by decide), by decide +kernel, ?_⟩
  rw [eqv_nil]
  exact q _ s
/-- the items that pass, as data -/
theorem dps_filter {K : PySem.W.Frag} {H : Hp} (p : V → Bool) (f : PyData → Bool) : ∀ {ds : List PyData} {xs : List V}, DpAll K H xs ds → (∀ x d, x ∈ xs → d ∈ ds → Dp K H x d → p x = f d) → DpAll K H (xs.filter p) (ds.filter f)
  | [], _, h, _ => by cases h; exact .nil
  | d :: ds, _, h, hp => by
    cases h with
    | @cons x xs _ _ h1 h2 =>
      have e := hp x d (List.mem_cons_self ..) (List.mem_cons_self ..) h1
      have ih := dps_filter p f h2 fun y c hy hc => hp y c (List.mem_cons_of_mem _ hy) (List.mem_cons_of_mem _ hc)
      cases q : f d with
      | true =>
        rw [List.filter_cons_of_pos (by rw [e]; exact q), List.filter_cons_of_pos q]
        exact .cons h1 ih
      | false =>
        rw [List.filter_cons_of_neg (by rw [e, q]; exact Bool.false_ne_true), List.filter_cons_of_neg (by rw [q]; exact Bool.false_ne_true)]
        exact ih
theorem filter_empty {α : Type} (f : α → Bool) (xs : List α) : (xs.filter f).isEmpty = xs.all fun x => !f x := by
  induction xs with
  | nil => rfl
  | cons x xs ih =>
    cases h : f x with
    | true =>
      rw [List.filter_cons_of_pos h, List.all_cons, h]
      rfl
    | false =>
      rw [List.filter_cons_of_neg (by rw [h]; exact Bool.false_ne_true), List.all_cons, h, ih]
      rfl
theorem map_same {α : Type} (xs : List α) : (xs.map fun x => x) = xs := by
  induction xs with
  | nil => rfl
  | cons x xs ih => rw [List.map_cons, ih]
end VA

/-! {x: True for x in xs}, xs a list or a tuple of ints and texts. -/
namespace VA
open PySem L2 SX AddrMath
abbrev DkGoal (J : It) (vs : List Nat) (j : Nat) (σ : L2.St) (H1 : Hp) (D : Addr) (Qd : Hp → Prop) : Prop :=
  ∃ W : Nat → Nat → Hp → Prop, (∃ m, W 0 m (upd H1 D (.dK []))) ∧ ∀ i m H, W i m H →
    (J.stop i H ∧ Qd H) ∨ (J.go i H ∧ ∃ Nx : Hp → Prop, (∀ H', Nx H' → ∃ m', m' < m ∧ W (i + 1) m' H') ∧ ∀ x H', J.yld i H x H' → gName j x (wipe σ vs) H' fun σ2 H2 => wipe σ2 vs = wipe σ vs ∧ tYes σ2 H2 fun b H3 =>
      if b = true then tVar j σ2 H3 fun y H4 => tC (.bl true) σ2 H4 fun z H5 => ∃ kvs k, y = kV k ∧ H5 D = some (.dK kvs) ∧ kvs.length < sizeLine ∧ Nx (upd H5 D (.dK (putK kvs k z))) else Nx H3)
def hasK (ks : List Key) (k : Key) : Bool := ks.any fun x => decide (x = k)
theorem putK_few (kvs : List (Key × V)) (k : Key) (v : V) : (putK kvs k v).length ≤ kvs.length + 1 := by
  unfold putK
  split
  · rw [List.length_map]
    omega
  · rw [List.length_append]
    exact Nat.le_refl _
theorem dk_walk {J : It} {xs : List V} {ks : List Key} {G : Hp → Prop} (w : Walk J xs.length G (YAt xs)) (hk : xs = ks.map kV) (few : xs.length ≤ 1000) {vs : List Nat} {j : Nat} {σ : L2.St} {H1 : Hp} {D : Addr} {Qd : Hp → Prop} (nD : H1 D = none) (hG : ∀ H, Same H1 H → G H)
    (hw : ∀ x, wipe ((wipe σ vs).set j (some x)) vs = wipe σ vs) (hv : ∀ x, ((wipe σ vs).set j (some x))[j]? = some (some x))
    (fin : ∀ H' kvs, H' D = some (.dK kvs) → (∀ k, valV kvs k = if hasK ks k = true then some (V.bl true) else none) → Same H1 H' → Qd H') : DkGoal J vs j σ H1 D Qd := by
  refine ⟨fun i m H => m = xs.length - i ∧ i ≤ xs.length ∧ Same H1 H ∧ ∃ kvs, H D = some (.dK kvs) ∧ kvs.length ≤ i ∧ ∀ k, valV kvs k = if hasK (ks.take i) k = true then some (V.bl true) else none, ⟨xs.length, by simp, Nat.zero_le _, same_new nD, [], upd_same, Nat.le_refl _, fun k => rfl⟩, ?_⟩
  rintro i m H ⟨rfl, hi, s, kvs, hD, hl, hvv⟩
  have q := hG H s
  by_cases hlt : i < xs.length
  · refine .inr ⟨w.goes i H hlt q, fun H' => Same H1 H' ∧ ∃ kvs, H' D = some (.dK kvs) ∧ kvs.length ≤ i + 1 ∧ ∀ k, valV kvs k = if hasK (ks.take (i + 1)) k = true then some (V.bl true) else none, fun H' p' => ⟨xs.length - (i + 1), by omega, rfl, hlt, p'⟩, fun x H' y => ?_⟩
    obtain ⟨rfl, hx⟩ := w.yields i H x H' hlt q y
    rw [hk, List.getElem?_map, Option.map_eq_some_iff] at hx
    obtain ⟨k, hkk, rfl⟩ := hx
    refine ⟨hw _, ?_⟩
    unfold tYes
    show (if true = true then _ else _)
    rw [if_pos rfl]
    refine ⟨_, hv _, kvs, k, rfl, hD, small1000 (by omega), fun b o z => ?_, _, upd_same, ?_, fun k' => ?_⟩
    · rw [upd_ne (ne_of_none z nD)]
      exact s _ _ z
    · have := putK_few kvs k (.bl true)
      omega
    · rw [valV_put, take_snoc hkk]
      unfold hasK
      rw [List.any_append]
      by_cases e : k' = k
      · rw [if_pos e, if_pos (by simp [e])]
      · rw [if_neg e, hvv k']
        unfold hasK
        have : ([k].any fun x => decide (x = k')) = false := by rw [List.any_cons, List.any_nil, Bool.or_false]; exact decide_eq_false fun z => e z.symm
        rw [this, Bool.or_false]
  · have e : i = xs.length := by omega
    subst e
    refine .inl ⟨w.stops H q, fin H kvs hD (fun k => ?_) s⟩
    rw [hvv k, List.take_of_length_le (by rw [← List.length_map (f := kV), ← hk]; exact Nat.le_refl _)]
theorem seq_keys {K : PySem.W.Frag} {a : Addr} {xs : List V} {ks : List Key} {j : Nat} {vs : List Nat} {σ : L2.St} {H1 : Hp} {Qd : Addr → Hp → Prop} (hq : SqA K H1 a xs) (hk : xs = ks.map kV) (few : xs.length ≤ 1000)
    (hw : ∀ x, wipe ((wipe σ vs).set j (some x)) vs = wipe σ vs) (hv : ∀ x, ((wipe σ vs).set j (some x))[j]? = some (some x))
    (fin : ∀ D H' kvs, H1 D = none → H' D = some (.dK kvs) → (∀ k, valV kvs k = if hasK ks k = true then some (V.bl true) else none) → Same H1 H' → Qd D H') :
    ∃ a', V.ref a = V.ref a' ∧ (((∃ ys, SqL K H1 a' ys) ∧ ∀ D, H1 D = none → DkGoal (Itl K a') vs j σ H1 D (Qd D)) ∨ ((∃ ys, SqT K H1 a' ys) ∧ ∀ D, H1 D = none → DkGoal (Itt K a') vs j σ H1 D (Qd D))) := by
  refine ⟨a, rfl, ?_⟩
  rcases hq with hq | hq
  · exact .inl ⟨⟨xs, hq⟩, fun D nD => dk_walk walk_list hk few nD (fun H s => s.seq hq) hw hv fun H' kvs => fin D H' kvs nD⟩
  · exact .inr ⟨⟨xs, hq⟩, fun D nD => dk_walk walk_tup hk few nD (fun H s => same_seqT s hq) hw hv fun H' kvs => fin D H' kvs nD⟩
end VA

/-! Comprehensions whose items are told by a relation; a list beside an empty one. -/
namespace VA
open PySem L2 SX AddrMath
abbrev LcGoal (J : It) (g : TG) (tt : TT) (te : TE) (vs : List Nat) (σ : L2.St) (H1 : Hp) (D : Addr) (Qd : Hp → Prop) : Prop :=
  ∃ W : Nat → Nat → Hp → Prop, (∃ m, W 0 m (upd H1 D (.lst []))) ∧ ∀ i m H, W i m H →
      (J.stop i H ∧ Qd H) ∨ (J.go i H ∧ ∃ Nx : Hp → Prop, (∀ H', Nx H' → ∃ m', m' < m ∧ W (i + 1) m' H') ∧ ∀ x H', J.yld i H x H' → g x (wipe σ vs) H' fun σ2 H2 => wipe σ2 vs = wipe σ vs ∧ tt σ2 H2 fun b H3 =>
        if b = true then te σ2 H3 fun y H4 => ∃ acc, H4 D = some (.lst acc) ∧ acc.length < sizeLine ∧ Nx (upd H4 D (.lst (acc ++ [y]))) else Nx H3)
/-- a comprehension without a test -/
theorem lc_rel {J : It} {xs : List V} {G : Hp → Prop} (w : Walk J xs.length G (YAt xs)) (few : xs.length ≤ 1000) {g : TG} {te : TE} {vs : List Nat} {σ : L2.St} {H1 : Hp} {D : Addr} {Qd : Hp → Prop} (nD : H1 D = none) (hG : ∀ H, Same H1 H → G H)
    (rel : Nat → V → Hp → Prop) (st : ∀ i y H H', Same H H' → rel i y H → rel i y H') (sb : ∀ i y H H' zs, H D = some (.lst zs) → But D H H' → rel i y H → rel i y H')
    (step : ∀ i x, xs[i]? = some x → ∀ H, Same H1 H → ∀ R : VK, (∀ y H', Same H H' → rel i y H' → R y H') → g x (wipe σ vs) H fun σ2 H2 => wipe σ2 vs = wipe σ vs ∧ te σ2 H2 R)
    (fin : ∀ H' ys, H' D = some (.lst ys) → ys.length = xs.length → (∀ i y, ys[i]? = some y → rel i y H') → Same H1 H' → Qd H') : LcGoal J g tYes te vs σ H1 D Qd := by
  refine lc_it w (fun i H => Same H1 H ∧ ∃ ys, H D = some (.lst ys) ∧ ys.length = i ∧ ∀ k y, ys[k]? = some y → rel k y H) ⟨same_new nD, [], upd_same, rfl, fun k y z => by simp at z⟩ (fun i H _ p => hG H p.1) ?_ ?_
  · rintro i x H H' hi ⟨s, ys, hD, hl, hr⟩ ⟨rfl, hx⟩
    refine step i x hx H' s (fun y H4 => ∃ acc, H4 D = some (.lst acc) ∧ acc.length < sizeLine ∧ (Same H1 (upd H4 D (.lst (acc ++ [y]))) ∧ ∃ ys, (upd H4 D (.lst (acc ++ [y]))) D = some (.lst ys) ∧ ys.length = i + 1 ∧ ∀ k y', ys[k]? = some y' → rel k y' (upd H4 D (.lst (acc ++ [y]))))) fun y H4 s4 ry => ?_
    have hD4 := s4 _ _ hD
    have b4 : But D H4 (upd H4 D (.lst (ys ++ [y]))) := But.upd
    refine ⟨ys, hD4, small1000 (by omega), fun b o z => ?_, _, upd_same, by rw [List.length_append, hl]; rfl, fun k y' hk => ?_⟩
    · rw [upd_ne (ne_of_none z nD)]
      exact s4 _ _ (s _ _ z)
    · rcases Nat.lt_or_ge k ys.length with c | c
      · rw [List.getElem?_append_left c] at hk
        exact sb k y' _ _ _ hD4 b4 (st k y' _ _ s4 (hr k y' hk))
      · rw [List.getElem?_append_right c] at hk
        have e0 : k - ys.length = 0 := by
          rcases Nat.eq_zero_or_pos (k - ys.length) with e | e
          · exact e
          · rw [List.getElem?_eq_none (by show 1 ≤ k - ys.length; exact e)] at hk
            cases hk
        rw [e0] at hk
        cases hk
        have ek : k = i := by omega
        rw [ek]
        exact sb i y _ _ _ hD4 b4 ry
  · rintro H ⟨s, ys, hD, hl, hr⟩
    exact fin H ys hD hl hr s
/-- the same of what is a list or a tuple -/
theorem seq_rel {K : PySem.W.Frag} {a : Addr} {xs : List V} {g : TG} {te : TE} {vs : List Nat} {σ : L2.St} {H1 : Hp} {Qd : Addr → Hp → Prop} (hq : SqA K H1 a xs) (few : xs.length ≤ 1000)
    (rel : Nat → V → Hp → Prop) (st : ∀ i y H H', Same H H' → rel i y H → rel i y H') (sb : ∀ D, H1 D = none → ∀ i y H H' zs, H D = some (.lst zs) → But D H H' → rel i y H → rel i y H')
    (step : ∀ i x, xs[i]? = some x → ∀ H, Same H1 H → ∀ R : VK, (∀ y H', Same H H' → rel i y H' → R y H') → g x (wipe σ vs) H fun σ2 H2 => wipe σ2 vs = wipe σ vs ∧ te σ2 H2 R)
    (fin : ∀ D H' ys, H1 D = none → H' D = some (.lst ys) → ys.length = xs.length → (∀ i y, ys[i]? = some y → rel i y H') → Same H1 H' → Qd D H') :
    ∃ a', V.ref a = V.ref a' ∧ (((∃ ys, SqL K H1 a' ys) ∧ ∀ D, H1 D = none → LcGoal (Itl K a') g tYes te vs σ H1 D (Qd D)) ∨ ((∃ ys, SqT K H1 a' ys) ∧ ∀ D, H1 D = none → LcGoal (Itt K a') g tYes te vs σ H1 D (Qd D))) := by
  refine ⟨a, rfl, ?_⟩
  rcases hq with hq | hq
  · exact .inl ⟨⟨xs, hq⟩, fun D nD => lc_rel walk_list few nD (fun H s => s.seq hq) rel st (sb D nD) step fun H' ys => fin D H' ys nD⟩
  · exact .inr ⟨⟨xs, hq⟩, fun D nD => lc_rel walk_tup few nD (fun H s => same_seqT s hq) rel st (sb D nD) step fun H' ys => fin D H' ys nD⟩
/-- a list beside a new empty one -/
def rNeNil : R2 := fun x y H Q => ∃ a b xs, x = .ref a ∧ y = .ref b ∧ H a = some (.lst xs) ∧ H b = some (.lst []) ∧ Q (.bl (!xs.isEmpty)) H
theorem lst_is {X : Cx} {pins : List (Addr × Obj)} {σ : L2.St} {H : Hp} {s : Shared} {a : Addr} {xs : List V} (I : L2.Inv X pins σ H s) (h : H a = some (.lst xs)) : ∃ its : List Value, s.heap.IsList a its.toArray ∧ its.length = xs.length := by
  obtain ⟨its, rv, p, hz⟩ := I.list (.inl (.inl h))
  exact ⟨its, p.isList, rv.length.symm⟩
theorem op_neNil {X : Cx} (hu : X.A.units < cLine) : OpR X (compareOp .NotEq) rNeNil := by
  intro pins s σ H x y v u Q I rx ry ⟨a, b, xs, ex, ey, ha, hb, q⟩
  subst ex ey
  cases (show v = Value.ref a from rx)
  cases (show u = Value.ref b from ry)
  obtain ⟨i1, p1, l1⟩ := lst_is I ha
  obtain ⟨i2, p2, l2⟩ := lst_is I hb
  have e2 : i2 = [] := List.length_eq_zero_iff.mp l2
  subst e2
  cases xs with
  | nil =>
    have e1 : i1 = [] := List.length_eq_zero_iff.mp l1
    subst e1
    exact SeqAt.RcNeAt.lists (e := fun _ => true) p1 p2 rfl hu (fun j h1 => absurd h1 (by simp)) _ _ _ _ ⟨.bl false, H, I, rfl, q⟩
  | cons z r =>
    exact SeqAt.RcNeAt.lists_lengths p1 p2 (by simp; intro z; rw [z] at l1; cases l1) hu _ _ _ _ ⟨.bl true, H, I, rfl, q⟩
end VA

namespace RL
open PySem L2 SX AddrMath VA
/-! ## what is a list of words, a piece -/
def areWD (d : PyData) : Bool := isSeqD d && (itemsD d).all isWordD
def isSegD (d : PyData) : Bool := areWD d && (decide (1 ≤ (itemsD d).length) && decide ((itemsD d).length ≤ 8))
def mostTimes : Int := 1000000000000000000000000000000
def isTimesD : PyData → Bool
  | .int i => decide (0 ≤ i) && decide (i ≤ mostTimes)
  | _ => false
def isPieceD : PyData → Bool
  | .tuple [s, t] => isSegD s && isTimesD t
  | _ => false
section
variable {K : PySem.W.Frag}
/-- a value that may be a piece: data, or a tuple of a dict and a number -/
def Px (K : PySem.W.Frag) (H : Hp) (x : V) (d : PyData) : Prop := Vx K H x d ∨ ∃ a e kvs, x = .ref a ∧ SqT K H a [.ref e, .int 1] ∧ H e = some (.dK kvs) ∧ d = .tuple [.dict [], .int 1]
theorem Px.same {H H' : Hp} {x : V} {d : PyData} (h : Px K H x d) (s : Same H H') : Px K H' x d := by
  rcases h with h | ⟨a, e, kvs, h1, h2, h3, h4⟩
  · exact .inl (h.same s)
  · exact .inr ⟨a, e, kvs, h1, same_seqT s h2, s _ _ h3, h4⟩
theorem Px.ty {H : Hp} {x : V} {d : PyData} (h : Px K H x d) : TyX K H x (.type (tyN d)) := by
  rcases h with h | ⟨a, e, kvs, rfl, h2, h3, rfl⟩
  · exact h.ty
  · exact sqt_ty h2
/-- a tuple among such values -/
theorem px_tup {H : Hp} {x : V} {d : PyData} (h : Px K H x d) (e : isTupD d = true) : ∃ a xs ds, x = .ref a ∧ d = .tuple ds ∧ SqT K H a xs ∧ xs.length = ds.length ∧ xs.length ≤ 1000 ∧ ∀ (i : Nat) (y : V) (u : PyData), xs[i]? = some y → ds[i]? = some u → Vx K H y u := by
  rcases h with (⟨h, ok⟩ | ⟨a, kvs, rfl, h1, rfl⟩) | ⟨a, e', kvs, rfl, h2, h3, rfl⟩
  · cases h with
    | @tup a xs ds ha hd =>
      rw [okD, Bool.and_eq_true, Bool.and_eq_true, decide_eq_true_eq, decide_eq_true_eq] at ok
      have l := dps_len hd
      refine ⟨a, xs, ds, rfl, rfl, ha, l, by omega, fun i y u hy hu => ?_⟩
      obtain ⟨u', hu', hv⟩ := dps_get hd hy
      rw [hu] at hu'
      cases hu'
      exact .inl ⟨hv, ok_mono (by decide) (okAll_mem ok.2.2 u (List.mem_of_getElem? hu))⟩
    | _ => cases e
  · cases e
  · refine ⟨a, _, _, rfl, rfl, h2, rfl, by show 2 ≤ 1000; decide, fun i y u hy hu => ?_⟩
    match i, hy, hu with
    | 0, hy, hu =>
      cases hy; cases hu
      exact .inr ⟨e', kvs, rfl, h3, rfl⟩
    | 1, hy, hu =>
      cases hy; cases hu
      exact .inl ⟨.int 1, by rw [okD]⟩
theorem wordv {H : Hp} {x : V} {d : PyData} (h : Dp K H x d) : ∀ b, isWordD d = b → b = true → ∃ z, x = .str z ∧ d = .str z ∧ isW z.cps.toList = true := by
  intro b e1 e2
  rw [e2] at e1
  cases h with
  | str z => exact ⟨z, rfl, rfl, e1⟩
  | _ => cases e1
variable {P : Program} {w : World} {mg : Str → Option Value} {base : Heap}
/-! ### are_words: slots value 0, item 1 -/
abbrev sAreW : Stmt := top 5
theorem scAreW : FnScope ["value", "item"] ["value"] (defScope sAreW) := ⟨rfl, rfl, rfl, by decide +kernel, rfl, by decide +kernel, by decide +kernel⟩
def spAreW (K : PySem.W.Frag) : Sp := fun vs H Q _ => ∃ x d, vs = [x] ∧ Vx K H x d ∧ ∀ H', Same H H' → Q (.bl (areWD d)) H'
theorem map_blT (f : V → Bool) (xs : List V) : ((xs.filter fun _ => true).map fun x => V.bl (f x)) = (xs.map f).map V.bl := by
  rw [filter_yes, List.map_map]
  rfl
def wordOkV : V → Bool
  | .str z => isW z.cps.toList
  | _ => false
theorem word_vv {H : Hp} {x : V} {d : PyData} (h : Dp K H x d) : wordOkV x = isWordD d := by cases h <;> rfl
theorem words_vv {H : Hp} : ∀ {ds : List PyData} {xs : List V}, DpAll K H xs ds → xs.all wordOkV = ds.all isWordD
  | [], _, h => by cases h; rfl
  | d :: ds, _, h => by
    cases h with
    | cons h1 h2 => rw [List.all_cons, List.all_cons, word_vv h1, words_vv h2]
theorem ok_arew {f : Addr} {fd : FuncData} (F : Fun K "are_words" "are_words" sAreW f fd) (B : Blt mg) (is_word : Own P w K mg base CX0 1 "is_word" ["value"] (spIsWord K)) : FnOk P w K mg base CX0 2 f fd ["value"] (spAreW K) := by
  refine F.ok scAreW (fun vs H Q E h => ?_) (fun cdv A outer s H vs Q E hr h => ?_)
  · obtain ⟨x, d, rfl, _⟩ := h
    rfl
  · obtain ⟨x, d, rfl, hx, q⟩ := h
    refine ⟨_, (pss_one (ps_ret (pe_and (pe_callB call_isiT (by rfl) B.isinstance_ (by decide +kernel) (pa_cons (pv 0) (pa_cons (pe_tup (pa_cons (pe_bltn (v := .ty "list") (by rfl) B.list_ (by decide +kernel) rfl) (pa_cons (pe_bltn (v := .ty "tuple") (by rfl) B.tuple_ (by decide +kernel) rfl) pa_nil))) pa_nil))) (pe_one (pe_callB (cr_all rfl) (by rfl) B.all_ (by decide +kernel) (pa_cons (pe_lc (own := [("item", 1)]) (g := gName 1) (tt := tYes) rfl scAreW.nd (pi_seq (pv 0))
          (blkOk_by (own := [("item", 1)]) (N := ["value", "item"]) (sc := defScope sAreW) (by decide +kernel))
          (fun _ _ _ _ _ => (pg_name (i := 1) scAreW.nd rfl (Or.inl rfl))) (fun _ _ _ _ _ => pts_nil)
          (fun _ _ _ _ _ => (pe_call is_word.g (hr.mono (by decide)) rfl is_word.mg is_word.kp is_word.b .nil pass0 (pa_cons (pv 1) pa_nil)))) pa_nil)))))), ?_⟩
    refine ⟨_, rfl, by show 2 ≤ sizeLine; decide, fun t nt => ?_⟩
    have s1 : Same H (upd H t (.tup [.ty "list", .ty "tuple"])) := same_new nt
    refine ⟨_, t, _, _, [.type "list", .type "tuple"], isSeqD d, rfl, upd_same, .cons (.ty "list") (.cons (.ty "tuple") .nil), (hx.same s1).ty, kitSeq d, _, rfl, ?_⟩
    generalize upd H t (.tup [.ty "list", .ty "tuple"]) = H1 at s1 ⊢
    have h1 := hx.same s1
    cases e : isSeqD d with
    | false =>
      refine iteF ?_
      have : areWD d = false := by unfold areWD; rw [e]; rfl
      rw [this] at q
      exact q _ s1
    | true =>
      refine iteT ?_
      obtain ⟨a, xs, rfl, ha, hd, few, ok⟩ := vx_seq h1 e
      have hl := dps_len hd
      refine ⟨_, rfl, ?_⟩
      refine seq_map ha (by omega) (fun _ => true) (fun x => .bl (wordOkV x)) ?hw (fun x hm H2 s2 => ⟨fun R hR => no_test hR, fun _ H3 s3 R hR => ?_⟩) fun D H2 nD hD s2 => ?_
      case hw => intro _; rfl
      · obtain ⟨dx, hdx, hv⟩ := dps_at hd hm
        have hv3 : Vx K H3 x dx := .inl ⟨dp_same s3 (dp_same s2 hv), ok_mono (by decide) (ok dx hdx)⟩
        have q3 := hR H3 (Same.refl H3)
        rw [word_vv hv] at q3
        exact ⟨_, rfl, x, dx, rfl, hv3, q3⟩
      · rw [map_blT] at hD
        refine ⟨D, _, rfl, .inl (.inl hD), ?_⟩
        rw [show (xs.map wordOkV).all id = xs.all wordOkV from by rw [List.all_map]; rfl, words_vv hd]
        have : areWD d = (itemsD d).all isWordD := by unfold areWD; rw [e]; rfl
        rw [this] at q
        exact q _ (s1.trans s2)
/-! ### is_piece: slots value 0, segments 1, times 2 -/
abbrev sIsPiece : Stmt := top 11
theorem scIsPiece : FnScope ["value", "segments", "times"] ["value"] (defScope sIsPiece) := ⟨rfl, rfl, rfl, by decide +kernel, rfl, by decide +kernel, by decide +kernel⟩
def spPieceD (K : PySem.W.Frag) : Sp := fun vs H Q _ => ∃ x d, vs = [x] ∧ Px K H x d ∧ ∀ H', Same H H' → Q (.bl (isPieceD d)) H'
theorem piece_no {d : PyData} (h : isTupD d = false) : isPieceD d = false := by
  cases d with
  | tuple l => cases h
  | _ => rfl
theorem piece_len {l : List PyData} (h : l.length ≠ 2) : isPieceD (.tuple l) = false := by
  match l, h with
  | [], _ => rfl
  | [_], _ => rfl
  | [_, _], h => exact absurd rfl h
  | _ :: _ :: _ :: _, _ => rfl
theorem ok_ispiece {f : Addr} {fd : FuncData} {t8 tT : Tok} (F : Fun K "is_piece" "is_piece" sIsPiece f fd) (B : Blt mg) (m8 : mg "MOST_SEGMENTS" = some (.int 8 t8)) (mT : mg "MOST_TIMES" = some (.int mostTimes tT))
    (are_words : Own P w K mg base CX0 2 "are_words" ["value"] (spAreW K)) (is_integer : Own P w K mg base CX0 1 "is_integer" ["value"] (spIsInt K)) : FnOk P w K mg base CX0 3 f fd ["value"] (spPieceD K) := by
  refine F.ok scIsPiece (fun vs H Q E h => ?_) (fun cdv A outer s H vs Q E hr h => ?_)
  · obtain ⟨x, d, rfl, _⟩ := h
    rfl
  · obtain ⟨x, d, rfl, hx, q⟩ := h
    refine ⟨_, (pss_cons (ps_if (PW.pt (pw_or (pt_not (pt_val (pe_callB call_isi (by rfl) B.isinstance_ (by decide +kernel) (pa_cons (pv 0) (pa_cons (pe_bltn (v := .ty "tuple") (by rfl) B.tuple_ (by decide +kernel) rfl) pa_nil))))) (pw_or1 (pt_cmpR op_ne (pe_callB call_len (by rfl) B.len_ (by decide +kernel) (pa_cons (pv 0) pa_nil)) pe_int (nomark _))))) (pss_one (ps_ret pe_bl)) pss_nil)
      (pss_cons (ps_asg (pv 0) (pg_tup rfl (pgs_cons (pg_name (i := 1) scIsPiece.nd rfl (Or.inl rfl)) (pgs_cons (pg_name (i := 2) scIsPiece.nd rfl (Or.inl rfl)) pgs_nil))))
      (pss_cons (ps_if (PW.pt (pw_or (pt_not (pt_val (pe_call are_words.g hr rfl are_words.mg are_words.kp are_words.b .nil pass0 (pa_cons (pv 1) pa_nil)))) (pw_or1 (pt_not (pt_chain op_le op_le pe_int (pe_callB call_len (by rfl) B.len_ (by decide +kernel) (pa_cons (pv 1) pa_nil)) (pe_glob (v := .int 8) rfl m8 ⟨_, rfl⟩)))))) (pss_one (ps_ret pe_bl)) pss_nil)
      (pss_one (ps_ret (pe_and (pe_call is_integer.g (hr.mono (by decide)) rfl is_integer.mg is_integer.kp is_integer.b .nil pass0 (pa_cons (pv 2) pa_nil)) (pe_one (pe_chain op_le op_le pe_int (pv 2) (pe_glob (v := .int mostTimes) rfl mT ⟨_, rfl⟩))))))))), ?_⟩
    refine ⟨_, rfl, _, _, _, _, isTupD d, rfl, .ty "tuple", hx.ty, kitTup d, _, rfl, ?_⟩
    cases e1 : isTupD d with
    | false =>
      refine iteT (iteT ?_)
      rw [piece_no e1] at q
      exact q _ (Same.refl H)
    | true =>
      refine iteF ?_
      obtain ⟨a, xs, ds, rfl, rfl, ha, hl, few, hv⟩ := px_tup hx e1
      refine ⟨_, rfl, _, xs.length, rfl, .inr ⟨xs, ha, rfl⟩, rfl, _, rfl, ?_⟩
      by_cases h2 : ds.length = 2
      · rw [show (!decide (V.int (xs.length : Int) = V.int 2)) = false by simp; omega]
        refine iteF ?_
        obtain ⟨sd, td, rfl⟩ : ∃ sd td, ds = [sd, td] := by
          match ds, h2 with
          | [sd, td], _ => exact ⟨sd, td, rfl⟩
        obtain ⟨sv, tv, rfl⟩ : ∃ sv tv, xs = [sv, tv] := by
          match xs, hl with
          | [sv, tv], _ => exact ⟨sv, tv, rfl⟩
        have hs := hv 0 _ _ rfl rfl
        have ht := hv 1 _ _ rfl rfl
        have e0 : isPieceD (.tuple [sd, td]) = (isSegD sd && isTimesD td) := rfl
        rw [e0] at q
        refine ⟨_, rfl, a, _, rfl, ha, rfl, sv, _, rfl, tv, _, rfl, rfl, ?_⟩
        refine ⟨_, rfl, sv, sd, rfl, hs, fun H1 s1 => ⟨_, rfl, ?_⟩⟩
        cases eW : areWD sd with
        | false =>
          refine iteT (iteT ?_)
          have : isSegD sd = false := by unfold isSegD; rw [eW]; rfl
          rw [this] at q
          exact q _ s1
        | true =>
          refine iteF ?_
          have eS : isSeqD sd = true := by
            unfold areWD at eW
            rw [Bool.and_eq_true] at eW
            exact eW.1
          obtain ⟨b, ys, rfl, hb, hd, few2, ok2⟩ := vx_seq (hs.same s1) eS
          have l2 := dps_len hd
          have eG : isSegD sd = (decide (1 ≤ ys.length) && decide (ys.length ≤ 8)) := by unfold isSegD; rw [eW, Bool.true_and, l2]
          rw [eG] at q
          have lenX : LenV K (.ref b) H1 ys.length := by
            rcases hb with hb | hb
            · exact .inl ⟨ys, hb, rfl⟩
            · exact .inr ⟨ys, hb, rfl⟩
          refine ⟨_, rfl, _, ys.length, rfl, lenX, _, _, rfl, rfl, _, rfl, if_is (fun c1 => ?_) (fun c1 => ?_)⟩
          · have c1' : (1 : Int) ≤ (ys.length : Int) := of_decide_eq_true c1
            rw [decide_eq_true (show 1 ≤ ys.length by omega), Bool.true_and] at q
            refine ⟨_, _, rfl, rfl, _, rfl, if_is (fun c2 => ?_) (fun c2 => ?_)⟩
            · have c2' : ¬ ((ys.length : Int) ≤ 8) := fun z => by rw [decide_eq_true z] at c2; cases c2
              rw [decide_eq_false (show ¬ ys.length ≤ 8 by omega)] at q
              exact q _ s1
            · have c2' : (ys.length : Int) ≤ 8 := Decidable.not_not.mp fun z => by rw [decide_eq_false z] at c2; cases c2
              rw [decide_eq_true (show ys.length ≤ 8 by omega), Bool.true_and] at q
              have ht1 := ht.same s1
              refine ⟨_, rfl, tv, td, rfl, ht1, _, rfl, if_is (fun e => ?_) (fun e => ?_)⟩
              · obtain ⟨i, rfl, rfl⟩ : ∃ i, tv = .int i ∧ td = .int i := by
                  rcases ht1 with ⟨h, o⟩ | ⟨a, kvs, rfl, h, rfl⟩
                  · cases h with
                    | int i => exact ⟨i, rfl, rfl⟩
                    | _ => cases e
                  · cases e
                have q' : Q (.bl (decide (0 ≤ i) && decide (i ≤ mostTimes))) H1 := q _ s1
                refine ⟨_, rfl, _, _, rfl, rfl, _, rfl, if_is (fun h1 => ?_) (fun h1 => ?_)⟩
                · refine ⟨_, _, rfl, rfl, ?_⟩
                  rw [h1, Bool.true_and] at q'
                  exact q'
                · rw [h1, Bool.false_and] at q'
                  exact q'
              · have : isTimesD td = false := by cases td <;> first | rfl | cases e
                rw [this] at q
                exact q _ s1
          · have c1' : ¬ ((1 : Int) ≤ (ys.length : Int)) := of_decide_eq_false c1
            rw [decide_eq_false (show ¬ 1 ≤ ys.length by omega)] at q
            exact ⟨_, rfl, iteT (q _ s1)⟩
      · rw [show (!decide (V.int (xs.length : Int) = V.int 2)) = true by simp; omega]
        refine iteT ?_
        rw [piece_len h2] at q
        exact q _ (Same.refl H)
end
end RL

namespace RL
open PySem L2 SX AddrMath VA
theorem call_tupAK {X : Cx} {K : PySem.W.Frag} (h : X.K = K) : CallR X (.type "tuple") (rTupA K) := by
  subst h
  exact call_tupA
abbrev sV (ss : List Str) : List V := ss.map V.str
abbrev Qp := List Str × Int
/-- the strings among data -/
def strOf : PyData → Str
  | .str z => z
  | _ => Str.empty
def qOf : PyData → Qp
  | .tuple [s, .int i] => ((itemsD s).map strOf, i)
  | _ => ([], 0)
def okQ (q : Qp) : Prop := q.1.all (fun z => isW z.cps.toList) = true ∧ 1 ≤ q.1.length ∧ q.1.length ≤ 8 ∧ 0 ≤ q.2 ∧ q.2 ≤ mostTimes
section
variable {K : PySem.W.Frag}
theorem words_str {H : Hp} : ∀ {ds : List PyData} {xs : List V}, DpAll K H xs ds → ds.all isWordD = true → xs = sV (ds.map strOf) ∧ (ds.map strOf).all (fun z => isW z.cps.toList) = true
  | [], _, h, _ => by cases h; exact ⟨rfl, rfl⟩
  | d :: ds, _, h, e => by
    rw [List.all_cons, Bool.and_eq_true] at e
    cases h with
    | cons h1 h2 =>
      obtain ⟨e1, e2⟩ := words_str h2 e.2
      obtain ⟨z, rfl, rfl, hz⟩ := wordv h1 _ rfl e.1
      refine ⟨by rw [e1]; rfl, ?_⟩
      show (isW z.cps.toList && _) = true
      rw [hz, Bool.true_and]
      exact e2
/-- a right piece is a tuple of a list of words and a number -/
theorem piece_parts {H : Hp} {x : V} {d : PyData} (h : Px K H x d) (e : isPieceD d = true) : ∃ a b, x = .ref a ∧ SqT K H a [.ref b, .int (qOf d).2] ∧ SqA K H b (sV (qOf d).1) ∧ okQ (qOf d) := by
  have et : isTupD d = true := by
    cases d with
    | tuple l => rfl
    | _ => cases e
  obtain ⟨a, xs, ds, rfl, rfl, ha, hl, _, hv⟩ := px_tup h et
  have h2 : ds.length = 2 := Decidable.not_not.mp fun z => by rw [piece_len z] at e; cases e
  obtain ⟨sd, td, rfl⟩ : ∃ sd td, ds = [sd, td] := by
    match ds, h2 with
    | [sd, td], _ => exact ⟨sd, td, rfl⟩
  obtain ⟨sv, tv, rfl⟩ : ∃ sv tv, xs = [sv, tv] := by
    match xs, hl with
    | [sv, tv], _ => exact ⟨sv, tv, rfl⟩
  have e' : (isSegD sd && isTimesD td) = true := e
  rw [Bool.and_eq_true] at e'
  have hs := hv 0 _ _ rfl rfl
  have ht := hv 1 _ _ rfl rfl
  obtain ⟨es, et⟩ := e'
  unfold isSegD at es
  rw [Bool.and_eq_true, Bool.and_eq_true, decide_eq_true_eq, decide_eq_true_eq] at es
  obtain ⟨e1, e2, e3⟩ := es
  unfold areWD at e1
  rw [Bool.and_eq_true] at e1
  obtain ⟨b, ys, rfl, hb, hd, _, _⟩ := vx_seq hs e1.1
  obtain ⟨w1, w2⟩ := words_str hd e1.2
  obtain ⟨i, rfl, rfl⟩ : ∃ i, tv = .int i ∧ td = .int i := by
    rcases ht with ⟨h, o⟩ | ⟨a, kvs, rfl, h, rfl⟩
    · cases h with
      | int i => exact ⟨i, rfl, rfl⟩
      | _ => cases et
    · cases et
  have et' : (decide (0 ≤ i) && decide (i ≤ mostTimes)) = true := et
  rw [Bool.and_eq_true, decide_eq_true_eq, decide_eq_true_eq] at et'
  refine ⟨a, b, rfl, ha, ?_, w2, ?_, ?_, et'.1, et'.2⟩
  · show SqA K H b (sV ((itemsD sd).map strOf))
    rw [← w1]
    exact hb
  · show 1 ≤ ((itemsD sd).map strOf).length
    rw [List.length_map]
    exact e2
  · show ((itemsD sd).map strOf).length ≤ 8
    rw [List.length_map]
    exact e3
/-- a value handed in as pieces, and whether it is right -/
def AP (K : PySem.W.Frag) (H : Hp) (x : V) (qs : Option (List Qp)) : Prop := (∃ d, Vx K H x d ∧ isSeqD d = false ∧ qs = none) ∨
  ∃ (a : Addr) (xs : List V) (ds : List PyData), x = .ref a ∧ SqA K H a xs ∧ xs.length = ds.length ∧ xs.length ≤ 1000 ∧ (∀ (i : Nat) (y : V) (u : PyData), xs[i]? = some y → ds[i]? = some u → Px K H y u) ∧ qs = (if (decide (xs.length ≤ 20) && ds.all isPieceD) = true then some (ds.map qOf) else none)
theorem AP.same {H H' : Hp} {x : V} {qs : Option (List Qp)} (h : AP K H x qs) (s : Same H H') : AP K H' x qs := by
  rcases h with ⟨d, h1, h2, h3⟩ | ⟨a, xs, ds, h1, h2, h3, h4, h5, h6⟩
  · exact .inl ⟨d, h1.same s, h2, h3⟩
  · exact .inr ⟨a, xs, ds, h1, h2.same s, h3, h4, fun i y u hy hu => (h5 i y u hy hu).same s, h6⟩
variable {P : Program} {w : World} {mg : Str → Option Value} {base : Heap}
/-! ### are_pieces: slots value 0, piece 1 -/
abbrev sArePieces : Stmt := top 12
theorem scArePieces : FnScope ["value", "piece"] ["value"] (defScope sArePieces) := ⟨rfl, rfl, rfl, by decide +kernel, rfl, by decide +kernel, by decide +kernel⟩
def spAreP (K : PySem.W.Frag) : Sp := fun vs H Q _ => ∃ x qs, vs = [x] ∧ AP K H x qs ∧ ∀ H', Same H H' → Q (.bl qs.isSome) H'
theorem ok_arep {f : Addr} {fd : FuncData} {t20 : Tok} (F : Fun K "are_pieces" "are_pieces" sArePieces f fd) (B : Blt mg) (m20 : mg "MOST_PIECES" = some (.int 20 t20)) (is_piece : Own P w K mg base CX0 3 "is_piece" ["value"] (spPieceD K)) : FnOk P w K mg base CX0 4 f fd ["value"] (spAreP K) := by
  refine F.ok scArePieces (fun vs H Q E h => ?_) (fun cdv A outer s H vs Q E hr h => ?_)
  · obtain ⟨x, qs, rfl, _⟩ := h
    rfl
  · obtain ⟨x, qs, rfl, hx, q⟩ := h
    refine ⟨_, (pss_cons (ps_if (PW.pt (pw_or (pt_not (pt_val (pe_callB call_isiT (by rfl) B.isinstance_ (by decide +kernel) (pa_cons (pv 0) (pa_cons (pe_tup (pa_cons (pe_bltn (v := .ty "list") (by rfl) B.list_ (by decide +kernel) rfl) (pa_cons (pe_bltn (v := .ty "tuple") (by rfl) B.tuple_ (by decide +kernel) rfl) pa_nil))) pa_nil))))) (pw_or1 (pt_cmpR op_gt (pe_callB call_len (by rfl) B.len_ (by decide +kernel) (pa_cons (pv 0) pa_nil)) (pe_glob (v := .int 20) rfl m20 ⟨_, rfl⟩) (nomark _))))) (pss_one (ps_ret pe_bl)) pss_nil)
      (pss_one (ps_ret (pe_callB (cr_all rfl) (by rfl) B.all_ (by decide +kernel) (pa_cons (pe_lc (own := [("piece", 1)]) (g := gName 1) (tt := tYes) rfl scArePieces.nd (pi_seq (pv 0))
          (blkOk_by (own := [("piece", 1)]) (N := ["value", "piece"]) (sc := defScope sArePieces) (by decide +kernel))
          (fun _ _ _ _ _ => (pg_name (i := 1) scArePieces.nd rfl (Or.inl rfl))) (fun _ _ _ _ _ => pts_nil)
          (fun _ _ _ _ _ => (pe_call is_piece.g hr rfl is_piece.mg is_piece.kp is_piece.b .nil pass0 (pa_cons (pv 1) pa_nil)))) pa_nil))))), ?_⟩
    refine ⟨_, rfl, by show 2 ≤ sizeLine; decide, fun t nt => ?_⟩
    have s1 : Same H (upd H t (.tup [.ty "list", .ty "tuple"])) := same_new nt
    have ut : (upd H t (.tup [.ty "list", .ty "tuple"])) t = some (.tup [.ty "list", .ty "tuple"]) := upd_same
    generalize upd H t (.tup [.ty "list", .ty "tuple"]) = H1 at s1 ut ⊢
    rcases hx.same s1 with ⟨d, h1, h2, rfl⟩ | ⟨a, xs, ds, rfl, ha, hl, few, hp, rfl⟩
    · refine ⟨_, t, _, _, [.type "list", .type "tuple"], isSeqD d, rfl, ut, .cons (.ty "list") (.cons (.ty "tuple") .nil), h1.ty, kitSeq d, _, rfl, ?_⟩
      rw [h2]
      exact iteT (iteT (q _ s1))
    · have ty : ∃ (T : String), TyX K H1 (.ref a) (.type T) ∧ PySem.W.kitAny K (.type T) [.type "list", .type "tuple"] = some true := by
        rcases ha with h | h
        · exact ⟨"list", sql_ty h, kitSeq (.list [])⟩
        · exact ⟨"tuple", sqt_ty h, kitSeq (.tuple [])⟩
      obtain ⟨T, t1, t2⟩ := ty
      refine ⟨_, t, _, _, [.type "list", .type "tuple"], true, rfl, ut, .cons (.ty "list") (.cons (.ty "tuple") .nil), t1, t2, _, rfl, iteF ?_⟩
      have lenX : LenV K (.ref a) H1 xs.length := by
        rcases ha with hb | hb
        · exact .inl ⟨xs, hb, rfl⟩
        · exact .inr ⟨xs, hb, rfl⟩
      refine ⟨_, rfl, _, xs.length, rfl, lenX, _, _, rfl, rfl, _, rfl, if_is (fun c => ?_) (fun c => ?_)⟩
      · have c' : (20 : Int) < (xs.length : Int) := of_decide_eq_true c
        rw [decide_eq_false (show ¬ xs.length ≤ 20 by omega), Bool.false_and] at q
        exact q _ s1
      · have c' : ¬ (20 : Int) < (xs.length : Int) := of_decide_eq_false c
        rw [decide_eq_true (show xs.length ≤ 20 by omega), Bool.true_and] at q
        refine ⟨_, rfl, ?_⟩
        refine seq_rel ha few (fun i y _ => ∀ u, ds[i]? = some u → y = .bl (isPieceD u)) (fun _ _ _ _ _ h => h) (fun _ _ _ _ _ _ _ _ _ h => h) (fun i x hx G sG R hR => ⟨rfl, ?_⟩) fun D G ys nD hD hly hr sG => ?_
        · obtain ⟨u, hu⟩ : ∃ u, ds[i]? = some u := by
            have := (List.getElem?_eq_some_iff.mp hx).1
            exact ⟨ds[i]'(by omega), List.getElem?_eq_getElem (by omega)⟩
          refine ⟨_, rfl, x, u, rfl, (hp i x u hx hu).same sG, fun G' s' => hR _ G' s' fun u' hu' => ?_⟩
          rw [hu] at hu'
          cases hu'
          rfl
        · have e : ys = (ds.map isPieceD).map V.bl := by
            refine List.ext_getElem? fun i => ?_
            rcases Nat.lt_or_ge i ys.length with c | c
            · have hd : i < ds.length := by omega
              rw [List.getElem?_eq_getElem c, List.map_map, List.getElem?_map, List.getElem?_eq_getElem hd]
              have := hr i _ (List.getElem?_eq_getElem c) _ (List.getElem?_eq_getElem hd)
              rw [this]
              rfl
            · rw [List.getElem?_eq_none c, List.getElem?_eq_none (by rw [List.length_map, List.length_map]; omega)]
          rw [e] at hD
          refine ⟨D, _, rfl, .inl (.inl hD), ?_⟩
          rw [show (ds.map isPieceD).all id = ds.all isPieceD from by rw [List.all_map]; rfl]
          cases hb : ds.all isPieceD with
          | true =>
            rw [hb] at q
            exact q _ (s1.trans sG)
          | false =>
            rw [hb] at q
            exact q _ (s1.trans sG)
end
end RL

namespace RL
open PySem L2 SX AddrMath VA
abbrev nSt : Str := "_state"
abbrev nPc : Str := "_pieces"
abbrev fField : Str := "field"
def fF (z : Str) (t : Addr) : List (Str × V) := [(nSt, .str z), (nPc, .ref t)]
def PairAt (K : PySem.W.Frag) (H : Hp) (r : V) (q : Qp) : Prop := ∃ b t, r = .ref b ∧ SqT K H b [.ref t, .int q.2] ∧ SqT K H t (sV q.1)
def PairsAt (K : PySem.W.Frag) (H : Hp) (rs : List V) (qs : List Qp) : Prop := rs.length = qs.length ∧ ∀ (i : Nat) (r : V) (q : Qp), rs[i]? = some r → qs[i]? = some q → PairAt K H r q
def FarAt (K : PySem.W.Frag) (C : Addr) (H : Hp) (p : Addr) (z : Str) (qs : List Qp) : Prop := ∃ dx tP rs, H p = some (.ins C dx (fF z tP)) ∧ SqT K H tP rs ∧ PairsAt K H rs qs
theorem call_len_seqK {X : Cx} {K : PySem.W.Frag} (h : X.K = K) : CallR X (.builtin "len") (fun xs H Q => ∃ (p : Addr) (ys : List V), xs = [.ref p] ∧ SqA K H p ys ∧ Q (.int ys.length) H) := by
  subst h
  intro pn s σ H xs us Q J r ⟨p, ys, e, hp, q⟩
  exact call_len_seq pn s σ H xs us Q J r ⟨p, ys, e, hp, q⟩
structure FTxt (K : PySem.W.Frag) (mg : Str → Option Value) (C : Addr) : Prop where
  cl : Cls K C
  nS : NoAttr K C nSt
  nP : NoAttr K C nPc
  mgC : mg "Far" = some (.ref C)
theorem sqt_ls {K : PySem.W.Frag} {H H' : Hp} {D t : Addr} {zs xs : List V} (hD : H D = some (.lst zs)) (b : But D H H') (h : SqT K H t xs) : SqT K H' t xs := by
  rcases h with (h | ⟨u, h⟩) | h
  · exact .inl (.inl (b _ _ h (ne_of h hD (fun z => by cases z))))
  · exact .inl (.inr ⟨u, b _ _ h (ne_of h hD (fun z => by cases z))⟩)
  · exact .inr h
section
variable {K : PySem.W.Frag}
theorem PairAt.same {H H' : Hp} {r : V} {q : Qp} (h : PairAt K H r q) (s : Same H H') : PairAt K H' r q := by
  obtain ⟨b, t, e, h1, h2⟩ := h
  exact ⟨b, t, e, same_seqT s h1, same_seqT s h2⟩
theorem PairAt.but {H H' : Hp} {D : Addr} {zs : List V} {r : V} {q : Qp} (h : PairAt K H r q) (hD : H D = some (.lst zs)) (b : But D H H') : PairAt K H' r q := by
  obtain ⟨b', t, e, h1, h2⟩ := h
  exact ⟨b', t, e, sqt_ls hD b h1, sqt_ls hD b h2⟩
theorem PairAt.kp {H H' : Hp} {r : V} {q : Qp} (h : PairAt K H r q) (k : Kp H H') : PairAt K H' r q := by
  obtain ⟨b', t, e, h1, h2⟩ := h
  exact ⟨b', t, e, k.sqT h1, k.sqT h2⟩
theorem PairsAt.same {H H' : Hp} {rs : List V} {qs : List Qp} (h : PairsAt K H rs qs) (s : Same H H') : PairsAt K H' rs qs := ⟨h.1, fun i r q hr hq => (h.2 i r q hr hq).same s⟩
theorem PairsAt.kp {H H' : Hp} {rs : List V} {qs : List Qp} (h : PairsAt K H rs qs) (k : Kp H H') : PairsAt K H' rs qs := ⟨h.1, fun i r q hr hq => (h.2 i r q hr hq).kp k⟩
theorem FarAt.same {C : Addr} {H H' : Hp} {p : Addr} {z : Str} {qs : List Qp} (h : FarAt K C H p z qs) (s : Same H H') : FarAt K C H' p z qs := by
  obtain ⟨dx, tP, rs, h1, h2, h3⟩ := h
  exact ⟨dx, tP, rs, s _ _ h1, same_seqT s h2, h3.same s⟩
variable {P : Program} {w : World} {mg : Str → Option Value} {base : Heap}
/-! ### InvalidAddress.__init__ -/
abbrev sErrA : Stmt := inClass (top 1) 0
theorem scErrA : FnScope ["self", "field"] ["self", "field"] (defScope sErrA) := ⟨rfl, rfl, rfl, by decide +kernel, rfl, by decide +kernel, by decide +kernel⟩
theorem ok_erra {f C fI : Addr} {fd : FuncData} (F : Fun K "__init__" "InvalidAddress.__init__" sErrA f fd) (T : ErrC K mg "InvalidAddress" fField C fI) : FnOk P w K mg base CX0 1 f fd ["self", "field"] (spErr fField C) := by
  refine F.ok scErrA (fun vs H Q E h => ?_) (fun cdv A outer s0 H vs Q E hr h => ?_)
  · obtain ⟨a, v, rfl, _⟩ := h
    rfl
  · obtain ⟨a, v, rfl, ha, q⟩ := h
    exact ⟨_, pss_one (ps_ost (pv 0) (pv 1)), _, rfl, _, rfl, a, C, rfl, T.ox, T.no, .inl ⟨ha, q⟩⟩
/-! ### Far.__init__: slots self 0, state 1, pieces 2, segments 3, times 4 -/
abbrev sFInit : Stmt := inClass (top 13) 0
abbrev sFState : Stmt := inClass (top 13) 1
abbrev sFPieces : Stmt := inClass (top 13) 2
theorem scFInit : FnScope ["self", "state", "pieces", "segments", "times"] ["self", "state", "pieces"] (defScope sFInit) := ⟨rfl, rfl, rfl, by decide +kernel, rfl, by decide +kernel, by decide +kernel⟩
def spFInit (K : PySem.W.Frag) (C CE : Addr) : Sp := fun vs H Q E => ∃ (p dx : Addr) (sv pv_ : V) (sd : PyData) (qs : Option (List Qp)), vs = [.ref p, sv, pv_] ∧ H p = some (.ins C dx []) ∧ Vx K H sv sd ∧ AP K H pv_ qs ∧
  (isWordD sd = false → ∀ d H', Same H H' → H' d = some (.xd (ixF fField (.str "state"))) → H d = none → E (.ref CE) (some d) H') ∧
  (isWordD sd = true → qs = none → ∀ d H', Same H H' → H' d = some (.xd (ixF fField (.str "pieces"))) → H d = none → E (.ref CE) (some d) H') ∧
  (∀ z rs, sd = .str z → isWordD sd = true → qs = some rs → ∀ H', (∀ b o, H b = some o → b ≠ p → H' b = some o) → FarAt K C H' p z rs → Q .non H')
theorem ok_finit {f C CE fI fE : Addr} {fd fdE : FuncData} (F : Fun K "__init__" "Far.__init__" sFInit f fd) (T : FTxt K mg C) (B : Blt mg)
    (TE : ErrC K mg "InvalidAddress" fField CE fE) (GE : FnOk P w K mg base CX0 1 fE fdE ["self", "field"] (spErr fField CE)) (bE : Binds K fdE ["self", "field"] [])
    (is_word : Own P w K mg base CX0 1 "is_word" ["value"] (spIsWord K)) (are_pieces : Own P w K mg base CX0 4 "are_pieces" ["value"] (spAreP K)) : FnOk P w K mg base (L2.CX P w) 5 f fd ["self", "state", "pieces"] (spFInit K C CE) := by
  refine F.okX scFInit (fun vs H Q E h => ?_) (fun cdv A outer s0 H vs Q E hr h => ?_)
  · obtain ⟨p, dx, sv, pv_, sd, qs, rfl, _⟩ := h
    rfl
  · obtain ⟨p, dx, sv, pv_, sd, qs, rfl, hp, hs, hq, eS, eP, q⟩ := h
    have hr2 : Room 2 _ := hr.mono (by decide)
    refine ⟨_, (pss_cons (ps_if (pt_not (pt_val (pe_call is_word.g (hr.mono (by decide)) rfl is_word.mg is_word.kp is_word.b .nil pass0 (pa_cons (pv 1) pa_nil)))) (pss_one (ps_raise rfl (takes_of rfl rfl rfl rfl) (pmk_oex TE.ox TE.iC TE.tI GE hr2 bE .nil pass0 (by rfl) TE.mgC (by exact (pa_cons pe_str pa_nil))))) pss_nil)
      (pss_cons (ps_if (pt_not (pt_val (pe_call are_pieces.g hr rfl are_pieces.mg are_pieces.kp are_pieces.b .nil pass0 (pa_cons (pv 2) pa_nil)))) (pss_one (ps_raise rfl (takes_of rfl rfl rfl rfl) (pmk_oex TE.ox TE.iC TE.tI GE hr2 bE .nil pass0 (by rfl) TE.mgC (by exact (pa_cons pe_str pa_nil))))) pss_nil)
      (pss_cons (ps_fld (pv 0) (pv 1) rfl)
      (pss_one (ps_fld (pv 0) (pe_callTy call_tupA (by rfl) B.tuple_ (by decide +kernel) (pa_cons (pe_lc (own := [("segments", 3), ("times", 4)]) (g := gTup K 2 (gCons (gName 3) (gCons (gName 4) gNil))) (tt := tYes) rfl scFInit.nd (pi_seq (pv 2))
          (blkOk_by (own := [("segments", 3), ("times", 4)]) (N := ["self", "state", "pieces", "segments", "times"]) (sc := defScope sFInit) (by decide +kernel))
          (fun _ _ _ _ _ => (pg_tup rfl (pgs_cons (pg_name (i := 3) scFInit.nd rfl (Or.inl rfl)) (pgs_cons (pg_name (i := 4) scFInit.nd rfl (Or.inl rfl)) pgs_nil)))) (fun _ _ _ _ _ => pts_nil)
          (fun _ _ _ _ _ => (pe_tup (pa_cons (pe_callTy (call_tupAK (K := K) rfl) (by rfl) B.tuple_ (by decide +kernel) (pa_cons (pv 3) pa_nil)) (pa_cons (pv 4) pa_nil))))) pa_nil)) rfl))))), ?_⟩
    -- state
    refine ⟨_, rfl, sv, sd, rfl, hs, _, rfl, ?_⟩
    cases e1 : isWordD sd with
    | false =>
      refine iteT ⟨by show 1 ≤ 1000; decide, fun a na => err_use na fun d nd => ?_⟩
      exact eS e1 d _ (same_new nd) upd_same nd
    | true =>
    refine iteF ?_
    -- pieces
    refine ⟨_, rfl, pv_, qs, rfl, hq, fun H1 s1 => ⟨_, rfl, ?_⟩⟩
    cases qs with
    | none =>
      refine iteT ⟨by show 1 ≤ 1000; decide, fun a na => err_use na fun d nd => ?_⟩
      exact eP e1 rfl d _ (s1.trans (same_new nd)) upd_same (s1.free nd)
    | some rs =>
    refine iteF ?_
    obtain ⟨z, rfl, rfl, hz⟩ := vx_str hs (by cases sd <;> first | rfl | cases e1)
    rcases hq.same s1 with ⟨d, _, _, e⟩ | ⟨a, xs, ds, rfl, ha, hl, few, hx, e⟩
    · cases e
    have right : (decide (xs.length ≤ 20) && ds.all isPieceD) = true := by
      cases c : (decide (xs.length ≤ 20) && ds.all isPieceD) with
      | true => rfl
      | false => rw [c] at e; cases e
    rw [if_pos right] at e
    cases e
    rw [Bool.and_eq_true, decide_eq_true_eq] at right
    have hp1 := s1 _ _ hp
    have parts : ∀ (i : Nat) (y : V) (u : PyData), xs[i]? = some y → ds[i]? = some u → ∃ a b, y = .ref a ∧ SqT K H1 a [.ref b, .int (qOf u).2] ∧ SqA K H1 b (sV (qOf u).1) ∧ okQ (qOf u) := fun i y u hy hu =>
      piece_parts (hx i y u hy hu) (List.all_eq_true.mp right.2 u (List.mem_of_getElem? hu))
    refine ⟨_, rfl, _, rfl, p, C, dx, _, rfl, hp1, T.cl, T.nS, (by show 0 < 1000; decide), ?_⟩
    have k2 : Kp H1 (upd H1 p (.ins C dx [(nSt, .str z)])) := kp_put hp1 rfl
    have g1 : (upd H1 p (.ins C dx [(nSt, .str z)])) p = some (.ins C dx [(nSt, .str z)]) := upd_same
    have o1 : ∀ b o, H1 b = some o → b ≠ p → (upd H1 p (.ins C dx [(nSt, .str z)])) b = some o := fun b o e n => by rw [upd_ne n]; exact e
    refine hp_is (H' := upd H1 p (.ins C dx [(nSt, .str z)])) rfl ?_
    generalize upd H1 p (.ins C dx [(nSt, .str z)]) = G at k2 g1 o1 ⊢
    refine ⟨_, rfl, ?_⟩
    refine seq_rel (k2.sqA ha) few (fun i y H => ∀ u, ds[i]? = some u → PairAt K H y (qOf u)) (fun _ _ _ _ s h u hu => (h u hu).same s) (fun D nD i y H H' zs hD b h u hu => (h u hu).but hD b) (fun i y hy G' sG R hR => ?_) fun D G2 ys nD hD hly hrel s2 => ?_
    · obtain ⟨u, hu⟩ : ∃ u, ds[i]? = some u := by
        have := (List.getElem?_eq_some_iff.mp hy).1
        exact ⟨ds[i]'(by omega), List.getElem?_eq_getElem (by omega)⟩
      obtain ⟨a', b', rfl, t1, t2, _⟩ := parts i y u hy hu
      refine ⟨a', _, rfl, same_seqT sG (k2.sqT t1), rfl, _, _, rfl, _, _, rfl, rfl, rfl, ?_⟩
      refine ⟨_, rfl, b', _, rfl, (k2.sqA t2).same sG, fun t G3 ht s3 => ⟨_, rfl, by show 2 ≤ sizeLine; decide, fun r nr => ?_⟩⟩
      refine hR _ _ (s3.trans (same_new nr)) fun u' hu' => ?_
      rw [hu] at hu'
      cases hu'
      exact ⟨r, t, rfl, .inl (.inl upd_same), same_seqT (same_new nr) ht⟩
    · refine ⟨D, ys, rfl, .inl (.inl (.inl hD)), fun tP G3 htP s3 => ⟨_, rfl, p, C, dx, _, rfl, s3 _ _ (s2 _ _ g1), T.cl, T.nP, (by show 1 < 1000; decide), ?_⟩⟩
      have kE : Kp G3 (upd G3 p (.ins C dx (fF z tP))) := kp_put (s3 _ _ (s2 _ _ g1)) rfl
      refine q z _ rfl e1 rfl _ (fun b o e n => ?_) ⟨dx, tP, ys, upd_same, kE.sqT htP, ?_, fun i r qq hr hqq => ?_⟩
      · rw [upd_ne n]
        exact s3 _ _ (s2 _ _ (o1 _ _ (s1 _ _ e) n))
      · rw [List.length_map]
        omega
      · rw [List.getElem?_map, Option.map_eq_some_iff] at hqq
        obtain ⟨u, hu, rfl⟩ := hqq
        exact ((hrel i r hr u hu).same s3).kp kE
/-! ### getters -/
def spGetF (C : Addr) (n : Str) : Sp := fun vs H Q _ => ∃ (p dx : Addr) (fs : List (Str × V)) (v : V), vs = [.ref p] ∧ H p = some (.ins C dx fs) ∧ fs.lookup n = some v ∧ Q v H
theorem scFState : FnScope ["self"] ["self"] (defScope sFState) := ⟨rfl, rfl, rfl, by decide +kernel, rfl, by decide +kernel, by decide +kernel⟩
theorem scFPieces : FnScope ["self"] ["self"] (defScope sFPieces) := ⟨rfl, rfl, rfl, by decide +kernel, rfl, by decide +kernel, by decide +kernel⟩
theorem ok_fstate {f C : Addr} {fd : FuncData} (F : Fun K "state" "Far.state" sFState f fd) (T : FTxt K mg C) : FnOk P w K mg base CX0 1 f fd ["self"] (spGetF C nSt) := by
  refine F.ok scFState (fun vs H Q E h => ?_) (fun cdv A outer s0 H vs Q E hr h => ?_)
  · obtain ⟨p, dx, fs, v, rfl, _⟩ := h
    rfl
  · obtain ⟨p, dx, fs, v, rfl, hp, l, q⟩ := h
    exact ⟨_, pss_one (ps_ret (pe_fld (pv 0) rfl)), _, rfl, p, C, dx, fs, v, rfl, hp, T.cl, T.nS, l, q⟩
theorem ok_fpieces {f C : Addr} {fd : FuncData} (F : Fun K "pieces" "Far.pieces" sFPieces f fd) (T : FTxt K mg C) : FnOk P w K mg base CX0 1 f fd ["self"] (spGetF C nPc) := by
  refine F.ok scFPieces (fun vs H Q E h => ?_) (fun cdv A outer s0 H vs Q E hr h => ?_)
  · obtain ⟨p, dx, fs, v, rfl, _⟩ := h
    rfl
  · obtain ⟨p, dx, fs, v, rfl, hp, l, q⟩ := h
    exact ⟨_, pss_one (ps_ret (pe_fld (pv 0) rfl)), _, rfl, p, C, dx, fs, v, rfl, hp, T.cl, T.nP, l, q⟩
/-- a getter of the class at C -/
structure OwnG (P : Program) (w : World) (K : PySem.W.Frag) (mg : Str → Option Value) (base : Heap) (C : Addr) (n : Str) (sp : Sp) where
  p : Addr
  g : Addr
  fd : FuncData
  prop : PropOf K C n p g
  ok : FnOk P w K mg base CX0 1 g fd ["self"] sp
  b : Binds K fd ["self"] []
/-! ### size_in: slots pieces 0, segments 1, times 2; size_of -/
abbrev sSizeIn : Stmt := top 14
abbrev sSizeOf : Stmt := top 15
theorem scSizeIn : FnScope ["pieces", "segments", "times"] ["pieces"] (defScope sSizeIn) := ⟨rfl, rfl, rfl, by decide +kernel, rfl, by decide +kernel, by decide +kernel⟩
theorem scSizeOf : FnScope ["far"] ["far"] (defScope sSizeOf) := ⟨rfl, rfl, rfl, by decide +kernel, rfl, by decide +kernel, by decide +kernel⟩
def sizeQ (q : Qp) : Int := (q.1.length : Int) * q.2
def totalQ (qs : List Qp) : Int := (qs.map sizeQ).sum
def spSizeIn (K : PySem.W.Frag) : Sp := fun vs H Q _ => ∃ (t : Addr) (rs : List V) (qs : List Qp), vs = [.ref t] ∧ SqT K H t rs ∧ rs.length ≤ 1000 ∧ PairsAt K H rs qs ∧ (∀ q ∈ qs, q.1.length ≤ 1000) ∧ ∀ H', Same H H' → Q (.int (totalQ qs)) H'
/-- [len(segments) * times for segments, times in pieces]: the items -/
theorem sizes_eq {ys : List V} {qs : List Qp} (l : ys.length = qs.length) (h : ∀ (i : Nat) y, ys[i]? = some y → ∀ q, qs[i]? = some q → y = .int (sizeQ q)) : ys = (qs.map sizeQ).map V.int := by
  refine List.ext_getElem? fun i => ?_
  rcases Nat.lt_or_ge i ys.length with c | c
  · have hd : i < qs.length := by omega
    rw [List.getElem?_eq_getElem c, List.map_map, List.getElem?_map, List.getElem?_eq_getElem hd, h i _ (List.getElem?_eq_getElem c) _ (List.getElem?_eq_getElem hd)]
    rfl
  · rw [List.getElem?_eq_none c, List.getElem?_eq_none (by rw [List.length_map, List.length_map]; omega)]
theorem ok_sizein {f : Addr} {fd : FuncData} (F : Fun K "size_in" "size_in" sSizeIn f fd) (B : Blt mg) (ms : mg "sum" = none) : FnOk P w K mg base CX0 1 f fd ["pieces"] (spSizeIn K) := by
  refine F.ok scSizeIn (fun vs H Q E h => ?_) (fun cdv A outer s0 H vs Q E hr h => ?_)
  · obtain ⟨t, rs, qs, rfl, _⟩ := h
    rfl
  · obtain ⟨t, rs, qs, rfl, ht, few, hP, small, q⟩ := h
    refine ⟨_, (pss_one (ps_ret (pe_callB (cr_sum rfl) (by rfl) ms (by decide +kernel) (pa_cons (pe_lc (own := [("segments", 1), ("times", 2)]) (g := gTup K 2 (gCons (gName 1) (gCons (gName 2) gNil))) (tt := tYes) rfl scSizeIn.nd (pi_seq (pv 0))
          (blkOk_by (own := [("segments", 1), ("times", 2)]) (N := ["pieces", "segments", "times"]) (sc := defScope sSizeIn) (by decide +kernel))
          (fun _ _ _ _ _ => (pg_tup rfl (pgs_cons (pg_name (i := 1) scSizeIn.nd rfl (Or.inl rfl)) (pgs_cons (pg_name (i := 2) scSizeIn.nd rfl (Or.inl rfl)) pgs_nil)))) (fun _ _ _ _ _ => pts_nil)
          (fun _ _ _ _ _ => (pe_op op_mul (pe_callB (call_len_seqK (K := K) rfl) (by rfl) B.len_ (by decide +kernel) (pa_cons (pv 1) pa_nil)) (pv 2)))) pa_nil)))), ?_⟩
    refine ⟨_, rfl, ?_⟩
    refine seq_rel (.inr ht) few (fun i y _ => ∀ qq, qs[i]? = some qq → y = .int (sizeQ qq)) (fun _ _ _ _ _ h => h) (fun _ _ _ _ _ _ _ _ _ h => h) (fun i y hy G sG R hR => ?_) fun D G ys nD hD hly hrel sG => ?_
    · obtain ⟨qq, hqq⟩ : ∃ u, qs[i]? = some u := by
        have := (List.getElem?_eq_some_iff.mp hy).1
        have l := hP.1
        exact ⟨qs[i]'(by omega), List.getElem?_eq_getElem (by omega)⟩
      obtain ⟨b, t', rfl, h1, h2⟩ := (hP.2 i y qq hy hqq).same sG
      have sm := small qq (List.mem_of_getElem? hqq)
      refine ⟨b, _, rfl, h1, rfl, _, _, rfl, _, _, rfl, rfl, rfl, ?_⟩
      refine ⟨_, rfl, t', _, rfl, .inr h2, _, rfl, _, _, rfl, rfl, .inl ⟨by omega, ?_⟩, ?_⟩
      · rw [List.length_map]
        omega
      · refine hR _ G (Same.refl G) fun qq' h' => ?_
        rw [hqq] at h'
        cases h'
        show V.int _ = V.int _
        rw [List.length_map]
        rfl
    · rw [sizes_eq (by rw [hly, hP.1]) hrel] at hD
      exact ⟨D, _, rfl, .inl (.inl hD), q G sG⟩
def spSizeOf (K : PySem.W.Frag) (C : Addr) : Sp := fun vs H Q _ => ∃ (p : Addr) (z : Str) (qs : List Qp), vs = [.ref p] ∧ FarAt K C H p z qs ∧ qs.length ≤ 1000 ∧ (∀ q ∈ qs, q.1.length ≤ 1000) ∧ ∀ H', Same H H' → Q (.int (totalQ qs)) H'
theorem ok_sizeof {f C : Addr} {fd : FuncData} (F : Fun K "size_of" "size_of" sSizeOf f fd) (T : FTxt K mg C) (pieces : OwnG P w K mg base C "pieces" (spGetF C nPc)) (size_in : Own P w K mg base CX0 1 "size_in" ["pieces"] (spSizeIn K)) : FnOk P w K mg base CX0 3 f fd ["far"] (spSizeOf K C) := by
  refine F.ok scSizeOf (fun vs H Q E h => ?_) (fun cdv A outer s0 H vs Q E hr h => ?_)
  · obtain ⟨p, z, qs, rfl, _⟩ := h
    rfl
  · obtain ⟨p, z, qs, rfl, ⟨dx, tP, rs, hp, ht, hP⟩, few, small, q⟩ := h
    refine ⟨_, (pss_one (ps_ret (pe_call size_in.g (hr.mono (by decide)) rfl size_in.mg size_in.kp size_in.b .nil pass0 (pa_cons (pe_prop (pv 0) T.cl pieces.prop pieces.ok hr pieces.b .nil pass0 rfl) pa_nil)))), ?_⟩
    exact ⟨_, rfl, p, dx, _, rfl, hp, p, dx, _, _, rfl, hp, rfl, tP, rs, qs, rfl, ht, by rw [hP.1]; exact few, hP, small, q⟩
end
end RL

namespace RL
open PySem L2 SX AddrMath VA
/-- the tape: at least one cell -/
def TapeAt (H : Hp) (d c : Addr) (n : Nat) : Prop := ∃ (ns : List Int) (s : Nat) (r : Int), H d = some (.dK (penKV c (s : Int) r)) ∧ H c = some (.lst (ns.map V.int)) ∧ 0 < ns.length ∧ ns.length ≤ 63 ∧ s ≤ n
theorem TapeAt.keep {H H' : Hp} {d c : Addr} {n : Nat} (p : TapeAt H d c n) (s : Same H H') : TapeAt H' d c n := by
  obtain ⟨ns, sp, r, h1, h2, h3⟩ := p
  exact ⟨ns, sp, r, s _ _ h1, s _ _ h2, h3⟩
theorem TapeAt.mono {H : Hp} {d c : Addr} {n m : Nat} (p : TapeAt H d c n) (h : n ≤ m) : TapeAt H d c m := by
  obtain ⟨ns, sp, r, h1, h2, h3, h4, h5⟩ := p
  exact ⟨ns, sp, r, h1, h2, h3, h4, by omega⟩
theorem TapeAt.pen {H : Hp} {d c : Addr} {n : Nat} (p : TapeAt H d c n) : PenAt H d c n := by
  obtain ⟨ns, sp, r, h1, h2, h3, h4, h5⟩ := p
  exact ⟨ns, sp, r, h1, h2, h4, h5⟩
section
variable {P : Program} {w : World} {K : PySem.W.Frag} {mg : Str → Option Value} {base : Heap}
/-! ### _law_begin: slots script 0 -/
abbrev sBegin : Stmt := top 17
theorem scBegin : FnScope ["_law_script"] ["_law_script"] (defScope sBegin) := ⟨rfl, rfl, rfl, by decide +kernel, rfl, by decide +kernel, by decide +kernel⟩
def spBegin (K : PySem.W.Frag) : Sp := fun vs H Q _ => ∃ (a : Addr) (ns : List Int), vs = [.ref a] ∧ SqL K H a (ns.map V.int) ∧ ns.length ≤ 63 ∧ ∀ (d c : Addr) (H' : Hp), TapeAt H' d c 0 → Same H H' → H d = none → Q (.ref d) H'
/-- script[:63] or [0] -/
def tCells (K : PySem.W.Frag) : TE := fun σ H Q => ∃ (a : Addr) (ns : List Int), σ[0]? = some (some (.ref a)) ∧ SqL K H a (ns.map V.int) ∧ ns.length ≤ 63 ∧ ∀ (c : Addr) (ms : List Int) (H' : Hp), H' c = some (.lst (ms.map V.int)) → 0 < ms.length → ms.length ≤ 63 → Same H H' → H c = none → Q (.ref c) H'
theorem ok_begin {f : Addr} {fd : FuncData} (F : Fun K "_law_begin" "_law_begin" sBegin f fd) : FnOk P w K mg base CX0 1 f fd ["_law_script"] (spBegin K) := by
  refine F.ok scBegin (fun vs H Q E h => ?_) (fun cdv A outer s H vs Q E hr h => ?_)
  · obtain ⟨a, ns, rfl, _⟩ := h
    rfl
  · obtain ⟨a, ns, rfl, hS, hlen, q⟩ := h
    refine ⟨_, pss_one (ps_ret (pe_disp (pps_cons pe_str (pe_by (tCells K) (pe_orT (pe_slice sl_list (pv 0) po_none (po_some pe_int)) (pe_one (pe_lst (pa_cons pe_int pa_nil)))) (fun σ H Q h => by
        obtain ⟨a, ns, e0, hS, hl, q⟩ := h
        refine ⟨_, e0, 63, rfl, a, ns.map V.int, rfl, hS, fun c nc => ?_⟩
        have ecut : cutV (ns.map V.int) none (some 63) = (ns.take 63).map V.int := by
          rw [show (63 : Int) = ((63 : Nat) : Int) from rfl, cut_to, List.map_take]
        have sc : Same H (upd H c (.lst (cutV (ns.map V.int) none (some 63)))) := same_new nc
        have uc : (upd H c (.lst (cutV (ns.map V.int) none (some 63)))) c = some (.lst (cutV (ns.map V.int) none (some 63))) := upd_same
        rw [ecut] at sc uc ⊢
        refine ⟨!((ns.take 63).map V.int).isEmpty, .inl ⟨_, .inl (.inl uc), rfl⟩, ?_⟩
        cases hb : ((ns.take 63).map V.int).isEmpty with
        | false =>
          refine q c (ns.take 63) _ uc ?_ (by rw [List.length_take]; omega) sc nc
          cases hz : ns.take 63 with
          | nil => rw [hz] at hb; cases hb
          | cons z r => exact Nat.succ_pos _
        | true =>
          refine ⟨by show 1 ≤ sizeLine; decide, fun p np => ?_⟩
          exact q p [0] _ upd_same (by decide) (by decide) (sc.trans (same_new np)) (sc.free np)))
      (pps_cons pe_str pe_int (pps_cons pe_str pe_int pps_nil))) (by rfl) (by rfl) (fun z => by cases z) (by decide))), ?_⟩
    intro p hp
    have s1 : Same H (upd H p (.dK [])) := same_new hp
    have u1 : (upd H p (.dK [])) p = some (.dK []) := upd_same
    refine ⟨a, ns, rfl, s1.seq hS, hlen, fun c ms H2 hc h0 h63 s2 nc => ?_⟩
    refine ⟨s2 _ _ u1, penKV c 0 0, rfl, by show 3 ≤ 15; decide, ?_⟩
    rw [pen_made]
    have npl : c ≠ p := fun z => by
      rw [z, u1] at nc
      cases nc
    refine q p c _ ⟨ms, 0, 0, upd_same, by rw [upd_ne npl]; exact hc, h0, h63, Nat.le_refl _⟩ (fun b o e => ?_) hp
    rw [upd_ne (ne_of_none e hp)]
    exact s2 _ _ (s1 _ _ e)
/-! ### _law_draw: slots tape 0, many 1, spot 2, size 3, cell 4, mixed 5, found 6 -/
abbrev sDraw : Stmt := top 18
def spDraw : Sp := fun vs H Q _ => ∃ (d c : Addr) (n : Nat) (m : Int), vs = [.ref d, .int m] ∧ TapeAt H d c n ∧ n ≤ 1000000 ∧ 0 < m ∧ m < 1073741824 ∧ ∀ (j : Int) (H' : Hp), 0 ≤ j → j < m → TapeAt H' d c (n + 1) → But d H H' → Q (.int j) H'
theorem nzA : (2305843009213693951 : Int) ≠ 0 := by decide
theorem nzB : (10 : Int) ^ (49 : Int).toNat + 9 ≠ 0 := by decide
/-- the last three rows: the tape's rest is told -/
def tFin (c : Addr) (m : Int) : TS := fun D σ H => ∃ (d : Addr) (sp r : Int) (o2 o3 o4 o5 : Option V), σ = [some (.ref d), some (.int m), o2, o3, o4, o5, none] ∧ H d = some (.dK (penKV c sp r)) ∧ ∀ (j z : Int) (H' : Hp), 0 ≤ j → j < m → H' d = some (.dK (penKV c sp z)) → But d H H' → D.rt (.int j) H'
theorem scDraw : FnScope ["_law_tape", "_law_many", "_law_spot", "_law_size", "_law_cell", "_law_mixed", "_law_found"] ["_law_tape", "_law_many"] (defScope sDraw) := ⟨rfl, rfl, rfl, by decide +kernel, rfl, by decide +kernel, by decide +kernel⟩
theorem ok_draw {f : Addr} {fd : FuncData} (F : Fun K "_law_draw" "_law_draw" sDraw f fd) (mi : mg "int" = none) (ml : mg "len" = none) : FnOk P w K mg base CX0 1 f fd ["_law_tape", "_law_many"] spDraw := by
  refine F.ok scDraw (fun vs H Q E h => ?_) (fun cdv A outer s H vs Q E hr h => ?_)
  · obtain ⟨d, c, n, m, rfl, _⟩ := h
    rfl
  · obtain ⟨d, c, n, m, rfl, p, hn, hm0, hm1, q⟩ := h
    have hu := hu_of hr
    have hmn : m ≠ 0 := by omega
    have hma : m.natAbs < 1073741824 := by omega
    have fm : ∀ x : Int, 0 ≤ x.fmod m ∧ x.fmod m < m := fun x => fmod_in x hm0
    have gC : ∀ {H : Hp} {d : Addr} {x y : Int}, H d = some (.dK (penKV c x y)) → DGet H d (.str "cells") (some (.ref c)) := fun {H d x y} e => by
      have z := DGet.k (k := kCells) e
      rw [pen_cells] at z
      exact z
    have gS : ∀ {H : Hp} {d : Addr} {x y : Int}, H d = some (.dK (penKV c x y)) → DGet H d (.str "spot") (some (.int x)) := fun {H d x y} e => by
      have z := DGet.k (k := kSpot) e
      rw [pen_spot] at z
      exact z
    have gR : ∀ {H : Hp} {d : Addr} {x y : Int}, H d = some (.dK (penKV c x y)) → DGet H d (.str "rest") (some (.int y)) := fun {H d x y} e => by
      have z := DGet.k (k := kRest) e
      rw [pen_rest] at z
      exact z
    have uS : ∀ {H : Hp} {d : Addr} {x y z : Int}, H d = some (.dK (penKV c x y)) → DPut H d (.str "spot") (.int z) (upd H d (.dK (penKV c z y))) := fun {H d x y z} e => by
      have q := DPut.k (k := kSpot) (v := .int z) e (small1000 (by show 3 ≤ 1000; decide))
      rw [pen_putS] at q
      exact q
    have uR : ∀ {H : Hp} {d : Addr} {x y z : Int}, H d = some (.dK (penKV c x y)) → DPut H d (.str "rest") (.int z) (upd H d (.dK (penKV c x z))) := fun {H d x y z} e => by
      have q := DPut.k (k := kRest) (v := .int z) e (small1000 (by show 3 ≤ 1000; decide))
      rw [pen_putR] at q
      exact q
    refine ⟨_, (pss_cons (ps_if (pt_cmpR op_lt (pe_dget hu (pv 0) pe_str (fun _ _ => rfl)) (pv 1) (nomark _)) (pss_cons (ps_par (by rfl) scDraw.nd (i := 2) (j := 3) rfl rfl (by decide) rfl rfl (pa_cons (pe_dget hu (pv 0) pe_str (fun _ _ => rfl)) (pa_cons (pe_callB call_len_seq (by rfl) ml PySem.boot_len (pa_cons (pe_dget hu (pv 0) pe_str (fun _ _ => rfl)) pa_nil)) pa_nil)) (by rfl))
        (pss_cons (ps_asg (pe_tup (pa_cons (pe_ix ix_list (pe_dget hu (pv 0) pe_str (fun _ _ => rfl)) (pe_op op_modN (pe_callTy call_int1 (by rfl) mi (by decide +kernel) (pa_cons (pv 2) pa_nil)) (pv 3)) (fun _ _ => rfl)) (pa_cons (pe_op op_add (pv 2) pe_int) pa_nil))) (pg_tup (n := 2) rfl (pgs_cons (pg_name (i := 4) scDraw.nd rfl (Or.inl rfl)) (pgs_cons (pg_sub (pv 0) pe_str (set_dict hu)) pgs_nil))))
        (pss_cons (ps_set (i := 5) scDraw.nd rfl (Or.inl rfl) (pe_op op_add (pe_op op_add (pe_op op_modN (pe_callTy call_int1 (by rfl) mi (by decide +kernel) (pa_cons (pv 4) pa_nil)) pe_int) (pe_op op_mul pe_int (pv 2))) pe_int))
        (pss_cons (ps_dput hu (pv 0) pe_str (pe_op op_modN (pe_callTy call_int1 (by rfl) mi (by decide +kernel) (pa_cons (pe_op op_add (pe_op op_pow (pv 5) pe_int) (pe_op op_mul pe_int (pv 2))) pa_nil)) (pe_op op_add (pe_op op_pow pe_int pe_int) pe_int)) rfl)
        (pss_one (ps_if (PW.pt (pw_and (pt_cmpR op_ge (pv 4) (pe_op op_pow pe_int pe_int) (nomark _)) (pw_and1 (pt_cmpR op_lt (pv 2) (pv 3) (nomark _))))) (pss_one (ps_dput hu (pv 0) pe_str (pe_op op_sub (pv 4) (pe_op op_pow pe_int pe_int)) rfl)) pss_nil)))))) pss_nil)
      (pss_by (tFin c m) (pss_cons (ps_asg (pe_tup (pa_cons (pe_op op_modN (pe_callTy call_int1 (by rfl) mi (by decide +kernel) (pa_cons (pe_dget hu (pv 0) pe_str (fun _ _ => rfl)) pa_nil)) (pv 1)) (pa_cons (pe_op op_fdivN (pe_dget hu (pv 0) pe_str (fun _ _ => rfl)) (pv 1)) pa_nil))) (pg_tup (n := 2) rfl (pgs_cons (pg_name (i := 6) scDraw.nd rfl (Or.inl rfl)) (pgs_cons (pg_sub (pv 0) pe_str (set_dict hu)) pgs_nil))))
      (pss_one (ps_ret (pv 6)))) (fun D σ H h => by
        obtain ⟨d, sp, r, o2, o3, o4, o5, rfl, h1, q⟩ := h
        refine ⟨_, rfl, d, _, rfl, gR h1, .inl ⟨_, rfl, _, rfl, _, _, rfl, rfl, hmn, ?_⟩⟩
        refine ⟨_, rfl, d, _, rfl, gR h1, _, rfl, _, _, rfl, rfl, ⟨hmn, hma⟩, by show 2 ≤ sizeLine; decide, fun t nt => ?_⟩
        have h2 := (same_new (o := .tup [.int (r.fmod m), .int (r.fdiv m)]) nt) _ _ h1
        refine ⟨t, _, rfl, .inl (.inl upd_same), rfl, _, _, rfl, _, _, rfl, _, rfl, d, _, rfl, uR h2, rfl, ?_⟩
        refine ⟨_, rfl, q _ (r.fdiv m) _ (fm r).1 (fm r).2 upd_same ((but_of (same_new nt)).trans But.upd)⟩))), ?_⟩
    obtain ⟨ns, sp, r, h1, h2, h3, h4, h5⟩ := p
    have ncd : c ≠ d := ne_of h2 h1 (fun z => by cases z)
    have fin : ∀ {o2 o3 o4 o5 : Option V} {s1 : Nat} {r1 : Int} {H1 : Hp}, H1 d = some (.dK (penKV c (s1 : Int) r1)) → H1 c = some (.lst (ns.map V.int)) → s1 ≤ n + 1 → But d H H1 → tFin c m ⟨fun _ _ => False, Q, fun _ _ => False, fun _ _ => False⟩ [some (.ref d), some (.int m), o2, o3, o4, o5, none] H1 := fun {o2 o3 o4 o5 s1 r1 H1} e1 e2 l b =>
      ⟨d, s1, r1, o2, o3, o4, o5, rfl, e1, fun j z H' j0 j1 e b' => q j H' j0 j1 ⟨ns, s1, z, e, b' _ _ e2 ncd, h3, h4, l⟩ (b.trans b')⟩
    refine ⟨_, rfl, d, _, rfl, gR h1, _, rfl, _, _, rfl, rfl, _, rfl, ?_⟩
    refine ite2 (fun _ => ?_) (fun _ => ?_)
    · -- spot, size
      have hl0 : (0 : Int) < ((ns.map V.int).length : Int) := by rw [List.length_map]; omega
      have hsp : (sp : Int) ≤ 1000000 := by omega
      refine ⟨_, rfl, d, _, rfl, gS h1, _, rfl, d, _, rfl, gC h1, c, _, rfl, .inl (.inl (.inl h2)), _, _, rfl, ?_⟩
      have fi := fmod_in (sp : Int) hl0
      obtain ⟨j, ej⟩ : ∃ j : Nat, (sp : Int).fmod ((ns.map V.int).length : Int) = (j : Int) := ⟨((sp : Int).fmod ((ns.map V.int).length : Int)).toNat, by omega⟩
      have hj : j < ns.length := by
        have z := fi.2
        rw [ej, List.length_map] at z
        omega
      -- cell, tape["spot"]
      refine ⟨_, rfl, d, _, rfl, gC h1, _, rfl, .inl ⟨_, rfl, _, rfl, _, _, rfl, rfl, by omega, c, _, _, .int ns[j], rfl, rfl, .inl (.inl h2), at_of (j := j) ej (by rw [List.getElem?_map, List.getElem?_eq_getElem hj]; rfl), ?_⟩⟩
      generalize ns[j] = z
      refine ⟨_, rfl, _, _, rfl, rfl, by show 2 ≤ sizeLine; decide, fun t nt => ?_⟩
      have st := same_new (o := .tup [.int z, .int ((sp : Int) + 1)]) nt
      have h1' := st _ _ h1
      have h2' := st _ _ h2
      have ut : (upd H t (.tup [.int z, .int ((sp : Int) + 1)])) t = some (.tup [.int z, .int ((sp : Int) + 1)]) := upd_same
      generalize upd H t (.tup [.int z, .int ((sp : Int) + 1)]) = Ht at st h1' h2' ut
      refine ⟨t, _, rfl, .inl (.inl ut), rfl, _, _, rfl, _, _, rfl, _, rfl, d, _, rfl, uS h1', rfl, ?_⟩
      have u1 : (upd Ht d (.dK (penKV c ((sp : Int) + 1) r))) d = some (.dK (penKV c ((sp : Int) + 1) r)) := upd_same
      have u2 : (upd Ht d (.dK (penKV c ((sp : Int) + 1) r))) c = some (.lst (ns.map V.int)) := by rw [upd_ne ncd]; exact h2'
      have b1 : But d H (upd Ht d (.dK (penKV c ((sp : Int) + 1) r))) := (but_of st).trans But.upd
      generalize upd Ht d (.dK (penKV c ((sp : Int) + 1) r)) = H1 at u1 u2 b1
      -- mixed
      refine ⟨_, rfl, .inl ⟨_, rfl, _, _, rfl, rfl, nzA, _, rfl, _, _, rfl, rfl, .inl ⟨by decide, by decide⟩, _, _, rfl, rfl, _, _, rfl, rfl, ?_⟩⟩
      have f0 := fmod_in z (m := 2305843009213693951) (by decide)
      obtain ⟨z1, e1⟩ : ∃ z1, z.fmod 2305843009213693951 + 52223 * (sp : Int) + 104729 = z1 := ⟨_, rfl⟩
      have a1 : z1.natAbs < 2 ^ 64 := by omega
      refine ⟨_, rfl, z1, _, congrArg V.int e1, rfl, ⟨by decide, by decide, a1⟩, _, rfl, _, _, rfl, rfl, .inl ⟨by decide, by decide⟩, _, _, rfl, rfl, .inl ⟨_, rfl, _, _, rfl, rfl, ⟨by decide, by decide, by decide⟩, _, _, rfl, rfl, _, _, rfl, rfl, nzB, ?_⟩⟩
      obtain ⟨z2, e2⟩ : ∃ z2, (z1 ^ (11 : Int).toNat + 31 * (sp : Int)).fmod (10 ^ (49 : Int).toNat + 9) = z2 := ⟨_, rfl⟩
      have w2 : DPut H1 d (.str "rest") (.int ((z1 ^ (11 : Int).toNat + 31 * (sp : Int)).fmod (10 ^ (49 : Int).toNat + 9))) (upd H1 d (.dK (penKV c ((sp : Int) + 1) z2))) := by
        rw [e2]
        exact uR u1
      refine ⟨_, rfl, d, upd H1 d (.dK (penKV c ((sp : Int) + 1) z2)), rfl, w2, ?_⟩
      clear w2 e2
      have v1 : (upd H1 d (.dK (penKV c ((sp : Int) + 1) z2))) d = some (.dK (penKV c ((sp : Int) + 1) z2)) := upd_same
      have v2 : (upd H1 d (.dK (penKV c ((sp : Int) + 1) z2))) c = some (.lst (ns.map V.int)) := by rw [upd_ne ncd]; exact u2
      have b2 : But d H (upd H1 d (.dK (penKV c ((sp : Int) + 1) z2))) := b1.trans But.upd
      generalize upd H1 d (.dK (penKV c ((sp : Int) + 1) z2)) = H2 at v1 v2 b2
      refine ⟨_, rfl, _, _, rfl, rfl, ⟨by decide, by decide, by decide⟩, _, _, rfl, rfl, _, rfl, ite2 (fun _ => ⟨_, rfl, _, rfl, _, _, rfl, rfl, _, rfl, ite2 (fun _ => ?_) (fun _ => ?_)⟩) (fun _ => ?_)⟩
      · refine ⟨_, rfl, _, _, rfl, rfl, ⟨by decide, by decide, by decide⟩, _, _, rfl, rfl, _, rfl, d, _, rfl, uR v1, ?_⟩
        exact fin (s1 := sp + 1) upd_same (by rw [upd_ne ncd]; exact v2) (by omega) (b2.trans But.upd)
      · exact fin (s1 := sp + 1) v1 v2 (by omega) b2
      · exact fin (s1 := sp + 1) v1 v2 (by omega) b2
    · exact fin h1 h2 (by omega) (But.refl d H)
end
end RL

namespace RL
open PySem L2 SX AddrMath VA
/-- no table of code objects -/
def notT : HO → Bool
  | .tbl _ => false
  | _ => true
def isT : Option HO → Bool
  | some (.tbl _) => true
  | _ => false
theorem isT_of {o : HO} (h : notT o = true) : isT (some o) = false := by
  cases o <;> first | rfl | cases h
theorem notT_of {o : HO} (h : ¬ isT (some o) = true) : notT o = true := by
  cases o <;> first | rfl | exact absurd rfl h
/-- the part of a heap that lies outside, without tables -/
noncomputable def rmB (B : Addr → Prop) (H : Hp) : Hp := fun a => open Classical in if B a ∨ isT (H a) = true then none else H a
theorem rm_in {B : Addr → Prop} {H : Hp} {a : Addr} (h : B a) : rmB B H a = none := if_pos (.inl h)
theorem rm_out {B : Addr → Prop} {H : Hp} {a : Addr} {o : HO} (h : ¬ B a) (e : H a = some o) (n : notT o = true) : rmB B H a = some o := by
  unfold rmB
  rw [if_neg (by rw [e, isT_of n]; exact fun z => z.elim h (fun z => by cases z))]
  exact e
theorem rm_has {B : Addr → Prop} {H : Hp} {a : Addr} {o : HO} (h : rmB B H a = some o) : ¬ B a ∧ H a = some o ∧ notT o = true := by
  unfold rmB at h
  by_cases b : B a ∨ isT (H a) = true
  · rw [if_pos b] at h
    cases h
  · rw [if_neg b] at h
    exact ⟨fun z => b (.inl z), h, notT_of fun z => b (.inr (by rw [h]; exact z))⟩
theorem rm_le {B : Addr → Prop} {H : Hp} : Same (rmB B H) H := fun a o h => (rm_has h).2.1
theorem rm_same {B : Addr → Prop} {H H' : Hp} (s : Same H H') : Same (rmB B H) (rmB B H') := fun a o h => by
  obtain ⟨b, e, n⟩ := rm_has h
  exact rm_out b (s a o e) n
theorem rm_but {B : Addr → Prop} {H H' : Hp} {d : Addr} (hd : B d) (s : But d H H') : Same (rmB B H) (rmB B H') := fun a o h => by
  obtain ⟨b, e, n⟩ := rm_has h
  exact rm_out b (s a o e fun z => b (by rw [z]; exact hd)) n
theorem rm_mono {B B' : Addr → Prop} {H : Hp} (h : ∀ a, B a → B' a) : Same (rmB B' H) (rmB B H) := fun a o e => by
  obtain ⟨b, e', n⟩ := rm_has e
  exact rm_out (fun z => b (h a z)) e' n
theorem TapeAt.put {H : Hp} {d c a : Addr} {n : Nat} {o : HO} (p : TapeAt H d c n) (h1 : a ≠ d) (h2 : a ≠ c) : TapeAt (upd H a o) d c n := by
  obtain ⟨ns, k, r, e1, e2, h3⟩ := p
  exact ⟨ns, k, r, by rw [upd_ne h1.symm]; exact e1, by rw [upd_ne h2.symm]; exact e2, h3⟩
/-- items that are drawn one by one -/
theorem lc_tape {rel : V → Hp → Prop} {d c D : Addr} {n N j m : Nat} {te : TE} {σ : L2.St} {vs : List Nat} {H1 : Hp} {Qd : Hp → Prop} (mono : ∀ y G G', Same G G' → rel y G → rel y G') (p : TapeAt H1 d c n) (nD : H1 D = none) (few : N ≤ 100)
    (hw : ∀ x, wipe ((wipe σ vs).set j (some x)) vs = wipe σ vs)
    (step : ∀ i H', i < N → But d H1 H' → TapeAt H' d c (n + i * m) → ∀ R : VK, (∀ y H'', rel y (rmB (fun a => H' a ≠ none) H'') → TapeAt H'' d c (n + i * m + m) → But d H' H'' → R y H'') → te ((wipe σ vs).set j (some (.int (0 + (i : Int))))) H' R)
    (fin : ∀ (ys : List V) H', ys.length = N → (∀ y ∈ ys, rel y (rmB (fun a => H1 a ≠ none ∨ a = D) H')) → H' D = some (.lst ys) → TapeAt H' d c (n + N * m) → But d H1 H' → Qd H') :
    ∃ W : Nat → Nat → Hp → Prop, (∃ m, W 0 m (upd H1 D (.lst []))) ∧ ∀ i m H, W i m H → ((Itr 0 N).stop i H ∧ Qd H) ∨ ((Itr 0 N).go i H ∧ ∃ Nx : Hp → Prop, (∀ H', Nx H' → ∃ m', m' < m ∧ W (i + 1) m' H') ∧ ∀ x H', (Itr 0 N).yld i H x H' → gName j x (wipe σ vs) H' fun σ2 H2 => wipe σ2 vs = wipe σ vs ∧ tYes σ2 H2 fun b H3 =>
        if b = true then te σ2 H3 fun y H4 => ∃ acc, H4 D = some (.lst acc) ∧ acc.length < sizeLine ∧ Nx (upd H4 D (.lst (acc ++ [y]))) else Nx H3) := by
  have hDd : D ≠ d := fun z => p.pen.ne (by rw [← z]; exact nD)
  have hDc : D ≠ c := fun z => p.pen.neC (by rw [← z]; exact nD)
  refine lc_range (lo := 0) (n := N) (fun i H' => TapeAt H' d c (n + i * m) ∧ But d H1 H' ∧ ∃ ys : List V, H' D = some (.lst ys) ∧ ys.length = i ∧ ∀ y ∈ ys, rel y (rmB (fun a => H1 a ≠ none ∨ a = D) H'))
    ⟨(p.keep (same_new nD)).mono (by omega), but_of (same_new nD), [], upd_same, rfl, fun e he => by cases he⟩ ?_ ?_
  · rintro i H' hi ⟨p2, b2, ys, hys, hl, ho⟩
    refine ⟨hw _, no_test fun H2 s2 => ?_⟩
    rw [if_pos rfl]
    refine step i H2 hi (b2.trans (but_of s2)) (p2.keep s2) _ fun y H3 hk p3 b3 => ?_
    have h2 := s2 _ _ hys
    have h3 := b3 D _ h2 hDd
    have live : ∀ a, (H1 a ≠ none ∨ a = D) → H2 a ≠ none := by
      rintro a (h | rfl)
      · by_cases e : a = d
        · rw [e]
          exact (p2.keep s2).pen.ne
        · cases q : H1 a with
          | none => exact absurd q h
          | some o =>
            rw [s2 _ _ (b2 a o q e)]
            exact fun z => nomatch z
      · rw [h2]
        exact fun z => nomatch z
    have up : Same (rmB (fun a => H1 a ≠ none ∨ a = D) H3) (rmB (fun a => H1 a ≠ none ∨ a = D) (upd H3 D (.lst (ys ++ [y])))) := fun a o e => by
      obtain ⟨b, e', n⟩ := rm_has e
      exact rm_out b (by rw [upd_ne fun z => b (.inr z)]; exact e') n
    refine ⟨_, h3, size_lt (by omega), ?_, ?_, ys ++ [y], upd_same, ?_, ?_⟩
    · rw [Nat.add_mul, Nat.one_mul, ← Nat.add_assoc]
      exact p3.put hDd hDc
    · exact ((b2.trans (but_of s2)).trans b3).put nD
    · rw [List.length_append, hl]
      rfl
    · intro u hu
      rcases List.mem_append.mp hu with h | h
      · exact mono _ _ _ ((rm_same s2).trans ((rm_but (.inl p.pen.ne) b3).trans up)) (ho u h)
      · rw [List.mem_singleton.mp h]
        exact mono _ _ _ ((rm_mono live).trans up) hk
  · rintro H' ⟨p2, b2, ys, hys, hl, ho⟩
    exact fin ys H' hl ho hys p2 b2
section
variable {P : Program} {w : World} {K : PySem.W.Frag} {mg : Str → Option Value} {base : Heap}
theorem tape_ne {H : Hp} {a d c : Addr} {xs : List V} {n : Nat} (h : H a = some (.lst xs)) (p : TapeAt H d c n) : a ≠ d := by
  obtain ⟨ns, s, r, h1, _⟩ := p
  exact ne_of h h1 (fun z => by cases z)
/-! ### _law_pick: slots tape 0, some 1 -/
abbrev sPick : Stmt := top 19
def spPick : Sp := fun vs H Q _ => ∃ (d c a : Addr) (n : Nat) (xs : List V), vs = [.ref d, .ref a] ∧ TapeAt H d c n ∧ n ≤ 1000000 ∧ H a = some (.lst xs) ∧ 0 < xs.length ∧ xs.length < 1000000 ∧ ∀ (v : V) (H' : Hp), v ∈ xs → TapeAt H' d c (n + 1) → But d H H' → Q v H'
theorem scPick : FnScope ["_law_tape", "_law_some"] ["_law_tape", "_law_some"] (defScope sPick) := ⟨rfl, rfl, rfl, by decide +kernel, rfl, by decide +kernel, by decide +kernel⟩
theorem ok_pick {f : Addr} {fd : FuncData} (F : Fun K "_law_pick" "_law_pick" sPick f fd) (draw : Own P w K mg base CX0 1 "_law_draw" ["_law_tape", "_law_many"] spDraw) (ml : mg "len" = none) : FnOk P w K mg base CX0 2 f fd ["_law_tape", "_law_some"] spPick := by
  refine F.ok scPick (fun vs H Q E h => ?_) (fun cdv A outer s H vs Q E hr h => ?_)
  · obtain ⟨d, c, a, n, xs, rfl, _⟩ := h
    rfl
  · obtain ⟨d, c, a, n, xs, rfl, p, hn, hx, h0, h1, q⟩ := h
    refine ⟨_, pss_one (ps_ret (pe_ix ix_seq (pv 1) (pe_call draw.g hr rfl draw.mg draw.kp draw.b .nil pass0 (pa_cons (pv 0) (pa_cons (pe_callB call_len (by rfl) ml (by decide +kernel) (pa_cons (pv 1) pa_nil)) pa_nil))) (fun _ _ => rfl))), ?_⟩
    refine ⟨_, rfl, _, rfl, _, rfl, _, _, rfl, .inl ⟨_, .inl (.inl hx), rfl⟩, d, c, n, (xs.length : Int), rfl, p, hn, by omega, by omega, fun j H' hj0 hj1 p' b => ?_⟩
    have hx' := b a _ hx (tape_ne hx p)
    obtain ⟨k, rfl⟩ : ∃ k : Nat, j = (k : Int) := ⟨j.toNat, by omega⟩
    have hk : k < xs.length := by omega
    exact .inl ⟨a, xs, _, xs[k], rfl, rfl, .inl (.inl hx'), atI_nat (List.getElem?_eq_getElem hk), q _ _ (List.getElem_mem hk) p' b⟩
end
end RL

namespace RL
open PySem L2 SX AddrMath VA
/-! ## written pieces: new values over the words (slot 2) and the number (slot 3) -/
def okWs (ws : List Str) (k : Int) : Prop := ws.all (fun z => isW z.cps.toList) = true ∧ 1 ≤ ws.length ∧ ws.length ≤ 8 ∧ 0 ≤ k ∧ k ≤ mostTimes
structure Nw (B : Addr → Prop) (ws : List Str) (k : Int) (σ : L2.St) (H : Hp) : Prop where
  ok : okWs ws k
  live : ∀ a, B a → H a ≠ none
  wd : ∃ a, σ[2]? = some (some (.ref a)) ∧ rmB B H a = some (.lst (sV ws))
  tm : σ[3]? = some (some (.int k))
theorem live_same {B : Addr → Prop} {H H' : Hp} (h : ∀ a, B a → H a ≠ none) (s : Same H H') : ∀ a, B a → H' a ≠ none := fun a b => by
  cases q : H a with
  | none => exact absurd q (h a b)
  | some o =>
    rw [s _ _ q]
    exact fun z => nomatch z
theorem Nw.same {B : Addr → Prop} {ws : List Str} {k : Int} {σ : L2.St} {H H' : Hp} (h : Nw B ws k σ H) (s : Same H H') : Nw B ws k σ H' := by
  obtain ⟨a, e1, e2⟩ := h.wd
  exact ⟨h.ok, live_same h.live s, ⟨a, e1, rm_same s _ _ e2⟩, h.tm⟩
theorem new_rm {B : Addr → Prop} {H : Hp} {p : Addr} {o : HO} (l : ∀ a, B a → H a ≠ none) (np : H p = none) (n : notT o = true := by rfl) : rmB B (upd H p o) p = some o := rm_out (fun z => l p z np) upd_same n
def tN (K : PySem.W.Frag) (d : List Str → Int → PyData) : TE := fun σ H Q => ∃ B ws k, Nw B ws k σ H ∧ ∀ v H', Dp K (rmB B H') v (d ws k) → Same H H' → Q v H'
def tNs (K : PySem.W.Frag) (ds : List Str → Int → List PyData) : TA := fun σ H Q => ∃ B ws k, Nw B ws k σ H ∧ ∀ vs H', DpAll K (rmB B H') vs (ds ws k) → Same H H' → Q vs H'
def tP (K : PySem.W.Frag) (b : Bool) : TE := fun σ H Q => ∃ B ws k, Nw B ws k σ H ∧ ∀ v H' x, Px K (rmB B H') v x → isPieceD x = b → Same H H' → Q v H'
def tPs (K : PySem.W.Frag) (b : Bool) (n : Nat) : TA := fun σ H Q => ∃ B ws k, Nw B ws k σ H ∧ ∀ vs H', (∀ v ∈ vs, ∃ x, Px K (rmB B H') v x ∧ isPieceD x = b) → vs.length = n → Same H H' → Q vs H'
def tPL (K : PySem.W.Frag) (b : Bool) (n : Nat) : TE := fun σ H Q => ∃ B ws k, Nw B ws k σ H ∧ ∀ p vs H', H' p = some (.lst vs) → (∀ v ∈ vs, ∃ x, Px K (rmB B H') v x ∧ isPieceD x = b) → vs.length = n → Same H H' → H p = none → Q (.ref p) H'
def wordsD (ws : List Str) : PyData := .list (ws.map PyData.str)
theorem dps_strs {K : PySem.W.Frag} {H : Hp} : ∀ ws : List Str, DpAll K H (sV ws) (ws.map PyData.str)
  | [] => .nil
  | z :: r => .cons (.str z) (dps_strs r)
section
variable {X : Cx} {K : PySem.W.Frag}
theorem n_c {e : Expr} {v : V} {d : PyData} (h : PE X e (tC v)) (k : ∀ H, Dp K H v d) : PE X e (tN K fun _ _ => d) :=
  pe_by _ h fun σ H Q ⟨B, ws, t, n, w⟩ => w v H (k _) (Same.refl H)
theorem n_non {j : Nat} {pos : Pos} : PE X (.Constant .none j pos) (tN K fun _ _ => .none) := n_c pe_non (fun _ => .non)
theorem n_bl {b : Bool} {j : Nat} {pos : Pos} : PE X (.Constant (.bool b) j pos) (tN K fun _ _ => .bool b) := n_c pe_bl (fun _ => .bl b)
theorem n_int {i : Int} {j : Nat} {pos : Pos} : PE X (.Constant (.int i) j pos) (tN K fun _ _ => .int i) := n_c pe_int (fun _ => .int i)
theorem n_str {x : Str} {j : Nat} {pos : Pos} : PE X (.Constant (.str x) j pos) (tN K fun _ _ => .str x) := n_c pe_str (fun _ => .str x)
theorem n_neg {i : Int} {j : Nat} {pos p2 : Pos} : PE X (.UnaryOp .USub (.Constant (.int i) j p2) pos) (tN K fun _ _ => .int (-i)) :=
  pe_by _ (pe_un un_neg pe_int) fun σ H Q ⟨B, ws, t, n, w⟩ => ⟨i, rfl, w _ H (.int _) (Same.refl H)⟩
theorem n_words {e : Expr} (h : PE X e (tVar 2)) : PE X e (tN K fun ws _ => wordsD ws) := pe_by _ h fun σ H Q ⟨B, ws, t, n, w⟩ => by
  obtain ⟨a, e1, e2⟩ := n.wd
  exact ⟨_, e1, w _ H (.lst (.inl (.inl e2)) (dps_strs ws)) (Same.refl H)⟩
theorem n_times {e : Expr} (h : PE X e (tVar 3)) : PE X e (tN K fun _ t => .int t) := pe_by _ h fun σ H Q ⟨B, ws, t, n, w⟩ => ⟨_, n.tm, w _ H (.int _) (Same.refl H)⟩
theorem ns_nil : PA X [] (tNs K fun _ _ => []) := ⟨fun cp pn s σ H Q J ⟨B, ws, t, n, w⟩ => pa_nil.run cp pn s σ H Q J (w [] H .nil (Same.refl H))⟩
theorem ns_cons {e : Expr} {es : List Expr} {d : List Str → Int → PyData} {ds : List Str → Int → List PyData} (h : PE X e (tN K d)) (t : PA X es (tNs K ds)) (hs : starEach (e :: es) X.env = (false, eval e X.env) :: starEach es X.env := by rfl) : PA X (e :: es) (tNs K fun ws k => d ws k :: ds ws k) :=
  pa_by _ (pa_cons h t hs) fun σ H Q ⟨B, ws, k, n, w⟩ => ⟨B, ws, k, n, fun v H1 hv s1 => ⟨B, ws, k, n.same s1, fun vs H2 hvs s2 => w (v :: vs) H2 (.cons (dp_same (rm_same s2) hv) hvs) (s1.trans s2)⟩⟩
theorem n_tup {x1} {es : List Expr} {ds : List Str → Int → List PyData} {pos : Pos} (t : PA X es (tNs K ds)) (few : ∀ ws k, (ds ws k).length ≤ 1000) : PE X (.Tuple es x1 pos) (tN K fun ws k => .tuple (ds ws k)) :=
  pe_by _ (pe_tup t) fun σ H Q ⟨B, ws, k, n, w⟩ => ⟨B, ws, k, n, fun vs H1 hv s1 => ⟨Nat.le_of_lt (small1000 (by rw [dps_len hv]; exact few ws k)), fun p np =>
    w (.ref p) _ (.tup (.inl (.inl (new_rm (n.same s1).live np))) (dps_same (rm_same (same_new np)) hv)) (s1.trans (same_new np))⟩⟩
theorem n_lst {es : List Expr} {ds : List Str → Int → List PyData} {pos : Pos} (t : PA X es (tNs K ds)) (few : ∀ ws k, (ds ws k).length ≤ 1000) : PE X (.List es pos) (tN K fun ws k => .list (ds ws k)) :=
  pe_by _ (pe_lst t) fun σ H Q ⟨B, ws, k, n, w⟩ => ⟨B, ws, k, n, fun vs H1 hv s1 => ⟨Nat.le_of_lt (small1000 (by rw [dps_len hv]; exact few ws k)), fun p np =>
    w (.ref p) _ (.lst (.inl (.inl (new_rm (n.same s1).live np))) (dps_same (rm_same (same_new np)) hv)) (s1.trans (same_new np))⟩⟩
theorem p_of {e : Expr} {d : List Str → Int → PyData} {b : Bool} (h : PE X e (tN K d)) (ok : ∀ ws k, okWs ws k → okD 8 (d ws k) = true ∧ isPieceD (d ws k) = b) : PE X e (tP K b) :=
  pe_by _ h fun σ H Q ⟨B, ws, k, n, w⟩ => ⟨B, ws, k, n, fun v H' hv s => w v H' _ (.inl (.inl ⟨hv, (ok ws k n.ok).1⟩)) (ok ws k n.ok).2 s⟩
theorem ps_nil {b : Bool} : PA X [] (tPs K b 0) := ⟨fun cp pn s σ H Q J ⟨B, ws, t, n, w⟩ => pa_nil.run cp pn s σ H Q J (w [] H (fun v hv => by cases hv) rfl (Same.refl H))⟩
theorem ps_cons {e : Expr} {es : List Expr} {b : Bool} {m : Nat} (h : PE X e (tP K b)) (t : PA X es (tPs K b m)) (hs : starEach (e :: es) X.env = (false, eval e X.env) :: starEach es X.env := by rfl) : PA X (e :: es) (tPs K b (m + 1)) :=
  pa_by _ (pa_cons h t hs) fun σ H Q ⟨B, ws, k, n, w⟩ => ⟨B, ws, k, n, fun v H1 x hv hb s1 => ⟨B, ws, k, n.same s1, fun vs H2 hvs hl s2 => w (v :: vs) H2 (fun u hu => by
    rcases List.mem_cons.mp hu with e | e
    · rw [e]
      exact ⟨x, hv.same (rm_same s2), hb⟩
    · exact hvs u e) (by rw [List.length_cons, hl]) (s1.trans s2)⟩⟩
theorem p_lst {es : List Expr} {b : Bool} {m : Nat} {pos : Pos} (t : PA X es (tPs K b m)) (few : m ≤ 1000) : PE X (.List es pos) (tPL K b m) :=
  pe_by _ (pe_lst t) fun σ H Q ⟨B, ws, k, n, w⟩ => ⟨B, ws, k, n, fun vs H1 hv hl s1 => ⟨Nat.le_of_lt (small1000 (by rw [hl]; exact few)), fun p np =>
    w p vs _ upd_same (fun v m => by
      obtain ⟨x, hx, hb⟩ := hv v m
      exact ⟨x, hx.same (rm_same (same_new np)), hb⟩) hl (s1.trans (same_new np)) (s1.free np)⟩⟩
theorem n_tupW {e : Expr} (h : PE X e (tCB (fun xs H Q => ∃ (p : Addr) (ys : List V), xs = [V.ref p] ∧ ((SqL K H p ys ∧ ∀ (l : Addr), H l = none → Q (V.ref l) (upd H l (HO.tup ys))) ∨ SqT K H p ys ∧ Q (V.ref p) H)) (tCons (tVar 2) tNil))) : PE X e (tN K fun ws _ => .tuple (ws.map PyData.str)) := pe_by _ h fun σ H Q ⟨B, ws, t, n, w⟩ => by
  obtain ⟨a, e1, e2⟩ := n.wd
  exact ⟨_, e1, a, _, rfl, .inl ⟨.inl (.inl (rm_le _ _ e2)), fun l nl => w (.ref l) _ (.tup (.inl (.inl (new_rm n.live nl))) (dps_strs ws)) (same_new nl)⟩⟩
theorem n_mul {e : Expr} (h : PE X e (tOp rRep (tVar 2) (tC (.int 9)))) : PE X e (tN K fun ws _ => .list ((List.replicate 9 (ws.map PyData.str)).flatten)) := pe_by _ h fun σ H Q ⟨B, ws, t, n, w⟩ => by
  obtain ⟨a, e1, e2⟩ := n.wd
  have l := n.ok.2.2.1
  refine ⟨_, e1, a, 9, sV ws, rfl, rfl, rm_le _ _ e2, by decide, by decide, size_ok (by rw [List.length_map]; show ws.length * 9 ≤ _; omega), fun p np => w (.ref p) _ (.lst (.inl (.inl (new_rm n.live np))) ?_) (same_new np)⟩
  have ee : ((List.replicate (9 : Int).toNat (sV ws)).flatten) = sV ((List.replicate 9 ws).flatten) := by
    show _ = List.map V.str _
    rw [List.map_flatten, List.map_replicate]
    rfl
  have ed : ((List.replicate 9 (ws.map PyData.str)).flatten) = ((List.replicate 9 ws).flatten).map PyData.str := by
    rw [List.map_flatten, List.map_replicate]
  rw [ee, ed]
  exact dps_strs _
theorem dps_cat {H : Hp} : ∀ {xs ys : List V} {ds es : List PyData}, DpAll K H xs ds → DpAll K H ys es → DpAll K H (xs ++ ys) (ds ++ es)
  | _, _, _, _, .nil, h => h
  | _, _, _, _, .cons a r, h => .cons a (dps_cat r h)
theorem n_cat {e : Expr} (h : PE X e (tOp rCat (tVar 2) (tLst (tCons (tC (.str "abcdefghi")) tNil)))) : PE X e (tN K fun ws _ => .list (ws.map PyData.str ++ [.str "abcdefghi"])) := pe_by _ h fun σ H Q ⟨B, ws, t, n, w⟩ => by
  obtain ⟨a, e1, e2⟩ := n.wd
  have l := n.ok.2.2.1
  refine ⟨_, e1, by show 1 ≤ sizeLine; decide, fun b nb => ?_⟩
  have s1 := same_new (o := .lst [.str "abcdefghi"]) nb
  refine ⟨a, b, sV ws, _, rfl, rfl, s1 _ _ (rm_le _ _ e2), upd_same, size_ok (by rw [List.length_map]; show ws.length + 1 ≤ _; omega), fun p np => w (.ref p) _ (.lst (.inl (.inl (new_rm (n.same s1).live np))) (dps_cat (dps_strs ws) (.cons (.str _) .nil))) (s1.trans (same_new np))⟩
theorem n_cut {e : Expr} (h : PE X e (tOp rCat (tSl (rSlL K) (tVar 2) tNoPart (tPart (tC (.int 7)))) (tLst (tCons (tC (.int 1)) tNil)))) : PE X e (tN K fun ws _ => .list ((ws.take 7).map PyData.str ++ [.int 1])) := pe_by _ h fun σ H Q ⟨B, ws, t, n, w⟩ => by
  obtain ⟨a, e1, e2⟩ := n.wd
  have l := n.ok.2.2.1
  refine ⟨_, e1, 7, rfl, a, sV ws, rfl, .inl (.inl (rm_le _ _ e2)), fun c nc => ?_⟩
  have ecut : cutV (sV ws) none (some 7) = sV (ws.take 7) := by
    rw [show (7 : Int) = ((7 : Nat) : Int) from rfl, cut_to]
    show _ = List.map V.str _
    rw [List.map_take]
  rw [ecut]
  have s0 := same_new (o := .lst (sV (ws.take 7))) nc
  have u0 : (upd H c (.lst (sV (ws.take 7)))) c = some (.lst (sV (ws.take 7))) := upd_same
  generalize upd H c (.lst (sV (ws.take 7))) = H1 at s0 u0
  refine ⟨by show 1 ≤ sizeLine; decide, fun b nb => ?_⟩
  have s1 := same_new (o := .lst [.int 1]) nb
  refine ⟨c, b, sV (ws.take 7), _, rfl, rfl, s1 _ _ u0, upd_same, size_ok (by rw [List.length_map, List.length_take]; show min 7 ws.length + 1 ≤ _; omega), fun p np => w (.ref p) _ (.lst (.inl (.inl (new_rm (n.same (s0.trans s1)).live np))) (dps_cat (dps_strs _) (.cons (.int _) .nil))) ((s0.trans s1).trans (same_new np))⟩
theorem n_more {e : Expr} (h : PE X e (tOp (rI0 fun i j => V.int (i + j)) (tOp (rI CPow fun i j => V.int (i ^ j.toNat)) (tC (.int 10)) (tC (.int 30))) (tC (.int 1)))) : PE X e (tN K fun _ _ => .int (10 ^ (30 : Int).toNat + 1)) := pe_by _ h fun σ H Q ⟨B, ws, t, n, w⟩ => by
  exact ⟨_, _, rfl, rfl, ⟨by decide, by decide, by decide⟩, _, _, rfl, rfl, w _ H (.int _) (Same.refl H)⟩
theorem p_dict {e : Expr} (h : PE X e (tTup (tCons tDNewK (tCons (tC (.int 1)) tNil)))) : PE X e (tP K false) := pe_by _ h fun σ H Q ⟨B, ws, k, n, w⟩ => fun p np => by
  have s1 := same_new (o := .dK []) np
  refine ⟨by show 2 ≤ sizeLine; decide, fun t nt => ?_⟩
  have s2 := same_new (o := .tup [.ref p, .int 1]) nt
  exact w (.ref t) _ _ (.inr ⟨t, p, [], rfl, .inl (.inl (new_rm (n.same s1).live nt)), rm_same s2 _ _ (new_rm n.live np), rfl⟩) rfl (s1.trans s2)
end
end RL

namespace RL
open PySem L2 SX AddrMath VA
theorem f1 {a : PyData} : [a].length ≤ 1000 := by show 1 ≤ 1000; decide
theorem f2 {a b : PyData} : [a, b].length ≤ 1000 := by show 2 ≤ 1000; decide
theorem f3 {a b c : PyData} : [a, b, c].length ≤ 1000 := by show 3 ≤ 1000; decide
theorem ok_word {z : Str} (h : isW z.cps.toList = true) (n : Nat) : okD n (.str z) = true := by
  have hz := h
  have hl := word_len hz
  rw [okD, Bool.and_eq_true, decide_eq_true_eq]
  refine ⟨by omega, ?_⟩
  unfold PyData.strOk
  rw [← Array.all_toList, List.all_eq_true]
  intro c hc
  have := (isW_iff.mp hz).2.2 c hc
  unfold isL at this
  rw [Bool.and_eq_true, decide_eq_true_eq, decide_eq_true_eq] at this
  exact decide_eq_true (by omega)
theorem ok_mem {ws : List Str} (h : ws.all (fun z => isW z.cps.toList) = true) (n : Nat) : ∀ d ∈ ws.map PyData.str, okD n d = true := fun d hd => by
  obtain ⟨z, hz, rfl⟩ := List.mem_map.mp hd
  exact ok_word (List.all_eq_true.mp h z hz) n
theorem ok_wl {ws : List Str} (h : ws.all (fun z => isW z.cps.toList) = true) (l : ws.length ≤ 1000) : okD 7 (.list (ws.map PyData.str)) = true ∧ okD 7 (.tuple (ws.map PyData.str)) = true := ok_seq (n := 6) (by rw [List.length_map]; exact l) (ok_mem h 6)
theorem okt1 {a : PyData} (ha : okD 7 a = true) : okD 8 (.tuple [a]) = true := (ok_seq (n := 7) f1 fun e he => by
  simp only [List.mem_cons, List.not_mem_nil, or_false] at he
  rcases he with rfl
  exact ha).2
theorem okt2 {a b : PyData} (ha : okD 7 a = true) (hb : okD 7 b = true) : okD 8 (.list [a, b]) = true ∧ okD 8 (.tuple [a, b]) = true := ok_seq (n := 7) f2 fun e he => by
  simp only [List.mem_cons, List.not_mem_nil, or_false] at he
  rcases he with rfl | rfl
  · exact ha
  · exact hb
theorem okt3 {a b c : PyData} (ha : okD 7 a = true) (hb : okD 7 b = true) (hc : okD 7 c = true) : okD 8 (.tuple [a, b, c]) = true := (ok_seq (n := 7) f3 fun e he => by
  simp only [List.mem_cons, List.not_mem_nil, or_false] at he
  rcases he with rfl | rfl | rfl
  · exact ha
  · exact hb
  · exact hc).2
theorem ok_i {k : Int} : okD 7 (.int k) = true := by rw [okD]
theorem ok_b {k : Bool} : okD 7 (.bool k) = true := by rw [okD]
theorem all_wd {ws : List Str} (h : ws.all (fun z => isW z.cps.toList) = true) : (ws.map PyData.str).all isWordD = true := by
  rw [List.all_map, List.all_eq_true]
  exact fun z hz => List.all_eq_true.mp h z hz
theorem seg_words {ws : List Str} {k : Int} (h : okWs ws k) : isSegD (.list (ws.map PyData.str)) = true ∧ isSegD (.tuple (ws.map PyData.str)) = true := by
  obtain ⟨h1, h2, h3, _⟩ := h
  have e : ((true && (ws.map PyData.str).all isWordD) && (decide (1 ≤ (ws.map PyData.str).length) && decide ((ws.map PyData.str).length ≤ 8))) = true := by
    rw [all_wd h1, List.length_map, decide_eq_true h2, decide_eq_true h3]
    rfl
  exact ⟨e, e⟩
theorem time_ok {ws : List Str} {k : Int} (h : okWs ws k) : isTimesD (.int k) = true := by
  show (decide (0 ≤ k) && decide (k ≤ mostTimes)) = true
  rw [decide_eq_true h.2.2.2.1, decide_eq_true h.2.2.2.2]
  rfl
theorem wl7 {ws : List Str} {k : Int} (h : okWs ws k) : okD 7 (wordsD ws) = true := (ok_wl h.1 (by have := h.2.2.1; omega)).1
theorem sd1 (ws : List Str) (k : Int) (h : okWs ws k) : okD 8 (.tuple [wordsD ws, .int k]) = true ∧ isPieceD (.tuple [wordsD ws, .int k]) = true :=
  ⟨(okt2 (wl7 h) ok_i).2, by show (isSegD _ && isTimesD _) = true; rw [time_ok h, show isSegD (wordsD ws) = true from (seg_words h).1]; rfl⟩
theorem sd2 (ws : List Str) (k : Int) (h : okWs ws k) : okD 8 (.tuple [.tuple (ws.map PyData.str), .int k]) = true ∧ isPieceD (.tuple [.tuple (ws.map PyData.str), .int k]) = true :=
  ⟨(okt2 (ok_wl h.1 (by have := h.2.2.1; omega)).2 ok_i).2, by show (isSegD _ && isTimesD _) = true; rw [time_ok h, (seg_words h).2]; rfl⟩
theorem sd3 (ws : List Str) (k : Int) (h : okWs ws k) : okD 8 (.tuple [.list ((List.replicate 9 (ws.map PyData.str)).flatten), .int 1]) = true ∧ isPieceD (.tuple [.list ((List.replicate 9 (ws.map PyData.str)).flatten), .int 1]) = false := by
  obtain ⟨h1, h2, h3, _⟩ := h
  have l : ((List.replicate 9 (ws.map PyData.str)).flatten).length = 9 * ws.length := by simp; omega
  refine ⟨(okt2 (ok_seq (n := 6) (by omega) fun d hd => ?_).1 ok_i).2, ?_⟩
  · obtain ⟨l', m, hd⟩ := List.mem_flatten.mp hd
    rw [List.eq_of_mem_replicate m] at hd
    exact ok_mem h1 6 d hd
  · have e : decide (((List.replicate 9 (ws.map PyData.str)).flatten).length ≤ 8) = false := decide_eq_false (by omega)
    show ((_ && (_ && decide (((List.replicate 9 (ws.map PyData.str)).flatten).length ≤ 8))) && _) = false
    rw [e, Bool.and_false, Bool.and_false]
    rfl
theorem sd4 (ws : List Str) (k : Int) (h : okWs ws k) : okD 8 (.tuple [.list (ws.map PyData.str ++ [PyData.str "abcdefghi"]), .int 1]) = true ∧ isPieceD (.tuple [.list (ws.map PyData.str ++ [PyData.str "abcdefghi"]), .int 1]) = false := by
  obtain ⟨h1, h2, h3, _⟩ := h
  refine ⟨(okt2 (ok_seq (n := 6) (by rw [List.length_append, List.length_map]; show ws.length + 1 ≤ 1000; omega) fun d hd => ?_).1 ok_i).2, ?_⟩
  · rcases List.mem_append.mp hd with hd | hd
    · exact ok_mem h1 6 d hd
    · rw [List.mem_singleton.mp hd]
      decide +kernel
  · show (((_ && (ws.map PyData.str ++ [PyData.str "abcdefghi"]).all isWordD) && _) && _) = false
    rw [List.all_append, show ([PyData.str "abcdefghi"].all isWordD) = false by decide +kernel, Bool.and_false, Bool.and_false]
    rfl
theorem sd5 (ws : List Str) (k : Int) (h : okWs ws k) : okD 8 (.tuple [.list ((ws.take 7).map PyData.str ++ [PyData.int 1]), .int 1]) = true ∧ isPieceD (.tuple [.list ((ws.take 7).map PyData.str ++ [PyData.int 1]), .int 1]) = false := by
  obtain ⟨h1, h2, h3, _⟩ := h
  refine ⟨(okt2 (ok_seq (n := 6) (by rw [List.length_append, List.length_map, List.length_take]; show min 7 ws.length + 1 ≤ 1000; omega) fun d hd => ?_).1 ok_i).2, ?_⟩
  · rcases List.mem_append.mp hd with hd | hd
    · obtain ⟨z, hz, rfl⟩ := List.mem_map.mp hd
      exact ok_word (List.all_eq_true.mp h1 z (List.mem_of_mem_take hz)) 6
    · rw [List.mem_singleton.mp hd]
      rw [okD]
  · show (((_ && ((ws.take 7).map PyData.str ++ [PyData.int 1]).all isWordD) && _) && _) = false
    rw [List.all_append, show ([PyData.int 1].all isWordD) = false from rfl, Bool.and_false, Bool.and_false]
    rfl
theorem sd6 (ws : List Str) (k : Int) (h : okWs ws k) : okD 8 (.tuple [wordsD ws, .int (-1)]) = true ∧ isPieceD (.tuple [wordsD ws, .int (-1)]) = false :=
  ⟨(okt2 (wl7 h) ok_i).2, by show (_ && isTimesD _) = false; rw [show isTimesD (.int (-1)) = false by decide +kernel, Bool.and_false]⟩
theorem sd7 (ws : List Str) (k : Int) (h : okWs ws k) : okD 8 (.tuple [wordsD ws, .int (10 ^ (30 : Int).toNat + 1)]) = true ∧ isPieceD (.tuple [wordsD ws, .int (10 ^ (30 : Int).toNat + 1)]) = false :=
  ⟨(okt2 (wl7 h) ok_i).2, by show (_ && isTimesD _) = false; rw [show isTimesD (.int (10 ^ (30 : Int).toNat + 1)) = false by decide +kernel, Bool.and_false]⟩
theorem sd8 (ws : List Str) (k : Int) (h : okWs ws k) : okD 8 (.tuple [wordsD ws, .bool true]) = true ∧ isPieceD (.tuple [wordsD ws, .bool true]) = false :=
  ⟨(okt2 (wl7 h) ok_b).2, by show (_ && isTimesD _) = false; rw [show isTimesD (.bool true) = false from rfl, Bool.and_false]⟩
theorem sd9 (ws : List Str) (k : Int) (h : okWs ws k) : okD 8 (.list [wordsD ws, .int k]) = true ∧ isPieceD (.list [wordsD ws, .int k]) = false := ⟨(okt2 (wl7 h) ok_i).1, rfl⟩
theorem sd10 (ws : List Str) (k : Int) (h : okWs ws k) : okD 8 (.tuple [wordsD ws]) = true ∧ isPieceD (.tuple [wordsD ws]) = false := ⟨okt1 (wl7 h), rfl⟩
theorem sd11 (ws : List Str) (k : Int) (h : okWs ws k) : okD 8 (.tuple [wordsD ws, .int k, .int 1]) = true ∧ isPieceD (.tuple [wordsD ws, .int k, .int 1]) = false := ⟨okt3 (wl7 h) ok_i ok_i, rfl⟩
theorem sd12 (ws : List Str) (k : Int) (h : okWs ws k) : okD 8 (.tuple [wordsD ws, .str "1"]) = true ∧ isPieceD (.tuple [wordsD ws, .str "1"]) = false :=
  ⟨(okt2 (wl7 h) (by decide +kernel)).2, by show (_ && isTimesD _) = false; rw [show isTimesD (.str "1") = false from rfl, Bool.and_false]⟩
theorem live_but {H H' : Hp} {d c : Addr} {n : Nat} (p' : TapeAt H' d c n) (b : But d H H') : ∀ a, H a ≠ none → H' a ≠ none := fun a h => by
  by_cases e : a = d
  · rw [e]
    exact p'.pen.ne
  · cases q : H a with
    | none => exact absurd q h
    | some o =>
      rw [b a o q e]
      exact fun z => nomatch z
theorem strs_rel : ∀ (ys : List V), (∀ y ∈ ys, ∃ z : Str, y = V.str z ∧ isW z.cps.toList = true) → ∃ ws : List Str, ys = sV ws ∧ ws.all (fun z => isW z.cps.toList) = true
  | [], _ => ⟨[], rfl, rfl⟩
  | y :: r, h => by
    obtain ⟨z, rfl, hz⟩ := h y (List.mem_cons_self ..)
    obtain ⟨ws, rfl, hws⟩ := strs_rel r fun u hu => h u (List.mem_cons_of_mem _ hu)
    exact ⟨z :: ws, rfl, by rw [List.all_cons, hz, hws]; rfl⟩
section
variable {P : Program} {w : World} {K : PySem.W.Frag} {mg : Str → Option Value} {base : Heap}
/-! ### _law_piece: slots _law_tape 0, _law_k 1, _law_words 2, _law_times 3, _law_some 4 cells _law_tape -/
abbrev sPiece : Stmt := top 20
theorem scPiece : FnScope ["_law_tape", "_law_k", "_law_words", "_law_times", "_law_some"] ["_law_tape"] (defScope sPiece) := ⟨rfl, rfl, rfl, by decide +kernel, rfl, by decide +kernel, by decide +kernel⟩
/-- a drawn piece beside its truth -/
def Drawn (K : PySem.W.Frag) (y : V) (G : Hp) : Prop := ∃ t v b x, y = .ref t ∧ SqT K G t [v, .bl b] ∧ Px K G v x ∧ isPieceD x = b
def spPiece (K : PySem.W.Frag) : Sp := fun vs H Q _ => ∃ (d c : Addr) (n : Nat), vs = [.ref d] ∧ TapeAt H d c n ∧ n ≤ 900000 ∧ ∀ (y : V) (H' : Hp), Drawn K y (rmB (fun a => H a ≠ none) H') → TapeAt H' d c (n + 20) → But d H H' → Q y H'
theorem ok_piece {f : Addr} {fd : FuncData} (F : Fun K "_law_piece" "_law_piece" sPiece f fd) (B : Blt mg) (draw : Own P w K mg base CX0 1 "_law_draw" ["_law_tape", "_law_many"] spDraw) (pick : Own P w K mg base CX0 2 "_law_pick" ["_law_tape", "_law_some"] spPick) :
    FnOk P w K mg base CX0 3 f fd ["_law_tape"] (spPiece K) := by
  refine F.ok scPiece (fun vs H Q E h => ?_) (fun cdv A outer s0 H vs Q E hr h => ?_)
  · obtain ⟨d, c, n, rfl, _⟩ := h
    rfl
  · obtain ⟨d, c, n, rfl, p, hn, q⟩ := h
    have hr1 : Room 1 _ := hr.mono (by decide)
    refine ⟨_, (pss_cons (ps_setLc (i := 2) (own := [("_law_k", 1)]) (g := gName 1) (tt := tYes) rfl scPiece.nd rfl rfl (sw_true rfl rfl rfl (by decide +kernel)) (pi_range1 (by rfl) B.range_ (pa_cons (pe_op op_add pe_int (pe_call draw.g hr1 rfl draw.mg draw.kp draw.b .nil pass0 (pa_cons (pv 0) (pa_cons pe_int pa_nil)))) pa_nil))
          (blkOk_by (own := [("_law_k", 1)]) (N := ["_law_tape", "_law_k", "_law_words", "_law_times", "_law_some"]) (sc := defScope sPiece) (by decide +kernel))
          (fun _ _ _ _ _ => (pg_name (i := 1) scPiece.nd rfl (Or.inl rfl))) (fun _ _ _ _ _ => pts_nil)
          (fun _ _ _ _ _ => (pe_call pick.g hr rfl pick.mg pick.kp pick.b .nil pass0 (pa_cons (pv 0) (pa_cons (litL (K := K) (lits_cons lit_str (lits_cons lit_str (lits_cons lit_str (lits_cons lit_str lits_nil)))) (by decide)) pa_nil)))))
      (pss_cons (ps_set (i := 3) scPiece.nd rfl (Or.inl rfl) (pe_call pick.g hr rfl pick.mg pick.kp pick.b .nil pass0 (pa_cons (pv 0) (pa_cons (pe_lst (pa_cons pe_int (pa_cons pe_int (pa_cons pe_int (pa_cons (pe_op op_pow pe_int pe_int) (pa_cons (pe_call draw.g hr1 rfl draw.mg draw.kp draw.b .nil pass0 (pa_cons (pv 0) (pa_cons (pe_op op_pow pe_int pe_int) pa_nil))) pa_nil)))))) pa_nil))))
      (pss_cons (ps_if (pt_cmpR op_gt (pe_call draw.g hr1 rfl draw.mg draw.kp draw.b .nil pass0 (pa_cons (pv 0) (pa_cons pe_int pa_nil))) pe_int (nomark _)) (pss_one (ps_ret (pe_tup (pa_cons (pe_call pick.g hr rfl pick.mg pick.kp pick.b .nil pass0 (pa_cons (pv 0) (pa_cons (p_lst (K := K) (b := true) (ps_cons (p_of (n_tup (ns_cons (n_words (pv 2)) (ns_cons (n_times (pv 3)) ns_nil)) (fun _ _ => f2)) sd1) (ps_cons (p_of (n_tup (ns_cons (n_tupW (pe_callTy call_tuple_of (by rfl) B.tuple_ (by decide +kernel) (pa_cons (pv 2) pa_nil))) (ns_cons (n_times (pv 3)) ns_nil)) (fun _ _ => f2)) sd2) ps_nil)) (by decide)) pa_nil))) (pa_cons pe_bl pa_nil))))) pss_nil)
      (pss_cons (ps_set (i := 4) scPiece.nd rfl (Or.inl rfl) (p_lst (K := K) (b := false) (ps_cons (p_of (n_tup (ns_cons (n_lst ns_nil (fun _ _ => Nat.zero_le _)) (ns_cons n_int ns_nil)) (fun _ _ => f2)) (fun _ _ _ => ⟨by decide +kernel, by decide +kernel⟩))
          (ps_cons (p_of (n_tup (ns_cons (n_mul (pe_op op_rep (pv 2) pe_int)) (ns_cons n_int ns_nil)) (fun _ _ => f2)) sd3)
          (ps_cons (p_of (n_tup (ns_cons (n_cat (pe_op op_cat (pv 2) (pe_lst (pa_cons pe_str pa_nil)))) (ns_cons n_int ns_nil)) (fun _ _ => f2)) sd4)
          (ps_cons (p_of (n_tup (ns_cons (n_cut (pe_op op_cat (pe_slice sl_list (pv 2) po_none (po_some pe_int)) (pe_lst (pa_cons pe_int pa_nil)))) (ns_cons n_int ns_nil)) (fun _ _ => f2)) sd5)
          (ps_cons (p_of (n_tup (ns_cons (n_words (pv 2)) (ns_cons n_neg ns_nil)) (fun _ _ => f2)) sd6)
          (ps_cons (p_of (n_tup (ns_cons (n_words (pv 2)) (ns_cons (n_more (pe_op op_add (pe_op op_pow pe_int pe_int) pe_int)) ns_nil)) (fun _ _ => f2)) sd7) ps_nil)))))) (by decide)))
      (pss_cons (ps_set (i := 4) scPiece.nd rfl (Or.inl rfl) (pe_op op_cat (pv 4) (p_lst (K := K) (b := false) (ps_cons (p_of (n_tup (ns_cons (n_words (pv 2)) (ns_cons n_bl ns_nil)) (fun _ _ => f2)) sd8)
          (ps_cons (p_of (n_lst (ns_cons (n_words (pv 2)) (ns_cons (n_times (pv 3)) ns_nil)) (fun _ _ => f2)) sd9)
          (ps_cons (p_of (n_tup (ns_cons (n_words (pv 2)) ns_nil) (fun _ _ => f1)) sd10)
          (ps_cons (p_of (n_tup (ns_cons (n_words (pv 2)) (ns_cons (n_times (pv 3)) (ns_cons n_int ns_nil))) (fun _ _ => f3)) sd11)
          (ps_cons (p_of n_str (fun _ _ _ => ⟨by decide +kernel, by decide +kernel⟩)) (ps_cons (p_of n_non (fun _ _ _ => ⟨by decide +kernel, by decide +kernel⟩))
          (ps_cons (p_of (n_tup (ns_cons n_str (ns_cons n_int ns_nil)) (fun _ _ => f2)) (fun _ _ _ => ⟨by decide +kernel, by decide +kernel⟩))
          (ps_cons (p_of (n_tup (ns_cons (n_words (pv 2)) (ns_cons n_str ns_nil)) (fun _ _ => f2)) sd12)
          (ps_cons (p_dict (pe_tup (pa_cons pe_dnewK (pa_cons pe_int pa_nil)))) ps_nil))))))))) (by decide))))
      (pss_one (ps_ret (pe_tup (pa_cons (pe_call pick.g hr rfl pick.mg pick.kp pick.b .nil pass0 (pa_cons (pv 0) (pa_cons (pv 4) pa_nil))) (pa_cons pe_bl pa_nil)))))))))), ?_⟩
    have B0 : ∀ {G : Hp} {m : Nat}, TapeAt G d c m → But d H G → ∀ a, H a ≠ none → G a ≠ none := fun p' b a h => live_but p' b a h
    refine ⟨_, rfl, d, c, n, 8, rfl, p, by omega, by decide, by decide, fun j H1 j0 j1 p1 b1 => ⟨_, _, rfl, rfl, ?_⟩⟩
    obtain ⟨N, eN⟩ : ∃ N : Nat, 1 + j = (N : Int) := ⟨(1 + j).toNat, by omega⟩
    refine ⟨(N : Int), congrArg (fun z => [V.int z]) eN, by omega, by omega, fun D nD => ?_⟩
    have nD0 : H D = none := p.pen.free p1.pen b1 nD
    refine lc_tape (N := N) (m := 1) (rel := fun y _ => ∃ z : Str, y = V.str z ∧ isW z.cps.toList = true) (fun _ _ _ _ h => h) p1 nD (by omega) (fun _ => rfl) (fun i G hi bG pG R hR => ?_) fun ys H2 ly hy hD p2 b2 => ?_
    · refine ⟨_, rfl, fun l xs HL hl dl _ sl nl => ?_⟩
      have lx : xs.length = 4 := dps_len dl
      refine ⟨d, c, l, _, xs, rfl, pG.keep sl, by omega, hl, by omega, by omega, fun v G' mv p' b' => ?_⟩
      refine hR v G' ?_ p' ((but_of sl).trans b')
      obtain ⟨e, he, hv⟩ := dps_at dl mv
      simp only [List.mem_cons, List.not_mem_nil, or_false] at he
      rcases he with rfl | rfl | rfl | rfl <;> cases hv <;> exact ⟨_, rfl, by decide +kernel⟩
    obtain ⟨ws, rfl, hws⟩ : ∃ ws : List Str, ys = sV ws ∧ ws.all (fun z => isW z.cps.toList) = true := strs_rel ys hy
    rw [List.length_map] at ly
    have b20 : But d H H2 := b1.trans b2
    have p2' : TapeAt H2 d c (n + 9) := p2.mono (by omega)
    clear p1 b1 nD hy b2 p2
    refine ⟨_, rfl, _, _, rfl, rfl, ⟨by decide, by decide, by decide⟩, _, rfl, _, _, rfl, rfl, ⟨by decide, by decide, by decide⟩, d, c, _, _, rfl, p2', by omega, by decide, by decide, fun k H3 k0 k1 p3 b3 => ⟨by show 5 ≤ sizeLine; decide, fun l nl => ?_⟩⟩
    have sl := same_new (o := .lst [.int 0, .int 1, .int 2, .int (10 ^ (30 : Int).toNat), .int k]) nl
    refine ⟨d, c, l, _, _, rfl, p3.keep sl, by omega, upd_same, by show 0 < 5; decide, by show 5 < 1000000; decide, fun v H4 mv p4 b4 => ?_⟩
    obtain ⟨t, rfl, t0, t1⟩ : ∃ t : Int, v = .int t ∧ 0 ≤ t ∧ t ≤ mostTimes := by
      simp only [List.mem_cons, List.not_mem_nil, or_false] at mv
      have k2 : k < 1000000000 := k1
      rcases mv with rfl | rfl | rfl | rfl | rfl
      · exact ⟨_, rfl, by decide, by decide⟩
      · exact ⟨_, rfl, by decide, by decide⟩
      · exact ⟨_, rfl, by decide, by decide⟩
      · exact ⟨_, rfl, by decide +kernel, by decide +kernel⟩
      · exact ⟨_, rfl, k0, by show k ≤ 1000000000000000000000000000000; omega⟩
    have b32 : But d H2 H4 := (b3.trans (but_of sl)).trans b4
    have hD4 := b32 D _ hD (tape_ne hD p2')
    have b40 := b20.trans b32
    have p4' : TapeAt H4 d c (n + 11) := p4.mono (by omega)
    clear p3 b3 sl mv b4 p4 b32 nl p2' b20 hD
    have okw : okWs ws t := ⟨hws, by omega, by omega, t0, t1⟩
    refine ⟨_, rfl, d, c, _, 3, rfl, p4', by omega, by decide, by decide, fun e H5 e0 e1 p5 b5 => ⟨_, _, rfl, rfl, _, rfl, ?_⟩⟩
    have hD5 := b5 D _ hD4 (tape_ne hD4 p4')
    have b50 := b40.trans b5
    have nw : Nw (fun a => H a ≠ none) ws t [some (.ref d), none, some (.ref D), some (.int t), none] H5 := ⟨okw, B0 p5 b50, ⟨D, rfl, rm_out (fun z => z nD0) hD5 rfl⟩, rfl⟩
    refine ite2 (fun _ => ?_) (fun _ => ?_)
    · refine ⟨_, rfl, _, ws, t, nw, fun pl vs H6 hp hv hl s6 np => ⟨d, c, pl, _, vs, rfl, p5.keep s6, by omega, hp, by omega, by omega, fun v H7 mv p7 b7 => ⟨by show 2 ≤ sizeLine; decide, fun tt nt => ?_⟩⟩⟩
      obtain ⟨x, hx, hb⟩ := hv v mv
      have b70 := (b50.trans (but_of s6)).trans b7
      exact q _ _ ⟨tt, v, true, x, rfl, .inl (.inl (new_rm (B0 p7 b70) nt)), hx.same ((rm_but p.pen.ne b7).trans (rm_same (same_new nt))), hb⟩ ((p7.keep (same_new nt)).mono (by omega)) (b70.trans (but_of (same_new nt)))
    · refine ⟨_, ws, t, nw, fun pl vs H6 hp hv hl s6 np => ?_⟩
      have nw6 : Nw (fun a => H a ≠ none) ws t [some (.ref d), none, some (.ref D), some (.int t), some (.ref pl)] H6 := ⟨okw, live_same nw.live s6, ⟨D, rfl, rm_same s6 _ _ (rm_out (fun z => z nD0) hD5 rfl)⟩, rfl⟩
      refine ⟨_, rfl, _, ws, t, nw6, fun p2 vs2 H7 hp2 hv2 hl2 s7 np2 => ⟨pl, p2, vs, vs2, rfl, rfl, s7 _ _ hp, hp2, size_ok (by omega), fun p3 np3 => ?_⟩⟩
      have s8 := same_new (o := .lst (vs ++ vs2)) np3
      refine ⟨_, rfl, _, rfl, d, c, p3, _, _, rfl, ((p5.keep s6).keep s7).keep s8, by omega, upd_same, by rw [List.length_append]; omega, by rw [List.length_append]; omega, fun v H8 mv p8 b8 => ⟨by show 2 ≤ sizeLine; decide, fun tt nt => ?_⟩⟩
      have b80 := ((b50.trans (but_of s6)).trans (but_of s7)).trans ((but_of s8).trans b8)
      obtain ⟨x, hx, hb⟩ : ∃ x, Px K (rmB (fun a => H a ≠ none) (upd H7 p3 (.lst (vs ++ vs2)))) v x ∧ isPieceD x = false := by
        rcases List.mem_append.mp mv with m | m
        · obtain ⟨x, hx, hb⟩ := hv v m
          exact ⟨x, hx.same ((rm_same s7).trans (rm_same s8)), hb⟩
        · obtain ⟨x, hx, hb⟩ := hv2 v m
          exact ⟨x, hx.same (rm_same s8), hb⟩
      exact q _ _ ⟨tt, v, false, x, rfl, .inl (.inl (new_rm (B0 p8 b80) nt)), hx.same ((rm_but p.pen.ne b8).trans (rm_same (same_new nt))), hb⟩ ((p8.keep (same_new nt)).mono (by omega)) (b80.trans (but_of (same_new nt)))
end
end RL

namespace RL
open PySem L2 SX AddrMath VA LamX
theorem takes_len {X : Cx} {W : WX} (t : Takes X W) : Takes X (fun cls d σ H => σ.length = X.N.length → W cls d σ H) := fun u s' ⟨a, B, sI, pins, σ, H, cls, d, e, I, h1, h2, h3, h4, h5, h6, h7⟩ => t u s' ⟨a, B, sI, pins, σ, H, cls, d, e, I, h1, h2, h3, h4, h5, h6, h7 I.len⟩
theorem set_two {σ : L2.St} {v : Option V} (h : σ.length = 2) : (σ.set 1 v)[1]? = some v := by
  rw [List.getElem?_set_self (by omega)]
/-! ### _law_fault: slots _law_call 0, e 1 -/
abbrev sFault : Stmt := top 21
theorem scFault : FnScope ["_law_call", "e"] ["_law_call"] (defScope sFault) := ⟨rfl, rfl, rfl, by decide +kernel, rfl, by decide +kernel, by decide +kernel⟩
/-- None where the call gives a value; a list of the error's field and True where it raises the own error -/
def ttFault (CE : Addr) (tl : XK → Hp → VK → Prop) (H : Hp) (Q : VK) : Prop := ∀ (E : XK) (Q' : VK),
  (∀ d z H', H' d = some (.xd (ixF fField (.str z))) → (∀ l, H' l = none → Q (.ref l) (upd H' l (.lst [.str z, .bl true]))) → E (.ref CE) (some d) H') → (∀ v H', Q .non H' → Q' v H') → tl E H Q'
theorem gives_fault {X : Cx} {g CE fE : Addr} {cdg : Value} {q : Str} (TE : ErrC X.K X.mg "InvalidAddress" fField CE fE) (xf : XfC X.K CE) (xc : ExcC X.K CE) (kv : PySem.W.kitOne X.K (.ref CE) (.type "ValueError") = some true) (te : PySem.W.exmOne X.K (.ref CE) (.ref CE) = some true)
    (mi : X.mg "isinstance" = none) (mv : X.mg "ValueError" = none) : GivesTo X ["_law_call", "e"] "_law_fault" (defScope sFault) g cdg (defBody sFault) "_law_call" q (ttFault CE) := by
  intro f c' s H Q tl call hc tt
  refine ⟨_, pss_cons (ps_try_as (i := 1) (Wout := fun _ _ _ _ => False) rfl rfl scFault.nd rfl rfl ⟨rfl, by decide, Or.inl TE.mgC⟩ L2.takes0
      (fun W pn xe tk _ => pss_one (ps_expr (call _ pn xe (fun cls d H' => ∀ σ' : L2.St, σ'.length = 2 → W cls d σ' H') _ _ (takes_len tk) (fun _ _ σ' _ h l => h σ' l))))
      (fun a oe cls d pn hz hf => pss_one (ps_ret (pe_lst (pa_cons (pe_xf xf TE.no hz hf (pv 1)) (pa_cons (pe_callB (call_isX xc hz hf) (by rfl) mi (by decide +kernel) (pa_cons (pv 1) (pa_cons (pe_bltn (v := .ty "ValueError") (by rfl) mv (by decide +kernel) rfl) pa_nil))) pa_nil))))))
      (pss_one (ps_ret pe_non)), ?_⟩
  have ixl : ∀ v : V, (ixF fField v).lookup fField = some v := fun v => by
    rw [lookup_put, if_pos rfl]
  refine ⟨rfl, hc, tt _ _ (fun d z H' hd h => ?_) (fun v H' h => h)⟩
  intro σ' len
  refine ⟨true, te, fun _ a na => ?_, fun z => Bool.noConfusion z⟩
  exact ⟨_, set_two len, rfl, rfl, d, _, _, rfl, hd, ixl _, _, set_two len, _, _, true, d, _, rfl, rfl, fun u r => r, rfl, hd, kv, by show 2 ≤ sizeLine; decide, fun l nl => h l nl⟩
end RL

/-! A def that gives NotImplemented (an own == beside a value of another kind). -/
namespace NI
open PySem PySem.W PySem.Spec PySem.Calls PyProof.Rows L2 SX GR
section
variable {pr : Program} {wo : World} {F : PySem.W.Frag} {gl : Str → Option Value} {b0 : Heap}
/-- what a call that gives NotImplemented and changes nothing leaves -/
def Left (fs : List Env) (pr : Program) (wo : World) (H : Hp) (s : Shared) : Result → Shared → Prop := fun r s' => r = .ok (.ret .notImplemented) ∧ CE fs pr wo H s (fun v H' => v = .non ∧ H' = H) .none s'
theorem ni_body {X : Cx} {c : Expr} {p1 p2 p3 : Pos} {body rest : List Stmt} {t : TT} {σ : L2.St} {H : Hp} {s1 : Shared} (bd : body = .If c [.Return (some (.Name "NotImplemented" p1)) p2] [] p3 :: rest) (gn : Gl X "NotImplemented") (gm : X.mg "NotImplemented" = none)
    (reads : PT X c t) (I : L2.Inv X [] σ H s1) (does : t σ H (fun b H' => b = true ∧ H' = H)) :
    wpAny (model X.prog X.w) X.A (execs body X.env) (fun fl s' => fl = .ret .notImplemented ∧ L2.Inv X [] σ H s') X.xe s1 := by
  subst bd
  refine wpAny_execs_cons (wpAny_If (thn (reads.run [] s1 σ H (fun b H' => b = true ∧ H' = H) I does) ?_))
  rintro b s2 ⟨H2, J, rfl, rfl⟩
  rw [if_pos rfl]
  refine wpAny_execs_cons (wpAny_Return_some ?_)
  exact ld_blt J gn gm rfl ⟨rfl, J⟩
theorem ni_fn {x qual : Str} {st : Stmt} {at_ : Addr} {fd : FuncData} {N names : List Str} {n : Nat} {c : Expr} {p1 p2 p3 : Pos} {rest : List Stmt} {vs : List V} {H : Hp} (D : Fun F x qual st at_ fd) (S : FnScope N names (defScope st))
    (bd : defBody st = .If c [.Return (some (.Name "NotImplemented" p1)) p2] [] p3 :: rest) (many : vs.length = names.length)
    (gn : ∀ (cd : Value) (Ar : Around) (fs : List Env) (s : Shared), Gl (cxOf CX0 pr wo F gl b0 N qual (defScope st) at_ cd Ar fs s H E0) "NotImplemented") (gm : gl "NotImplemented" = none)
    (test : ∀ (cd : Value) (Ar : Around) (fs : List Env) (s : Shared), Room n (Ar.deeper (envOfC qual (defScope st) s.heap.objs.size at_ cd)) →
      ∃ t, PT (cxOf CX0 pr wo F gl b0 N qual (defScope st) at_ cd Ar fs s H E0).nox c t ∧ t (start N vs) H (fun b H' => b = true ∧ H' = H))
    (Ar : Around) (fs : List Env) (s : Shared) (gs : Args) (us : List Value) (room : Room (n + 1) Ar) (e0 : Env0 pr wo F gl b0 Ar fs s H) (binds : BindsTo s fd gs (names.zip us)) (rel : Vals vs us) :
    codeAny (model pr wo) Ar (.call (.ref at_) gs) (Left fs pr wo H s) s := by
  obtain ⟨oc, od, kV, doc, pm, an, cd, ct, osl, rfl, here, code⟩ := D.ex
  have FX : F.In s.heap := e0.mod.kin.keeps (fun b o e => (e0.bs b o e).1)
  have lim : s.heap.NoLimit := e0.mod.nolimit.keeps (fun b o e => (e0.bs b o e).1)
  refine codeAny_call_function room.depth (FX _ _ here) rfl S.co S.gen rfl (PySem.W.codeRec_of FX code) (binds _ _ _ _ ?_)
  refine wpAny_newFunctionEnv_cells S.kind ?_ (fun en en_is s1 inside => ?_)
  · rintro ⟨nm, v⟩ mem
    rcases S.par nm (List.of_mem_zip mem).1 with q | q
    · exact Or.inl q
    · exact Or.inr ⟨q, PySem.W.cellsFrom_some _ _ _ (Or.inl q)⟩
  subst en_is
  refine ⟨lim.keeps inside.toInCall.keep, codeAny_func ?_⟩
  obtain ⟨t, reads, does⟩ := test cd Ar fs s (room.deeper _)
  have I0 := inv_start (CX := CX0) (E := E0) S room.hd e0 many rel inside
  refine wpAny_mono (ni_body bd (gn cd Ar fs s) gm reads.nox I0 does) ?_ (fun _ _ h => wpAny_mono h (fun _ _ z => (show False from z).elim) (fun _ _ z => (show False from z).elim))
  rintro fl s' ⟨rfl, J⟩
  exact ⟨rfl, V.non, H, J.os, J.bare, J.base, J.hok, rfl, rfl, rfl⟩
end
end NI

namespace NI
open PySem PySem.W PySem.Spec PySem.Calls PyProof.Rows L2 SX GR
section
variable {X : Cx}
/-- a def that gives NotImplemented for these values -/
structure Decl (X : Cx) (n : Nat) (f : Addr) (Pd : List V → Hp → Prop) : Prop where
  runs : ∀ (Ar : Around) (fs : List Env) (s : Shared) (H : Hp) (us : List Value) (vs : List V), Pd vs H → Room n Ar → Env0 X.prog X.w X.K X.mg X.base Ar fs s H → Vals vs us → codeAny (model X.prog X.w) Ar (.call (.ref f) ⟨us, []⟩) (Left fs X.prog X.w H s) s
/-- x == y, x an instance whose own == gives NotImplemented, y a text -/
theorem own_eqS {C f : Addr} {n : Nat} {Pd : List V → Hp → Prop} (at_ : findIn X.K (.ref C) "__eq__" = some (some (.ref f))) (isF : isFn X.K (.ref f) = true) (nf : subIn X.K (.type "str") (.ref C) = some false) (D : Decl X n f Pd) (room : Room n X.A) :
    OpR X (compareOp .Eq) (fun x y H Q => ∃ a dx fs z, x = .ref a ∧ y = .str z ∧ H a = some (.ins C dx fs) ∧ Pd [x, y] H ∧ Q (.bl false) H) := by
  intro pins s σ H x y v u Q I rx ry ⟨a, dx, fs, z, ex, ey, ha, hp, q⟩
  subst ex; subst ey
  cases (show v = Value.ref a from rx)
  obtain ⟨t, rfl⟩ : ∃ t, u = Value.str z t := ry
  obtain ⟨_, J, _⟩ := ins_get I.hok ha
  obtain ⟨od, J, _⟩ := J.look
  have inK : X.K.In s.heap := I.kIn
  have go : wpAny (model X.prog X.w) X.A (call (.ref f) [.ref a, .str z t]) (fun r s' => r = .notImplemented ∧ L2.Inv X pins σ H s') X.xe s := by
    refine wpAny_call (codeAny_mono (D.runs X.A X.stack s H [.ref a, .str z t] [.ref a, .str z] hp room I.env0 (.cons rfl (.cons ⟨t, rfl⟩ .nil))) ?_)
    rintro r s' ⟨rfl, ce⟩
    obtain ⟨z', H', I', rz, ez, eh⟩ := I.after ce
    subst eh
    exact ⟨rfl, I'⟩
  show wpAny _ _ (richCompare .Eq (.ref a) (.str z t)) _ _ _
  unfold richCompare
  have no : oneThing? CmpOp.Eq (.ref a) (.str z t) = none := rfl
  simp only [no]
  refine wpAny_holding (wpAny_bind (wpAny_cRoomFor room.units0 ?_))
  refine wpAny_bind (J.type.here ?_)
  refine wpAny_bind (wpAny_pure ?_)
  rw [show (Value.ref C != Value.type "str") = true from rfl]
  simp only [if_true]
  refine wpAny_bind ((looks_subIn inK nf).here ?_)
  simp only [Bool.false_eq_true, if_false]
  have one : wpAny (model X.prog X.w) X.A (tryCompare (.ref a) "__eq__" (.str z t)) (fun r s' => r = none ∧ L2.Inv X pins σ H s') X.xe s := by
    unfold tryCompare
    refine wpAny_bind (ifBound_K inK J at_ isF (wpAny_mono go ?_ fun _ _ e => e))
    rintro r s' ⟨rfl, hI⟩
    exact wpAny_pure ⟨rfl, hI⟩
  refine wpAny_bind (wpAny_mono one ?_ fun _ _ e => e)
  rintro r s1 ⟨rfl, I1⟩
  simp only [Bool.not_false, if_true]
  obtain ⟨_, J1, _⟩ := ins_get I1.hok ha
  obtain ⟨od1, J1, _⟩ := J1.look
  have two : wpAny (model X.prog X.w) X.A (tryCompare (.str z t) "__eq__" (.ref a)) (fun r s' => r = none ∧ L2.Inv X pins σ H s') X.xe s1 := by
    refine wpAny_tryCompare_declines (T := "str") (id := "str.__eq__") ?_ PySem.F.slot_str_eq ?_
    · rfl
    · refine wpAny_call (codeAny_call_builtin PySem.F.slot_str_eq.plain PySem.F.entry_str_eq (PySem.F.slot_str_eq.check _ _ _ _ _ _ _ _ ?_ (PySem.F.args_str_eq_2 _ _) ?_))
      · rfl
      · have at1 : s1.heap.get? a = some (W.instObj C dx) := J1.at_
        have done : ∀ s', s' = s1 → L2.Inv X pins σ H s' := fun s' e => by rw [e]; exact I1
        unfold Builtin.«str.__eq__» Builtin.Str.strCompare Builtin.Str.strSlot
        repeat (first | exact ⟨rfl, rfl, I1⟩ | refine wpAny_bind (wpAny_load at1 ?_) | wp_step)
  refine wpAny_bind (wpAny_mono two ?_ fun _ _ e => e)
  rintro r s2 ⟨rfl, I2⟩
  have fin : EP X pins σ Q (.bool false) s2 := ⟨.bl false, H, I2, rfl, q⟩
  show wpAny _ _ (do
      rule "compare.eq-identity"
      let same ← isSame (.ref a) (.str z t)
      pure (Value.bool same)) _ _ _
  repeat (first | exact fin | exact wpAny_pure fin | refine wpAny_bind (wpAny_isSame_plain (by rfl) ?_) | wp_step)
theorem tup_head (x y : Value) : ∃ k, Builtin.«tuple.__eq__» ⟨[x, y], []⟩ = (do
    let b ← isInstance y (.type "tuple")
    if (!b) = true then ret .notImplemented else k) := ⟨_, rfl⟩
theorem tup_at {H : Hp} {s : Shared} {pins : List (Addr × Obj)} {σ : L2.St} {b : Addr} {ds : List PyData} (I : L2.Inv X pins σ H s) (h : Dp X.K H (.ref b) (.tuple ds)) : ∃ o, s.heap.get? b = some o ∧ o.cls = .type "tuple" := by
  obtain ⟨as, rd⟩ := Dp.reads I _ _ _ h rfl
  cases rd
  exact ⟨_, by assumption, by assumption⟩
/-- x == y, x an instance whose own == gives NotImplemented, y a tuple -/
theorem own_eqT {C f : Addr} {n : Nat} {Pd : List V → Hp → Prop} (at_ : findIn X.K (.ref C) "__eq__" = some (some (.ref f))) (isF : isFn X.K (.ref f) = true) (nf : subIn X.K (.type "tuple") (.ref C) = some false) (nt : subIn X.K (.ref C) (.type "tuple") = some false) (D : Decl X n f Pd) (room : Room n X.A) :
    OpR X (compareOp .Eq) (fun x y H Q => ∃ a dx fs b ds, x = .ref a ∧ y = .ref b ∧ H a = some (.ins C dx fs) ∧ Dp X.K H (.ref b) (.tuple ds) ∧ Pd [x, y] H ∧ Q (.bl false) H) := by
  intro pins s σ H x y v u Q I rx ry ⟨a, dx, fs, b, ds, ex, ey, ha, hb, hp, q⟩
  subst ex; subst ey
  cases (show v = Value.ref a from rx)
  cases (show u = Value.ref b from ry)
  obtain ⟨_, J, _⟩ := ins_get I.hok ha
  obtain ⟨od, J, _⟩ := J.look
  have inK : X.K.In s.heap := I.kIn
  obtain ⟨ob, gb, cb⟩ := tup_at I hb
  have ga : s.heap.get? a = some (W.instObj C dx) := J.at_
  have nab : a ≠ b := fun e => by rw [e, gb] at ga; cases ga; cases cb
  have go : wpAny (model X.prog X.w) X.A (call (.ref f) [.ref a, .ref b]) (fun r s' => r = .notImplemented ∧ L2.Inv X pins σ H s') X.xe s := by
    refine wpAny_call (codeAny_mono (D.runs X.A X.stack s H [.ref a, .ref b] [.ref a, .ref b] hp room I.env0 (.cons rfl (.cons rfl .nil))) ?_)
    rintro r s' ⟨rfl, ce⟩
    obtain ⟨z', H', I', rz, ez, eh⟩ := I.after ce
    subst eh
    exact ⟨rfl, I'⟩
  show wpAny _ _ (richCompare .Eq (.ref a) (.ref b)) _ _ _
  unfold richCompare
  simp only [oneThing_ref]
  refine wpAny_holding (wpAny_bind (wpAny_cRoomFor room.units0 ?_))
  refine wpAny_bind (J.type.here ?_)
  have tyb : ∀ {s' : Shared} {R : Value → Shared → Prop}, s'.heap.get? b = some ob → R (.type "tuple") s' → wpAny (model X.prog X.w) X.A (typeOf (.ref b)) R X.xe s' := fun g r => by
    unfold typeOf
    repeat (first | exact r | (rw [cb]; exact r) | refine wpAny_bind (wpAny_load g ?_) | wp_step)
  refine wpAny_bind (tyb gb ?_)
  rw [show (Value.ref C != Value.type "tuple") = true from rfl]
  simp only [if_true]
  refine wpAny_bind ((looks_subIn inK nf).here ?_)
  simp only [Bool.false_eq_true, if_false]
  have one : wpAny (model X.prog X.w) X.A (tryCompare (.ref a) "__eq__" (.ref b)) (fun r s' => r = none ∧ L2.Inv X pins σ H s') X.xe s := by
    unfold tryCompare
    refine wpAny_bind (ifBound_K inK J at_ isF (wpAny_mono go ?_ fun _ _ e => e))
    rintro r s' ⟨rfl, hI⟩
    exact wpAny_pure ⟨rfl, hI⟩
  refine wpAny_bind (wpAny_mono one ?_ fun _ _ e => e)
  rintro r s1 ⟨rfl, I1⟩
  simp only [Bool.not_false, if_true]
  obtain ⟨_, J1, _⟩ := ins_get I1.hok ha
  obtain ⟨od1, J1, _⟩ := J1.look
  obtain ⟨ob1, gb1, cb1⟩ := tup_at I1 hb
  have ga1 : s1.heap.get? a = some (W.instObj C dx) := J1.at_
  have two : wpAny (model X.prog X.w) X.A (tryCompare (.ref b) "__eq__" (.ref a)) (fun r s' => r = none ∧ s' = s1) X.xe s1 := by
    refine wpAny_tryCompare_declines (T := "tuple") (id := "tuple.__eq__") ⟨ob1, gb1, cb1⟩ PySem.F.slot_tuple_eq ?_
    refine wpAny_call (codeAny_call_builtin PySem.F.slot_tuple_eq.plain PySem.F.entry_tuple_eq (PySem.F.slot_tuple_eq.check _ _ _ _ _ _ _ _ ⟨ob1, gb1, cb1⟩ (PySem.F.args_tuple_eq_2 _ _) ?_))
    obtain ⟨k, ek⟩ := tup_head (.ref b) (.ref a)
    rw [ek]
    refine wpAny_bind (wpAny_mono (show wpAny _ _ (isInstance (.ref a) (.type "tuple")) (fun r s' => r = false ∧ s' = s1) _ _ from ?_) ?_ fun _ _ e => e)
    · have inK1 : X.K.In s1.heap := I1.kIn
      unfold isInstance
      repeat (first | exact wpAny_bind (J1.type.here ((looks_subIn inK1 nt).here ⟨rfl, rfl⟩)) | exact ((looks_subIn inK1 nt).here ⟨rfl, rfl⟩) | refine wpAny_bind (J1.type.here ?_) | wp_step)
    · rintro r s' ⟨rfl, rfl⟩
      simp only [Bool.not_false, if_true]
      repeat (first | exact ⟨rfl, trivial, rfl⟩ | exact ⟨rfl, rfl, rfl⟩ | wp_step)
  refine wpAny_bind (wpAny_mono two ?_ fun _ _ e => e)
  rintro r s2 ⟨rfl, rfl⟩
  have fin : EP X pins σ Q (.bool false) s2 := ⟨.bl false, H, I1, rfl, q⟩
  show wpAny _ _ (do
      rule "compare.eq-identity"
      let same ← isSame (.ref a) (.ref b)
      pure (Value.bool same)) _ _ _
  repeat (first | exact fin | exact wpAny_pure fin | refine wpAny_bind (wpAny_isSame_ref_other nab ga1 gb1 (fun z => by cases z) ?_) | wp_step)
end
end NI

/-! == of two different instances of a class that has no == of its own. -/
namespace NK
open PySem PySem.W PySem.Spec PySem.Calls PyProof.Rows L2 SX GR
variable {X : Cx}
/-- x == y, both of the class at C, which has object's == -/
def rEqI (C : Addr) : R2 := fun x y H Q => ∃ (a b dx dy : Addr) (fs gs : List (Str × V)), x = .ref a ∧ y = .ref b ∧ a ≠ b ∧ H a = some (.ins C dx fs) ∧ H b = some (.ins C dy gs) ∧ Q (.bl false) H
theorem op_eqI {C : Addr} (at_ : findIn X.K (.ref C) "__eq__" = some (some (.builtin "object.__eq__"))) (ob : subIn X.K (.ref C) (.type "object") = some true) (units : X.A.units < cLine) : OpR X (compareOp .Eq) (rEqI C) := by
  intro pins s σ H x y v u Q I rx ry ⟨a, b, dx, dy, fs, gs, ex, ey, nab, ha, hb, q⟩
  subst ex; subst ey
  cases (show v = Value.ref a from rx)
  cases (show u = Value.ref b from ry)
  obtain ⟨_, Ja, _⟩ := ins_get I.hok ha
  obtain ⟨oda, Ja, _⟩ := Ja.look
  obtain ⟨_, Jb, _⟩ := ins_get I.hok hb
  obtain ⟨odb, Jb, _⟩ := Jb.look
  have inK : X.K.In s.heap := I.kIn
  have ga : s.heap.get? a = some (W.instObj C dx) := Ja.at_
  have gb : s.heap.get? b = some (W.instObj C dy) := Jb.at_
  have half : ∀ {x y : Addr} {ox oy : Obj} {od : Option Obj}, x ≠ y → W.InstAt s.heap x ox C od → s.heap.get? x = some ox → ox.cls ≠ Value.type "tuple" → s.heap.get? y = some oy →
      wpAny (model X.prog X.w) X.A (tryCompare (.ref x) "__eq__" (.ref y)) (fun r s' => r = none ∧ s' = s) X.xe s := fun {x y ox oy od} ne J gx nt gy => by
    unfold tryCompare
    refine wpAny_bind (HN.ifBound_objEq inK J at_ (wpAny_call (codeAny_call_builtin PySem.F.slot_object_eq.plain PySem.F.entry_object_eq (@check_slot (model X.prog X.w) _ _ s "object.__eq__" "object" "__eq__" (.ref x)
      [.ref y] [] _ (by decide +kernel) (by decide +kernel) (J.type.andThen (looks_subIn inK ob)) (PySem.F.args_object_eq_2 _ _) (objEq_entry_other ne gx gy nt ?_)))))
    first
      | exact wpAny_pure ⟨rfl, rfl⟩
      | exact ⟨rfl, rfl⟩
  show wpAny _ _ (richCompare .Eq (.ref a) (.ref b)) _ _ _
  unfold richCompare
  simp only [oneThing_ref]
  refine wpAny_holding (wpAny_bind (wpAny_cRoomFor units ?_))
  refine wpAny_bind (Ja.type.here ?_)
  refine wpAny_bind (Jb.type.here ?_)
  have same : (Value.ref C != Value.ref C) = false := by
    rw [bne_self_eq_false]
  rw [same]
  simp only [Bool.false_eq_true, if_false]
  have nt : ∀ d : Addr, (W.instObj C d).cls ≠ Value.type "tuple" := fun d z => by cases z
  have fin : EP X pins σ Q (.bool false) s := ⟨.bl false, H, I, rfl, q⟩
  first
    | (refine wpAny_bind (wpAny_pure ?_)
       simp only [Bool.false_eq_true, if_false])
    | skip
  refine wpAny_bind (wpAny_mono (half nab Ja ga (nt _) gb) ?_ fun _ _ e => e)
  rintro r s1 ⟨rfl, rfl⟩
  simp only [Bool.not_false, if_true]
  refine wpAny_bind (wpAny_mono (half (Ne.symm nab) Jb gb (nt _) ga) ?_ fun _ _ e => e)
  rintro r s2 ⟨rfl, rfl⟩
  show wpAny _ _ (do
      rule "compare.eq-identity"
      let same ← isSame (.ref a) (.ref b)
      pure (Value.bool same)) _ _ _
  repeat (first | exact fin | exact wpAny_pure fin | refine wpAny_bind (wpAny_isSame_ref_other nab ga gb (fun z => by cases z) ?_) | wp_step)
end NK

/-! f(k = v, ..): a def of the text, by keywords alone. -/
namespace VA
open PySem L2 SX AddrMath
def tCallK0 (m : Nat) (sp : Sp) (gV : List V → List V → List V) (E : XK) (tk : TA) : TE := fun σ H Q => tk σ H fun zs H1 => zs.length = m ∧ sp (gV [] zs) H1 Q E
section
variable {X : Cx} {CX : CXT} {k : Nat} {f : Addr} {fd : FuncData} {ps ks : List Str} {sp : Sp} {E : XK} {x : Str} {p pos : Pos} {kws : List Keyword} {tk : TA} {g : List Value → List Value → List Value} {gV : List V → List V → List V}
theorem call_k0 {pn : List (Addr × Obj)} {σ : L2.St} {H : Hp} {s : Shared} {Q : VK} {ws : List Value} {zs : List V} (F : FnOk X.prog X.w X.K X.mg X.base CX k f fd ps sp) (room : Room k X.A) (bn : KBn X.K fd ps 0 ks g gV) (pa : Passes CX X E) (J : Inv X pn σ H s) (rz : Vals zs ws) (l2 : zs.length = ks.length)
    (want : sp (gV [] zs) H Q E) : wpAny (model X.prog X.w) X.A (call (.ref f) [] (ks.zip ws)) (EP X pn σ Q) X.xe s := by
  refine wpAny_call (codeAny_mono (F.run X.A X.stack s H ⟨[], ks.zip ws⟩ (g [] ws) _ Q E room J.env0 (bn.to s [] ws J.kIn rfl (rz.length.symm.trans l2)) (bn.rel .nil rz) want) ?_)
  rintro (e | fl) s' h
  · exact pa _ _ _ _ _ _ J h
  cases fl with
  | next => exact (show False from h).elim
  | brk => exact (show False from h).elim
  | cont => exact (show False from h).elim
  | ret u => exact J.after h
theorem pe_callK0 (F : FnOk X.prog X.w X.K X.mg X.base CX k f fd ps sp) (room : Room k X.A) (hg : Gl X x) (hm : X.mg x = some (.ref f)) (hk : PySem.W.keepIn X.K (.ref f) = true) (bn : KBn X.K fd ps 0 ks g gV) (pa : Passes CX X E)
    (hkw : PK X kws tk) (hall : (backToKw pos (keywordEach kws X.env)).all (·.1.isSome) = true := by rfl) (hks : (backToKw pos (keywordEach kws X.env)).filterMap (·.1) = ks := by rfl)
    (hdb : (x == ("__debug__" : Str)) = false := by decide)
    (hpl : ((backTo pos (starEach [] X.env)).any (·.1) || (backToKw pos (keywordEach kws X.env)).any (·.1.isNone)) = false := by rfl) :
    PE X (.Call (.Name x p) [] kws pos) (tCallK0 ks.length sp gV E tk) := by
  refine ⟨fun pn s σ H Q J want => ?_⟩
  refine wpAny_Call_Name_kw (ld_glob J hg hm ?_ hdb)
  refine PySem.W.callWith_KW0 J.ok.mod.kin hk hall (thn (hkw.run pos pn s σ H _ J want) fun ws s2 ⟨zs, H2, J2, rz, l2, q2⟩ => ⟨J2.kIn, ?_⟩) hpl
  rw [hks]
  exact call_k0 F room bn pa J2 rz l2 q2
end
theorem passes_of {X : Cx} {E : XK} (t : Takes X fun cls d _ H => E cls d H) : Passes (L2.CX X.prog X.w) X E := fun pins σ H s e s' I h => passAt t σ pins H s e s' I h
end VA

namespace RL
open PySem L2 SX AddrMath VA LamX GR
/-! ## what the law's rows ask -/
theorem rm_ext {B : Addr → Prop} {H H' : Hp} (s : ExtN H H') : Same (rmB B H) (rmB B H') := fun a o h => by
  obtain ⟨b, e, n⟩ := rm_has h
  exact rm_out b (s a o e fun ps z => by rw [z] at n; cases n) n
theorem TapeAt.ext {H H' : Hp} {d c : Addr} {n : Nat} (p : TapeAt H d c n) (s : ExtN H H') : TapeAt H' d c n := by
  obtain ⟨ns, k, r, h1, h2, h3⟩ := p
  exact ⟨ns, k, r, s _ _ h1 (fun _ z => by cases z), s _ _ h2 (fun _ z => by cases z), h3⟩
theorem tabs_same {T : List (Addr × Str)} {H H' : Hp} (h : Tabs T H) (s : Same H H') : Tabs T H' := fun p hp => (h p hp).ext s
theorem tabs_but {T : List (Addr × Str)} {H H' : Hp} {d c : Addr} {n : Nat} (h : Tabs T H) (p : TapeAt H d c n) (s : But d H H') : Tabs T H' := fun q hq => by
  obtain ⟨ns, k, r, h1, _⟩ := p
  obtain ⟨ps, e, t, f⟩ := h q hq
  refine ⟨ps, s _ _ e (ne_of e h1 fun z => by cases z), t, fun pos cv hc => ?_⟩
  obtain ⟨u, rfl, hu⟩ := f pos cv hc
  exact ⟨u, rfl, s _ _ hu (ne_of hu h1 fun z => by cases z)⟩
section
variable {K : PySem.W.Frag}
theorem Drawn.same {y : V} {G G' : Hp} (h : Drawn K y G) (s : Same G G') : Drawn K y G' := by
  obtain ⟨t, v, b, x, e, h1, h2, h3⟩ := h
  exact ⟨t, v, b, x, e, same_seqT s h1, h2.same s, h3⟩
abbrev ItD := Addr × V × Bool × PyData
structure ItOk (K : PySem.W.Frag) (G : Hp) (i : ItD) : Prop where
  tp : SqT K G i.1 [i.2.1, .bl i.2.2.1]
  px : Px K G i.2.1 i.2.2.2
  is : isPieceD i.2.2.2 = i.2.2.1
theorem ItOk.same {G G' : Hp} {i : ItD} (h : ItOk K G i) (s : Same G G') : ItOk K G' i := ⟨same_seqT s h.tp, h.px.same s, h.is⟩
theorem drawn_list {G : Hp} : ∀ (ys : List V), (∀ y ∈ ys, Drawn K y G) → ∃ its : List ItD, ys = its.map (fun i => V.ref i.1) ∧ ∀ i ∈ its, ItOk K G i
  | [], _ => ⟨[], rfl, fun _ h => by cases h⟩
  | y :: r, h => by
    obtain ⟨t, v, b, x, rfl, h1, h2, h3⟩ := h y (List.mem_cons_self ..)
    obtain ⟨its, rfl, hi⟩ := drawn_list r fun u hu => h u (List.mem_cons_of_mem _ hu)
    exact ⟨(t, v, b, x) :: its, rfl, fun i hi' => by
      rcases List.mem_cons.mp hi' with e | e
      · rw [e]
        exact ⟨h1, h2, h3⟩
      · exact hi i e⟩
abbrev gPair (K : PySem.W.Frag) (i j : Nat) : TG := gTup K 2 (gCons (gName i) (gCons (gName j) gNil))
/-- the first part of each drawn pair -/
theorem lc_parts {a D : Addr} {its : List ItD} {σ : L2.St} {vs : List Nat} {H1 : Hp} {Qd : Hp → Prop} {i j : Nat} (hq : SqL K H1 a (its.map fun i => V.ref i.1)) (few : its.length ≤ 1000) (nD : H1 D = none)
    (hw : ∀ x y, wipe (((wipe σ vs).set i (some x)).set j (some y)) vs = wipe σ vs) (hi : ∀ x y, (((wipe σ vs).set i (some x)).set j (some y))[i]? = some (some x)) (h : ∀ it ∈ its, SqT K H1 it.1 [it.2.1, .bl it.2.2.1])
    (fin : ∀ H', H' D = some (.lst (its.map fun i => i.2.1)) → Same H1 H' → Qd H') : LcGoal (Itl K a) (gPair K i j) tYes (tVar i) vs σ H1 D Qd := by
  refine lc_list (xs := its.map fun i => V.ref i.1) (fun k H => Same H1 H ∧ H D = some (.lst ((its.take k).map fun i => i.2.1))) ⟨same_new nD, upd_same⟩ (fun k H _ p => p.1.seq hq) ?_ ?_
  · rintro k x H hx ⟨s, hD⟩
    rw [List.getElem?_map, Option.map_eq_some_iff] at hx
    obtain ⟨it, hit, rfl⟩ := hx
    refine ⟨it.1, _, rfl, same_seqT s (h it (List.mem_of_getElem? hit)), rfl, _, _, rfl, _, _, rfl, rfl, hw _ _, no_test fun H2 s2 => ?_⟩
    rw [if_pos rfl]
    refine ⟨_, hi _ _, _, s2 _ _ hD, small1000 (by rw [List.length_map, List.length_take]; omega), fun b o z => ?_, ?_⟩
    · rw [upd_ne (ne_of_none z nD)]
      exact s2 _ _ (s _ _ z)
    · rw [upd_same, List.take_add_one, hit, List.map_append]
      rfl
  · rintro H ⟨s, hD⟩
    refine fin H ?_ s
    rw [hD, List.length_map, List.take_length]
/-- whether one of them is no piece -/
theorem lc_wrong {a D : Addr} {its : List ItD} {σ : L2.St} {vs : List Nat} {H1 : Hp} {Qd : Hp → Prop} {i j : Nat} {tt : TT} (htt : ∀ (σ : L2.St) (H : Hp) (b : Bool) (R : Bool → Hp → Prop), σ[j]? = some (some (.bl b)) → R (!b) H → tt σ H R) (hq : SqL K H1 a (its.map fun i => V.ref i.1)) (few : its.length ≤ 1000) (nD : H1 D = none)
    (hw : ∀ x y, wipe (((wipe σ vs).set i (some x)).set j (some y)) vs = wipe σ vs) (hi : ∀ x y, (((wipe σ vs).set i (some x)).set j (some y))[i]? = some (some x)) (hj : ∀ x y, (((wipe σ vs).set i (some x)).set j (some y))[j]? = some (some y)) (h : ∀ it ∈ its, SqT K H1 it.1 [it.2.1, .bl it.2.2.1])
    (fin : ∀ H' ws, H' D = some (.lst ws) → ws.isEmpty = its.all (fun i => i.2.2.1) → Same H1 H' → Qd H') : LcGoal (Itl K a) (gPair K i j) tt (tVar i) vs σ H1 D Qd := by
  refine lc_list (xs := its.map fun i => V.ref i.1) (fun k H => Same H1 H ∧ ∃ ws, H D = some (.lst ws) ∧ ws.length ≤ k ∧ ws.isEmpty = (its.take k).all fun i => i.2.2.1) ⟨same_new nD, [], upd_same, Nat.le_refl _, rfl⟩ (fun k H _ p => p.1.seq hq) ?_ ?_
  · rintro k x H hx ⟨s, ws, hD, hl, he⟩
    rw [List.getElem?_map, Option.map_eq_some_iff] at hx
    obtain ⟨it, hit, rfl⟩ := hx
    have hk : k < its.length := (List.getElem?_eq_some_iff.mp hit).1
    have e1 : ((its.take (k + 1)).all fun i => i.2.2.1) = (((its.take k).all fun i => i.2.2.1) && it.2.2.1) := by
      rw [List.take_add_one, hit, List.all_append]
      show (_ && (it.2.2.1 && true)) = _
      rw [Bool.and_true]
    refine ⟨it.1, _, rfl, same_seqT s (h it (List.mem_of_getElem? hit)), rfl, _, _, rfl, _, _, rfl, rfl, hw _ _, htt _ _ it.2.2.1 _ (hj _ _) ?_⟩
    cases hb : it.2.2.1 with
    | true =>
      rw [if_neg (by decide)]
      exact ⟨s, ws, hD, by omega, by rw [e1, hb, Bool.and_true]; exact he⟩
    | false =>
      rw [if_pos (by decide)]
      refine ⟨_, hi _ _, ws, hD, small1000 (by omega), fun b o z => ?_, _, upd_same, by rw [List.length_append]; show ws.length + 1 ≤ k + 1; omega, ?_⟩
      · rw [upd_ne (ne_of_none z nD)]
        exact s _ _ z
      · rw [e1, hb, Bool.and_false]
        cases ws <;> rfl
  · rintro H ⟨s, ws, hD, hl, he⟩
    exact fin H ws hD (by rw [he, List.length_map, List.take_length]) s
theorem same_insF {H : Hp} {y dy C : Addr} (ny : H y = none) (nd : H dy = none) : Same H (upd (upd H dy (.own y)) y (.ins C dy [])) := fun b o e => by
  rw [upd_ne (ne_of_none e ny), upd_ne (ne_of_none e nd)]
  exact e
/-- what is kept, whatever the tape and the tables do -/
def Kd (d : Addr) (H H' : Hp) : Prop := ∀ b o, H b = some o → b ≠ d → notT o = true → H' b = some o
theorem kd_same {d : Addr} {H H' : Hp} (s : Same H H') : Kd d H H' := fun b o e _ _ => s b o e
theorem kd_but {d : Addr} {H H' : Hp} (s : But d H H') : Kd d H H' := fun b o e n _ => s b o e n
theorem kd_ext {d : Addr} {H H' : Hp} (s : ExtN H H') : Kd d H H' := fun b o e _ n => s b o e fun ps z => by rw [z] at n; cases n
theorem Kd.trans {d : Addr} {H H' H2 : Hp} (s : Kd d H H') (r : Kd d H' H2) : Kd d H H2 := fun b o e n t => r b o (s b o e n t) n t
theorem rm_kd {B : Addr → Prop} {H H' : Hp} {d : Addr} (hd : B d) (s : Kd d H H') : Same (rmB B H) (rmB B H') := fun a o h => by
  obtain ⟨b, e, n⟩ := rm_has h
  exact rm_out b (s a o e (fun z => b (by rw [z]; exact hd)) n) n
/-- a list of a text and True -/
def told (z : Str) : PyData := .list [.str z, .bool true]
theorem told_dp {H : Hp} {l : Addr} {z : Str} (h : H l = some (.lst [.str z, .bl true])) : Dp K H (.ref l) (told z) := .lst (.inl (.inl h)) (.cons (.str z) (.cons (.bl true) .nil))
abbrev lamQ : Str := (Str.ofString "law" ++ Str.ofString ".<locals>.") ++ Str.ofString "<lambda>"
/-- the last row of a turn: what is no list and no tuple -/
def tLast (Pt : Addr) : TS := fun D σ H => ∃ (d c : Addr) (n : Nat), σ[1]? = some (some (.ref d)) ∧ TapeAt H d c n ∧ n ≤ 800000 ∧ Tabs [(Pt, lamQ)] H ∧ ∀ H', TapeAt H' d c (n + 1) → Tabs [(Pt, lamQ)] H' → D.nx σ H'
end
end RL

namespace RL
open PySem L2 SX AddrMath VA LamX GR
/-! ## the data of pieces, and its repr -/
def pairD (q : Qp) : PyData := .tuple [.tuple (q.1.map PyData.str), .int q.2]
def farD (qs : List Qp) : PyData := .tuple (qs.map pairD)
structure Few (d : PyData) (k n : Nat) : Prop where
  sh : d.showable = true
  nd : d.hasDict = false
  lf : PyData.leavesShort 40 d = true
  bk : d.bulk ≤ n
  dp : d.depth ≤ k
structure FewL (ds : List PyData) (k n : Nat) : Prop where
  sh : PyData.showableAll ds = true
  nd : PyData.hasDictAll ds = false
  lf : PyData.leavesShortAll 40 ds = true
  bk : PyData.bulkAll ds ≤ n
  dp : PyData.depthAll ds ≤ k
theorem few_nil {k : Nat} : FewL [] k 0 := ⟨by simp [PyData.showableAll], by simp [PyData.hasDictAll], by simp [PyData.leavesShortAll], by simp [PyData.bulkAll], by simp [PyData.depthAll]⟩
theorem few_cons {d : PyData} {ds : List PyData} {k n m : Nat} (h : Few d k n) (t : FewL ds k m) : FewL (d :: ds) k (n + 1 + m) := by
  refine ⟨by simp [PyData.showableAll, h.sh, t.sh], by simp [PyData.hasDictAll, h.nd, t.nd], by simp [PyData.leavesShortAll, h.lf, t.lf], ?_, ?_⟩
  · have := h.bk
    have := t.bk
    simp only [PyData.bulkAll]
    omega
  · have := h.dp
    have := t.dp
    simp only [PyData.depthAll]
    omega
theorem few_tup {ds : List PyData} {k n : Nat} (h : FewL ds k n) : Few (.tuple ds) (k + 1) n := by
  refine ⟨by simp [PyData.showable, h.sh], by simp [PyData.hasDict, h.nd], by simp [PyData.leavesShort, h.lf], ?_, ?_⟩
  · have := h.bk
    simp only [PyData.bulk]
    omega
  · have := h.dp
    simp only [PyData.depth]
    omega
theorem few_all {α : Type} {f : α → PyData} {k n : Nat} : ∀ {l : List α}, (∀ x ∈ l, Few (f x) k n) → FewL (l.map f) k (l.length * (n + 1))
  | [], _ => by
    rw [List.length_nil, Nat.zero_mul]
    exact few_nil
  | x :: r, h => by
    have := few_cons (h x (List.mem_cons_self ..)) (few_all (l := r) fun y hy => h y (List.mem_cons_of_mem _ hy))
    rw [List.length_cons, Nat.add_mul, Nat.one_mul, Nat.add_comm (r.length * (n + 1))]
    exact this
theorem Few.mono {d : PyData} {k n k' n' : Nat} (h : Few d k n) (e : k ≤ k') (f : n ≤ n') : Few d k' n' := ⟨h.sh, h.nd, h.lf, Nat.le_trans h.bk f, Nat.le_trans h.dp e⟩
theorem FewL.mono {d : List PyData} {k n k' n' : Nat} (h : FewL d k n) (e : k ≤ k') (f : n ≤ n') : FewL d k' n' := ⟨h.sh, h.nd, h.lf, Nat.le_trans h.bk f, Nat.le_trans h.dp e⟩
theorem few_word {z : Str} {k : Nat} (h : isW z.cps.toList = true) : Few (.str z) k 8 := by
  have l := word_len h
  refine ⟨by simp [PyData.showable], by simp [PyData.hasDict], ?_, ?_, by simp [PyData.depth]⟩
  · simp only [PyData.leavesShort]
    rw [List.all_eq_true]
    intro c hc
    have hl := (isW_iff.mp h).2.2 c hc
    have h' : (decide (97 ≤ c) && decide (c ≤ 122)) = true := hl
    rw [Bool.and_eq_true, decide_eq_true_eq, decide_eq_true_eq] at h'
    exact decide_eq_true (Nat.lt_of_le_of_lt h'.2 (by decide))
  · have : z.cps.size ≤ 8 := l.2
    simp only [PyData.bulk]
    omega
theorem ofs_len (s : String) : (Str.ofString s).length = s.toList.length := by
  show ((PySem.cpsOfBytes 0 0 s.toByteArray.data.toList).toArray).size = _
  rw [PySem.cpsOfBytes_string, List.size_toArray, List.length_map]
theorem shown_len {n : Nat} (h : n < 10 ^ 40) : (PyData.int (Int.ofNat n)).shown.length ≤ 40 := by
  rw [PyData.shown_int, ofs_len]
  show (Nat.repr n).toList.length ≤ 40
  unfold Nat.repr
  rw [String.toList_ofList]
  exact (Nat.length_toDigits_le_iff (by decide) (by decide)).mpr h
theorem few_times {i : Int} {k : Nat} (h0 : 0 ≤ i) (h1 : i ≤ mostTimes) : Few (.int i) k 0 := by
  obtain ⟨n, rfl⟩ : ∃ n : Nat, i = Int.ofNat n := ⟨i.toNat, by show i = (i.toNat : Int); omega⟩
  have hn : n ≤ 1000000000000000000000000000000 := by
    have : ((n : Nat) : Int) ≤ 1000000000000000000000000000000 := h1
    omega
  refine ⟨?_, by simp [PyData.hasDict], ?_, by simp [PyData.bulk], by simp [PyData.depth]⟩
  · simp only [PyData.showable]
    refine decide_eq_true ?_
    show (n : Nat).log2 < 1920
    rcases Nat.eq_zero_or_pos n with e | e
    · rw [e]
      decide
    · exact (Nat.log2_lt (by omega)).mpr (Nat.lt_of_le_of_lt hn (by decide +kernel))
  · simp only [PyData.leavesShort]
    exact decide_eq_true (shown_len (Nat.lt_of_le_of_lt hn (by decide)))
theorem few_pair {q : Qp} (h : okQ q) : Few (pairD q) 2 80 := by
  obtain ⟨h1, h2, h3, h4, h5⟩ := h
  have a : FewL (q.1.map PyData.str) 0 72 := (few_all (n := 8) fun z hz => few_word (List.all_eq_true.mp h1 z hz)).mono (Nat.le_refl _) (by omega)
  exact (few_tup (few_cons ((few_tup a).mono (Nat.le_refl _) (Nat.le_refl _)) (few_cons (few_times h4 h5) few_nil))).mono (Nat.le_refl _) (by decide)
theorem few_far {qs : List Qp} {z : Str} (h : ∀ q ∈ qs, okQ q) (l : qs.length ≤ 20) (hz : isW z.cps.toList = true) : Few (.tuple [.str z, farD qs]) 4 2000 :=
  (few_tup (few_cons (few_word hz) (few_cons ((few_tup (few_all (n := 80) fun q hq => few_pair (h q hq))).mono (n' := 1620) (Nat.le_refl _) (by omega)) few_nil))).mono (Nat.le_refl _) (by decide)
theorem Few.repr {d : PyData} {k n : Nat} (h : Few d k n) (f : n ≤ 2000) : d.showable = true ∧ d.hasDict = false ∧ d.depth ≤ k ∧ d.shown.length ≤ sizeLine := by
  refine ⟨h.sh, h.nd, h.dp, Nat.le_trans (PyData.shown_le_bulk 40 (by decide) d h.lf) (size_ok ?_)⟩
  have := h.bk
  have : (40 + 2) * d.bulk + 40 = 42 * d.bulk + 40 := rfl
  omega
section
variable {K : PySem.W.Frag}
theorem dp_pair {H : Hp} {r : V} {q : Qp} (h : PairAt K H r q) : Dp K H r (pairD q) := by
  obtain ⟨b, t, rfl, h1, h2⟩ := h
  exact .tup h1 (.cons (.tup h2 (dps_strs q.1)) (.cons (.int _) .nil))
theorem dp_pairs {H : Hp} : ∀ {rs : List V} {qs : List Qp}, PairsAt K H rs qs → DpAll K H rs (qs.map pairD)
  | [], [], _ => .nil
  | [], _ :: _, h => by cases h.1
  | _ :: _, [], h => by cases h.1
  | r :: rs, q :: qs, h => .cons (dp_pair (h.2 0 r q rfl rfl)) (dp_pairs ⟨Nat.succ.inj h.1, fun i r' q' hr hq => h.2 (i + 1) r' q' hr hq⟩)
theorem total_le : ∀ {qs : List Qp}, (∀ q ∈ qs, okQ q) → 0 ≤ totalQ qs ∧ totalQ qs ≤ (qs.length : Int) * (8 * mostTimes)
  | [], _ => ⟨Int.le_refl _, Int.le_refl _⟩
  | q :: qs, h => by
    obtain ⟨a, b⟩ := total_le (qs := qs) fun u hu => h u (List.mem_cons_of_mem _ hu)
    obtain ⟨_, _, h3, h4, h5⟩ := h q (List.mem_cons_self ..)
    have e : totalQ (q :: qs) = (q.1.length : Int) * q.2 + totalQ qs := rfl
    have e2 : (((q :: qs).length : Nat) : Int) * (8 * mostTimes) = (qs.length : Int) * (8 * mostTimes) + 8 * mostTimes := by
      rw [List.length_cons, Int.natCast_add, Int.add_mul]
      rfl
    have m0 : (0 : Int) ≤ (q.1.length : Int) * q.2 := Int.mul_nonneg (Int.natCast_nonneg _) h4
    have m1 : (q.1.length : Int) * q.2 ≤ 8 * mostTimes := Int.le_trans (Int.mul_le_mul_of_nonneg_right (by omega : (q.1.length : Int) ≤ 8) h4) (Int.mul_le_mul_of_nonneg_left h5 (by decide))
    rw [e, e2]
    omega
theorem total_log {qs : List Qp} (h : ∀ q ∈ qs, okQ q) (l : qs.length ≤ 20) : (totalQ qs).natAbs.log2 < 1920 := by
  obtain ⟨a, b⟩ := total_le h
  have c : totalQ qs ≤ 160000000000000000000000000000000 := by
    have : (qs.length : Int) * (8 * mostTimes) ≤ 20 * (8 * mostTimes) := Int.mul_le_mul_of_nonneg_right (by omega) (by decide)
    have e : (20 : Int) * (8 * mostTimes) = 160000000000000000000000000000000 := by decide
    omega
  rcases Nat.eq_zero_or_pos (totalQ qs).natAbs with e | e
  · rw [e]
    decide
  · exact (Nat.log2_lt (by omega)).mpr (Nat.lt_of_le_of_lt (show (totalQ qs).natAbs ≤ 160000000000000000000000000000000 by omega) (by decide +kernel))
/-- pieces that are drawn, as an argument of the class -/
theorem ap_its {G : Hp} {l : Addr} {its : List ItD} (hx : SqA K G l (its.map fun i => i.2.1)) (few : its.length ≤ 1000) (h : ∀ it ∈ its, Px K G it.2.1 it.2.2.2 ∧ isPieceD it.2.2.2 = it.2.2.1) :
    AP K G (.ref l) (if (decide (its.length ≤ 20) && its.all fun i => i.2.2.1) = true then some (its.map fun i => qOf i.2.2.2) else none) := by
  refine .inr ⟨l, _, its.map fun i => i.2.2.2, rfl, hx, by rw [List.length_map, List.length_map], by rw [List.length_map]; exact few, fun i y u hy hu => ?_, ?_⟩
  · rw [List.getElem?_map, Option.map_eq_some_iff] at hy hu
    obtain ⟨it, h1, rfl⟩ := hy
    obtain ⟨it', h2, rfl⟩ := hu
    rw [h1] at h2
    cases h2
    exact (h it (List.mem_of_getElem? h1)).1
  · have e : (its.map fun i => i.2.2.2).all isPieceD = its.all fun i => i.2.2.1 := by
      rw [List.all_map]
      refine Bool.eq_iff_iff.mpr ?_
      rw [List.all_eq_true, List.all_eq_true]
      exact ⟨fun a it hit => by have := a it hit; rw [← (h it hit).2]; exact this, fun a it hit => by have := a it hit; show isPieceD _ = true; rw [(h it hit).2]; exact this⟩
    rw [e, List.length_map, List.map_map]
    rfl
/-- the rows of a turn whose pieces are right -/
def tBlk (K : PySem.W.Frag) (Pt : Addr) : TS := fun D σ H => ∃ (sa : V) (d c lp : Addr) (n : Nat) (its : List ItD) (z : Str) (Bw : Addr → Prop) (o2 o3 o4 o5 o6 o9 o10 o11 o12 o13 o14 : Option V),
  σ = [some sa, some (.ref d), o2, o3, o4, o5, o6, some (.ref lp), some (.str z), o9, o10, o11, o12, o13, o14] ∧ H lp = some (.lst (its.map fun i => i.2.1)) ∧ (∀ it ∈ its, ItOk K (rmB Bw H) it) ∧ (its.all fun i => i.2.2.1) = true ∧ its.length ≤ 20 ∧ isW z.cps.toList = true ∧ TapeAt H d c n ∧ Tabs [(Pt, lamQ)] H ∧
  ∀ H' p11 p12 p13 p14, TapeAt H' d c n → Tabs [(Pt, lamQ)] H' → D.nx [some sa, some (.ref d), o2, o3, o4, o5, o6, some (.ref lp), some (.str z), o9, o10, p11, p12, p13, p14] H'
/-- what is due: None, or a list -/
def Due0 (e : Bool) (dv : V) (H : Hp) : Prop := (e = true ∧ dv = .non) ∨ (e = false ∧ ∃ l, dv = .ref l ∧ H l = some (.lst [.str "state", .bl true]))
def Due1 (e g : Bool) (dv : V) (H : Hp) : Prop := (e = false ∧ ∃ l, dv = .ref l ∧ H l = some (.lst [.str "state", .bl true])) ∨ (e = true ∧ g = false ∧ ∃ l, dv = .ref l ∧ H l = some (.lst [.str "pieces", .bl true])) ∨ (e = true ∧ g = true ∧ dv = .non)
theorem FarAt.but {C : Addr} {H H' : Hp} {D x : Addr} {zs : List V} {z : Str} {qs : List Qp} (h : FarAt K C H x z qs) (hD : H D = some (.lst zs)) (b : But D H H') : FarAt K C H' x z qs := by
  obtain ⟨dx, tP, rs, h1, h2, h3⟩ := h
  exact ⟨dx, tP, rs, b _ _ h1 (ne_of h1 hD fun z => by cases z), sqt_ls hD b h2, h3.1, fun i r q hr hq => (h3.2 i r q hr hq).but hD b⟩
def litP : PyData := .tuple [.list [.str "a", .str "b"], .int 2]
def litQ : Qp := (["a", "b"], 2)
theorem lit_is : isPieceD litP = true := by decide +kernel
theorem lit_ok : okD 8 litP = true := by decide +kernel
theorem lit_q : qOf litP = litQ := by rfl
theorem lit_d : farD [litQ] = .tuple [.tuple [.tuple [.str "a", .str "b"], .int 2]] := rfl
theorem lit_sh : SeqAt.shaped (farD [litQ]) = true := by decide +kernel
theorem lit_eqv : PyData.eqv (farD [litQ]) (farD [litQ]) = true := by decide +kernel
theorem Due0.same {e : Bool} {dv : V} {H H' : Hp} (h : Due0 e dv H) (s : Same H H') : Due0 e dv H' := by
  rcases h with h | ⟨a, l, b, c⟩
  · exact .inl h
  · exact .inr ⟨a, l, b, s _ _ c⟩
theorem Due1.kd {e g : Bool} {dv : V} {H H' : Hp} {d c : Addr} {n : Nat} (h : Due1 e g dv H) (p : TapeAt H d c n) (s : Kd d H H') : Due1 e g dv H' := by
  rcases h with ⟨a, l, b, c⟩ | ⟨a, a2, l, b, c⟩ | h
  · exact .inl ⟨a, l, b, s _ _ c (tape_ne c p) rfl⟩
  · exact .inr (.inl ⟨a, a2, l, b, s _ _ c (tape_ne c p) rfl⟩)
  · exact .inr (.inr h)
def tDue (K : PySem.W.Frag) : TE := fun σ H Q => ∃ bv e, σ[8]? = some (some bv) ∧ flatV bv = true ∧ inV bv [.str "s", .str "abcdefgh"] = e ∧ ∀ dv H', Same H H' → Due0 e dv H' → Q dv H'
theorem due_does {X : Cx} (hX : X.K = K) {σ : L2.St} {H : Hp} {Q : VK} (h : tDue K σ H Q) :
    tIf (tTest (tOp (rIn X.K false) (tVar 8) (tLit K (.tuple [.str "s", .str "abcdefgh"])))) (tC .non) (tLst (tCons (tC (.str "state")) (tCons (tC (.bl true)) tNil))) σ H Q := by
  rw [hX]
  obtain ⟨bv, e, e8, flb, inb, q⟩ := h
  refine ⟨_, e8, fun tv H6 htv _ s6 => ?_⟩
  obtain ⟨ta, rfl, hta⟩ : ∃ ta, tv = .ref ta ∧ SqT K H6 ta [.str "s", .str "abcdefgh"] := by
    cases htv with
    | tup h1 h2 =>
      cases h2 with
      | cons a r =>
        cases a
        cases r with
        | cons b r =>
          cases b
          cases r
          exact ⟨_, rfl, h1⟩
  refine ⟨ta, _, rfl, .inr hta, flb, rfl, _, rfl, ?_⟩
  show if inV bv _ = true then _ else _
  rw [inb]
  cases e with
  | true => exact iteT (q _ _ s6 (.inl ⟨rfl, rfl⟩))
  | false => exact iteF ⟨by show 2 ≤ sizeLine; decide, fun l nl => q _ _ (s6.trans (same_new nl)) (.inr ⟨rfl, l, rfl, upd_same⟩)⟩
/-- if due is None and (len(drawn) > 20 or wrong != []): due = ["pieces", True] -/
def tBad : TS := fun D σ H => ∃ (D0 D3 : Addr) (its : List ItD) (ws : List V) (e : Bool) (dv : V) (o0 o1 o2 o3 o5 o6 o7 o8 o11 o12 o13 o14 : Option V), σ = [o0, o1, o2, o3, some (.ref D0), o5, o6, o7, o8, some dv, some (.ref D3), o11, o12, o13, o14] ∧
  H D0 = some (.lst (its.map fun i => V.ref i.1)) ∧ H D3 = some (.lst ws) ∧ ws.isEmpty = (its.all fun i => i.2.2.1) ∧ Due0 e dv H ∧ ∀ dv' H', Same H H' → Due1 e (decide (its.length ≤ 20) && its.all fun i => i.2.2.1) dv' H' → D.nx [o0, o1, o2, o3, some (.ref D0), o5, o6, o7, o8, some dv', some (.ref D3), o11, o12, o13, o14] H'
end
end RL

namespace RL
open PySem L2 SX AddrMath VA LamX GR
section
variable {P : Program} {w : World} {K : PySem.W.Frag} {mg : Str → Option Value} {base : Heap}
theorem pass_none {X : Cx} : Passes (L2.CX P w) X E0 := fun _ _ _ _ _ _ _ h => by
  obtain ⟨_, _, _, _, _, _, _, _, _, _, _, _, h⟩ := h
  exact h.elim
abbrev sLaw : Stmt := top 22
abbrev NL : List Str := ["_law_script", "_law_tape", "_law_turn", "_law_k", "_law_drawn", "_law_piece_here", "_law_is_one", "_law_parts", "_law_begin_here", "_law_due", "_law_wrong", "_law_made", "_law_words", "_law_times", "_law_kept"]
theorem scLaw : FnScope NL ["_law_script"] (defScope sLaw) := ⟨rfl, rfl, rfl, by decide +kernel, rfl, by decide +kernel, by decide +kernel⟩
def spLaw (K : PySem.W.Frag) (Pt : Addr) : Sp := fun vs H Q _ => ∃ (a : Addr) (ns : List Int), vs = [.ref a] ∧ SqL K H a (ns.map V.int) ∧ ns.length ≤ 63 ∧ H Pt = some (.tbl #[]) ∧ ∀ H', Q (.bl true) H'
theorem lam_free1 : ∀ y : Str × NameKind, y ∈ [(("_law_begin_here" : Str), NameKind.free), ("_law_parts", NameKind.free), ("Far", NameKind.globalImplicit)] → y.2 = NameKind.free → (defScope sLaw).names.lookup y.1 = some NameKind.cell ∨ (defScope sLaw).names.lookup y.1 = some NameKind.free := by
  decide +kernel
theorem lam_free2 : ∀ y : Str × NameKind, y ∈ [(("_law_tape" : Str), NameKind.free), ("Far", NameKind.globalImplicit), ("_law_pick", NameKind.globalImplicit)] → y.2 = NameKind.free → (defScope sLaw).names.lookup y.1 = some NameKind.cell ∨ (defScope sLaw).names.lookup y.1 = some NameKind.free := by
  decide +kernel
theorem begin_val {H : Hp} {v : V} {bd : PyData} (h : Dp K H v bd) (m : bd ∈ [PyData.str "s", .str "s", .str "abcdefgh", .str "", .str "A", .int 1, .none, .str "abcdefghi"]) :
    okD 8 bd = true ∧ flatV v = true ∧ inV v [.str "s", .str "abcdefgh"] = isWordD bd ∧ (isWordD bd = true → ∃ z, v = .str z ∧ bd = .str z) ∧ ∀ H', Dp K H' v bd := by
  simp only [List.mem_cons, List.not_mem_nil, or_false] at m
  rcases m with rfl | rfl | rfl | rfl | rfl | rfl | rfl | rfl <;> cases h <;> exact ⟨by decide +kernel, by decide +kernel, by decide +kernel, fun z => by first | exact ⟨_, rfl, rfl⟩ | exact absurd z (by decide +kernel), fun H' => by constructor⟩
/-- the def that calls a lambda, as it stands -/
structure FaultAt (K : PySem.W.Frag) (mg : Str → Option Value) (g : Addr) (oc : Value) (od : Option Addr) (dV kV doc pm : Value) (an : Option Addr) (cdv ct : Value) (sl : Array (Option Value)) : Prop where
  hm : mg "_law_fault" = some (.ref g)
  hk : PySem.W.keepIn K (.ref g) = true
  lk : List.lookup g K = some ⟨oc, od, .func (PySem.W.fnOf "_law_fault" "_law_fault" (defArgs sFault) (defBody sFault) (defScope sFault) dV kV doc pm an cdv ct), sl⟩
  hcg : PySem.W.codeIn K cdv "_law_fault" = true
  hb : Binds K (PySem.W.fnOf "_law_fault" "_law_fault" (defArgs sFault) (defBody sFault) (defScope sFault) dV kV doc pm an cdv ct) ["_law_call"] []
theorem q_law {f C CE fI fE fF cL Pt : Addr} {fdI : FuncData} {gK gZ : List Value → List Value → List Value} (T : FTxt K mg C) (B : Blt mg)
    (begin_ : Own P w K mg base CX0 1 "_law_begin" ["_law_script"] (spBegin K)) (pick : Own P w K mg base CX0 2 "_law_pick" ["_law_tape", "_law_some"] spPick) (piece : Own P w K mg base CX0 3 "_law_piece" ["_law_tape"] (spPiece K))
    (MI : Mk K C fI) (GI : FnOk P w K mg base (L2.CX P w) 5 fI fdI ["self", "state", "pieces"] (spFInit K C CE)) (bI : Binds K fdI ["self", "state", "pieces"] []) (bk : KBn K fdI ["self", "state", "pieces"] 1 ["state", "pieces"] gK (fun vs zs => vs ++ zs))
    (size_of : Own P w K mg base CX0 3 "size_of" ["far"] (spSizeOf K C)) (bz : KBn K size_of.fd ["far"] 0 ["far"] gZ (fun vs zs => vs ++ zs)) (fstate : OwnG P w K mg base C "state" (spGetF C nSt)) (fpieces : OwnG P w K mg base C "pieces" (spGetF C nPc))
    (TE : ErrC K mg "InvalidAddress" fField CE fE) (xf : XfC K CE) (xc : ExcC K CE) (kv : PySem.W.kitOne K (.ref CE) (.type "ValueError") = some true) (te : PySem.W.exmOne K (.ref CE) (.ref CE) = some true) (mv : mg "ValueError" = none) (mS : mg "sum" = none) (aE : PySem.W.findIn K (.ref C) "__eq__" = some (some (.builtin "object.__eq__"))) (oE : PySem.W.subIn K (.ref C) (.type "object") = some true)
    {ocF dVF kVF docF pmF cdF ctF : Value} {odF anF : Option Addr} {slF : Array (Option Value)} (FF : FaultAt K mg fF ocF odF dVF kVF docF pmF anF cdF ctF slF)
    (TB : TabB base mg cL Pt) (cd : Value) (ecd : cd = .ref cL) (Ar : Around) (fs : List Env) (s0 : Shared) (H : Hp) (a : Addr) (ns : List Int) (Q : VK) (E : XK) (hS : SqL K H a (ns.map V.int)) (hlen : ns.length ≤ 63) (hT : H Pt = some (.tbl #[])) (q : ∀ H', Q (.bl true) H') (quiet : Quiet Ar) (hr : Room 9 (Ar.deeper (PyProof.Rows.envOfC "law" (defScope sLaw) s0.heap.objs.size f cd))) :
    ∃ t, PSs (cxOf CX0 P w K mg base NL "law" (defScope sLaw) f cd Ar fs s0 H E).nox (defBody sLaw) t ∧ t { nx := fun _ H' => Q .non H', rt := Q } (start NL [.ref a]) H := by
  have hq := quiet_deeper (e := PyProof.Rows.envOfC "law" (defScope sLaw) s0.heap.objs.size f cd) quiet
  refine ⟨_, (pss_cons (ps_set (i := 1) scLaw.nd rfl (Or.inr rfl) (pe_call begin_.g (hr.mono (by decide)) rfl begin_.mg begin_.kp begin_.b .nil pass0 (pa_cons (pv 0) pa_nil)))
      (pss_cons (ps_for PassesOwn.never rfl (pi_range1 (by rfl) B.range_ (pa_cons pe_int pa_nil)) (pg_name (i := 2) scLaw.nd rfl (Or.inl rfl))
        (pss_cons (ps_setLc (i := 4) (own := [("_law_k", 3)]) (g := gName 3) (tt := tYes) rfl scLaw.nd rfl rfl (sw_true rfl rfl rfl (by decide +kernel)) (pi_range1 (by rfl) B.range_ (pa_cons (pe_call pick.g (hr.mono (by decide)) rfl pick.mg pick.kp pick.b .nil pass0 (pa_cons (pv 1) (pa_cons (litL (K := K) (lits_cons lit_int (lits_cons lit_int (lits_cons lit_int (lits_cons lit_int (lits_cons lit_int (lits_cons lit_int lits_nil)))))) (by decide)) pa_nil))) pa_nil))
          (blkOk_by (own := [("_law_k", 3)]) (N := NL) (sc := defScope sLaw) (by decide +kernel))
          (fun _ _ _ _ _ => (pg_name (i := 3) scLaw.nd rfl (Or.inl rfl))) (fun _ _ _ _ _ => pts_nil)
          (fun _ _ _ _ _ => (pe_call piece.g (hr.mono (by decide)) rfl piece.mg piece.kp piece.b .nil pass0 (pa_cons (pv 1) pa_nil))))
        (pss_cons (ps_set (i := 7) scLaw.nd rfl (Or.inr rfl) (pe_lc (own := [("_law_piece_here", 5), ("_law_is_one", 6)]) (g := gPair K 5 6) (tt := tYes) rfl scLaw.nd (pi_list (pv 4))
          (blkOk_by (own := [("_law_piece_here", 5), ("_law_is_one", 6)]) (N := NL) (sc := defScope sLaw) (by decide +kernel))
          (fun _ _ _ _ _ => (pg_tup rfl (pgs_cons (pg_name (i := 5) scLaw.nd rfl (Or.inl rfl)) (pgs_cons (pg_name (i := 6) scLaw.nd rfl (Or.inl rfl)) pgs_nil)))) (fun _ _ _ _ _ => pts_nil)
          (fun _ _ _ _ _ => (pv 5))))
        (pss_cons (ps_set (i := 8) scLaw.nd rfl (Or.inr rfl) (pe_call pick.g (hr.mono (by decide)) rfl pick.mg pick.kp pick.b .nil pass0 (pa_cons (pv 1) (pa_cons (litL (K := K) (lits_cons lit_str (lits_cons lit_str (lits_cons lit_str (lits_cons lit_str (lits_cons lit_str (lits_cons lit_int (lits_cons lit_non (lits_cons lit_str lits_nil)))))))) (by decide)) pa_nil))))
        (pss_cons (ps_set (i := 9) scLaw.nd rfl (Or.inl rfl) (pe_by (tDue K) (pe_ifExp (pt_cmpR op_in_seq (pv 8) (lit_tup (K := K) (lits_cons lit_str (lits_cons lit_str lits_nil)) (by decide)) (by rfl)) pe_non (pe_lst (pa_cons pe_str (pa_cons pe_bl pa_nil)))) (fun _ _ _ h => due_does (X := (cxOf CX0 P w K mg base NL "law" (defScope sLaw) f cd Ar fs s0 H E).nox) rfl h)))
        (pss_cons (ps_setLc (i := 10) (own := [("_law_piece_here", 5), ("_law_is_one", 6)]) (g := gPair K 5 6) rfl scLaw.nd rfl rfl (sw_true rfl rfl rfl (by decide +kernel)) (pi_list (pv 4))
          (blkOk_by (own := [("_law_piece_here", 5), ("_law_is_one", 6)]) (N := NL) (sc := defScope sLaw) (by decide +kernel))
          (fun _ _ _ _ _ => (pg_tup rfl (pgs_cons (pg_name (i := 5) scLaw.nd rfl (Or.inl rfl)) (pgs_cons (pg_name (i := 6) scLaw.nd rfl (Or.inl rfl)) pgs_nil)))) (fun _ _ _ _ _ => pts_one (pt_not (pt_val (pv 6))))
          (fun _ _ _ _ _ => (pv 5)))
        (pss_cons (ps_by tBad (ps_if (PW.pt (pw_and (pt_cmpR op_isN (pv 9) pe_non (nomark _)) (pw_and1 (PW.pt (pw_or (pt_cmpR op_gt (pe_callB call_len_seq (by rfl) B.len_ (by decide +kernel) (pa_cons (pv 4) pa_nil)) pe_int (nomark _)) (pw_or1 (pt_cmpR (op_neNil (Nat.lt_of_le_of_lt (Nat.le_add_right _ _) hr.units)) (pv 10) (pe_lst pa_nil) (nomark _)))))))) (pss_one (ps_set (i := 9) scLaw.nd rfl (Or.inl rfl) (pe_lst (pa_cons pe_str (pa_cons pe_bl pa_nil))))) pss_nil) (fun D σ H h => by
          obtain ⟨D0, D3, its, ws, e, dv, o0, o1, o2, o3, o5, o6, o7, o8, o11, o12, o13, o14, rfl, hD0, hD3, he, du, nx⟩ := h
          rcases du with ⟨rfl, rfl⟩ | ⟨rfl, l, rfl, hl⟩
          · refine ⟨_, rfl, rfl, _, rfl, iteT ⟨_, rfl, D0, _, rfl, .inl (.inl (.inl hD0)), _, _, rfl, rfl, _, rfl, ite2 (fun hb => ?_) (fun hb => ?_)⟩⟩
            · have g0 : (decide (its.length ≤ 20) && its.all fun i => i.2.2.1) = false := by
                have := of_decide_eq_true hb
                rw [List.length_map] at this
                rw [decide_eq_false (by omega), Bool.false_and]
              exact iteT ⟨by show 2 ≤ sizeLine; decide, fun l nl => nx _ _ (same_new nl) (.inr (.inl ⟨rfl, g0, l, rfl, upd_same⟩))⟩
            · have gl : decide (its.length ≤ 20) = true := by
                have : ¬ (20 : Int) < ((its.map fun i => V.ref i.1).length : Int) := fun z => hb (decide_eq_true z)
                rw [List.length_map] at this
                exact decide_eq_true (by omega)
              refine ⟨_, rfl, Nat.zero_le _, fun l2 nl2 => ?_⟩
              have sl2 := same_new (o := .lst []) nl2
              refine ⟨D3, l2, ws, rfl, rfl, sl2 _ _ hD3, upd_same, _, rfl, ite2 (fun hb2 => ?_) (fun hb2 => ?_)⟩
              · have g0 : (decide (its.length ≤ 20) && its.all fun i => i.2.2.1) = false := by
                  rw [← he, show ws.isEmpty = false by cases q : ws.isEmpty with | true => rw [q] at hb2; cases hb2 | false => rfl, Bool.and_false]
                exact ⟨by show 2 ≤ sizeLine; decide, fun l nl => nx _ _ (sl2.trans (same_new nl)) (.inr (.inl ⟨rfl, g0, l, rfl, upd_same⟩))⟩
              · have g1 : (decide (its.length ≤ 20) && its.all fun i => i.2.2.1) = true := by
                  rw [← he, gl, show ws.isEmpty = true by cases q : ws.isEmpty with | false => rw [q] at hb2; exact absurd rfl hb2 | true => rfl]
                  rfl
                exact nx _ _ sl2 (.inr (.inr ⟨rfl, g1, rfl⟩))
          · exact ⟨_, rfl, rfl, _, rfl, iteF (iteF (nx _ H (Same.refl H) (.inl ⟨rfl, l, rfl, hl⟩)))⟩))
        (pss_cons (ps_if (pt_cmpR (op_neD hr.units) (pe_lamcall (x := "_law_fault") (T := [(Pt, lamQ)]) (k := 6) (by rfl) FF.hm FF.hk FF.lk FF.hcg FF.hb scFault rfl (Or.inl rfl) (gives_fault (X := (cxOf CX0 P w K mg base NL "law" (defScope sLaw) f cd Ar fs s0 H E).nox) TE xf xc kv te B.isinstance_ mv) TB ecd (List.mem_singleton.mpr rfl) (fun p hp _ => by rw [List.mem_singleton.mp hp]; rfl) (hr.mono (by decide)) ⟨rfl, rfl, rfl, by decide +kernel, lam_free1⟩ rfl (fun _ _ _ _ _ => rfl)
          (fun _ _ _ _ _ _ _ hr6 => pe_make MI GI hr6 (by rfl) T.mgC bI .nil (passes_of (takes_of rfl rfl rfl rfl)) (pa_cons (pv 8) (pa_cons (pv 7) pa_nil)))) (pv 9) (nomark _)) (pss_one (ps_ret pe_bl)) pss_nil)
        (pss_cons (ps_if (pt_cmpR op_isN (pv 9) pe_non (nomark _)) (pss_by (tBlk K Pt) (pss_cons (ps_set (i := 11) scLaw.nd rfl (Or.inl rfl) (pe_makeK0 MI GI (hr.mono (by decide)) (by rfl) T.mgC bk pass_none (pk_cons (pv 8) (pk_cons (pe_callTy call_tupA (by rfl) B.tuple_ (by decide +kernel) (pa_cons (pv 7) pa_nil)) pk_nil))))
          (pss_cons (ps_set (i := 14) scLaw.nd rfl (Or.inl rfl) (pe_callTy call_tupA (by rfl) B.tuple_ (by decide +kernel) (pa_cons (pe_lc (own := [("_law_words", 12), ("_law_times", 13)]) (g := gPair K 12 13) (tt := tYes) rfl scLaw.nd (pi_seq (pv 7))
          (blkOk_by (own := [("_law_words", 12), ("_law_times", 13)]) (N := NL) (sc := defScope sLaw) (by decide +kernel))
          (fun _ _ _ _ _ => (pg_tup rfl (pgs_cons (pg_name (i := 12) scLaw.nd rfl (Or.inl rfl)) (pgs_cons (pg_name (i := 13) scLaw.nd rfl (Or.inl rfl)) pgs_nil)))) (fun _ _ _ _ _ => pts_nil)
          (fun _ _ _ _ _ => (pe_tup (pa_cons (pe_callTy (call_tupAK (K := K) rfl) (by rfl) B.tuple_ (by decide +kernel) (pa_cons (pv 12) pa_nil)) (pa_cons (pv 13) pa_nil))))) pa_nil)))
          (pss_cons (ps_if (PW.pt (pw_or (pt_cmpR (NK.op_eqI aE oE (Nat.lt_of_le_of_lt (Nat.le_add_right _ _) hr.units)) (pv 11) (pe_make MI GI (hr.mono (by decide)) (by rfl) T.mgC bI .nil pass_none (pa_cons (pv 8) (pa_cons (pv 7) pa_nil))) (nomark _)) (pw_or1 (pt_cmpR op_ne (pe_callB (call_reprD hq) (by rfl) B.repr_ (by decide +kernel) (pa_cons (pe_tup (pa_cons (pe_prop (pv 11) T.cl fstate.prop fstate.ok (hr.mono (by decide)) fstate.b .nil pass0 rfl) (pa_cons (pe_prop (pv 11) T.cl fpieces.prop fpieces.ok (hr.mono (by decide)) fpieces.b .nil pass0 rfl) pa_nil))) pa_nil)) (pe_callB (call_reprD hq) (by rfl) B.repr_ (by decide +kernel) (pa_cons (pe_tup (pa_cons (pv 8) (pa_cons (pv 14) pa_nil))) pa_nil)) (nomark _))))) (pss_one (ps_ret pe_bl)) pss_nil)
          (pss_one (ps_if (pt_cmpR op_ne (pe_callB SkE.call_repr_int (by rfl) B.repr_ (by decide +kernel) (pa_cons (pe_callK0 size_of.g (hr.mono (by decide)) rfl size_of.mg size_of.kp bz pass0 (pk_cons (pv 11) pk_nil)) pa_nil)) (pe_callB SkE.call_repr_int (by rfl) B.repr_ (by decide +kernel) (pa_cons (pe_callB (cr_sum rfl) (by rfl) mS (by decide +kernel) (pa_cons (pe_lc (own := [("_law_words", 12), ("_law_times", 13)]) (g := gPair K 12 13) (tt := tYes) rfl scLaw.nd (pi_seq (pv 14))
          (blkOk_by (own := [("_law_words", 12), ("_law_times", 13)]) (N := NL) (sc := defScope sLaw) (by decide +kernel))
          (fun _ _ _ _ _ => (pg_tup rfl (pgs_cons (pg_name (i := 12) scLaw.nd rfl (Or.inl rfl)) (pgs_cons (pg_name (i := 13) scLaw.nd rfl (Or.inl rfl)) pgs_nil)))) (fun _ _ _ _ _ => pts_nil)
          (fun _ _ _ _ _ => (pe_op op_mul (pe_callB (call_len_seqK (K := K) rfl) (by rfl) B.len_ (by decide +kernel) (pa_cons (pv 12) pa_nil)) (pv 13)))) pa_nil)) pa_nil)) (nomark _)) (pss_one (ps_ret pe_bl)) pss_nil))))) (fun D σ H h => by
          obtain ⟨sa, d, c, lp, n, its, z, Bw, o2, o3, o4, o5, o6, o9, o10, o11, o12, o13, o14, rfl, hlp, hits, flags, few, hz, p, tb, nx⟩ := h
          have pq : ∀ it ∈ its, ∃ a b, it.2.1 = .ref a ∧ SqT K H a [.ref b, .int (qOf it.2.2.2).2] ∧ SqA K H b (sV (qOf it.2.2.2).1) ∧ okQ (qOf it.2.2.2) := fun it hit => piece_parts ((hits it hit).px.same rm_le) ((hits it hit).is.trans (List.all_eq_true.mp flags it hit))
          have okq : ∀ q ∈ its.map (fun i => qOf i.2.2.2), okQ q := fun q hq => by
            obtain ⟨it, hit, rfl⟩ := List.mem_map.mp hq
            obtain ⟨_, _, _, _, _, o⟩ := pq it hit
            exact o
          have ap : ∀ {G l}, Same H G → SqA K G l (its.map fun i => i.2.1) → AP K G (.ref l) (some (its.map fun i => qOf i.2.2.2)) := fun {G l} s hx => by
            have := ap_its hx (by omega) (fun it hit => ⟨((hits it hit).px.same rm_le).same s, (hits it hit).is⟩)
            rw [flags, decide_eq_true few] at this
            exact this
          have lq : (its.map fun i => qOf i.2.2.2).length ≤ 20 := by rw [List.length_map]; exact few
          have qm : ∀ (i : Nat) (qq : Qp), (its.map fun i => qOf i.2.2.2)[i]? = some qq → ∃ it, its[i]? = some it ∧ qOf it.2.2.2 = qq := fun i qq h => by
            rw [List.getElem?_map, Option.map_eq_some_iff] at h
            exact h
          -- made
          refine ⟨_, rfl, _, rfl, lp, _, rfl, .inl (.inl (.inl hlp)), fun t H1 ht s1 => ⟨rfl, rfl, fun x dx nx1 ndx ne => ?_⟩⟩
          have sN := same_insF (C := C) nx1 ndx
          refine ⟨x, dx, .str z, .ref t, .str z, some (its.map fun i => qOf i.2.2.2), rfl, upd_same, .inl ⟨.str z, ok_word hz 8⟩, ap (s1.trans sN) (.inr (same_seqT sN ht)), fun e => absurd (show isW z.cps.toList = true from hz) (by rw [show isW z.cps.toList = false from e]; decide), (fun _ e => by cases e), fun z' rs ez _ er H2 fr hF => ?_⟩
          cases ez
          cases er
          refine ⟨rfl, ?_⟩
          have s2 : Same H H2 := fun b o e => fr b o (sN _ _ (s1 _ _ e)) (ne_of_none (s1 _ _ e) nx1)
          have lqi : (its.map fun i => qOf i.2.2.2).length = its.length := List.length_map ..
          generalize its.map (fun i => qOf i.2.2.2) = qs at okq ap lq qm hF lqi
          -- kept
          refine ⟨_, rfl, ?_⟩
          refine seq_rel (.inl (.inl (.inl (s2 _ _ hlp)))) (by rw [List.length_map]; omega) (fun i y H => ∀ qq, qs[i]? = some qq → PairAt K H y qq) (fun _ _ _ _ s h u hu => (h u hu).same s) (fun D nD i y H H' zs hD b h u hu => (h u hu).but hD b) (fun i y hy G' sG R hR => ?_) fun D2 G ys nD hD hly hrel s3 => ?_
          · rw [List.getElem?_map, Option.map_eq_some_iff] at hy
            obtain ⟨it, hit, rfl⟩ := hy
            obtain ⟨a', b', e, t1, t2, _⟩ := pq it (List.mem_of_getElem? hit)
            have s2' := s2.trans sG
            rw [e]
            refine ⟨a', _, rfl, same_seqT s2' t1, rfl, _, _, rfl, _, _, rfl, rfl, rfl, ?_⟩
            refine ⟨_, rfl, b', _, rfl, t2.same s2', fun t G3 ht s3 => ⟨_, rfl, by show 2 ≤ sizeLine; decide, fun r nr => ?_⟩⟩
            refine hR _ _ (s3.trans (same_new nr)) fun u' hu' => ?_
            obtain ⟨it', hit', rfl⟩ := qm i u' hu'
            rw [hit] at hit'
            cases hit'
            exact ⟨r, t, rfl, .inl (.inl upd_same), same_seqT (same_new nr) ht⟩
          refine ⟨D2, ys, rfl, .inl (.inl (.inl hD)), fun tk H3 htk s4 => ?_⟩
          have hP3 : PairsAt K H3 ys qs := ⟨by rw [hly, List.length_map, lqi], fun i r qq hr hqq => (hrel i r hr qq hqq).same s4⟩
          have s23 : Same H2 H3 := s3.trans s4
          obtain ⟨dxm, tPm, rsm, hm, htm, hPm⟩ := hF.same s23
          have few3 : ys.length ≤ 1000 := by have := hP3.1; omega
          clear hrel hly hD hF fr
          have s03 := s2.trans s23
          have rm : ∀ {k : Nat}, k ≤ 64 → (Ar.deeper (PyProof.Rows.envOfC "law" (defScope sLaw) s0.heap.objs.size f cd)).units + k < cLine := fun h => Nat.lt_of_le_of_lt (Nat.add_le_add_left h _) hr.units
          -- made == Far(begin, parts)
          refine ⟨_, rfl, _, rfl, _, rfl, fun x2 dx2 nx2 ndx2 ne2 => ?_⟩
          have sN2 := same_insF (C := C) nx2 ndx2
          refine ⟨x2, dx2, .str z, .ref lp, .str z, some qs, rfl, upd_same, .inl ⟨.str z, ok_word hz 8⟩, ap (s03.trans sN2) (.inl (.inl (.inl (sN2 _ _ (s03 _ _ hlp))))), fun e => absurd (show isW z.cps.toList = true from hz) (by rw [show isW z.cps.toList = false from e]; decide), (fun _ e => by cases e), fun z' rs ez _ er H4 fr2 hF2 => ?_⟩
          cases ez
          cases er
          have s34 : Same H3 H4 := fun b o e => fr2 b o (sN2 _ _ e) (ne_of_none e nx2)
          obtain ⟨dxn, tPn, rsn, hn2, _⟩ := hF2
          have nab : x ≠ x2 := fun e => by rw [e, nx2] at hm; cases hm
          have hm4 := s34 _ _ hm
          refine ⟨rfl, x, x2, dxm, dxn, _, _, rfl, rfl, nab, hm4, hn2, _, rfl, iteF ?_⟩
          -- repr
          have far4 : FarAt K C H4 x z qs := ⟨dxm, tPm, rsm, hm4, same_seqT s34 htm, hPm.same s34⟩
          obtain ⟨f1, f2, f3, f4⟩ := (few_far okq lq hz).repr (Nat.le_refl _)
          have dfar : ∀ {G : Hp} {l t : Addr} {rs : List V}, G l = some (.tup [.str z, .ref t]) → SqT K G t rs → PairsAt K G rs qs → Dp K G (.ref l) (.tuple [.str z, farD qs]) := fun e1 e2 e3 => .tup (.inl (.inl e1)) (.cons (.str z) (.cons (.tup e2 (dp_pairs e3)) .nil))
          refine ⟨_, rfl, x, dxm, _, rfl, hm4, x, dxm, _, _, rfl, hm4, rfl, _, rfl, x, dxm, _, rfl, hm4, x, dxm, _, _, rfl, hm4, rfl, by show 2 ≤ sizeLine; decide, fun l1 nl1 => ?_⟩
          have t1 := same_new (o := .tup [.str z, .ref tPm]) nl1
          refine ⟨l1, _, rfl, dfar upd_same (same_seqT t1 (same_seqT s34 htm)) ((hPm.same s34).same t1), f1, f2, rm (show (PyData.tuple [.str z, farD qs]).depth + 1 ≤ 64 by omega), f4, ?_⟩
          refine ⟨_, rfl, _, rfl, by show 2 ≤ sizeLine; decide, fun l2 nl2 => ?_⟩
          have t2 := same_new (o := .tup [.str z, .ref tk]) nl2
          have s35 := (s34.trans t1).trans t2
          refine ⟨l2, _, rfl, dfar upd_same (same_seqT s35 htk) (hP3.same s35), f1, f2, rm (show (PyData.tuple [.str z, farD qs]).depth + 1 ≤ 64 by omega), f4, rfl, _, rfl, ?_⟩
          rw [decide_eq_true rfl]
          refine iteF ?_
          -- sizes
          have far5 := (far4.same t1).same t2
          have small : ∀ q ∈ qs, q.1.length ≤ 1000 := fun q hq => by have := (okq q hq).2.2.1; omega
          refine ⟨_, rfl, rfl, x, z, qs, rfl, far5, by omega, small, fun H6 s6 => ⟨_, rfl, total_log okq lq, _, rfl, ?_⟩⟩
          have s36 := s35.trans s6
          have hP6 := hP3.same s36
          refine seq_rel (.inr (same_seqT s36 htk)) few3 (fun i y _ => ∀ qq, qs[i]? = some qq → y = .int (sizeQ qq)) (fun _ _ _ _ _ h => h) (fun _ _ _ _ _ _ _ _ _ h => h) (fun i y hy G sG R hR => ?_) fun D5 G ys5 nD5 hD5 hly5 hrel5 sG => ?_
          · obtain ⟨qq, hqq⟩ : ∃ u, qs[i]? = some u := by
              have := (List.getElem?_eq_some_iff.mp hy).1
              have l := hP6.1
              exact ⟨qs[i]'(by omega), List.getElem?_eq_getElem (by omega)⟩
            obtain ⟨b, t', rfl, h1, h2⟩ := (hP6.2 i y qq hy hqq).same sG
            have sm := small qq (List.mem_of_getElem? hqq)
            refine ⟨b, _, rfl, h1, rfl, _, _, rfl, _, _, rfl, rfl, rfl, ?_⟩
            refine ⟨_, rfl, t', _, rfl, .inr h2, _, rfl, _, _, rfl, rfl, .inl ⟨by omega, ?_⟩, ?_⟩
            · rw [List.length_map]
              omega
            · refine hR _ G (Same.refl G) fun qq' h' => ?_
              rw [hqq] at h'
              cases h'
              show V.int _ = V.int _
              rw [List.length_map]
              rfl
          · rw [sizes_eq (by rw [hly5, hP6.1]) hrel5] at hD5
            refine ⟨D5, _, rfl, .inl (.inl hD5), ?_⟩
            have sAll := (s03.trans s36).trans sG
            refine ⟨_, rfl, total_log okq lq, rfl, _, rfl, ?_⟩
            rw [show (List.map sizeQ qs).sum = totalQ qs from rfl, decide_eq_true rfl]
            exact iteF (nx _ _ _ _ _ (p.keep sAll) (tabs_same tb sAll)))) pss_nil)
        (pss_by (tLast Pt) (pss_one (ps_if (pt_cmpR (op_neD hr.units) (pe_lamcall (x := "_law_fault") (T := [(Pt, lamQ)]) (k := 6) (by rfl) FF.hm FF.hk FF.lk FF.hcg FF.hb scFault rfl (Or.inl rfl) (gives_fault (X := (cxOf CX0 P w K mg base NL "law" (defScope sLaw) f cd Ar fs s0 H E).nox) TE xf xc kv te B.isinstance_ mv) TB ecd (List.mem_singleton.mpr rfl) (fun p hp _ => by rw [List.mem_singleton.mp hp]; rfl) (hr.mono (by decide)) ⟨rfl, rfl, rfl, by decide +kernel, lam_free2⟩ rfl (fun _ _ _ _ _ => rfl)
          (fun _ _ _ _ _ _ _ hr6 => pe_make MI GI hr6 (by rfl) T.mgC bI .nil (passes_of (takes_of rfl rfl rfl rfl)) (pa_cons pe_str (pa_cons (pe_call pick.g (hr6.mono (by decide)) rfl pick.mg pick.kp pick.b .nil pass0 (pa_cons (pv 1) (pa_cons (pe_lst (pa_cons pe_non (pa_cons pe_str (pa_cons pe_dnewK (pa_cons pe_int (pa_cons pe_bl (pa_cons pe_str pa_nil))))))) pa_nil))) pa_nil)))) (pe_lst (pa_cons pe_str (pa_cons pe_bl pa_nil))) (nomark _)) (pss_one (ps_ret pe_bl)) pss_nil)) (fun D σ H h => by
          obtain ⟨d, c, n, e1, p, hn, tb, nx⟩ := h
          refine ⟨tb, fun H1 x1 tb1 E' Q' hE hQ => ?_⟩
          have p1 := p.ext x1
          refine ⟨_, e1, fun ed ne => ⟨by show 6 ≤ sizeLine; decide, fun l nl => ?_⟩⟩
          have s2 := same_new (o := .dK []) ne
          have s3 := same_new (o := .lst [.non, .str "ab", .ref ed, .int 1, .bl true, .str "s"]) nl
          refine ⟨d, c, l, _, _, rfl, (p1.keep s2).keep s3, by omega, upd_same, by show 0 < 6; decide, by show 6 < 1000000; decide, fun v H2 mv p2 b2 => ?_⟩
          have tb2 : Tabs [(Pt, lamQ)] H2 := tabs_but (tabs_same (tabs_same tb1 s2) s3) ((p1.keep s2).keep s3) b2
          have hed := b2 _ _ (s3 _ _ upd_same) (fun z => p1.pen.ne (by rw [← z]; exact ne))
          obtain ⟨vd, hv, hvs⟩ : ∃ vd, Vx K H2 v vd ∧ isSeqD vd = false := by
            simp only [List.mem_cons, List.not_mem_nil, or_false] at mv
            rcases mv with rfl | rfl | rfl | rfl | rfl | rfl
            · exact ⟨.none, .inl ⟨.non, by rw [okD]⟩, rfl⟩
            · exact ⟨.str "ab", .inl ⟨.str _, by decide +kernel⟩, rfl⟩
            · exact ⟨.dict [], .inr ⟨ed, _, rfl, hed, rfl⟩, rfl⟩
            · exact ⟨.int 1, .inl ⟨.int _, by rw [okD]⟩, rfl⟩
            · exact ⟨.bool true, .inl ⟨.bl _, by rw [okD]⟩, rfl⟩
            · exact ⟨.str "s", .inl ⟨.str _, by decide +kernel⟩, rfl⟩
          intro x dx nx' ndx ndx'
          have s4 : Same H2 (upd (upd H2 dx (.own x)) x (.ins C dx [])) := same_insF nx' ndx
          refine ⟨x, dx, .str "s", v, .str "s", none, rfl, upd_same, .inl ⟨.str _, by decide +kernel⟩, .inl ⟨vd, hv.same s4, hvs, rfl⟩, fun z => absurd z (by decide +kernel), fun _ _ d' H3 s5 hd nd => hE _ _ _ hd fun l3 nl3 => ?_, fun _ _ _ _ z => by cases z⟩
          have s6 := same_new (o := .lst [.str "pieces", .bl true]) nl3
          refine ⟨by show 2 ≤ sizeLine; decide, fun l4 nl4 => ?_⟩
          have s7 := same_new (o := .lst [.str "pieces", .bl true]) nl4
          refine ⟨told "pieces", told "pieces", told_dp (s7 _ _ upd_same), told_dp upd_same, by decide +kernel, by decide +kernel, _, rfl, ?_⟩
          have sA := ((s4.trans s5).trans s6).trans s7
          exact iteF (nx _ ((p2.keep sA).mono (by omega)) (tabs_same tb2 sA)))))))))))))
      (pss_cons (ps_asg (pe_tup (pa_cons (pe_lst (pa_cons pe_str (pa_cons pe_str pa_nil))) (pa_cons (pe_lst pa_nil) pa_nil))) (pg_tup (n := 2) rfl (pgs_cons (pg_name (i := 12) scLaw.nd rfl (Or.inl rfl)) (pgs_cons (pg_name (i := 7) scLaw.nd rfl (Or.inr rfl)) pgs_nil))))
      (pss_cons (ps_expr (pe_bm PySem.F.plainAttrs_list PySem.F.slot_list_append PySem.F.type_list_append mt_append (pv 7) (pa_cons (pe_tup (pa_cons (pv 12) (pa_cons pe_int pa_nil))) pa_nil)))
      (pss_cons (ps_set (i := 11) scLaw.nd rfl (Or.inl rfl) (pe_make MI GI (hr.mono (by decide)) (by rfl) T.mgC bI .nil pass_none (pa_cons pe_str (pa_cons (pv 7) pa_nil))))
      (pss_cons (ps_expr (pe_bm PySem.F.plainAttrs_list PySem.F.slot_list_append PySem.F.type_list_append mt_append (pv 12) (pa_cons pe_str pa_nil)))
      (pss_cons (ps_expr (pe_bm PySem.F.plainAttrs_list PySem.F.slot_list_append PySem.F.type_list_append mt_append (pv 7) (pa_cons (pe_tup (pa_cons (pe_lst (pa_cons pe_str pa_nil)) (pa_cons pe_int pa_nil))) pa_nil)))
      (pss_one (ps_ret (pe_and (pe_cmpR (op_eqD hr.units) (pe_prop (pv 11) T.cl fpieces.prop fpieces.ok (hr.mono (by decide)) fpieces.b .nil pass0 rfl) (lit_tup (K := K) (lits_cons (lit_tup (lits_cons (lit_tup (lits_cons lit_str (lits_cons lit_str lits_nil)) (by decide)) (lits_cons lit_int lits_nil)) (by decide)) lits_nil) (by decide)) (nomark _)) (pe_and (pe_cmpR op_eq (pe_call size_of.g (hr.mono (by decide)) rfl size_of.mg size_of.kp size_of.b .nil pass0 (pa_cons (pv 11) pa_nil)) pe_int (nomark _)) (pe_one (pe_cmpR op_eq (pe_call size_of.g (hr.mono (by decide)) rfl size_of.mg size_of.kp size_of.b .nil pass0 (pa_cons (pe_make MI GI (hr.mono (by decide)) (by rfl) T.mgC bI .nil pass_none (pa_cons pe_str (pa_cons (pe_lst pa_nil) pa_nil))) pa_nil)) pe_int (nomark _)))))))))))))), ?_⟩
  refine ⟨_, rfl, a, ns, rfl, hS, hlen, fun d c H1 p1 s1 nd1 => ?_⟩
  have tb1 : Tabs [(Pt, lamQ)] H1 := fun p hp => by
    rw [List.mem_singleton.mp hp]
    exact TabS.nil (s1 _ _ hT)
  refine ⟨8, rfl, by decide, by decide, for_range (n := 8) (fun i σ H' => ∃ o2 o3 o4 o5 o6 o7 o8 o9 o10 o11 o12 o13 o14 : Option V, σ = [some (.ref a), some (.ref d), o2, o3, o4, o5, o6, o7, o8, o9, o10, o11, o12, o13, o14] ∧ TapeAt H' d c (i * 1000) ∧ Tabs [(Pt, lamQ)] H')
    ⟨none, none, none, none, none, none, none, none, none, none, none, none, none, rfl, p1.mono (Nat.zero_le _), tb1⟩ ?_ ?_⟩
  · rintro i σ G hi8 ⟨o2, o3, o4, o5, o6, o7, o8, o9, o10, o11, o12, o13, o14, rfl, p, tb⟩
    clear tb1 p1 s1 nd1 hT hS
    -- drawn
    refine ⟨_, rfl, fun l xs HL hl dl _ sl nl => ?_⟩
    have lx : xs.length = 6 := dps_len dl
    refine ⟨d, c, l, _, xs, rfl, p.keep sl, by omega, hl, by omega, by omega, fun v H2 mv p2 b2 => ?_⟩
    obtain ⟨N, rfl, hN⟩ : ∃ N : Nat, v = .int (N : Int) ∧ N ≤ 21 := by
      obtain ⟨e, he, hv⟩ := dps_at dl mv
      simp only [List.mem_cons, List.not_mem_nil, or_false] at he
      rcases he with rfl | rfl | rfl | rfl | rfl | rfl <;> cases hv
      · exact ⟨0, rfl, by decide⟩
      · exact ⟨1, rfl, by decide⟩
      · exact ⟨2, rfl, by decide⟩
      · exact ⟨3, rfl, by decide⟩
      · exact ⟨20, rfl, by decide⟩
      · exact ⟨21, rfl, by decide⟩
    have tb2 : Tabs [(Pt, lamQ)] H2 := tabs_but (tabs_same tb sl) (p.keep sl) b2
    clear hl dl mv lx sl nl tb
    refine ⟨(N : Int), rfl, by omega, by omega, fun D nD => ?_⟩
    refine lc_tape (N := N) (m := 20) (rel := Drawn K) (fun _ _ _ s h => h.same s) p2 nD (by omega) (fun _ => rfl) (fun i G' hi bG pG R hR => ?_) fun ys H3 ly hy hD p3 b3 => ?_
    · exact ⟨_, rfl, d, c, _, rfl, pG, by omega, fun y G2 hy p' b' => hR y G2 hy p' b'⟩
    have tb3 : Tabs [(Pt, lamQ)] H3 := tabs_but tb2 p2 b3
    obtain ⟨its, rfl, hits⟩ := drawn_list ys hy
    rw [List.length_map] at ly
    generalize eB : (fun a => H2 a ≠ none ∨ a = D) = Bw at hits
    have Bd : Bw d := by rw [← eB]; exact .inl p2.pen.ne
    have p3' : TapeAt H3 d c (i * 1000 + 500) := p3.mono (by omega)
    have hpair : ∀ {G'}, Same (rmB Bw H3) G' → ∀ it ∈ its, SqT K G' it.1 [it.2.1, .bl it.2.2.1] := fun s it h => same_seqT s (hits it h).tp
    have few : its.length ≤ 1000 := by omega
    clear hy b3 tb2 p2 b2 p3 nD eB
    -- parts
    refine ⟨_, rfl, D, rfl, ⟨_, .inl (.inl hD)⟩, fun D2 nD2 => lc_parts (its := its) (.inl (.inl hD)) few nD2 (fun _ _ => rfl) (fun _ _ => rfl) (hpair rm_le) fun H4 hD4 s4 => ?_⟩
    have nDd : D ≠ d := tape_ne hD p3'
    have p4 := p3'.keep s4
    have tb4 := tabs_same tb3 s4
    have nD2d : D2 ≠ d := tape_ne hD4 p4
    -- begin_here
    refine ⟨_, rfl, fun l xs HL hl dl _ sl nl => ?_⟩
    have lx : xs.length = 8 := dps_len dl
    refine ⟨d, c, l, _, xs, rfl, p4.keep sl, by omega, hl, by omega, by omega, fun bv H5 mv p5 b5 => ?_⟩
    obtain ⟨bd, hbd, hbv⟩ := dps_at dl mv
    obtain ⟨okb, flb, inb, wdb, dpb⟩ := begin_val hbv hbd
    have k45 : Kd d H4 H5 := (kd_same sl).trans (kd_but b5)
    have k35 : Kd d H3 H5 := (kd_same s4).trans k45
    have tb5 : Tabs [(Pt, lamQ)] H5 := tabs_but (tabs_same tb4 sl) (p4.keep sl) b5
    have hD5 := k35 _ _ hD nDd rfl
    have hD25 := k45 _ _ hD4 nD2d rfl
    have hits5 : ∀ it ∈ its, ItOk K (rmB Bw H5) it := fun it h => (hits it h).same (rm_kd Bd k35)
    clear hpair tb3 tb4 p4 k45 k35 hD hD4 hits s4 hl dl sl nl mv b5 p3' hbv nD2 lx
    -- due
    refine ⟨bv, isWordD bd, rfl, flb, inb, fun dv H6 s6 du => ?_⟩
    have p6 := p5.keep s6
    have tb6 := tabs_same tb5 s6
    have hD6 := s6 _ _ hD5
    have hD26 := s6 _ _ hD25
    have hits6 : ∀ it ∈ its, ItOk K (rmB Bw H6) it := fun it h => (hits5 it h).same (rm_same s6)
    clear p5 tb5 hD5 hD25 hits5 s6
    -- wrong
    refine ⟨_, rfl, D, rfl, ⟨_, .inl (.inl hD6)⟩, fun D3 nD3 => lc_wrong (its := its) (fun σ H b R e r => ⟨_, e, b, rfl, r⟩) (.inl (.inl hD6)) few nD3 (fun _ _ => rfl) (fun _ _ => rfl) (fun _ _ => rfl) (fun it h => same_seqT rm_le (hits6 it h).tp) fun H7 ws hws he s7 => ?_⟩
    have du7 := du.same s7
    refine ⟨D, D3, its, ws, isWordD bd, dv, _, _, _, _, _, _, _, _, _, _, _, _, rfl, s7 _ _ hD6, hws, he, du7, fun dv2 H8 s8 du8 => ?_⟩
    have s68 := s7.trans s8
    have p8 := p6.keep s68
    have tb8 := tabs_same tb6 s68
    have hD28 := s68 _ _ hD26
    have hits8 : ∀ it ∈ its, ItOk K (rmB Bw H8) it := fun it h => (hits6 it h).same (rm_same s68)
    clear p6 tb6 hD6 hD26 hits6 s68 s7 s8 du7 du hws he nD3
    generalize eg : (decide (its.length ≤ 20) && its.all fun i => i.2.2.1) = g at du8
    -- fault
    refine ⟨tb8, fun H9 x9 tb9 E' Q' hE hQ => ?_⟩
    have k89 : Kd d H8 H9 := kd_ext x9
    have p9 := p8.ext x9
    have hD29 := k89 _ _ hD28 nD2d rfl
    have hits9 : ∀ it ∈ its, ItOk K (rmB Bw H9) it := fun it h => (hits8 it h).same (rm_ext x9)
    have du9 := du8.kd p8 k89
    clear k89 p8 tb8 hD28 hits8 x9 du8
    refine ⟨_, rfl, _, rfl, fun x dx nx ndx ne => ?_⟩
    have sN := same_insF (C := C) nx ndx
    have ap := ap_its (.inl (.inl (.inl (sN _ _ hD29)))) few (fun it h => ⟨((hits9 it h).px.same rm_le).same sN, (hits9 it h).is⟩)
    rw [eg] at ap
    refine ⟨x, dx, bv, .ref D2, bd, _, rfl, upd_same, .inl ⟨dpb _, okb⟩, ap, fun e0 d' H10 s10 hd nd => hE _ _ _ hd fun l nl => ?_, fun e0 g0 d' H10 s10 hd nd => hE _ _ _ hd fun l nl => ?_, fun z rs ez e0 er H10 fr hF => ⟨rfl, hQ _ _ ?_⟩⟩
    · have sA := sN.trans s10
      rcases du9 with ⟨_, l0, rfl, hl0⟩ | ⟨e1, _⟩ | ⟨e1, _⟩
      · have sl := same_new (o := .lst [.str "state", .bl true]) nl
        have sB := sA.trans sl
        refine ⟨_, rfl, told "state", told "state", told_dp upd_same, told_dp (sB _ _ hl0), by decide +kernel, by decide +kernel, _, rfl, iteF ⟨_, rfl, rfl, _, rfl, iteF ⟨d, c, _, rfl, p9.keep sB, by omega, tabs_same tb9 sB, fun H11 p11 tb11 => ⟨_, _, _, _, _, _, _, _, _, _, _, _, _, rfl, p11.mono (by omega), tb11⟩⟩⟩⟩
      · rw [e1] at e0
        cases e0
      · rw [e1] at e0
        cases e0
    · have sA := sN.trans s10
      have gf : g = false := by
        cases hg : g with
        | false => rfl
        | true => rw [hg, if_pos rfl] at g0; cases g0
      rcases du9 with ⟨e1, _⟩ | ⟨_, _, l0, rfl, hl0⟩ | ⟨_, e1, _⟩
      · rw [e1] at e0
        cases e0
      · have sl := same_new (o := .lst [.str "pieces", .bl true]) nl
        have sB := sA.trans sl
        refine ⟨_, rfl, told "pieces", told "pieces", told_dp upd_same, told_dp (sB _ _ hl0), by decide +kernel, by decide +kernel, _, rfl, iteF ⟨_, rfl, rfl, _, rfl, iteF ⟨d, c, _, rfl, p9.keep sB, by omega, tabs_same tb9 sB, fun H11 p11 tb11 => ⟨_, _, _, _, _, _, _, _, _, _, _, _, _, rfl, p11.mono (by omega), tb11⟩⟩⟩⟩
      · rw [gf] at e1
        cases e1
    · have gt : g = true := by
        cases hg : g with
        | true => rfl
        | false => rw [hg, if_neg (by decide)] at er; cases er
      subst gt
      rw [Bool.and_eq_true, decide_eq_true_eq] at eg
      obtain ⟨z', rfl, ez'⟩ := wdb e0
      rw [ez'] at ez
      cases ez
      subst ez'
      have sA : Same H9 H10 := fun b o e => fr b o (sN _ _ e) (ne_of_none e nx)
      rcases du9 with ⟨e1, _⟩ | ⟨_, e1, _⟩ | ⟨_, _, rfl⟩
      · rw [e1] at e0
        cases e0
      · cases e1
      · refine ⟨_, rfl, .none, .none, .non, .non, by decide +kernel, by decide +kernel, _, rfl, iteF ⟨_, rfl, rfl, _, rfl, iteT ?_⟩⟩
        refine ⟨_, d, c, D2, _, its, _, Bw, _, _, _, _, _, _, _, _, _, _, _, rfl, sA _ _ hD29, fun it h => (hits9 it h).same (rm_same sA), eg.2, eg.1, e0, p9.keep sA, tabs_same tb9 sA, fun H11 o11 o12 o13 o14 p11 tb11 => ?_⟩
        exact ⟨d, c, _, rfl, p11, by omega, tb11, fun H12 p12 tb12 => ⟨_, _, _, _, _, _, _, _, _, _, _, _, _, rfl, p12.mono (by omega), tb12⟩⟩
  · rintro σ G ⟨o2, o3, o4, o5, o6, o7, o8, o9, o10, o11, o12, o13, o14, rfl, p, tb⟩
    refine ⟨by show 2 ≤ sizeLine; decide, fun wl nwl => ⟨Nat.zero_le _, fun pl npl => ⟨by show 2 ≤ sizeLine; decide, fun t nt => ?_⟩⟩⟩
    have w1 : (upd G wl (.lst [.str "a", .str "b"])) wl = some (.lst [.str "a", .str "b"]) := upd_same
    generalize upd G wl (.lst [.str "a", .str "b"]) = G1 at w1 npl nt ⊢
    have nwp : wl ≠ pl := fun e => by rw [e, npl] at w1; cases w1
    have s2 := same_new (o := .lst []) npl
    have p2 : (upd G1 pl (.lst [])) pl = some (.lst []) := upd_same
    have w2 := s2 _ _ w1
    generalize upd G1 pl (.lst []) = G2 at s2 p2 w2 nt ⊢
    have s3 := same_new (o := .tup [.ref wl, .ref pl]) nt
    have t3 : (upd G2 t (.tup [.ref wl, .ref pl])) t = some (.tup [.ref wl, .ref pl]) := upd_same
    have w3 := s3 _ _ w2
    have p3 := s3 _ _ p2
    generalize upd G2 t (.tup [.ref wl, .ref pl]) = G3 at s3 t3 w3 p3 ⊢
    refine ⟨t, _, rfl, .inl (.inl t3), rfl, _, _, rfl, _, _, rfl, rfl, ?_⟩
    clear s2 s3 t3 w1 w2 p2
    -- parts.append((words, 2))
    refine ⟨_, rfl, .inl ⟨rfl, _, .inl (.inl p3)⟩, _, rfl, by show 2 ≤ sizeLine; decide, fun u nu => ?_⟩
    have s4 := same_new (o := .tup [.ref wl, .int 2]) nu
    have u4 : (upd G3 u (.tup [.ref wl, .int 2])) u = some (.tup [.ref wl, .int 2]) := upd_same
    have w4 := s4 _ _ w3
    have p4 := s4 _ _ p3
    generalize upd G3 u (.tup [.ref wl, .int 2]) = G4 at s4 u4 w4 p4 ⊢
    refine ⟨pl, _, _, rfl, rfl, p4, small1000 (by show 0 ≤ 1000; decide), ?_⟩
    have b5 : But pl G4 (upd G4 pl (.lst ([] ++ [.ref u]))) := But.upd
    have p5 : (upd G4 pl (.lst ([] ++ [.ref u]))) pl = some (.lst [.ref u]) := upd_same
    have w5 := b5 _ _ w4 nwp
    have u5 := b5 _ _ u4 (ne_of u4 p4 fun z => by cases z)
    generalize upd G4 pl (.lst ([] ++ [.ref u])) = G5 at b5 p5 w5 u5 ⊢
    clear s4 u4 w4 p4 b5 w3 p3 nu nt npl nwl
    -- made
    refine ⟨_, rfl, fun x dx nx ndx ne => ?_⟩
    have sN := same_insF (C := C) nx ndx
    have dl : Dp K G5 (.ref u) litP := .tup (.inl (.inl u5)) (.cons (.lst (.inl (.inl w5)) (.cons (.str _) (.cons (.str _) .nil))) (.cons (.int 2) .nil))
    have ap : AP K (upd (upd G5 dx (.own x)) x (.ins C dx [])) (.ref pl) (some [litQ]) := .inr ⟨pl, [.ref u], [litP], rfl, .inl (.inl (.inl (sN _ _ p5))), rfl, by show 1 ≤ 1000; decide, fun i y v hy hv => by
      match i, hy, hv with
      | 0, hy, hv =>
        cases hy
        cases hv
        exact .inl (.inl ⟨dp_same sN dl, lit_ok⟩), by
      rw [List.all_cons, lit_is, List.map_cons, lit_q]
      rfl⟩
    refine ⟨x, dx, .str "s", .ref pl, .str "s", some [litQ], rfl, upd_same, .inl ⟨.str _, by decide +kernel⟩, ap, fun e => absurd e (by decide +kernel), (fun _ e => by cases e), fun z rs ez _ er G6 fr hF => ⟨rfl, ?_⟩⟩
    cases ez
    cases er
    have s6 : Same G5 G6 := fun b o e => fr b o (sN _ _ e) (ne_of_none e nx)
    have w6 := s6 _ _ w5
    have p6 := s6 _ _ p5
    clear ap dl sN fr w5 p5 u5
    -- words.append, parts.append
    refine ⟨_, rfl, .inl ⟨rfl, _, .inl (.inl w6)⟩, wl, _, _, rfl, rfl, w6, small1000 (by show 2 ≤ 1000; decide), ?_⟩
    have b7 : But wl G6 (upd G6 wl (.lst ([.str "a", .str "b"] ++ [.str "c"]))) := But.upd
    have p7 := b7 _ _ p6 (Ne.symm nwp)
    have f7 := hF.but w6 b7
    generalize upd G6 wl (.lst ([.str "a", .str "b"] ++ [.str "c"])) = G7 at b7 p7 f7 ⊢
    clear b7 hF w6 p6 s6
    refine ⟨_, rfl, .inl ⟨rfl, _, .inl (.inl p7)⟩, by show 1 ≤ sizeLine; decide, fun l1 n1 => ⟨by show 2 ≤ sizeLine; decide, fun t2 n2 => ?_⟩⟩
    have s8 := (same_new (o := .lst [.str "a"]) n1).trans (same_new (o := .tup [.ref l1, .int 1]) n2)
    have p8 := s8 _ _ p7
    have f8 := f7.same s8
    generalize upd (upd G7 l1 (.lst [.str "a"])) t2 (.tup [.ref l1, .int 1]) = G8 at s8 p8 f8 ⊢
    refine ⟨pl, _, _, rfl, rfl, p8, small1000 (by show 1 ≤ 1000; decide), ?_⟩
    have f9 := f8.but p8 (But.upd (o := .lst ([.ref u] ++ [.ref t2])))
    generalize upd G8 pl (.lst ([.ref u] ++ [.ref t2])) = G9 at f9 ⊢
    clear f7 f8 p7 p8 s8
    -- return
    obtain ⟨dxm, tPm, rsm, hm, htm, hPm⟩ := id f9
    refine ⟨_, rfl, x, dxm, _, rfl, hm, x, dxm, _, _, rfl, hm, rfl, fun v2 G10 hv2 _ s10 => ⟨farD [litQ], farD [litQ], .tup (same_seqT s10 htm) (dp_pairs (hPm.same s10)), hv2, lit_sh, lit_sh, _, rfl, ?_⟩⟩
    rw [lit_eqv]
    have small : ∀ q ∈ [litQ], q.1.length ≤ 1000 := fun q hq => by
      rw [List.mem_singleton.mp hq]
      decide
    have e4 : totalQ [litQ] = 4 := by decide +kernel
    refine iteT ⟨_, rfl, x, "s", [litQ], rfl, f9.same s10, by decide, small, fun G11 s11 => ⟨rfl, _, rfl, ?_⟩⟩
    rw [e4, decide_eq_true rfl]
    refine iteT ⟨Nat.zero_le _, fun l3 n3 x2 dx2 nx2 ndx2 ne2 => ?_⟩
    have sN2 := same_insF (C := C) nx2 ndx2
    refine ⟨x2, dx2, .str "s", .ref l3, .str "s", some [], rfl, upd_same, .inl ⟨.str _, by decide +kernel⟩, .inr ⟨l3, [], [], rfl, .inl (.inl (.inl (sN2 _ _ upd_same))), rfl, Nat.zero_le _, fun i y v hy => by simp at hy, rfl⟩, fun e => absurd e (by decide +kernel), (fun _ e => by cases e), fun z rs ez _ er G12 fr hF2 => ⟨rfl, ?_⟩⟩
    cases ez
    cases er
    refine ⟨x2, "s", [], rfl, hF2, by decide, (fun q hq => by cases hq), fun G13 s13 => ⟨rfl, ?_⟩⟩
    rw [show totalQ [] = 0 from rfl, decide_eq_true rfl]
    exact q _
end
end RL

/-! The end of a row whose law makes lambdas and knows that no repr is under way. -/
namespace GR
open PySem PySem.Spec PyProof.Rows L2 SX
section
variable {pr : Program} {wo : World} {F : PySem.W.Frag} {gl gb : Str → Option Value} {tabs : List (Addr × Addr)} {s : Shared} {H : Hp} {sc : Addr}
/-- a table of the list -/
abbrev IsTab (tabs : List (Addr × Addr)) (b : Addr) : Prop := ∃ p ∈ tabs, p.2 = b
/-- the heap behind the top with the script and the tables in view -/
theorem quiet_tabs {n : Nat} {at_ : Addr} {fd : FuncData} {x : Str} {sp : Sp} {its : Array Value}
    (inF : F.In s.heap) (nsm : s.heap.Ns mainGlobals gl) (nsb : s.heap.Ns builtinsNs gb) (bb : ∀ y : Str, y ≠ "__name__" → gb y = bootBuiltins y) (lim : s.heap.NoLimit) (ng : s.gens = #[])
    (mb : ∃ (m : Addr) (o : Obj), gl "__builtins__" = some (.ref m) ∧ m ≠ builtinsNs ∧ s.heap.get? m = some o ∧ o.cls = .type "module" ∧ o.dict = some builtinsNs ∧ o.data = .plain)
    (empty : ∀ p ∈ tabs, s.heap.get? p.2 = some { cls := .none, data := .fields #[] }) (off : ∀ p ∈ tabs, F.lookup p.2 = none) (codes : ∀ p ∈ tabs, PySem.W.CodeHd s.heap p.1 p.2)
    (atS : s.heap.get? sc = some { cls := .type "list", data := .seq its }) (room : Room n callerA)
    (D : ∀ b0 : Heap, F.In b0 → b0.Ns mainGlobals gl → (∀ p ∈ tabs, LamX.TabB b0 gl p.1 p.2) → FnQ pr wo F gl b0 n at_ fd [x] sp) (binds : ∀ (s : Shared) (u : Value), BindsTo s fd ⟨[u], []⟩ [(x, u)])
    (want : sp [.ref sc] H (fun v _ => v = .bl true) fun _ _ _ => False)
    (seeT : ∀ p ∈ tabs, H p.2 = some (.tbl #[])) (kinds : ∀ b, H b = none ∨ IsTab tabs b ∨ ∃ o xs, H b = some (.frz o (.lst xs))) (ok : HOk pr wo H s.heap) (isS : ∀ b, H b ≠ none → b = sc ∨ IsTab tabs b) (away : H sc ≠ none → F.lookup sc = none) :
    codeAny (model pr wo) callerA (.call (.ref at_) ⟨[.ref sc], []⟩) (fun r s' => r = .ok (.ret (.bool true)) ∧ OldK s.heap s'.heap ∧ s'.os = s.os ∧ AllBare s'.gens) s := by
  have tabO : ∀ {b}, IsTab tabs b → s.heap.get? b = some { cls := .none, data := .fields #[] } := by
    rintro b ⟨p, hp, rfl⟩
    exact empty p hp
  -- what is neither the script nor a table stands in the base
  have seen : ∀ {b : Addr} {o : Obj}, s.heap.get? b = some o → ((∃ v k, o.data = .seq v k) → H b = none) → o.data ≠ .fields #[] → (hidT s.heap H).get? b = some o := fun {b o} e h1 h2 => hidT_get e (by
    cases q : H b with
    | none => rfl
    | some u =>
      exfalso
      rcases isS b (by rw [q]; exact fun z => nomatch z) with rfl | tb
      · rw [h1 ⟨its, _, by rw [atS] at e; cases e; rfl⟩] at q
        cases q
      · rw [tabO tb] at e
        cases e
        exact h2 rfl)
  have names : ∀ {b : Addr} {m : Str → Option Value}, s.heap.Ns b m → (hidT s.heap H).Ns b m := by
    rintro b m ⟨o, es, ep, e, d, rest⟩
    exact ⟨o, es, ep, seen e (fun ⟨_, _, z⟩ => by rw [d] at z; cases z) (fun z => by rw [d] at z; cases z), d, rest⟩
  have inB : F.In (hidT s.heap H) := fun b o e => hidT_get (inF b o e) (by
    cases q : H b with
    | none => rfl
    | some u =>
      exfalso
      rcases isS b (by rw [q]; exact fun z => nomatch z) with rfl | ⟨p, hp, rfl⟩
      · rw [away (by rw [q]; exact fun z => nomatch z)] at e
        cases e
      · rw [off p hp] at e
        cases e)
  have made : ∀ p ∈ tabs, LamX.TabB (hidT s.heap H) gl p.1 p.2 := by
    intro p hp
    have ep := empty p hp
    obtain ⟨o, vs, t1, t2, t3, t4, t5, t6, t7, c1, c2, c3, c4, rest⟩ := codes p hp
    obtain ⟨m, om, m1, m2, m3, m4, m5, m6⟩ := mb
    obtain ⟨og, eg, kg, g1, g2, _⟩ := nsm
    refine ⟨⟨o, vs, t1, t2, t3, t4, t5, t6, t7, seen c1 (fun ⟨_, _, z⟩ => by rw [c3] at z; cases z) (fun z => by rw [c3] at z; cases z; simp at c4), c2, c3, c4, rest⟩, ⟨m, om, m1, m2, fun q => ?_, fun q => ?_, seen m3 (fun ⟨_, _, z⟩ => by rw [m6] at z; cases z) (fun z => by rw [m6] at z; cases z), m4, m5, m6⟩, fun q => ?_⟩
    · rw [q, g1] at m3
      cases m3
      rw [g2] at m6
      cases m6
    · rw [q, ep] at m3
      cases m3
      cases m6
    · rw [q, ep] at g1
      cases g1
      cases g2
  have e0 : Env0 pr wo F gl (hidT s.heap H) callerA [] s H := by
    refine ⟨rfl, ⟨inB, names nsm, ⟨gb, names nsb, bb⟩, ?_⟩, fun b o e => of_hidT e, Nat.le_of_eq (hidT_size _ _), trivial, ?_, ok, .of_eq ng⟩
    · obtain ⟨mc, h1, h2⟩ := lim
      exact ⟨mc, names h1, h2⟩
    · intro b hb
      cases (show b ∈ ([] : List Addr) from hb)
  refine codeAny_mono ((D _ inB (names nsm) made).runs callerA [] s H ⟨[.ref sc], []⟩ [.ref sc] [.ref sc] _ _ rfl room e0 (binds s (.ref sc)) (.cons rfl .nil) want) ?_
  rintro (e | fl) s' h
  · exact (show False from h).elim
  cases fl with
  | next => exact (show False from h).elim
  | brk => exact (show False from h).elim
  | cont => exact (show False from h).elim
  | ret u =>
    obtain ⟨v, H', os, bare, un, ok', rel, q⟩ := h
    cases (show v = V.bl true from q)
    cases (show u = Value.bool true from rel)
    have stays : ∀ b o, ¬ IsTab tabs b → s.heap.get? b = some o → s'.heap.get? b = some o := fun b o nt e => by
      cases q : H b with
      | none => exact un.keep b o e q (fun z => by cases (show b ∈ ([] : List Addr) from z)) (by simp)
      | some u =>
        rcases kinds b with z | z | ⟨ob, xs, z⟩
        · rw [q] at z
          cases z
        · exact absurd z nt
        · have p1 := (ok b _ z).1
          have p2 := (ok' b _ (un.frzs b ob _ z)).1
          rw [e] at p1
          cases p1
          exact p2
    have more : ∀ {b}, IsTab tabs b → ∃ ys : Array Value, s'.heap.get? b = some { cls := .none, data := .fields ys } := by
      rintro b ⟨p, hp, rfl⟩
      obtain ⟨ys, z⟩ := un.tbls p.2 #[] (seeT p hp)
      exact ⟨_, ok' p.2 _ z⟩
    refine ⟨rfl, ⟨fun b o e => ?_, fun b o e => ?_⟩, os, bare⟩
    · by_cases tb : IsTab tabs b
      · obtain ⟨ys, hy⟩ := more tb
        have t0 := tabO tb
        obtain ⟨p, hp, rfl⟩ := tb
        rw [e] at t0
        cases t0
        exact .inr (.inl ⟨((codes p hp).tab (empty p hp)).isCodeTable, rfl, #[], ys, rfl, by rw [Array.empty_append]; exact hy⟩)
      · exact .inl (stays b o tb e)
    · by_cases tb : IsTab tabs b
      · obtain ⟨ys, hy⟩ := more tb
        exact ⟨_, hy⟩
      · exact ⟨o, stays b o tb e⟩
end
end GR

/-! The end of a row whose law makes lambdas: the law's own table of code objects. -/
namespace GR
open PySem PySem.Spec PyProof.Rows L2 SX
section
variable {pr : Program} {wo : World} {F : PySem.W.Frag} {gl : Str → Option Value} {b0 : Heap}
theorem quiet_fnC {x qual : Str} {st : Stmt} {at_ c : Addr} {fd : FuncData} {N names : List Str} {n : Nat} {sp : Sp} (D : ∃ oc od kV doc pm an ct osl, fd = PySem.W.fnOf x qual (defArgs st) (defBody st) (defScope st) .none kV doc pm an (.ref c) ct ∧ F.lookup at_ = some ⟨oc, od, .func fd, osl⟩ ∧ PySem.W.codeIn F (.ref c) qual = true) (S : FnScope N names (defScope st))
    (many : ∀ vs H Q E, sp vs H Q E → vs.length = names.length)
    (body : ∀ (Ar : Around) (fs : List Env) (s : Shared) (H : Hp) (vs : List V) (Q : VK) (E : XK), Quiet Ar →
      Room n (Ar.deeper (envOfC qual (defScope st) s.heap.objs.size at_ (.ref c))) → sp vs H Q E →
      ∃ t, PSs (cxOf CX0 pr wo F gl b0 N qual (defScope st) at_ (.ref c) Ar fs s H E).nox (defBody st) t ∧
        t { nx := fun _ H' => Q .non H', rt := Q } (start N vs) H) :
    FnQ pr wo F gl b0 (n + 1) at_ fd names sp := by
  obtain ⟨oc, od, kV, doc, pm, an, ct, osl, rfl, here, code⟩ := D
  refine ⟨many, ?_⟩
  intro Ar fs s H gs us vs Q E quiet room e0 binds rel want
  have FX : F.In s.heap := e0.mod.kin.keeps (fun b o e => (e0.bs b o e).1)
  have lim : s.heap.NoLimit := e0.mod.nolimit.keeps (fun b o e => (e0.bs b o e).1)
  refine codeAny_call_function room.depth (FX _ _ here) rfl S.co S.gen rfl (PySem.W.codeRec_of FX code) (binds _ _ _ _ ?_)
  refine wpAny_newFunctionEnv_cells S.kind ?_ (fun en en_is s1 inside => ?_)
  · rintro ⟨nm, v⟩ mem
    rcases S.par nm (List.of_mem_zip mem).1 with q | q
    · exact Or.inl q
    · exact Or.inr ⟨q, PySem.W.cellsFrom_some _ _ _ (Or.inl q)⟩
  subst en_is
  refine ⟨lim.keeps inside.toInCall.keep, codeAny_func ?_⟩
  obtain ⟨t, reads, does⟩ := body Ar fs s H vs Q E quiet (room.deeper _) want
  have I0 := inv_start (CX := CX0) (E := E) S room.hd e0 (many _ _ _ _ want) rel inside
  refine wpAny_mono (reads.nox.run [] s1 (start N vs) H _ I0 does) ?_ (fun _ _ h => h)
  intro fl s' ends
  cases fl with
  | next =>
    obtain ⟨σ', H', J, q⟩ := ends
    exact ⟨V.non, H', J.os, J.bare, J.base, J.hok, rfl, q⟩
  | ret u =>
    obtain ⟨v, σ', H', J, rv, q⟩ := ends
    exact ⟨v, H', J.os, J.bare, J.base, J.hok, rv, q⟩
  | brk =>
    obtain ⟨_, _, _, z⟩ := ends
    exact z.elim
  | cont =>
    obtain ⟨_, _, _, z⟩ := ends
    exact z.elim
end
theorem walk_tab {l : PySem.W.OpenLaw} {most n : Nat} {q : Program} {loose : List Str} {XP : (Str → Option Value) → Heap → Prop} {YP : World → Heap → Prop} {d : DefRec} {F : Params → PySem.W.Frag} {sp : Addr → World → Sp} {x : Str}
    (hm : l.most = some most) (small : most ≤ sizeLine) (nd : d.params.defaults = []) (room : Room n callerA) (hany : ((recsOf q).any fun e => e.name == d.name) = true)
    (hY : ∀ (wo : World) (h : Heap), YP wo h → (F wo.params).In h)
    (D : ∀ (wo : World) (gl : Str → Option Value) (at_ : Addr) (h : Heap), (F wo.params).In h → h.Ns mainGlobals gl → gl d.name = some (.ref at_) →
      ∃ (fd : FuncData) (c P : Addr) (o : Obj) (vs : Array Value) (e : Value) (dd : Option Addr) (sl : Array (Option Value)), (F wo.params).lookup at_ = some o ∧ o.data = .func fd ∧ fd.code = .ref c ∧ (F wo.params).lookup c = some ⟨e, dd, .fields vs, sl⟩ ∧ vs[11]? = some (.ref P) ∧
        (F wo.params).lookup P = none ∧ (∀ (s : Shared) (u : Value), BindsTo s fd ⟨[u], []⟩ [(x, u)]) ∧
        ∀ b0 : Heap, (F wo.params).In b0 → b0.Ns mainGlobals gl → LamX.TabB b0 gl c P → FnQ l.prog wo (F wo.params) gl b0 n at_ fd [x] (sp P wo))
    (want : ∀ (wo : World) (H : Hp) (sc P : Addr) (ns : List Int), ns.length ≤ most → SqL (F wo.params) H sc (ns.map V.int) → H P = some (.tbl #[]) → sp P wo [.ref sc] H (fun v _ => v = .bl true) fun _ _ _ => False) :
    PySem.W.WalkO q loose XP YP l.row.toRowW d [] (fun f vs => PySem.call f vs) := by
  refine Att.attach_call hm nd ?_
  intro wo s₀ s gl gb at_ o pm cd doc sc vs ns G Y ho hd hcd hgl atS areI len ng
  have inF := hY wo _ Y
  obtain ⟨fd, c, P, o', vs', e', dd', sl', k1, k2, k3, k4, k5, k6, binds, D0⟩ := D wo gl at_ _ inF G.T.g hgl
  have rv := vals_ints areI
  have lenV := areI.length
  have small' : ns.length ≤ sizeLine := Nat.le_trans len small
  -- the table is empty
  obtain ⟨empty, hcode⟩ : s.heap.get? P = some { cls := .none, data := .fields #[] } ∧ PySem.W.CodeHd s.heap c P := by
    obtain ⟨e, he, hn⟩ := List.any_eq_true.mp hany
    obtain ⟨a2, o2, fd2, c2, P2, t1, t2, t3, t4, t5, t6⟩ := G.T.tab e he
    rw [beq_iff_eq.mp hn, hgl] at t1
    have e1 : at_ = a2 := Value.ref.inj (Option.some.inj t1)
    subst e1
    have e2 : o' = o2 := Option.some.inj ((inF _ _ k1).symm.trans t2)
    subst e2
    have e3 : fd = fd2 := Data.func.inj (k2.symm.trans t3)
    subst e3
    have e4 : c = c2 := Value.ref.inj (k3.symm.trans t4)
    subst e4
    obtain ⟨⟨oc, vc, u1, u2, u3, u4⟩, u5⟩ := t6
    have e5 := Option.some.inj ((inF _ _ k4).symm.trans u1)
    subst e5
    have e6 : vs' = vc := Data.fields.inj u3
    subst e6
    have e7 : P = P2 := Value.ref.inj (Option.some.inj (k5.symm.trans u4))
    subst e7
    obtain ⟨o5, v5, file, tf, flags, tg, inF', text, tt, op, w1, w2, w3, w4, w5, w6, w7, w8, w9, w10, w11⟩ := t5
    have e8 := Option.some.inj ((inF _ _ k4).symm.trans w1)
    subst e8
    have e9 : vs' = v5 := Data.fields.inj w2
    subst e9
    exact ⟨u5, _, _, file, tf, flags, tg, inF', text, tt, w1, u2, w2, k5, w3, w4, w5, w6, w7, w11⟩
  have nP : P ≠ sc := fun z => by
    have e1 := Option.some.inj (empty.symm.trans (by rw [z]; exact atS))
    have e2 := congrArg Obj.data e1
    cases e2
  have kP : ¬ (F wo.params).lookup sc = none → ∀ b, (F wo.params).lookup b ≠ none → b ≠ P := fun _ b h z => h (by rw [z]; exact k6)
  have tabsOk : ∀ {R : Addr × Addr → Prop}, R (c, P) → ∀ p ∈ [(c, P)], R p := fun {R} h p hp => by rw [List.mem_singleton.mp hp]; exact h
  have go := fun (H : Hp) (seen : SqL (F wo.params) H sc (ns.map V.int)) (seeP : H P = some (.tbl #[])) (kinds : ∀ b, H b = none ∨ b = P ∨ ∃ o xs, H b = some (.frz o (.lst xs))) (ok : HOk l.prog wo H s.heap) (isS : ∀ b, H b ≠ none → b = sc ∨ b = P) (away : H sc ≠ none → (F wo.params).lookup sc = none) =>
    quiet_tabs (pr := l.prog) (wo := wo) (F := F wo.params) (tabs := [(c, P)]) (H := H) (sc := sc) (sp := sp P wo) inF G.T.g G.T.b G.T.builtins G.T.nolimit ng G.T.bmain (tabsOk (R := fun p => s.heap.get? p.2 = _) empty) (tabsOk (R := fun p => (F wo.params).lookup p.2 = none) k6) (tabsOk (R := fun p => PySem.W.CodeHd s.heap p.1 p.2) hcode) atS room
      (fun b0 h1 h2 h3 => D0 b0 h1 h2 (h3 (c, P) (List.mem_singleton.mpr rfl))) binds (want wo H sc P ns len seen seeP) (tabsOk (R := fun p => H p.2 = some (.tbl #[])) seeP)
      (fun b => (kinds b).imp id (Or.imp (fun z => ⟨(c, P), List.mem_singleton.mpr rfl, z.symm⟩) id)) ok (fun b h => (isS b h).imp id fun z => ⟨(c, P), List.mem_singleton.mpr rfl, z.symm⟩) away
  by_cases known : (F wo.params).lookup sc = none
  · refine go (fun b => if b = P then some (.tbl #[]) else if b = sc then some (.frz { cls := .type "list", data := .seq vs.toArray } (.lst (ns.map V.int))) else none) (Or.inl (Or.inr ⟨{ cls := .type "list", data := .seq vs.toArray }, (if_neg (Ne.symm nP)).trans (if_pos rfl)⟩)) (if_pos rfl) (fun b => ?_) ?_ (fun b ne => ?_) (fun _ => known)
    · by_cases e : b = P
      · exact Or.inr (Or.inl e)
      · by_cases e2 : b = sc
        · exact Or.inr (Or.inr ⟨_, _, (if_neg e).trans (if_pos e2)⟩)
        · exact Or.inl ((if_neg e).trans (if_neg e2))
    · intro b u e
      by_cases e1 : b = P
      · have e' := (if_pos e1).symm.trans e
        cases e'
        subst e1
        exact empty
      · by_cases eq : b = sc
        · have e' := ((if_neg e1).trans (if_pos eq)).symm.trans e
          cases e'
          subst eq
          exact ⟨atS, by rw [List.length_map]; exact small', vs, _, rv, atS⟩
        · have e' := ((if_neg e1).trans (if_neg eq)).symm.trans e
          cases e'
    · by_cases e : b = P
      · exact Or.inr e
      · by_cases eq : b = sc
        · exact Or.inl eq
        · exact absurd ((if_neg e).trans (if_neg eq)) ne
  · obtain ⟨o', ho'⟩ := Option.ne_none_iff_exists'.mp known
    have e := (atS.symm.trans (inF sc o' ho'))
    cases e
    refine go (fun b => if b = P then some (.tbl #[]) else none) (Or.inr ⟨_, vs.toArray, _, ho', rfl, rfl, rfl, by rw [List.size_toArray, lenV]; exact small', by simpa using rv⟩) (if_pos rfl) (fun b => ?_) ?_ (fun b ne => ?_) (fun ne => ?_)
    · by_cases e : b = P
      · exact Or.inr (Or.inl e)
      · exact Or.inl (if_neg e)
    · intro b u e
      by_cases e1 : b = P
      · have e' := (if_pos e1).symm.trans e
        cases e'
        subst e1
        exact empty
      · have e' := (if_neg e1).symm.trans e
        cases e'
    · by_cases e : b = P
      · exact Or.inr e
      · exact absurd (if_neg e) ne
    · exact absurd (if_neg (Ne.symm nP)) ne
end GR

namespace RL
open PySem L2 SX AddrMath VA LamX GR
theorem kit_me {K : PySem.W.Frag} {S : Addr} : PySem.W.kitOne K (.ref S) (.ref S) = some true := by
  unfold PySem.W.kitOne
  rw [if_pos (by simp)]
theorem vals_app {a b : List V} {x y : List Value} (h1 : Vals a x) (h2 : Vals b y) : Vals (a ++ b) (x ++ y) := by
  induction h1 with
  | nil => exact h2
  | cons h _ ih => exact .cons h ih
theorem exm_own {K : PySem.W.Frag} {S : Addr} (h1 : PySem.W.subIn K (.ref S) (.type "BaseException") = some true) (h2 : PySem.W.hasDictIn K S = true) (h3 : PySem.W.typeIn K (.ref S) = some (.type "type")) (h4 : PySem.W.subIn K (.ref S) (.ref S) = some true) :
    PySem.W.exmOne K (.ref S) (.ref S) = some true := PySem.W.exm_ref h1 h2 h3 h4
theorem kit_own {K : PySem.W.Frag} {S : Addr} (h : PySem.W.subIn K (.ref S) (.type "ValueError") = some true) : PySem.W.kitOne K (.ref S) (.type "ValueError") = some true := by
  unfold PySem.W.kitOne
  rw [if_neg (by intro z; cases (beq_iff_eq.mp z))]
  show (if PySem.W.kitMeta "ValueError" = true then PySem.W.subIn K (.ref S) (.type "ValueError") else none) = some true
  rw [if_pos (by decide +kernel)]
  exact h
def own_mk {P : Program} {w : World} {K : PySem.W.Frag} {mg : Str → Option Value} {base : Heap} {CX : CXT} {n : Nat} {x : Str} {ps : List Str} {sp : Sp} {f : Addr} {fd : FuncData} (g : FnOk P w K mg base CX n f fd ps sp) (m : mg x = some (.ref f)) (k : PySem.W.keepIn K (.ref f) = true) (b : Binds K fd ps []) : Own P w K mg base CX n x ps sp := ⟨f, fd, g, m, k, b⟩
def prop_mk {P : Program} {w : World} {K : PySem.W.Frag} {mg : Str → Option Value} {base : Heap} {C p g : Addr} {n : Str} {sp : Sp} {fd : FuncData} (a : PySem.W.findIn K (.ref C) n = some (some (.ref p))) (gt : PySem.W.specialIn K (.ref p) "__get__" = some (some (.builtin "property.__get__"))) (t : PySem.W.takesIn K (.ref p) = some true) {r : List Value} (rc : PySem.W.recIn K p "property" = some (.ref g :: r))
    (ok : FnOk P w K mg base CX0 1 g fd ["self"] sp) (b : Binds K fd ["self"] []) : OwnG P w K mg base C n sp := ⟨p, g, fd, ⟨a, gt, t, ⟨r, rc⟩⟩, ok, b⟩

theorem all_mk {l : PySem.W.OpenLaw} {w : World} {K : PySem.W.Frag} {h : Heap} {mg : Str → Option Value} {fa : Addr} (X : K.In h) (G : h.Ns mainGlobals mg) (hfa : mg "law" = some (.ref fa))
    {C fis_word fis_integer fare_words fis_piece fare_pieces CE fErr fInit pfstate ffstate pfpieces ffpieces fsize_in fsize_of fbegin fdraw fpick fpiece ffault flaw cL Pt : Addr} {odis_word anis_word odis_integer anis_integer odare_words anare_words odis_piece anis_piece odare_pieces anare_pieces odErr anErr odInit anInit odfstate anfstate odfpieces anfpieces odsize_in ansize_in odsize_of ansize_of odbegin anbegin oddraw andraw odpick anpick odpiece anpiece odfault anfault odlaw anlaw ddL : Option Addr} {slis_word slis_integer slare_words slis_piece slare_pieces slErr slInit slfstate slfpieces slsize_in slsize_of slbegin sldraw slpick slpiece slfault sllaw slL : Array (Option Value)} {ocis_word dcis_word pmis_word cdis_word ctis_word kVis_word ocis_integer dcis_integer pmis_integer cdis_integer ctis_integer kVis_integer ocare_words dcare_words pmare_words cdare_words ctare_words kVare_words ocis_piece dcis_piece pmis_piece cdis_piece ctis_piece kVis_piece ocare_pieces dcare_pieces pmare_pieces cdare_pieces ctare_pieces kVare_pieces ocErr dcErr pmErr cdErr ctErr kVErr ocInit dcInit pmInit cdInit ctInit kVInit ocfstate dcfstate pmfstate cdfstate ctfstate kVfstate ocfpieces dcfpieces pmfpieces cdfpieces ctfpieces kVfpieces ocsize_in dcsize_in pmsize_in cdsize_in ctsize_in kVsize_in ocsize_of dcsize_of pmsize_of cdsize_of ctsize_of kVsize_of ocbegin dcbegin pmbegin cdbegin ctbegin kVbegin ocdraw dcdraw pmdraw cddraw ctdraw kVdraw ocpick dcpick pmpick cdpick ctpick kVpick ocpiece dcpiece pmpiece cdpiece ctpiece kVpiece ocfault dcfault pmfault cdfault ctfault kVfault oclaw dclaw pmlaw ctlaw kVlaw eL : Value} {tk8 tkS tkT tkP : Tok} {rfstate rfpieces : List Value}  {nmErr qErr : Str} {NNErr : Addr} {bsErr : List Value} {snErr : List Str} {subErr : List Value} {abErr : Bool} {colErr : Option Bool} {ddErr : Option Addr} {m0Err m1Err m2Err m3Err m5Err : Option Value} {vsL : Array Value}
    (zisinstance : PySem.W.nsIn K mainGlobals "isinstance" = some none)
    (zstr : PySem.W.nsIn K mainGlobals "str" = some none)
    (zint : PySem.W.nsIn K mainGlobals "int" = some none)
    (zbool : PySem.W.nsIn K mainGlobals "bool" = some none)
    (zlist : PySem.W.nsIn K mainGlobals "list" = some none)
    (ztuple : PySem.W.nsIn K mainGlobals "tuple" = some none)
    (zlen : PySem.W.nsIn K mainGlobals "len" = some none)
    (zall : PySem.W.nsIn K mainGlobals "all" = some none)
    (zsorted : PySem.W.nsIn K mainGlobals "sorted" = some none)
    (zset : PySem.W.nsIn K mainGlobals "set" = some none)
    (zrange : PySem.W.nsIn K mainGlobals "range" = some none)
    (zmin : PySem.W.nsIn K mainGlobals "min" = some none)
    (zrepr : PySem.W.nsIn K mainGlobals "repr" = some none)
    (zzip : PySem.W.nsIn K mainGlobals "zip" = some none)
    (zValueError : PySem.W.nsIn K mainGlobals "ValueError" = some none)
    (zsum : PySem.W.nsIn K mainGlobals "sum" = some none)
    (aLETTERS : PySem.W.nsIn K mainGlobals "LETTERS" = some (some (.int 8 tk8)))
    (aMOST_SEGMENTS : PySem.W.nsIn K mainGlobals "MOST_SEGMENTS" = some (some (.int 8 tkS)))
    (aMOST_TIMES : PySem.W.nsIn K mainGlobals "MOST_TIMES" = some (some (.int 1000000000000000000000000000000 tkT)))
    (aMOST_PIECES : PySem.W.nsIn K mainGlobals "MOST_PIECES" = some (some (.int 20 tkP)))
    (mC : PySem.W.nsIn K mainGlobals "Far" = some (some (.ref C)))
    (pgC : PySem.W.plainGet K C Str.empty = true)
    (hdC : PySem.W.hasDictIn K C = true)
    (poC : PySem.W.plainOver K C = true)
    (saC : PySem.W.findIn K (.ref C) "__setattr__" = some (some (.builtin "object.__setattr__")))
    (mkC : PySem.W.makesIn K C = true)
    (kcC : PySem.W.keepIn K (.ref C) = true)
    (nC_state : PySem.W.findIn K (.ref C) "_state" = some none)
    (nC_pieces : PySem.W.findIn K (.ref C) "_pieces" = some none)
    (aE : PySem.W.findIn K (.ref C) "__eq__" = some (some (.builtin "object.__eq__")))
    (obC : PySem.W.subIn K (.ref C) (.type "object") = some true)
    (ais_word : PySem.W.nsIn K mainGlobals "is_word" = some (some (.ref fis_word)))
    (lis_word : K.lookup fis_word = some ⟨ocis_word, odis_word, .func (PySem.W.fnOf "is_word" "is_word" (defArgs sIsWord) (defBody sIsWord) (defScope sIsWord) .none kVis_word dcis_word pmis_word anis_word cdis_word ctis_word), slis_word⟩) (cis_word : PySem.W.codeIn K cdis_word "is_word" = true) (kis_word : PySem.W.keepIn K (.ref fis_word) = true)
    (ais_integer : PySem.W.nsIn K mainGlobals "is_integer" = some (some (.ref fis_integer)))
    (lis_integer : K.lookup fis_integer = some ⟨ocis_integer, odis_integer, .func (PySem.W.fnOf "is_integer" "is_integer" (defArgs sIsInteger) (defBody sIsInteger) (defScope sIsInteger) .none kVis_integer dcis_integer pmis_integer anis_integer cdis_integer ctis_integer), slis_integer⟩) (cis_integer : PySem.W.codeIn K cdis_integer "is_integer" = true) (kis_integer : PySem.W.keepIn K (.ref fis_integer) = true)
    (aare_words : PySem.W.nsIn K mainGlobals "are_words" = some (some (.ref fare_words)))
    (lare_words : K.lookup fare_words = some ⟨ocare_words, odare_words, .func (PySem.W.fnOf "are_words" "are_words" (defArgs sAreW) (defBody sAreW) (defScope sAreW) .none kVare_words dcare_words pmare_words anare_words cdare_words ctare_words), slare_words⟩) (care_words : PySem.W.codeIn K cdare_words "are_words" = true) (kare_words : PySem.W.keepIn K (.ref fare_words) = true)
    (ais_piece : PySem.W.nsIn K mainGlobals "is_piece" = some (some (.ref fis_piece)))
    (lis_piece : K.lookup fis_piece = some ⟨ocis_piece, odis_piece, .func (PySem.W.fnOf "is_piece" "is_piece" (defArgs sIsPiece) (defBody sIsPiece) (defScope sIsPiece) .none kVis_piece dcis_piece pmis_piece anis_piece cdis_piece ctis_piece), slis_piece⟩) (cis_piece : PySem.W.codeIn K cdis_piece "is_piece" = true) (kis_piece : PySem.W.keepIn K (.ref fis_piece) = true)
    (aare_pieces : PySem.W.nsIn K mainGlobals "are_pieces" = some (some (.ref fare_pieces)))
    (lare_pieces : K.lookup fare_pieces = some ⟨ocare_pieces, odare_pieces, .func (PySem.W.fnOf "are_pieces" "are_pieces" (defArgs sArePieces) (defBody sArePieces) (defScope sArePieces) .none kVare_pieces dcare_pieces pmare_pieces anare_pieces cdare_pieces ctare_pieces), slare_pieces⟩) (care_pieces : PySem.W.codeIn K cdare_pieces "are_pieces" = true) (kare_pieces : PySem.W.keepIn K (.ref fare_pieces) = true)
    (mCE : PySem.W.nsIn K mainGlobals "InvalidAddress" = some (some (.ref CE)))
    (xErr : K.lookup CE = some (excClassObj nmErr qErr CE NNErr bsErr [.type "ValueError", .type "Exception", .type "BaseException", .type "object"] true snErr subErr abErr colErr ddErr m0Err m1Err m2Err m3Err m5Err "ValueError.__new__"))
    (saErr : PySem.W.findIn K (.ref CE) "__setattr__" = some (some (.builtin "object.__setattr__")))
    (exErr : PySem.W.subIn K (.ref CE) (.type "BaseException") = some true)
    (tyErr : PySem.W.typeIn K (.ref CE) = some (.type "type"))
    (kcErr : PySem.W.keepIn K (.ref CE) = true)
    (aErr : PySem.W.findIn K (.ref CE) "__init__" = some (some (.ref fErr)))
    (tErr : PySem.W.typeIn K (.ref fErr) = some (.type "function"))
    (lErr : K.lookup fErr = some ⟨ocErr, odErr, .func (PySem.W.fnOf "__init__" "InvalidAddress.__init__" (defArgs sErrA) (defBody sErrA) (defScope sErrA) .none kVErr dcErr pmErr anErr cdErr ctErr), slErr⟩) (cErr : PySem.W.codeIn K cdErr "InvalidAddress.__init__" = true) (kErr : PySem.W.keepIn K (.ref fErr) = true)
    (noErr : PySem.W.findIn K (.ref CE) "field" = some none)
    (gaErr : PySem.W.findIn K (.ref CE) "__getattribute__" = some (some (.builtin "BaseException.__getattribute__")))
    (ggErr : PySem.W.findIn K (.ref CE) "__getattr__" = some none)
    (hdErr : PySem.W.hasDictIn K CE = true)
    (clErr : PySem.W.findIn K (.ref CE) "__class__" = some (some (.builtin "object.__class__")))
    (clg : PySem.W.specialIn K (.builtin "object.__class__") "__get__" = some (some (.builtin "getset_descriptor.__get__")))
    (clt : PySem.W.takesIn K (.builtin "object.__class__") = some true)
    (moErr : PySem.W.mroIn K CE (.type "object") = some true)
    (sVErr : PySem.W.subIn K (.ref CE) (.type "ValueError") = some true)
    (sEErr : PySem.W.subIn K (.ref CE) (.ref CE) = some true)
    (fiInit : PySem.W.findIn K (.ref C) "__init__" = some (some (.ref fInit)))
    (iInit : PySem.W.isFn K (.ref fInit) = true)
    (lInit : K.lookup fInit = some ⟨ocInit, odInit, .func (PySem.W.fnOf "__init__" "Far.__init__" (defArgs sFInit) (defBody sFInit) (defScope sFInit) .none kVInit dcInit pmInit anInit cdInit ctInit), slInit⟩) (cInit : PySem.W.codeIn K cdInit "Far.__init__" = true) (kInit : PySem.W.keepIn K (.ref fInit) = true)
    (afstate : PySem.W.findIn K (.ref C) "state" = some (some (.ref pfstate)))
    (gfstate : PySem.W.specialIn K (.ref pfstate) "__get__" = some (some (.builtin "property.__get__")))
    (tfstate : PySem.W.takesIn K (.ref pfstate) = some true)
    (r_fstate : PySem.W.recIn K pfstate "property" = some (.ref ffstate :: rfstate))
    (lfstate : K.lookup ffstate = some ⟨ocfstate, odfstate, .func (PySem.W.fnOf "state" "Far.state" (defArgs sFState) (defBody sFState) (defScope sFState) .none kVfstate dcfstate pmfstate anfstate cdfstate ctfstate), slfstate⟩) (cfstate : PySem.W.codeIn K cdfstate "Far.state" = true) (kfstate : PySem.W.keepIn K (.ref ffstate) = true)
    (afpieces : PySem.W.findIn K (.ref C) "pieces" = some (some (.ref pfpieces)))
    (gfpieces : PySem.W.specialIn K (.ref pfpieces) "__get__" = some (some (.builtin "property.__get__")))
    (tfpieces : PySem.W.takesIn K (.ref pfpieces) = some true)
    (r_fpieces : PySem.W.recIn K pfpieces "property" = some (.ref ffpieces :: rfpieces))
    (lfpieces : K.lookup ffpieces = some ⟨ocfpieces, odfpieces, .func (PySem.W.fnOf "pieces" "Far.pieces" (defArgs sFPieces) (defBody sFPieces) (defScope sFPieces) .none kVfpieces dcfpieces pmfpieces anfpieces cdfpieces ctfpieces), slfpieces⟩) (cfpieces : PySem.W.codeIn K cdfpieces "Far.pieces" = true) (kfpieces : PySem.W.keepIn K (.ref ffpieces) = true)
    (asize_in : PySem.W.nsIn K mainGlobals "size_in" = some (some (.ref fsize_in)))
    (lsize_in : K.lookup fsize_in = some ⟨ocsize_in, odsize_in, .func (PySem.W.fnOf "size_in" "size_in" (defArgs sSizeIn) (defBody sSizeIn) (defScope sSizeIn) .none kVsize_in dcsize_in pmsize_in ansize_in cdsize_in ctsize_in), slsize_in⟩) (csize_in : PySem.W.codeIn K cdsize_in "size_in" = true) (ksize_in : PySem.W.keepIn K (.ref fsize_in) = true)
    (asize_of : PySem.W.nsIn K mainGlobals "size_of" = some (some (.ref fsize_of)))
    (lsize_of : K.lookup fsize_of = some ⟨ocsize_of, odsize_of, .func (PySem.W.fnOf "size_of" "size_of" (defArgs sSizeOf) (defBody sSizeOf) (defScope sSizeOf) .none kVsize_of dcsize_of pmsize_of ansize_of cdsize_of ctsize_of), slsize_of⟩) (csize_of : PySem.W.codeIn K cdsize_of "size_of" = true) (ksize_of : PySem.W.keepIn K (.ref fsize_of) = true)
    (abegin : PySem.W.nsIn K mainGlobals "_law_begin" = some (some (.ref fbegin)))
    (lbegin : K.lookup fbegin = some ⟨ocbegin, odbegin, .func (PySem.W.fnOf "_law_begin" "_law_begin" (defArgs sBegin) (defBody sBegin) (defScope sBegin) .none kVbegin dcbegin pmbegin anbegin cdbegin ctbegin), slbegin⟩) (cbegin : PySem.W.codeIn K cdbegin "_law_begin" = true) (kbegin : PySem.W.keepIn K (.ref fbegin) = true)
    (adraw : PySem.W.nsIn K mainGlobals "_law_draw" = some (some (.ref fdraw)))
    (ldraw : K.lookup fdraw = some ⟨ocdraw, oddraw, .func (PySem.W.fnOf "_law_draw" "_law_draw" (defArgs sDraw) (defBody sDraw) (defScope sDraw) .none kVdraw dcdraw pmdraw andraw cddraw ctdraw), sldraw⟩) (cdraw : PySem.W.codeIn K cddraw "_law_draw" = true) (kdraw : PySem.W.keepIn K (.ref fdraw) = true)
    (apick : PySem.W.nsIn K mainGlobals "_law_pick" = some (some (.ref fpick)))
    (lpick : K.lookup fpick = some ⟨ocpick, odpick, .func (PySem.W.fnOf "_law_pick" "_law_pick" (defArgs sPick) (defBody sPick) (defScope sPick) .none kVpick dcpick pmpick anpick cdpick ctpick), slpick⟩) (cpick : PySem.W.codeIn K cdpick "_law_pick" = true) (kpick : PySem.W.keepIn K (.ref fpick) = true)
    (apiece : PySem.W.nsIn K mainGlobals "_law_piece" = some (some (.ref fpiece)))
    (lpiece : K.lookup fpiece = some ⟨ocpiece, odpiece, .func (PySem.W.fnOf "_law_piece" "_law_piece" (defArgs sPiece) (defBody sPiece) (defScope sPiece) .none kVpiece dcpiece pmpiece anpiece cdpiece ctpiece), slpiece⟩) (cpiece : PySem.W.codeIn K cdpiece "_law_piece" = true) (kpiece : PySem.W.keepIn K (.ref fpiece) = true)
    (afault : PySem.W.nsIn K mainGlobals "_law_fault" = some (some (.ref ffault)))
    (lfault : K.lookup ffault = some ⟨ocfault, odfault, .func (PySem.W.fnOf "_law_fault" "_law_fault" (defArgs sFault) (defBody sFault) (defScope sFault) .none kVfault dcfault pmfault anfault cdfault ctfault), slfault⟩) (cfault : PySem.W.codeIn K cdfault "_law_fault" = true) (kfault : PySem.W.keepIn K (.ref ffault) = true)
    (alaw : PySem.W.nsIn K mainGlobals "law" = some (some (.ref flaw)))
    (llaw : K.lookup flaw = some ⟨oclaw, odlaw, .func (PySem.W.fnOf "law" "law" (defArgs sLaw) (defBody sLaw) (defScope sLaw) .none kVlaw dclaw pmlaw anlaw (.ref cL) ctlaw), sllaw⟩) (claw : PySem.W.codeIn K (.ref cL) "law" = true) (klaw : PySem.W.keepIn K (.ref flaw) = true)
    (lcL : K.lookup cL = some ⟨eL, ddL, .fields vsL, slL⟩)
    (hPt : vsL[11]? = some (.ref Pt))
    (lPt : K.lookup Pt = none) :
    ∃ (fd : FuncData) (c P : Addr) (o : Obj) (vs : Array Value) (e : Value) (dd : Option Addr) (sl : Array (Option Value)), K.lookup fa = some o ∧ o.data = .func fd ∧ fd.code = .ref c ∧ K.lookup c = some ⟨e, dd, .fields vs, sl⟩ ∧ vs[11]? = some (.ref P) ∧ K.lookup P = none ∧
      (∀ (s : Shared) (u : Value), BindsTo s fd ⟨[u], []⟩ [("_law_script", u)]) ∧ ∀ base : Heap, K.In base → base.Ns mainGlobals mg → LamX.TabB base mg c P → FnQ l.prog w K mg base 10 fa fd ["_law_script"] (spLaw K P) := by
  have e := hfa.symm.trans (PySem.W.mg_of X G alaw)
  cases e
  have B : Blt mg := ⟨PySem.W.mg_none_of X G zisinstance, PySem.W.mg_none_of X G zstr, PySem.W.mg_none_of X G zint, PySem.W.mg_none_of X G zbool, PySem.W.mg_none_of X G zlist, PySem.W.mg_none_of X G ztuple, PySem.W.mg_none_of X G zlen, PySem.W.mg_none_of X G zall, PySem.W.mg_none_of X G zsorted, PySem.W.mg_none_of X G zset, PySem.W.mg_none_of X G zrange, PySem.W.mg_none_of X G zmin, PySem.W.mg_none_of X G zrepr, PySem.W.mg_none_of X G zzip⟩
  have mvE : mg "ValueError" = none := PySem.W.mg_none_of X G zValueError
  have mS : mg "sum" = none := PySem.W.mg_none_of X G zsum
  have T : FTxt K mg C := ⟨⟨pgC, hdC, poC, saC⟩, nC_state, nC_pieces, PySem.W.mg_of X G mC⟩
  have Fis_word := fun_mk (st := sIsWord) lis_word cis_word kis_word
  have bis_word := Fis_word.binds (ps := ["value"]) fun _ _ _ _ _ _ us hl => match us, hl with | [_], _ => rfl
  have Fis_integer := fun_mk (st := sIsInteger) lis_integer cis_integer kis_integer
  have bis_integer := Fis_integer.binds (ps := ["value"]) fun _ _ _ _ _ _ us hl => match us, hl with | [_], _ => rfl
  have Fare_words := fun_mk (st := sAreW) lare_words care_words kare_words
  have bare_words := Fare_words.binds (ps := ["value"]) fun _ _ _ _ _ _ us hl => match us, hl with | [_], _ => rfl
  have Fis_piece := fun_mk (st := sIsPiece) lis_piece cis_piece kis_piece
  have bis_piece := Fis_piece.binds (ps := ["value"]) fun _ _ _ _ _ _ us hl => match us, hl with | [_], _ => rfl
  have Fare_pieces := fun_mk (st := sArePieces) lare_pieces care_pieces kare_pieces
  have bare_pieces := Fare_pieces.binds (ps := ["value"]) fun _ _ _ _ _ _ us hl => match us, hl with | [_], _ => rfl
  have FErr := fun_mk (st := sErrA) lErr cErr kErr
  have bErr := FErr.binds (ps := ["self", "field"]) fun _ _ _ _ _ _ us hl => match us, hl with | [_, _], _ => rfl
  have TErr : ErrC K mg "InvalidAddress" fField CE fErr := ⟨⟨⟨nmErr, qErr, NNErr, bsErr, _, snErr, subErr, abErr, colErr, ddErr, m0Err, m1Err, m2Err, m3Err, m5Err, xErr, by decide +kernel⟩, saErr, exErr, tyErr, kcErr⟩, aErr, tErr, noErr, PySem.W.mg_of X G mCE⟩
  have FInit := fun_mk (st := sFInit) lInit cInit kInit
  have bInit := FInit.binds (ps := ["self", "state", "pieces"]) fun _ _ _ _ _ _ us hl => match us, hl with | [_, _, _], _ => rfl
  have MI : Mk K C fInit := ⟨mkC, fiInit, iInit, kcC⟩
  have bkInit : KBn K (PySem.W.fnOf "__init__" "Far.__init__" (defArgs sFInit) (defBody sFInit) (defScope sFInit) .none kVInit dcInit pmInit anInit cdInit ctInit) ["self", "state", "pieces"] 1 ["state", "pieces"] (fun us ws => us ++ ws) (fun vs zs => vs ++ zs) :=
    ⟨fun s us ws _ h1 h2 => match us, h1, ws, h2 with | [_], _, [_, _], _ => .of_eq rfl, fun h1 h2 => vals_app h1 h2⟩
  have Ffstate := fun_mk (st := sFState) lfstate cfstate kfstate
  have bfstate := Ffstate.binds (ps := ["self"]) fun _ _ _ _ _ _ us hl => match us, hl with | [_], _ => rfl
  have Ffpieces := fun_mk (st := sFPieces) lfpieces cfpieces kfpieces
  have bfpieces := Ffpieces.binds (ps := ["self"]) fun _ _ _ _ _ _ us hl => match us, hl with | [_], _ => rfl
  have Fsize_in := fun_mk (st := sSizeIn) lsize_in csize_in ksize_in
  have bsize_in := Fsize_in.binds (ps := ["pieces"]) fun _ _ _ _ _ _ us hl => match us, hl with | [_], _ => rfl
  have Fsize_of := fun_mk (st := sSizeOf) lsize_of csize_of ksize_of
  have bsize_of := Fsize_of.binds (ps := ["far"]) fun _ _ _ _ _ _ us hl => match us, hl with | [_], _ => rfl
  have bzsize : KBn K (PySem.W.fnOf "size_of" "size_of" (defArgs sSizeOf) (defBody sSizeOf) (defScope sSizeOf) .none kVsize_of dcsize_of pmsize_of ansize_of cdsize_of ctsize_of) ["far"] 0 ["far"] (fun us ws => us ++ ws) (fun vs zs => vs ++ zs) :=
    ⟨fun s us ws _ h1 h2 => match us, h1, ws, h2 with | [], _, [_], _ => .of_eq rfl, fun h1 h2 => vals_app h1 h2⟩
  have Fbegin := fun_mk (st := sBegin) lbegin cbegin kbegin
  have bbegin := Fbegin.binds (ps := ["_law_script"]) fun _ _ _ _ _ _ us hl => match us, hl with | [_], _ => rfl
  have Fdraw := fun_mk (st := sDraw) ldraw cdraw kdraw
  have bdraw := Fdraw.binds (ps := ["_law_tape", "_law_many"]) fun _ _ _ _ _ _ us hl => match us, hl with | [_, _], _ => rfl
  have Fpick := fun_mk (st := sPick) lpick cpick kpick
  have bpick := Fpick.binds (ps := ["_law_tape", "_law_some"]) fun _ _ _ _ _ _ us hl => match us, hl with | [_, _], _ => rfl
  have Fpiece := fun_mk (st := sPiece) lpiece cpiece kpiece
  have bpiece := Fpiece.binds (ps := ["_law_tape"]) fun _ _ _ _ _ _ us hl => match us, hl with | [_], _ => rfl
  have Ffault := fun_mk (st := sFault) lfault cfault kfault
  have bfault := Ffault.binds (ps := ["_law_call"]) fun _ _ _ _ _ _ us hl => match us, hl with | [_], _ => rfl
  have FF : FaultAt K mg ffault ocfault odfault .none kVfault dcfault pmfault anfault cdfault ctfault slfault := ⟨PySem.W.mg_of X G afault, kfault, lfault, cfault, bfault⟩
  have Flaw := fun_mk (st := sLaw) llaw claw klaw
  refine ⟨PySem.W.fnOf "law" "law" (defArgs sLaw) (defBody sLaw) (defScope sLaw) .none kVlaw dclaw pmlaw anlaw (.ref cL) ctlaw, cL, Pt, _, vsL, eL, ddL, slL, llaw, rfl, rfl, lcL, hPt, lPt, fun s v => .of_eq rfl, fun base _ _ TB => ?_⟩
  have gis_word := ok_isword (P := l.prog) (w := w) (base := base) Fis_word B (PySem.W.mg_of X G aLETTERS)
  let ois_word := own_mk gis_word (PySem.W.mg_of X G ais_word) kis_word bis_word
  have gis_integer := ok_isint (P := l.prog) (w := w) (base := base) Fis_integer B
  let ois_integer := own_mk gis_integer (PySem.W.mg_of X G ais_integer) kis_integer bis_integer
  have gare_words := ok_arew Fare_words B ois_word
  let oare_words := own_mk gare_words (PySem.W.mg_of X G aare_words) kare_words bare_words
  have gis_piece := ok_ispiece Fis_piece B (PySem.W.mg_of X G aMOST_SEGMENTS) (PySem.W.mg_of X G aMOST_TIMES) oare_words ois_integer
  let ois_piece := own_mk gis_piece (PySem.W.mg_of X G ais_piece) kis_piece bis_piece
  have gare_pieces := ok_arep Fare_pieces B (PySem.W.mg_of X G aMOST_PIECES) ois_piece
  let oare_pieces := own_mk gare_pieces (PySem.W.mg_of X G aare_pieces) kare_pieces bare_pieces
  have gErr := ok_erra (P := l.prog) (w := w) (base := base) FErr TErr
  have gInit := ok_finit (fI := fInit) FInit T B TErr gErr bErr ois_word oare_pieces
  have ufstate := ok_fstate (P := l.prog) (w := w) (base := base) Ffstate T
  let ofstate := prop_mk afstate gfstate tfstate r_fstate ufstate bfstate
  have ufpieces := ok_fpieces (P := l.prog) (w := w) (base := base) Ffpieces T
  let ofpieces := prop_mk afpieces gfpieces tfpieces r_fpieces ufpieces bfpieces
  have gsize_in := ok_sizein (P := l.prog) (w := w) (base := base) Fsize_in B mS
  let osize_in := own_mk gsize_in (PySem.W.mg_of X G asize_in) ksize_in bsize_in
  have gsize_of := ok_sizeof Fsize_of T ofpieces osize_in
  let osize_of := own_mk gsize_of (PySem.W.mg_of X G asize_of) ksize_of bsize_of
  have gbegin := ok_begin (mg := mg) (P := l.prog) (w := w) (base := base) Fbegin
  let obegin := own_mk gbegin (PySem.W.mg_of X G abegin) kbegin bbegin
  have gdraw := ok_draw (P := l.prog) (w := w) (base := base) Fdraw B.int_ B.len_
  let odraw := own_mk gdraw (PySem.W.mg_of X G adraw) kdraw bdraw
  have gpick := ok_pick Fpick odraw B.len_
  let opick := own_mk gpick (PySem.W.mg_of X G apick) kpick bpick
  have gpiece := ok_piece Fpiece B odraw opick
  let opiece := own_mk gpiece (PySem.W.mg_of X G apiece) kpiece bpiece
  refine quiet_fnC (c := cL) ⟨oclaw, odlaw, kVlaw, dclaw, pmlaw, anlaw, ctlaw, sllaw, rfl, llaw, claw⟩ scLaw (fun vs H Q E h => ?_) (fun Ar fs s0 H vs Q E quiet hr h => ?_)
  · obtain ⟨a, ns, rfl, _⟩ := h
    rfl
  · obtain ⟨a, ns, rfl, hS, hlen, hT, q⟩ := h
    exact q_law T B obegin opick opiece MI gInit bInit bkInit osize_of bzsize ofstate ofpieces TErr ⟨gaErr, ggErr, exErr, hdErr⟩ ⟨gaErr, ggErr, exErr, hdErr, clErr, clg, clt, moErr⟩ (kit_own sVErr) (exm_own exErr hdErr tyErr sEErr) mvE mS aE obC FF TB _ rfl Ar fs s0 H a ns Q E hS hlen hT q quiet hr
theorem walk {l : PySem.W.OpenLaw} {q : Program} {loose : List Str} {XP : (Str → Option Value) → Heap → Prop} {YP : World → Heap → Prop} {d : DefRec} {K : Params → PySem.W.Frag} (hn : l.most = some 63) (hdf : d.params.defaults = []) (hany : ((PyProof.Rows.recsOf q).any fun e => e.name == d.name) = true)
    (hY : ∀ (w : World) (h : Heap), YP w h → (K w.params).In h)
    (F : ∀ (w : World) (mg : Str → Option Value) (fa : Addr) (h : Heap), (K w.params).In h → h.Ns mainGlobals mg → mg d.name = some (.ref fa) →
      ∃ (fd : FuncData) (c P : Addr) (o : Obj) (vs : Array Value) (e : Value) (dd : Option Addr) (sl : Array (Option Value)), (K w.params).lookup fa = some o ∧ o.data = .func fd ∧ fd.code = .ref c ∧ (K w.params).lookup c = some ⟨e, dd, .fields vs, sl⟩ ∧ vs[11]? = some (.ref P) ∧ (K w.params).lookup P = none ∧
        (∀ (s : Shared) (u : Value), BindsTo s fd ⟨[u], []⟩ [("_law_script", u)]) ∧ ∀ base : Heap, (K w.params).In base → base.Ns mainGlobals mg → LamX.TabB base mg c P → FnQ l.prog w (K w.params) mg base 10 fa fd ["_law_script"] (spLaw (K w.params) P)) :
    PySem.W.WalkO q loose XP YP l.row.toRowW d [] (fun f vs => PySem.call f vs) :=
  walk_tab (most := 63) (n := 10) (x := "_law_script") (sp := fun P w => spLaw (K w.params) P) hn (by decide) hdf ⟨rfl, by decide, by decide⟩ hany hY F fun _ _ a P ns hl hS hP => ⟨a, ns, rfl, hS, hl, hP, fun _ => rfl⟩
end RL

open PySem PySem.W PyProof.Rows
set_option maxRecDepth 100000 in
set_option maxHeartbeats 0 in
theorem PySem.Challenge.cw_sentonward_k41_far_addresses_made_holds : PySem.Challenge.rw_sentonward_k41_far_addresses_made.Holds := by
  w_on; o_law; k_head; (case hw => w_witness2)
  k_fill
  refine RL.walk (l := PySem.Challenge.rw_sentonward_k41_far_addresses_made) rfl rfl (by first | rfl | decide +kernel) (fun w h Y => PySem.W.km_in_of Y) ?F
  case F =>
    intro w mg fa h KX G hmg
    refine' RL.all_mk KX G hmg ?zisinstance ?zstr ?zint ?zbool ?zlist ?ztuple ?zlen ?zall ?zsorted ?zset ?zrange ?zmin ?zrepr ?zzip ?zValueError ?zsum ?aLETTERS ?aMOST_SEGMENTS ?aMOST_TIMES ?aMOST_PIECES ?mC ?pgC ?hdC ?poC ?saC ?mkC ?kcC ?nC_state ?nC_pieces ?aE ?obC ?ais_word ?lis_word ?cis_word ?kis_word ?ais_integer ?lis_integer ?cis_integer ?kis_integer ?aare_words ?lare_words ?care_words ?kare_words ?ais_piece ?lis_piece ?cis_piece ?kis_piece ?aare_pieces ?lare_pieces ?care_pieces ?kare_pieces ?mCE ?xErr ?saErr ?exErr ?tyErr ?kcErr ?aErr ?tErr ?lErr ?cErr ?kErr ?noErr ?gaErr ?ggErr ?hdErr ?clErr ?clg ?clt ?moErr ?sVErr ?sEErr ?fiInit ?iInit ?lInit ?cInit ?kInit ?afstate ?gfstate ?tfstate ?r_fstate ?lfstate ?cfstate ?kfstate ?afpieces ?gfpieces ?tfpieces ?r_fpieces ?lfpieces ?cfpieces ?kfpieces ?asize_in ?lsize_in ?csize_in ?ksize_in ?asize_of ?lsize_of ?csize_of ?ksize_of ?abegin ?lbegin ?cbegin ?kbegin ?adraw ?ldraw ?cdraw ?kdraw ?apick ?lpick ?cpick ?kpick ?apiece ?lpiece ?cpiece ?kpiece ?afault ?lfault ?cfault ?kfault ?alaw ?llaw ?claw ?klaw ?lcL ?hPt ?lPt
    (case zisinstance => k_is)
    (case zstr => k_is)
    (case zint => k_is)
    (case zbool => k_is)
    (case zlist => k_is)
    (case ztuple => k_is)
    (case zlen => k_is)
    (case zall => k_is)
    (case zsorted => k_is)
    (case zset => k_is)
    (case zrange => k_is)
    (case zmin => k_is)
    (case zrepr => k_is)
    (case zzip => k_is)
    (case zValueError => k_is)
    (case zsum => k_is)
    (case aLETTERS => k_is)
    (case aMOST_SEGMENTS => k_is)
    (case aMOST_TIMES => k_is)
    (case aMOST_PIECES => k_is)
    (case mC => k_is)
    (case pgC => k_is)
    (case hdC => k_is)
    (case poC => k_is)
    (case saC => k_is)
    (case mkC => k_is)
    (case kcC => k_is)
    (case nC_state => k_is)
    (case nC_pieces => k_is)
    (case aE => k_is)
    (case obC => k_is)
    (case ais_word => k_is)
    (case lis_word => k_is)
    (case cis_word => k_is)
    (case kis_word => k_is)
    (case ais_integer => k_is)
    (case lis_integer => k_is)
    (case cis_integer => k_is)
    (case kis_integer => k_is)
    (case aare_words => k_is)
    (case lare_words => k_is)
    (case care_words => k_is)
    (case kare_words => k_is)
    (case ais_piece => k_is)
    (case lis_piece => k_is)
    (case cis_piece => k_is)
    (case kis_piece => k_is)
    (case aare_pieces => k_is)
    (case lare_pieces => k_is)
    (case care_pieces => k_is)
    (case kare_pieces => k_is)
    (case mCE => k_is)
    (case xErr => k_is)
    (case saErr => k_is)
    (case exErr => k_is)
    (case tyErr => k_is)
    (case kcErr => k_is)
    (case aErr => k_is)
    (case tErr => k_is)
    (case lErr => k_is)
    (case cErr => k_is)
    (case kErr => k_is)
    (case noErr => k_is)
    (case gaErr => k_is)
    (case ggErr => k_is)
    (case hdErr => k_is)
    (case clErr => k_is)
    (case clg => k_is)
    (case clt => k_is)
    (case moErr => k_is)
    (case sVErr => k_is)
    (case sEErr => k_is)
    (case fiInit => k_is)
    (case iInit => k_is)
    (case lInit => k_is)
    (case cInit => k_is)
    (case kInit => k_is)
    (case afstate => k_is)
    (case gfstate => k_is)
    (case tfstate => k_is)
    (case r_fstate => k_is)
    (case lfstate => k_is)
    (case cfstate => k_is)
    (case kfstate => k_is)
    (case afpieces => k_is)
    (case gfpieces => k_is)
    (case tfpieces => k_is)
    (case r_fpieces => k_is)
    (case lfpieces => k_is)
    (case cfpieces => k_is)
    (case kfpieces => k_is)
    (case asize_in => k_is)
    (case lsize_in => k_is)
    (case csize_in => k_is)
    (case ksize_in => k_is)
    (case asize_of => k_is)
    (case lsize_of => k_is)
    (case csize_of => k_is)
    (case ksize_of => k_is)
    (case abegin => k_is)
    (case lbegin => k_is)
    (case cbegin => k_is)
    (case kbegin => k_is)
    (case adraw => k_is)
    (case ldraw => k_is)
    (case cdraw => k_is)
    (case kdraw => k_is)
    (case apick => k_is)
    (case lpick => k_is)
    (case cpick => k_is)
    (case kpick => k_is)
    (case apiece => k_is)
    (case lpiece => k_is)
    (case cpiece => k_is)
    (case kpiece => k_is)
    (case afault => k_is)
    (case lfault => k_is)
    (case cfault => k_is)
    (case kfault => k_is)
    (case alaw => k_is)
    (case llaw => k_is)
    (case claw => k_is)
    (case klaw => k_is)
    (case lcL => k_is)
    (case hPt => first | rfl | decide +kernel | k_is)
    (case lPt => first | rfl | decide +kernel | k_is)

