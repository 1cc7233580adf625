import PyProof.Rows.All
import Wide.All
import OpenK.AllK
import Wide.FinOn
import HandS.ForMost
import HandS.ForExc
import HandS.ExcInit
import HandS.ExcField
import HandS.ClsMeth
import HandS.Property
import HandS.Defaults
import HandS.IsInst
import HandS.ExcIs
import HandS.StrMore
import HandS.Codes
import HandS.OwnEq
import HandS.Ends
import HandS.Words
import KE.DatumMoreOrd
import HandS.SlotsOwn
import PyProof.EqAt
import PyProof.EqKinds
import PyProof.TupleCall
import PyProof.Rows.SortShellAny
import HandS.Base
import HandS.Call
import HandS.List
import HandS.Set
import HandS.SetFor
import HandS.TupAny
import HandS.TupLen
import KE.KDictCopyH
import HandS.MakeKw
import HandS.MakeKwOnly
import KE.KOpsOwn
import KE.KExcInit
import PyProof.ExcBaseAll.LookupError
import HandS.Star
import HandS.Walk
import HandS.DictComp
import PyProof.NeKinds
import HandS.TryMany
import HandS.Lambda
import KE.DatumMore
import HandS.EndTab
import HandS.EndOwn
import PySem.Challenge.RW_sentonward_k01_addresses_made
set_option Elab.async false
set_option linter.all false
set_option maxRecDepth 100000
set_option maxHeartbeats 8000000
namespace AddrMath
/-- a letter from a to z -/
def isL (c : Nat) : Bool := decide (97 ≤ c) && decide (c ≤ 122)
/-- a word -/
def isW (l : List Nat) : Bool := decide (1 ≤ l.length) && (decide (l.length ≤ 8) && l.all isL)
theorem isW_iff {l : List Nat} : isW l = true ↔ 1 ≤ l.length ∧ l.length ≤ 8 ∧ ∀ c ∈ l, isL c = true := by
  unfold isW
  rw [Bool.and_eq_true, Bool.and_eq_true, decide_eq_true_eq, decide_eq_true_eq, List.all_eq_true]
theorem isL_ne {c d : Nat} (h : isL c = true) (hd : d < 97) : c ≠ d := by
  unfold isL at h
  rw [Bool.and_eq_true, decide_eq_true_eq, decide_eq_true_eq] at h
  omega
/-- cut at each d -/
def sp (d : Nat) : List Nat → List (List Nat)
  | [] => [[]]
  | c :: r => if c = d then [] :: sp d r else match sp d r with
    | [] => [[c]]
    | p :: q => (c :: p) :: q
theorem sp_ne (d : Nat) : ∀ l, sp d l ≠ []
  | [] => by simp [sp]
  | c :: r => by
    unfold sp
    split
    · simp
    · split <;> simp
theorem sp_hit (d : Nat) (r : List Nat) : sp d (d :: r) = [] :: sp d r := by
  show (if d = d then [] :: sp d r else _) = _
  rw [if_pos rfl]
/-- the first piece and the others -/
theorem sp_cons (d : Nat) (l : List Nat) : ∃ p q, sp d l = p :: q := by
  cases h : sp d l with
  | nil => exact absurd h (sp_ne d l)
  | cons p q => exact ⟨p, q, rfl⟩
theorem sp_miss {d c : Nat} {r p : List Nat} {q : List (List Nat)} (hc : c ≠ d) (h : sp d r = p :: q) : sp d (c :: r) = (c :: p) :: q := by
  show (if c = d then [] :: sp d r else match sp d r with | [] => [[c]] | p :: q => (c :: p) :: q) = _
  rw [if_neg hc, h]
theorem sp_pre {d : Nat} : ∀ {a r p : List Nat} {q : List (List Nat)}, d ∉ a → sp d r = p :: q → sp d (a ++ r) = (a ++ p) :: q
  | [], _, _, _, _, h => h
  | c :: a, r, p, q, ha, h => by
    have h1 : c ≠ d := fun e => ha (by rw [e]; exact List.mem_cons_self ..)
    have h2 : d ∉ a := fun e => ha (List.mem_cons_of_mem _ e)
    exact sp_miss h1 (sp_pre h2 h)
theorem sp_free {d : Nat} {a : List Nat} (h : d ∉ a) : sp d a = [a] := by
  have e := sp_pre (r := []) (p := []) (q := []) h (by rfl)
  rw [List.append_nil] at e
  exact e
theorem sp_at {d : Nat} {a r : List Nat} (h : d ∉ a) : sp d (a ++ d :: r) = a :: sp d r := by
  have e := sp_pre (r := d :: r) (p := []) (q := sp d r) h (sp_hit d r)
  rw [List.append_nil] at e
  exact e
/-! ### the law's own look -/
/-- the pieces behind the first one: words, the last one may be empty -/
def segs : List (List Nat) → Bool
  | [] => false
  | [p] => decide (p = []) || isW p
  | p :: q :: r => isW p && segs (q :: r)
def tailOk (b : List Nat) : Bool := match sp 47 b with
  | [] => false
  | p :: q => decide (p = []) && segs q
def cb (l : List Nat) : Bool := match sp 58 l with
  | [a] => decide (a = []) || isW a
  | [a, b] => isW a && (decide (b = []) || tailOk b)
  | _ => false
/-! ### sign by sign -/
def cC : Nat → List Nat → Bool
  | _, [] => true
  | k, c :: r => if isL c = true then decide (k < 8) && cC (k + 1) r else if c = 47 then decide (1 ≤ k) && cC 0 r else false
def cB : List Nat → Bool
  | [] => true
  | c :: r => if c = 47 then cC 0 r else false
def cA : Nat → List Nat → Bool
  | _, [] => true
  | k, c :: r => if isL c = true then decide (k < 8) && cA (k + 1) r else if c = 58 then decide (1 ≤ k) && cB r else false
theorem isW_long {p : List Nat} (h : 8 < p.length) : isW p = false := by
  cases e : isW p with
  | false => rfl
  | true =>
    have := isW_iff.mp e
    omega
theorem isW_bad {p : List Nat} {c : Nat} (h : c ∈ p) (hc : isL c = false) : isW p = false := by
  cases e : isW p with
  | false => rfl
  | true =>
    have := (isW_iff.mp e).2.2 c h
    rw [hc] at this
    cases this
theorem segs_bad {p : List Nat} {q : List (List Nat)} (h : isW p = false) (hp : p ≠ []) : segs (p :: q) = false := by
  cases q with
  | nil => simp [segs, h, hp]
  | cons a q => simp [segs, h]
theorem isW_mk {a : List Nat} (h8 : a.length ≤ 8) (hl : ∀ c ∈ a, isL c = true) : isW a = decide (1 ≤ a.length) := by
  by_cases h : 1 ≤ a.length
  · rw [decide_eq_true h]
    exact isW_iff.mpr ⟨h, h8, hl⟩
  · rw [decide_eq_false h]
    cases e : isW a with
    | false => rfl
    | true => exact absurd (isW_iff.mp e).1 h
theorem all_snoc {a : List Nat} {c : Nat} (hl : ∀ x ∈ a, isL x = true) (hc : isL c = true) : ∀ x ∈ a ++ [c], isL x = true := by
  intro x hx
  rcases List.mem_append.mp hx with h | h
  · exact hl x h
  · rw [List.mem_singleton.mp h]
    exact hc
theorem no_of {a : List Nat} {d : Nat} (hd : d < 97) (hl : ∀ x ∈ a, isL x = true) : d ∉ a := fun h => isL_ne (hl d h) hd rfl
theorem cC_segs : ∀ (l a : List Nat), a.length ≤ 8 → (∀ c ∈ a, isL c = true) → segs (sp 47 (a ++ l)) = cC a.length l
  | [], a, h8, hl => by
    rw [List.append_nil, sp_free (no_of (by decide) hl)]
    show (decide (a = []) || isW a) = true
    rw [isW_mk h8 hl]
    cases a <;> simp
  | c :: r, a, h8, hl => by
    have h47 := no_of (d := 47) (by decide) hl
    show _ = (if isL c = true then decide (a.length < 8) && cC (a.length + 1) r else if c = 47 then decide (1 ≤ a.length) && cC 0 r else false)
    by_cases hc : isL c = true
    · rw [if_pos hc]
      have hne : c ≠ 47 := isL_ne hc (by decide)
      by_cases hk : a.length < 8
      · have ih := cC_segs r (a ++ [c]) (by rw [List.length_append]; exact hk) (all_snoc hl hc)
        rw [List.append_assoc] at ih
        rw [decide_eq_true hk, Bool.true_and]
        have e : (a ++ [c]).length = a.length + 1 := by simp
        rw [e] at ih
        exact ih
      · rw [decide_eq_false hk, Bool.false_and]
        obtain ⟨p, q, hp⟩ := sp_cons 47 r
        rw [sp_pre h47 (sp_miss hne hp)]
        refine segs_bad (isW_long ?_) (by simp)
        rw [List.length_append, List.length_cons]
        omega
    · rw [if_neg hc]
      by_cases he : c = 47
      · rw [if_pos he, he, sp_at h47]
        obtain ⟨p, q, hp⟩ := sp_cons 47 r
        have ih := cC_segs r [] (by simp) (fun x hx => by cases hx)
        rw [List.nil_append] at ih
        rw [show cC 0 r = cC ([] : List Nat).length r from rfl, ← ih, hp, ← isW_mk h8 hl]
        rfl
      · rw [if_neg he]
        obtain ⟨p, q, hp⟩ := sp_cons 47 r
        rw [sp_pre h47 (sp_miss he hp)]
        exact segs_bad (isW_bad (c := c) (by simp) (by simpa using hc)) (by simp)
/-- behind the colon -/
theorem cB_tail (b : List Nat) : (decide (b = []) || tailOk b) = cB b := by
  cases b with
  | nil => rfl
  | cons c r =>
    show (decide (c :: r = []) || tailOk (c :: r)) = (if c = 47 then cC 0 r else false)
    rw [decide_eq_false (by simp), Bool.false_or]
    by_cases hc : c = 47
    · rw [if_pos hc, hc]
      unfold tailOk
      rw [sp_hit]
      show (decide (([] : List Nat) = []) && segs (sp 47 r)) = _
      rw [decide_eq_true rfl, Bool.true_and]
      exact cC_segs r [] (by simp) (fun x hx => by cases hx)
    · rw [if_neg hc]
      unfold tailOk
      obtain ⟨p, q, hp⟩ := sp_cons 47 r
      rw [sp_miss hc hp]
      show (decide (c :: p = []) && segs q) = false
      rw [decide_eq_false (by simp), Bool.false_and]
theorem cC_58 : ∀ (k : Nat) (r : List Nat), 58 ∈ r → cC k r = false
  | _, [], h => by cases h
  | k, c :: r, h => by
    show (if isL c = true then decide (k < 8) && cC (k + 1) r else if c = 47 then decide (1 ≤ k) && cC 0 r else false) = false
    by_cases hc : isL c = true
    · rw [if_pos hc]
      have hm : 58 ∈ r := by
        rcases List.mem_cons.mp h with e | e
        · exact absurd e.symm (isL_ne hc (by decide))
        · exact e
      rw [cC_58 (k + 1) r hm, Bool.and_false]
    · rw [if_neg hc]
      by_cases he : c = 47
      · rw [if_pos he]
        have hm : 58 ∈ r := by
          rcases List.mem_cons.mp h with e | e
          · omega
          · exact e
        rw [cC_58 0 r hm, Bool.and_false]
      · rw [if_neg he]
theorem cB_58 {r : List Nat} (h : 58 ∈ r) : cB r = false := by
  cases r with
  | nil => cases h
  | cons c r =>
    show (if c = 47 then cC 0 r else false) = false
    by_cases hc : c = 47
    · rw [if_pos hc]
      refine cC_58 0 r ?_
      rcases List.mem_cons.mp h with e | e
      · omega
      · exact e
    · rw [if_neg hc]
theorem sp_two {d : Nat} : ∀ {r : List Nat}, d ∈ r → ∃ p q s, sp d r = p :: q :: s
  | [], h => by cases h
  | c :: r, h => by
    by_cases hc : c = d
    · rw [hc, sp_hit]
      obtain ⟨p, q, e⟩ := sp_cons d r
      exact ⟨[], p, q, by rw [e]⟩
    · have hm : d ∈ r := by
        rcases List.mem_cons.mp h with e | e
        · exact absurd e.symm hc
        · exact e
      obtain ⟨p, q, s, e⟩ := sp_two hm
      exact ⟨c :: p, q, s, sp_miss hc e⟩
theorem cb_bad {p : List Nat} {q : List (List Nat)} {l : List Nat} (e : sp 58 l = p :: q) (h : isW p = false) (hp : p ≠ []) : cb l = false := by
  unfold cb
  rw [e]
  match q with
  | [] => simp [h, hp]
  | [b] => simp [h]
  | _ :: _ :: _ => rfl
theorem cA_cb : ∀ (l a : List Nat), a.length ≤ 8 → (∀ c ∈ a, isL c = true) → cb (a ++ l) = cA a.length l
  | [], a, h8, hl => by
    unfold cb
    rw [List.append_nil, sp_free (no_of (by decide) hl)]
    show (decide (a = []) || isW a) = true
    rw [isW_mk h8 hl]
    cases a <;> simp
  | c :: r, a, h8, hl => by
    have h58 := no_of (d := 58) (by decide) hl
    show _ = (if isL c = true then decide (a.length < 8) && cA (a.length + 1) r else if c = 58 then decide (1 ≤ a.length) && cB r else false)
    by_cases hc : isL c = true
    · rw [if_pos hc]
      have hne : c ≠ 58 := isL_ne hc (by decide)
      by_cases hk : a.length < 8
      · have ih := cA_cb r (a ++ [c]) (by rw [List.length_append]; exact hk) (all_snoc hl hc)
        rw [List.append_assoc] at ih
        rw [decide_eq_true hk, Bool.true_and]
        have e : (a ++ [c]).length = a.length + 1 := by simp
        rw [e] at ih
        exact ih
      · rw [decide_eq_false hk, Bool.false_and]
        obtain ⟨p, q, hp⟩ := sp_cons 58 r
        refine cb_bad (sp_pre h58 (sp_miss hne hp)) (isW_long ?_) (by simp)
        rw [List.length_append, List.length_cons]
        omega
    · rw [if_neg hc]
      by_cases he : c = 58
      · rw [if_pos he, he, ← isW_mk h8 hl]
        by_cases hm : 58 ∈ r
        · obtain ⟨p, q, s, e⟩ := sp_two hm
          rw [cB_58 hm, Bool.and_false]
          unfold cb
          rw [sp_at h58, e]
        · unfold cb
          rw [sp_at h58, sp_free hm, ← cB_tail]
      · rw [if_neg he]
        obtain ⟨p, q, hp⟩ := sp_cons 58 r
        exact cb_bad (sp_pre h58 (sp_miss he hp)) (isW_bad (c := c) (by simp) (by simpa using hc)) (by simp)
theorem cb_cA (l : List Nat) : cb l = cA 0 l := by
  have e := cA_cb l [] (by simp) (fun x hx => by cases hx)
  rw [List.nil_append] at e
  exact e
/-! ### how far it goes -/
def lC : Nat → List Nat → Nat
  | _, [] => 0
  | k, c :: r => if isL c = true then (if k < 8 then lC (k + 1) r + 1 else 0) else if c = 47 then (if 1 ≤ k then lC 0 r + 1 else 0) else 0
def lB : List Nat → Nat
  | [] => 0
  | c :: r => if c = 47 then lC 0 r + 1 else 0
def lA : Nat → List Nat → Nat
  | _, [] => 0
  | k, c :: r => if isL c = true then (if k < 8 then lA (k + 1) r + 1 else 0) else if c = 58 then (if 1 ≤ k then lB r + 1 else 0) else 0
theorem lB_cons (c : Nat) (r : List Nat) : lB (c :: r) = if c = 47 then lC 0 r + 1 else 0 := rfl
theorem cB_cons (c : Nat) (r : List Nat) : cB (c :: r) = if c = 47 then cC 0 r else false := rfl
theorem cC_take : ∀ (l : List Nat) (k j : Nat), j ≤ l.length → cC k (l.take j) = decide (j ≤ lC k l)
  | [], k, j, h => by
    have e : j = 0 := by simpa using h
    subst e
    rfl
  | c :: r, k, 0, _ => by simp [cC]
  | c :: r, k, j + 1, h => by
    have hj : j ≤ r.length := by simpa using h
    rw [List.take_succ_cons]
    unfold cC lC
    by_cases hc : isL c = true
    · rw [if_pos hc, if_pos hc]
      by_cases hk : k < 8
      · rw [if_pos hk, decide_eq_true hk, Bool.true_and, cC_take r (k + 1) j hj]
        simp
      · rw [if_neg hk, decide_eq_false hk, Bool.false_and]
        simp
    · rw [if_neg hc, if_neg hc]
      by_cases he : c = 47
      · rw [if_pos he, if_pos he]
        by_cases hk : 1 ≤ k
        · rw [if_pos hk, decide_eq_true hk, Bool.true_and, cC_take r 0 j hj]
          simp
        · rw [if_neg hk, decide_eq_false hk, Bool.false_and]
          simp
      · rw [if_neg he, if_neg he]
        simp
theorem cB_take (l : List Nat) (j : Nat) (h : j ≤ l.length) : cB (l.take j) = decide (j ≤ lB l) := by
  cases l with
  | nil =>
    have e : j = 0 := by simpa using h
    subst e
    rfl
  | cons c r =>
    cases j with
    | zero => simp [cB]
    | succ j =>
      have hj : j ≤ r.length := by simpa using h
      rw [List.take_succ_cons, cB_cons, lB_cons]
      by_cases he : c = 47
      · rw [if_pos he, if_pos he, cC_take r 0 j hj]
        simp
      · rw [if_neg he, if_neg he]
        simp
theorem cA_take : ∀ (l : List Nat) (k j : Nat), j ≤ l.length → cA k (l.take j) = decide (j ≤ lA k l)
  | [], k, j, h => by
    have e : j = 0 := by simpa using h
    subst e
    rfl
  | c :: r, k, 0, _ => by simp [cA]
  | c :: r, k, j + 1, h => by
    have hj : j ≤ r.length := by simpa using h
    rw [List.take_succ_cons]
    unfold cA lA
    by_cases hc : isL c = true
    · rw [if_pos hc, if_pos hc]
      by_cases hk : k < 8
      · rw [if_pos hk, decide_eq_true hk, Bool.true_and, cA_take r (k + 1) j hj]
        simp
      · rw [if_neg hk, decide_eq_false hk, Bool.false_and]
        simp
    · rw [if_neg hc, if_neg hc]
      by_cases he : c = 58
      · rw [if_pos he, if_pos he]
        by_cases hk : 1 ≤ k
        · rw [if_pos hk, decide_eq_true hk, Bool.true_and, cB_take r j hj]
          simp
        · rw [if_neg hk, decide_eq_false hk, Bool.false_and]
          simp
      · rw [if_neg he, if_neg he]
        simp
theorem lC_le : ∀ (l : List Nat) (k : Nat), lC k l ≤ l.length
  | [], _ => Nat.le_refl _
  | c :: r, k => by
    have i1 := lC_le r (k + 1)
    have i2 := lC_le r 0
    unfold lC
    rw [List.length_cons]
    repeat' split
    all_goals omega
theorem lB_le (l : List Nat) : lB l ≤ l.length := by
  cases l with
  | nil => exact Nat.le_refl _
  | cons c r =>
    have i2 := lC_le r 0
    rw [lB_cons, List.length_cons]
    split <;> omega
theorem lA_le : ∀ (l : List Nat) (k : Nat), lA k l ≤ l.length
  | [], _ => Nat.le_refl _
  | c :: r, k => by
    have i1 := lA_le r (k + 1)
    have i2 := lB_le r
    unfold lA
    rw [List.length_cons]
    repeat' split
    all_goals omega
/-- the longest beginning with which some text begins -/
theorem cb_take (l : List Nat) (j : Nat) (h : j ≤ l.length) : cb (l.take j) = decide (j ≤ lA 0 l) := by
  rw [cb_cA]
  exact cA_take l 0 j h
/-! ### the program's reader -/
/-- letters that are read on from k ones -/
def run : Nat → List Nat → Nat
  | _, [] => 0
  | k, c :: r => if k < 8 ∧ isL c = true then run (k + 1) r + 1 else 0
theorem run_le : ∀ (l : List Nat) (k : Nat), run k l ≤ l.length
  | [], _ => Nat.le_refl _
  | c :: r, k => by
    have := run_le r (k + 1)
    unfold run
    rw [List.length_cons]
    split <;> omega
theorem run_8 : ∀ (l : List Nat) (k : Nat), k ≤ 8 → k + run k l ≤ 8
  | [], k, h => h
  | c :: r, k, h => by
    unfold run
    split
    · rename_i hh
      have := run_8 r (k + 1) (by omega)
      omega
    · omega
theorem run_all : ∀ (l : List Nat) (k : Nat), ∀ c ∈ l.take (run k l), isL c = true
  | [], k, c, h => by simp [run] at h
  | d :: r, k, c, h => by
    unfold run at h
    split at h
    · rename_i hh
      rw [List.take_succ_cons] at h
      rcases List.mem_cons.mp h with e | e
      · rw [e]
        exact hh.2
      · exact run_all r (k + 1) c e
    · simp at h
theorem lC_run : ∀ (l : List Nat) (k : Nat), k ≤ 8 → lC k l = run k l + (if 1 ≤ k + run k l then lB (l.drop (run k l)) else 0)
  | [], k, _ => by
    simp [lC, run, lB]
  | c :: r, k, hk8 => by
    unfold lC run
    by_cases hc : isL c = true
    · by_cases hk : k < 8
      · rw [if_pos hc, if_pos hk, if_pos ⟨hk, hc⟩, lC_run r (k + 1) (by omega), List.drop_succ_cons]
        have e1 : 1 ≤ k + 1 + run (k + 1) r := by omega
        have e2 : 1 ≤ k + (run (k + 1) r + 1) := by omega
        rw [if_pos e1, if_pos e2]
        omega
      · have hn : ¬ (k < 8 ∧ isL c = true) := fun h => hk h.1
        rw [if_pos hc, if_neg hk, if_neg hn, List.drop_zero]
        have e : lB (c :: r) = 0 := by
          rw [lB_cons, if_neg (isL_ne hc (by decide))]
        rw [e]
        split <;> rfl
    · have hn : ¬ (k < 8 ∧ isL c = true) := fun h => hc h.2
      rw [if_neg hc, if_neg hn, List.drop_zero, Nat.zero_add, Nat.add_zero]
      rw [lB_cons]
      by_cases he : c = 47
      · rw [if_pos he, if_pos he]
        rfl
      · rw [if_neg he, if_neg he]
        split <;> rfl
theorem lA_run : ∀ (l : List Nat) (k : Nat), k ≤ 8 → lA k l = run k l + (if 1 ≤ k + run k l ∧ (l.drop (run k l)).head? = some 58 then lB (l.drop (run k l + 1)) + 1 else 0)
  | [], k, _ => by
    simp [lA, run]
  | c :: r, k, hk8 => by
    unfold lA run
    by_cases hc : isL c = true
    · by_cases hk : k < 8
      · rw [if_pos hc, if_pos hk, if_pos ⟨hk, hc⟩, lA_run r (k + 1) (by omega), List.drop_succ_cons, List.drop_succ_cons]
        have e1 : 1 ≤ k + 1 + run (k + 1) r := by omega
        have e2 : 1 ≤ k + (run (k + 1) r + 1) := by omega
        by_cases hh : (r.drop (run (k + 1) r)).head? = some 58
        · rw [if_pos ⟨e1, hh⟩, if_pos ⟨e2, hh⟩]
          omega
        · rw [if_neg (fun z => hh z.2), if_neg (fun z => hh z.2)]
      · have hn : ¬ (k < 8 ∧ isL c = true) := fun h => hk h.1
        rw [if_pos hc, if_neg hk, if_neg hn, List.drop_zero]
        rw [if_neg]
        intro z
        have : c = 58 := by simpa using z.2
        exact isL_ne hc (by decide) this
    · have hn : ¬ (k < 8 ∧ isL c = true) := fun h => hc h.2
      rw [if_neg hc, if_neg hn, List.drop_zero, Nat.zero_add, Nat.add_zero]
      show _ = (if 1 ≤ k ∧ some c = some 58 then lB r + 1 else 0)
      by_cases he : c = 58
      · rw [if_pos he]
        by_cases h1 : 1 ≤ k
        · rw [if_pos h1, if_pos ⟨h1, by rw [he]⟩]
        · rw [if_neg h1, if_neg (fun z => h1 z.1)]
      · rw [if_neg he, if_neg (fun z => he (Option.some.inj z.2))]
theorem lB_58 : ∀ (k : Nat) (r : List Nat), lC k r = r.length → 58 ∉ r
  | _, [], _ => by simp
  | k, c :: r, h => by
    unfold lC at h
    rw [List.length_cons] at h
    by_cases hc : isL c = true
    · rw [if_pos hc] at h
      split at h
      · have := lB_58 (k + 1) r (by omega)
        intro hm
        rcases List.mem_cons.mp hm with e | e
        · exact isL_ne hc (by decide) e.symm
        · exact this e
      · omega
    · rw [if_neg hc] at h
      split at h
      · split at h
        · have := lB_58 0 r (by omega)
          intro hm
          rcases List.mem_cons.mp hm with e | e
          · omega
          · exact this e
        · omega
      · omega
theorem lB_free {b : List Nat} (h : lB b = b.length) : 58 ∉ b := by
  cases b with
  | nil => simp
  | cons c r =>
    rw [lB_cons, List.length_cons] at h
    split at h
    · have := lB_58 0 r (by omega)
      intro hm
      rcases List.mem_cons.mp hm with e | e
      · omega
      · exact this e
    · omega
/-! ### what is told -/
inductive Told where
  | bad (n : Nat)
  | good (s : List Nat) (p : List (List Nat))
/-- the loop behind the colon: what is left, the path so far; how many signs stand ahead -/
def rdB : Nat → List Nat → Nat → List (List Nat) → Nat ⊕ List (List Nat)
  | _, [], _, path => .inr path
  | 0, _ :: _, n, _ => .inl n
  | f + 1, c :: r, n, path => if c ≠ 47 then .inl n else if run 0 r = 0 then .inl (n + 1) else rdB f (r.drop (run 0 r)) (n + 1 + run 0 r) (path ++ [r.take (run 0 r)])
def lastIs (b : List Nat) (c : Nat) : Prop := b.getLast? = some c
instance (b : List Nat) (c : Nat) : Decidable (lastIs b c) := inferInstanceAs (Decidable (_ = _))
def good (b : List Nat) : Prop := lB b = b.length ∧ ¬ lastIs b 47
instance (b : List Nat) : Decidable (good b) := inferInstanceAs (Decidable (_ ∧ _))
theorem rdB_is : ∀ (f : Nat) (b : List Nat) (n : Nat) (path : List (List Nat)), b.length ≤ f → rdB f b n path = if good b then .inr (path ++ (sp 47 b).tail) else .inl (n + lB b)
  | f, [], n, path, _ => by
    have g : good [] := ⟨rfl, by simp [lastIs]⟩
    rw [if_pos g]
    cases f <;> simp [rdB, sp]
  | 0, c :: r, n, path, h => by simp at h
  | f + 1, c :: r, n, path, h => by
    have hr : r.length ≤ f := by simpa using h
    show (if c ≠ 47 then .inl n else if run 0 r = 0 then .inl (n + 1) else rdB f (r.drop (run 0 r)) (n + 1 + run 0 r) (path ++ [r.take (run 0 r)])) = _
    by_cases hc : c = 47
    · rw [if_neg (fun z => z hc)]
      subst hc
      have e1 : lB (47 :: r) = lC 0 r + 1 := by rw [lB_cons, if_pos rfl]
      have e2 := lC_run r 0 (by decide)
      rw [Nat.zero_add] at e2
      by_cases hw : run 0 r = 0
      · rw [if_pos hw]
        rw [hw] at e2
        have e3 : lB (47 :: r) = 1 := by rw [e1, e2]; rfl
        have ng : ¬ good (47 :: r) := by
          intro g
          have g1 := g.1
          rw [e3, List.length_cons] at g1
          have : r = [] := List.length_eq_zero_iff.mp (by omega)
          subst this
          exact g.2 rfl
        rw [if_neg ng, e3]
      · rw [if_neg hw]
        have hw1 : 1 ≤ run 0 r := by omega
        rw [if_pos hw1] at e2
        have hle := run_le r 0
        have ih := rdB_is f (r.drop (run 0 r)) (n + 1 + run 0 r) (path ++ [r.take (run 0 r)]) (by rw [List.length_drop]; omega)
        rw [ih]
        have hsplit : r = r.take (run 0 r) ++ r.drop (run 0 r) := (List.take_append_drop _ _).symm
        have hlet := run_all r 0
        have h47 := no_of (d := 47) (by decide) hlet
        have hlen : (r.drop (run 0 r)).length = r.length - run 0 r := List.length_drop
        have iff : good (47 :: r) ↔ good (r.drop (run 0 r)) := by
          have hl : lB (47 :: r) = (47 :: r).length ↔ lB (r.drop (run 0 r)) = (r.drop (run 0 r)).length := by
            rw [e1, e2, hlen, List.length_cons]
            omega
          have hlast : lastIs (47 :: r) 47 ↔ lastIs (r.drop (run 0 r)) 47 := by
            unfold lastIs
            cases hd : r.drop (run 0 r) with
            | nil =>
              have ht : r.take (run 0 r) = r := by
                have e := hsplit
                rw [hd, List.append_nil] at e
                exact e.symm
              have hr0 : r ≠ [] := by
                intro e
                rw [e] at hw1
                simp [run] at hw1
              constructor
              · intro z
                rw [List.getLast?_cons_of_ne_nil hr0] at z
                have hm := List.mem_of_getLast? z
                rw [← ht] at hm
                exact absurd hm h47
              · intro z
                cases z
            | cons x y =>
              have e : 47 :: r = (47 :: r.take (run 0 r)) ++ (x :: y) := by
                rw [List.cons_append, ← hd, ← hsplit]
              have z : ((47 :: r.take (run 0 r)) ++ (x :: y)).getLast? = (x :: y).getLast? := by
                rw [List.getLast?_append]
                cases hz : (x :: y).getLast? with
                | none => simp at hz
                | some v => rfl
              rw [e, z]
          unfold good
          rw [hl, hlast]
        by_cases g : good (47 :: r)
        · rw [if_pos g, if_pos (iff.mp g)]
          rw [sp_hit, List.tail_cons]
          have g2 := (iff.mp g).1
          have key : sp 47 r = r.take (run 0 r) :: (sp 47 (r.drop (run 0 r))).tail := by
            cases hd : r.drop (run 0 r) with
            | nil =>
              have ht : r.take (run 0 r) = r := by
                have e := hsplit
                rw [hd, List.append_nil] at e
                exact e.symm
              rw [ht] at h47 ⊢
              rw [sp_free h47]
              rfl
            | cons x y =>
              have hx : x = 47 := by
                rw [hd, lB_cons] at g2
                split at g2
                · assumption
                · simp at g2
              subst hx
              have e : r = r.take (run 0 r) ++ 47 :: y := by
                rw [← hd]
                exact hsplit
              rw [sp_hit, List.tail_cons]
              exact (congrArg (sp 47) e).trans (sp_at h47)
          rw [key, List.append_assoc]
          rfl
        · rw [if_neg g, if_neg (fun z => g (iff.mpr z)), e1, e2]
          congr 1
          omega
    · rw [if_pos hc]
      have e : lB (c :: r) = 0 := by rw [lB_cons, if_neg hc]
      have ng : ¬ good (c :: r) := by
        intro g
        have := g.1
        rw [e, List.length_cons] at this
        omega
      rw [if_neg ng, e]
      rfl
/-- the whole reader -/
def rd (l : List Nat) : Told :=
  if run 0 l = 0 ∨ (l.drop (run 0 l)).head? ≠ some 58 then .bad (run 0 l)
  else match rdB l.length (l.drop (run 0 l + 1)) (run 0 l + 1) [] with
    | .inl n => .bad n
    | .inr p => .good (l.take (run 0 l)) p
/-- the law's own -/
def due (l : List Nat) : Told :=
  if lA 0 l < l.length then .bad (lA 0 l) else match sp 58 l with
  | [a, b] => if lastIs b 47 then .bad (lA 0 l) else .good a (sp 47 b).tail
  | _ => .bad (lA 0 l)
theorem rd_due (l : List Nat) : rd l = due l := by
  have e := lA_run l 0 (by decide)
  rw [Nat.zero_add] at e
  have hle := run_le l 0
  have hlet := run_all l 0
  have h58 := no_of (d := 58) (by decide) hlet
  unfold rd
  by_cases hw : run 0 l = 0 ∨ (l.drop (run 0 l)).head? ≠ some 58
  · rw [if_pos hw]
    have hn : ¬ (1 ≤ run 0 l ∧ (l.drop (run 0 l)).head? = some 58) := by
      rintro ⟨h1, h2⟩
      rcases hw with h | h
      · omega
      · exact h h2
    rw [if_neg hn, Nat.add_zero] at e
    unfold due
    rw [e]
    by_cases hlt : run 0 l < l.length
    · rw [if_pos hlt]
    · rw [if_neg hlt]
      have ht : l.take (run 0 l) = l := List.take_of_length_le (by omega)
      rw [ht] at h58
      rw [sp_free h58]
  · rw [if_neg hw]
    have h1 : 1 ≤ run 0 l := by
      rcases Nat.eq_zero_or_pos (run 0 l) with h | h
      · exact absurd (.inl h) hw
      · exact h
    have h2 : (l.drop (run 0 l)).head? = some 58 := by
      by_cases h : (l.drop (run 0 l)).head? = some 58
      · exact h
      · exact absurd (.inr h) hw
    rw [if_pos ⟨h1, h2⟩] at e
    have hd : l.drop (run 0 l) = 58 :: l.drop (run 0 l + 1) := by
      cases hx : l.drop (run 0 l) with
      | nil =>
        rw [hx] at h2
        cases h2
      | cons x y =>
        rw [hx] at h2
        have ex : x = 58 := by simpa using h2
        have ey : y = l.drop (run 0 l + 1) := by
          have z := congrArg (List.drop 1) hx
          rw [List.drop_drop] at z
          simpa using z.symm
        rw [ex, ey]
    have hl : l = l.take (run 0 l) ++ 58 :: l.drop (run 0 l + 1) := by
      rw [← hd]
      exact (List.take_append_drop _ _).symm
    generalize hb : l.drop (run 0 l + 1) = b at *
    have hlen : l.length = run 0 l + (b.length + 1) := by
      have z := congrArg List.length hl
      rw [List.length_append, List.length_take, List.length_cons, Nat.min_eq_left hle] at z
      exact z
    rw [rdB_is l.length b (run 0 l + 1) [] (by omega)]
    have hsp : sp 58 l = l.take (run 0 l) :: sp 58 b := (congrArg (sp 58) hl).trans (sp_at h58)
    have hbl := lB_le b
    unfold due
    rw [e]
    by_cases hfull : lB b = b.length
    · have hnl : ¬ (run 0 l + (lB b + 1) < l.length) := by omega
      rw [if_neg hnl, hsp, sp_free (lB_free hfull)]
      by_cases hz : lastIs b 47
      · have ng : ¬ good b := fun g => g.2 hz
        rw [if_neg ng]
        show Told.bad _ = (if lastIs b 47 then Told.bad _ else _)
        rw [if_pos hz]
        congr 1
        omega
      · rw [if_pos (show good b from ⟨hfull, hz⟩)]
        show Told.good _ _ = (if lastIs b 47 then _ else Told.good _ _)
        rw [if_neg hz]
        rfl
    · have hlt : run 0 l + (lB b + 1) < l.length := by omega
      rw [if_pos hlt, if_neg (fun g : good b => hfull g.1)]
      show Told.bad _ = Told.bad _
      congr 1
      omega
end AddrMath

/-! A law whose body needs to know that no repr is under way: its def's promise where the list of running reprs is known to be empty, and the end of the row by it. -/
namespace GR
open PySem PySem.Spec PyProof.Rows L2 SX
/-- no repr runs -/
abbrev Quiet (Ar : Around) : Prop := Ar.guards = some []
theorem quiet_deeper {Ar : Around} {e : Env} (h : Quiet Ar) : Quiet (Ar.deeper e) := h
structure FnQ (pr : Program) (wo : World) (F : PySem.W.Frag) (gl : Str → Option Value) (b0 : Heap) (n : Nat) (at_ : Addr) (fd : FuncData) (names : List Str) (sp : Sp) : Prop where
  many : ∀ vs H Q E, sp vs H Q E → vs.length = names.length
  runs : ∀ (Ar : Around) (fs : List Env) (s : Shared) (H : Hp) (gs : Args) (us : List Value) (vs : List V) (Q : VK) (E : XK),
    Quiet Ar → Room n Ar → Env0 pr wo F gl b0 Ar fs s H → BindsTo s fd gs (names.zip us) → Vals vs us → sp vs H Q E →
    codeAny (model pr wo) Ar (.call (.ref at_) gs) (CR CX0 fs pr wo H s Q E) s
section
variable {pr : Program} {wo : World} {F : PySem.W.Frag} {gl : Str → Option Value} {b0 : Heap}
theorem quiet_fn {x qual : Str} {st : Stmt} {at_ : Addr} {fd : FuncData} {N names : List Str} {n : Nat} {sp : Sp} (D : Fun F x qual st at_ fd) (S : FnScope N names (defScope st))
    (many : ∀ vs H Q E, sp vs H Q E → vs.length = names.length)
    (body : ∀ (cd : Value) (Ar : Around) (fs : List Env) (s : Shared) (H : Hp) (vs : List V) (Q : VK) (E : XK), Quiet Ar →
      Room n (Ar.deeper (envOfC qual (defScope st) s.heap.objs.size at_ cd)) → sp vs H Q E →
      ∃ t, PSs (cxOf CX0 pr wo F gl b0 N qual (defScope st) at_ cd Ar fs s H E).nox (defBody st) t ∧
        t { nx := fun _ H' => Q .non H', rt := Q } (start N vs) H) :
    FnQ pr wo F gl b0 (n + 1) at_ fd names sp := by
  obtain ⟨oc, od, kV, doc, pm, an, cd, ct, osl, rfl, here, code⟩ := D.ex
  refine ⟨many, ?_⟩
  intro Ar fs s H gs us vs Q E quiet room e0 binds rel want
  have FX : F.In s.heap := e0.mod.kin.keeps (fun b o e => (e0.bs b o e).1)
  have lim : s.heap.NoLimit := e0.mod.nolimit.keeps (fun b o e => (e0.bs b o e).1)
  refine codeAny_call_function room.depth (FX _ _ here) rfl S.co S.gen rfl (PySem.W.codeRec_of FX code) (binds _ _ _ _ ?_)
  refine wpAny_newFunctionEnv_cells S.kind ?_ (fun en en_is s1 inside => ?_)
  · rintro ⟨nm, v⟩ mem
    rcases S.par nm (List.of_mem_zip mem).1 with q | q
    · exact Or.inl q
    · exact Or.inr ⟨q, PySem.W.cellsFrom_some _ _ _ (Or.inl q)⟩
  subst en_is
  refine ⟨lim.keeps inside.toInCall.keep, codeAny_func ?_⟩
  obtain ⟨t, reads, does⟩ := body cd Ar fs s H vs Q E quiet (room.deeper _) want
  have I0 := inv_start (CX := CX0) (E := E) S room.hd e0 (many _ _ _ _ want) rel inside
  refine wpAny_mono (reads.nox.run [] s1 (start N vs) H _ I0 does) ?_ (fun _ _ h => h)
  intro fl s' ends
  cases fl with
  | next =>
    obtain ⟨σ', H', J, q⟩ := ends
    exact ⟨V.non, H', J.os, J.bare, J.base, J.hok, rfl, q⟩
  | ret u =>
    obtain ⟨v, σ', H', J, rv, q⟩ := ends
    exact ⟨v, H', J.os, J.bare, J.base, J.hok, rv, q⟩
  | brk =>
    obtain ⟨_, _, _, z⟩ := ends
    exact z.elim
  | cont =>
    obtain ⟨_, _, _, z⟩ := ends
    exact z.elim
end
/-- the heap behind the top with the script alone in view -/
theorem quiet_from {pr : Program} {wo : World} {F : PySem.W.Frag} {gl gb : Str → Option Value} {n : Nat} {at_ sc : Addr} {fd : FuncData} {x : Str} {sp : Sp} {s : Shared} {ns : List Int} {ob : Obj} {H : Hp}
    (inF : F.In s.heap) (nsm : s.heap.Ns mainGlobals gl) (nsb : s.heap.Ns builtinsNs gb) (bb : ∀ y : Str, y ≠ "__name__" → gb y = bootBuiltins y) (lim : s.heap.NoLimit) (ng : s.gens = #[])
    (atS : s.heap.get? sc = some ob) (seq : ∃ its k, ob.data = .seq its k) (room : Room n callerA)
    (D : ∀ b0 : Heap, F.In b0 → b0.Ns mainGlobals gl → FnQ pr wo F gl b0 n at_ fd [x] sp) (binds : ∀ (s : Shared) (u : Value), BindsTo s fd ⟨[u], []⟩ [(x, u)])
    (want : sp [.ref sc] H (fun v _ => v = .bl true) fun _ _ _ => False)
    (only : Only H) (ok : HOk pr wo H s.heap) (isS : ∀ b, H b ≠ none → b = sc) (away : H sc ≠ none → F.lookup sc = none) :
    codeAny (model pr wo) callerA (.call (.ref at_) ⟨[.ref sc], []⟩) (fun r s' => r = .ok (.ret (.bool true)) ∧ OldK s.heap s'.heap ∧ s'.os = s.os ∧ AllBare s'.gens) s := by
  have out : ∀ {b : Addr} {o : Obj}, s.heap.get? b = some o → (b = sc → H b = none) → (hidT s.heap H).get? b = some o := fun {b o} e h => hidT_get e (by
    cases q : H b with
    | none => rfl
    | some u => exact (by rw [h (isS b (by rw [q]; exact fun z => nomatch z))] at q; cases q))
  have dict : ∀ {b : Addr} {m : Str → Option Value}, s.heap.Ns b m → (hidT s.heap H).Ns b m := by
    rintro b m ⟨o, es, ep, e, d, rest⟩
    refine ⟨o, es, ep, out e (fun z => ?_), d, rest⟩
    exfalso
    subst z
    obtain ⟨its, k, hs⟩ := seq
    rw [atS] at e
    cases e
    rw [hs] at d
    cases d
  have inB : F.In (hidT s.heap H) := fun b o e => out (inF b o e) (fun z => by
    cases q : H b with
    | none => rfl
    | some u =>
      rw [z] at q e
      rw [away (by rw [q]; exact fun z => nomatch z)] at e
      cases e)
  have e0 : Env0 pr wo F gl (hidT s.heap H) callerA [] s H := by
    refine ⟨rfl, ⟨inB, dict nsm, ⟨gb, dict nsb, bb⟩, ?_⟩, fun b o e => of_hidT e, Nat.le_of_eq (hidT_size _ _), trivial, ?_, ok, .of_eq ng⟩
    · obtain ⟨mc, h1, h2⟩ := lim
      exact ⟨mc, dict h1, h2⟩
    · intro b hb
      cases (show b ∈ ([] : List Addr) from hb)
  refine codeAny_mono ((D _ inB (dict nsm)).runs callerA [] s H ⟨[.ref sc], []⟩ [.ref sc] [.ref sc] _ _ rfl room e0 (binds s (.ref sc)) (.cons rfl .nil) want) ?_
  rintro (e | fl) s' h
  · exact (show False from h).elim
  cases fl with
  | next => exact (show False from h).elim
  | brk => exact (show False from h).elim
  | cont => exact (show False from h).elim
  | ret u =>
    obtain ⟨v, H', os, bare, un, ok', rel, q⟩ := h
    cases (show v = V.bl true from q)
    cases (show u = Value.bool true from rel)
    refine ⟨rfl, OldK.of_keep (fun b o e => ?_), os, bare⟩
    cases q : H b with
    | none => exact un.keep b o e q (fun z => by cases (show b ∈ ([] : List Addr) from z)) (by simp)
    | some u =>
      rcases only b with z | ⟨ob', xs, z⟩
      · rw [q] at z
        cases z
      · have p1 := (ok b _ z).1
        have p2 := (ok' b _ (un.frzs b ob' _ z)).1
        rw [e] at p1
        cases p1
        exact p2
/-- the end of a row whose law knows that no repr runs -/
theorem walk_quiet {l : PySem.W.OpenLaw} {most n : Nat} {q : Program} {loose : List Str} {XP : (Str → Option Value) → Heap → Prop} {YP : World → Heap → Prop} {d : DefRec} {F : Params → PySem.W.Frag} {sp : World → Sp} {x : Str}
    (hm : l.most = some most) (small : most ≤ sizeLine) (nd : d.params.defaults = []) (room : Room n callerA)
    (hY : ∀ (wo : World) (h : Heap), YP wo h → (F wo.params).In h)
    (D : ∀ (wo : World) (gl : Str → Option Value) (at_ : Addr) (h : Heap), (F wo.params).In h → h.Ns mainGlobals gl → gl d.name = some (.ref at_) →
      ∃ fd : FuncData, (∀ (s : Shared) (u : Value), BindsTo s fd ⟨[u], []⟩ [(x, u)]) ∧
        ∀ b0 : Heap, (F wo.params).In b0 → b0.Ns mainGlobals gl → FnQ l.prog wo (F wo.params) gl b0 n at_ fd [x] (sp wo))
    (want : ∀ (wo : World) (H : Hp) (sc : Addr) (ns : List Int), ns.length ≤ most → Only H → SqL (F wo.params) H sc (ns.map V.int) → sp wo [.ref sc] H (fun v _ => v = .bl true) fun _ _ _ => False) :
    PySem.W.WalkO q loose XP YP l.row.toRowW d [] (fun f vs => PySem.call f vs) := by
  refine Att.attach_call hm nd ?_
  intro wo s₀ s gl gb at_ o pm cd doc sc vs ns G Y ho hd hcd hgl atS areI len ng
  have inF := hY wo _ Y
  obtain ⟨fd, binds, D0⟩ := D wo gl at_ _ inF G.T.g hgl
  have rv := vals_ints areI
  have lenV := areI.length
  have small' : ns.length ≤ sizeLine := Nat.le_trans len small
  have go := fun (H : Hp) (only : Only H) (seen : SqL (F wo.params) H sc (ns.map V.int)) =>
    quiet_from (pr := l.prog) (wo := wo) (ns := ns) inF G.T.g G.T.b G.T.builtins G.T.nolimit ng atS ⟨vs.toArray, _, rfl⟩ room D0 binds (want wo H sc ns len only seen) only
  by_cases known : (F wo.params).lookup sc = none
  · refine go (fun b => if b = sc then some (.frz { cls := .type "list", data := .seq vs.toArray } (.lst (ns.map V.int))) else none) (fun b => ?_) (Or.inl (Or.inr ⟨{ cls := .type "list", data := .seq vs.toArray }, if_pos rfl⟩)) ?_ (fun b ne => ?_) (fun _ => known)
    · by_cases e : b = sc
      · exact Or.inr ⟨_, _, if_pos e⟩
      · exact Or.inl (if_neg e)
    · intro b u e
      by_cases eq : b = sc
      · have e' := (if_pos eq).symm.trans e
        cases e'
        subst eq
        exact ⟨atS, by rw [List.length_map]; exact small', vs, _, rv, atS⟩
      · have e' := (if_neg eq).symm.trans e
        cases e'
    · by_cases eq : b = sc
      · exact eq
      · exact absurd (if_neg eq) ne
  · obtain ⟨o', ho'⟩ := Option.ne_none_iff_exists'.mp known
    have e := (atS.symm.trans (inF sc o' ho'))
    cases e
    refine go (fun _ => none) (fun _ => Or.inl rfl) (Or.inr ⟨_, vs.toArray, _, ho', rfl, rfl, rfl, by rw [List.size_toArray, lenV]; exact small', by simpa using rv⟩) (fun b u e => by cases (show (none : Option HO) = some u from e)) (fun b ne => absurd rfl ne) (fun ne => absurd rfl ne)
end GR

/-! Operations a law needs beside the hand layer's: repr of data where no repr runs, the order of data, comparisons that a class of the text defines (instances with a dict), isinstance of such an instance. -/
namespace GR
open PySem PySem.W PySem.Spec PySem.Calls PyProof.Rows L2 SX
section
variable {X : Cx}
/-- repr(x), x a list or a tuple of plain data -/
def rRepr (K : Frag) (A : Around) : List V → Hp → VK → Prop := fun xs H Q => ∃ (a : Addr) (d : PyData), xs = [.ref a] ∧ Dp K H (.ref a) d ∧ d.showable = true ∧ d.hasDict = false ∧ A.units + (d.depth + 1) < cLine ∧ d.shown.length ≤ sizeLine ∧ Q (.str d.shown) H
theorem call_reprD (quiet : Quiet X.A) : CallR X (.builtin "repr") (rRepr X.K X.A) := by
  intro pins s σ H xs us Q I rel h
  obtain ⟨a, d, rfl, dp, sh, nd, room, len, q⟩ := h
  obtain ⟨u, rfl, ru⟩ := rel.one
  cases (show u = Value.ref a from ru)
  obtain ⟨as, rd⟩ := dp.reads I d _ _ rfl
  exact repr_of_reads' rd sh (PyData.noDict_hsm nd) quiet room (fun _ _ e => e) (fun h' u tk hk => ⟨.str d.shown, H, I.kept hk, ⟨_, rfl⟩, q⟩) len
/-- x op y of two values that read as data with an order -/
def rDat {α : Type} [DecidableEq α] [DatumOrd α] (K : Frag) (f : α → α → Bool) : R2 := fun x y H Q => ∃ p q : α, Dp K H x (Datum.toD p) ∧ Dp K H y (Datum.toD q) ∧ Q (.bl (f p q)) H
section
variable {α : Type} [DecidableEq α] [DatumOrd α]
theorem opd_lt (hu : X.A.units + Datum.depth α < cLine) : OpR X (compareOp .Lt) (rDat (α := α) X.K fun p q => DatumOrd.lt p q) := by
  intro pins s σ H x y v u Q I rx ry ⟨p, q, hp, hq, fin⟩
  exact lt_datum (Dp.reads I _ _ _ hp rx) (Dp.reads I _ _ _ hq ry) hu ⟨.bl _, H, I, rfl, fin⟩
theorem opd_gt (hu : X.A.units + Datum.depth α < cLine) : OpR X (compareOp .Gt) (rDat (α := α) X.K fun p q => DatumOrd.lt q p) := by
  intro pins s σ H x y v u Q I rx ry ⟨p, q, hp, hq, fin⟩
  exact gt_datum (Dp.reads I _ _ _ hp rx) (Dp.reads I _ _ _ hq ry) hu ⟨.bl _, H, I, rfl, fin⟩
theorem opd_le (hu : X.A.units + Datum.depth α < cLine) : OpR X (compareOp .LtE) (rDat (α := α) X.K fun p q => !DatumOrd.lt q p) := by
  intro pins s σ H x y v u Q I rx ry ⟨p, q, hp, hq, fin⟩
  exact le_datum (Dp.reads I _ _ _ hp rx) (Dp.reads I _ _ _ hq ry) hu ⟨.bl _, H, I, rfl, fin⟩
theorem opd_ge (hu : X.A.units + Datum.depth α < cLine) : OpR X (compareOp .GtE) (rDat (α := α) X.K fun p q => !DatumOrd.lt p q) := by
  intro pins s σ H x y v u Q I rx ry ⟨p, q, hp, hq, fin⟩
  exact ge_datum (Dp.reads I _ _ _ hp rx) (Dp.reads I _ _ _ hq ry) hu ⟨.bl _, H, I, rfl, fin⟩
theorem opd_eq (hu : X.A.units + Datum.depth α < cLine) : OpR X (compareOp .Eq) (rDat (α := α) X.K fun p q => decide (p = q)) := by
  intro pins s σ H x y v u Q I rx ry ⟨p, q, hp, hq, fin⟩
  exact eq_datum (Dp.reads I _ _ _ hp rx) (Dp.reads I _ _ _ hq ry) hu ⟨.bl _, H, I, rfl, fin⟩
theorem opd_ne (hu : X.A.units + Datum.depth α < cLine) : OpR X (compareOp .NotEq) (rDat (α := α) X.K fun p q => decide (p ≠ q)) := by
  intro pins s σ H x y v u Q I rx ry ⟨p, q, hp, hq, fin⟩
  exact ne_datum (Dp.reads I _ _ _ hp rx) (Dp.reads I _ _ _ hq ry) hu ⟨.bl _, H, I, rfl, fin⟩
end
/-- x op y of two instances of the class at C, by its own def -/
def rIns (C : Addr) (sp : Sp) : R2 := fun x y H Q => ∃ (a b dx dy : Addr) (fs gs : List (Str × V)), x = .ref a ∧ y = .ref b ∧ H a = some (.ins C dx fs) ∧ H b = some (.ins C dy gs) ∧ sp [x, y] H Q E0
section
variable {C f : Addr} {fd : FuncData} {ps : List Str} {n : Nat} {sp : Sp}
theorem own_cmp {op : CmpOp} (hop : ∀ a b, compareOp op a b = richCompare op a b) (at_ : findIn X.K (.ref C) (cmpInfo op).2.1 = some (some (.ref f))) (isF : isFn X.K (.ref f) = true)
    (F : FnOk X.prog X.w X.K X.mg X.base CX0 n f fd ps sp) (hb : Binds X.K fd ps []) (room : Room n X.A) : OpR X (compareOp op) (rIns C sp) := by
  intro pins s σ H x y v u Q I rx ry ⟨a, b, dx, dy, fs, gs, ex, ey, ha, hb', q⟩
  subst ex; subst ey
  cases (show v = Value.ref a from rx); cases (show u = Value.ref b from ry)
  obtain ⟨_, J, _⟩ := ins_get I.hok ha
  obtain ⟨_, J', _⟩ := ins_get I.hok hb'
  obtain ⟨od, J, _⟩ := J.look
  obtain ⟨od', J', _⟩ := J'.look
  obtain ⟨m, hF⟩ := I.fr
  rw [hop]
  refine cmp_K (op := op) (tb := .ref C) room.units0 hF I.ok.mod.kin J J'.type (by simp [notFirst]) at_ isF ?_
  refine wpAny_mono (run_fn (us := [.ref a, .ref b]) (vs := [.ref a, .ref b]) F room hb .nil pass0 I (.cons rfl (.cons rfl .nil)) q) ?_ (fun _ _ e => e)
  rintro w s' ⟨z, H', I', rz, qz⟩
  exact SlX.cmpback rz ⟨z, H', I', rz, qz⟩
/-- != where the class has == alone -/
def rNeI (C : Addr) (sp : Sp) : R2 := fun x y H Q => ∃ (a b dx dy : Addr) (fs gs : List (Str × V)), x = .ref a ∧ y = .ref b ∧ H a = some (.ins C dx fs) ∧ H b = some (.ins C dy gs) ∧ sp [x, y] H (fun z H' => ∃ t, z = .bl t ∧ Q (.bl (!t)) H') E0
theorem bindSlot {M : Model} {h : Heap} (self : Value) : Looks M h (bindSpecial (.builtin "object.__ne__") self) (.builtin "object.__ne__", [self]) := Looks.of_pure (PySem.F.slot_object_ne.bind self)
theorem ifBound_B {K : Frag} {M : Model} {A : Around} {E : Value → Shared → Prop} {s : Shared} {x C : Addr} {ox : Obj} {od : Option Obj} {id : String} {name : Str} {args : List Value} {Q : Option Value → Shared → Prop} (inK : K.In s.heap) (J : InstAt s.heap x ox C od)
    (at_ : findIn K (.ref C) name = some (some (.builtin id))) (bd : Looks M s.heap (bindSpecial (.builtin id) (.ref x)) (.builtin id, [.ref x]))
    (h : wpAny M A (call (.builtin id) (.ref x :: args)) (fun v => Q (some v)) E s) : wpAny M A (callSpecialIfBound? (.ref x) name args) Q E s := by
  simp only [callSpecialIfBound?, bindSpecialIfBound?]
  refine wpAny_holding (wpAny_bind (wpAny_bind (wpAny_bind (J.type.here ((looks_findIn inK at_).here ?_)))))
  have fin : wpAny M A (call (.builtin id) ([.ref x] ++ args) >>= fun v => pure (some v)) Q E s := wpAny_bind (wpAny_mono h (fun v s' q => wpAny_pure q) fun _ _ q => q)
  refine wpAny_bind (wpAny_askSetting (wpAny_ite ?_))
  split
  · exact wpAny_bind (bd.here (wpAny_pure (by exact fin)))
  · exact wpAny_tryCatch (wpAny_bind (bd.here (wpAny_pure (by exact fin))))
theorem own_ne (at_ : findIn X.K (.ref C) "__eq__" = some (some (.ref f))) (isF : isFn X.K (.ref f) = true) (ne_ : findIn X.K (.ref C) "__ne__" = some (some (.builtin "object.__ne__"))) (ob : subIn X.K (.ref C) (.type "object") = some true)
    (F : FnOk X.prog X.w X.K X.mg X.base CX0 n f fd ps sp) (hb : Binds X.K fd ps []) (room : Room (n + 1) X.A) : OpR X (compareOp .NotEq) (rNeI C sp) := by
  intro pins s σ H x y v u Q I rx ry ⟨a, b, dx, dy, fs, gs, ex, ey, ha, hb', q⟩
  subst ex; subst ey
  cases (show v = Value.ref a from rx); cases (show u = Value.ref b from ry)
  obtain ⟨_, J, _⟩ := ins_get I.hok ha
  obtain ⟨_, J', _⟩ := ins_get I.hok hb'
  obtain ⟨od, J, _⟩ := J.look
  obtain ⟨od', J', _⟩ := J'.look
  have inK : X.K.In s.heap := I.kIn
  have room1 : Room n X.A.in1 := room.in1
  have go : wpAny (model X.prog X.w) X.A.in1 (call (.ref f) [.ref a, .ref b]) (fun r s' => ∃ t, r = .bool t ∧ EP X pins σ Q (.bool (!t)) s') X.xe s := by
    have bs := hb s [.ref a, .ref b] inK (by rw [List.append_nil]; exact F.len _ _ _ _ q)
    refine wpAny_call (codeAny_mono (F.run X.A.in1 X.stack s H ⟨[.ref a, .ref b], []⟩ [.ref a, .ref b] [.ref a, .ref b] _ E0 room1 I.env0.in1 bs (.cons rfl (.cons rfl .nil)) q) ?_)
    rintro (e | fl) s' h
    · exact (show False from h).elim
    cases fl with
    | next => exact (show False from h).elim
    | brk => exact (show False from h).elim
    | cont => exact (show False from h).elim
    | ret r =>
      obtain ⟨z, H', I', rz, t, ez, qz⟩ := I.after h
      subst ez
      cases (show r = Value.bool t from rz)
      exact ⟨t, rfl, .bl (!t), H', I', rfl, qz⟩
  have inner : wpAny (model X.prog X.w) X.A (call (.builtin "object.__ne__") [.ref a, .ref b]) (fun r s' => ∃ t, r = .bool (!t) ∧ EP X pins σ Q (.bool (!t)) s') X.xe s := by
    refine wpAny_call (codeAny_call_builtin PySem.F.slot_object_ne.plain PySem.F.cmpEntry_ne (check_slot PySem.F.cmpKind_ne PySem.F.cmpSplit_ne (J.type.andThen (looks_subIn inK ob)) (PySem.F.cmpArgs_ne _ _) ?_))
    unfold Builtin.«object.__ne__»
    repeat (first
      | with_reducible refine wpAny_cRoomFor room1.units0 ?_
      | (refine wpAny_bind (m := callSpecialIfBound? (.ref a) (Str.ofString "__eq__") [.ref b]) (ifBound_K inK J at_ isF (wpAny_mono go (fun r s' hr => by
          obtain ⟨t, rfl, hq⟩ := hr
          repeat (first | exact ⟨t, rfl, hq⟩ | exact wpAny_pure ⟨t, rfl, hq⟩ | exact wpAny_truthy_bool ⟨t, rfl, hq⟩ | (refine wpAny_bind (m := truthy (.bool _)) (wpAny_truthy_bool ?_)) | wp_step)) fun _ _ e => e)))
      | wp_step)
  have one : wpAny (model X.prog X.w) X.A (tryCompare (.ref a) "__ne__" (.ref b)) (fun r s' => ∃ v, r = some v ∧ EP X pins σ Q v s') X.xe s := by
    unfold tryCompare
    refine wpAny_bind (ifBound_B inK J ne_ (bindSlot _) (wpAny_mono inner ?_ fun _ _ e => e))
    rintro r s' ⟨t, rfl, hq⟩
    exact wpAny_pure ⟨_, rfl, hq⟩
  show wpAny _ _ (richCompare .NotEq (.ref a) (.ref b)) _ _ _
  unfold richCompare
  simp only [oneThing_ref]
  refine wpAny_holding (wpAny_bind (wpAny_cRoomFor room.units0 ?_))
  refine wpAny_bind (J.type.here (wpAny_bind (J'.type.here ?_)))
  rw [show (Value.ref C != Value.ref C) = false from by simp]
  simp only [Bool.false_eq_true, if_false]
  refine wpAny_bind (wpAny_pure ?_)
  simp only [Bool.false_eq_true, if_false]
  refine wpAny_bind (wpAny_mono one ?_ fun _ _ e => e)
  rintro r s' ⟨v, rfl, hq⟩
  exact wpAny_pure hq
end
end
end GR

/-! sorted(set(xs)), xs a list of texts -/
namespace TxSet
open PySem PySem.Spec PyProof.Rows L2
abbrev sk (P : Program) (w : World) := PySem.strKind P w
def wd (e : Int × Value) : Str := match e.2 with | .str x _ => x | _ => Str.empty
def Tx (w : World) (e : Int × Value) : Prop := ∃ x u, e.2 = Value.str x u ∧ e.1 = hashStr w x
/-- the set of texts at a -/
def SetX (w : World) (h : Heap) (a : Addr) (M : Str → Bool) (m : Nat) : Prop :=
  ∃ ob cells ep tb, h.get? a = some ob ∧ ob.ExactSet ∧ ob.data = .set cells ep tb ∧ (∀ c ∈ cells.toList, Tx w c) ∧ (cells.toList.map wd).Nodup ∧ (∀ z, M z = true ↔ z ∈ cells.toList.map wd) ∧
    cells.size < scanBound ∧ tb.fits cells.size = true ∧ cells.size = m ∧ Ris tb.place.toList ∧ (w.params.followText "set-order" = true ∨ tb.led = true)
section
variable {P : Program} {w : World} {h h' : Heap} {a : Addr} {M : Str → Bool} {m : Nat}
theorem SetX.stay (R : SetX w h a M m) (k : ∀ ob, h.get? a = some ob → h'.get? a = some ob) : SetX w h' a M m := by
  obtain ⟨ob, cells, ep, tb, ho, r⟩ := R
  exact ⟨ob, cells, ep, tb, k ob ho, r⟩
theorem SetX.like {M' : Str → Bool} (R : SetX w h a M m) (e : ∀ z, M' z = M z) : SetX w h a M' m := by
  have q : M' = M := funext e
  rw [q]
  exact R
theorem tx_elems {l : List (Int × Value)} (g : ∀ c ∈ l, Tx w c) : ElemsOf (sk P w) l := fun c hc => by
  obtain ⟨z, u, h1, h2⟩ := g c hc
  exact ⟨⟨z, by rw [h1]; exact PySem.strKind_is P w z u, h2⟩, by rw [h1] <;> rfl⟩
theorem tx_is {c : Int × Value} (g : Tx w c) (z : Str) : (sk P w).is z c.2 = true ↔ wd c = z := by
  obtain ⟨z0, u, h1, _⟩ := g
  unfold wd
  rw [h1]
  constructor
  · intro q
    exact (sk P w).inj _ _ _ (PySem.strKind_is P w z0 u) q
  · intro q
    have q' : z0 = z := q
    rw [← q']
    exact PySem.strKind_is P w z0 u
theorem tx_mem {l : List (Int × Value)} (g : ∀ c ∈ l, Tx w c) (z : Str) : z ∈ l.map wd ↔ ∃ c ∈ l, (sk P w).is z c.2 = true := by
  rw [List.mem_map]
  constructor
  · rintro ⟨c, hc, q⟩
    exact ⟨c, hc, (tx_is (g c hc) z).2 q⟩
  · rintro ⟨c, hc, q⟩
    exact ⟨c, hc, (tx_is (g c hc) z).1 q⟩
theorem SetX.setOf (R : SetX w h a M m) : h.SetOf (sk P w) a M m := by
  obtain ⟨ob, cells, ep, tb, ho, hx, hd, g, nd, hm, hb, hf, hn, _⟩ := R
  exact ⟨ob, cells, ep, tb, ho, hx, hd, tx_elems g, fun z => (hm z).trans (tx_mem g z), hb, hf, hn⟩
end
section
variable {P : Program} {w : World} {A : Around} {E : Value → Shared → Prop} {s : Shared} {a : Addr} {M : Str → Bool} {m : Nat}
/-- behind the laying of a new entry: the table is stored, and laid anew where it is too full -/
theorem lay_tail {gv : Bool → Sem Unit} (hgv : ∀ (b : Bool) (s₁ : Shared) (Q' : Unit → Shared → Prop), Q' () s₁ → wpAny (model P w) A (gv b) Q' E s₁)
    {ob : Obj} {cells : Array (Int × Value)} {ep : Nat} {tb : SetTable} (ho : s.heap.get? a = some ob) (hex : ob.ExactSet) (hd : ob.data = .set cells ep tb)
    {c1 : Array (Int × Value)} {t2 : SetTable} {M' : Str → Bool} (g1 : ∀ c ∈ c1.toList, Tx w c) (nd1 : (c1.toList.map wd).Nodup) (m1 : ∀ z, M' z = true ↔ z ∈ c1.toList.map wd)
    (hb1 : c1.size < scanBound) (hf2 : t2.fits c1.size = true) (hr : Ris t2.place.toList) (hl : w.params.followText "set-order" = true ∨ t2.led = true) {dum : Bool} {R : Option Bool → Shared → Prop}
    (hR : ∀ h', Heap.SameBut a s.heap h' → SetX w h' a M' c1.size → R (some true) { s with heap := h' }) :
    wpAny (model P w) A (do
        storeSet a c1 t2
        if (!dum && t2.tooFull) = true then do
            gv (relayAll t2 c1 (SetTable.grown c1.size)).2.2
            storeSet a (relayAll t2 c1 (SetTable.grown c1.size)).1 (relayAll t2 c1 (SetTable.grown c1.size)).2.1
            pure (some true)
          else pure (some true)) R E s := by
  refine wpAny_bind (wpAny_storeSet_of ho hd ?_ (fits_of_scanBound hb1))
  have ho1 := store_at (es' := c1) (t' := t2) ho hd
  have sb1 := Heap.SameBut.update s.heap a (Obj.putSet c1 t2)
  split
  · have pm := relayAll_perm t2 c1 (SetTable.grown c1.size)
    have hf3 := relayAll_fits t2 c1 (SetTable.grown c1.size)
    have hr3 := relayAll_ris t2 c1 (SetTable.grown c1.size)
    have hl3 := relayAll_led t2 c1 (SetTable.grown c1.size)
    generalize relayAll t2 c1 (SetTable.grown c1.size) = Z at pm hf3 hr3 hl3 ⊢
    obtain ⟨c2, t3, gave⟩ := Z
    dsimp only at pm hf3 hr3 hl3 ⊢
    have hsz : c2.size = c1.size := by rw [← Array.length_toList, pm.length_eq, Array.length_toList]
    have hb2 : c2.size < scanBound := by rw [hsz]; exact hb1
    refine wpAny_bind (hgv _ _ _ ?_)
    refine wpAny_bind (wpAny_storeSet_of ho1 rfl ?_ (fits_of_scanBound hb2))
    have ho2 := store_at (es' := c2) (t' := t3) ho1 rfl
    refine wpAny_pure (hR _ (sb1.trans (Heap.SameBut.update _ a _)) ?_)
    exact ⟨_, c2, _, t3, ho2, hex, rfl, fun c hc => g1 c (pm.mem_iff.mp hc), (pm.map wd).nodup_iff.mpr nd1, fun z => (m1 z).trans (pm.map wd).mem_iff.symm, hb2, hf3, hsz, hr3,
      hl.imp id fun z => by rw [hl3]; exact z⟩
  · exact wpAny_pure (hR _ sb1 ⟨_, c1, _, t2, ho1, hex, rfl, g1, nd1, m1, hb1, hf2, rfl, hr, hl⟩)
theorem add_hashed {z : Str} {u : Tok} {Q : Bool → Shared → Prop} (R : SetX w s.heap a M m) (room : m + 1 < scanBound)
    (hQ : ∀ h', Heap.SameBut a s.heap h' → SetX w h' a (fun j => M j || decide (j = z)) (if M z = true then m else m + 1) → Q (!M z) { s with heap := h' }) :
    wpAny (model P w) A (setAddHashed a (.str z u) ((sk P w).hash z)) Q E s := by
  obtain ⟨ob, cells, ep, tb, ho, hex, hd, g, nd, hm, hb, hf, hn, hr, hl⟩ := R
  have hkey : (sk P w).is z (.str z u) = true := PySem.strKind_is P w z u
  have hsc : (Value.str z u).scannable = true := rfl
  have hel : ElemsOf (sk P w) cells.toList := tx_elems g
  unfold setAddHashed setAddHashedIn
  refine wpAny_holding (wpAny_bind (wpAny_setState_of ho hd hf ?_))
  dsimp only
  rw [byScan_of hsc hb hel]
  simp only [↓reduceIte]
  unfold setAddByScan
  refine wpAny_bind ?_
  refine wpAny_bind (wpAny_rule ?_)
  refine wpAny_bind (wpAny_setScan_of hkey ho hd hf hel ?_)
  cases hfi : List.findIdx? (fun c => (sk P w).is z c.2) cells.toList with
  | some j =>
    dsimp only
    obtain ⟨hj, pj, _⟩ := List.findIdx?_eq_some_iff_getElem.mp hfi
    have hMz : M z = true := (hm z).2 ((tx_mem (P := P) (w := w) g z).2 ⟨cells.toList[j], List.getElem_mem hj, pj⟩)
    refine wpAny_pure (wpAny_pure ?_)
    have q := hQ s.heap (Heap.SameBut.refl a s.heap) ⟨ob, cells, ep, tb, ho, hex, hd, g, nd, fun i => by
      rw [Bool.or_eq_true, decide_eq_true_eq, ← hm i]
      exact ⟨fun y => y.elim id (fun e => e ▸ hMz), .inl⟩, hb, hf, by rw [if_pos hMz]; exact hn, hr, hl⟩
    rw [hMz] at q
    exact q
  | none =>
    dsimp only
    have hnz : z ∉ cells.toList.map wd := fun y => by
      obtain ⟨c, hc, q⟩ := (tx_mem (P := P) (w := w) g z).1 y
      have d := List.findIdx?_eq_none_iff.mp hfi c hc
      rw [q] at d
      cases d
    have hMz : M z = false := by
      cases q : M z with
      | false => rfl
      | true => exact absurd ((hm z).1 q) hnz
    have hgw : ∀ (b : Bool) {s₁ : Shared} {Q' : Unit → Shared → Prop}, Q' () s₁ → wpAny (model P w) A (match b with | true => rule "set.scan.the-table-gave-way" | false => pure ()) Q' E s₁ :=
      fun b s₁ Q' q => by cases b <;> first | exact wpAny_pure q | exact wpAny_rule q
    have pm := layNew_perm tb cells ((sk P w).hash z) (.str z u)
    have hf1 := layNew_fits tb cells ((sk P w).hash z) (.str z u)
    have hr1 := layNew_ris tb cells ((sk P w).hash z) (.str z u) hr
    have hl1 := layNew_led tb cells ((sk P w).hash z) (.str z u)
    generalize layNew tb cells ((sk P w).hash z) (.str z u) = Z at pm hf1 hr1 hl1 ⊢
    obtain ⟨c1, t1, dum, gave⟩ := Z
    dsimp only at pm hf1 hr1 hl1 ⊢
    rw [Array.toList_push] at pm
    have pc : c1.toList.Perm (((sk P w).hash z, Value.str z u) :: cells.toList) := pm.trans (List.perm_append_singleton _ _)
    have pk : (c1.toList.map wd).Perm (z :: cells.toList.map wd) := pc.map wd
    have g1 : ∀ c ∈ c1.toList, Tx w c := fun c hc => by
      rcases List.mem_cons.mp (pc.mem_iff.mp hc) with y | y
      · rw [y]; exact ⟨z, u, rfl, rfl⟩
      · exact g c y
    have nd1 : (c1.toList.map wd).Nodup := pk.nodup_iff.mpr (List.nodup_cons.mpr ⟨hnz, nd⟩)
    have m1 : ∀ i, (M i || decide (i = z)) = true ↔ i ∈ c1.toList.map wd := fun i => by
      rw [Bool.or_eq_true, decide_eq_true_eq, hm i, pk.mem_iff, List.mem_cons]
      exact Or.comm
    have hsz : c1.size = m + 1 := by rw [← Array.length_toList, pc.length_eq, List.length_cons, Array.length_toList, hn]
    have hb1 : c1.size < scanBound := by rw [hsz]; exact room
    have hled : w.params.followText "set-order" = true ∨ t1.led = true := hl.imp id fun y => by rw [hl1]; exact y
    have fin : ∀ h', Heap.SameBut a s.heap h' → SetX w h' a (fun j => M j || decide (j = z)) c1.size → Q true { s with heap := h' } := fun h' sb r => by
      have q := hQ h' sb
      rw [hMz] at q
      rw [hsz] at r
      exact q r
    refine wpAny_bind (hgw _ ?_)
    split
    · refine wpAny_bind ?_
      rw [hashByValue_scannable 8 hsc]
      refine wpAny_pure ?_
      refine lay_tail ?_ ho hex hd g1 nd1 m1 hb1 ?_ ?_ ?_ ?_
      · intro b s₁ Q' q; cases b <;> first | exact wpAny_pure q | exact wpAny_rule q
      · first | (split <;> first | exact hf1 | exact SetTable.fits_plain_off hf1) | exact hf1
      · first | (split <;> exact hr1) | exact hr1
      · first | (split <;> exact hled) | exact hled
      · intro h' sb r; dsimp only; exact wpAny_pure (fin h' sb r)
    · refine wpAny_bind (wpAny_pure ?_)
      simp only [↓reduceIte]
      refine lay_tail ?_ ho hex hd g1 nd1 m1 hb1 hf1 hr1 hled ?_
      · intro b s₁ Q' q; cases b <;> first | exact wpAny_pure q | exact wpAny_rule q
      · intro h' sb r; dsimp only; exact wpAny_pure (fin h' sb r)
end
theorem txt_at : ∀ {us : List Value} {xs : List Str}, StrsAre us xs → ∀ (i : Nat) (v : Value), us[i]? = some v → ∃ t, v = .str (xs.getD i Str.empty) t
  | _, _, .nil, i, v, h => by simp at h
  | _, _, .cons n t hr, 0, v, h => by
    simp at h
    exact ⟨t, by rw [← h] <;> rfl⟩
  | _, _, .cons n t hr, i + 1, v, h => by
    simp only [List.getElem?_cons_succ] at h
    obtain ⟨t', e⟩ := txt_at hr i v h
    exact ⟨t', by rw [e] <;> rfl⟩
/-- what stands among the first i -/
def among (xs : List Str) (i : Nat) : Str → Bool := fun k => (xs.take i).any (· == k)
theorem among_succ (xs : List Str) {i : Nat} (h : i < xs.length) (k : Str) : among xs (i + 1) k = (among xs i k || decide (k = xs.getD i Str.empty)) := by
  unfold among
  have e : xs.getD i Str.empty = xs[i] := by rw [List.getD_eq_getElem?_getD, List.getElem?_eq_getElem h] <;> rfl
  rw [e, List.take_succ, List.getElem?_eq_getElem h, Option.toList_some, List.any_append]
  congr 1
  show ([xs[i]].any fun y => y == k) = _
  rw [List.any_cons, List.any_nil, Bool.or_false]
  by_cases q : k = xs[i]
  · rw [decide_eq_true q, q]
    exact beq_self_eq_true _
  · rw [decide_eq_false q]
    exact beq_eq_false_iff_ne.mpr fun z => q z.symm
section
variable {prog : Program} {w : World} {A : Around} {R : Result → Shared → Prop} {I : Addr} {fp wr : List Addr} {G : Array GenState → Array GenState → Prop} {n : Nat} {Pv : Nat → Value → Prop} {St : Nat → Shared → Prop}
theorem fill_loop (W : WalksS prog w A.in1 I fp wr G n Pv St) (S : Addr) (hSf : S ∉ fp) (xs : List Str) (hsz : xs.length = n) (hn1 : n + 1 < scanBound)
    (hval : ∀ i v, Pv i v → ∃ t, v = .str (xs.getD i Str.empty) t) :
    ∀ (k i m : Nat) (s : Shared), n - i = k → i ≤ n → m ≤ i → St i s → SetX w s.heap S (among xs i) m →
      (∀ s' m', m' ≤ n → Moved (S :: wr) G s s' → SetX w s'.heap S (among xs n) m' → R (.ok (.ret .none)) s') →
      codeAny (model prog w) A (.builtin "set.update.loop" ⟨[.ref S, .ref I], []⟩) R s := by
  have hSw : S ∉ wr := fun h => hSf (W.sub _ h)
  have hsub : ∀ b ∈ wr, b ∈ S :: wr := fun b hb => List.mem_cons_of_mem _ hb
  intro k
  induction k with
  | zero =>
    intro i m s hk hi hmi hst hS hR
    have hin : i = n := by omega
    subst hin
    refine codeAny_builtin PyProof.Rows.F.entry_set_update_loop ?_
    rw [Around.under_plainId PyProof.Rows.F.plain_set_update_loop _]
    show wpAny _ A.in1 (pyNext (.ref I) >>= _) _ _ s
    refine wpAny_bind (W.done s _ _ hst fun s' hm => ?_)
    show wpAny _ A.in1 (ret Value.none) _ _ s'
    exact wpAny_pure (hR s' m hmi (hm.mono hsub) (hS.stay fun ob ho => hm.heap S _ hSw ho))
  | succ k ih =>
    intro i m s hk hi hmi hst hS hR
    have hlt : i < n := by omega
    refine codeAny_builtin PyProof.Rows.F.entry_set_update_loop ?_
    rw [Around.under_plainId PyProof.Rows.F.plain_set_update_loop _]
    show wpAny _ A.in1 (pyNext (.ref I) >>= _) _ _ s
    refine wpAny_bind (W.item i s _ _ hlt hst fun v s' hP hst' hm => ?_)
    obtain ⟨t, rfl⟩ := hval i v hP
    have hS' : SetX w s'.heap S (among xs i) m := hS.stay fun ob ho => hm.heap S _ hSw ho
    show wpAny _ A.in1 (holding [Value.str (xs.getD i Str.empty) t] (setAdd S (.str (xs.getD i Str.empty) t)) >>= _) _ _ s'
    refine wpAny_bind (wpAny_holding ?_)
    unfold setAdd
    refine wpAny_holding ?_
    refine wpAny_bind ((PySem.strKind prog w).pyHash (k := xs.getD i Str.empty) (PySem.strKind_is _ _ _ _) ?_)
    refine add_hashed (s := { s' with toks := s'.toks + 1 }) hS' (by omega) fun h' hsb hS2 => ?_
    have hSi : SetX w h' S (among xs (i + 1)) (if among xs i (xs.getD i Str.empty) = true then m else m + 1) := hS2.like fun j => among_succ xs (by omega) j
    have hmi' : (if among xs i (xs.getD i Str.empty) = true then m else m + 1) ≤ i + 1 := by split <;> omega
    refine wpAny_pure ⟨plainId_quiet PyProof.Rows.F.plain_set_update_loop _, ih (i + 1) _ _ (by omega) hlt hmi' (W.frame _ s' _ _ hst' (Nat.le_succ _) fun b hb o e => ?_) hSi fun s'' m'' hm2 hm'' hS'' => ?_⟩
    · rw [hsb.2 b (fun h : b = S => hSf (by rw [← h]; exact hb))]
      exact e
    · refine hR s'' m'' hm2 (Moved.trans W.gtrans ((hm.mono hsub).then_heap (Nat.le_succ _) fun b o hb e => ?_) hm'') hS''
      rw [hsb.2 b (fun h : b = S => hb (by rw [h]; exact List.mem_cons_self))]
      exact e
end
end TxSet

namespace TxSet
open PySem PySem.Spec PyProof.Rows L2
/-- the fresh set -/
abbrev newSet (led : Bool) : Obj := { cls := .type "set", dict := none, data := .set #[] 0 (.fresh 0 0 led) }
section
variable {prog : Program} {w : World} {A : Around} {E : Value → Shared → Prop} {s : Shared}
theorem setX_fresh {h : Heap} {a : Addr} (w : World) (hg : h.get? a = some (newSet (!w.params.followText "set-order"))) : SetX w h a (fun _ => false) 0 :=
  ⟨_, #[], 0, _, hg, ⟨rfl, rfl, rfl⟩, rfl, (fun c hc => by simp at hc), (by simp), (fun z => by simp), (by decide), (by rfl), rfl, List.Pairwise.nil, by
    show _ ∨ (!w.params.followText "set-order") = true
    cases w.params.followText "set-order"
    · exact .inr rfl
    · exact .inl rfl⟩
set_option maxHeartbeats 8000000 in
theorem call_set_txt {l : Addr} {items : Array Value} {xs : List Str} {Q : Value → Shared → Prop}
    (hh : A.handled = none) (hl : s.heap.IsList l items) (hi : PyProof.Rows.StrsAre items.toList xs) (hn1 : xs.length + 1 < scanBound)
    (h : ∀ (h' : Heap) (tk m : Nat), m ≤ xs.length → SetX w h' s.heap.objs.size (fun z => decide (z ∈ xs)) m →
      (∀ b o, b < s.heap.objs.size → s.heap.get? b = some o → h'.get? b = some o) → Q (.ref s.heap.objs.size) { s with heap := h', toks := tk }) :
    wpAny (model prog w) A (call (.type "set") [.ref l]) Q E s := by
  have hsz0 : xs.length = items.size := by rw [← StrsAre.len_eq hi, Array.length_toList]
  obtain ⟨c, tl, hmro⟩ := PySem.F.called_set.mro
  have hmade := PySem.F.called_set.made
  have hsub := PySem.F.called_set.sub
  refine wpAny_call (codeAny_of_tree ?_)
  show wpAny _ _ (callAny (.type "set") _) _ _ _
  refine wpAny_pure ⟨Code.quiet_builtin _ (by decide +kernel), codeAny_builtin PySem.F.entry_type_call ?_⟩
  rw [Around.under_plain (weight_type_call_type "set" [.ref l] []) rfl]
  have h1 := PySem.F.called_set.notType
  have h2 := PySem.F.called_set.canCreate
  have hct := PySem.F.typeCall_set_1 (.ref l)
  repeat (any_goals (first | assumption | wp_step))
  refine codeAny_mono (code_set_led1 (.ref l) (E := E) (Q₁ := fun obj s₁ => obj = .ref s.heap.objs.size ∧ s₁ = { s with heap := s.heap.push (newSet (!w.params.followText "set-order")) }) ⟨rfl, rfl⟩) fun r s₁ hr => ?_
  cases r with
  | error e => exact hr
  | ok fl =>
    cases fl with
    | ret obj =>
      obtain ⟨rfl, rfl⟩ := hr
      have hS : (s.heap.push (newSet (!w.params.followText "set-order"))).get? s.heap.objs.size = some (newSet (!w.params.followText "set-order")) := Heap.get?_push_size _ rfl
      have hT : Shared.TypeIs { s with heap := s.heap.push (newSet (!w.params.followText "set-order")) } (.ref s.heap.objs.size) "set" := ⟨_, hS, rfl⟩
      have hli := PySem.F.called_set.init.lookup
      have hbi := PySem.F.called_set.init.bind (.ref s.heap.objs.size)
      repeat (any_goals (first | assumption | wp_step))
      refine codeAny_mono (codeAny_call_builtin (R := wants (fun r s₂ => r = .none ∧ ∃ h' tk m, s₂ = { s with heap := h', toks := tk } ∧ m ≤ xs.length ∧
          SetX w h' s.heap.objs.size (fun z => decide (z ∈ xs)) m ∧
          (∀ b o, b < s.heap.objs.size → s.heap.get? b = some o → h'.get? b = some o)) E) PySem.F.called_set.init.plain PySem.F.entry_set_init (check_set_init_1 hT ?_)) fun r₂ s₂ hr₂ => ?_
      · obtain ⟨ol, hol, hcl, nl, hdl⟩ := hl
        obtain ⟨ocls, odict, odata, oslots⟩ := ol
        simp only at hcl hdl
        subst hcl; subst hdl
        have hol' : (s.heap.push (newSet (!w.params.followText "set-order"))).get? l = some { cls := .type "list", dict := odict, data := .seq items nl, slots := oslots } := Heap.get?_push_of_some _ hol
        have hsls := PySem.F.sub_list_set
        have hslf := PySem.F.sub_list_frozenset
        have hne : (Value.type "list" == Value.type "dict") = false := by decide
        have hl1 : (s.heap.push (newSet (!w.params.followText "set-order"))).IsList l items := ⟨_, hol', rfl, nl, rfl⟩
        unfold Builtin.«set.__init__» noKeywords Builtin.Frozenset.updateFrom
        generalize hPI : pyIter = PI
        wp_walk
        subst hPI
        refine wpAny_pyIter_list hl1 ?_
        refine wpAny_bind (wpAny_runValue ?_)
        have hlS : l < s.heap.objs.size := Heap.lt_size hol
        have hh3 : A.in1.in1.in1.handled = none := by simp [hh]
        have hneI : l ≠ (s.heap.push (newSet (!w.params.followText "set-order"))).objs.size := by
          rw [Heap.size_push]; exact Nat.ne_of_lt (Nat.lt_succ_of_lt hlS)
        have hSf : s.heap.objs.size ∉ [(s.heap.push (newSet (!w.params.followText "set-order"))).objs.size, l] := by
          rw [Heap.size_push]; simp only [List.mem_cons, List.mem_singleton, List.not_mem_nil, or_false, not_or]
          exact ⟨Nat.ne_of_lt (Nat.lt_succ_self _), Nat.ne_of_gt hlS⟩
        have hval : ∀ (i : Nat) (v : Value), items[i]? = some v → ∃ t, v = .str (xs.getD i Str.empty) t := fun i v hv => txt_at hi i v (by rw [Array.getElem?_toList]; exact hv)
        refine fill_loop ((Walks.list hh3 _ l hneI items).toS) s.heap.objs.size
          hSf xs hsz0 (by rw [← hsz0]; exact hn1) hval (items.size - 0) 0 0 _ (by omega) (Nat.zero_le _) (Nat.le_refl _)
          ⟨⟨_, Heap.get?_push_size _ rfl, rfl, rfl⟩, (hl1.push _)⟩ ?hS0 ?hR
        case hS0 =>
          have hget : ((s.heap.push (newSet (!w.params.followText "set-order"))).push { cls := .type "list_iterator", data := .fields #[.ref l, .int 0 0] }).get? s.heap.objs.size
              = some (newSet (!w.params.followText "set-order")) := Heap.get?_push_of_some _ hS
          exact (setX_fresh w hget).like fun z => rfl
        case hR =>
          intro s' m' hm' hm hS'
          obtain ⟨h', g', d', tk', os'⟩ := s'
          have eg : g' = s.gens := hm.gens
          have ed : d' = s.drawn := hm.drawn
          have eo : os' = s.os := hm.os
          subst eg; subst ed; subst eo
          show wpAny _ _ _ _ _ _
          refine wpAny_pure ?_
          show wpAny _ _ (ret Value.none) _ _ _
          refine wpAny_pure ⟨rfl, h', tk', m', rfl, by omega, hS'.like fun z => ?_, fun b o hb e => ?_⟩
          · unfold among
            rw [← hsz0, List.take_length]
            by_cases q : z ∈ xs
            · rw [decide_eq_true q]
              exact ((List.any_eq_true (p := fun x => x == z)).mpr ⟨z, q, beq_self_eq_true z⟩).symm
            · rw [decide_eq_false q]
              refine (List.any_eq_false.mpr fun y hy e => q ?_).symm
              rw [← beq_iff_eq.mp e]
              exact hy
          · have hb1 : b ≠ s.heap.objs.size := Nat.ne_of_lt hb
            have hb2 : b ≠ (s.heap.push (newSet (!w.params.followText "set-order"))).objs.size := by
              rw [Heap.size_push]; exact Nat.ne_of_lt (Nat.lt_succ_of_lt hb)
            exact hm.heap b o (by simp only [List.mem_cons, List.mem_singleton, List.not_mem_nil, or_false, not_or]; exact ⟨hb1, hb2⟩) (Heap.get?_push_of_some _ (Heap.get?_push_of_some _ e))
      · cases r₂ with
        | error e => exact hr₂
        | ok fl₂ =>
          cases fl₂ with
          | ret r =>
            obtain ⟨rfl, h', tk, m', rfl, hm', hS', hk'⟩ := hr₂
            repeat (any_goals (first | assumption | wp_step))
            exact h _ _ m' hm' hS' hk'
          | _ => exact hr₂.elim
    | _ => exact hr.elim
theorem strs_all {w : World} {vs : List Value} {cells : List (Int × Value)} (g : ∀ c ∈ cells, Tx w c) (pm : vs.Perm (cells.map (·.2))) : ∀ v, v ∈ vs → ∃ x t, v = .str x t := fun v hv => by
  obtain ⟨c, hc, q⟩ := List.mem_map.mp (pm.mem_iff.mp hv)
  obtain ⟨x, t, h1, _⟩ := g c hc
  exact ⟨x, t, by rw [← q]; exact h1⟩
theorem wd_eq {w : World} {c : Int × Value} (g : Tx w c) : strOf c.2 = wd c := by
  obtain ⟨x, t, h1, _⟩ := g
  unfold strOf wd
  rw [h1]
theorem sorted_txt {a : Addr} {M : Str → Bool} {m : Nat} {Q : Value → Shared → Prop} (R : SetX w s.heap a M m) (hh : A.handled = none)
    (hQ : ∀ s' p (out : Array Value) (c : Nat) (ys : List Str), (∀ b o, s.heap.get? b = some o → s'.heap.get? b = some o) → s'.gens = s.gens → s'.os = s.os → s.heap.objs.size ≤ p →
      s'.heap.get? p = some (seqObj "list" out c) → StrsAre out.toList ys → sortedS ys = true → ys.Nodup → (∀ z, z ∈ ys ↔ M z = true) → ys.length = m → Q (.ref p) s') :
    wpAny (model prog w) A (call (.builtin "sorted") [.ref a]) Q E s := by
  obtain ⟨ob, cells, ep, tb, ho, hex, hd, g, nd, hm, hb, hf, hn, hr, hl⟩ := R
  refine Calls.call_function_entry kind_sorted plain_sorted entry_sorted (args_sorted1 _) ?_
  unfold Builtin.«sorted»
  refine wpAny_bind (m := checkCount "sorted" 1 1 _) (wpAny_pure ?_)
  refine wpAny_bind (collect_set (A := A.in1) hh ⟨ob, ho, hex.1, hd⟩ hf hb hr hl fun s1 vs k1 hz g1 o1 pm => ?_)
  have hvl : vs.length = m := by rw [pm.length_eq, List.length_map, Array.length_toList]; exact hn
  have hS : StrsAre vs (vs.map strOf) := strsAre_map vs (strs_all g pm)
  have pk : (vs.map strOf).Perm (cells.toList.map wd) := by
    have q := pm.map strOf
    rw [List.map_map] at q
    have e : cells.toList.map (strOf ∘ fun x => x.2) = cells.toList.map wd := List.map_congr_left fun c hc => wd_eq (g c hc)
    rw [e] at q
    exact q
  have hsl : vs.length ≤ sizeLine := by rw [hvl, ← hn]; exact fits_of_scanBound hb
  refine wpAny_bind (wpAny_newList ?_ hsl)
  have hoL : (s1.heap.push (seqObj "list" vs.toArray 0)).get? s1.heap.objs.size = some (seqObj "list" vs.toArray 0) := Heap.get?_push_size _ rfl
  refine wpAny_bind (wpAny_holding (wpAny_call_entry slot_list_sort ⟨_, hoL, rfl⟩ entry_list_sort (list_sort_treeKAny strKind_oneLt hoL hS.keysOf (fun v₁ v₂ rest e => keyKind_strs (by rw [← e]; exact hS)) hsl fun st' hp hs => ⟨_, rfl, ?_⟩) (args_list_sort _)))
  obtain ⟨ys, a1, a2, a3⟩ := sorted_out_str hS hp hs
  obtain ⟨c, hc⟩ := sortedHeap_at (vs := vs) (out := (arrOf st').map (·.2)) hoL
  have pn : ys.Perm (cells.toList.map wd) := a2.trans pk
  refine wpAny_pure ⟨_, rfl, hQ _ s1.heap.objs.size _ c ys (fun b u e => ?_) g1 o1 hz hc a1 a3 (pn.nodup_iff.mpr nd) (fun z => by rw [pn.mem_iff, ← hm z]) ?_⟩
  · have q := k1 b u e
    have hlt := Heap.lt_size q
    show (sortedHeap (s1.heap.push (seqObj "list" vs.toArray 0)) s1.heap.objs.size vs _).get? b = some u
    rw [sortedHeap_old (Nat.ne_of_lt hlt) (by rw [size_push']; exact Nat.lt_succ_of_lt hlt)]
    exact Heap.get?_push_of_some _ q
  · rw [pn.length_eq, List.length_map, Array.length_toList]; exact hn
end
section
variable {X : Cx}
theorem txts_of : ∀ {ys : List Str} {us : List Value}, Vals (ys.map V.str) us → StrsAre us ys
  | [], _, .nil => .nil
  | y :: ys, _, .cons r t => by
    obtain ⟨k, rfl⟩ := r
    exact .cons y k (txts_of t)
theorem srt_fin {pins : List (Addr × Obj)} {σ : L2.St} {H1 : Hp} {Q : VK} {s2 : Shared} (I2 : Inv X pins σ H1 s2) (hc : X.calm = true) {a0 : Addr} {M : Str → Bool} {m : Nat} (hS : SetX X.w s2.heap a0 M m) (hm : m ≤ 1000)
    (q1 : ∀ (ys : List Str) (p : Addr), sortedS ys = true → ys.Nodup → (∀ z, z ∈ ys ↔ M z = true) → H1 p = none → Q (.ref p) (upd H1 p (.lst (ys.map V.str)))) :
    wpAny (model X.prog X.w) X.A (call (.builtin "sorted") [.ref a0]) (EP X pins σ Q) X.xe s2 := by
  refine sorted_txt hS (I2.ok.hd hc) fun s' p' out c ys k g o hp hgt hi hs hnd hmem hlen => ?_
  have hle : (ys.map V.str).length ≤ sizeLine := by rw [List.length_map, sizeLine_eq]; omega
  have hn : H1 p' = none := I2.hok.fresh hp
  have J : Inv X pins σ (upd H1 p' (.lst (ys.map V.str))) { s2 with heap := s'.heap, gens := s'.gens, drawn := s'.drawn, toks := s'.toks } :=
    I2.call (ch := []) (Un.laid k hp hn) (I2.hok.laid k hp ⟨hle, out.toList, c, vals_of_strs hi, hgt⟩) (by rw [g]; exact I2.bare) (fun _ z => nomatch z)
  have e : s' = { s2 with heap := s'.heap, gens := s'.gens, drawn := s'.drawn, toks := s'.toks } := by
    cases s'
    cases s2
    cases o
    rfl
  rw [e]
  exact ⟨.ref p', _, J, rfl, q1 ys p' hs hnd hmem hn⟩
/-- sorted(set(xs)), xs a list of texts: what is among them, each once, in order -/
def tSrtSet (K : PySem.W.Frag) (ta : TE) : TE := fun σ H Q => ta σ H fun x H1 => ∃ (l : Addr) (xs : List Str), x = .ref l ∧ SqL K H1 l (xs.map V.str) ∧ xs.length ≤ 1000 ∧
  ∀ (ys : List Str) (p : Addr), sortedS ys = true → ys.Nodup → (∀ z, z ∈ ys ↔ z ∈ xs) → H1 p = none → Q (.ref p) (upd H1 p (.lst (ys.map V.str)))
theorem pe_srtSet {a : Expr} {ta : TE} {p p2 q pos : Pos} (hc : X.calm = true) (hg : Gl X "sorted") (hm : X.mg "sorted" = none) (hg2 : Gl X "set") (hm2 : X.mg "set" = none) (ha : PE X a ta)
    (na : starEach [a] X.env = (false, eval a X.env) :: starEach [] X.env := by rfl) : PE X (.Call (.Name "sorted" p) [.Call (.Name "set" p2) [a] [] q] [] pos) (tSrtSet X.K ta) := by
  refine ⟨fun pins s σ H Q I h => ?_⟩
  refine Call_ (ld_blt I hg hm (u := .builtin "sorted") (by decide +kernel) ?_)
  refine PyProof.Rows.callWith_builtin1 (PyProof.Rows.args_cons ?_ rfl) rfl rfl
  refine Call_ (ld_blt I hg2 hm2 boot_set ?_)
  refine PyProof.Rows.callWith_type1 (PyProof.Rows.args_cons (thn (ha.run pins s σ H _ I h) fun v s1 ⟨x, H1, I1, r1, q1⟩ => PyProof.Rows.args_nil ?_) na) na rfl
  obtain ⟨l, xs, rfl, hq, hfew, q1⟩ := q1
  cases r1
  obtain ⟨its, r, pl, hz⟩ := I1.list hq
  refine call_set_txt (I1.ok.hd hc) pl.isList (by simpa using txts_of r) (by unfold scanBound; omega) fun h' tk m hm' hS hk => ?_
  refine PyProof.Rows.args_nil ?_
  have I2 : Inv X pins σ H1 { s1 with heap := h', toks := tk } := I1.kept fun b o e => hk b o (Heap.lt_size e) e
  exact srt_fin I2 hc hS (by omega) fun ys p' hs hnd hmem hn => q1 ys p' hs hnd (fun z => by rw [hmem z, decide_eq_true_eq]) hn
end
end TxSet

/-! Values as data, whatever the row: what is said of a word, a hole, entries, a goal. -/
namespace VA
open PySem L2 SX AddrMath
/-- all but what stands at d is as it was -/
def But (d : Addr) (H H' : Hp) : Prop := ∀ b o, H b = some o → b ≠ d → H' b = some o
theorem same_new {p : Addr} {H : Hp} {o : HO} (h : H p = none) : Same H (upd H p o) := fun b u e => by rw [upd_ne (ne_of_none e h)]; exact e
theorem same_seqT {K : PySem.W.Frag} {H H' : Hp} {a : Addr} {xs : List V} (e : Same H H') (h : SqT K H a xs) : SqT K H' a xs := by
  rcases h with (h | ⟨o, h⟩) | h
  · exact .inl (.inl (e _ _ h))
  · exact .inl (.inr ⟨o, e _ _ h⟩)
  · exact .inr h
/-- a list or a tuple of these is to be read at a -/
def SqA (K : PySem.W.Frag) (H : Hp) (a : Addr) (xs : List V) : Prop := SqL K H a xs ∨ SqT K H a xs
theorem SqA.same {K : PySem.W.Frag} {H H' : Hp} {a : Addr} {xs : List V} (h : SqA K H a xs) (e : Same H H') : SqA K H' a xs := h.imp e.seq (same_seqT e)
/-- a list, a tuple, what is locked -/
def seqO : HO → Bool
  | .lst _ => true
  | .tup _ => true
  | .frz _ _ => true
  | _ => false
/-- lists and tuples stand as they stood -/
def Kp (H H' : Hp) : Prop := ∀ b o, H b = some o → seqO o = true → H' b = some o
theorem kp_same {H H' : Hp} (s : Same H H') : Kp H H' := fun b o e _ => s b o e
theorem Kp.trans {H H1 H2 : Hp} (a : Kp H H1) (b : Kp H1 H2) : Kp H H2 := fun c o e k => b c o (a c o e k) k
theorem kp_put {H : Hp} {p : Addr} {u o : HO} (h : H p = some u) (n : seqO u = false) : Kp H (upd H p o) := fun b v e k => by
  by_cases z : b = p
  · rw [z, h] at e
    cases e
    rw [n] at k
    cases k
  · rw [upd_ne z]
    exact e
theorem kp_but {d : Addr} {H H' : Hp} {u : HO} (h : H d = some u) (n : seqO u = false) (b : But d H H') : Kp H H' := fun c o e k => b c o e fun z => by
  rw [z, h] at e
  cases e
  rw [n] at k
  cases k
theorem Kp.sqL {K : PySem.W.Frag} {H H' : Hp} {a : Addr} {xs : List V} (e : Kp H H') (h : SqL K H a xs) : SqL K H' a xs := by
  rcases h with (h | ⟨o, h⟩) | h
  · exact .inl (.inl (e _ _ h rfl))
  · exact .inl (.inr ⟨o, e _ _ h rfl⟩)
  · exact .inr h
theorem Kp.sqT {K : PySem.W.Frag} {H H' : Hp} {a : Addr} {xs : List V} (e : Kp H H') (h : SqT K H a xs) : SqT K H' a xs := by
  rcases h with (h | ⟨o, h⟩) | h
  · exact .inl (.inl (e _ _ h rfl))
  · exact .inl (.inr ⟨o, e _ _ h rfl⟩)
  · exact .inr h
theorem Kp.sqA {K : PySem.W.Frag} {H H' : Hp} {a : Addr} {xs : List V} (e : Kp H H') (h : SqA K H a xs) : SqA K H' a xs := h.imp e.sqL e.sqT
section
variable {K : PySem.W.Frag}
mutual
theorem dp_kp {H H' : Hp} (s : Kp H H') : ∀ {d : PyData} {v : V}, Dp K H v d → Dp K H' v d
  | .none, _, h => by
    cases h
    exact .non
  | .bool b, _, h => by
    cases h
    exact .bl b
  | .int i, _, h => by
    cases h
    exact .int i
  | .str x, _, h => by
    cases h
    exact .str x
  | .list ds, _, h => by
    cases h with
    | lst h1 h2 => exact .lst (s.sqL h1) (dps_kp s h2)
  | .tuple ds, _, h => by
    cases h with
    | tup h1 h2 => exact .tup (s.sqT h1) (dps_kp s h2)
  | .dict _, _, h => by cases h
theorem dps_kp {H H' : Hp} (s : Kp H H') : ∀ {ds : List PyData} {vs : List V}, DpAll K H vs ds → DpAll K H' vs ds
  | [], _, h => by
    cases h
    exact .nil
  | d :: ds, _, h => by
    cases h with
    | cons h1 h2 => exact .cons (dp_kp s h1) (dps_kp s h2)
end
theorem dp_same {H H' : Hp} (s : Same H H') {d : PyData} {v : V} (h : Dp K H v d) : Dp K H' v d := dp_kp (kp_same s) h
theorem dps_same {H H' : Hp} (s : Same H H') {ds : List PyData} {vs : List V} (h : DpAll K H vs ds) : DpAll K H' vs ds := dps_kp (kp_same s) h
theorem dps_len {H : Hp} : ∀ {ds : List PyData} {vs : List V}, DpAll K H vs ds → vs.length = ds.length
  | [], _, h => by cases h; rfl
  | d :: ds, _, h => by
    cases h with
    | cons h1 h2 => rw [List.length_cons, List.length_cons, dps_len h2]
theorem dps_at {H : Hp} : ∀ {ds : List PyData} {vs : List V}, DpAll K H vs ds → ∀ {v}, v ∈ vs → ∃ d ∈ ds, Dp K H v d
  | [], _, h, v, hv => by cases h; cases hv
  | d :: ds, _, h, v, hv => by
    cases h with
    | cons h1 h2 =>
      rcases List.mem_cons.mp hv with e | e
      · rw [e]
        exact ⟨d, List.mem_cons_self .., h1⟩
      · obtain ⟨d', hd, h'⟩ := dps_at h2 e
        exact ⟨d', List.mem_cons_of_mem _ hd, h'⟩
theorem dps_get {H : Hp} : ∀ {ds : List PyData} {vs : List V}, DpAll K H vs ds → ∀ {i : Nat} {v : V}, vs[i]? = some v → ∃ d, ds[i]? = some d ∧ Dp K H v d
  | [], _, h, i, v, hv => by cases h; cases hv
  | d :: ds, _, h, 0, v, hv => by
    cases h with
    | cons h1 h2 =>
      cases hv
      exact ⟨d, rfl, h1⟩
  | d :: ds, _, h, i + 1, v, hv => by
    cases h with
    | cons h1 h2 => exact dps_get h2 hv
theorem dps_app {H : Hp} : ∀ {ds es : List PyData} {vs us : List V}, DpAll K H vs ds → DpAll K H us es → DpAll K H (vs ++ us) (ds ++ es)
  | [], _, _, _, h, g => by cases h; exact g
  | d :: ds, es, _, us, h, g => by
    cases h with
    | cons h1 h2 => exact .cons h1 (dps_app h2 g)
/-! ### the size of data -/
mutual
def okD : Nat → PyData → Bool
  | _, .none => true
  | _, .bool _ => true
  | _, .int _ => true
  | _, .str x => decide (x.length ≤ 1000) && PyData.strOk x
  | n, .list l => decide (1 ≤ n) && (decide (l.length ≤ 1000) && okAll (n - 1) l)
  | n, .tuple l => decide (1 ≤ n) && (decide (l.length ≤ 1000) && okAll (n - 1) l)
  | _, .dict _ => false
def okAll : Nat → List PyData → Bool
  | _, [] => true
  | n, d :: ds => okD n d && okAll n ds
end
theorem okAll_mem : ∀ {n : Nat} {ds : List PyData}, okAll n ds = true → ∀ d ∈ ds, okD n d = true
  | n, [], _, d, h => by cases h
  | n, e :: ds, h, d, hd => by
    rw [okAll, Bool.and_eq_true] at h
    rcases List.mem_cons.mp hd with z | z
    · rw [z]
      exact h.1
    · exact okAll_mem h.2 d z
theorem okAll_of : ∀ {n : Nat} {ds : List PyData}, (∀ d ∈ ds, okD n d = true) → okAll n ds = true
  | n, [], _ => by rw [okAll]
  | n, e :: ds, h => by
    rw [okAll, Bool.and_eq_true]
    exact ⟨h e (List.mem_cons_self ..), okAll_of fun d hd => h d (List.mem_cons_of_mem _ hd)⟩
mutual
theorem ok_lay : ∀ {n : Nat} {d : PyData}, okD n d = true → d.canLay0 = true ∧ d.depth ≤ n
  | n, .none, _ => ⟨rfl, by simp [PyData.depth]⟩
  | n, .bool _, _ => ⟨rfl, by simp [PyData.depth]⟩
  | n, .int _, _ => ⟨rfl, by simp [PyData.depth]⟩
  | n, .str x, h => by
    rw [okD, Bool.and_eq_true] at h
    exact ⟨by simpa [PyData.canLay0] using h.2, by simp [PyData.depth]⟩
  | n, .list l, h => by
    rw [okD, Bool.and_eq_true, Bool.and_eq_true, decide_eq_true_eq] at h
    have q := oks_lay h.2.2
    refine ⟨by rw [PyData.canLay0]; exact q.1, ?_⟩
    rw [PyData.depth]
    have := h.1
    have := q.2
    omega
  | n, .tuple l, h => by
    rw [okD, Bool.and_eq_true, Bool.and_eq_true, decide_eq_true_eq] at h
    have q := oks_lay h.2.2
    refine ⟨by rw [PyData.canLay0]; exact q.1, ?_⟩
    rw [PyData.depth]
    have := h.1
    have := q.2
    omega
  | n, .dict _, h => by rw [okD] at h; cases h
theorem oks_lay : ∀ {n : Nat} {ds : List PyData}, okAll n ds = true → PyData.canLayAll0 ds = true ∧ PyData.depthAll ds ≤ n
  | n, [], _ => ⟨by rw [PyData.canLayAll0], by rw [PyData.depthAll]; omega⟩
  | n, d :: ds, h => by
    rw [okAll, Bool.and_eq_true] at h
    have a := ok_lay h.1
    have b := oks_lay h.2
    refine ⟨by rw [PyData.canLayAll0, a.1, b.1]; rfl, ?_⟩
    rw [PyData.depthAll]
    have := a.2
    have := b.2
    omega
end
theorem ok_shaped {n : Nat} {d : PyData} (h : okD n d = true) (hn : n ≤ 60) : SeqAt.shaped d = true := by
  have q := ok_lay h
  unfold SeqAt.shaped
  rw [q.1, Bool.true_and]
  exact decide_eq_true (by have := q.2; omega)
mutual
theorem ok_mono : ∀ {n m : Nat} {d : PyData}, n ≤ m → okD n d = true → okD m d = true
  | n, m, .none, _, _ => by rw [okD]
  | n, m, .bool _, _, _ => by rw [okD]
  | n, m, .int _, _, _ => by rw [okD]
  | n, m, .str x, _, h => by rw [okD] at h ⊢; exact h
  | n, m, .list l, k, h => by
    rw [okD, Bool.and_eq_true, Bool.and_eq_true, decide_eq_true_eq] at h ⊢
    exact ⟨by omega, h.2.1, oks_mono (by omega) h.2.2⟩
  | n, m, .tuple l, k, h => by
    rw [okD, Bool.and_eq_true, Bool.and_eq_true, decide_eq_true_eq] at h ⊢
    exact ⟨by omega, h.2.1, oks_mono (by omega) h.2.2⟩
  | n, m, .dict _, _, h => by rw [okD] at h; cases h
theorem oks_mono : ∀ {n m : Nat} {ds : List PyData}, n ≤ m → okAll n ds = true → okAll m ds = true
  | n, m, [], _, _ => by rw [okAll]
  | n, m, d :: ds, k, h => by
    rw [okAll, Bool.and_eq_true] at h ⊢
    exact ⟨ok_mono k h.1, oks_mono k h.2⟩
end
theorem ok_seq {n : Nat} {ds : List PyData} (h : ds.length ≤ 1000) (k : ∀ d ∈ ds, okD n d = true) : okD (n + 1) (.list ds) = true ∧ okD (n + 1) (.tuple ds) = true := by
  constructor
  · rw [okD, Bool.and_eq_true, Bool.and_eq_true, decide_eq_true_eq, decide_eq_true_eq]
    exact ⟨by omega, h, okAll_of k⟩
  · rw [okD, Bool.and_eq_true, Bool.and_eq_true, decide_eq_true_eq, decide_eq_true_eq]
    exact ⟨by omega, h, okAll_of k⟩
/-! ### a value that is data, or a dict -/
def Vx (K : PySem.W.Frag) (H : Hp) (x : V) (d : PyData) : Prop := (Dp K H x d ∧ okD 8 d = true) ∨ ∃ a kvs, x = .ref a ∧ H a = some (.dK kvs) ∧ d = .dict []
theorem Vx.same {H H' : Hp} {x : V} {d : PyData} (h : Vx K H x d) (s : Same H H') : Vx K H' x d := by
  rcases h with ⟨h, o⟩ | ⟨a, kvs, e, h, q⟩
  · exact .inl ⟨dp_same s h, o⟩
  · exact .inr ⟨a, kvs, e, s _ _ h, q⟩
def tyN : PyData → String
  | .none => "NoneType"
  | .bool _ => "bool"
  | .int _ => "int"
  | .str _ => "str"
  | .list _ => "list"
  | .tuple _ => "tuple"
  | .dict _ => "dict"
theorem sql_ty {H : Hp} {a : Addr} {xs : List V} (h : SqL K H a xs) : TyX K H (.ref a) (.type "list") := by
  rcases h with (h | ⟨o, h⟩) | ⟨o, its, n, h1, h2, _⟩
  · exact .base (.lst h)
  · exact .base (.frz h)
  · exact .kList h1 h2
theorem sqt_ty {H : Hp} {a : Addr} {xs : List V} (h : SqT K H a xs) : TyX K H (.ref a) (.type "tuple") := by
  rcases h with (h | ⟨o, h⟩) | ⟨o, its, n, h1, h2, _⟩
  · exact .base (.tup h)
  · exact .fTuple h
  · exact .kTuple h1 h2
theorem dp_ty {H : Hp} {x : V} {d : PyData} (h : Dp K H x d) : TyX K H x (.type (tyN d)) := by
  cases h with
  | non => exact .base .non
  | bl b => exact .base (.bl b)
  | int i => exact .base (.int i)
  | str z => exact .base (.str z)
  | lst h1 h2 => exact sql_ty h1
  | tup h1 h2 => exact sqt_ty h1
theorem Vx.ty {H : Hp} {x : V} {d : PyData} (h : Vx K H x d) : TyX K H x (.type (tyN d)) := by
  rcases h with ⟨h, _⟩ | ⟨a, kvs, rfl, h, rfl⟩
  · exact dp_ty h
  · exact .base (.dK h)
/-! ### what is a word, a hole, entries, a goal -/
def isWordD : PyData → Bool
  | .str x => isW x.cps.toList
  | _ => false
def isIntD : PyData → Bool
  | .int _ => true
  | _ => false
def isHoleD : PyData → Bool
  | .int i => decide (1 ≤ i) && decide (i ≤ 2)
  | _ => false
def isEntD (d : PyData) : Bool := isWordD d || isHoleD d
def isSeqD : PyData → Bool
  | .list _ => true
  | .tuple _ => true
  | _ => false
def itemsD : PyData → List PyData
  | .list l => l
  | .tuple l => l
  | _ => []
def areEntD (most : Int) (d : PyData) : Bool := isSeqD d && (decide (((itemsD d).length : Int) ≤ most) && (itemsD d).all isEntD)
/-- an entry is among these -/
def inD (e : PyData) (ds : List PyData) : Bool := ds.any fun d => PyData.eqv d e
def isGoalD (g p : PyData) : Bool := match g with
  | .none => true
  | .tuple [s, b] => isWordD s && (areEntD 4 b && (itemsD b).all fun e => isWordD e || inD e (itemsD p))
  | _ => false
/-- the first wrong argument of a rule -/
def wrongD (s p g x : PyData) : Option Str :=
  if isWordD s = false then some (Str.ofString "state") else if areEntD 2 p = false then some (Str.ofString "pattern") else if isGoalD g p = false then some (Str.ofString "goal")
  else match x with
    | .bool _ => none
    | _ => some (Str.ofString "is_exact")
/-- an entry's value -/
def entV : PyData → V
  | .int i => .int i
  | .str x => .str x
  | _ => .non
theorem ent_val {H : Hp} {x : V} {d : PyData} (h : Dp K H x d) (e : isEntD d = true) : x = entV d := by
  cases h with
  | int i => rfl
  | str z => rfl
  | non => cases e
  | bl b => cases e
  | lst h1 h2 => cases e
  | tup h1 h2 => cases e
theorem ents_val {H : Hp} : ∀ {ds : List PyData} {vs : List V}, DpAll K H vs ds → ds.all isEntD = true → vs = ds.map entV
  | [], _, h, _ => by cases h; rfl
  | d :: ds, _, h, e => by
    cases h with
    | cons h1 h2 =>
      rw [List.all_cons, Bool.and_eq_true] at e
      rw [List.map_cons, ← ent_val h1 e.1, ← ents_val h2 e.2]
theorem ent_dp {H : Hp} {d : PyData} (e : isEntD d = true) : Dp K H (entV d) d := by
  cases d with
  | int i => exact .int i
  | str z => exact .str z
  | _ => cases e
theorem ents_dp {H : Hp} : ∀ {ds : List PyData}, ds.all isEntD = true → DpAll K H (ds.map entV) ds
  | [], _ => .nil
  | d :: ds, e => by
    rw [List.all_cons, Bool.and_eq_true] at e
    exact .cons (ent_dp e.1) (ents_dp e.2)
theorem ent_flat {d : PyData} (e : isEntD d = true) : flatV (entV d) = true := by
  cases d with
  | int i => rfl
  | str z => rfl
  | _ => cases e
theorem ents_flat : ∀ {ds : List PyData}, ds.all isEntD = true → (ds.map entV).all flatV = true
  | [], _ => rfl
  | d :: ds, e => by
    rw [List.all_cons, Bool.and_eq_true] at e
    rw [List.map_cons, List.all_cons, ent_flat e.1, ents_flat e.2]
    rfl
theorem eqv_ent {d e : PyData} (hd : isEntD d = true) (he : isEntD e = true) : eqV (entV d) (entV e) = PyData.eqv d e := by
  cases d with
  | int i =>
    cases e with
    | int j => simp [entV, eqV, PyData.eqv]
    | str z => simp [entV, eqV, PyData.eqv]
    | _ => cases he
  | str z =>
    cases e with
    | int j => simp [entV, eqV, PyData.eqv]
    | str y => simp [entV, eqV, PyData.eqv]
    | _ => cases he
  | _ => cases hd
theorem inV_ent {e : PyData} (he : isEntD e = true) : ∀ {ds : List PyData}, ds.all isEntD = true → inV (entV e) (ds.map entV) = inD e ds
  | [], _ => rfl
  | d :: ds, h => by
    rw [List.all_cons, Bool.and_eq_true] at h
    have ih := inV_ent he h.2
    unfold inV inD at ih ⊢
    rw [List.map_cons, List.any_cons, List.any_cons, eqv_ent h.1 he, ih]
/-! ### a word, by the signs -/
theorem asc_facts : ∀ c : Nat, c < 128 → (Unicode.isAlpha c && !(Unicode.isUpper c || Unicode.isTitle c)) = isL c := by decide +kernel
theorem low_facts : ∀ k : Nat, k < 26 → Unicode.isLower (97 + k) = true := by decide +kernel
theorem word_txt (x : Str) (h1 : 1 ≤ x.length) (h8 : x.length ≤ 8) : (Txt.isascii x && (Txt.isalpha x && Txt.islower x)) = isW x.cps.toList := by
  have hl : x.cps.toList.length = x.length := (TL.len_tl x).symm
  have e1 : Txt.isascii x = x.cps.toList.all (fun c => decide (c < 128)) := by
    unfold Txt.isascii
    rw [← Array.all_toList]
  have e2 : Txt.isalpha x = x.cps.toList.all (fun c => Unicode.isAlpha c) := by
    unfold Txt.isalpha
    rw [← Array.all_toList, decide_eq_true (show x.length > 0 from h1), Bool.true_and]
  have e3 : Txt.islower x = (x.cps.toList.any (fun c => Unicode.isLower c) && !(x.cps.toList.any fun c => Unicode.isUpper c || Unicode.isTitle c)) := by
    unfold Txt.islower
    rw [← Array.any_toList, ← Array.any_toList]
  rw [e1, e2, e3]
  cases hW : isW x.cps.toList with
  | true =>
    have hw := (isW_iff.mp hW).2.2
    have le : ∀ c ∈ x.cps.toList, c < 128 := fun c hc => by
      have := hw c hc
      unfold isL at this
      rw [Bool.and_eq_true, decide_eq_true_eq, decide_eq_true_eq] at this
      omega
    have f : ∀ c ∈ x.cps.toList, Unicode.isAlpha c = true ∧ (Unicode.isUpper c || Unicode.isTitle c) = false := fun c hc => by
      have q := asc_facts c (le c hc)
      rw [hw c hc, Bool.and_eq_true, Bool.not_eq_true'] at q
      exact q
    rw [List.all_eq_true.mpr fun c hc => decide_eq_true (le c hc), List.all_eq_true.mpr fun c hc => (f c hc).1]
    have e4 : (x.cps.toList.any fun c => Unicode.isUpper c || Unicode.isTitle c) = false := List.any_eq_false.mpr fun c hc => by rw [(f c hc).2]; exact Bool.false_ne_true
    rw [e4]
    obtain ⟨c, r, e⟩ : ∃ c r, x.cps.toList = c :: r := by
      cases q : x.cps.toList with
      | nil =>
        rw [q] at hl
        have : (0 : Nat) = x.length := hl
        omega
      | cons c r => exact ⟨c, r, rfl⟩
    have hc : isL c = true := hw c (by rw [e]; exact List.mem_cons_self ..)
    have lc : Unicode.isLower c = true := by
      unfold isL at hc
      rw [Bool.and_eq_true, decide_eq_true_eq, decide_eq_true_eq] at hc
      have z := low_facts (c - 97) (by omega)
      rw [show 97 + (c - 97) = c by omega] at z
      exact z
    rw [e, List.any_cons, lc]
    rfl
  | false =>
    cases h : (x.cps.toList.all (fun c => decide (c < 128)) && (x.cps.toList.all (fun c => Unicode.isAlpha c) && (x.cps.toList.any (fun c => Unicode.isLower c) && !(x.cps.toList.any fun c => Unicode.isUpper c || Unicode.isTitle c)))) with
    | false => rfl
    | true =>
      rw [Bool.and_eq_true, Bool.and_eq_true, Bool.and_eq_true, List.all_eq_true, List.all_eq_true, Bool.not_eq_true', List.any_eq_false] at h
      obtain ⟨a, b, c, d⟩ := h
      have : isW x.cps.toList = true := isW_iff.mpr ⟨by rw [hl]; exact h1, by rw [hl]; exact h8, fun z hz => by
        have q := asc_facts z (by have := a z hz; exact of_decide_eq_true this)
        rw [b z hz, Bool.eq_false_iff.mpr (d z hz)] at q
        exact q.symm⟩
      rw [this] at hW
      cases hW
theorem word_len {x : Str} (h : isW x.cps.toList = true) : 1 ≤ x.length ∧ x.length ≤ 8 := by
  have q := isW_iff.mp h
  have hl : x.cps.toList.length = x.length := (TL.len_tl x).symm
  rw [hl] at q
  exact ⟨q.1, q.2.1⟩
end
end VA

/-! Rules beside the hand layer's: what is walked may be a list or a tuple; a comprehension that maps; a def of the text with all that a call of it wants. -/
namespace VA
open PySem L2 SX AddrMath
/-- a def of the text and all that a call of it wants -/
structure Own (P : Program) (w : World) (K : PySem.W.Frag) (mg : Str → Option Value) (base : Heap) (CX : CXT) (n : Nat) (x : Str) (ps : List Str) (sp : Sp) where
  f : Addr
  fd : FuncData
  g : FnOk P w K mg base CX n f fd ps sp
  mg : mg x = some (.ref f)
  kp : PySem.W.keepIn K (.ref f) = true
  b : Binds K fd ps []
theorem st_is {A : L2.St → Hp → Prop} {σ σ' : L2.St} {H : Hp} (e : σ = σ') (h : A σ' H) : A σ H := by rw [e]; exact h
theorem hp_is {A : L2.St → Hp → Prop} {σ : L2.St} {H H' : Hp} (e : H = H') (h : A σ H') : A σ H := by rw [e]; exact h
section
variable {X : Cx} {tg : Expr}
def iSeq (K : PySem.W.Frag) (te : TE) : TI := fun σ H R => te σ H fun x H1 => ∃ a, x = .ref a ∧ (((∃ xs, SqL K H1 a xs) ∧ R (Itl K a) H1) ∨ ((∃ xs, SqT K H1 a xs) ∧ R (Itt K a) H1))
theorem pi_seq {e : Expr} {te : TE} (pe : PE X e te) : PI X tg e (iSeq X.K te) := by
  refine ⟨fun pn s σ H R J h => ?_⟩
  refine thn (pe.run pn s σ H _ J h) fun v s2 ⟨x, H2, J2, rx, q2⟩ => ?_
  obtain ⟨a, ex, q2⟩ := q2
  subst ex
  cases rx
  rcases q2 with ⟨⟨xs, hq⟩, q⟩ | ⟨⟨xs, hq⟩, q⟩
  · obtain ⟨its, rv, p, hz⟩ := J2.list hq
    refine wpAny_pyIter_list p.isList ⟨s2.heap.objs.size, [s2.heap.objs.size], _, _, H2, rfl, J2.kept (t' := s2.toks) fun b o z => Heap.get?_push_of_some _ z, turn_list a _, ⟨_, Heap.get?_push_size _ rfl, rfl, rfl⟩, fun b hb => ?_, q⟩
    obtain rfl : b = s2.heap.objs.size := by simpa using hb
    exact J2.fpOk (Nat.le_refl _) (J2.hok.fresh (Nat.le_refl _))
  · obtain ⟨its, rv, p, hz⟩ := J2.tuple hq
    refine wpAny_pyIter_tuple (show s2.heap.IsTuple a its.toArray from p) ⟨s2.heap.objs.size, [s2.heap.objs.size], _, _, H2, rfl, J2.kept (t' := s2.toks) fun b o z => Heap.get?_push_of_some _ z, turn_tuple a _, ⟨_, Heap.get?_push_size _ rfl, rfl, rfl⟩, fun b hb => ?_, q⟩
    obtain rfl : b = s2.heap.objs.size := by simpa using hb
    exact J2.fpOk (Nat.le_refl _) (J2.hok.fresh (Nat.le_refl _))
end
theorem take_snoc {α : Type} {xs : List α} {i : Nat} {x : α} (h : xs[i]? = some x) : xs.take (i + 1) = xs.take i ++ [x] := by
  rw [List.take_succ, h]
  rfl
/-- a comprehension over a list or a tuple whose test and element are known by values, and leave what stands -/
theorem seq_map {K : PySem.W.Frag} {a : Addr} {xs : List V} {j : Nat} {tt : TT} {te : TE} {vs : List Nat} {σ : L2.St} {H1 : Hp} {Qd : Addr → Hp → Prop} (hq : SqA K H1 a xs) (few : xs.length ≤ 1000) (p : V → Bool) (F : V → V)
    (hw : ∀ x, wipe ((wipe σ vs).set j (some x)) vs = wipe σ vs)
    (step : ∀ x ∈ xs, ∀ H, Same H1 H → (∀ R : Bool → Hp → Prop, (∀ H', Same H H' → R (p x) H') → tt ((wipe σ vs).set j (some x)) H R) ∧ (p x = true → ∀ H', Same H H' → ∀ R : VK, (∀ H'', Same H' H'' → R (F x) H'') → te ((wipe σ vs).set j (some x)) H' R))
    (fin : ∀ D H', H1 D = none → H' D = some (.lst ((xs.filter p).map F)) → Same H1 H' → Qd D H') :
    ∃ a', V.ref a = V.ref a' ∧ (((∃ ys, SqL K H1 a' ys) ∧ ∀ D, H1 D = none → ∃ W : Nat → Nat → Hp → Prop, (∃ m, W 0 m (upd H1 D (.lst []))) ∧ ∀ i m H, W i m H →
      ((Itl K a').stop i H ∧ Qd D H) ∨ ((Itl K a').go i H ∧ ∃ Nx : Hp → Prop, (∀ H', Nx H' → ∃ m', m' < m ∧ W (i + 1) m' H') ∧ ∀ x H', (Itl K a').yld i H x H' → gName j x (wipe σ vs) H' fun σ2 H2 => wipe σ2 vs = wipe σ vs ∧ tt σ2 H2 fun b H3 =>
        if b = true then te σ2 H3 fun y H4 => ∃ acc, H4 D = some (.lst acc) ∧ acc.length < sizeLine ∧ Nx (upd H4 D (.lst (acc ++ [y]))) else Nx H3)) ∨
     ((∃ ys, SqT K H1 a' ys) ∧ ∀ D, H1 D = none → ∃ W : Nat → Nat → Hp → Prop, (∃ m, W 0 m (upd H1 D (.lst []))) ∧ ∀ i m H, W i m H →
      ((Itt K a').stop i H ∧ Qd D H) ∨ ((Itt K a').go i H ∧ ∃ Nx : Hp → Prop, (∀ H', Nx H' → ∃ m', m' < m ∧ W (i + 1) m' H') ∧ ∀ x H', (Itt K a').yld i H x H' → gName j x (wipe σ vs) H' fun σ2 H2 => wipe σ2 vs = wipe σ vs ∧ tt σ2 H2 fun b H3 =>
        if b = true then te σ2 H3 fun y H4 => ∃ acc, H4 D = some (.lst acc) ∧ acc.length < sizeLine ∧ Nx (upd H4 D (.lst (acc ++ [y]))) else Nx H3))) := by
  have key : ∀ D, H1 D = none → ∀ i x H, xs[i]? = some x → (Same H1 H ∧ H D = some (.lst (((xs.take i).filter p).map F))) → gName j x (wipe σ vs) H fun σ2 H2 => wipe σ2 vs = wipe σ vs ∧ tt σ2 H2 fun b H3 =>
        if b = true then te σ2 H3 fun y H4 => ∃ acc, H4 D = some (.lst acc) ∧ acc.length < sizeLine ∧ (Same H1 (upd H4 D (.lst (acc ++ [y]))) ∧ (upd H4 D (.lst (acc ++ [y]))) D = some (.lst (((xs.take (i + 1)).filter p).map F))) else (Same H1 H3 ∧ H3 D = some (.lst (((xs.take (i + 1)).filter p).map F))) := by
    rintro D nD i x H hx ⟨s1, hD⟩
    have hm : x ∈ xs := List.mem_of_getElem? hx
    obtain ⟨t1, t2⟩ := step x hm H s1
    refine ⟨hw x, t1 _ fun H' s2 => ?_⟩
    have hD2 := s2 _ _ hD
    rw [take_snoc hx, List.filter_append, List.map_append]
    cases e : p x with
    | false =>
      refine iteF ⟨s1.trans s2, ?_⟩
      rw [show [x].filter p = [] by simp [e], List.map_nil, List.append_nil]
      exact hD2
    | true =>
      refine iteT (t2 e H' s2 _ fun H'' s3 => ⟨_, s3 _ _ hD2, ?_, fun b o z => ?_, ?_⟩)
      · refine small1000 (Nat.le_trans ?_ few)
        rw [List.length_map]
        exact Nat.le_trans (List.length_filter_le _ _) (by rw [List.length_take]; exact Nat.min_le_right _ _)
      · rw [upd_ne (ne_of_none z nD)]
        exact s3 _ _ (s2 _ _ (s1 _ _ z))
      · rw [upd_same, show [x].filter p = [x] by simp [e]]
        rfl
  have fin' : ∀ D, H1 D = none → ∀ H, (Same H1 H ∧ H D = some (.lst (((xs.take xs.length).filter p).map F))) → Qd D H := by
    rintro D nD H ⟨s1, hD⟩
    rw [List.take_length] at hD
    exact fin D H nD hD s1
  refine ⟨a, rfl, ?_⟩
  rcases hq with hq | hq
  · exact .inl ⟨⟨xs, hq⟩, fun D nD => lc_list (K := K) (a := a) (xs := xs) (fun i H => Same H1 H ∧ H D = some (.lst (((xs.take i).filter p).map F))) ⟨same_new nD, upd_same⟩ (fun i H _ z => z.1.seq hq) (key D nD) (fin' D nD)⟩
  · exact .inr ⟨⟨xs, hq⟩, fun D nD => lc_tup (K := K) (a := a) (xs := xs) (fun i H => Same H1 H ∧ H D = some (.lst (((xs.take i).filter p).map F))) ⟨same_new nD, upd_same⟩ (fun i H _ z => same_seqT z.1 hq) (key D nD) (fin' D nD)⟩
theorem filter_yes {α : Type} (xs : List α) : xs.filter (fun _ => true) = xs := by simp
theorem no_test {σ : L2.St} {H : Hp} {R : Bool → Hp → Prop} (h : ∀ H', Same H H' → R true H') : tYes σ H R := h H (Same.refl H)
end VA
namespace VA
open PySem L2 SX AddrMath
theorem op_inK {X : Cx} {K : PySem.W.Frag} (h : X.K = K) : OpR X (compareOp .In) (rIn K false) := by
  subst h
  exact op_in_seq
theorem op_notInK {X : Cx} {K : PySem.W.Frag} (h : X.K = K) : OpR X (compareOp .NotIn) (rIn K true) := by
  subst h
  exact op_notIn_seq
end VA
namespace VA
open PySem L2 SX AddrMath
/-- tuple(x), x a list or a tuple: a tuple of the same -/
def rTupA (K : PySem.W.Frag) : List V → Hp → VK → Prop := fun xs H Q => ∃ p ys, xs = [V.ref p] ∧ SqA K H p ys ∧ ∀ t H', SqT K H' t ys → Same H H' → Q (.ref t) H'
theorem call_tupA {X : Cx} : CallR X (.type "tuple") (rTupA X.K) := by
  intro pn s σ H xs us Q J r h
  obtain ⟨p, ys, e, hp, q⟩ := h
  refine call_tuple_of pn s σ H xs us Q J r ⟨p, ys, e, ?_⟩
  rcases hp with hp | hp
  · exact .inl ⟨hp, fun l nl => q l _ (.inl (.inl upd_same)) (same_new nl)⟩
  · exact .inr ⟨hp, q p H hp (Same.refl H)⟩
/-- t + u of tuples -/
def rCatB (K : PySem.W.Frag) : R2 := fun x y H Q => ∃ a b xs ys, x = .ref a ∧ y = .ref b ∧ SqT K H a xs ∧ SqT K H b ys ∧ xs.length + ys.length ≤ 1000 ∧ ∀ t H', SqT K H' t (xs ++ ys) → Same H H' → Q (.ref t) H'
theorem op_catB {X : Cx} : OpR X (binaryOp .Add) (rCatB X.K) := by
  intro pn s σ H x y v u Q J rx ry h
  obtain ⟨a, b, xs, ys, ex, ey, ha, hb, few, q⟩ := h
  refine op_catA pn s σ H x y v u Q J rx ry ⟨a, b, xs, ys, ex, ey, ha, hb, Nat.le_of_lt (small1000 few), fun e => ?_, fun _ e => ?_, fun _ _ t nt => q t _ (.inl (.inl upd_same)) (same_new nt)⟩
  · subst e
    exact q b H hb (Same.refl H)
  · subst e
    refine q a H ?_ (Same.refl H)
    rw [List.append_nil]
    exact ha
/-- list(x), x a list or a tuple: a new list -/
def rLstA (K : PySem.W.Frag) : List V → Hp → VK → Prop := fun xs H Q => ∃ p ys, xs = [V.ref p] ∧ SqA K H p ys ∧ ∀ l, H l = none → Q (.ref l) (upd H l (.lst ys))
theorem call_lstA {X : Cx} : CallR X (.type "list") (rLstA X.K) := by
  intro pn s σ H xs us Q J r h
  obtain ⟨p, ys, e, hp, q⟩ := h
  exact call_list_of pn s σ H xs us Q J r ⟨p, ys, e, hp, q⟩
end VA
namespace VA
open PySem L2 SX AddrMath
/-- an expression's reading, said otherwise -/
theorem pe_by {X : Cx} {e : Expr} {t : TE} (t' : TE) (h : PE X e t) (k : ∀ σ H Q, t' σ H Q → t σ H Q) : PE X e t' := ⟨fun pn s σ H Q J w => h.run pn s σ H Q J (k σ H Q w)⟩
theorem ps_by {X : Cx} {st : Stmt} {t : TS} (t' : TS) (h : PS X st t) (k : ∀ D σ H, t' D σ H → t D σ H) : PS X st t' := ⟨fun pn s σ H D J w => h.run pn s σ H D J (k D σ H w)⟩
theorem pss_by {X : Cx} {st : List Stmt} {t : TS} (t' : TS) (h : PSs X st t) (k : ∀ D σ H, t' D σ H → t D σ H) : PSs X st t' := ⟨fun pn s σ H D J w => h.run pn s σ H D J (k D σ H w)⟩
theorem pt_by {X : Cx} {e : Expr} {t : TT} (t' : TT) (h : PT X e t) (k : ∀ σ H Q, t' σ H Q → t σ H Q) : PT X e t' := ⟨fun pn s σ H Q J w => h.run pn s σ H Q J (k σ H Q w)⟩
end VA

/-! len of a written dict. -/
namespace VA
open PySem PySem.Spec PyProof.Rows L2
section
variable {prog : Program} {w : World} {A : Around} {E : Value → Shared → Prop} {s : Shared} {d : Addr} {es : Array DictEntry} {ep : Nat}
theorem len_raw {Q : Value → Shared → Prop} (hd : (d == sysModules) = false) (hm : s.heap.DictRaw d es ep) (few : (es.size : Int) < 2 ^ 63)
    (h : Q (.int es.size (s.toks + 1)) { s with toks := s.toks + 1 + 1 }) : wpAny (model prog w) A (call (.builtin "len") [.ref d]) Q E s := by
  refine Calls.call_function_entry kind_len plain_len entry_len (args_len1 _) ?_
  unfold Builtin.«len»
  refine wpAny_bind (m := oneArg "len" _) (wpAny_pure ?_)
  refine wpAny_bind (m := callSpecial? (.ref d) (Str.ofString "__len__")) (wpAny_callSpecial?_slot (name := Str.ofString "__len__") hm.typeIs F.slot_dict_len (call_len_raw hd hm ?_))
  show wpAny _ _ _ _ _ { s with toks := s.toks + 1 }
  refine wpAny_bind (wpAny_holding (wpAny_pure ?_))
  refine wpAny_bind (wpAny_letGo ?_)
  show wpAny _ _ (if ((es.size : Nat) : Int) < 0 then _ else _) _ _ _
  rw [if_neg (by omega)]
  show wpAny _ _ (if ((es.size : Nat) : Int) ≥ 2 ^ 63 then _ else _) _ _ _
  rw [if_neg (by omega)]
  exact wpAny_bind (wpAny_mkInt (wpAny_pure ⟨_, rfl, h⟩))
end
/-- len(d), d a dict of the written part -/
theorem call_lenK {X : Cx} {d : Addr} {es : Array DictEntry} {n : Nat} (at_ : X.K.lookup d = some ⟨.type "dict", none, .dict es n, #[]⟩) (low : (d == sysModules) = false) (few : (es.size : Int) < 2 ^ 63) :
    CallR X (.builtin "len") (fun xs H Q => xs = [V.ref d] ∧ Q (.int es.size) H) := by
  intro pn s σ H xs us Q J r h
  obtain ⟨rfl, q⟩ := h
  obtain ⟨u, rfl, ru⟩ := vals1 r
  cases ru
  exact len_raw low ⟨_, J.kIn _ _ at_, ⟨rfl, rfl, rfl⟩, rfl⟩ few ⟨.int es.size, H, J.tok _, ⟨_, rfl⟩, q⟩
end VA

/-! Own errors of one field: made, caught, looked at; an instance made with keywords where it may raise. -/
namespace K3X
open PySem PySem.W PySem.Spec PySem.Calls PyProof.Rows
variable {pr : Program} {wo : World} {Ar : Around} {Er : Value → Shared → Prop} {F : Frag} {x D : Addr} {ox : Obj}
/-- e.__class__ of an error that has its own dict -/
theorem cls_xd {s : Shared} {od : Obj} {G : Option Value → Shared → Prop} (C : L2.ExcC F D) (inF : F.In s.heap) (at_ : InstAt s.heap x ox D (some od)) (fin : G (some (.ref D)) { s with toks := s.toks + 1 }) :
    wpAny (model pr wo) Ar (getAttr? (.ref x) "__class__") G Er s := by
  have found : findObj F D (some od) "__class__" = some (.bind (.builtin "getset_descriptor.__get__") (.builtin "object.__class__")) :=
    findObj_data (by obtain ⟨_, hcd, _⟩ := any_some C.hd; rw [hcd]; rfl) C.ha C.hn C.ht
  obtain ⟨hh, ge, dr, tk, os⟩ := s
  have lt := at_.type (M := model pr wo); have lg := looks_findIn (M := model pr wo) inF C.hg
  have lk := looks_findIn (M := model pr wo) inF C.hk; have lf := looks_find (M := model pr wo) inF at_ found
  have isB : Looks (model pr wo) hh (isInstance (.ref x) (.type "BaseException")) true := lt.andThen (looks_subIn inF C.hs)
  have n2 : (Value.builtin "BaseException.__getattribute__" == Value.builtin "object.__getattribute__") = false := by decide +kernel
  have n1 : (onTheHeap (Value.ref D) && Value.builtin "BaseException.__getattribute__" == Value.builtin "object.__getattribute__") = false := by rw [n2]; rfl
  unfold getAttr? getAttrBy? getAttrBy; refine wpAny_bind (wpAny_mkText (wpAny_bind (wpAny_attempt (wpAny_holding (wpAny_bind (lt.at (wpAny_bind (lg.at ?_))))))))
  show wpAny _ _ (ite ((onTheHeap (Value.ref D) && Value.builtin "BaseException.__getattribute__" == Value.builtin "object.__getattribute__") = true) _ _) _ _ _
  rw [n1, if_neg Bool.false_ne_true]; unfold getAttrByItsOwn hookBefore
  refine wpAny_bind ?_; rw [if_pos (show onTheHeap (Value.ref D) = true from rfl)]; refine lk.at ?_
  refine wpAny_bind (wpAny_attempt (wpAny_holding ?_)); unfold callGetattribute
  rw [show (false && onTheHeap (Value.builtin "BaseException.__getattribute__")) = false from rfl, if_neg Bool.false_ne_true]; unfold boundAndCalled
  rw [PySem.F.excAttr_ValueError.ga.bind (.ref x)]; refine wpAny_bind (wpAny_pure ?_)
  show wpAny _ _ (call (.builtin "BaseException.__getattribute__") [.ref x, .str "__class__" tk]) _ _ _
  refine wpAny_call (codeAny_call_builtin PySem.F.excAttr_ValueError.ga.plain PySem.F.entry_bexc_ga (@check_slot (model pr wo) _ _ ⟨hh, ge, dr, tk + 1, os⟩ "BaseException.__getattribute__" "BaseException" "__getattribute__" (.ref x)
    [.str "__class__" tk] [] _ (by decide +kernel) (by decide +kernel) isB (PySem.F.args_bexc_ga (.ref x) (.str "__class__" tk)) ?_))
  unfold Builtin.«object.__getattribute__»; refine wpAny_bind (wpAny_of_eq (a := ((Value.ref x : Value), [Value.str "__class__" tk])) (by first | rfl | (simp only [slotArgs]; rfl)) ?_)
  refine wpAny_bind (wpAny_pure (wpAny_bind (lt.at (wpAny_bind (lf.at ?_)))))
  show wpAny _ _ (holding [Value.builtin "object.__class__"] (call (.builtin "getset_descriptor.__get__") [.builtin "object.__class__", .ref x, .ref D]) >>= ret) _ _ _
  refine wpAny_bind (wpAny_holding (wpAny_call (class_get (s := ⟨hh, ge, dr, tk + 1, os⟩) (ox := ox) (od := some od) inF at_ C.hm (wpAny_pure ?_))))
  show wpAny _ _ (handedOut (.ref D)) _ _ _
  rw [handedOut_of (v := .ref D) rfl]
  first
    | exact wpAny_pure (wpAny_pure fin)
    | exact wpAny_pure fin
    | exact wpAny_pure (wpAny_bind (wpAny_pure (wpAny_pure fin)))
/-- the class's own record -/
theorem rec_of {h : Heap} (C : L2.ExcC F D) (inF : F.In h) : ∃ o cd, h.get? D = some o ∧ o.data = .cls cd ∧ F.lookup D = some o := by
  obtain ⟨cd, hcd, _⟩ := any_some C.hd
  unfold clsIn at hcd
  split at hcd
  · rename_i c1 d1 cd1 sl1 ho
    exact ⟨_, cd1, inF _ _ ho, rfl, ho⟩
  · cases hcd
theorem kit_xd (C : L2.ExcC F D) : KitX F (.ref x) (.ref D) (fun h => ∃ od, InstAt h x ox D (some od)) where
  ty := fun _ _ _ ⟨_, I⟩ => I.type
  it := fun _ _ inF _ => by
    intro A1 Q1 E1 s1 kp q
    obtain ⟨o, cd, ho, hd, _⟩ := rec_of C inF
    unfold isType loadHead
    exact wpAny_bind (wpAny_loadPart (kp _ _ ho) (by rw [hd]; exact wpAny_pure q))
  ne := fun h tp dd its n sl inF htp => by
    obtain ⟨o, cd, ho, hd, _⟩ := rec_of C inF
    refine Bool.eq_false_iff.mpr fun q => ?_
    have e : D = tp := Value.ref.inj (beq_iff_eq.mp q)
    subst e
    rw [ho] at htp
    have z := Option.some.inj htp
    rw [z] at hd
    cases hd
  ca := fun inF ⟨_, I⟩ k => cls_xd C inF I k
end K3X
namespace VA
open PySem L2 SX AddrMath
/-- isinstance(e, c), e the caught error with a dict of its own -/
def rIsX (F : PySem.W.Frag) (D a : Addr) (cls : Value) (d : Option Addr) : List V → Hp → VK → Prop := fun xs H Q => ∃ (c : V) (cv : Value) (b : Bool) (dd : Addr) (fs : List (Str × V)), xs = [.ref a, c] ∧ cls = .ref D ∧ (∀ u, RelV c u → u = cv) ∧ d = some dd ∧ H dd = some (.xd fs) ∧ PySem.W.kitOne F (.ref D) cv = some b ∧ Q (.bl b) H
theorem call_isX {X : Cx} {a D : Addr} {cls : Value} {d : Option Addr} {oe : Obj} {pn : List (Addr × Obj)} (C : ExcC X.K D) (hz : Zc cls d oe) (hf : ∃ vs, oe.data = .fields vs) : CallR (X.suite a ((a, oe) :: pn)) (.builtin "isinstance") (rIsX X.K D a cls d) := by
  intro pins s σ H xs us Q I r h
  obtain ⟨c, cv, b, dd, fs, rfl, ecl, hcv, rfl, hdd, e, q⟩ := h
  subst ecl
  cases r with
  | cons rx rr =>
    cases rr with
    | cons rt rr =>
      cases rr
      cases rx
      obtain rfl := hcv _ rt
      have ha := (I.pin (a, oe) (List.mem_append_left _ List.mem_cons_self)).1
      obtain ⟨vs, hv⟩ := hf
      have hx : ObjOk X.prog X.w H s.heap dd (.xd fs) := I.hok dd _ hdd
      obtain ⟨mA, hns, _⟩ := hx
      obtain ⟨od, ho, _⟩ := lookIn_ns hns
      have J : PySem.W.InstAt s.heap a oe D (some od) := ⟨ha, hz.1, by unfold PySem.W.notCls; rw [hv] <;> rfl, by rw [hz.2]; exact ho⟩
      exact PySem.W.kia_one (K3X.kit_xd C) I.kIn ⟨od, J⟩ e (fun z => nomatch z) fun tk => ⟨.bl b, H, I.kept (t' := tk) fun _ _ z => z, rfl, q⟩
end VA
namespace VA
open PySem L2 SX AddrMath PySem.Spec PyProof.Rows
/-- what the text says of an own error with one field n, at C, and of its __init__, at fI -/
structure ErrC (K : PySem.W.Frag) (mg : Str → Option Value) (x n : Str) (C fI : Addr) : Prop where
  ox : OexC K C
  iC : PySem.W.findIn K (.ref C) "__init__" = some (some (.ref fI))
  tI : PySem.W.typeIn K (.ref fI) = some (.type "function")
  no : PySem.W.findIn K (.ref C) n = some none
  mgC : mg x = some (.ref C)
abbrev ixF (n : Str) (v : V) : List (Str × V) := [(n, v)]
def spErr (n : Str) (C : Addr) : Sp := fun vs H Q _ => ∃ (a : Addr) (v : V), vs = [.ref a, v] ∧ H a = some (exo a C none) ∧ ∀ dx, H dx = none → dx ≠ a → Q .non (upd (upd H dx (exd dx (ixF n v))) a (exo a C (some dx)))
/-- an own error of one field, made -/
theorem err_use {n : Str} {C a : Addr} {H1 : Hp} {v : V} {Q : XK} {E : XK} (na : H1 a = none) (q : ∀ d, H1 d = none → Q (.ref C) (some d) (upd H1 d (.xd (ixF n v)))) :
    spErr n C [.ref a, v] (upd H1 a (exo a C none)) (fun u H2 => u = .non ∧ ∃ (d : Addr) (fs : List (Str × V)), H2 a = some (exo a C (some d)) ∧ H2 d = some (exd d fs) ∧ H1 d = none ∧ Q (.ref C) (some d) (upd (del H2 a) d (.xd fs))) E := by
  refine ⟨a, v, rfl, upd_same, fun dx nd ne => ⟨rfl, dx, ixF n v, upd_same, ?_, ?_, ?_⟩⟩
  · rw [upd_ne ne, upd_same]
  · rw [upd_ne ne] at nd
    exact nd
  · have n1 : H1 dx = none := by
      rw [upd_ne ne] at nd
      exact nd
    have e : upd (del (upd (upd (upd H1 a (exo a C none)) dx (exd dx (ixF n v))) a (exo a C (some dx))) a) dx (.xd (ixF n v)) = upd H1 dx (.xd (ixF n v)) := by
      funext b
      by_cases h1 : b = dx
      · rw [h1, upd_same, upd_same]
      · rw [upd_ne h1, upd_ne h1]
        by_cases h2 : b = a
        · rw [h2, del_same, na]
        · rw [del_ne h2, upd_ne h2, upd_ne h1, upd_ne h2]
    rw [e]
    exact q dx n1

/-! ### C(e, .., k = v, ..) where what __init__ lets out is wished for at the caller's slots -/
def tMakeNS (C : Addr) (n m : Nat) (sp : Sp) (gV : List V → List V → List V) (E : L2.St → XK) (t tk : TA) : TE := fun σ H Q => t σ H fun vs H1 => tk σ H1 fun zs H2 => vs.length = n ∧ zs.length = m ∧
  ∀ y dy, H2 y = none → H2 dy = none → dy ≠ y → sp (gV (.ref y :: vs) zs) (upd (upd H2 dy (.own y)) y (.ins C dy [])) (fun v H3 => v = .non ∧ Q (.ref y) H3) (E σ)
section
variable {X : Cx} {CX : CXT} {k n : Nat} {f C : Addr} {fd : FuncData} {names ks : List Str} {sp : Sp} {E : L2.St → XK} {x : Str} {p pos : Pos} {e : Expr} {es : List Expr} {kws : List Keyword} {t tk : TA} {g : List Value → List Value → List Value} {gV : List V → List V → List V}
theorem make_kS {pn : List (Addr × Obj)} {σ : L2.St} {H : Hp} {s : Shared} {Q : VK} {us ws : List Value} {vs zs : List V} (M : Mk X.K C f) (D : FnOk X.prog X.w X.K X.mg X.base CX k f fd names sp) (room : Room (k + 1) X.A) (bn : KBn X.K fd names (n + 1) ks g gV)
    (pa : PassesAt CX X σ (E σ)) (J : Inv X pn σ H s) (rv : Vals vs us) (rz : Vals zs ws) (l1 : vs.length = n) (l2 : zs.length = ks.length)
    (want : ∀ y dy, H y = none → H dy = none → dy ≠ y → sp (gV (.ref y :: vs) zs) (upd (upd H dy (.own y)) y (.ins C dy [])) (fun v H2 => v = .non ∧ Q (.ref y) H2) (E σ)) :
    wpAny (model X.prog X.w) X.A (call (.ref C) us (ks.zip ws)) (EP X pn σ Q) X.xe s := by
  have w1 := want (s.heap.objs.size + 1) s.heap.objs.size (J.hok.fresh (Nat.le_succ _)) (J.hok.fresh (Nat.le_refl _)) (Nat.ne_of_lt (Nat.lt_succ_self _))
  have J2 := Inv.made (C := C) J
  have rv1 : Vals (V.ref (s.heap.objs.size + 1) :: vs) (Value.ref (s.heap.objs.size + 1) :: us) := .cons rfl rv
  have many : (Value.ref (s.heap.objs.size + 1) :: us).length = n + 1 := rv1.length.symm.trans (congrArg Nat.succ l1)
  refine wpAny_call (make_map (f := f) J.kIn M.makes M.init (beq_iff_eq.mp M.fn) (codeAny_mono (D.run _ X.stack _ _ ⟨Value.ref (s.heap.objs.size + 1) :: us, ks.zip ws⟩ (g (Value.ref (s.heap.objs.size + 1) :: us) ws) _ _ (E σ) (room.make C us (ks.zip ws))
    (J2.env0.make C us (ks.zip ws)) (bn.to _ (Value.ref (s.heap.objs.size + 1) :: us) ws J2.kIn many (rz.length.symm.trans l2)) (bn.rel rv1 rz) w1) fun r s' out => ?_))
  match r, out with
  | .error er, out => exact pa _ _ _ _ _ J2 out
  | .ok (.ret u), out =>
    obtain ⟨v, H', J3, ru, ev, q3⟩ := J2.after out
    subst ev
    exact ⟨ru, ⟨V.ref (s.heap.objs.size + 1), H', J3, rfl, q3⟩⟩
  | .ok .next, out => exact False.elim out
  | .ok .brk, out => exact False.elim out
  | .ok .cont, out => exact False.elim out
theorem pe_makeNS (M : Mk X.K C f) (D : FnOk X.prog X.w X.K X.mg X.base CX k f fd names sp) (room : Room (k + 1) X.A) (hg : Gl X x) (hm : X.mg x = some (.ref C)) (bn : KBn X.K fd names (n + 1) ks g gV) (pa : ∀ σ, PassesAt CX X σ (E σ))
    (ha : PA X (e :: es) t) (hkw : PK X kws tk) (hall : (backToKw pos (keywordEach kws X.env)).all (·.1.isSome) = true := by rfl) (hks : (backToKw pos (keywordEach kws X.env)).filterMap (·.1) = ks := by rfl)
    (hdb : (x == ("__debug__" : Str)) = false := by decide) (he : starEach (e :: es) X.env = (false, eval e X.env) :: starEach es X.env := by rfl)
    (hpl : ((backTo pos (starEach (e :: es) X.env)).any (·.1) || (backToKw pos (keywordEach kws X.env)).any (·.1.isNone)) = false := by rfl) :
    PE X (.Call (.Name x p) (e :: es) kws pos) (tMakeNS C n ks.length sp gV E t tk) := by
  refine ⟨fun pn s σ H Q J want => ?_⟩
  refine wpAny_Call_Name_kw (ld_glob J hg hm ?_ hdb)
  refine PySem.W.callWith_KW (h₀ := X.base) J.ok.mod.kin M.kp hall (thn (ha.run pos pn s σ H _ J want) fun us s1 ⟨vs, H1, J1, rv, q⟩ => ?_) hpl he
  refine thn (hkw.run pos pn s1 σ H1 _ J1 q) fun ws s2 ⟨zs, H2, J2, rz, l1, l2, q2⟩ => ⟨J2.kIn, ?_⟩
  rw [hks]
  exact make_kS M D room bn (pa σ) J2 rv rz l1 l2 q2
end
end VA

/-! The source of draws, whatever the row. -/
namespace VA
open PySem L2 SX AddrMath
theorem But.refl (d : Addr) (H : Hp) : But d H H := fun _ _ h _ => h
theorem But.trans {d : Addr} {H H1 H2 : Hp} (a : But d H H1) (b : But d H1 H2) : But d H H2 := fun c o h hc => b c o (a c o h hc) hc
theorem But.upd {d : Addr} {H : Hp} {o : HO} : But d H (upd H d o) := fun b u e hb => by rw [upd_ne hb]; exact e
theorem But.new {d p : Addr} {H : Hp} {o : HO} (h : H p = none) : But d H (L2.upd H p o) := fun b u e _ => by rw [upd_ne (ne_of_none e h)]; exact e
theorem but_of {d : Addr} {H H' : Hp} (s : Same H H') : But d H H' := fun b o e _ => s b o e
theorem But.free {d a : Addr} {H H' : Hp} {o : HO} (hd : H d = some o) (b : But d H H') (hd' : H' d ≠ none) (h : H' a = none) : H a = none := by
  cases q : H a with
  | none => rfl
  | some u =>
    by_cases e : a = d
    · rw [e] at h
      exact absurd h hd'
    · rw [b a u q e] at h
      cases h
abbrev kCells : Key := Sum.inr ("cells" : Str)
abbrev kSpot : Key := Sum.inr ("spot" : Str)
abbrev kRest : Key := Sum.inr ("rest" : Str)
theorem k_cs : ¬ (kCells = kSpot) := by decide +kernel
theorem k_cr : ¬ (kCells = kRest) := by decide +kernel
theorem k_sc : ¬ (kSpot = kCells) := by decide +kernel
theorem k_sr : ¬ (kSpot = kRest) := by decide +kernel
theorem k_rc : ¬ (kRest = kCells) := by decide +kernel
theorem k_rs : ¬ (kRest = kSpot) := by decide +kernel
def penKV (c : Addr) (spot rest : Int) : List (Key × V) := [(kCells, .ref c), (kSpot, .int spot), (kRest, .int rest)]
theorem pen_cells (c : Addr) (s r : Int) : valV (penKV c s r) kCells = some (.ref c) := valV_pos rfl
theorem pen_spot (c : Addr) (s r : Int) : valV (penKV c s r) kSpot = some (.int s) := (valV_neg k_cs).trans (valV_pos rfl)
theorem pen_rest (c : Addr) (s r : Int) : valV (penKV c s r) kRest = some (.int r) := (valV_neg k_cr).trans ((valV_neg k_sr).trans (valV_pos rfl))
theorem pen_putS (c : Addr) (s r z : Int) : putK (penKV c s r) kSpot (.int z) = penKV c z r := by
  unfold putK penKV
  rw [if_pos (by simp)]
  simp only [List.map_cons, List.map_nil, if_neg k_cs, if_neg k_rs, if_pos trivial]
theorem pen_putR (c : Addr) (s r z : Int) : putK (penKV c s r) kRest (.int z) = penKV c s z := by
  unfold putK penKV
  rw [if_pos (by simp)]
  simp only [List.map_cons, List.map_nil, if_neg k_cr, if_neg k_sr, if_pos trivial]
theorem pen_made (c : Addr) (s r : Int) : mergeK [] (penKV c s r) = penKV c s r := by
  show putK (putK (putK [] kCells (V.ref c)) kSpot (V.int s)) kRest (V.int r) = _
  have e1 : putK [] kCells (V.ref c) = [(kCells, V.ref c)] := putK_new _ rfl
  have e2 : putK [(kCells, V.ref c)] kSpot (V.int s) = [(kCells, V.ref c), (kSpot, V.int s)] := putK_new _ (valV_neg k_cs)
  rw [e1, e2]
  exact putK_new _ ((valV_neg k_cr).trans (valV_neg k_sr))
/-- a source of draws stands at d, at most n draws were begun -/
def PenAt (H : Hp) (d c : Addr) (n : Nat) : Prop := ∃ (ns : List Int) (s : Nat) (r : Int), H d = some (.dK (penKV c (s : Int) r)) ∧ H c = some (.lst (ns.map V.int)) ∧ ns.length ≤ 63 ∧ s ≤ n
theorem PenAt.keep {H H' : Hp} {d c : Addr} {n : Nat} (p : PenAt H d c n) (s : Same H H') : PenAt H' d c n := by
  obtain ⟨ns, k, r, h1, h2, h3, h4⟩ := p
  exact ⟨ns, k, r, s _ _ h1, s _ _ h2, h3, h4⟩
theorem PenAt.mono {H : Hp} {d c : Addr} {n m : Nat} (p : PenAt H d c n) (h : n ≤ m) : PenAt H d c m := by
  obtain ⟨ns, k, r, h1, h2, h3, h4⟩ := p
  exact ⟨ns, k, r, h1, h2, h3, Nat.le_trans h4 h⟩
theorem PenAt.ne {H : Hp} {d c : Addr} {n : Nat} (p : PenAt H d c n) : H d ≠ none := by
  obtain ⟨ns, k, r, h1, h2, h3, h4⟩ := p
  rw [h1]
  exact fun z => nomatch z
theorem PenAt.neC {H : Hp} {d c : Addr} {n : Nat} (p : PenAt H d c n) : H c ≠ none := by
  obtain ⟨ns, k, r, h1, h2, h3, h4⟩ := p
  rw [h2]
  exact fun z => nomatch z
theorem PenAt.free {H H' : Hp} {d c a : Addr} {n m : Nat} (p : PenAt H d c n) (p' : PenAt H' d c m) (b : But d H H') (h : H' a = none) : H a = none := by
  obtain ⟨ns, k, r, h1, h2, h3, h4⟩ := p
  exact b.free h1 p'.ne h
/-- another object is written -/
theorem PenAt.put {H : Hp} {d c a : Addr} {n : Nat} {o : HO} (p : PenAt H d c n) (h1 : a ≠ d) (h2 : a ≠ c) : PenAt (upd H a o) d c n := by
  obtain ⟨ns, k, r, e1, e2, h3, h4⟩ := p
  exact ⟨ns, k, r, by rw [upd_ne h1.symm]; exact e1, by rw [upd_ne h2.symm]; exact e2, h3, h4⟩
theorem But.put {d a : Addr} {H H' : Hp} {o : HO} (b : But d H H') (h : H a = none) : But d H (L2.upd H' a o) := fun x u e hx => by
  rw [upd_ne (ne_of_none e h)]
  exact b x u e hx
theorem dp_ints {K : PySem.W.Frag} {H : Hp} : ∀ ns : List Int, DpAll K H (ns.map V.int) (ns.map PyData.int)
  | [] => .nil
  | n :: r => .cons (.int n) (dp_ints r)
theorem cl_ints : ∀ ns : List Int, PyData.canLayAll0 (ns.map PyData.int) = true
  | [] => rfl
  | _ :: r => by simp [PyData.canLayAll0, PyData.canLay0, cl_ints r]
theorem da_ints : ∀ ns : List Int, PyData.depthAll (ns.map PyData.int) = 0
  | [] => rfl
  | _ :: r => by simp [PyData.depthAll, PyData.depth, da_ints r]
theorem sh_ints (ns : List Int) : SeqAt.shaped (.list (ns.map PyData.int)) = true := by
  simp [SeqAt.shaped, PyData.canLay0, PyData.depth, cl_ints, da_ints]
theorem fmod_in (x : Int) {m : Int} (h : 0 < m) : 0 ≤ x.fmod m ∧ x.fmod m < m := by
  rw [Int.fmod_eq_emod_of_nonneg x (by omega)]
  exact ⟨Int.emod_nonneg x (by omega), Int.emod_lt_of_pos x h⟩
theorem eqv_ints (ns : List Int) : PyData.eqv (.list (ns.map PyData.int)) (.list []) = ns.isEmpty := by
  cases ns <;> rfl
theorem nz1 : (2147483423 : Int) ≠ 0 := by decide
theorem nz2 : (2147483477 : Int) ≠ 0 := by decide
theorem nz3 : (2147483489 : Int) ≠ 0 := by decide
theorem nz4 : (2147483497 : Int) ≠ 0 := by decide
theorem cut_to (xs : List V) (k : Nat) : cutV xs none (some (k : Int)) = xs.take k := by
  unfold cutV
  rw [HT.sIx_none, HT.sIx_nat, List.drop_zero, Nat.sub_zero]
  by_cases h : k ≤ xs.length
  · rw [Nat.min_eq_left h]
  · rw [Nat.min_eq_right (by omega), List.take_of_length_le (Nat.le_refl _), List.take_of_length_le (by omega)]
theorem cut_from (xs : List V) (k : Nat) : cutV xs (some (k : Int)) none = xs.drop k := by
  unfold cutV
  rw [HT.sIx_none, HT.sIx_nat]
  by_cases h : k ≤ xs.length
  · rw [Nat.min_eq_left h, List.take_of_length_le (by rw [List.length_drop]; omega)]
  · rw [Nat.min_eq_right (by omega), List.drop_eq_nil_of_le (Nat.le_refl _), List.drop_eq_nil_of_le (by omega)]
    simp
theorem size_ok {n : Nat} (h : n ≤ 1000000) : n ≤ sizeLine := by rw [sizeLine_eq]; omega
theorem size_lt {n : Nat} (h : n ≤ 1000000) : n < sizeLine := by rw [sizeLine_eq]; omega
/-! ### texts by their signs -/
theorem len_S (l : List Nat) : (S l).length = l.length := S_len l
theorem cutS_to (l : List Nat) (k : Nat) : cutS (S l) none (some (k : Int)) = S (l.take k) := by
  unfold cutS
  rw [HT.sIx_none, HT.sIx_nat, len_S, List.drop_zero, Nat.sub_zero]
  show S (l.take (min k l.length)) = _
  by_cases h : k ≤ l.length
  · rw [Nat.min_eq_left h]
  · rw [Nat.min_eq_right (by omega), List.take_of_length_le (Nat.le_refl _), List.take_of_length_le (by omega)]
theorem cutS_from (l : List Nat) (k : Nat) : cutS (S l) (some (k : Int)) none = S (l.drop k) := by
  unfold cutS
  rw [HT.sIx_none, HT.sIx_nat, len_S]
  show S ((l.drop (min k l.length)).take (l.length - min k l.length)) = _
  by_cases h : k ≤ l.length
  · rw [Nat.min_eq_left h, List.take_of_length_le (by rw [List.length_drop]; omega)]
  · rw [Nat.min_eq_right (by omega), List.drop_eq_nil_of_le (Nat.le_refl _), List.drop_eq_nil_of_le (show l.length ≤ k by omega)]
    simp
theorem cutS_mid (l : List Nat) (i k : Nat) : cutS (S l) (some (i : Int)) (some (k : Int)) = S ((l.take k).drop i) := by
  unfold cutS
  rw [HT.sIx_nat, HT.sIx_nat, len_S]
  show S ((l.drop (min i l.length)).take (min k l.length - min i l.length)) = _
  congr 1
  apply List.ext_getElem?
  intro n
  rw [List.getElem?_take, List.getElem?_drop, List.getElem?_drop, List.getElem?_take]
  by_cases hi : i ≤ l.length
  · rw [Nat.min_eq_left hi]
    by_cases hk : k ≤ l.length
    · rw [Nat.min_eq_left hk]
      by_cases h : n < k - i
      · rw [if_pos h, if_pos (by omega)]
      · rw [if_neg h, if_neg (by omega)]
    · rw [Nat.min_eq_right (by omega)]
      by_cases h : n < l.length - i
      · rw [if_pos h, if_pos (by omega)]
      · rw [if_neg h]
        split
        · exact (List.getElem?_eq_none (by omega)).symm
        · rfl
  · rw [Nat.min_eq_right (by omega : l.length ≤ i)]
    rw [if_neg (by omega)]
    split
    · exact (List.getElem?_eq_none (by omega)).symm
    · rfl
theorem joinL_nil : ∀ ys : List (List Nat), TL.joinL [] ys = ys.flatten
  | [] => rfl
  | [p] => by simp [TL.joinL]
  | p :: q :: r => by
    show p ++ ([] ++ TL.joinL [] (q :: r)) = _
    rw [joinL_nil (q :: r)]
    rfl
theorem join_S0 (ys : List (List Nat)) : Txt.join (S []) (ys.map S) = S ys.flatten := by rw [join_S, joinL_nil]
theorem emp_S : (Str.ofString "" : Str) = S [] := by decide +kernel
theorem nz3' : (3 : Int) ≠ 0 := by decide
theorem nz26 : (26 : Int) ≠ 0 := by decide
theorem at_ofN {xs : List Nat} {z : Int} {j : Nat} {v : Nat} (e : z = (j : Int)) (h : xs[j]? = some v) : atI xs z = some v := by
  rw [e]
  exact atI_nat h
abbrev lettersL : List Nat := (Str.ofString "abcdefghijklmnopqrstuvwxyz" : Str).cps.toList
theorem letters_all : ∀ c ∈ lettersL, isL c = true := by decide +kernel
theorem letters_len : lettersL.length = 26 := by decide +kernel
theorem letters_S : (Str.ofString "abcdefghijklmnopqrstuvwxyz" : Str) = S lettersL := (S_tl _).symm
theorem flat_one (cs : List Nat) : (cs.map fun c => [c]).flatten = cs := by
  induction cs with
  | nil => rfl
  | cons c r ih =>
    rw [List.map_cons, List.flatten_cons, ih]
    rfl
theorem map_one (cs : List Nat) : (cs.map fun c => V.str (S [c])) = ((cs.map fun c => [c]).map S).map V.str := by
  rw [List.map_map, List.map_map]
  rfl
theorem sum_one (cs : List Nat) : (((cs.map fun c => [c]).map S).map (·.length)).sum = cs.length := by
  induction cs with
  | nil => rfl
  | cons c r ih =>
    rw [List.map_cons, List.map_cons, List.map_cons, List.sum_cons, ih, List.length_cons, len_S]
    exact Nat.add_comm _ _
end VA

namespace RL
open PySem L2 SX AddrMath VA
def top (i : Nat) : Stmt := PySem.Challenge.pw_sentonward_k01_addresses_made.main.body.getD i (.Pass ⟨0, 0, 0, 0⟩)
/-- names that are the built-in ones -/
structure Blt (mg : Str → Option Value) : Prop where
  isinstance_ : mg "isinstance" = none
  str_ : mg "str" = none
  int_ : mg "int" = none
  bool_ : mg "bool" = none
  list_ : mg "list" = none
  tuple_ : mg "tuple" = none
  len_ : mg "len" = none
  all_ : mg "all" = none
  sorted_ : mg "sorted" = none
  set_ : mg "set" = none
  range_ : mg "range" = none
  min_ : mg "min" = none
  repr_ : mg "repr" = none
  zip_ : mg "zip" = none
theorem if_dec {c A B : Prop} [Decidable c] (h : c) (a : A) : if decide c = true then A else B := by
  rw [if_pos (decide_eq_true h)]
  exact a
theorem if_not {c A B : Prop} [Decidable c] (h : ¬ c) (b : B) : if decide c = true then A else B := by
  rw [if_neg (by simpa using h)]
  exact b
theorem if_is {b : Bool} {A B : Prop} (t : b = true → A) (f : b = false → B) : if b = true then A else B := by
  cases b with
  | true => exact iteT (t rfl)
  | false => exact iteF (f rfl)
theorem kitSeq {K : PySem.W.Frag} (d : PyData) : PySem.W.kitAny K (.type (tyN d)) [.type "list", .type "tuple"] = some (isSeqD d) := by
  cases d with
  | none => exact kitAny_cons (kit_ty (show kitB "NoneType" "list" = some false by decide +kernel)) (fun _ => kitAny_cons (kit_ty (show kitB "NoneType" "tuple" = some false by decide +kernel)) (fun _ => rfl) (fun z => by cases z)) (fun z => by cases z)
  | bool b => exact kitAny_cons (kit_ty (show kitB "bool" "list" = some false by decide +kernel)) (fun _ => kitAny_cons (kit_ty (show kitB "bool" "tuple" = some false by decide +kernel)) (fun _ => rfl) (fun z => by cases z)) (fun z => by cases z)
  | int i => exact kitAny_cons (kit_ty (show kitB "int" "list" = some false by decide +kernel)) (fun _ => kitAny_cons (kit_ty (show kitB "int" "tuple" = some false by decide +kernel)) (fun _ => rfl) (fun z => by cases z)) (fun z => by cases z)
  | str x => exact kitAny_cons (kit_ty (show kitB "str" "list" = some false by decide +kernel)) (fun _ => kitAny_cons (kit_ty (show kitB "str" "tuple" = some false by decide +kernel)) (fun _ => rfl) (fun z => by cases z)) (fun z => by cases z)
  | list l => exact kitAny_cons (kit_ty (show kitB "list" "list" = some true by decide +kernel)) (fun z => by cases z) fun _ => rfl
  | tuple l => exact kitAny_cons (kit_ty (show kitB "tuple" "list" = some false by decide +kernel)) (fun _ => kitAny_cons (kit_ty (show kitB "tuple" "tuple" = some true by decide +kernel)) (fun z => by cases z) fun _ => rfl) (fun z => by cases z)
  | dict l => exact kitAny_cons (kit_ty (show kitB "dict" "list" = some false by decide +kernel)) (fun _ => kitAny_cons (kit_ty (show kitB "dict" "tuple" = some false by decide +kernel)) (fun _ => rfl) (fun z => by cases z)) (fun z => by cases z)
def isStrD : PyData → Bool
  | .str _ => true
  | _ => false
def isBoolD : PyData → Bool
  | .bool _ => true
  | _ => false
def isTupD : PyData → Bool
  | .tuple _ => true
  | _ => false
def isNumD : PyData → Bool
  | .int _ => true
  | .bool _ => true
  | _ => false
theorem kitStr {K : PySem.W.Frag} (d : PyData) : PySem.W.kitOne K (.type (tyN d)) (.type "str") = some (isStrD d) := by
  cases d with
  | none => exact (kit_ty (show kitB "NoneType" "str" = some false by decide +kernel))
  | bool b => exact (kit_ty (show kitB "bool" "str" = some false by decide +kernel))
  | int i => exact (kit_ty (show kitB "int" "str" = some false by decide +kernel))
  | str x => exact (kit_ty (show kitB "str" "str" = some true by decide +kernel))
  | list l => exact (kit_ty (show kitB "list" "str" = some false by decide +kernel))
  | tuple l => exact (kit_ty (show kitB "tuple" "str" = some false by decide +kernel))
  | dict l => exact (kit_ty (show kitB "dict" "str" = some false by decide +kernel))
theorem kitBool {K : PySem.W.Frag} (d : PyData) : PySem.W.kitOne K (.type (tyN d)) (.type "bool") = some (isBoolD d) := by
  cases d with
  | none => exact (kit_ty (show kitB "NoneType" "bool" = some false by decide +kernel))
  | bool b => exact (kit_ty (show kitB "bool" "bool" = some true by decide +kernel))
  | int i => exact (kit_ty (show kitB "int" "bool" = some false by decide +kernel))
  | str x => exact (kit_ty (show kitB "str" "bool" = some false by decide +kernel))
  | list l => exact (kit_ty (show kitB "list" "bool" = some false by decide +kernel))
  | tuple l => exact (kit_ty (show kitB "tuple" "bool" = some false by decide +kernel))
  | dict l => exact (kit_ty (show kitB "dict" "bool" = some false by decide +kernel))
theorem kitTup {K : PySem.W.Frag} (d : PyData) : PySem.W.kitOne K (.type (tyN d)) (.type "tuple") = some (isTupD d) := by
  cases d with
  | none => exact (kit_ty (show kitB "NoneType" "tuple" = some false by decide +kernel))
  | bool b => exact (kit_ty (show kitB "bool" "tuple" = some false by decide +kernel))
  | int i => exact (kit_ty (show kitB "int" "tuple" = some false by decide +kernel))
  | str x => exact (kit_ty (show kitB "str" "tuple" = some false by decide +kernel))
  | list l => exact (kit_ty (show kitB "list" "tuple" = some false by decide +kernel))
  | tuple l => exact (kit_ty (show kitB "tuple" "tuple" = some true by decide +kernel))
  | dict l => exact (kit_ty (show kitB "dict" "tuple" = some false by decide +kernel))
theorem kitInt {K : PySem.W.Frag} (d : PyData) : PySem.W.kitOne K (.type (tyN d)) (.type "int") = some (isNumD d) := by
  cases d with
  | none => exact (kit_ty (show kitB "NoneType" "int" = some false by decide +kernel))
  | bool b => exact (kit_ty (show kitB "bool" "int" = some true by decide +kernel))
  | int i => exact (kit_ty (show kitB "int" "int" = some true by decide +kernel))
  | str x => exact (kit_ty (show kitB "str" "int" = some false by decide +kernel))
  | list l => exact (kit_ty (show kitB "list" "int" = some false by decide +kernel))
  | tuple l => exact (kit_ty (show kitB "tuple" "int" = some false by decide +kernel))
  | dict l => exact (kit_ty (show kitB "dict" "int" = some false by decide +kernel))
theorem vx_str {K : PySem.W.Frag} {H : Hp} {x : V} {d : PyData} (h : Vx K H x d) (e : isStrD d = true) : ∃ z : Str, x = .str z ∧ d = .str z ∧ z.length ≤ 1000 := by
  rcases h with ⟨h, o⟩ | ⟨a, kvs, rfl, h, rfl⟩
  · cases h with
    | str z =>
      rw [okD, Bool.and_eq_true, decide_eq_true_eq] at o
      exact ⟨z, rfl, rfl, o.1⟩
    | non => cases e
    | bl b => cases e
    | int i => cases e
    | lst h1 h2 => cases e
    | tup h1 h2 => cases e
  · cases e
theorem vx_seq {K : PySem.W.Frag} {H : Hp} {x : V} {d : PyData} (h : Vx K H x d) (e : isSeqD d = true) : ∃ a xs, x = .ref a ∧ SqA K H a xs ∧ DpAll K H xs (itemsD d) ∧ (itemsD d).length ≤ 1000 ∧ ∀ e ∈ itemsD d, okD 7 e = true := by
  rcases h with ⟨h, o⟩ | ⟨a, kvs, rfl, h, rfl⟩
  · cases h with
    | str z => cases e
    | non => cases e
    | bl b => cases e
    | int i => cases e
    | lst h1 h2 =>
      rw [okD, Bool.and_eq_true, Bool.and_eq_true, decide_eq_true_eq, decide_eq_true_eq] at o
      exact ⟨_, _, rfl, .inl h1, h2, o.2.1, okAll_mem o.2.2⟩
    | tup h1 h2 =>
      rw [okD, Bool.and_eq_true, Bool.and_eq_true, decide_eq_true_eq, decide_eq_true_eq] at o
      exact ⟨_, _, rfl, .inr h1, h2, o.2.1, okAll_mem o.2.2⟩
  · cases e
section
variable {P : Program} {w : World} {K : PySem.W.Frag} {mg : Str → Option Value} {base : Heap}
/-! ### is_word: slots value 0 -/
abbrev sIsWord : Stmt := top 6
def spIsWord (K : PySem.W.Frag) : Sp := fun vs H Q _ => ∃ x d, vs = [x] ∧ Vx K H x d ∧ Q (.bl (isWordD d)) H
theorem scIsWord : FnScope ["value"] ["value"] (defScope sIsWord) := ⟨rfl, rfl, rfl, by decide +kernel, rfl, by decide +kernel, by decide +kernel⟩
theorem ok_isword {f : Addr} {fd : FuncData} {t : Tok} (F : Fun K "is_word" "is_word" sIsWord f fd) (B : Blt mg) (mL : mg "LETTERS" = some (.int 8 t)) :
    FnOk P w K mg base CX0 1 f fd ["value"] (spIsWord K) := by
  refine F.ok scIsWord (fun vs H Q E h => ?_) (fun cdv A outer s H vs Q E hr h => ?_)
  · obtain ⟨x, d, rfl, _⟩ := h
    rfl
  · obtain ⟨x, d, rfl, hx, q⟩ := h
    refine ⟨_, (pss_cons (ps_if (pt_not (pt_val (pe_callB call_isi (by rfl) B.isinstance_ (by decide +kernel) (pa_cons (pv 0) (pa_cons (pe_bltn (v := .ty "str") (by rfl) B.str_ (by decide +kernel) rfl) pa_nil))))) (pss_one (ps_ret pe_bl)) pss_nil)
      (pss_one (ps_ret (pe_and (pe_chain op_le op_le pe_int (pe_callB call_len_str (by rfl) B.len_ (by decide +kernel) (pa_cons (pv 0) pa_nil)) (pe_glob (v := .int 8) rfl mL ⟨_, rfl⟩)) (pe_and (pe_m0 PySem.F.slot_str_isascii PySem.F.type_str_isascii mt_isascii (pv 0)) (pe_and (pe_m0 PySem.F.slot_str_isalpha PySem.F.type_str_isalpha mt_isalpha (pv 0)) (pe_one (pe_m0 PySem.F.slot_str_islower PySem.F.type_str_islower mt_islower (pv 0))))))))), ?_⟩
    refine ⟨_, rfl, _, _, _, _, isStrD d, rfl, .ty "str", hx.ty, kitStr d, _, rfl, ?_⟩
    cases e : isStrD d with
    | false =>
      refine iteT ?_
      have : isWordD d = false := by cases d <;> first | rfl | cases e
      rw [this] at q
      exact q
    | true =>
      refine iteF ?_
      obtain ⟨z, rfl, rfl, hz⟩ := vx_str hx e
      have q' : Q (.bl (isW z.cps.toList)) H := q
      refine ⟨_, rfl, _, rfl, size_ok (by omega), _, _, rfl, rfl, _, rfl, if_is (fun h1 => ?_) (fun h1 => ?_)⟩
      · have h1' : (1 : Int) ≤ (z.length : Int) := of_decide_eq_true h1
        refine ⟨_, _, rfl, rfl, _, rfl, if_is (fun h8 => ?_) (fun h8 => ?_)⟩
        · have h8' : (z.length : Int) ≤ 8 := of_decide_eq_true h8
          have e2 := word_txt z (by omega) (by omega)
          refine ⟨_, rfl, ⟨_, rfl⟩, _, rfl, rfl, trivial, _, rfl, if_is (fun a1 => ?_) (fun a1 => ?_)⟩
          · refine ⟨_, rfl, ⟨_, rfl⟩, _, rfl, rfl, trivial, _, rfl, if_is (fun a2 => ?_) (fun a2 => ?_)⟩
            · refine ⟨_, rfl, ⟨_, rfl⟩, _, rfl, rfl, trivial, ?_⟩
              rw [a1, a2, Bool.true_and, Bool.true_and] at e2
              rw [e2]
              exact q'
            · rw [a1, a2, Bool.true_and, Bool.false_and] at e2
              rw [e2]
              exact q'
          · rw [a1, Bool.false_and] at e2
            rw [e2]
            exact q'
        · have : isW z.cps.toList = false := Bool.eq_false_iff.mpr fun y => by
            have := word_len y
            have := of_decide_eq_false h8
            omega
          rw [this] at q'
          exact q'
      · have : isW z.cps.toList = false := Bool.eq_false_iff.mpr fun y => by
          have := word_len y
          have := of_decide_eq_false h1
          omega
        rw [this] at q'
        exact ⟨_, rfl, iteF q'⟩
/-! ### is_integer: slots value 0 -/
abbrev sIsInteger : Stmt := top 8
def spIsInt (K : PySem.W.Frag) : Sp := fun vs H Q _ => ∃ x d, vs = [x] ∧ Vx K H x d ∧ Q (.bl (isIntD d)) H
theorem scIsInteger : FnScope ["value"] ["value"] (defScope sIsInteger) := ⟨rfl, rfl, rfl, by decide +kernel, rfl, by decide +kernel, by decide +kernel⟩
theorem ok_isint {f : Addr} {fd : FuncData} (F : Fun K "is_integer" "is_integer" sIsInteger f fd) (B : Blt mg) : FnOk P w K mg base CX0 1 f fd ["value"] (spIsInt K) := by
  refine F.ok scIsInteger (fun vs H Q E h => ?_) (fun cdv A outer s H vs Q E hr h => ?_)
  · obtain ⟨x, d, rfl, _⟩ := h
    rfl
  · obtain ⟨x, d, rfl, hx, q⟩ := h
    refine ⟨_, (pss_one (ps_ret (pe_and (pe_callB call_isi (by rfl) B.isinstance_ (by decide +kernel) (pa_cons (pv 0) (pa_cons (pe_bltn (v := .ty "int") (by rfl) B.int_ (by decide +kernel) rfl) pa_nil))) (pe_one (pe_not (pe_callB call_isi (by rfl) B.isinstance_ (by decide +kernel) (pa_cons (pv 0) (pa_cons (pe_bltn (v := .ty "bool") (by rfl) B.bool_ (by decide +kernel) rfl) pa_nil)))))))), ?_⟩
    refine ⟨_, rfl, _, _, _, _, isNumD d, rfl, .ty "int", hx.ty, kitInt d, _, rfl, if_is (fun e => ?_) (fun e => ?_)⟩
    · refine ⟨_, rfl, _, _, _, _, isBoolD d, rfl, .ty "bool", hx.ty, kitBool d, _, rfl, ?_⟩
      have : (!isBoolD d) = isIntD d := by cases d <;> first | rfl | cases e
      rw [this]
      exact q
    · have : isIntD d = false := by cases d <;> first | rfl | cases e
      rw [this] at q
      exact q
end
end RL

namespace RL
open PySem L2 SX AddrMath VA
abbrev sPen : Stmt := top 14
abbrev sDraw : Stmt := top 15
abbrev sPick : Stmt := top 16
abbrev sWords : Stmt := top 17
/-- what a call of a def of the text wants, beside its promise -/
structure Cd (K : PySem.W.Frag) (mg : Str → Option Value) (x : Str) (f : Addr) : Prop where
  mg : mg x = some (.ref f)
  kp : PySem.W.keepIn K (.ref f) = true
section
variable {P : Program} {w : World} {K : PySem.W.Frag} {mg : Str → Option Value} {base : Heap}
/-! ### _law_pen -/
def spPen (K : PySem.W.Frag) : Sp := fun vs H Q _ => ∃ (a : Addr) (ns : List Int), vs = [.ref a] ∧ SqL K H a (ns.map V.int) ∧ ns.length ≤ 63 ∧ ∀ (d c : Addr) (H' : Hp), PenAt H' d c 0 → Same H H' → H d = none → Q (.ref d) H'
theorem scPen : FnScope ["_law_script"] ["_law_script"] (defScope sPen) := ⟨rfl, rfl, rfl, by decide +kernel, rfl, by decide +kernel, by decide +kernel⟩
theorem ok_pen {f : Addr} {fd : FuncData} (F : Fun K "_law_pen" "_law_pen" sPen f fd) (ml : mg "list" = none) : FnOk P w K mg base CX0 1 f fd ["_law_script"] (spPen K) := by
  refine F.ok scPen (fun vs H Q E h => ?_) (fun cdv A outer s H vs Q E hr h => ?_)
  · obtain ⟨a, ns, rfl, _⟩ := h
    rfl
  · obtain ⟨a, ns, rfl, hS, hlen, q⟩ := h
    refine ⟨_, pss_one (ps_ret (pe_disp (pps_cons pe_str (pe_callTy call_list_of (by rfl) ml (by decide +kernel) (pa_cons (pe_slice sl_list (pv 0) po_none (po_some pe_int)) pa_nil))
      (pps_cons pe_str pe_int (pps_cons pe_str pe_int pps_nil))) (by rfl) (by rfl) (fun z => by cases z) (by decide))), ?_⟩
    intro p hp
    have s1 : Same H (upd H p (.dK [])) := same_new hp
    refine ⟨_, rfl, 63, rfl, a, ns.map V.int, rfl, s1.seq hS, fun c nc => ?_⟩
    have s2 : Same (upd H p (.dK [])) _ := same_new (o := .lst (cutV (ns.map V.int) none (some 63))) nc
    refine ⟨c, _, rfl, .inl (.inl (.inl upd_same)), fun l nl => ?_⟩
    have s3 : Same _ _ := same_new (o := .lst (cutV (ns.map V.int) none (some 63))) nl
    have h3 := s3 _ _ (s2 _ _ upd_same)
    refine ⟨h3, penKV l 0 0, rfl, by show 3 ≤ 15; decide, ?_⟩
    rw [pen_made]
    have npl : l ≠ p := fun z => by
      rw [z, s2 _ _ upd_same] at nl
      cases nl
    refine q p l _ ⟨ns.take 63, 0, 0, upd_same, ?_, by rw [List.length_take]; omega, Nat.le_refl _⟩ (fun b o e => ?_) hp
    · rw [upd_ne npl, upd_same, show (63 : Int) = ((63 : Nat) : Int) from rfl, cut_to, List.map_take]
    · rw [upd_ne (ne_of_none e hp)]
      exact s3 _ _ (s2 _ _ (s1 _ _ e))
/-! ### _law_draw: slots pen 0, many 1, digit 2, spot 3, cell 4, mixed 5 -/
def spDraw : Sp := fun vs H Q _ => ∃ (d c : Addr) (n : Nat) (m : Int), vs = [.ref d, .int m] ∧ PenAt H d c n ∧ n ≤ 1000000 ∧ 0 < m ∧ m < 1000000 ∧ ∀ (j : Int) (H' : Hp), 0 ≤ j → j < m → PenAt H' d c (n + 1) → But d H H' → Q (.int j) H'
theorem scDraw : FnScope ["_law_pen_here", "_law_many", "_law_digit", "_law_spot", "_law_cell", "_law_mixed"] ["_law_pen_here", "_law_many"] (defScope sDraw) := ⟨rfl, rfl, rfl, by decide +kernel, rfl, by decide +kernel, by decide +kernel⟩
theorem ok_draw {f : Addr} {fd : FuncData} (F : Fun K "_law_draw" "_law_draw" sDraw f fd) (mi : mg "int" = none) (ml : mg "len" = none) : FnOk P w K mg base CX0 1 f fd ["_law_pen_here", "_law_many"] spDraw := by
  refine F.ok scDraw (fun vs H Q E h => ?_) (fun cdv A outer s H vs Q E hr h => ?_)
  · obtain ⟨d, c, n, m, rfl, _⟩ := h
    rfl
  · obtain ⟨d, c, n, m, rfl, p, hn, hm0, hm1, q⟩ := h
    have hu := hu_of hr
    refine ⟨_, pss_cons (ps_if (pt_cmpR op_ge (pe_dget hu (pv 0) pe_str (fun _ _ => rfl)) (pv 1) (nomark _))
        (pss_cons (ps_set (i := 2) scDraw.nd rfl (Or.inl rfl) (pe_op op_modN (pe_callTy call_int1 (by rfl) mi (by decide +kernel) (pa_cons (pe_dget hu (pv 0) pe_str (fun _ _ => rfl)) pa_nil)) (pv 1)))
          (pss_cons (ps_dput hu (pv 0) pe_str (pe_op op_fdivN (pe_dget hu (pv 0) pe_str (fun _ _ => rfl)) (pv 1)) rfl)
            (pss_one (ps_ret (pv 2))))) pss_nil)
      (pss_cons (ps_set (i := 3) scDraw.nd rfl (Or.inl rfl) (pe_dget hu (pv 0) pe_str (fun _ _ => rfl)))
      (pss_cons (ps_dput hu (pv 0) pe_str (pe_op op_add (pv 3) pe_int) rfl)
      (pss_cons (ps_set (i := 4) scDraw.nd rfl (Or.inl rfl) (pe_op op_add (pe_op op_mul pe_int (pv 3)) pe_int))
      (pss_cons (ps_if (pt_cmpR (op_neD hr.units) (pe_dget hu (pv 0) pe_str (fun _ _ => rfl)) (pe_lst pa_nil) (nomark _))
          (pss_one (ps_set (i := 4) scDraw.nd rfl (Or.inl rfl) (pe_ix ix_list (pe_dget hu (pv 0) pe_str (fun _ _ => rfl))
            (pe_op op_modN (pe_callTy call_int1 (by rfl) mi (by decide +kernel) (pa_cons (pv 3) pa_nil)) (pe_callB call_len_seq (by rfl) ml PySem.boot_len (pa_cons (pe_dget hu (pv 0) pe_str (fun _ _ => rfl)) pa_nil))) (fun _ _ => rfl)))) pss_nil)
      (pss_cons (ps_if (PW.pt (pw_and (pt_cmpR op_lt (pv 3) (pe_callB call_len_seq (by rfl) ml PySem.boot_len (pa_cons (pe_dget hu (pv 0) pe_str (fun _ _ => rfl)) pa_nil)) (nomark _)) (pw_and1 (pt_cmpR op_ge (pv 4) (pe_op op_pow pe_int pe_int) (nomark _)))))
          (pss_cons (ps_dput hu (pv 0) pe_str (pe_op op_fdivN (pe_op op_sub (pv 4) (pe_op op_pow pe_int pe_int)) (pv 1)) rfl)
            (pss_one (ps_ret (pe_op op_modN (pe_callTy call_int1 (by rfl) mi (by decide +kernel) (pa_cons (pe_op op_sub (pv 4) (pe_op op_pow pe_int pe_int)) pa_nil)) (pv 1))))) pss_nil)
      (pss_cons (ps_set (i := 5) scDraw.nd rfl (Or.inl rfl) (pe_op op_mul (pe_op op_modN (pe_callTy call_int1 (by rfl) mi (by decide +kernel) (pa_cons (pv 4) pa_nil)) pe_int) pe_int))
      (pss_cons (ps_set (i := 5) scDraw.nd rfl (Or.inl rfl) (pe_op op_modN (pe_callTy call_int1 (by rfl) mi (by decide +kernel) (pa_cons (pe_op op_add (pe_op op_add (pe_op op_add (pv 5) (pe_op op_mul (pe_op op_mul pe_int (pv 3)) (pv 3))) (pe_op op_mul pe_int (pv 3))) pe_int) pa_nil)) pe_int))
      (pss_cons (ps_set (i := 5) scDraw.nd rfl (Or.inl rfl) (pe_op op_modN (pe_callTy call_int1 (by rfl) mi (by decide +kernel) (pa_cons (pe_op op_mul (pv 5) (pe_op op_add (pv 5) pe_int)) pa_nil)) pe_int))
      (pss_one (ps_ret (pe_op op_modN (pe_callTy call_int1 (by rfl) mi (by decide +kernel) (pa_cons (pe_op op_fdivN (pe_op op_modN (pe_callTy call_int1 (by rfl) mi (by decide +kernel) (pa_cons (pe_op op_add (pe_op op_mul (pv 5) (pv 5)) (pe_op op_mul pe_int (pv 5))) pa_nil)) pe_int) pe_int) pa_nil)) (pv 1)))))))))))), ?_⟩
    obtain ⟨ns, sp, r, h1, h2, h3, h4⟩ := p
    have gC : ∀ {H : Hp} {x y : Int}, H d = some (.dK (penKV c x y)) → DGet H d (.str "cells") (some (.ref c)) := fun {H x y} e => by
      have z := DGet.k (k := kCells) e
      rw [pen_cells] at z
      exact z
    have gS : ∀ {H : Hp} {x y : Int}, H d = some (.dK (penKV c x y)) → DGet H d (.str "spot") (some (.int x)) := fun {H x y} e => by
      have z := DGet.k (k := kSpot) e
      rw [pen_spot] at z
      exact z
    have gR : ∀ {H : Hp} {x y : Int}, H d = some (.dK (penKV c x y)) → DGet H d (.str "rest") (some (.int y)) := fun {H x y} e => by
      have z := DGet.k (k := kRest) e
      rw [pen_rest] at z
      exact z
    have uS : ∀ {H : Hp} {x y z : Int}, H d = some (.dK (penKV c x y)) → DPut H d (.str "spot") (.int z) (upd H d (.dK (penKV c z y))) := fun {H x y z} e => by
      have q := DPut.k (k := kSpot) (v := .int z) e (small1000 (by show 3 ≤ 1000; decide))
      rw [pen_putS] at q
      exact q
    have uR : ∀ {H : Hp} {x y z : Int}, H d = some (.dK (penKV c x y)) → DPut H d (.str "rest") (.int z) (upd H d (.dK (penKV c x z))) := fun {H x y z} e => by
      have q := DPut.k (k := kRest) (v := .int z) e (small1000 (by show 3 ≤ 1000; decide))
      rw [pen_putR] at q
      exact q
    have ncd : c ≠ d := ne_of h2 h1 (fun z => by cases z)
    have hmn : m ≠ 0 := by omega
    have hma : m.natAbs < 1073741824 := by omega
    have fm : ∀ x : Int, 0 ≤ x.fmod m ∧ x.fmod m < m := fun x => fmod_in x hm0
    -- if pen["rest"] >= many
    refine ⟨_, rfl, d, _, rfl, gR h1, _, rfl, _, _, rfl, rfl, _, rfl, ?_⟩
    refine ite2 (fun _ => ?_) (fun _ => ?_)
    · -- digit = int(pen["rest"]) % many; pen["rest"] = pen["rest"] // many; return digit
      refine ⟨_, rfl, d, _, rfl, gR h1, .inl ⟨_, rfl, _, rfl, _, _, rfl, rfl, hmn, ?_⟩⟩
      refine ⟨_, rfl, d, _, rfl, gR h1, _, rfl, _, _, rfl, rfl, ⟨hmn, hma⟩, _, rfl, d, _, rfl, uR h1, _, rfl, ?_⟩
      exact q _ _ (fm r).1 (fm r).2 ⟨ns, sp, _, upd_same, by rw [upd_ne ncd]; exact h2, h3, by omega⟩ But.upd
    · -- spot = pen["spot"]; pen["spot"] = spot + 1; cell = 61 * spot + 37
      refine ⟨_, rfl, d, _, rfl, gS h1, _, rfl, _, _, rfl, rfl, _, rfl, d, _, rfl, uS h1, ?_⟩
      have hsp : (sp : Int) ≤ 1000000 := by omega
      refine ⟨_, rfl, _, _, rfl, rfl, .inl ⟨by decide, by decide⟩, _, _, rfl, rfl, ?_⟩
      have p1 : (upd H d (.dK (penKV c ((sp : Int) + 1) r))) d = some (.dK (penKV c ((sp : Int) + 1) r)) := upd_same
      have c1 : (upd H d (.dK (penKV c ((sp : Int) + 1) r))) c = some (.lst (ns.map V.int)) := by rw [upd_ne ncd]; exact h2
      have b1 : But d H (upd H d (.dK (penKV c ((sp : Int) + 1) r))) := But.upd
      generalize upd H d (.dK (penKV c ((sp : Int) + 1) r)) = H1 at p1 c1 b1
      -- if pen["cells"] != []
      refine ⟨_, rfl, d, _, rfl, gC p1, Nat.zero_le _, fun l nl => ?_⟩
      have s2 : Same H1 (upd H1 l (.lst [])) := same_new nl
      refine ⟨.list (ns.map PyData.int), .list [], .lst (.inl (.inl (s2 _ _ c1))) (dp_ints ns), .lst (.inl (.inl upd_same)) .nil, sh_ints ns, by decide +kernel, _, rfl, ?_⟩
      have p2 := s2 _ _ p1
      have c2 := s2 _ _ c1
      have b2 : But d H (upd H1 l (.lst [])) := b1.trans (but_of s2)
      generalize upd H1 l (.lst []) = H2 at p2 c2 b2
      rw [eqv_ints]
      refine ite2 (fun hne => ?_) (fun _ => ?_)
      · have hpos : 0 < ns.length := by
          cases ns with
          | nil => cases hne
          | cons a t => exact Nat.succ_pos _
        have hl0 : (0 : Int) < ((ns.map V.int).length : Int) := by rw [List.length_map]; omega
        have fi := fmod_in (sp : Int) hl0
        obtain ⟨j, ej⟩ : ∃ j : Nat, (sp : Int).fmod ((ns.map V.int).length : Int) = (j : Int) := ⟨((sp : Int).fmod ((ns.map V.int).length : Int)).toNat, by omega⟩
        have hj : j < ns.length := by
          have z := fi.2
          rw [ej, List.length_map] at z
          omega
        -- cell = pen["cells"][int(spot) % len(pen["cells"])]
        refine ⟨_, rfl, d, _, rfl, gC p2, _, rfl, .inl ⟨_, rfl, _, rfl, d, _, rfl, gC p2, _, _, rfl, .inl (.inl (.inl c2)), _, _, rfl, rfl, by omega, c, _, _, .int ns[j], rfl, rfl, .inl (.inl c2), at_of (j := j) ej (by rw [List.getElem?_map, List.getElem?_eq_getElem hj]; rfl), ?_⟩⟩
        generalize ns[j] = z
        refine ⟨_, rfl, _, rfl, d, _, rfl, gC p2, _, _, rfl, .inl (.inl (.inl c2)), _, _, rfl, rfl, _, rfl, ?_⟩
        refine ite2 (fun _ => ⟨_, rfl, _, _, rfl, rfl, ⟨by decide, by decide, by decide⟩, _, _, rfl, rfl, _, rfl, ite2 (fun _ => ?_) (fun _ => ?_)⟩) (fun _ => ?_)
        · refine ⟨_, rfl, _, _, rfl, rfl, ⟨by decide, by decide, by decide⟩, _, _, rfl, rfl, _, rfl, _, _, rfl, rfl, ⟨hmn, hma⟩, _, rfl, d, _, rfl, uR p2, ?_⟩
          refine ⟨_, rfl, _, _, rfl, rfl, ⟨by decide, by decide, by decide⟩, _, _, rfl, rfl, .inl ⟨_, rfl, _, rfl, _, _, rfl, rfl, hmn, ?_⟩⟩
          exact q _ _ (fm _).1 (fm _).2 ⟨ns, sp + 1, _, upd_same, by rw [upd_ne ncd]; exact c2, h3, by omega⟩ (b2.trans But.upd)
        · refine ⟨_, rfl, .inl ⟨_, rfl, _, _, rfl, rfl, nz1, _, _, rfl, rfl, .inr ⟨by decide, by decide⟩, ?_⟩⟩
          obtain ⟨z1, e1⟩ : ∃ z1, (z.fmod 2147483423) * 40009 = z1 := ⟨_, rfl⟩
          refine ⟨_, rfl, _, rfl, _, _, rfl, rfl, .inl ⟨by decide, by decide⟩, _, rfl, _, _, rfl, rfl, .inr ⟨by omega, by omega⟩, z1, _, congrArg V.int e1, rfl, _, rfl, _, _, rfl, rfl, .inl ⟨by decide, by decide⟩, _, _, rfl, rfl, _, _, rfl, rfl, .inl ⟨_, rfl, _, _, rfl, rfl, nz2, ?_⟩⟩
          obtain ⟨z2, e2⟩ : ∃ z2, (z1 + 52361 * (sp : Int) * (sp : Int) + 97 * (sp : Int) + 29).fmod 2147483477 = z2 := ⟨_, rfl⟩
          have f2 := fmod_in (z1 + 52361 * (sp : Int) * (sp : Int) + 97 * (sp : Int) + 29) (m := 2147483477) (by decide)
          rw [e2] at f2
          refine ⟨_, rfl, _, rfl, z2, _, congrArg V.int e2, rfl, z2, _, congrArg V.int e2, rfl, .inl ⟨by omega, by omega⟩, .inl ⟨_, rfl, _, _, rfl, rfl, nz3, ?_⟩⟩
          obtain ⟨z3, e3⟩ : ∃ z3, (z2 * (z2 + 70001)).fmod 2147483489 = z3 := ⟨_, rfl⟩
          have f3 := fmod_in (z2 * (z2 + 70001)) (m := 2147483489) (by decide)
          rw [e3] at f3
          refine ⟨_, rfl, _, rfl, z3, z3, congrArg V.int e3, congrArg V.int e3, .inl ⟨by omega, by omega⟩, _, rfl, _, z3, rfl, congrArg V.int e3, .inl ⟨by decide, by decide⟩, _, _, rfl, rfl, .inl ⟨_, rfl, _, _, rfl, rfl, nz4, _, _, rfl, rfl, ⟨by decide, by decide⟩, .inl ⟨_, rfl, _, rfl, _, _, rfl, rfl, hmn, ?_⟩⟩⟩
          exact q _ _ (fm _).1 (fm _).2 ⟨ns, sp + 1, _, p2, c2, h3, by omega⟩ b2
        · refine ⟨_, rfl, .inl ⟨_, rfl, _, _, rfl, rfl, nz1, _, _, rfl, rfl, .inr ⟨by decide, by decide⟩, ?_⟩⟩
          obtain ⟨z1, e1⟩ : ∃ z1, (z.fmod 2147483423) * 40009 = z1 := ⟨_, rfl⟩
          refine ⟨_, rfl, _, rfl, _, _, rfl, rfl, .inl ⟨by decide, by decide⟩, _, rfl, _, _, rfl, rfl, .inr ⟨by omega, by omega⟩, z1, _, congrArg V.int e1, rfl, _, rfl, _, _, rfl, rfl, .inl ⟨by decide, by decide⟩, _, _, rfl, rfl, _, _, rfl, rfl, .inl ⟨_, rfl, _, _, rfl, rfl, nz2, ?_⟩⟩
          obtain ⟨z2, e2⟩ : ∃ z2, (z1 + 52361 * (sp : Int) * (sp : Int) + 97 * (sp : Int) + 29).fmod 2147483477 = z2 := ⟨_, rfl⟩
          have f2 := fmod_in (z1 + 52361 * (sp : Int) * (sp : Int) + 97 * (sp : Int) + 29) (m := 2147483477) (by decide)
          rw [e2] at f2
          refine ⟨_, rfl, _, rfl, z2, _, congrArg V.int e2, rfl, z2, _, congrArg V.int e2, rfl, .inl ⟨by omega, by omega⟩, .inl ⟨_, rfl, _, _, rfl, rfl, nz3, ?_⟩⟩
          obtain ⟨z3, e3⟩ : ∃ z3, (z2 * (z2 + 70001)).fmod 2147483489 = z3 := ⟨_, rfl⟩
          have f3 := fmod_in (z2 * (z2 + 70001)) (m := 2147483489) (by decide)
          rw [e3] at f3
          refine ⟨_, rfl, _, rfl, z3, z3, congrArg V.int e3, congrArg V.int e3, .inl ⟨by omega, by omega⟩, _, rfl, _, z3, rfl, congrArg V.int e3, .inl ⟨by decide, by decide⟩, _, _, rfl, rfl, .inl ⟨_, rfl, _, _, rfl, rfl, nz4, _, _, rfl, rfl, ⟨by decide, by decide⟩, .inl ⟨_, rfl, _, rfl, _, _, rfl, rfl, hmn, ?_⟩⟩⟩
          exact q _ _ (fm _).1 (fm _).2 ⟨ns, sp + 1, _, p2, c2, h3, by omega⟩ b2
      · obtain ⟨z, ez⟩ : ∃ z, 61 * (sp : Int) + 37 = z := ⟨_, rfl⟩
        refine st_is (σ' := [some (.ref d), some (.int m), none, some (.int (sp : Int)), some (.int z), none]) (by rw [← ez]; rfl) ?_
        refine ⟨_, rfl, _, rfl, d, _, rfl, gC p2, _, _, rfl, .inl (.inl (.inl c2)), _, _, rfl, rfl, _, rfl, ?_⟩
        refine ite2 (fun _ => ⟨_, rfl, _, _, rfl, rfl, ⟨by decide, by decide, by decide⟩, _, _, rfl, rfl, _, rfl, ite2 (fun _ => ?_) (fun _ => ?_)⟩) (fun _ => ?_)
        · refine ⟨_, rfl, _, _, rfl, rfl, ⟨by decide, by decide, by decide⟩, _, _, rfl, rfl, _, rfl, _, _, rfl, rfl, ⟨hmn, hma⟩, _, rfl, d, _, rfl, uR p2, ?_⟩
          refine ⟨_, rfl, _, _, rfl, rfl, ⟨by decide, by decide, by decide⟩, _, _, rfl, rfl, .inl ⟨_, rfl, _, rfl, _, _, rfl, rfl, hmn, ?_⟩⟩
          exact q _ _ (fm _).1 (fm _).2 ⟨ns, sp + 1, _, upd_same, by rw [upd_ne ncd]; exact c2, h3, by omega⟩ (b2.trans But.upd)
        · refine ⟨_, rfl, .inl ⟨_, rfl, _, _, rfl, rfl, nz1, _, _, rfl, rfl, .inr ⟨by decide, by decide⟩, ?_⟩⟩
          obtain ⟨z1, e1⟩ : ∃ z1, (z.fmod 2147483423) * 40009 = z1 := ⟨_, rfl⟩
          refine ⟨_, rfl, _, rfl, _, _, rfl, rfl, .inl ⟨by decide, by decide⟩, _, rfl, _, _, rfl, rfl, .inr ⟨by omega, by omega⟩, z1, _, congrArg V.int e1, rfl, _, rfl, _, _, rfl, rfl, .inl ⟨by decide, by decide⟩, _, _, rfl, rfl, _, _, rfl, rfl, .inl ⟨_, rfl, _, _, rfl, rfl, nz2, ?_⟩⟩
          obtain ⟨z2, e2⟩ : ∃ z2, (z1 + 52361 * (sp : Int) * (sp : Int) + 97 * (sp : Int) + 29).fmod 2147483477 = z2 := ⟨_, rfl⟩
          have f2 := fmod_in (z1 + 52361 * (sp : Int) * (sp : Int) + 97 * (sp : Int) + 29) (m := 2147483477) (by decide)
          rw [e2] at f2
          refine ⟨_, rfl, _, rfl, z2, _, congrArg V.int e2, rfl, z2, _, congrArg V.int e2, rfl, .inl ⟨by omega, by omega⟩, .inl ⟨_, rfl, _, _, rfl, rfl, nz3, ?_⟩⟩
          obtain ⟨z3, e3⟩ : ∃ z3, (z2 * (z2 + 70001)).fmod 2147483489 = z3 := ⟨_, rfl⟩
          have f3 := fmod_in (z2 * (z2 + 70001)) (m := 2147483489) (by decide)
          rw [e3] at f3
          refine ⟨_, rfl, _, rfl, z3, z3, congrArg V.int e3, congrArg V.int e3, .inl ⟨by omega, by omega⟩, _, rfl, _, z3, rfl, congrArg V.int e3, .inl ⟨by decide, by decide⟩, _, _, rfl, rfl, .inl ⟨_, rfl, _, _, rfl, rfl, nz4, _, _, rfl, rfl, ⟨by decide, by decide⟩, .inl ⟨_, rfl, _, rfl, _, _, rfl, rfl, hmn, ?_⟩⟩⟩
          exact q _ _ (fm _).1 (fm _).2 ⟨ns, sp + 1, _, p2, c2, h3, by omega⟩ b2
        · refine ⟨_, rfl, .inl ⟨_, rfl, _, _, rfl, rfl, nz1, _, _, rfl, rfl, .inr ⟨by decide, by decide⟩, ?_⟩⟩
          obtain ⟨z1, e1⟩ : ∃ z1, (z.fmod 2147483423) * 40009 = z1 := ⟨_, rfl⟩
          refine ⟨_, rfl, _, rfl, _, _, rfl, rfl, .inl ⟨by decide, by decide⟩, _, rfl, _, _, rfl, rfl, .inr ⟨by omega, by omega⟩, z1, _, congrArg V.int e1, rfl, _, rfl, _, _, rfl, rfl, .inl ⟨by decide, by decide⟩, _, _, rfl, rfl, _, _, rfl, rfl, .inl ⟨_, rfl, _, _, rfl, rfl, nz2, ?_⟩⟩
          obtain ⟨z2, e2⟩ : ∃ z2, (z1 + 52361 * (sp : Int) * (sp : Int) + 97 * (sp : Int) + 29).fmod 2147483477 = z2 := ⟨_, rfl⟩
          have f2 := fmod_in (z1 + 52361 * (sp : Int) * (sp : Int) + 97 * (sp : Int) + 29) (m := 2147483477) (by decide)
          rw [e2] at f2
          refine ⟨_, rfl, _, rfl, z2, _, congrArg V.int e2, rfl, z2, _, congrArg V.int e2, rfl, .inl ⟨by omega, by omega⟩, .inl ⟨_, rfl, _, _, rfl, rfl, nz3, ?_⟩⟩
          obtain ⟨z3, e3⟩ : ∃ z3, (z2 * (z2 + 70001)).fmod 2147483489 = z3 := ⟨_, rfl⟩
          have f3 := fmod_in (z2 * (z2 + 70001)) (m := 2147483489) (by decide)
          rw [e3] at f3
          refine ⟨_, rfl, _, rfl, z3, z3, congrArg V.int e3, congrArg V.int e3, .inl ⟨by omega, by omega⟩, _, rfl, _, z3, rfl, congrArg V.int e3, .inl ⟨by decide, by decide⟩, _, _, rfl, rfl, .inl ⟨_, rfl, _, _, rfl, rfl, nz4, _, _, rfl, rfl, ⟨by decide, by decide⟩, .inl ⟨_, rfl, _, rfl, _, _, rfl, rfl, hmn, ?_⟩⟩⟩
          exact q _ _ (fm _).1 (fm _).2 ⟨ns, sp + 1, _, p2, c2, h3, by omega⟩ b2

theorem lst_ne {H : Hp} {a d c : Addr} {xs : List V} {n : Nat} (h : H a = some (.lst xs)) (p : PenAt H d c n) : a ≠ d := by
  obtain ⟨ns, s, r, h1, _⟩ := p
  exact ne_of h h1 (fun z => by cases z)
theorem tup_ne {H : Hp} {a d c : Addr} {xs : List V} {n : Nat} (h : H a = some (.tup xs)) (p : PenAt H d c n) : a ≠ d := by
  obtain ⟨ns, s, r, h1, _⟩ := p
  exact ne_of h h1 (fun z => by cases z)
/-! ### _law_pick: slots pen 0, items 1 -/
def spPick : Sp := fun vs H Q _ => ∃ (d c : Addr) (n : Nat) (x : V), vs = [.ref d, x] ∧ PenAt H d c n ∧ n ≤ 1000000 ∧
  ((∃ (a : Addr) (xs : List V), x = .ref a ∧ H a = some (.lst xs) ∧ 0 < xs.length ∧ xs.length < 1000000 ∧ ∀ (v : V) (H' : Hp), v ∈ xs → PenAt H' d c (n + 1) → But d H H' → Q v H') ∨
   (∃ z : Str, x = .str z ∧ 0 < z.length ∧ z.length < 1000000 ∧ ∀ (y : Nat) (H' : Hp), y ∈ z.cps.toList → PenAt H' d c (n + 1) → But d H H' → Q (.str ⟨#[y]⟩) H'))
theorem scPick : FnScope ["_law_pen_here", "_law_items"] ["_law_pen_here", "_law_items"] (defScope sPick) := ⟨rfl, rfl, rfl, by decide +kernel, rfl, by decide +kernel, by decide +kernel⟩
theorem ok_pick {f fD : Addr} {fd fdD : FuncData} (F : Fun K "_law_pick" "_law_pick" sPick f fd) (GD : FnOk P w K mg base CX0 1 fD fdD ["_law_pen_here", "_law_many"] spDraw) (cD : Cd K mg "_law_draw" fD) (bD : Binds K fdD ["_law_pen_here", "_law_many"] [])
    (ml : mg "len" = none) : FnOk P w K mg base CX0 2 f fd ["_law_pen_here", "_law_items"] spPick := by
  refine F.ok scPick (fun vs H Q E h => ?_) (fun cdv A outer s H vs Q E hr h => ?_)
  · obtain ⟨d, c, n, x, rfl, _⟩ := h
    rfl
  · obtain ⟨d, c, n, x, rfl, p, hn, h⟩ := h
    refine ⟨_, pss_one (ps_ret (pe_ix ix_seq (pv 1) (pe_call GD hr rfl cD.mg cD.kp bD .nil pass0 (pa_cons (pv 0) (pa_cons (pe_callB call_len (by rfl) ml (by decide +kernel) (pa_cons (pv 1) pa_nil)) pa_nil))) (fun _ _ => rfl))), ?_⟩
    rcases h with ⟨a, xs, rfl, hx, h0, h1, q⟩ | ⟨z, rfl, h0, h1, q⟩
    · refine ⟨_, rfl, _, rfl, _, rfl, _, _, rfl, .inl ⟨_, .inl (.inl hx), rfl⟩, d, c, n, (xs.length : Int), rfl, p, hn, by omega, by omega, fun j H' hj0 hj1 p' b => ?_⟩
      have hx' := b a _ hx (lst_ne hx p)
      obtain ⟨k, rfl⟩ : ∃ k : Nat, j = (k : Int) := ⟨j.toNat, by omega⟩
      have hk : k < xs.length := by omega
      exact .inl ⟨a, xs, _, xs[k], rfl, rfl, .inl (.inl hx'), atI_nat (List.getElem?_eq_getElem hk), q _ _ (List.getElem_mem hk) p' b⟩
    · have hz : z.length ≤ sizeLine := by have := small1000 (n := 0) (by decide); rw [sizeLine_eq]; omega
      refine ⟨_, rfl, _, rfl, _, rfl, _, _, rfl, ⟨hz, rfl⟩, d, c, n, (z.length : Int), rfl, p, hn, by omega, by omega, fun j H' hj0 hj1 p' b => ?_⟩
      obtain ⟨k, rfl⟩ : ∃ k : Nat, j = (k : Int) := ⟨j.toNat, by omega⟩
      have hk : k < z.cps.toList.length := by rw [← TL.len_tl]; omega
      exact .inr (.inr ⟨z, _, z.cps.toList[k], rfl, rfl, hz, atI_nat (List.getElem?_eq_getElem hk), q _ _ (List.getElem_mem hk) p' b⟩)
/-! ### _law_words: slots pen 0, many 1, letters 2, k 3, stem 4, at 5, front 6, step 7, tail 8, found 9, word 10 -/
def spWords : Sp := fun vs H Q _ => ∃ (d c : Addr) (n m : Nat), vs = [.ref d, .int (m : Int)] ∧ PenAt H d c n ∧ n ≤ 900000 ∧ m ≤ 20 ∧
  ∀ (a : Addr) (ws : List (List Nat)) (H' : Hp), ws.length = m → (∀ x ∈ ws, isW x = true) → H' a = some (.lst (ws.map fun x => V.str (S x))) → H a = none → PenAt H' d c (n + 10) → But d H H' → Q (.ref a) H'
theorem scWords : FnScope ["_law_pen_here", "_law_many", "_law_letters", "_law_k", "_law_stem", "_law_at", "_law_front", "_law_step", "_law_tail", "_law_found", "_law_word"] ["_law_pen_here", "_law_many"] (defScope sWords) := ⟨rfl, rfl, rfl, by decide +kernel, rfl, by decide +kernel, by decide +kernel⟩
theorem ok_words {f fD fP : Addr} {fd fdD fdP : FuncData} (F : Fun K "_law_words" "_law_words" sWords f fd) (GD : FnOk P w K mg base CX0 1 fD fdD ["_law_pen_here", "_law_many"] spDraw) (cD : Cd K mg "_law_draw" fD) (bD : Binds K fdD ["_law_pen_here", "_law_many"] [])
    (GP : FnOk P w K mg base CX0 2 fP fdP ["_law_pen_here", "_law_items"] spPick) (cP : Cd K mg "_law_pick" fP) (bP : Binds K fdP ["_law_pen_here", "_law_items"] [])
    (ml : mg "len" = none) (mr : mg "range" = none) (mi : mg "int" = none) : FnOk P w K mg base CX0 3 f fd ["_law_pen_here", "_law_many"] spWords := by
  refine F.ok scWords (fun vs H Q E h => ?_) (fun cdv A outer s H vs Q E hr h => ?_)
  · obtain ⟨d, c, n, m, rfl, _⟩ := h
    rfl
  · obtain ⟨d, c, n, m, rfl, p, hn, hm, q⟩ := h
    have hr1 : Room 1 _ := hr.mono (by decide)
    refine ⟨_, pss_cons (ps_set (i := 2) scWords.nd rfl (Or.inr rfl) pe_str)
      (pss_cons (ps_set (i := 4) scWords.nd rfl (Or.inl rfl) (pe_join pe_str (pe_lc (own := [("_law_k", 3)]) (g := gName 3) (tt := tYes) rfl scWords.nd (pi_range1 (by rfl) mr (pa_cons (pe_call GD hr1 rfl cD.mg cD.kp bD .nil pass0 (pa_cons (pv 0) (pa_cons pe_int pa_nil))) pa_nil))
          (blkOk_by (own := [("_law_k", 3)]) (N := ["_law_pen_here", "_law_many", "_law_letters", "_law_k", "_law_stem", "_law_at", "_law_front", "_law_step", "_law_tail", "_law_found", "_law_word"]) (sc := defScope sWords) (by decide +kernel))
          (fun _ _ _ _ _ => pg_name (i := 3) scWords.nd rfl (Or.inl rfl)) (fun _ _ _ _ _ => pts_nil)
          (fun _ _ _ _ _ => pe_call GP hr rfl cP.mg cP.kp bP .nil pass0 (pa_cons (pv 0) (pa_cons (pv 2) pa_nil))))))
      (pss_cons (ps_par (by rfl) scWords.nd (i := 5) (j := 6) rfl rfl (by decide) rfl rfl (pa_cons (pe_call GD hr1 rfl cD.mg cD.kp bD .nil pass0 (pa_cons (pv 0) (pa_cons (pe_op op_add (pe_callB call_len_str (by rfl) ml (by decide +kernel) (pa_cons (pv 4) pa_nil)) pe_int) pa_nil)))
          (pa_cons (pe_call GD hr1 rfl cD.mg cD.kp bD .nil pass0 (pa_cons (pv 0) (pa_cons pe_int pa_nil))) pa_nil)) (by rfl))
      (pss_cons (ps_par (by rfl) scWords.nd (i := 7) (j := 8) rfl rfl (by decide) rfl rfl (pa_cons (pe_call GP hr rfl cP.mg cP.kp bP .nil pass0 (pa_cons (pv 0) (pa_cons (pe_lst (pa_cons pe_int (pa_cons pe_int (pa_cons pe_int (pa_cons pe_int (pa_cons pe_int (pa_cons pe_int (pa_cons pe_int (pa_cons pe_int pa_nil))))))))) pa_nil)))
          (pa_cons (pe_call GP hr rfl cP.mg cP.kp bP .nil pass0 (pa_cons (pv 0) (pa_cons (pe_lst (pa_cons pe_str (pa_cons pe_str (pa_cons pe_str (pa_cons pe_str pa_nil))))) pa_nil))) pa_nil)) (by rfl))
      (pss_cons (ps_set (i := 9) scWords.nd rfl (Or.inl rfl) (pe_lst pa_nil))
      (pss_cons (ps_for PassesOwn.never rfl (pi_range1 (by rfl) mr (pa_cons (pv 1) pa_nil)) (pg_name (i := 3) scWords.nd rfl (Or.inl rfl))
        (pss_cons (ps_set (i := 10) scWords.nd rfl (Or.inl rfl) (pe_op op_add_str (pe_op op_add_str (pe_slice sl_str (pv 4) po_none (po_some (pv 5)))
            (pe_ix ix_str (pv 2) (pe_op op_modN (pe_callTy call_int1 (by rfl) mi (by decide +kernel) (pa_cons (pe_op op_add (pv 6) (pe_op op_mul (pv 7) (pv 3))) pa_nil)) pe_int) (fun _ _ => rfl))) (pe_slice sl_str (pv 4) (po_some (pv 5)) po_none)))
        (pss_one (ps_expr (pe_bm PySem.F.plainAttrs_list PySem.F.slot_list_append PySem.F.type_list_append mt_append (pv 9)
          (pa_cons (pe_ifExp (pt_cmpR op_eq (pe_op op_modN (pe_callTy call_int1 (by rfl) mi (by decide +kernel) (pa_cons (pv 3) pa_nil)) pe_int) pe_int (nomark _)) (pe_op op_add_str (pv 10) (pv 8)) (pv 10)) pa_nil))))))
      (pss_one (ps_ret (pv 9)))))))), ?_⟩
    -- stem
    refine ⟨⟨_, rfl⟩, _, rfl, d, c, n, 6, rfl, p, by omega, by decide, by decide, fun j H1 hj0 hj1 p1 b1 => ?_⟩
    obtain ⟨jn, rfl⟩ : ∃ k : Nat, j = (k : Int) := ⟨j.toNat, by omega⟩
    refine ⟨(jn : Int), rfl, by omega, by omega, fun D hD => ?_⟩
    refine lc_range (lo := 0) (n := jn) (fun i H' => PenAt H' d c (n + 1 + i) ∧ But d H1 H' ∧ ∃ cs : List Nat, H' D = some (.lst (cs.map fun c => V.str (S [c]))) ∧ cs.length = i ∧ ∀ c ∈ cs, isL c = true)
      ⟨p1.keep (same_new hD), but_of (same_new hD), [], upd_same, rfl, fun c hc => by cases hc⟩ ?_ ?_
    · rintro i H' hi ⟨p2, b2, cs, hcs, hcl, hca⟩
      refine ⟨rfl, _, rfl, _, rfl, d, c, n + 1 + i, _, rfl, p2, by omega, .inr ⟨_, rfl, by decide +kernel, by decide +kernel, fun y H3 hy p3 b3 => ?_⟩⟩
      have hne : D ≠ d := lst_ne hcs p2
      have h3 := b3 D _ hcs hne
      have hDc : D ≠ c := fun z => p1.neC (by rw [← z]; exact hD)
      refine ⟨_, h3, by rw [List.length_map]; exact size_lt (by omega), ?_, ?_, cs ++ [y], ?_, ?_, ?_⟩
      · exact (p3.mono (by omega)).put hne hDc
      · exact (b2.trans b3).put hD
      · rw [upd_same, List.map_append]
        rfl
      · rw [List.length_append, hcl]
        rfl
      · exact all_snoc hca (letters_all y hy)
    · rintro H2 ⟨p2, b2, cs, hcs, hcl, hca⟩
      refine ⟨_, D, (cs.map fun c => [c]).map S, rfl, rfl, .inl (.inl (.inl (hcs.trans ?_))), ?_, ?_⟩
      · rw [map_one]
      · rw [sum_one, emp_S, len_S]
        show cs.length + _ * 0 ≤ _
        omega
      refine st_is (σ' := [some (.ref d), some (.int (m : Int)), some (.str (S lettersL)), none, some (.str (S cs)), none, none, none, none, none, none]) (by rw [emp_S, join_S0, flat_one, letters_S]; rfl) ?_
      have hb : But d H H2 := b1.trans b2
      have hcs5 : cs.length ≤ 5 := by omega
      clear hcs b1 b2 p1 hD
      -- at, front
      refine ⟨_, rfl, _, rfl, _, rfl, size_ok (by rw [len_S]; omega), _, _, rfl, rfl, d, c, n + 1 + jn, _, rfl, p2, by omega, by rw [len_S]; omega, by rw [len_S]; omega, fun a0 H3 ha0 ha1 p3 b3 => ?_⟩
      refine ⟨_, rfl, d, c, _, 26, rfl, p3, by omega, by decide, by decide, fun fr H4 hf0 hf1 p4 b4 => ⟨_, _, rfl, ?_⟩⟩
      obtain ⟨at_, rfl⟩ : ∃ k : Nat, a0 = (k : Int) := ⟨a0.toNat, by omega⟩
      rw [len_S] at ha1
      -- step, tail
      refine ⟨_, rfl, by show 8 ≤ sizeLine; decide, fun l nl => ?_⟩
      refine ⟨d, c, _, _, rfl, p4.keep (same_new nl), by omega, .inl ⟨l, _, rfl, upd_same, by show 0 < 8; decide, by show 8 < 1000000; decide, fun st H5 hst p5 b5 => ?_⟩⟩
      refine ⟨_, rfl, by show 4 ≤ sizeLine; decide, fun l2 nl2 => ?_⟩
      refine ⟨d, c, _, _, rfl, p5.keep (same_new nl2), by omega, .inl ⟨l2, _, rfl, upd_same, by show 0 < 4; decide, by show 4 < 1000000; decide, fun tv H6 htv p6 b6 => ⟨_, _, rfl, ?_⟩⟩⟩
      obtain ⟨sk, rfl, hk0, hk1⟩ : ∃ k : Int, st = .int k ∧ 0 ≤ k ∧ k ≤ 17 := by
        simp only [List.mem_cons, List.not_mem_nil, or_false] at hst
        rcases hst with rfl | rfl | rfl | rfl | rfl | rfl | rfl | rfl <;> exact ⟨_, rfl, by decide, by decide⟩
      obtain ⟨tl_, rfl, htl, hta⟩ : ∃ t : List Nat, tv = .str (S t) ∧ t.length ≤ 2 ∧ ∀ c ∈ t, isL c = true := by
        simp only [List.mem_cons, List.not_mem_nil, or_false] at htv
        rcases htv with rfl | rfl | rfl | rfl
        · exact ⟨[], congrArg V.str emp_S, by decide, by decide⟩
        · exact ⟨[], congrArg V.str emp_S, by decide, by decide⟩
        · exact ⟨[119], congrArg V.str (by decide +kernel), by decide, by decide⟩
        · exact ⟨[119, 119], congrArg V.str (by decide +kernel), by decide, by decide⟩
      have hb6 : But d H H6 := (((((hb.trans b3).trans b4).trans (but_of (same_new nl))).trans b5).trans (but_of (same_new nl2))).trans b6
      have p6' : PenAt H6 d c (n + 10) := p6.mono (by omega)
      clear b3 b4 b5 b6 p3 p4 p5 nl nl2 hb p2 hst htv p6
      -- found
      refine ⟨Nat.zero_le _, fun o no => ?_⟩
      have noH : H o = none := p.free p6' hb6 no
      have p7 : PenAt (upd H6 o (.lst [])) d c (n + 10) := p6'.keep (same_new no)
      have hod : o ≠ d := fun z => p6'.ne (by rw [← z]; exact no)
      have hoc : o ≠ c := fun z => p6'.neC (by rw [← z]; exact no)
      -- for
      refine ⟨_, rfl, m, rfl, by omega, by omega, for_range (n := m) (fun i σ H' => ∃ v3 v10 : Option V, σ = [some (.ref d), some (.int (m : Int)), some (.str (S lettersL)), v3, some (.str (S cs)), some (.int (at_ : Int)), some (.int fr), some (.int sk), some (.str (S tl_)), some (.ref o), v10] ∧
        PenAt H' d c (n + 10) ∧ But d H H' ∧ ∃ ws : List (List Nat), H' o = some (.lst (ws.map fun x => V.str (S x))) ∧ ws.length = i ∧ ∀ x ∈ ws, isW x = true)
        ⟨none, none, rfl, p7, hb6.put noH, [], upd_same, rfl, fun x hx => by cases hx⟩ ?_ ?_⟩
      · rintro i σ H' hi ⟨v3, v10, rfl, p8, b8, ws, hws, hwl, hwa⟩
        obtain ⟨j, ej⟩ : ∃ j : Nat, (fr + sk * (0 + (i : Int))).fmod 26 = (j : Int) := ⟨((fr + sk * (0 + (i : Int))).fmod 26).toNat, by have := fmod_in (fr + sk * (0 + (i : Int))) (m := 26) (by decide); omega⟩
        have hj : j < lettersL.length := by
          have := fmod_in (fr + sk * (0 + (i : Int))) (m := 26) (by decide)
          rw [letters_len]
          omega
        have hle : cs.length ≤ 5 := hcs5
        refine ⟨_, rfl, _, rfl, (at_ : Int), rfl, _, rfl, size_ok (by rw [len_S]; omega), _, rfl, _, rfl, _, rfl, _, rfl, _, _, rfl, rfl, .inl ⟨by omega, by omega⟩, _, _, rfl, rfl, .inl ⟨_, rfl, _, _, rfl, rfl, nz26, _, _, lettersL[j], rfl, rfl, size_ok (by rw [len_S, letters_len]; decide), at_ofN ej (List.getElem?_eq_getElem hj), ?_⟩⟩
        have e1 : cutS (S cs) none (some (at_ : Int)) = S (cs.take at_) := cutS_to cs at_
        have e2 : cutS (S cs) (some (at_ : Int)) none = S (cs.drop at_) := cutS_from cs at_
        have hlet : isL lettersL[j] = true := letters_all _ (List.getElem_mem hj)
        have hW : (cs.take at_ ++ lettersL[j] :: cs.drop at_).length = cs.length + 1 := by
          rw [List.length_append, List.length_cons, List.length_take, List.length_drop]
          omega
        have hWa : ∀ c ∈ cs.take at_ ++ lettersL[j] :: cs.drop at_, isL c = true := by
          intro c hc
          rcases List.mem_append.mp hc with h | h
          · exact hca c (List.mem_of_mem_take h)
          · rcases List.mem_cons.mp h with h | h
            · rw [h]
              exact hlet
            · exact hca c (List.mem_of_mem_drop h)
        generalize hWl : cs.take at_ ++ lettersL[j] :: cs.drop at_ = W at hW hWa
        refine ⟨_, _, rfl, rfl, ?_, _, rfl, _, rfl, (at_ : Int), rfl, _, rfl, size_ok (by rw [len_S]; omega), _, _, rfl, rfl, ?_, ?_⟩
        · rw [e1, len_S, List.length_take]
          exact size_ok (by show min at_ cs.length + 1 ≤ _; omega)
        · rw [e1, e2]
          have z2 : (S (cs.drop at_)).length = cs.length - at_ := by rw [len_S, List.length_drop]
          have z : (S (cs.take at_) ++ (⟨#[lettersL[j]]⟩ : Str)).length = (cs.take at_ ++ [lettersL[j]]).length := by
            rw [show (⟨#[lettersL[j]]⟩ : Str) = S [lettersL[j]] from rfl, S_cat, len_S]
          rw [z, z2, List.length_append, List.length_take, List.length_singleton]
          exact size_ok (by omega)
        refine st_is (σ' := [some (.ref d), some (.int (m : Int)), some (.str (S lettersL)), some (.int (0 + (i : Int))), some (.str (S cs)), some (.int (at_ : Int)), some (.int fr), some (.int sk), some (.str (S tl_)), some (.ref o), some (.str (S W))]) (by
          rw [e1, e2, show (⟨#[lettersL[j]]⟩ : Str) = S [lettersL[j]] from rfl, S_cat, S_cat, List.append_assoc, List.singleton_append, hWl]
          rfl) ?_
        have fin : ∀ x : List Nat, isW x = true → ∃ v3 v10 : Option V, [some (.ref d), some (.int (m : Int)), some (.str (S lettersL)), some (.int (0 + (i : Int))), some (.str (S cs)), some (.int (at_ : Int)), some (.int fr), some (.int sk), some (.str (S tl_)), some (.ref o), some (.str (S W))] = [some (.ref d), some (.int (m : Int)), some (.str (S lettersL)), v3, some (.str (S cs)), some (.int (at_ : Int)), some (.int fr), some (.int sk), some (.str (S tl_)), some (.ref o), v10] ∧
            PenAt (upd H' o (.lst ((ws.map fun x => V.str (S x)) ++ [.str (S x)]))) d c (n + 10) ∧ But d H (upd H' o (.lst ((ws.map fun x => V.str (S x)) ++ [.str (S x)]))) ∧
            ∃ ws' : List (List Nat), (upd H' o (.lst ((ws.map fun x => V.str (S x)) ++ [.str (S x)]))) o = some (.lst (ws'.map fun x => V.str (S x))) ∧ ws'.length = i + 1 ∧ ∀ x ∈ ws', isW x = true := fun x hx => by
          refine ⟨_, _, rfl, p8.put hod hoc, b8.put noH, ws ++ [x], ?_, ?_, ?_⟩
          · rw [upd_same, List.map_append]
            rfl
          · rw [List.length_append, hwl]
            rfl
          · intro y hy
            rcases List.mem_append.mp hy with h | h
            · exact hwa y h
            · rw [List.mem_singleton.mp h]
              exact hx
        -- found.append(..)
        refine ⟨_, rfl, .inl ⟨rfl, _, .inl (.inl hws)⟩, _, rfl, .inl ⟨_, rfl, _, _, rfl, rfl, nz3', rfl, _, rfl, ?_⟩⟩
        refine ite2 (fun _ => ?_) (fun _ => ?_)
        · refine ⟨_, rfl, _, rfl, _, _, rfl, rfl, size_ok (by rw [len_S, len_S]; omega), o, _, _, rfl, rfl, hws, size_lt (by rw [List.length_map]; omega), ?_⟩
          rw [S_cat]
          refine fin (W ++ tl_) (isW_iff.mpr ⟨by rw [List.length_append]; omega, by rw [List.length_append]; omega, fun c hc => ?_⟩)
          rcases List.mem_append.mp hc with h | h
          · exact hWa c h
          · exact hta c h
        · refine ⟨_, rfl, o, _, _, rfl, rfl, hws, size_lt (by rw [List.length_map]; omega), ?_⟩
          exact fin W (isW_iff.mpr ⟨by omega, by omega, hWa⟩)
      · rintro σ H' ⟨v3, v10, rfl, p8, b8, ws, hws, hwl, hwa⟩
        exact ⟨_, rfl, q o ws H' hwl hwa hws noH p8 b8⟩
end
end RL

/-! Written values: a literal's data, and lists of values of any kind. -/
namespace VA
open PySem L2 SX AddrMath
/-- what is new, or no object -/
def Fresh (H : Hp) (v : V) : Prop := ∀ a, v = .ref a → H a = none
theorem Fresh.back {H H' : Hp} {v : V} (s : Same H H') (f : Fresh H' v) : Fresh H v := fun a e => s.free (f a e)
/-- a literal: a new value of this data -/
def tLit (K : PySem.W.Frag) (d : PyData) : TE := fun σ H Q => ∀ v H', Dp K H' v d → Fresh H v → Same H H' → Q v H'
def tLits (K : PySem.W.Frag) (ds : List PyData) : TA := fun σ H Q => ∀ vs H', DpAll K H' vs ds → (∀ v ∈ vs, Fresh H v) → Same H H' → Q vs H'
/-- a new value of any kind -/
def tAny (K : PySem.W.Frag) : TE := fun σ H Q => ∀ v H' d, Vx K H' v d → Fresh H v → Same H H' → Q v H'
def tAnys (K : PySem.W.Frag) (n : Nat) : TA := fun σ H Q => ∀ vs H', (∀ v ∈ vs, Fresh H v ∧ ∃ d, Vx K H' v d) → vs.length = n → Same H H' → Q vs H'
def tAnyL (K : PySem.W.Frag) (n : Nat) : TE := fun σ H Q => ∀ p xs H', H' p = some (.lst xs) → (∀ v ∈ xs, Fresh H v ∧ ∃ d, Vx K H' v d) → xs.length = n → Same H H' → H p = none → Q (.ref p) H'
def tLitL (K : PySem.W.Frag) (ds : List PyData) : TE := fun σ H Q => ∀ p xs H', H' p = some (.lst xs) → DpAll K H' xs ds → (∀ v ∈ xs, Fresh H v) → Same H H' → H p = none → Q (.ref p) H'
section
variable {X : Cx} {K : PySem.W.Frag}
theorem lit_c {e : Expr} {v : V} {d : PyData} (h : PE X e (tC v)) (k : ∀ H, Dp K H v d) (nr : ∀ a, v ≠ .ref a) : PE X e (tLit K d) :=
  pe_by _ h fun σ H Q w => w v H (k H) (fun a e => absurd e (nr a)) (Same.refl H)
theorem lit_non {j : Nat} {pos : Pos} : PE X (.Constant .none j pos) (tLit K .none) := lit_c pe_non (fun _ => .non) (fun _ z => by cases z)
theorem lit_bl {b : Bool} {j : Nat} {pos : Pos} : PE X (.Constant (.bool b) j pos) (tLit K (.bool b)) := lit_c pe_bl (fun _ => .bl b) (fun _ z => by cases z)
theorem lit_int {i : Int} {j : Nat} {pos : Pos} : PE X (.Constant (.int i) j pos) (tLit K (.int i)) := lit_c pe_int (fun _ => .int i) (fun _ z => by cases z)
theorem lit_str {x : Str} {j : Nat} {pos : Pos} : PE X (.Constant (.str x) j pos) (tLit K (.str x)) := lit_c pe_str (fun _ => .str x) (fun _ z => by cases z)
theorem lit_neg {i : Int} {j : Nat} {pos p2 : Pos} : PE X (.UnaryOp .USub (.Constant (.int i) j p2) pos) (tLit K (.int (-i))) :=
  pe_by _ (pe_un un_neg pe_int) fun σ H Q w => ⟨i, rfl, w _ H (.int _) (fun a e => by cases e) (Same.refl H)⟩
theorem lit_pow {a b : Int} {j j2 : Nat} {pos p2 p3 : Pos} (hb : 0 ≤ b ∧ b ≤ 1000000 ∧ a.natAbs < 2 ^ 64) : PE X (.BinOp (.Constant (.int a) j p2) .Pow (.Constant (.int b) j2 p3) pos) (tLit K (.int (a ^ b.toNat))) :=
  pe_by _ (pe_op op_pow pe_int pe_int) fun σ H Q w => ⟨a, b, rfl, rfl, hb, w _ H (.int _) (fun a e => by cases e) (Same.refl H)⟩
theorem lits_nil : PA X [] (tLits K []) := ⟨fun cp pn s σ H Q J w => pa_nil.run cp pn s σ H Q J (w [] H .nil (fun v hv => by cases hv) (Same.refl H))⟩
theorem pa_by {es : List Expr} {t : TA} (t' : TA) (h : PA X es t) (k : ∀ σ H Q, t' σ H Q → t σ H Q) : PA X es t' := ⟨fun cp pn s σ H Q J w => h.run cp pn s σ H Q J (k σ H Q w)⟩
theorem lits_cons {e : Expr} {es : List Expr} {d : PyData} {ds : List PyData} (h : PE X e (tLit K d)) (t : PA X es (tLits K ds)) (hs : starEach (e :: es) X.env = (false, eval e X.env) :: starEach es X.env := by rfl) : PA X (e :: es) (tLits K (d :: ds)) :=
  pa_by _ (pa_cons h t hs) fun σ H Q w v H1 hv fv s1 vs H2 hvs fvs s2 => w (v :: vs) H2 (.cons (dp_same s2 hv) hvs) (fun u hu => by
    rcases List.mem_cons.mp hu with e | e
    · rw [e]
      exact fv
    · exact (fvs u e).back s1) (s1.trans s2)
theorem lit_tup {x1} {es : List Expr} {ds : List PyData} {pos : Pos} (t : PA X es (tLits K ds)) (few : ds.length ≤ 1000) : PE X (.Tuple es x1 pos) (tLit K (.tuple ds)) :=
  pe_by _ (pe_tup t) fun σ H Q w vs H1 hv fv s1 => ⟨Nat.le_of_lt (small1000 (by rw [dps_len hv]; exact few)), fun p np => w (.ref p) _ (.tup (.inl (.inl upd_same)) (dps_same (same_new np) hv)) (fun a e => by cases e; exact s1.free np) (s1.trans (same_new np))⟩
theorem litL {es : List Expr} {ds : List PyData} {pos : Pos} (t : PA X es (tLits K ds)) (few : ds.length ≤ 1000) : PE X (.List es pos) (tLitL K ds) :=
  pe_by _ (pe_lst t) fun σ H Q w vs H1 hv fv s1 => ⟨Nat.le_of_lt (small1000 (by rw [dps_len hv]; exact few)), fun p np => w p vs _ upd_same (dps_same (same_new np) hv) fv (s1.trans (same_new np)) (s1.free np)⟩
theorem lit_lst {es : List Expr} {ds : List PyData} {pos : Pos} (t : PA X es (tLits K ds)) (few : ds.length ≤ 1000) : PE X (.List es pos) (tLit K (.list ds)) :=
  pe_by _ (litL t few) fun σ H Q w p xs H' hp hx fx s np => w (.ref p) H' (.lst (.inl (.inl hp)) hx) (fun a e => by cases e; exact np) s
theorem any_lit {e : Expr} {d : PyData} (h : PE X e (tLit K d)) (ok : okD 8 d = true) : PE X e (tAny K) := pe_by _ h fun σ H Q w v H' hv fv s => w v H' d (.inl ⟨hv, ok⟩) fv s
theorem any_dict {e : Expr} (h : PE X e tDNewK) : PE X e (tAny K) := pe_by _ h fun σ H Q w p np => w (.ref p) _ (.dict []) (.inr ⟨p, _, rfl, upd_same, rfl⟩) (fun a e => by cases e; exact np) (same_new np)
theorem any_disp {keys : List (Option Expr)} {values : List Expr} {pos : Pos} {x : Str} {i : Int} (h : PE X (.Dict keys values pos) (tDisp [(tC (.str x), tC (.int i))])) : PE X (.Dict keys values pos) (tAny K) :=
  pe_by _ h fun σ H Q w p np => ⟨upd_same, [(Sum.inr x, .int i)], rfl, by show 1 ≤ 15; decide, w (.ref p) _ (.dict []) (.inr ⟨p, _, rfl, upd_same, rfl⟩) (fun a e => by cases e; exact np) fun b o e => by
    rw [upd_ne (ne_of_none e np), upd_ne (ne_of_none e np)]
    exact e⟩
theorem anys_nil : PA X [] (tAnys K 0) := ⟨fun cp pn s σ H Q J w => pa_nil.run cp pn s σ H Q J (w [] H (fun v hv => by cases hv) rfl (Same.refl H))⟩
theorem anys_cons {e : Expr} {es : List Expr} {n : Nat} (h : PE X e (tAny K)) (t : PA X es (tAnys K n)) (hs : starEach (e :: es) X.env = (false, eval e X.env) :: starEach es X.env := by rfl) : PA X (e :: es) (tAnys K (n + 1)) :=
  pa_by _ (pa_cons h t hs) fun σ H Q w v H1 d hv fv s1 vs H2 hvs hl s2 => w (v :: vs) H2 (fun u hu => by
    rcases List.mem_cons.mp hu with e | e
    · rw [e]
      exact ⟨fv, d, hv.same s2⟩
    · obtain ⟨a, b⟩ := hvs u e
      exact ⟨a.back s1, b⟩) (by rw [List.length_cons, hl]) (s1.trans s2)
theorem anyL {es : List Expr} {n : Nat} {pos : Pos} (t : PA X es (tAnys K n)) (few : n ≤ 1000) : PE X (.List es pos) (tAnyL K n) :=
  pe_by _ (pe_lst t) fun σ H Q w vs H1 hv hl s1 => ⟨Nat.le_of_lt (small1000 (by rw [hl]; exact few)), fun p np => w p vs _ upd_same (fun u hu => by
    obtain ⟨a, d, b⟩ := hv u hu
    exact ⟨a, d, b.same (same_new np)⟩) hl (s1.trans (same_new np)) (s1.free np)⟩
end
/-- data, or a dict that is not the pen -/
def Vy (K : PySem.W.Frag) (H : Hp) (d : Addr) (v : V) : Prop := (∃ x, Dp K H v x ∧ okD 8 x = true) ∨ ∃ a kvs, v = .ref a ∧ a ≠ d ∧ H a = some (.dK kvs)
theorem Vy.vx {K : PySem.W.Frag} {H : Hp} {d : Addr} {v : V} (h : Vy K H d v) : ∃ x, Vx K H v x := by
  rcases h with ⟨x, h⟩ | ⟨a, kvs, e, _, h⟩
  · exact ⟨x, .inl h⟩
  · exact ⟨.dict [], .inr ⟨a, kvs, e, h, rfl⟩⟩
theorem pen_kp {H H' : Hp} {d c : Addr} {n : Nat} (p : PenAt H d c n) (b : But d H H') : Kp H H' := by
  obtain ⟨ns, s, r, h1, _⟩ := p
  exact kp_but h1 rfl b
theorem Vy.but {K : PySem.W.Frag} {H H' : Hp} {d c : Addr} {n : Nat} {v : V} (h : Vy K H d v) (p : PenAt H d c n) (b : But d H H') : Vy K H' d v := by
  rcases h with ⟨x, h, o⟩ | ⟨a, kvs, e, ne, h⟩
  · exact .inl ⟨x, dp_kp (pen_kp p b) h, o⟩
  · exact .inr ⟨a, kvs, e, ne, b _ _ h ne⟩
theorem Vy.same {K : PySem.W.Frag} {H H' : Hp} {d : Addr} {v : V} (h : Vy K H d v) (s : Same H H') : Vy K H' d v := by
  rcases h with ⟨x, h, o⟩ | ⟨a, kvs, e, ne, h⟩
  · exact .inl ⟨x, dp_same s h, o⟩
  · exact .inr ⟨a, kvs, e, ne, s _ _ h⟩
theorem vy_of {K : PySem.W.Frag} {H G : Hp} {d : Addr} {v : V} (f : Fresh G v) (nd : G d ≠ none) (h : ∃ x, Vx K H v x) : Vy K H d v := by
  obtain ⟨x, h | ⟨a, kvs, e, h, _⟩⟩ := h
  · exact .inl ⟨x, h⟩
  · exact .inr ⟨a, kvs, e, fun z => nd (f d (by rw [e, z])), h⟩
end VA

/-! Comprehensions over a text; a list that is compared with the empty one. -/
namespace VA
open PySem L2 SX AddrMath
/-- a comprehension over the signs of a text -/
theorem lc_signs {l : List Nat} {g : TG} {tt : TT} {te : TE} {vs : List Nat} {σ : L2.St} {H1 : Hp} {D : Addr} {Qd : Hp → Prop} (Pv : Nat → Hp → Prop) (h0 : Pv 0 (upd H1 D (.lst [])))
    (turn : ∀ i c H, l[i]? = some c → Pv i H → g (.str (S [c])) (wipe σ vs) H fun σ2 H2 => wipe σ2 vs = wipe σ vs ∧ tt σ2 H2 fun b H3 =>
      if b = true then te σ2 H3 fun y H4 => ∃ acc, H4 D = some (.lst acc) ∧ acc.length < sizeLine ∧ Pv (i + 1) (upd H4 D (.lst (acc ++ [y]))) else Pv (i + 1) H3) (done : ∀ H, Pv l.length H → Qd H) :
    ∃ W : Nat → Nat → Hp → Prop, (∃ m, W 0 m (upd H1 D (.lst []))) ∧ ∀ i m H, W i m H →
      ((Its (S l)).stop i H ∧ Qd H) ∨ ((Its (S l)).go i H ∧ ∃ Nx : Hp → Prop, (∀ H', Nx H' → ∃ m', m' < m ∧ W (i + 1) m' H') ∧ ∀ x H', (Its (S l)).yld i H x H' → g x (wipe σ vs) H' fun σ2 H2 => wipe σ2 vs = wipe σ vs ∧ tt σ2 H2 fun b H3 =>
        if b = true then te σ2 H3 fun y H4 => ∃ acc, H4 D = some (.lst acc) ∧ acc.length < sizeLine ∧ Nx (upd H4 D (.lst (acc ++ [y]))) else Nx H3) := by
  have sz : (S l).cps.size = l.length := by simp [S]
  refine ⟨fun i m H => m = l.length - i ∧ i ≤ l.length ∧ Pv i H, ⟨_, rfl, Nat.zero_le _, h0⟩, fun i m H hW => ?_⟩
  obtain ⟨rfl, hi, p⟩ := hW
  rcases Nat.lt_or_ge i l.length with hlt | hge
  · refine .inr ⟨by show i < (S l).cps.size; rw [sz]; exact hlt, Pv (i + 1), fun H' p' => ⟨l.length - (i + 1), by omega, rfl, hlt, p'⟩, fun x H' y => ?_⟩
    obtain ⟨rfl, c, hc, rfl⟩ := y
    refine turn i c H' ?_ p
    simpa [S] using hc
  · have e : i = l.length := by omega
    subst e
    exact .inl ⟨by show (S l).cps.size ≤ _; rw [sz]; exact Nat.le_refl _, done H p⟩
theorem letters_in : ∀ k : Nat, k < 26 → 97 + k ∈ lettersL := by decide +kernel
theorem letters_iff (c : Nat) : c ∈ lettersL ↔ isL c = true := by
  constructor
  · exact letters_all c
  · intro h
    unfold isL at h
    rw [Bool.and_eq_true, decide_eq_true_eq, decide_eq_true_eq] at h
    have z := letters_in (c - 97) (by omega)
    rw [show 97 + (c - 97) = c by omega] at z
    exact z

theorem eqv_nil (ds : List PyData) : PyData.eqv (.list ds) (.list []) = ds.isEmpty := by
  cases ds <;> rfl
/-- xs == [], the list xs just made -/
theorem eq_nil {K : PySem.W.Frag} {σ : L2.St} {H : Hp} {D : Addr} {xs : List V} {ds : List PyData} {Q : VK} (hD : H D = some (.lst xs)) (hd : DpAll K H xs ds) (few : ds.length ≤ 1000) (ok : ∀ d ∈ ds, okD 7 d = true) (q : ∀ H', Same H H' → Q (.bl ds.isEmpty) H') :
    tLst tNil σ H fun y H2 => rEqD K (.ref D) y H2 Q := by
  refine ⟨Nat.zero_le _, fun e ne => ?_⟩
  have s := same_new (o := .lst []) ne
  refine ⟨.list ds, .list [], .lst (.inl (.inl (s _ _ hD))) (dps_same s hd), .lst (.inl (.inl upd_same)) .nil, ok_shaped (ok_seq few ok).1 (by decide), by decide +kernel, ?_⟩
  rw [eqv_nil]
  exact q _ s
/-- the items that pass, as data -/
theorem dps_filter {K : PySem.W.Frag} {H : Hp} (p : V → Bool) (f : PyData → Bool) : ∀ {ds : List PyData} {xs : List V}, DpAll K H xs ds → (∀ x d, x ∈ xs → d ∈ ds → Dp K H x d → p x = f d) → DpAll K H (xs.filter p) (ds.filter f)
  | [], _, h, _ => by cases h; exact .nil
  | d :: ds, _, h, hp => by
    cases h with
    | @cons x xs _ _ h1 h2 =>
      have e := hp x d (List.mem_cons_self ..) (List.mem_cons_self ..) h1
      have ih := dps_filter p f h2 fun y c hy hc => hp y c (List.mem_cons_of_mem _ hy) (List.mem_cons_of_mem _ hc)
      cases q : f d with
      | true =>
        rw [List.filter_cons_of_pos (by rw [e]; exact q), List.filter_cons_of_pos q]
        exact .cons h1 ih
      | false =>
        rw [List.filter_cons_of_neg (by rw [e, q]; exact Bool.false_ne_true), List.filter_cons_of_neg (by rw [q]; exact Bool.false_ne_true)]
        exact ih
theorem filter_empty {α : Type} (f : α → Bool) (xs : List α) : (xs.filter f).isEmpty = xs.all fun x => !f x := by
  induction xs with
  | nil => rfl
  | cons x xs ih =>
    cases h : f x with
    | true =>
      rw [List.filter_cons_of_pos h, List.all_cons, h]
      rfl
    | false =>
      rw [List.filter_cons_of_neg (by rw [h]; exact Bool.false_ne_true), List.all_cons, h, ih]
      rfl
theorem map_same {α : Type} (xs : List α) : (xs.map fun x => x) = xs := by
  induction xs with
  | nil => rfl
  | cons x xs ih => rw [List.map_cons, ih]
end VA

namespace RL
open PySem L2 SX AddrMath VA
abbrev nState : Str := "_state"
abbrev nKey : Str := "_key"
abbrev nField : Str := "field"
abbrev nValue : Str := "value"
theorem ent_ok7 {d : PyData} (e : isEntD d = true) : okD 7 d = true := by
  cases d with
  | int i => rw [okD]
  | str z =>
    have hz : isW z.cps.toList = true := by
      unfold isEntD at e
      rw [show isHoleD (.str z) = false from rfl, Bool.or_false] at e
      exact e
    have hl := word_len hz
    rw [okD, Bool.and_eq_true, decide_eq_true_eq]
    refine ⟨by omega, ?_⟩
    unfold PyData.strOk
    rw [← Array.all_toList, List.all_eq_true]
    intro c hc
    have := (isW_iff.mp hz).2.2 c hc
    unfold isL at this
    rw [Bool.and_eq_true, decide_eq_true_eq, decide_eq_true_eq] at this
    exact decide_eq_true (by omega)
  | _ => cases e
end RL

namespace RL
open PySem L2 SX AddrMath VA PySem.W GR
/-! ## addresses: of a word and a list of words -/
abbrev nPath : Str := "_path"
def aF1 (z : Str) : List (Str × V) := putF nState (.str z) []
def aF2 (z : Str) (t : Addr) : List (Str × V) := putF nPath (.ref t) (aF1 z)
def aF (z : Str) (t k : Addr) : List (Str × V) := putF nKey (.ref k) (aF2 z t)
theorem an_sp : ¬ (nState : Str) = nPath := by decide
theorem an_sk : ¬ (nState : Str) = nKey := by decide
theorem an_pk : ¬ (nPath : Str) = nKey := by decide
theorem aF2_state (z : Str) (t : Addr) : (aF2 z t).lookup nState = some (.str z) := by
  unfold aF2 aF1
  rw [lookup_putF, if_neg an_sp, lookup_putF, if_pos rfl]
theorem aF2_path (z : Str) (t : Addr) : (aF2 z t).lookup nPath = some (.ref t) := by
  unfold aF2
  rw [lookup_putF, if_pos rfl]
theorem aF_state (z : Str) (t k : Addr) : (aF z t k).lookup nState = some (.str z) := by
  unfold aF
  rw [lookup_putF, if_neg an_sk, aF2_state]
theorem aF_path (z : Str) (t k : Addr) : (aF z t k).lookup nPath = some (.ref t) := by
  unfold aF
  rw [lookup_putF, if_neg an_pk, aF2_path]
theorem aF_key (z : Str) (t k : Addr) : (aF z t k).lookup nKey = some (.ref k) := by
  unfold aF
  rw [lookup_putF, if_pos rfl]
theorem aF_no (z : Str) (t k : Addr) {m : Str} (h1 : ¬ m = nState) (h2 : ¬ m = nPath) (h3 : ¬ m = nKey) : (aF z t k).lookup m = none := by
  unfold aF aF2 aF1
  rw [lookup_putF, if_neg h3, lookup_putF, if_neg h2, lookup_putF, if_neg h1]
  rfl
theorem aF1_len (z : Str) : (aF1 z).length < 1000 := by
  show (1 : Nat) < 1000
  decide
theorem aF2_eq (z : Str) (t : Addr) : aF2 z t = ([(nState, V.str z), (nPath, V.ref t)] : List (Str × V)) := by
  show (if (nState : Str) = nPath then [(nState, V.ref t)] else (nState, V.str z) :: putF nPath (V.ref t) []) = _
  rw [if_neg an_sp]
  rfl
theorem aF2_len (z : Str) (t : Addr) : (aF2 z t).length < 1000 := by
  rw [aF2_eq]
  show (2 : Nat) < 1000
  decide
/-- texts as values -/
abbrev tV (ss : List Str) : List V := ss.map V.str
/-- an address stands at a, its path's tuple at t -/
def AddrT (K : PySem.W.Frag) (C : Addr) (H : Hp) (a t : Addr) (z : Str) (ss : List Str) : Prop := ∃ dx k, H a = some (.ins C dx (aF z t k)) ∧ SqT K H t (tV ss) ∧ SqT K H k [.int ss.length, .str z, .ref t]
structure ATxt (K : PySem.W.Frag) (mg : Str → Option Value) (C : Addr) : Prop where
  cl : Cls K C
  nS : NoAttr K C nState
  nP : NoAttr K C nPath
  nK : NoAttr K C nKey
  mgC : mg "Address" = some (.ref C)
theorem AddrT.same {K : PySem.W.Frag} {C : Addr} {H H' : Hp} {a t : Addr} {z : Str} {ss : List Str} (h : AddrT K C H a t z ss) (s : Same H H') : AddrT K C H' a t z ss := by
  obtain ⟨dx, k, h1, h2, h3⟩ := h
  exact ⟨dx, k, s _ _ h1, same_seqT s h2, same_seqT s h3⟩
def wrd (z : Str) : Bool := isW z.cps.toList
section
variable {P : Program} {w : World} {K : PySem.W.Frag} {mg : Str → Option Value} {base : Heap}
theorem str_vx {H : Hp} {z : Str} (h : wrd z = true) : Vx K H (.str z) (.str z) := .inl ⟨.str z, by
  have := ent_ok7 (d := .str z) (by show (isW z.cps.toList || false) = true; rw [show isW z.cps.toList = true from h]; rfl)
  exact ok_mono (by decide) this⟩
/-! ### are_words, of a list: slots value 0, item 1 -/
abbrev sAreWords : Stmt := top 7
def spAreWords (K : PySem.W.Frag) : Sp := fun vs H Q _ => ∃ (a : Addr) (ss : List Str), vs = [.ref a] ∧ SqA K H a (tV ss) ∧ ss.length ≤ 1000 ∧ ss.all wrd = true ∧ ∀ H', Same H H' → Q (.bl true) H'
theorem scAreWords : FnScope ["value", "item"] ["value"] (defScope sAreWords) := ⟨rfl, rfl, rfl, by decide +kernel, rfl, by decide +kernel, by decide +kernel⟩
theorem tv_dp {H : Hp} : ∀ ss : List Str, DpAll K H (tV ss) (ss.map PyData.str)
  | [] => .nil
  | z :: r => .cons (.str z) (tv_dp r)
theorem ok_arewords {f : Addr} {fd : FuncData} (F : Fun K "are_words" "are_words" sAreWords f fd) (B : Blt mg) (is_word : Own P w K mg base CX0 1 "is_word" ["value"] (spIsWord K)) :
    FnOk P w K mg base CX0 2 f fd ["value"] (spAreWords K) := by
  refine F.ok scAreWords (fun vs H Q E h => ?_) (fun cdv A outer s H vs Q E hr h => ?_)
  · obtain ⟨a, ss, rfl, _⟩ := h
    rfl
  · obtain ⟨a, ss, rfl, ha, few, hw, q⟩ := h
    refine ⟨_, (pss_one (ps_ret (pe_and (pe_callB call_isiT (by rfl) B.isinstance_ (by decide +kernel) (pa_cons (pv 0) (pa_cons (pe_tup (pa_cons (pe_bltn (v := .ty "list") (by rfl) B.list_ (by decide +kernel) rfl) (pa_cons (pe_bltn (v := .ty "tuple") (by rfl) B.tuple_ (by decide +kernel) rfl) pa_nil))) pa_nil))) (pe_one (pe_callB (cr_all rfl) (by rfl) B.all_ (by decide +kernel) (pa_cons (pe_lc (own := [("item", 1)]) (g := gName 1) (tt := tYes) rfl scAreWords.nd (pi_seq (pv 0))
          (blkOk_by (own := [("item", 1)]) (N := ["value", "item"]) (sc := defScope sAreWords) (by decide +kernel))
          (fun _ _ _ _ _ => (pg_name (i := 1) scAreWords.nd rfl (Or.inl rfl))) (fun _ _ _ _ _ => pts_nil)
          (fun _ _ _ _ _ => (pe_call is_word.g (hr.mono (by decide)) rfl is_word.mg is_word.kp is_word.b .nil pass0 (pa_cons (pv 1) pa_nil)))) pa_nil)))))), ?_⟩
    refine ⟨_, rfl, by show 2 ≤ sizeLine; decide, fun t nt => ?_⟩
    have s1 : Same H (upd H t (.tup [.ty "list", .ty "tuple"])) := same_new nt
    have ty : ∃ (T : String), TyX K (upd H t (.tup [.ty "list", .ty "tuple"])) (.ref a) (.type T) ∧ PySem.W.kitAny K (.type T) [.type "list", .type "tuple"] = some true := by
      rcases ha with h | h
      · exact ⟨"list", sql_ty (s1.seq h), kitSeq (.list [])⟩
      · exact ⟨"tuple", sqt_ty (same_seqT s1 h), kitSeq (.tuple [])⟩
    obtain ⟨T, t1, t2⟩ := ty
    refine ⟨_, t, _, _, [.type "list", .type "tuple"], true, rfl, upd_same, .cons (.ty "list") (.cons (.ty "tuple") .nil), t1, t2, _, rfl, ?_⟩
    generalize upd H t (.tup [.ty "list", .ty "tuple"]) = H1 at s1 ⊢
    refine iteT ⟨_, rfl, ?_⟩
    refine seq_map (ha.same s1) (by rw [List.length_map]; exact few) (fun _ => true) (fun x => .bl true) ?hw (fun x hm H2 s2 => ⟨fun R hR => no_test hR, fun _ H3 s3 R hR => ?_⟩) fun D H2 nD hD s2 => ?_
    case hw => intro _; rfl
    · obtain ⟨z, hz, rfl⟩ := List.mem_map.mp hm
      have hz' : isWordD (.str z) = true := List.all_eq_true.mp hw z hz
      have q3 := hR H3 (Same.refl H3)
      refine ⟨_, rfl, .str z, .str z, rfl, str_vx (List.all_eq_true.mp hw z hz), ?_⟩
      rw [hz']
      exact q3
    · refine ⟨D, (((tV ss).filter fun _ => true).map fun _ => true), rfl, .inl (.inl ?_), ?_⟩
      · rw [hD, List.map_map]
        rfl
      · have : (((tV ss).filter fun _ => true).map fun _ => true).all id = true := by simp
        rw [this]
        exact q _ (s1.trans s2)
/-! ### Address.__init__, of a word and a list of words: slots self 0, state 1, path 2 -/
abbrev sAInit : Stmt := inClass (top 12) 0
abbrev sAState : Stmt := inClass (top 12) 1
abbrev sAPath : Stmt := inClass (top 12) 2
abbrev sAEq : Stmt := inClass (top 12) 8
def spAInit (K : PySem.W.Frag) (C : Addr) : Sp := fun vs H Q _ => ∃ (p dx a : Addr) (z : Str) (ss : List Str), vs = [.ref p, .str z, .ref a] ∧ H p = some (.ins C dx []) ∧ wrd z = true ∧ SqA K H a (tV ss) ∧ ss.length ≤ 1000 ∧ ss.all wrd = true ∧
  ∀ (H' : Hp) (t : Addr), AddrT K C H' p t z ss → (∀ b o, H b = some o → b ≠ p → H' b = some o) → Q .non H'
theorem scAInit : FnScope ["self", "state", "path"] ["self", "state", "path"] (defScope sAInit) := ⟨rfl, rfl, rfl, by decide +kernel, rfl, by decide +kernel, by decide +kernel⟩
/-- a def with defaults, from which nothing gets out -/
theorem def_calm {x qual : Str} {params : Arguments} {body : List Stmt} {scope : Scope} {dvs : List V} {kws : List (Str × V)} {f : Addr} {fd : FuncData}
    {N ps : List Str} {k : Nat} {sp : Sp} (F : FunD K x qual params body scope dvs kws f fd) (S : FnScope N ps scope) (len : ∀ vs H Q E, sp vs H Q E → vs.length = ps.length)
    (go : ∀ (cdv : Value) (A : Around) (outer : List Env) (s : Shared) (H : Hp) (vs : List V) (Q : VK) (E : XK), Room k (A.deeper (PyProof.Rows.envOfC qual scope s.heap.objs.size f cdv)) → sp vs H Q E →
      ∃ t, PSs (cxOf CX0 P w K mg base N qual scope f cdv A outer s H E).nox body t ∧ t { nx := fun _ H' => Q .non H', rt := Q } (L2.start N vs) H) : FnOk P w K mg base CX0 (k + 1) f fd ps sp :=
  F.ok S len fun cdv A outer s H vs Q E hr h =>
    let ⟨t, a, b⟩ := go cdv A outer s H vs Q E hr h
    ⟨t, a.nox, b⟩
theorem ok_ainit {f C : Addr} {fd : FuncData} {dvs : List V} {kws : List (Str × V)} (F : FunD K "__init__" "Address.__init__" (defArgs sAInit) (defBody sAInit) (defScope sAInit) dvs kws f fd) (T : ATxt K mg C) (B : Blt mg)
    (is_word : Own P w K mg base CX0 1 "is_word" ["value"] (spIsWord K)) (are_words : Own P w K mg base CX0 2 "are_words" ["value"] (spAreWords K)) : FnOk P w K mg base CX0 3 f fd ["self", "state", "path"] (spAInit K C) := by
  refine def_calm F scAInit (fun vs H Q E h => ?_) (fun cdv A outer s0 H vs Q E hr h => ?_)
  · obtain ⟨p, dx, a, z, ss, rfl, _⟩ := h
    rfl
  · obtain ⟨p, dx, a, z, ss, rfl, hp, hz, ha, few, hw, q⟩ := h
    refine ⟨_, pss_cons (ps_if (pt_not (pt_val (pe_call is_word.g (hr.mono (by decide)) rfl is_word.mg is_word.kp is_word.b .nil pass0 (pa_cons (pv 1) pa_nil)))) (pss_one ps_never) pss_nil)
      (pss_cons (ps_if (pt_not (pt_val (pe_call are_words.g hr rfl are_words.mg are_words.kp are_words.b .nil pass0 (pa_cons (pv 2) pa_nil)))) (pss_one ps_never) pss_nil)
      (pss_cons (ps_fld (pv 0) (pv 1) rfl)
      (pss_cons (ps_fld (pv 0) (pe_callTy call_tupA (by rfl) B.tuple_ (by decide +kernel) (pa_cons (pv 2) pa_nil)) rfl)
      (pss_one (ps_fld (pv 0) (pe_tup (pa_cons (pe_callB call_len (by rfl) B.len_ (by decide +kernel) (pa_cons (pe_fld (pv 0) rfl) pa_nil)) (pa_cons (pe_fld (pv 0) rfl) (pa_cons (pe_fld (pv 0) rfl) pa_nil)))) rfl))))), ?_⟩
    have hz' : isWordD (.str z) = true := hz
    refine ⟨_, rfl, .str z, .str z, rfl, str_vx hz, _, rfl, ?_⟩
    rw [hz']
    refine iteF ⟨_, rfl, a, ss, rfl, ha, few, hw, fun H1 s1 => ⟨_, rfl, iteF ?_⟩⟩
    have hp1 := s1 _ _ hp
    refine ⟨_, rfl, _, rfl, p, C, dx, _, rfl, hp1, T.cl, T.nS, (by show 0 < 1000; decide), ?_⟩
    have kp : Kp H1 (upd H1 p (.ins C dx (putF nState (.str z) []))) := kp_put hp1 rfl
    have hpu : (upd H1 p (.ins C dx (putF nState (.str z) []))) p = some (.ins C dx (aF1 z)) := upd_same
    have o1 : ∀ b o, H1 b = some o → b ≠ p → (upd H1 p (.ins C dx (putF nState (.str z) []))) b = some o := fun b o e n => by rw [upd_ne n]; exact e
    generalize upd H1 p (.ins C dx (putF nState (.str z) [])) = H2 at kp hpu o1 ⊢
    refine ⟨_, rfl, a, _, rfl, kp.sqA (ha.same s1), fun t H3 ht s3 => ?_⟩
    have ht' : SqT K H3 t (tV ss) := ht
    have hp3 := s3 _ _ hpu
    refine ⟨_, rfl, p, C, dx, _, rfl, hp3, T.cl, T.nP, aF1_len _, ?_⟩
    have k4 : Kp H3 (upd H3 p (.ins C dx (putF nPath (.ref t) (aF1 z)))) := kp_put hp3 rfl
    have hp4 : (upd H3 p (.ins C dx (putF nPath (.ref t) (aF1 z)))) p = some (.ins C dx (aF2 z t)) := upd_same
    have o4 : ∀ b o, H3 b = some o → b ≠ p → (upd H3 p (.ins C dx (putF nPath (.ref t) (aF1 z)))) b = some o := fun b o e n => by rw [upd_ne n]; exact e
    have ht4 := k4.sqT ht'
    generalize upd H3 p (.ins C dx (putF nPath (.ref t) (aF1 z))) = H4 at k4 hp4 o4 ht4 ⊢
    refine ⟨_, rfl, p, C, dx, _, _, rfl, hp4, T.cl, T.nP, aF2_path _ _, _, _, rfl, .inr ⟨_, ht4, rfl⟩, _, rfl, p, C, dx, _, _, rfl, hp4, T.cl, T.nS, aF2_state _ _, _, rfl, p, C, dx, _, _, rfl, hp4, T.cl, T.nP, aF2_path _ _, by show 3 ≤ sizeLine; decide, fun k nk => ?_⟩
    have s5 := same_new (o := .tup [.int ((tV ss).length : Int), .str z, .ref t]) nk
    have hk5 : (upd H4 k (.tup [.int ((tV ss).length : Int), .str z, .ref t])) k = some (.tup [.int (ss.length : Int), .str z, .ref t]) := by
      rw [upd_same, List.length_map]
    have hp5 := s5 _ _ hp4
    have ht5 := same_seqT s5 ht4
    generalize upd H4 k (.tup [.int ((tV ss).length : Int), .str z, .ref t]) = H5 at s5 hk5 hp5 ht5 ⊢
    refine ⟨_, rfl, p, C, dx, aF2 z t, rfl, hp5, T.cl, T.nK, aF2_len _ _, ?_⟩
    have k6 : Kp H5 (upd H5 p (.ins C dx (putF nKey (.ref k) (aF2 z t)))) := kp_put hp5 rfl
    refine q _ t ⟨dx, k, upd_same, k6.sqT ht5, k6.sqT (.inl (.inl hk5))⟩ fun b o e hb => ?_
    rw [upd_ne hb]
    exact s5 _ _ (o4 _ _ (s3 _ _ (o1 _ _ (s1 _ _ e) hb)) hb)
/-! ### the getters and == -/
def spAState (K : PySem.W.Frag) (C : Addr) : Sp := fun vs H Q _ => ∃ (a t : Addr) (z : Str) (ss : List Str), vs = [.ref a] ∧ AddrT K C H a t z ss ∧ Q (.str z) H
def spAPath (K : PySem.W.Frag) (C : Addr) : Sp := fun vs H Q _ => ∃ (a t : Addr) (z : Str) (ss : List Str), vs = [.ref a] ∧ AddrT K C H a t z ss ∧ Q (.ref t) H
theorem scAState : FnScope ["self"] ["self"] (defScope sAState) := ⟨rfl, rfl, rfl, by decide +kernel, rfl, by decide +kernel, by decide +kernel⟩
theorem scAPath : FnScope ["self"] ["self"] (defScope sAPath) := ⟨rfl, rfl, rfl, by decide +kernel, rfl, by decide +kernel, by decide +kernel⟩
theorem ok_astate {f C : Addr} {fd : FuncData} (F : Fun K "state" "Address.state" sAState f fd) (T : ATxt K mg C) : FnOk P w K mg base CX0 1 f fd ["self"] (spAState K C) := by
  refine F.ok scAState (fun vs H Q E h => ?_) (fun cdv A outer s0 H vs Q E hr h => ?_)
  · obtain ⟨a, t, z, ss, rfl, _⟩ := h
    rfl
  · obtain ⟨a, t, z, ss, rfl, ⟨dx, k, h1, h2, h3⟩, q⟩ := h
    exact ⟨_, pss_one (ps_ret (pe_fld (pv 0) rfl)), _, rfl, a, C, dx, _, _, rfl, h1, T.cl, T.nS, aF_state _ _ _, q⟩
theorem ok_apath {f C : Addr} {fd : FuncData} (F : Fun K "path" "Address.path" sAPath f fd) (T : ATxt K mg C) : FnOk P w K mg base CX0 1 f fd ["self"] (spAPath K C) := by
  refine F.ok scAPath (fun vs H Q E h => ?_) (fun cdv A outer s0 H vs Q E hr h => ?_)
  · obtain ⟨a, t, z, ss, rfl, _⟩ := h
    rfl
  · obtain ⟨a, t, z, ss, rfl, ⟨dx, k, h1, h2, h3⟩, q⟩ := h
    exact ⟨_, pss_one (ps_ret (pe_fld (pv 0) rfl)), _, rfl, a, C, dx, _, _, rfl, h1, T.cl, T.nP, aF_path _ _ _, q⟩
abbrev AK := T3 Int Str (Tup Str)
def akOf (z : Str) (ss : List Str) : AK := ⟨(ss.length : Int), z, ⟨ss⟩⟩
theorem tv_dat {H : Hp} : ∀ ss : List Str, DpAll K H (tV ss) (ss.map Datum.toD)
  | [] => .nil
  | x :: r => .cons (.str x) (tv_dat r)
theorem ak_dp {H : Hp} {k t : Addr} {z : Str} {ss : List Str} (hk : SqT K H k [.int (ss.length : Int), .str z, .ref t]) (ht : SqT K H t (tV ss)) : Dp K H (.ref k) (Datum.toD (akOf z ss)) :=
  .tup hk (.cons (.int _) (.cons (.str _) (.cons (.tup ht (tv_dat ss)) .nil)))
/-- what isinstance asks of the class at C -/
structure AOwn (K : PySem.W.Frag) (C : Addr) : Prop where
  ic : PySem.W.isClsIn K C = true
  pg : PySem.W.plainGet K C "__class__" = true
  ca : PySem.W.findIn K (.ref C) "__class__" = some (some (.builtin "object.__class__"))
  cn : PySem.W.specialIn K (.builtin "object.__class__") "__get__" = some (some (.builtin "getset_descriptor.__get__"))
  ct : PySem.W.takesIn K (.builtin "object.__class__") = some true
  cm : PySem.W.mroIn K C (.type "object") = some true
  me : PySem.W.kitOne K (.ref C) (.ref C) = some true
def rIsI (C : Addr) : List V → Hp → VK → Prop := fun xs H Q => ∃ (a dx : Addr) (fs : List (Str × V)), xs = [.ref a, .ref C] ∧ H a = some (.ins C dx fs) ∧ Q (.bl true) H
theorem call_isI {X : Cx} {C : Addr} (W : AOwn X.K C) : CallR X (.builtin "isinstance") (rIsI C) := by
  intro pins s σ H xs us Q I r ⟨a, dx, fs, ex, ha, q⟩
  subst ex
  obtain ⟨u1, u2, rfl, r1, r2⟩ := r.two
  cases (show u1 = Value.ref a from r1)
  cases (show u2 = Value.ref C from r2)
  obtain ⟨_, J, _⟩ := ins_get I.hok ha
  obtain ⟨od, J, _⟩ := J.look
  exact kia_one (OwX.kitx_slt W.ic W.pg W.ca W.cn W.ct W.cm) I.kIn J W.me (fun z => nomatch z) fun tk => ⟨.bl true, H, I.tok _, rfl, q⟩
def spAEq (K : PySem.W.Frag) (C : Addr) : Sp := fun vs H Q _ => ∃ (a b t u : Addr) (z y : Str) (ss rs : List Str), vs = [.ref a, .ref b] ∧ AddrT K C H a t z ss ∧ AddrT K C H b u y rs ∧ Q (.bl (decide (akOf z ss = akOf y rs))) H
theorem scAEq : FnScope ["self", "other"] ["self", "other"] (defScope sAEq) := ⟨rfl, rfl, rfl, by decide +kernel, rfl, by decide +kernel, by decide +kernel⟩
theorem ok_aeq {f C : Addr} {fd : FuncData} (F : Fun K "__eq__" "Address.__eq__" sAEq f fd) (T : ATxt K mg C) (W : AOwn K C) (B : Blt mg) : FnOk P w K mg base CX0 1 f fd ["self", "other"] (spAEq K C) := by
  refine F.ok scAEq (fun vs H Q E h => ?_) (fun cdv A outer s0 H vs Q E hr h => ?_)
  · obtain ⟨a, b, t, u, z, y, ss, rs, rfl, _⟩ := h
    rfl
  · obtain ⟨a, b, t, u, z, y, ss, rs, rfl, ⟨dx, k, h1, h2, h3⟩, ⟨dy, l, g1, g2, g3⟩, q⟩ := h
    refine ⟨_, pss_cons (ps_if (pt_not (pt_val (pe_callB (call_isI W) (by rfl) B.isinstance_ (by decide +kernel) (pa_cons (pv 1) (pa_cons (pe_glob (v := .ref C) (by rfl) T.mgC rfl) pa_nil))))) (pss_one ps_never) pss_nil)
      (pss_one (ps_ret (pe_cmpR (opd_eq (α := AK) (room_all (k := 64) (by decide) hr.units)) (pe_fld (pv 0) rfl) (pe_fld (pv 1) rfl) (nomark _)))), ?_⟩
    refine ⟨_, rfl, b, dy, _, rfl, g1, _, rfl, iteF ?_⟩
    exact ⟨_, rfl, a, C, dx, _, _, rfl, h1, T.cl, T.nK, aF_key _ _ _, _, rfl, b, C, dy, _, _, rfl, g1, T.cl, T.nK, aF_key _ _ _, _, _, ak_dp h3 h2, ak_dp g3 g2, q⟩
end
end RL

namespace RL
open PySem L2 SX AddrMath VA
section
variable {P : Program} {w : World} {K : PySem.W.Frag} {mg : Str → Option Value} {base : Heap}
/-! ### _law_any_value: slots _law_pen_here 0, _law_some 1 -/
abbrev sAnyValue : Stmt := top 18
theorem scAnyValue : FnScope ["_law_pen_here", "_law_some"] ["_law_pen_here"] (defScope sAnyValue) := ⟨rfl, rfl, rfl, by decide +kernel, rfl, by decide +kernel, by decide +kernel⟩
def spAny (K : PySem.W.Frag) : Sp := fun vs H Q _ => ∃ (d c : Addr) (n : Nat), vs = [.ref d] ∧ PenAt H d c n ∧ n ≤ 900000 ∧ ∀ (v : V) (H' : Hp), Vy K H' d v → PenAt H' d c (n + 1) → But d H H' → Q v H'
theorem ok_any {f : Addr} {fd : FuncData} (F : Fun K "_law_any_value" "_law_any_value" sAnyValue f fd) (pick : Own P w K mg base CX0 2 "_law_pick" ["_law_pen_here", "_law_items"] spPick) : FnOk P w K mg base CX0 3 f fd ["_law_pen_here"] (spAny K) := by
  refine F.ok scAnyValue (fun vs H Q E h => ?_) (fun cdv A outer s0 H vs Q E hr h => ?_)
  · obtain ⟨d, c, n, rfl, _⟩ := h
    rfl
  · obtain ⟨d, c, n, rfl, p, hn, q⟩ := h
    refine ⟨_, (pss_cons (ps_set (i := 1) scAnyValue.nd rfl (Or.inl rfl) (anyL (K := K) (n := 18) (anys_cons (any_lit lit_non rfl) (anys_cons (any_lit lit_bl rfl) (anys_cons (any_lit lit_bl rfl) (anys_cons (any_lit lit_int rfl) (anys_cons (any_lit lit_int rfl) (anys_cons (any_lit lit_int rfl) (anys_cons (any_lit lit_int rfl) (anys_cons (any_lit lit_neg rfl) (anys_cons (any_lit (lit_pow ⟨by decide, by decide, by decide⟩) rfl)
          (anys_cons (any_lit lit_str (by decide +kernel)) (anys_cons (any_lit lit_str (by decide +kernel)) (anys_cons (any_lit lit_str (by decide +kernel)) (anys_cons (any_lit lit_str (by decide +kernel)) (anys_cons (any_lit lit_str (by decide +kernel)) (anys_cons (any_lit lit_str (by decide +kernel)) (anys_cons (any_lit lit_str (by decide +kernel)) (anys_cons (any_lit (lit_tup lits_nil (by decide)) (by decide +kernel)) (anys_cons (any_lit (lit_tup (lits_cons lit_str lits_nil) (by decide)) (by decide +kernel)) anys_nil)))))))))))))))))) (by decide)))
      (pss_cons (ps_set (i := 1) scAnyValue.nd rfl (Or.inl rfl) (pe_op op_cat (pv 1) (anyL (K := K) (n := 12) (anys_cons (any_lit (lit_lst lits_nil (by decide)) (by decide +kernel)) (anys_cons (any_lit (lit_lst (lits_cons lit_str lits_nil) (by decide)) (by decide +kernel)) (anys_cons (any_lit (lit_lst (lits_cons lit_int lits_nil) (by decide)) (by decide +kernel)) (anys_cons (any_dict pe_dnewK) (anys_cons (any_disp (pe_disp (pps_cons pe_str pe_int pps_nil) (by rfl) (by rfl) (fun z => by cases z) (by decide)))
          (anys_cons (any_lit (lit_tup (lits_cons lit_int (lits_cons lit_int lits_nil)) (by decide)) (by decide +kernel)) (anys_cons (any_lit (lit_tup (lits_cons lit_str (lits_cons (lit_tup lits_nil (by decide)) lits_nil)) (by decide)) (by decide +kernel)) (anys_cons (any_lit (lit_tup (lits_cons lit_non lits_nil) (by decide)) (by decide +kernel)) (anys_cons (any_lit (lit_tup (lits_cons lit_str (lits_cons lit_int lits_nil)) (by decide)) (by decide +kernel))
          (anys_cons (any_lit (lit_lst (lits_cons (lit_lst (lits_cons lit_str lits_nil) (by decide)) lits_nil) (by decide)) (by decide +kernel)) (anys_cons (any_lit (lit_tup (lits_cons (lit_tup (lits_cons lit_str lits_nil) (by decide)) lits_nil) (by decide)) (by decide +kernel)) (anys_cons (any_lit lit_str (by decide +kernel)) anys_nil)))))))))))) (by decide))))
      (pss_cons (ps_set (i := 1) scAnyValue.nd rfl (Or.inl rfl) (pe_op op_cat (pv 1) (anyL (K := K) (n := 2) (anys_cons (any_lit lit_str (by decide +kernel)) (anys_cons (any_lit lit_str (by decide +kernel)) anys_nil)) (by decide))))
      (pss_one (ps_ret (pe_call pick.g (hr.mono (by decide)) rfl pick.mg pick.kp pick.b .nil pass0 (pa_cons (pv 0) (pa_cons (pv 1) pa_nil)))))))), ?_⟩
    have np := p.ne
    intro a1 xs1 H1 h1 v1 l1 s1 n1
    refine ⟨_, rfl, ?_⟩
    intro a2 xs2 H2 h2 v2 l2 s2 n2
    refine ⟨a1, a2, xs1, xs2, rfl, rfl, s2 _ _ h1, h2, size_ok (by omega), fun a3 n3 => ?_⟩
    refine ⟨_, rfl, ?_⟩
    intro a4 xs4 H4 h4 v4 l4 s4 n4
    have s3 : Same H2 (upd H2 a3 (.lst (xs1 ++ xs2))) := same_new n3
    refine ⟨a3, a4, xs1 ++ xs2, xs4, rfl, rfl, s4 _ _ upd_same, h4, size_ok (by rw [List.length_append]; omega), fun a5 n5 => ?_⟩
    have s5 : Same H4 (upd H4 a5 (.lst (xs1 ++ xs2 ++ xs4))) := same_new n5
    have all : Same H (upd H4 a5 (.lst (xs1 ++ xs2 ++ xs4))) := (((s1.trans s2).trans s3).trans s4).trans s5
    refine ⟨_, rfl, _, rfl, d, c, n, _, rfl, p.keep all, by omega, .inl ⟨a5, _, rfl, upd_same, by rw [List.length_append, List.length_append]; omega, by rw [List.length_append, List.length_append]; omega, fun v H' hv p' b' => ?_⟩⟩
    refine q v H' ?_ p' ((but_of all).trans b')
    have nd : ∀ {G : Hp}, Same H G → G d ≠ none := fun {G} s z => np (s.free z)
    have fin : ∀ {G : Hp}, Fresh G v → H d ≠ none → Same H G → (∃ x, Vx K (upd H4 a5 (.lst (xs1 ++ xs2 ++ xs4))) v x) → Vy K (upd H4 a5 (.lst (xs1 ++ xs2 ++ xs4))) d v := fun {G} f _ s h => vy_of f (nd s) h
    refine Vy.but ?_ (p.keep all) b'
    rcases List.mem_append.mp hv with hv | hv
    · rcases List.mem_append.mp hv with hv | hv
      · obtain ⟨f, x, hx⟩ := v1 v hv
        exact fin f np (Same.refl H) ⟨x, (((hx.same s2).same s3).same s4).same s5⟩
      · obtain ⟨f, x, hx⟩ := v2 v hv
        exact fin f np s1 ⟨x, ((hx.same s3).same s4).same s5⟩
    · obtain ⟨f, x, hx⟩ := v4 v hv
      exact fin f np ((s1.trans s2).trans s3) ⟨x, hx.same s5⟩
end
end RL

namespace RL
open PySem L2 SX AddrMath VA
section
variable {P : Program} {w : World} {K : PySem.W.Frag} {mg : Str → Option Value} {base : Heap}
/-! ### _law_is_word: slots value 0, letters 1, sign 2 -/
abbrev sLIsWord : Stmt := top 19
def spLWord (K : PySem.W.Frag) : Sp := fun vs H Q _ => ∃ x d, vs = [x] ∧ Vx K H x d ∧ ∀ H', Same H H' → Q (.bl (isWordD d)) H'
theorem scLIsWord : FnScope ["_law_value", "_law_letters", "_law_sign"] ["_law_value"] (defScope sLIsWord) := ⟨rfl, rfl, rfl, by decide +kernel, rfl, by decide +kernel, by decide +kernel⟩
theorem vx_signs {H : Hp} {x : V} {z : Str} (h : Vx K H x (.str z)) : ∀ c ∈ z.cps.toList, c < 1114112 := by
  rcases h with ⟨h, o⟩ | ⟨a, kvs, _, _, q⟩
  · rw [okD, Bool.and_eq_true] at o
    have o2 := o.2
    unfold PyData.strOk at o2
    rw [← Array.all_toList, List.all_eq_true] at o2
    exact fun c hc => of_decide_eq_true (o2 c hc)
  · cases q
theorem sign_ok {c : Nat} (h : c < 1114112) : okD 7 (.str (S [c])) = true := by
  rw [okD, Bool.and_eq_true, decide_eq_true_eq, len_S]
  refine ⟨by show 1 ≤ 1000; decide, ?_⟩
  unfold PyData.strOk
  rw [← Array.all_toList, List.all_eq_true]
  intro y hy
  rw [List.mem_singleton.mp hy]
  exact decide_eq_true h
theorem not_word {z : Str} (h : ¬ (1 ≤ z.length ∧ z.length ≤ 8)) : isW z.cps.toList = false := Bool.eq_false_iff.mpr fun y => h (word_len y)
theorem word_all {z : Str} (h1 : 1 ≤ z.length) (h8 : z.length ≤ 8) : isW z.cps.toList = z.cps.toList.all isL := by
  have hl : z.cps.toList.length = z.length := (TL.len_tl z).symm
  unfold isW
  rw [hl, decide_eq_true h1, decide_eq_true h8]
  rfl
theorem ok_lword {f : Addr} {fd : FuncData} (F : Fun K "_law_is_word" "_law_is_word" sLIsWord f fd) (B : Blt mg) : FnOk P w K mg base CX0 1 f fd ["_law_value"] (spLWord K) := by
  refine F.ok scLIsWord (fun vs H Q E h => ?_) (fun cdv A outer s0 H vs Q E hr h => ?_)
  · obtain ⟨x, d, rfl, _⟩ := h
    rfl
  · obtain ⟨x, d, rfl, hx, q⟩ := h
    refine ⟨_, (pss_cons (ps_set (i := 1) scLIsWord.nd rfl (Or.inr rfl) pe_str)
      (pss_cons (ps_if (PW.pt (pw_or (pt_not (pt_val (pe_callB call_isi (by rfl) B.isinstance_ (by decide +kernel) (pa_cons (pv 0) (pa_cons (pe_bltn (v := .ty "str") (by rfl) B.str_ (by decide +kernel) rfl) pa_nil))))) (pw_or1 (pt_not (pt_chain op_le op_le pe_int (pe_callB call_len_str (by rfl) B.len_ (by decide +kernel) (pa_cons (pv 0) pa_nil)) pe_int))))) (pss_one (ps_ret pe_bl)) pss_nil)
      (pss_one (ps_ret (pe_cmpR (op_eqD hr.units) (pe_lc (own := [("_law_sign", 2)]) (g := gName 2) rfl scLIsWord.nd (pi_str (pv 0))
          (blkOk_by (own := [("_law_sign", 2)]) (N := ["_law_value", "_law_letters", "_law_sign"]) (sc := defScope sLIsWord) (by decide +kernel))
          (fun _ _ _ _ _ => (pg_name (i := 2) scLIsWord.nd rfl (Or.inl rfl))) (fun _ _ _ _ _ => pts_one (pt_cmpR op_notIn_sign (pv 2) (pv 1) rfl))
          (fun _ _ _ _ _ => (pv 2))) (pe_lst pa_nil) (nomark _)))))), ?_⟩
    refine ⟨_, rfl, _, _, _, _, isStrD d, rfl, .ty "str", hx.ty, kitStr d, _, rfl, ?_⟩
    cases e : isStrD d with
    | false =>
      refine iteT (iteT ?_)
      have : isWordD d = false := by cases d <;> first | rfl | cases e
      rw [this] at q
      exact q H (Same.refl H)
    | true =>
      refine iteF ?_
      obtain ⟨z, rfl, rfl, hz⟩ := vx_str hx e
      have q' : ∀ H', Same H H' → Q (.bl (isW z.cps.toList)) H' := q
      refine ⟨_, rfl, _, rfl, size_ok (by omega), _, _, rfl, rfl, _, rfl, if_is (fun h1 => ?_) (fun h1 => ?_)⟩
      · have h1' : (1 : Int) ≤ (z.length : Int) := of_decide_eq_true h1
        refine ⟨_, _, rfl, rfl, _, rfl, ?_⟩
        by_cases h8 : z.length ≤ 8
        · rw [decide_eq_true (show (z.length : Int) ≤ 8 by omega)]
          refine iteF ⟨_, rfl, z, rfl, fun D hD => ?_⟩
          have hl : z.cps.toList.length = z.length := (TL.len_tl z).symm
          have eS : S z.cps.toList = z := S_tl z
          refine (?_ : ∃ W : Nat → Nat → Hp → Prop, _)
          rw [← eS]
          refine lc_signs (l := z.cps.toList) (fun i H' => Same H H' ∧ H' D = some (.lst (((z.cps.toList.take i).filter fun c => !isL c).map fun c => V.str (S [c])))) ⟨same_new hD, upd_same⟩ ?_ ?_
          · rintro i c H' hc ⟨s1, hDl⟩
            refine ⟨rfl, _, rfl, _, rfl, c, _, rfl, rfl, _, rfl, ?_⟩
            rw [take_snoc hc, List.filter_append, List.map_append]
            by_cases hL : isL c = true
            · rw [decide_eq_true ((letters_iff c).mpr hL)]
              refine iteF ⟨s1, ?_⟩
              rw [hDl, List.filter_cons_of_neg (by rw [hL]; exact Bool.false_ne_true), List.filter_nil, List.map_nil, List.append_nil]
            · rw [decide_eq_false (fun z => hL ((letters_iff c).mp z))]
              refine iteT ⟨_, rfl, _, hDl, ?_, fun b o z => by rw [upd_ne (ne_of_none z hD)]; exact s1 _ _ z, ?_⟩
              · refine small1000 ?_
                rw [List.length_map]
                exact Nat.le_trans (List.length_filter_le _ _) (by rw [List.length_take]; omega)
              · rw [upd_same, List.filter_cons_of_pos (by simpa using hL), List.filter_nil]
                rfl
          · rintro H' ⟨s1, hDl⟩
            rw [List.take_length] at hDl
            have dp : ∀ cs : List Nat, DpAll K H' (cs.map fun c => V.str (S [c])) (cs.map fun c => PyData.str (S [c])) := fun cs => by
              induction cs with
              | nil => exact .nil
              | cons c cs ih => exact .cons (.str _) ih
            refine eq_nil hDl (dp _) ?_ ?_ fun H2 s2 => ?_
            · rw [List.length_map]
              exact Nat.le_trans (List.length_filter_le _ _) (by omega)
            · intro y hy
              obtain ⟨c, hc, rfl⟩ := List.mem_map.mp hy
              exact sign_ok (vx_signs hx c (List.mem_filter.mp hc).1)
            · have e2 : ((z.cps.toList.filter fun c => !isL c).map fun c => PyData.str (S [c])).isEmpty = isW z.cps.toList := by
                rw [word_all (by omega) h8, List.isEmpty_map, filter_empty]
                simp
              rw [e2]
              exact q' _ (s1.trans s2)
        · rw [decide_eq_false (show ¬ (z.length : Int) ≤ 8 by omega)]
          refine iteT ?_
          rw [not_word (fun h => h8 h.2)] at q'
          exact q' H (Same.refl H)
      · have h1' : ¬ (1 : Int) ≤ (z.length : Int) := of_decide_eq_false h1
        refine ⟨_, rfl, iteT ?_⟩
        rw [not_word (fun h => h1' (by omega))] at q'
        exact q' H (Same.refl H)
end
end RL

/-! A def that gives NotImplemented (an own == beside a value of another kind). -/
namespace NI
open PySem PySem.W PySem.Spec PySem.Calls PyProof.Rows L2 SX GR
section
variable {pr : Program} {wo : World} {F : PySem.W.Frag} {gl : Str → Option Value} {b0 : Heap}
/-- what a call that gives NotImplemented and changes nothing leaves -/
def Left (fs : List Env) (pr : Program) (wo : World) (H : Hp) (s : Shared) : Result → Shared → Prop := fun r s' => r = .ok (.ret .notImplemented) ∧ CE fs pr wo H s (fun v H' => v = .non ∧ H' = H) .none s'
theorem ni_body {X : Cx} {c : Expr} {p1 p2 p3 : Pos} {body rest : List Stmt} {t : TT} {σ : L2.St} {H : Hp} {s1 : Shared} (bd : body = .If c [.Return (some (.Name "NotImplemented" p1)) p2] [] p3 :: rest) (gn : Gl X "NotImplemented") (gm : X.mg "NotImplemented" = none)
    (reads : PT X c t) (I : L2.Inv X [] σ H s1) (does : t σ H (fun b H' => b = true ∧ H' = H)) :
    wpAny (model X.prog X.w) X.A (execs body X.env) (fun fl s' => fl = .ret .notImplemented ∧ L2.Inv X [] σ H s') X.xe s1 := by
  subst bd
  refine wpAny_execs_cons (wpAny_If (thn (reads.run [] s1 σ H (fun b H' => b = true ∧ H' = H) I does) ?_))
  rintro b s2 ⟨H2, J, rfl, rfl⟩
  rw [if_pos rfl]
  refine wpAny_execs_cons (wpAny_Return_some ?_)
  exact ld_blt J gn gm rfl ⟨rfl, J⟩
theorem ni_fn {x qual : Str} {st : Stmt} {at_ : Addr} {fd : FuncData} {N names : List Str} {n : Nat} {c : Expr} {p1 p2 p3 : Pos} {rest : List Stmt} {vs : List V} {H : Hp} (D : Fun F x qual st at_ fd) (S : FnScope N names (defScope st))
    (bd : defBody st = .If c [.Return (some (.Name "NotImplemented" p1)) p2] [] p3 :: rest) (many : vs.length = names.length)
    (gn : ∀ (cd : Value) (Ar : Around) (fs : List Env) (s : Shared), Gl (cxOf CX0 pr wo F gl b0 N qual (defScope st) at_ cd Ar fs s H E0) "NotImplemented") (gm : gl "NotImplemented" = none)
    (test : ∀ (cd : Value) (Ar : Around) (fs : List Env) (s : Shared), Room n (Ar.deeper (envOfC qual (defScope st) s.heap.objs.size at_ cd)) →
      ∃ t, PT (cxOf CX0 pr wo F gl b0 N qual (defScope st) at_ cd Ar fs s H E0).nox c t ∧ t (start N vs) H (fun b H' => b = true ∧ H' = H))
    (Ar : Around) (fs : List Env) (s : Shared) (gs : Args) (us : List Value) (room : Room (n + 1) Ar) (e0 : Env0 pr wo F gl b0 Ar fs s H) (binds : BindsTo s fd gs (names.zip us)) (rel : Vals vs us) :
    codeAny (model pr wo) Ar (.call (.ref at_) gs) (Left fs pr wo H s) s := by
  obtain ⟨oc, od, kV, doc, pm, an, cd, ct, osl, rfl, here, code⟩ := D.ex
  have FX : F.In s.heap := e0.mod.kin.keeps (fun b o e => (e0.bs b o e).1)
  have lim : s.heap.NoLimit := e0.mod.nolimit.keeps (fun b o e => (e0.bs b o e).1)
  refine codeAny_call_function room.depth (FX _ _ here) rfl S.co S.gen rfl (PySem.W.codeRec_of FX code) (binds _ _ _ _ ?_)
  refine wpAny_newFunctionEnv_cells S.kind ?_ (fun en en_is s1 inside => ?_)
  · rintro ⟨nm, v⟩ mem
    rcases S.par nm (List.of_mem_zip mem).1 with q | q
    · exact Or.inl q
    · exact Or.inr ⟨q, PySem.W.cellsFrom_some _ _ _ (Or.inl q)⟩
  subst en_is
  refine ⟨lim.keeps inside.toInCall.keep, codeAny_func ?_⟩
  obtain ⟨t, reads, does⟩ := test cd Ar fs s (room.deeper _)
  have I0 := inv_start (CX := CX0) (E := E0) S room.hd e0 many rel inside
  refine wpAny_mono (ni_body bd (gn cd Ar fs s) gm reads.nox I0 does) ?_ (fun _ _ h => wpAny_mono h (fun _ _ z => (show False from z).elim) (fun _ _ z => (show False from z).elim))
  rintro fl s' ⟨rfl, J⟩
  exact ⟨rfl, V.non, H, J.os, J.bare, J.base, J.hok, rfl, rfl, rfl⟩
end
end NI

namespace NI
open PySem PySem.W PySem.Spec PySem.Calls PyProof.Rows L2 SX GR
section
variable {X : Cx}
/-- a def that gives NotImplemented for these values -/
structure Decl (X : Cx) (n : Nat) (f : Addr) (Pd : List V → Hp → Prop) : Prop where
  runs : ∀ (Ar : Around) (fs : List Env) (s : Shared) (H : Hp) (us : List Value) (vs : List V), Pd vs H → Room n Ar → Env0 X.prog X.w X.K X.mg X.base Ar fs s H → Vals vs us → codeAny (model X.prog X.w) Ar (.call (.ref f) ⟨us, []⟩) (Left fs X.prog X.w H s) s
/-- x == y, x an instance whose own == gives NotImplemented, y a text -/
theorem own_eqS {C f : Addr} {n : Nat} {Pd : List V → Hp → Prop} (at_ : findIn X.K (.ref C) "__eq__" = some (some (.ref f))) (isF : isFn X.K (.ref f) = true) (nf : subIn X.K (.type "str") (.ref C) = some false) (D : Decl X n f Pd) (room : Room n X.A) :
    OpR X (compareOp .Eq) (fun x y H Q => ∃ a dx fs z, x = .ref a ∧ y = .str z ∧ H a = some (.ins C dx fs) ∧ Pd [x, y] H ∧ Q (.bl false) H) := by
  intro pins s σ H x y v u Q I rx ry ⟨a, dx, fs, z, ex, ey, ha, hp, q⟩
  subst ex; subst ey
  cases (show v = Value.ref a from rx)
  obtain ⟨t, rfl⟩ : ∃ t, u = Value.str z t := ry
  obtain ⟨_, J, _⟩ := ins_get I.hok ha
  obtain ⟨od, J, _⟩ := J.look
  have inK : X.K.In s.heap := I.kIn
  have go : wpAny (model X.prog X.w) X.A (call (.ref f) [.ref a, .str z t]) (fun r s' => r = .notImplemented ∧ L2.Inv X pins σ H s') X.xe s := by
    refine wpAny_call (codeAny_mono (D.runs X.A X.stack s H [.ref a, .str z t] [.ref a, .str z] hp room I.env0 (.cons rfl (.cons ⟨t, rfl⟩ .nil))) ?_)
    rintro r s' ⟨rfl, ce⟩
    obtain ⟨z', H', I', rz, ez, eh⟩ := I.after ce
    subst eh
    exact ⟨rfl, I'⟩
  show wpAny _ _ (richCompare .Eq (.ref a) (.str z t)) _ _ _
  unfold richCompare
  have no : oneThing? CmpOp.Eq (.ref a) (.str z t) = none := rfl
  simp only [no]
  refine wpAny_holding (wpAny_bind (wpAny_cRoomFor room.units0 ?_))
  refine wpAny_bind (J.type.here ?_)
  refine wpAny_bind (wpAny_pure ?_)
  rw [show (Value.ref C != Value.type "str") = true from rfl]
  simp only [if_true]
  refine wpAny_bind ((looks_subIn inK nf).here ?_)
  simp only [Bool.false_eq_true, if_false]
  have one : wpAny (model X.prog X.w) X.A (tryCompare (.ref a) "__eq__" (.str z t)) (fun r s' => r = none ∧ L2.Inv X pins σ H s') X.xe s := by
    unfold tryCompare
    refine wpAny_bind (ifBound_K inK J at_ isF (wpAny_mono go ?_ fun _ _ e => e))
    rintro r s' ⟨rfl, hI⟩
    exact wpAny_pure ⟨rfl, hI⟩
  refine wpAny_bind (wpAny_mono one ?_ fun _ _ e => e)
  rintro r s1 ⟨rfl, I1⟩
  simp only [Bool.not_false, if_true]
  obtain ⟨_, J1, _⟩ := ins_get I1.hok ha
  obtain ⟨od1, J1, _⟩ := J1.look
  have two : wpAny (model X.prog X.w) X.A (tryCompare (.str z t) "__eq__" (.ref a)) (fun r s' => r = none ∧ L2.Inv X pins σ H s') X.xe s1 := by
    refine wpAny_tryCompare_declines (T := "str") (id := "str.__eq__") ?_ PySem.F.slot_str_eq ?_
    · rfl
    · refine wpAny_call (codeAny_call_builtin PySem.F.slot_str_eq.plain PySem.F.entry_str_eq (PySem.F.slot_str_eq.check _ _ _ _ _ _ _ _ ?_ (PySem.F.args_str_eq_2 _ _) ?_))
      · rfl
      · have at1 : s1.heap.get? a = some (W.instObj C dx) := J1.at_
        have done : ∀ s', s' = s1 → L2.Inv X pins σ H s' := fun s' e => by rw [e]; exact I1
        unfold Builtin.«str.__eq__» Builtin.Str.strCompare Builtin.Str.strSlot
        repeat (first | exact ⟨rfl, rfl, I1⟩ | refine wpAny_bind (wpAny_load at1 ?_) | wp_step)
  refine wpAny_bind (wpAny_mono two ?_ fun _ _ e => e)
  rintro r s2 ⟨rfl, I2⟩
  have fin : EP X pins σ Q (.bool false) s2 := ⟨.bl false, H, I2, rfl, q⟩
  show wpAny _ _ (do
      rule "compare.eq-identity"
      let same ← isSame (.ref a) (.str z t)
      pure (Value.bool same)) _ _ _
  repeat (first | exact fin | exact wpAny_pure fin | refine wpAny_bind (wpAny_isSame_plain (by rfl) ?_) | wp_step)
theorem tup_head (x y : Value) : ∃ k, Builtin.«tuple.__eq__» ⟨[x, y], []⟩ = (do
    let b ← isInstance y (.type "tuple")
    if (!b) = true then ret .notImplemented else k) := ⟨_, rfl⟩
theorem tup_at {H : Hp} {s : Shared} {pins : List (Addr × Obj)} {σ : L2.St} {b : Addr} {ds : List PyData} (I : L2.Inv X pins σ H s) (h : Dp X.K H (.ref b) (.tuple ds)) : ∃ o, s.heap.get? b = some o ∧ o.cls = .type "tuple" := by
  obtain ⟨as, rd⟩ := Dp.reads I _ _ _ h rfl
  cases rd
  exact ⟨_, by assumption, by assumption⟩
/-- x == y, x an instance whose own == gives NotImplemented, y a tuple -/
theorem own_eqT {C f : Addr} {n : Nat} {Pd : List V → Hp → Prop} (at_ : findIn X.K (.ref C) "__eq__" = some (some (.ref f))) (isF : isFn X.K (.ref f) = true) (nf : subIn X.K (.type "tuple") (.ref C) = some false) (nt : subIn X.K (.ref C) (.type "tuple") = some false) (D : Decl X n f Pd) (room : Room n X.A) :
    OpR X (compareOp .Eq) (fun x y H Q => ∃ a dx fs b ds, x = .ref a ∧ y = .ref b ∧ H a = some (.ins C dx fs) ∧ Dp X.K H (.ref b) (.tuple ds) ∧ Pd [x, y] H ∧ Q (.bl false) H) := by
  intro pins s σ H x y v u Q I rx ry ⟨a, dx, fs, b, ds, ex, ey, ha, hb, hp, q⟩
  subst ex; subst ey
  cases (show v = Value.ref a from rx)
  cases (show u = Value.ref b from ry)
  obtain ⟨_, J, _⟩ := ins_get I.hok ha
  obtain ⟨od, J, _⟩ := J.look
  have inK : X.K.In s.heap := I.kIn
  obtain ⟨ob, gb, cb⟩ := tup_at I hb
  have ga : s.heap.get? a = some (W.instObj C dx) := J.at_
  have nab : a ≠ b := fun e => by rw [e, gb] at ga; cases ga; cases cb
  have go : wpAny (model X.prog X.w) X.A (call (.ref f) [.ref a, .ref b]) (fun r s' => r = .notImplemented ∧ L2.Inv X pins σ H s') X.xe s := by
    refine wpAny_call (codeAny_mono (D.runs X.A X.stack s H [.ref a, .ref b] [.ref a, .ref b] hp room I.env0 (.cons rfl (.cons rfl .nil))) ?_)
    rintro r s' ⟨rfl, ce⟩
    obtain ⟨z', H', I', rz, ez, eh⟩ := I.after ce
    subst eh
    exact ⟨rfl, I'⟩
  show wpAny _ _ (richCompare .Eq (.ref a) (.ref b)) _ _ _
  unfold richCompare
  simp only [oneThing_ref]
  refine wpAny_holding (wpAny_bind (wpAny_cRoomFor room.units0 ?_))
  refine wpAny_bind (J.type.here ?_)
  have tyb : ∀ {s' : Shared} {R : Value → Shared → Prop}, s'.heap.get? b = some ob → R (.type "tuple") s' → wpAny (model X.prog X.w) X.A (typeOf (.ref b)) R X.xe s' := fun g r => by
    unfold typeOf
    repeat (first | exact r | (rw [cb]; exact r) | refine wpAny_bind (wpAny_load g ?_) | wp_step)
  refine wpAny_bind (tyb gb ?_)
  rw [show (Value.ref C != Value.type "tuple") = true from rfl]
  simp only [if_true]
  refine wpAny_bind ((looks_subIn inK nf).here ?_)
  simp only [Bool.false_eq_true, if_false]
  have one : wpAny (model X.prog X.w) X.A (tryCompare (.ref a) "__eq__" (.ref b)) (fun r s' => r = none ∧ L2.Inv X pins σ H s') X.xe s := by
    unfold tryCompare
    refine wpAny_bind (ifBound_K inK J at_ isF (wpAny_mono go ?_ fun _ _ e => e))
    rintro r s' ⟨rfl, hI⟩
    exact wpAny_pure ⟨rfl, hI⟩
  refine wpAny_bind (wpAny_mono one ?_ fun _ _ e => e)
  rintro r s1 ⟨rfl, I1⟩
  simp only [Bool.not_false, if_true]
  obtain ⟨_, J1, _⟩ := ins_get I1.hok ha
  obtain ⟨od1, J1, _⟩ := J1.look
  obtain ⟨ob1, gb1, cb1⟩ := tup_at I1 hb
  have ga1 : s1.heap.get? a = some (W.instObj C dx) := J1.at_
  have two : wpAny (model X.prog X.w) X.A (tryCompare (.ref b) "__eq__" (.ref a)) (fun r s' => r = none ∧ s' = s1) X.xe s1 := by
    refine wpAny_tryCompare_declines (T := "tuple") (id := "tuple.__eq__") ⟨ob1, gb1, cb1⟩ PySem.F.slot_tuple_eq ?_
    refine wpAny_call (codeAny_call_builtin PySem.F.slot_tuple_eq.plain PySem.F.entry_tuple_eq (PySem.F.slot_tuple_eq.check _ _ _ _ _ _ _ _ ⟨ob1, gb1, cb1⟩ (PySem.F.args_tuple_eq_2 _ _) ?_))
    obtain ⟨k, ek⟩ := tup_head (.ref b) (.ref a)
    rw [ek]
    refine wpAny_bind (wpAny_mono (show wpAny _ _ (isInstance (.ref a) (.type "tuple")) (fun r s' => r = false ∧ s' = s1) _ _ from ?_) ?_ fun _ _ e => e)
    · have inK1 : X.K.In s1.heap := I1.kIn
      unfold isInstance
      repeat (first | exact wpAny_bind (J1.type.here ((looks_subIn inK1 nt).here ⟨rfl, rfl⟩)) | exact ((looks_subIn inK1 nt).here ⟨rfl, rfl⟩) | refine wpAny_bind (J1.type.here ?_) | wp_step)
    · rintro r s' ⟨rfl, rfl⟩
      simp only [Bool.not_false, if_true]
      repeat (first | exact ⟨rfl, trivial, rfl⟩ | exact ⟨rfl, rfl, rfl⟩ | wp_step)
  refine wpAny_bind (wpAny_mono two ?_ fun _ _ e => e)
  rintro r s2 ⟨rfl, rfl⟩
  have fin : EP X pins σ Q (.bool false) s2 := ⟨.bl false, H, I1, rfl, q⟩
  show wpAny _ _ (do
      rule "compare.eq-identity"
      let same ← isSame (.ref a) (.ref b)
      pure (Value.bool same)) _ _ _
  repeat (first | exact fin | exact wpAny_pure fin | refine wpAny_bind (wpAny_isSame_ref_other nab ga1 gb1 (fun z => by cases z) ?_) | wp_step)
end
end NI

/-! Operators that a class of the text defines: + and its like on either side, an item, len, in. -/
namespace OW
open PySem PySem.W PySem.Spec PySem.Calls PyProof.Rows L2 SX GR
section
variable {X : Cx} {C f g : Addr} {fd : FuncData} {ps : List Str} {n : Nat} {sp : Sp} {CX : CXT} {E : XK}
theorem ty_of {pins : List (Addr × Obj)} {σ : L2.St} {H : Hp} {s : Shared} {x : V} {u t : Value} (I : L2.Inv X pins σ H s) (rx : RelV x u) (ty : TyX X.K H x t) (M : Model) : Looks M s.heap (typeOf u) t := by
  obtain ⟨R, kx, hR, _⟩ := kit_of I rx ty
  exact kx.ty M _ I.kIn hR
/-- what the built-in type T says of the operation nm -/
structure TyOp (K : PySem.W.Frag) (C : Addr) (T nm : String) (fo ro : Option Value) : Prop where
  hf : findIn K (.type T) (PySem.dunder nm) = some fo
  hr : findIn K (.type T) (dunderR nm) = some ro
  sub : subIn K (.type T) (.ref C) = some false
/-- what the class at C says of it -/
structure OwnOp (K : PySem.W.Frag) (C f : Addr) (nm : String) : Prop where
  first : selfFirst K C = true
  at_ : findIn K (.ref C) (PySem.dunder nm) = some (some (.ref f))
  isF : isFn K (.ref f) = true
  rc : findIn K (.ref C) (dunderR nm) = some none ∨ ∃ g : Addr, findIn K (.ref C) (dunderR nm) = some (some (.ref g))
def rOwn (C : Addr) (sp : Sp) (E : XK) (Py : V → Hp → Prop) : R2 := fun x y H Q => ∃ (a dx : Addr) (fs : List (Str × V)), x = .ref a ∧ H a = some (.ins C dx fs) ∧ Py y H ∧ sp [x, y] H Q E
/-- what follows a call of an own def whose value is no NotImplemented -/
theorem call_back {pins : List (Addr × Obj)} {σ : L2.St} {H : Hp} {s : Shared} {Q : VK} {x y : V} {v u : Value} (F : FnOk X.prog X.w X.K X.mg X.base CX n f fd ps sp) (hb : Binds X.K fd ps []) (room : Room n X.A) (pa : Passes CX X E) (I : L2.Inv X pins σ H s) (rx : RelV x v) (ry : RelV y u) (h : sp [x, y] H Q E) :
    wpAny (model X.prog X.w) X.A (call (.ref f) [v, u]) (W.CmpBack (EP X pins σ Q)) X.xe s := by
  refine wpAny_mono (run_fn (us := [v, u]) (vs := [x, y]) F room hb .nil pa I (.cons rx (.cons ry .nil)) h) ?_ (fun _ _ e => e)
  rintro w s' ⟨z, H', I', rz, qz⟩
  exact SlX.cmpback rz ⟨z, H', I', rz, qz⟩
theorem ref_ne_type (C : Addr) (T : String) : (Value.ref C == Value.type T) = false := Bool.eq_false_iff.mpr fun q => by cases beq_iff_eq.mp q
theorem type_ne_ref (C : Addr) (T : String) : (Value.type T == Value.ref C) = false := Bool.eq_false_iff.mpr fun q => by cases beq_iff_eq.mp q
/-- the class's own operator, the other value of a built-in type -/
theorem own_left {op : Operator} {sym nm : String} (ei : op.info = (sym, nm)) (O : OwnOp X.K C f nm) (F : FnOk X.prog X.w X.K X.mg X.base CX n f fd ps sp) (hb : Binds X.K fd ps []) (room : Room n X.A) (pa : Passes CX X E) :
    OpR X (binaryOp op) (rOwn C sp E fun y H => ∃ T, TyX X.K H y (.type T) ∧ ∃ fo ro, TyOp X.K C T nm fo ro) := by
  intro pins s σ H x y v u Q I rx ry ⟨a, dx, fs, ex, ha, ⟨T, ty, ⟨fo, ro, tf, tr, tsub⟩⟩, q⟩
  subst ex
  cases (show v = Value.ref a from rx)
  have back := call_back F hb room pa I rx ry q
  obtain ⟨_, J, _⟩ := ins_get I.hok ha
  obtain ⟨od, J, _⟩ := J.look
  have inK : X.K.In s.heap := I.kIn
  obtain ⟨cd, rest, hcd, hm⟩ := ksp_first O.first
  have one := ksp_try inK J O.at_ O.isF back
  have tyU := ty_of I ry ty (model X.prog X.w)
  obtain ⟨rc, hrc, hp⟩ : ∃ rc, findIn X.K (.ref C) (dunderR nm) = some rc ∧ (rc = none ∨ ∃ g : Addr, rc = some (.ref g)) := by
    rcases O.rc with h | ⟨g, h⟩
    · exact ⟨_, h, .inl rfl⟩
    · exact ⟨_, h, .inr ⟨g, rfl⟩⟩
  have cn := ref_ne_type C T
  have oat := O.at_
  clear back I q ha
  obtain ⟨hh, g, d, tt, os⟩ := s
  have k1 : Looks (model X.prog X.w) hh (typeOf (.ref a)) (.ref C) := J.type
  have k2 : Looks (model X.prog X.w) hh (typeOf u) (.type T) := tyU
  have k3 : Looks (model X.prog X.w) hh (fillsNumberSlot (.ref C) nm) true := fills_K inK hcd hm oat
  have k4 := ksp_fillsT (M := model X.prog X.w) inK tf tr
  have k5 : Looks (model X.prog X.w) hh (isSubtype (.type T) (.ref C)) false := looks_subIn inK tsub
  have k6 : Looks (model X.prog X.w) hh (numberSlotInPython (.ref C) nm) true := ksp_inPy inK oat hrc hp
  have k7 : Looks (model X.prog X.w) hh (numberSlotInPython (.type T) nm) false := Looks.of_pure rfl
  have k8 : Looks (model X.prog X.w) hh (typeLookup (.type T) (dunderR nm)) ro := looks_findIn inK tr
  generalize ((fo.isSome && !isSeqSlot fo) || (ro.isSome && !isSeqSlot ro)) = both at k4
  simp only [binaryOp, ei]
  refine wpAny_holding (wpAny_bind ?_)
  unfold binaryOp1
  refine wpAny_bind (k1.at (wpAny_bind (k2.at (wpAny_bind (k3.at ?_)))))
  simp only [cn, Bool.false_eq_true, if_false]
  cases both <;> ksp_lk <;> (
    refine wpAny_mono one (fun r s' hr' => ?_) fun _ _ e => e
    obtain ⟨z, rfl, hq⟩ := hr'
    ksp_lk
    exact hq)
/-- the class's own reflected operator; the left value's type has none for numbers -/
theorem own_right {op : Operator} {sym nm : String} (ei : op.info = (sym, nm)) (O : OwnOp X.K C g nm) (at_ : findIn X.K (.ref C) (dunderR nm) = some (some (.ref f))) (isF : isFn X.K (.ref f) = true) (F : FnOk X.prog X.w X.K X.mg X.base CX n f fd ps sp) (hb : Binds X.K fd ps []) (room : Room n X.A) (pa : Passes CX X E) :
    OpR X (binaryOp op) (fun x y H Q => rOwn C sp E (fun x H => ∃ T, TyX X.K H x (.type T) ∧ ∃ fo ro, TyOp X.K C T nm fo ro ∧ ((fo.isSome && !isSeqSlot fo) || (ro.isSome && !isSeqSlot ro)) = false) y x H Q) := by
  intro pins s σ H x y v u Q I rx ry ⟨a, dx, fs, ex, ha, ⟨T, ty, fo, ro, ⟨tf, tr, tsub⟩, bth⟩, q⟩
  subst ex
  cases (show u = Value.ref a from ry)
  have back := call_back F hb room pa I ry rx q
  obtain ⟨_, J, _⟩ := ins_get I.hok ha
  obtain ⟨od, J, _⟩ := J.look
  have inK : X.K.In s.heap := I.kIn
  obtain ⟨cd, rest, hcd, hm⟩ := ksp_first O.first
  have one := ksp_try inK J at_ isF back
  have tyV := ty_of I rx ty (model X.prog X.w)
  have cn := type_ne_ref C T
  have oat := O.at_
  clear back I q ha
  obtain ⟨hh, g, d, tt, os⟩ := s
  have k1 : Looks (model X.prog X.w) hh (typeOf (.ref a)) (.ref C) := J.type
  have k2 : Looks (model X.prog X.w) hh (typeOf v) (.type T) := tyV
  have k3 : Looks (model X.prog X.w) hh (fillsNumberSlot (.ref C) nm) true := fills_K inK hcd hm oat
  have k4 := ksp_fillsT (M := model X.prog X.w) inK tf tr
  rw [bth] at k4
  simp only [binaryOp, ei]
  refine wpAny_holding (wpAny_bind ?_)
  unfold binaryOp1
  refine wpAny_bind (k2.at (wpAny_bind (k1.at (wpAny_bind (k4.at ?_)))))
  simp only [cn, Bool.false_eq_true, if_false]
  ksp_lk
  refine wpAny_mono one (fun r s' hr' => ?_) fun _ _ e => e
  obtain ⟨z, rfl, hq⟩ := hr'
  ksp_lk
  exact hq
/-- what the number's own + says beside such an instance -/
theorem int_dec {M : Model} {A : Around} {Er : Value → Shared → Prop} {s : Shared} {Q : PySem.Fin → Shared → Prop} {v : Value} {x : Int} {b : Addr} {C dx : Addr} (hv : asInt? v = pure (some x)) (at1 : s.heap.get? b = some (W.instObj C dx)) (q : Q (.done (.ret .notImplemented)) s) :
    wpAny M A (Builtin.«int.__add__» ⟨[v, .ref b], []⟩) Q Er s := by
  unfold Builtin.«int.__add__» Builtin.Int.intBinary Builtin.Int.intOfSelf
  simp only [slotArgs, List.isEmpty_nil, Bool.not_true, Bool.false_eq_true, if_false, List.length_singleton, bne_self_eq_false, List.headD_cons]
  refine wpAny_bind (wpAny_pure ?_)
  rw [hv]
  refine wpAny_bind (wpAny_bind (wpAny_pure (wpAny_pure ?_)))
  simp only [asInt?]
  refine wpAny_bind (wpAny_bind (wpAny_load at1 ?_))
  refine wpAny_pure ?_
  exact wpAny_bind (wpAny_rule (wpAny_pure q))
theorem add_declines {A : Around} {Er : Value → Shared → Prop} {s : Shared} {v : Value} {T : String} {b : Addr} {C dx : Addr} (h : (∃ i t, v = .int i t ∧ T = "int") ∨ ∃ y, v = .bool y ∧ T = "bool") (at1 : s.heap.get? b = some (W.instObj C dx)) :
    wpAny (model X.prog X.w) A (tryMethod v (PySem.dunder "add") (.ref b)) (fun r s' => r = none ∧ s' = s) Er s := by
  rcases h with ⟨i, t, rfl, rfl⟩ | ⟨y, rfl, rfl⟩
  · refine wpAny_tryMethod_declines (T := "int") (id := "int.__add__") (name := PySem.dunder "add") ?_ PySem.F.slot_int_add ?_
    · exact typeIs_int s i t
    refine wpAny_call (codeAny_call_builtin PySem.F.slot_int_add.plain PySem.F.entry_int_add (PySem.F.slot_int_add.check (model X.prog X.w) _ _ s (.int i t) [.ref b] [] _ (typeIs_int s i t) (PySem.F.args_int_add_2 _ _) ?_))
    exact int_dec rfl at1 ⟨rfl, rfl, rfl⟩
  · refine wpAny_tryMethod_declines (T := "bool") (id := "int.__add__") (name := PySem.dunder "add") ?_ PySem.F.slot_bool_add ?_
    · rfl
    refine wpAny_call (codeAny_call_builtin PySem.F.slot_bool_add.plain PySem.F.entry_int_add (PySem.F.slot_bool_add.check (model X.prog X.w) _ _ s (.bool y) [.ref b] [] _ (by rfl) (PySem.F.args_int_add_2 _ _) ?_))
    exact int_dec rfl at1 ⟨rfl, rfl, rfl⟩
/-- number + instance, by the class's __radd__ -/
theorem own_rnum (O : OwnOp X.K C g "add") (at_ : findIn X.K (.ref C) (dunderR "add") = some (some (.ref f))) (isF : isFn X.K (.ref f) = true) (F : FnOk X.prog X.w X.K X.mg X.base CX n f fd ps sp) (hb : Binds X.K fd ps []) (room : Room n X.A) (pa : Passes CX X E) :
    OpR X (binaryOp .Add) (fun x y H Q => rOwn C sp E (fun x H => ((∃ i, x = .int i) ∨ ∃ b, x = .bl b) ∧ (∃ fo ro, TyOp X.K C "int" "add" fo ro ∧ ((fo.isSome && !isSeqSlot fo) || (ro.isSome && !isSeqSlot ro)) = true) ∧ (∃ fo ro, TyOp X.K C "bool" "add" fo ro ∧ ((fo.isSome && !isSeqSlot fo) || (ro.isSome && !isSeqSlot ro)) = true) ∧ subIn X.K (.ref C) (.type "int") = some false ∧ subIn X.K (.ref C) (.type "bool") = some false) y x H Q) := by
  intro pins s σ H x y v u Q I rx ry ⟨a, dx, fs, ex, ha, ⟨num, ti, tb, si, sb⟩, q⟩
  subst ex
  cases (show u = Value.ref a from ry)
  have back := call_back F hb room pa I ry rx q
  obtain ⟨_, J, _⟩ := ins_get I.hok ha
  obtain ⟨od, J, _⟩ := J.look
  have inK : X.K.In s.heap := I.kIn
  obtain ⟨cd, rest, hcd, hm⟩ := ksp_first O.first
  have one := ksp_try inK J at_ isF back
  obtain ⟨T, hT, hv, fo, ro, ⟨tf, tr, tsub⟩, bth, sT⟩ : ∃ T, typeOf v = pure (.type T) ∧ ((∃ i t, v = .int i t ∧ T = "int") ∨ ∃ y, v = .bool y ∧ T = "bool") ∧ ∃ fo ro, TyOp X.K C T "add" fo ro ∧ ((fo.isSome && !isSeqSlot fo) || (ro.isSome && !isSeqSlot ro)) = true ∧ subIn X.K (.ref C) (.type T) = some false := by
    rcases num with ⟨i, rfl⟩ | ⟨b, rfl⟩
    · obtain ⟨t, rfl⟩ : ∃ t, v = Value.int i t := rx
      obtain ⟨fo, ro, h1, h2⟩ := ti
      exact ⟨"int", rfl, .inl ⟨i, t, rfl, rfl⟩, fo, ro, h1, h2, si⟩
    · cases (show v = Value.bool b from rx)
      obtain ⟨fo, ro, h1, h2⟩ := tb
      exact ⟨"bool", rfl, .inr ⟨b, rfl, rfl⟩, fo, ro, h1, h2, sb⟩
  have dec := add_declines (X := X) (A := X.A) (Er := X.xe) hv J.at_
  have cn := type_ne_ref C T
  have oat := O.at_
  clear back I q ha ti tb
  obtain ⟨hh, gg, d, tt, os⟩ := s
  have k1 : Looks (model X.prog X.w) hh (typeOf (.ref a)) (.ref C) := J.type
  have k2 : Looks (model X.prog X.w) hh (typeOf v) (.type T) := Looks.of_pure hT
  have k3 : Looks (model X.prog X.w) hh (fillsNumberSlot (.ref C) "add") true := fills_K inK hcd hm oat
  have k4 := ksp_fillsT (M := model X.prog X.w) inK tf tr
  rw [bth] at k4
  have k5 : Looks (model X.prog X.w) hh (isSubtype (.ref C) (.type T)) false := looks_subIn inK sT
  have k7 : Looks (model X.prog X.w) hh (numberSlotInPython (.type T) "add") false := Looks.of_pure rfl
  have ei : Operator.Add.info = ("+", "add") := rfl
  simp only [binaryOp, ei]
  refine wpAny_holding (wpAny_bind ?_)
  unfold binaryOp1
  refine wpAny_bind (k2.at (wpAny_bind (k1.at (wpAny_bind (k4.at ?_)))))
  simp only [cn, Bool.false_eq_true, if_false]
  ksp_lk
  refine wpAny_mono dec (fun r s' hr' => ?_) fun _ _ e => e
  obtain ⟨rfl, rfl⟩ := hr'
  ksp_lk
  refine wpAny_mono one (fun r s' hr' => ?_) fun _ _ e => e
  obtain ⟨z, rfl, hq⟩ := hr'
  ksp_lk
  exact hq
/-- o[i] by the class's own __getitem__ -/
theorem pe_own_item {ea eb : Expr} {ta tb : TE} {pos : Pos} (at_ : findIn X.K (.ref C) "__getitem__" = some (some (.ref f))) (isF : isFn X.K (.ref f) = true) (fi : fnIn X.K f = true) (F : FnOk X.prog X.w X.K X.mg X.base CX n f fd ps sp) (hb : Binds X.K fd ps []) (room : Room (n + 1) X.A) (pa : Passes CX X E)
    (ha : PE X ea ta) (hb' : PE X eb tb) (hs : ∀ o i, subscripted eb true o i = runValue (.builtin "lifetime.subscript" ⟨[o, i], []⟩) := by intros; rfl) : PE X (.Subscript ea eb pos) (tOp (rOwn C sp E fun _ _ => True) ta tb) := by
  refine ⟨fun pins s σ H Q I h => Subscript_ (binT ha hb' I h fun v u s2 x y H2 I2 rx ry q => ?_)⟩
  clear h I
  obtain ⟨a, dx, fs, ex, ha, _, q⟩ := q
  subst ex
  cases (show v = Value.ref a from rx)
  obtain ⟨_, J, _⟩ := ins_get I2.hok ha
  obtain ⟨od, J, _⟩ := J.look
  obtain ⟨m, hF⟩ := I2.fr
  have bs := hb s2 [.ref a, u] I2.kIn (by rw [List.append_nil]; exact F.len _ _ _ _ q)
  refine sub_K hF I2.ok.mod.kin J at_ fi isF ?_ (hs _ _)
  refine wpAny_call (codeAny_mono (F.run X.A.in1 X.stack s2 H2 ⟨[.ref a, u], []⟩ [.ref a, u] [.ref a, y] Q E room.in1 I2.env0.in1 bs (.cons rfl (.cons ry .nil)) q) ?_)
  rintro (e | fl) s' h
  · exact pa pins σ H2 s2 e s' I2 h
  cases fl with
  | next => exact (show False from h).elim
  | brk => exact (show False from h).elim
  | cont => exact (show False from h).elim
  | ret r => exact I2.after h
/-- what follows an own def that runs one level up -/
theorem run_up {pins : List (Addr × Obj)} {σ : L2.St} {H : Hp} {s : Shared} {Q : VK} {us : List Value} {vs : List V} (F : FnOk X.prog X.w X.K X.mg X.base CX n f fd ps sp) (hb : Binds X.K fd ps []) (room : Room (n + 1) X.A) (pa : Passes CX X E) (I : L2.Inv X pins σ H s) (r : Vals vs us) (q : sp vs H Q E) :
    wpAny (model X.prog X.w) X.A.in1 (call (.ref f) us) (EP X pins σ Q) X.xe s := by
  have bs := hb s us I.kIn (by rw [List.append_nil, ← r.length]; exact F.len _ _ _ _ q)
  rw [List.append_nil] at bs
  refine wpAny_call (codeAny_mono (F.run X.A.in1 X.stack s H ⟨us, []⟩ us vs Q E room.in1 I.env0.in1 bs r q) ?_)
  rintro (e | fl) s' h
  · exact pa pins σ H s e s' I h
  cases fl with
  | next => exact (show False from h).elim
  | brk => exact (show False from h).elim
  | cont => exact (show False from h).elim
  | ret r => exact I.after h
/-- len(o) by the class's own __len__ -/
theorem own_len (at_ : findIn X.K (.ref C) "__len__" = some (some (.ref f))) (isF : isFn X.K (.ref f) = true) (F : FnOk X.prog X.w X.K X.mg X.base CX n f fd ps sp) (hb : Binds X.K fd ps []) (room : Room (n + 1) X.A) (pa : Passes CX X E) :
    CallR X (.builtin "len") (fun xs H Q => ∃ (a dx : Addr) (fs : List (Str × V)), xs = [.ref a] ∧ H a = some (.ins C dx fs) ∧ sp [.ref a] H (fun z H' => ∃ m : Nat, z = .int (m : Int) ∧ m < 2 ^ 60 ∧ Q (.int (m : Int)) H') E) := by
  intro pins s σ H xs us Q I rel ⟨a, dx, fs, ex, ha, q⟩
  subst ex
  obtain ⟨u, rfl, ru⟩ := rel.one
  cases (show u = Value.ref a from ru)
  obtain ⟨_, J, _⟩ := ins_get I.hok ha
  obtain ⟨od, J, _⟩ := J.look
  obtain ⟨m, hF⟩ := I.fr
  refine len_K hF I.ok.mod.kin J at_ isF (wpAny_mono (run_up (us := [.ref a]) (vs := [.ref a]) F hb room pa I (.cons rfl .nil) q) ?_ fun _ _ e => e)
  rintro r s' ⟨z, H', I', rz, k, rfl, hk, qz⟩
  obtain ⟨t, rfl⟩ : ∃ t, r = Value.int (k : Int) t := rz
  exact ⟨⟨by omega, by omega⟩, .int (k : Int), H', I'.tok _, ⟨_, rfl⟩, qz⟩
/-- x in o by the class's own __contains__ -/
theorem own_in (at_ : findIn X.K (.ref C) "__contains__" = some (some (.ref f))) (isF : isFn X.K (.ref f) = true) (F : FnOk X.prog X.w X.K X.mg X.base CX n f fd ps sp) (hb : Binds X.K fd ps []) (room : Room n X.A) (pa : Passes CX X E) :
    OpR X (compareOp .In) (fun x y H Q => ∃ (a dx : Addr) (fs : List (Str × V)), y = .ref a ∧ H a = some (.ins C dx fs) ∧ sp [.ref a, x] H (fun z H' => ∃ t, z = .bl t ∧ Q (.bl t) H') E) := by
  intro pins s σ H x y v u Q I rx ry ⟨a, dx, fs, ex, ha, q⟩
  subst ex
  cases (show u = Value.ref a from ry)
  obtain ⟨_, J, _⟩ := ins_get I.hok ha
  obtain ⟨od, J, _⟩ := J.look
  obtain ⟨m, hF⟩ := I.fr
  refine in_K hF I.ok.mod.kin J at_ isF (wpAny_mono (run_fn (us := [.ref a, v]) (vs := [.ref a, x]) F room hb .nil pa I (.cons rfl (.cons rx .nil)) q) ?_ fun _ _ e => e)
  rintro r s' ⟨z, H', I', rz, t, rfl, qz⟩
  cases (show r = Value.bool t from rz)
  exact wpAny_truthy_bool ⟨.bl t, H', I', rfl, qz⟩
theorem own_notIn (at_ : findIn X.K (.ref C) "__contains__" = some (some (.ref f))) (isF : isFn X.K (.ref f) = true) (F : FnOk X.prog X.w X.K X.mg X.base CX n f fd ps sp) (hb : Binds X.K fd ps []) (room : Room n X.A) (pa : Passes CX X E) :
    OpR X (compareOp .NotIn) (fun x y H Q => ∃ (a dx : Addr) (fs : List (Str × V)), y = .ref a ∧ H a = some (.ins C dx fs) ∧ sp [.ref a, x] H (fun z H' => ∃ t, z = .bl t ∧ Q (.bl (!t)) H') E) := by
  intro pins s σ H x y v u Q I rx ry ⟨a, dx, fs, ex, ha, q⟩
  subst ex
  cases (show u = Value.ref a from ry)
  obtain ⟨_, J, _⟩ := ins_get I.hok ha
  obtain ⟨od, J, _⟩ := J.look
  obtain ⟨m, hF⟩ := I.fr
  refine notIn_K hF I.ok.mod.kin J at_ isF (wpAny_mono (run_fn (us := [.ref a, v]) (vs := [.ref a, x]) F room hb .nil pa I (.cons rfl (.cons rx .nil)) q) ?_ fun _ _ e => e)
  rintro r s' ⟨z, H', I', rz, t, rfl, qz⟩
  cases (show r = Value.bool t from rz)
  exact wpAny_truthy_bool ⟨.bl (!t), H', I', rfl, qz⟩
/-- o[i] = v by the class's own __setitem__ -/
theorem own_set (at_ : findIn X.K (.ref C) "__setitem__" = some (some (.ref f))) (isF : isFn X.K (.ref f) = true) (nq : noSeq X.K C = true) (F : FnOk X.prog X.w X.K X.mg X.base CX n f fd ps sp) (hb : Binds X.K fd ps []) (room : Room n X.A) (pa : Passes CX X E) :
    PSet X (fun x i v H Q => ∃ (a dx : Addr) (fs : List (Str × V)), x = .ref a ∧ H a = some (.ins C dx fs) ∧ sp [.ref a, i, v] H (fun _ H' => Q H') E) := by
  intro pins s σ H o i v ov iv u Q I ro ri rv ⟨a, dx, fs, ex, ha, q⟩
  subst ex
  cases (show ov = Value.ref a from ro)
  obtain ⟨_, J, _⟩ := ins_get I.hok ha
  obtain ⟨od, J, _⟩ := J.look
  obtain ⟨m, hF⟩ := I.fr
  refine ksp_setItem hF I.ok.mod.kin J nq at_ isF (wpAny_mono (run_fn (us := [.ref a, iv, u]) (vs := [.ref a, i, v]) F room hb .nil pa I (.cons rfl (.cons ri (.cons rv .nil))) q) ?_ fun _ _ e => e)
  rintro r s' ⟨z, H', I', rz, qz⟩
  exact ⟨H', I', qz⟩
/-- o op= v by the class's own def -/
theorem own_ip {op : Operator} (first : selfFirst X.K C = true) (at_ : findIn X.K (.ref C) (dunderI op.info.2) = some (some (.ref f))) (isF : isFn X.K (.ref f) = true) (F : FnOk X.prog X.w X.K X.mg X.base CX n f fd ps sp) (hb : Binds X.K fd ps []) (room : Room n X.A) (pa : Passes CX X E) :
    PIp X op (fun x y H Q => rOwn C sp E (fun _ _ => True) x y H Q) := by
  intro pins s σ H x y v u Q I rx ry ⟨a, dx, fs, ex, ha, _, q⟩
  subst ex
  cases (show v = Value.ref a from rx)
  obtain ⟨_, J, _⟩ := ins_get I.hok ha
  obtain ⟨od, J, _⟩ := J.look
  obtain ⟨m, hF⟩ := I.fr
  exact ksp_inplace hF I.ok.mod.kin J first at_ isF (call_back F hb room pa I rx ry q)
end
end OW

/-! An own error right over LookupError whose __init__ is walked as a def (the library's rules speak of ValueError alone). -/
namespace OL
open PySem PySem.W PySem.Spec PySem.Calls PyProof.Rows
abbrev leMro : List Value := [.type "LookupError", .type "Exception", .type "BaseException", .type "object"]
section
open Builtin Builtin.ObjectAttr
variable {pr : Program} {wo : World} {Ar : Around} {Rs : Result → Shared → Prop} {G : Heap} {gs : Array GenState} {dr : Drawn} {tk : Nat} {ost : OsState}
/-- the first field of such an error -/
theorem first_field {K0 : Frag} {fn : Str} {ft : Tok} {u : Value} {x D : Addr} {fv : Array Value} {cd : ClassData}
    (inF : K0.In G) (at_ : G.get? x = some { cls := .ref D, data := .fields fv }) (isD : W.clsIn K0 D = some cd) (mro : cd.mro = .ref D :: leMro) (own : cd.hasDict = true) (no : W.findIn K0 (.ref D) fn = some none)
    (fin : ∀ G' t2 dx, (∀ b o, b ≠ x → G.get? b = some o → G'.get? b = some o) → G.objs.size ≤ dx → dx ≠ x → G'.get? x = some { cls := .ref D, dict := some dx, data := .fields fv } →
      G'.Ns1 dx (fun y => if y = fn then some u else none) → Rs (.ok (.ret .none)) ⟨G', gs, dr, t2, ost⟩) :
    codeAny (model pr wo) Ar (.call (.builtin "object.__setattr__") ⟨[.ref x, .str fn ft, u], []⟩) Rs ⟨G, gs, dr, tk, ost⟩ := by
  have inst : W.InstAt G x { cls := .ref D, data := .fields fv } D none := ⟨at_, rfl, rfl, trivial⟩
  have SO := PySem.F.store_object
  have obj : cd.mro.contains (.type "object") = true := by rw [mro, List.contains_cons]; exact (congrArg _ (by decide +kernel : leMro.contains (.type "object") = true)).trans (Bool.or_true _)
  have apart : x ≠ G.objs.size := Nat.ne_of_lt (Heap.lt_size at_)
  have isObj : W.Looks (model pr wo) G (isInstance (.ref x) (.type "object")) true := inst.type.andThen (W.looks_mroIn inF (by unfold W.mroIn; rw [isD, Option.bind_some, if_neg (by rw [mro]; exact Bool.false_ne_true), obj]))
  refine codeAny_call_builtin SO.slot.plain SO.entry (@W.check_slot (model pr wo) _ _ ⟨G, gs, dr, tk, ost⟩ "object.__setattr__" "object" "__setattr__" (.ref x) [.str fn ft, u] [] _ SO.kind SO.split isObj (SO.args (.ref x) (.str fn ft) u) ?_)
  have line : W.Looks (model pr wo) G (mroOf (.ref D)) cd.mro := (W.looks_clsIn inF isD).andThen .now
  have noTaker : W.Looks (model pr wo) G (storeTaker? none) none := .now
  have cls : W.Looks (model pr wo) G (classData D) cd := W.looks_clsIn inF isD
  rw [W.osa_eq, refuse_eq]
  refine wpAny_bind (wpAny_bind (inst.type.at (wpAny_bind (line.at ?_))))
  rw [mro, refuseLoop_ref, F.store_LookupError.passes]
  refine wpAny_pure (wpAny_bind (inst.type.at (wpAny_bind ((W.looks_findIn inF no).at (wpAny_bind (noTaker.at ?_))))))
  show wpAny _ _ (storeInOwnDict (.ref x) (.ref D) (.str fn ft) fn u false) _ _ _
  obtain ⟨_, _, _, _, _, hd, _, _, _, _, _⟩ := cd
  dsimp only at own
  subst own
  unfold storeInOwnDict ownDictForStores
  repeat (first | with_reducible refine HandSPX.store_in_new ?_ ?_ | with_reducible refine wpAny_loadPart_at at_ ?_ | with_reducible refine cls.at ?_ | wp_step)
  · exact ⟨_, #[], _, (Heap.get?_update_ne _ _ _ _ apart.symm).trans (Heap.get?_push_at rfl rfl), rfl, fun e mem => absurd mem (by simp), fun _ => rfl⟩
  · intro G' t2 ns same
    have at1 : (G.push { cls := .type "dict", data := .dict #[] }).get? x = some { cls := .ref D, data := .fields fv } := Heap.get?_push_of_some _ at_
    refine fin G' t2 G.objs.size (fun b o nb ob => ?_) (Nat.le_refl _) apart.symm ?_ ns
    · exact (same.2 b (Nat.ne_of_lt (Heap.lt_size ob))).trans ((Heap.get?_update_ne _ _ _ _ nb).trans (Heap.get?_push_of_some _ ob))
    · exact (same.2 x apart).trans (Heap.get?_update_self _ at1 rfl)
end
end OL
namespace L2
open PySem PySem.Spec PyProof.Rows
/-- what the text says of an own error right over LookupError -/
structure OexL (F : PySem.W.Frag) (D : Addr) : Prop where
  cls : ∃ nm q N bs sn sub ab col dd m0 m1 m2 m3 m5, F.lookup D = some (excClassObj nm q D N bs OL.leMro true sn sub ab col dd m0 m1 m2 m3 m5 "LookupError.__new__")
  sa : PySem.W.findIn F (.ref D) "__setattr__" = some (some (.builtin "object.__setattr__"))
  exC : PySem.W.subIn F (.ref D) (.type "BaseException") = some true
  tyC : PySem.W.typeIn F (.ref D) = some (.type "type")
  kC : PySem.W.keepIn F (.ref D) = true
/-- like ErrC, over LookupError -/
structure ErrL (F : PySem.W.Frag) (gl : Str → Option Value) (x n : Str) (D fI : Addr) : Prop where
  ox : OexL F D
  iC : PySem.W.findIn F (.ref D) "__init__" = some (some (.ref fI))
  tI : PySem.W.typeIn F (.ref fI) = some (.type "function")
  no : PySem.W.findIn F (.ref D) n = some none
  mgC : gl x = some (.ref D)
section
variable {X : Cx} {pins : List (Addr × Obj)} {σ : St} {H : Hp} {s : Shared} {a D : Addr} {fn : Str} {y : V} {u : Value} {G : Unit → Shared → Prop} {Er : Value → Shared → Prop} {Ar : Around}
theorem osl_new (T : OexL X.K D) (inv : Inv X pins σ H s) (at_ : H a = some (exo a D none)) (no : PySem.W.findIn X.K (.ref D) fn = some none) (rel : RelV y u)
    (fin : ∀ dx s', H dx = none → dx ≠ a → Inv X pins σ (upd (upd H dx (exd dx [(fn, y)])) a (exo a D (some dx))) s' → G () s') : wpAny (model X.prog X.w) Ar (setAttr (.ref a) fn u) G Er s := by
  obtain ⟨nm, q, N, bs, sn, sub, ab, col, dd, m0, m1, m2, m3, m5, lk⟩ := T.cls
  have isD : PySem.W.clsIn X.K D = some { name := nm, bases := bs, mro := .ref D :: OL.leMro, ns := N, qualname := q, hasDict := true, slotNames := sn, subclasses := sub, abstract := ab, collection := col, hasDel := false } := by
    unfold PySem.W.clsIn
    rw [lk] <;> rfl
  obtain ⟨t1, here⟩ := exo_at inv.hok at_
  obtain ⟨hp, gs, dr, tk, ost⟩ := s
  refine PySem.W.set_plain inv.kIn (ox := { cls := .ref D, dict := none, data := .fields #[.ref t1, .none, .none, .none, .bool false, .none] }) (od := none) ⟨here, rfl, rfl, trivial⟩ T.sa ?_
  refine OL.first_field inv.kIn here isD rfl rfl no (fun hp' tk' dx keeps big off here' ns => ?_)
  have freshD : H dx = none := inv.hok.fresh big
  have offD : ∀ {b : Addr} {o : Obj}, hp.get? b = some o → b ≠ dx := fun {b o} z => Nat.ne_of_lt (Nat.lt_of_lt_of_le (Heap.lt_size z) big)
  have offA : ∀ {b : Addr}, H b = none → b ≠ a := fun {b} n z => by
    rw [z, at_] at n
    cases n
  have un : Un X.fs [] H (upd (upd H dx (exd dx [(fn, y)])) a (exo a D (some dx))) hp hp' := {
    keep := fun b o z n _ _ => keeps b o (offA n) z
    slot := fun b o z n _ _ => ⟨o.slots, keeps b o (offA n) z⟩
    free := fun b o z n _ => (upd_ne (offA n)).trans ((upd_ne (offD z)).trans n)
    there := fun b o z _ => if eb : b = a then ⟨_, eb ▸ here'⟩ else ⟨o, keeps b o eb z⟩
    tups := fun b xs z => (upd_ne (at_ne at_ z exo_tup)).trans ((upd_ne (ne_of_none z freshD)).trans z)
    frzs := fun b o v z => (upd_ne (at_ne at_ z exo_frz)).trans ((upd_ne (ne_of_none z freshD)).trans z)
    tbls := fun b ps z => ⟨#[], ((upd_ne (at_ne at_ z exo_tbl)).trans ((upd_ne (ne_of_none z freshD)).trans z)).trans (by simp)⟩ }
  refine fin dx _ freshD off (inv.un (t' := tk') un fun b o z => ?_)
  by_cases eb : b = a
  · subst eb
    cases upd_same.symm.trans z
    exact exo_ok here'
  by_cases ed : b = dx
  · subst ed
    cases (upd_same.symm.trans (upd_ne eb).symm).trans z
    exact exd_ok ns (relO_put (fs := []) rel fun _ => True.intro)
  have old : H b = some o := (upd_ne ed).symm.trans ((upd_ne eb).symm.trans z)
  refine (inv.hok b o old).stay (fun c v hc lk => keeps c v ?_ lk) (fun c hc => (upd_ne (at_ne at_ hc exo_own)).trans ((upd_ne (ne_of_none hc freshD)).trans hc)) (fun c xs hc => (upd_ne (at_ne at_ hc exo_tup)).trans ((upd_ne (ne_of_none hc freshD)).trans hc))
  rcases hc with rfl | hc
  · exact eb
  · exact at_ne at_ hc exo_own
end
/-- self.f = e, the first field of such an error -/
def tOsl (F : PySem.W.Frag) (fn : Str) (to te : TE) : TS := fun D σ H => te σ H fun y H1 => to σ H1 fun x H2 => ∃ a C : Addr, x = .ref a ∧ OexL F C ∧ PySem.W.findIn F (.ref C) fn = some none ∧
  H2 a = some (exo a C none) ∧ ∀ dx, H2 dx = none → dx ≠ a → D.nx σ (upd (upd H2 dx (exd dx [(fn, y)])) a (exo a C (some dx)))
section
variable {X : Cx} {o e : Expr} {es : List Expr} {to te : TE} {ta : TA} {fn : Str} {p p' pos : Pos}
theorem ps_osl (ho : PE X o to) (he : PE X e te) (sw : swapsWith e (some (.Attribute o fn p')) pos.line X.env = pure false := by rfl) : PS X (.Assign [.Attribute o fn p'] e pos) (tOsl X.K fn to te) := by
  refine ⟨fun pins s σ H D inv want => ?_⟩
  refine plainObj_wpAny_Assign_Attribute (thn (he.run pins s σ H _ inv want) fun v s1 ⟨y, H1, inv1, rel1, q1⟩ => thn (ho.run pins s1 σ H1 _ inv1 q1) fun u s2 ⟨x, H2, inv2, rel2, a, C, ex, T, no, at_, q⟩ => ?_) sw
  subst ex
  obtain rfl : u = Value.ref a := rel2
  exact osl_new T inv2 at_ no rel1 fun dx s' n ne J => ⟨σ, _, J, q dx n ne⟩
theorem pmk_oel {CX : CXT} {x : Str} {D fI : Addr} {k : Nat} {fd : FuncData} {ps : List Str} {sp : Sp} {ds : List Value} {dvs : List V} (T : OexL X.K D) (iC : PySem.W.findIn X.K (.ref D) "__init__" = some (some (.ref fI))) (tI : PySem.W.typeIn X.K (.ref fI) = some (.type "function"))
    (GI : FnOk X.prog X.w X.K X.mg X.base CX k fI fd ps sp) (room : Room (k + 1) X.A) (bd : Binds X.K fd ps ds) (vd : Vals dvs ds) (pass : Passes CX X (fun _ _ _ => False)) (gl : Gl X x) (hm : X.mg x = some (.ref D)) (pa : PA X (e :: es) ta)
    (nb : (x == ("__debug__" : Str)) = false := by decide) (first : starEach (e :: es) X.env = (false, eval e X.env) :: starEach es X.env := by rfl) (plain : (backTo pos (starEach es X.env)).any (·.1) = false := by rfl) :
    PMk X (.Call (.Name x p) (e :: es) [] pos) (tMkO D sp dvs ta) := by
  intro pins s σ H Q inv want
  obtain ⟨nm, q, N, bs, sn, sub, ab, col, dd, m0, m1, m2, m3, m5, lk⟩ := T.cls
  refine wpAny_Call_Name_kw (ld_glob inv gl hm ?_ nb)
  refine PySem.W.callWith_K (h₀ := X.base) inv.ok.mod.kin T.kC (thn (pa.run pos pins s σ H _ inv want) fun us s1 ⟨vs, H1, inv1, rel1, few, q1⟩ => ⟨inv1.kIn, ?_⟩) first plain
  show wpAny _ _ (call (.ref D) us) _ _ _
  obtain ⟨hp, gs, dr, tk, ost⟩ := s1
  have up : hp.objs.size ≤ hp.objs.size + 1 := Nat.le_succ _
  have fresh : H1 (hp.objs.size + 1) = none := inv1.hok.fresh up
  have ask := q1 (hp.objs.size + 1) fresh
  have keeps : ∀ b o, hp.get? b = some o → ((hp.push (PySem.W.kdv_tup us)).push (PySem.HandSPX.excO D hp.objs.size)).get? b = some o := fun b o z => Heap.get?_push_of_some _ (Heap.get?_push_of_some _ z)
  have made : ((hp.push (PySem.W.kdv_tup us)).push (PySem.HandSPX.excO D hp.objs.size)).get? (hp.objs.size + 1) = some (PySem.HandSPX.excO D hp.objs.size) := by heap_get
  have inv2 : Inv X pins σ (upd H1 (hp.objs.size + 1) (exo (hp.objs.size + 1) D none)) ⟨(hp.push (PySem.W.kdv_tup us)).push (PySem.HandSPX.excO D hp.objs.size), gs, dr, tk, ost⟩ :=
    inv1.laid (t' := tk) (a := hp.objs.size + 1) (o := exo (hp.objs.size + 1) D none) (h' := (hp.push (PySem.W.kdv_tup us)).push (PySem.HandSPX.excO D hp.objs.size)) keeps up (exo_ok made)
  have rel2 : Vals (V.ref (hp.objs.size + 1) :: (vs ++ dvs)) (Value.ref (hp.objs.size + 1) :: (us ++ ds)) := .cons rfl (rel1.append vd)
  have lens : (Value.ref (hp.objs.size + 1) :: us ++ ds).length = ps.length := (rel2.length.symm.trans (GI.len _ _ _ _ ask))
  have short : us.length ≤ sizeLine := by
    rw [← Paired.length rel1, sizeLine_eq]
    omega
  refine wpAny_call (PySem.HandSPX.call_own F.excBase_LookupError (fun _ => rfl) (inv1.kIn _ _ lk) (PySem.W.looks_findIn inv1.kIn iC) (fun me => PySem.W.bind_fn inv1.kIn me tI) short
    (codeAny_mono (GI.run _ X.stack _ _ ⟨Value.ref (hp.objs.size + 1) :: us, []⟩ (Value.ref (hp.objs.size + 1) :: (us ++ ds)) _ _ (fun _ _ _ => False) (room.make D us []) (inv2.env0.make D us []) (bd _ (Value.ref (hp.objs.size + 1) :: us) inv2.kIn lens) rel2 ask) fun r s' after => ?_))
  cases r with
  | error er => exact pass pins σ _ _ er s' inv2 after
  | ok fl =>
    cases fl with
    | ret u =>
      obtain ⟨v, H2, os2, bare2, un2, ok2, rv, ev, d, fs, atA, atD, freshD, q2⟩ := after
      subst ev
      obtain ⟨h2, g2, d2, t2, os'⟩ := s'
      exact ⟨rv, mk_end (raises_own T.exC T.tyC) inv1 up keeps un2 ok2 os2 bare2 atA atD freshD q2⟩
    | next => exact False.elim after
    | brk => exact False.elim after
    | cont => exact False.elim after
end
end L2

namespace RL
open PySem L2 SX AddrMath VA PySem.W GR
/-! ## addresses of any values -/
def wV : V → Bool
  | .str z => wrd z
  | _ => false
def strV : V → Str
  | .str z => z
  | _ => Str.empty
theorem wv_vx {K : Frag} {H : Hp} {x : V} {d : PyData} (h : Vx K H x d) : isWordD d = wV x := by
  rcases h with ⟨h, _⟩ | ⟨a, kvs, rfl, _, rfl⟩
  · cases h <;> rfl
  · rfl
theorem wv_str {x : V} (h : wV x = true) : ∃ z, x = .str z ∧ wrd z = true := by
  cases x with
  | str z => exact ⟨z, rfl, h⟩
  | _ => cases h
theorem all_wv : ∀ {xs : List V}, xs.all wV = true → xs = tV (xs.map strV) ∧ (xs.map strV).all wrd = true
  | [], _ => ⟨rfl, rfl⟩
  | x :: r, h => by
    rw [List.all_cons, Bool.and_eq_true] at h
    obtain ⟨z, rfl, hz⟩ := wv_str h.1
    obtain ⟨e1, e2⟩ := all_wv h.2
    refine ⟨?_, ?_⟩
    · show V.str z :: r = V.str z :: tV (r.map strV)
      rw [← e1]
    · show (wrd z && (r.map strV).all wrd) = true
      rw [hz, e2]
      rfl
theorem wv_tv : ∀ ss : List Str, (tV ss).all wV = ss.all wrd
  | [] => rfl
  | z :: r => by
    show (wrd z && (tV r).all wV) = (wrd z && r.all wrd)
    rw [wv_tv r]
theorem str_tv : ∀ ss : List Str, (tV ss).map strV = ss
  | [] => rfl
  | z :: r => by
    show z :: (tV r).map strV = z :: r
    rw [str_tv r]
/-- the words that a value lists, if it is a list of words -/
def wordsV (xs : List V) : Option (List Str) := if xs.all wV then some (xs.map strV) else none
def PX (K : Frag) (H : Hp) (v : V) (o : Option (List Str)) : Prop := (∃ d, Vx K H v d ∧ isSeqD d = false ∧ o = none) ∨ ∃ a xs, v = .ref a ∧ SqA K H a xs ∧ xs.length ≤ 1000 ∧ (∀ x ∈ xs, ∃ d, Vx K H x d) ∧ o = wordsV xs
theorem PX.same {K : Frag} {H H' : Hp} {v : V} {o : Option (List Str)} (h : PX K H v o) (s : Same H H') : PX K H' v o := by
  rcases h with ⟨d, h1, h2, h3⟩ | ⟨a, xs, h1, h2, h3, h4, h5⟩
  · exact .inl ⟨d, h1.same s, h2, h3⟩
  · exact .inr ⟨a, xs, h1, h2.same s, h3, fun x hx => by
      obtain ⟨d, hd⟩ := h4 x hx
      exact ⟨d, hd.same s⟩, h5⟩
theorem px_words {K : Frag} {H : Hp} {a : Addr} {ss : List Str} (h : SqA K H a (tV ss)) (few : ss.length ≤ 1000) (w : ss.all wrd = true) : PX K H (.ref a) (some ss) := .inr ⟨a, _, rfl, h, by rw [List.length_map]; exact few, fun x hx => by
  obtain ⟨z, hz, rfl⟩ := List.mem_map.mp hx
  exact ⟨_, str_vx (List.all_eq_true.mp w z hz)⟩, by
    unfold wordsV
    rw [wv_tv, if_pos w, str_tv]⟩
/-- a text, a number, .. beside the path: any value behind the words -/
theorem wordsV_snoc {ss : List Str} (w : ss.all wrd = true) (x : V) : wordsV (tV ss ++ [x]) = if wV x then some (ss ++ [strV x]) else none := by
  unfold wordsV
  rw [List.all_append, wv_tv, w, Bool.true_and, List.map_append, str_tv]
  show (if (wV x && true) = true then some (ss ++ [strV x]) else none) = _
  rw [Bool.and_true]
theorem wordsV_cons {ss : List Str} (w : ss.all wrd = true) (x : V) : wordsV (x :: tV ss) = if wV x then some (strV x :: ss) else none := by
  unfold wordsV
  rw [List.all_cons, wv_tv, w, Bool.and_true, List.map_cons, str_tv]
section
variable {P : Program} {w : World} {K : Frag} {mg : Str → Option Value} {base : Heap}
/-! ### is_index: slots value 0, many 1 -/
abbrev sIsIndex : Stmt := top 9
def idxV (x : V) (m : Nat) : Bool := match x with
  | .int i => decide (0 ≤ i) && decide (i < m)
  | _ => false
def spIsIndex (K : Frag) : Sp := fun vs H Q _ => ∃ x d m, vs = [x, .int (m : Nat)] ∧ Vx K H x d ∧ Q (.bl (idxV x m)) H
theorem scIsIndex : FnScope ["value", "many"] ["value", "many"] (defScope sIsIndex) := ⟨rfl, rfl, rfl, by decide +kernel, rfl, by decide +kernel, by decide +kernel⟩
theorem ok_isindex {f : Addr} {fd : FuncData} (F : Fun K "is_index" "is_index" sIsIndex f fd) (is_integer : Own P w K mg base CX0 1 "is_integer" ["value"] (spIsInt K)) : FnOk P w K mg base CX0 2 f fd ["value", "many"] (spIsIndex K) := by
  refine F.ok scIsIndex (fun vs H Q E h => ?_) (fun cdv A outer s H vs Q E hr h => ?_)
  · obtain ⟨x, d, m, rfl, _⟩ := h
    rfl
  · obtain ⟨x, d, m, rfl, hx, q⟩ := h
    refine ⟨_, (pss_one (ps_ret (pe_and (pe_call is_integer.g hr rfl is_integer.mg is_integer.kp is_integer.b .nil pass0 (pa_cons (pv 0) pa_nil)) (pe_one (pe_chain op_le op_lt pe_int (pv 0) (pv 1)))))), ?_⟩
    refine ⟨_, rfl, x, d, rfl, hx, _, rfl, if_is (fun e => ?_) (fun e => ?_)⟩
    · obtain ⟨i, rfl⟩ : ∃ i, x = .int i := by
        rcases hx with ⟨h, _⟩ | ⟨a, kvs, rfl, _, rfl⟩
        · cases h <;> first | exact ⟨_, rfl⟩ | cases e
        · cases e
      refine ⟨_, rfl, _, _, rfl, rfl, _, rfl, if_is (fun h1 => ?_) (fun h1 => ?_)⟩
      · refine ⟨_, rfl, _, _, rfl, rfl, ?_⟩
        have : idxV (.int i) m = decide (i < (m : Int)) := by
          show (decide (0 ≤ i) && decide (i < (m : Int))) = _
          rw [show decide (0 ≤ i) = true from h1, Bool.true_and]
        rw [this] at q
        exact q
      · have : idxV (.int i) m = false := by
          show (decide (0 ≤ i) && decide (i < (m : Int))) = false
          rw [show decide (0 ≤ i) = false from h1, Bool.false_and]
        rw [this] at q
        exact q
    · have : idxV x m = false := by
        rcases hx with ⟨h, _⟩ | ⟨a, kvs, rfl, _, rfl⟩
        · cases h <;> first | rfl | cases e
        · rfl
      rw [this] at q
      exact q
/-! ### are_words, of any value: slots value 0, item 1 -/
def spAreW (K : Frag) : Sp := fun vs H Q _ => ∃ v o, vs = [v] ∧ PX K H v o ∧ ∀ H', Same H H' → Q (.bl o.isSome) H'
theorem ok_arew {f : Addr} {fd : FuncData} (F : Fun K "are_words" "are_words" sAreWords f fd) (B : Blt mg) (is_word : Own P w K mg base CX0 1 "is_word" ["value"] (spIsWord K)) :
    FnOk P w K mg base CX0 2 f fd ["value"] (spAreW K) := by
  refine F.ok scAreWords (fun vs H Q E h => ?_) (fun cdv A outer s H vs Q E hr h => ?_)
  · obtain ⟨v, o, rfl, _⟩ := h
    rfl
  · obtain ⟨v, o, rfl, hv, q⟩ := h
    refine ⟨_, (pss_one (ps_ret (pe_and (pe_callB call_isiT (by rfl) B.isinstance_ (by decide +kernel) (pa_cons (pv 0) (pa_cons (pe_tup (pa_cons (pe_bltn (v := .ty "list") (by rfl) B.list_ (by decide +kernel) rfl) (pa_cons (pe_bltn (v := .ty "tuple") (by rfl) B.tuple_ (by decide +kernel) rfl) pa_nil))) pa_nil))) (pe_one (pe_callB (cr_all rfl) (by rfl) B.all_ (by decide +kernel) (pa_cons (pe_lc (own := [("item", 1)]) (g := gName 1) (tt := tYes) rfl scAreWords.nd (pi_seq (pv 0))
          (blkOk_by (own := [("item", 1)]) (N := ["value", "item"]) (sc := defScope sAreWords) (by decide +kernel))
          (fun _ _ _ _ _ => (pg_name (i := 1) scAreWords.nd rfl (Or.inl rfl))) (fun _ _ _ _ _ => pts_nil)
          (fun _ _ _ _ _ => (pe_call is_word.g (hr.mono (by decide)) rfl is_word.mg is_word.kp is_word.b .nil pass0 (pa_cons (pv 1) pa_nil)))) pa_nil)))))), ?_⟩
    refine ⟨_, rfl, by show 2 ≤ sizeLine; decide, fun t nt => ?_⟩
    have s1 : Same H (upd H t (.tup [.ty "list", .ty "tuple"])) := same_new nt
    have ht : (upd H t (.tup [.ty "list", .ty "tuple"])) t = some (.tup [.ty "list", .ty "tuple"]) := upd_same
    generalize upd H t (.tup [.ty "list", .ty "tuple"]) = H1 at s1 ht ⊢
    rcases hv.same s1 with ⟨d, hd, nd, rfl⟩ | ⟨a, xs, rfl, ha, few, hx, rfl⟩
    · refine ⟨_, t, _, _, [.type "list", .type "tuple"], isSeqD d, rfl, ht, .cons (.ty "list") (.cons (.ty "tuple") .nil), hd.ty, kitSeq d, _, rfl, ?_⟩
      rw [nd]
      exact iteF (q _ s1)
    · have ty : ∃ (T : String), TyX K H1 (.ref a) (.type T) ∧ PySem.W.kitAny K (.type T) [.type "list", .type "tuple"] = some true := by
        rcases ha with h | h
        · exact ⟨"list", sql_ty h, kitSeq (.list [])⟩
        · exact ⟨"tuple", sqt_ty h, kitSeq (.tuple [])⟩
      obtain ⟨T, t1, t2⟩ := ty
      refine ⟨_, t, _, _, [.type "list", .type "tuple"], true, rfl, ht, .cons (.ty "list") (.cons (.ty "tuple") .nil), t1, t2, _, rfl, ?_⟩
      refine iteT ⟨_, rfl, ?_⟩
      refine seq_map ha few (fun _ => true) (fun x => .bl (wV x)) ?hw (fun x hm H2 s2 => ⟨fun R hR => no_test hR, fun _ H3 s3 R hR => ?_⟩) fun D H2 nD hD s2 => ?_
      case hw => intro _; rfl
      · obtain ⟨d, hd⟩ := hx x hm
        have q3 := hR H3 (Same.refl H3)
        refine ⟨_, rfl, x, d, rfl, (hd.same s2).same s3, ?_⟩
        rw [wv_vx hd]
        exact q3
      · have e1 : ((xs.filter fun _ => true).map fun x => V.bl (wV x)) = (xs.map wV).map V.bl := by
          rw [filter_yes, List.map_map]
          rfl
        rw [e1] at hD
        refine ⟨D, xs.map wV, rfl, .inl (.inl hD), ?_⟩
        have : (xs.map wV).all id = (wordsV xs).isSome := by
          unfold wordsV
          rw [List.all_map]
          show xs.all wV = _
          cases e : xs.all wV <;> simp [e]
        rw [this]
        exact q _ (s1.trans s2)
/-! ### the errors -/
abbrev sErrA : Stmt := inClass (top 1) 0
abbrev sErrO : Stmt := inClass (top 3) 0
theorem scErrA : FnScope ["self", "field"] ["self", "field"] (defScope sErrA) := ⟨rfl, rfl, rfl, by decide +kernel, rfl, by decide +kernel, by decide +kernel⟩
theorem scErrO : FnScope ["self", "value"] ["self", "value"] (defScope sErrO) := ⟨rfl, rfl, rfl, by decide +kernel, rfl, by decide +kernel, by decide +kernel⟩
theorem ok_erra {f C fI : Addr} {fd : FuncData} (F : Fun K "__init__" "InvalidAddress.__init__" sErrA f fd) (T : ErrC K mg "InvalidAddress" nField C fI) : FnOk P w K mg base CX0 1 f fd ["self", "field"] (spErr nField C) := by
  refine F.ok scErrA (fun vs H Q E h => ?_) (fun cdv A outer s0 H vs Q E hr h => ?_)
  · obtain ⟨a, v, rfl, _⟩ := h
    rfl
  · obtain ⟨a, v, rfl, ha, q⟩ := h
    exact ⟨_, pss_one (ps_ost (pv 0) (pv 1)), _, rfl, _, rfl, a, C, rfl, T.ox, T.no, .inl ⟨ha, q⟩⟩
theorem ok_erro {f C fI : Addr} {fd : FuncData} (F : Fun K "__init__" "OutOfRange.__init__" sErrO f fd) (T : ErrL K mg "OutOfRange" nValue C fI) : FnOk P w K mg base CX0 1 f fd ["self", "value"] (spErr nValue C) := by
  refine F.ok scErrO (fun vs H Q E h => ?_) (fun cdv A outer s0 H vs Q E hr h => ?_)
  · obtain ⟨a, v, rfl, _⟩ := h
    rfl
  · obtain ⟨a, v, rfl, ha, q⟩ := h
    exact ⟨_, pss_one (ps_osl (pv 0) (pv 1)), _, rfl, _, rfl, a, C, rfl, T.ox, T.no, ha, q⟩
/-! ### Address.__init__, of any values: slots self 0, state 1, path 2 -/
def spAInitX (K : Frag) (C CE : Addr) : Sp := fun vs H Q E => ∃ (p dx : Addr) (sv pv_ : V) (sd : PyData) (o : Option (List Str)), vs = [.ref p, sv, pv_] ∧ H p = some (.ins C dx []) ∧ Vx K H sv sd ∧ PX K H pv_ o ∧
  (wV sv = false → ∀ d H', Same H H' → H' d = some (.xd (ixF nField (.str "state"))) → H d = none → E (.ref CE) (some d) H') ∧
  (wV sv = true → o = none → ∀ d H', Same H H' → H' d = some (.xd (ixF nField (.str "path"))) → H d = none → E (.ref CE) (some d) H') ∧
  (∀ z ss, sv = .str z → wrd z = true → o = some ss → ss.all wrd = true → ∀ H' t, AddrT K C H' p t z ss → (∀ b o, H b = some o → b ≠ p → H' b = some o) → Q .non H')
theorem ok_ainitx {f C CE fE : Addr} {fd fdE : FuncData} {dvs : List V} {kws : List (Str × V)} (F : FunD K "__init__" "Address.__init__" (defArgs sAInit) (defBody sAInit) (defScope sAInit) dvs kws f fd) (T : ATxt K mg C) (B : Blt mg)
    (TE : ErrC K mg "InvalidAddress" nField CE fE) (GE : FnOk P w K mg base CX0 1 fE fdE ["self", "field"] (spErr nField CE)) (bE : Binds K fdE ["self", "field"] [])
    (is_word : Own P w K mg base CX0 1 "is_word" ["value"] (spIsWord K)) (are_words : Own P w K mg base CX0 2 "are_words" ["value"] (spAreW K)) : FnOk P w K mg base (L2.CX P w) 3 f fd ["self", "state", "path"] (spAInitX K C CE) := by
  refine F.ok scAInit (fun vs H Q E h => ?_) (fun cdv A outer s0 H vs Q E hr h => ?_)
  · obtain ⟨p, dx, sv, pv_, sd, o, rfl, _⟩ := h
    rfl
  · obtain ⟨p, dx, sv, pv_, sd, o, rfl, hp, hs, hq, eS, eP, q⟩ := h
    have hr2 : Room 2 _ := hr
    refine ⟨_, pss_cons (ps_if (pt_not (pt_val (pe_call is_word.g (hr.mono (by decide)) rfl is_word.mg is_word.kp is_word.b .nil pass0 (pa_cons (pv 1) pa_nil)))) (pss_one (ps_raise rfl (takes_of rfl rfl rfl rfl) (pmk_oex TE.ox TE.iC TE.tI GE hr2 bE .nil pass0 (by rfl) TE.mgC (by exact (pa_cons pe_str pa_nil))))) pss_nil)
      (pss_cons (ps_if (pt_not (pt_val (pe_call are_words.g hr rfl are_words.mg are_words.kp are_words.b .nil pass0 (pa_cons (pv 2) pa_nil)))) (pss_one (ps_raise rfl (takes_of rfl rfl rfl rfl) (pmk_oex TE.ox TE.iC TE.tI GE hr2 bE .nil pass0 (by rfl) TE.mgC (by exact (pa_cons pe_str pa_nil))))) pss_nil)
      (pss_cons (ps_fld (pv 0) (pv 1) rfl)
      (pss_cons (ps_fld (pv 0) (pe_callTy call_tupA (by rfl) B.tuple_ (by decide +kernel) (pa_cons (pv 2) pa_nil)) rfl)
      (pss_one (ps_fld (pv 0) (pe_tup (pa_cons (pe_callB call_len (by rfl) B.len_ (by decide +kernel) (pa_cons (pe_fld (pv 0) rfl) pa_nil)) (pa_cons (pe_fld (pv 0) rfl) (pa_cons (pe_fld (pv 0) rfl) pa_nil)))) rfl))))), ?_⟩
    refine ⟨_, rfl, sv, sd, rfl, hs, _, rfl, ?_⟩
    rw [wv_vx hs]
    cases e1 : wV sv with
    | false =>
      refine iteT ⟨by show 1 ≤ 1000; decide, fun a na => err_use na fun d nd => ?_⟩
      exact eS e1 d _ (same_new nd) upd_same nd
    | true =>
    refine iteF ?_
    refine ⟨_, rfl, pv_, o, rfl, hq, fun H1 s1 => ⟨_, rfl, ?_⟩⟩
    cases o with
    | none =>
      refine iteT ⟨by show 1 ≤ 1000; decide, fun a na => err_use na fun d nd => ?_⟩
      exact eP e1 rfl d _ (s1.trans (same_new nd)) upd_same (s1.free nd)
    | some ss =>
    refine iteF ?_
    obtain ⟨z, rfl, hz⟩ := wv_str e1
    rcases hq.same s1 with ⟨d, _, _, e⟩ | ⟨a, xs, rfl, ha, few, hx, e⟩
    · cases e
    unfold wordsV at e
    cases c : xs.all wV with
    | false => rw [c] at e; cases e
    | true =>
    rw [c, if_pos rfl] at e
    cases e
    obtain ⟨ex, hw⟩ := all_wv c
    rw [ex] at ha few
    have lx : (xs.map strV).length = xs.length := List.length_map ..
    generalize xs.map strV = ss at *
    clear hx ex c lx
    rw [List.length_map] at few
    have hp1 := s1 _ _ hp
    refine ⟨_, rfl, _, rfl, p, C, dx, _, rfl, hp1, T.cl, T.nS, (by show 0 < 1000; decide), ?_⟩
    have kp : Kp H1 (upd H1 p (.ins C dx (putF nState (.str z) []))) := kp_put hp1 rfl
    have hpu : (upd H1 p (.ins C dx (putF nState (.str z) []))) p = some (.ins C dx (aF1 z)) := upd_same
    have o1 : ∀ b o, H1 b = some o → b ≠ p → (upd H1 p (.ins C dx (putF nState (.str z) []))) b = some o := fun b o e n => by rw [upd_ne n]; exact e
    generalize upd H1 p (.ins C dx (putF nState (.str z) [])) = H2 at kp hpu o1 ⊢
    refine ⟨_, rfl, a, _, rfl, kp.sqA ha, fun t H3 ht s3 => ?_⟩
    have ht' : SqT K H3 t (tV ss) := ht
    have hp3 := s3 _ _ hpu
    refine ⟨_, rfl, p, C, dx, _, rfl, hp3, T.cl, T.nP, aF1_len _, ?_⟩
    have k4 : Kp H3 (upd H3 p (.ins C dx (putF nPath (.ref t) (aF1 z)))) := kp_put hp3 rfl
    have hp4 : (upd H3 p (.ins C dx (putF nPath (.ref t) (aF1 z)))) p = some (.ins C dx (aF2 z t)) := upd_same
    have o4 : ∀ b o, H3 b = some o → b ≠ p → (upd H3 p (.ins C dx (putF nPath (.ref t) (aF1 z)))) b = some o := fun b o e n => by rw [upd_ne n]; exact e
    have ht4 := k4.sqT ht'
    generalize upd H3 p (.ins C dx (putF nPath (.ref t) (aF1 z))) = H4 at k4 hp4 o4 ht4 ⊢
    refine ⟨_, rfl, p, C, dx, _, _, rfl, hp4, T.cl, T.nP, aF2_path _ _, _, _, rfl, .inr ⟨_, ht4, rfl⟩, _, rfl, p, C, dx, _, _, rfl, hp4, T.cl, T.nS, aF2_state _ _, _, rfl, p, C, dx, _, _, rfl, hp4, T.cl, T.nP, aF2_path _ _, by show 3 ≤ sizeLine; decide, fun k nk => ?_⟩
    have s5 := same_new (o := .tup [.int ((tV ss).length : Int), .str z, .ref t]) nk
    have hk5 : (upd H4 k (.tup [.int ((tV ss).length : Int), .str z, .ref t])) k = some (.tup [.int (ss.length : Int), .str z, .ref t]) := by
      rw [upd_same, List.length_map]
    have hp5 := s5 _ _ hp4
    have ht5 := same_seqT s5 ht4
    generalize upd H4 k (.tup [.int ((tV ss).length : Int), .str z, .ref t]) = H5 at s5 hk5 hp5 ht5 ⊢
    refine ⟨_, rfl, p, C, dx, aF2 z t, rfl, hp5, T.cl, T.nK, aF2_len _ _, ?_⟩
    have k6 : Kp H5 (upd H5 p (.ins C dx (putF nKey (.ref k) (aF2 z t)))) := kp_put hp5 rfl
    refine q _ ss rfl hz rfl hw _ t ⟨dx, k, upd_same, k6.sqT ht5, k6.sqT (.inl (.inl hk5))⟩ fun b o e hb => ?_
    rw [upd_ne hb]
    exact s5 _ _ (o4 _ _ (s3 _ _ (o1 _ _ (s1 _ _ e) hb)) hb)
end
end RL

/-! {x: True for x in xs}, xs a list or a tuple of ints and texts. -/
namespace VA
open PySem L2 SX AddrMath
abbrev DkGoal (J : It) (vs : List Nat) (j : Nat) (σ : L2.St) (H1 : Hp) (D : Addr) (Qd : Hp → Prop) : Prop :=
  ∃ W : Nat → Nat → Hp → Prop, (∃ m, W 0 m (upd H1 D (.dK []))) ∧ ∀ i m H, W i m H →
    (J.stop i H ∧ Qd H) ∨ (J.go i H ∧ ∃ Nx : Hp → Prop, (∀ H', Nx H' → ∃ m', m' < m ∧ W (i + 1) m' H') ∧ ∀ x H', J.yld i H x H' → gName j x (wipe σ vs) H' fun σ2 H2 => wipe σ2 vs = wipe σ vs ∧ tYes σ2 H2 fun b H3 =>
      if b = true then tVar j σ2 H3 fun y H4 => tC (.bl true) σ2 H4 fun z H5 => ∃ kvs k, y = kV k ∧ H5 D = some (.dK kvs) ∧ kvs.length < sizeLine ∧ Nx (upd H5 D (.dK (putK kvs k z))) else Nx H3)
def hasK (ks : List Key) (k : Key) : Bool := ks.any fun x => decide (x = k)
theorem putK_few (kvs : List (Key × V)) (k : Key) (v : V) : (putK kvs k v).length ≤ kvs.length + 1 := by
  unfold putK
  split
  · rw [List.length_map]
    omega
  · rw [List.length_append]
    exact Nat.le_refl _
theorem dk_walk {J : It} {xs : List V} {ks : List Key} {G : Hp → Prop} (w : Walk J xs.length G (YAt xs)) (hk : xs = ks.map kV) (few : xs.length ≤ 1000) {vs : List Nat} {j : Nat} {σ : L2.St} {H1 : Hp} {D : Addr} {Qd : Hp → Prop} (nD : H1 D = none) (hG : ∀ H, Same H1 H → G H)
    (hw : ∀ x, wipe ((wipe σ vs).set j (some x)) vs = wipe σ vs) (hv : ∀ x, ((wipe σ vs).set j (some x))[j]? = some (some x))
    (fin : ∀ H' kvs, H' D = some (.dK kvs) → (∀ k, valV kvs k = if hasK ks k = true then some (V.bl true) else none) → Same H1 H' → Qd H') : DkGoal J vs j σ H1 D Qd := by
  refine ⟨fun i m H => m = xs.length - i ∧ i ≤ xs.length ∧ Same H1 H ∧ ∃ kvs, H D = some (.dK kvs) ∧ kvs.length ≤ i ∧ ∀ k, valV kvs k = if hasK (ks.take i) k = true then some (V.bl true) else none, ⟨xs.length, by simp, Nat.zero_le _, same_new nD, [], upd_same, Nat.le_refl _, fun k => rfl⟩, ?_⟩
  rintro i m H ⟨rfl, hi, s, kvs, hD, hl, hvv⟩
  have q := hG H s
  by_cases hlt : i < xs.length
  · refine .inr ⟨w.goes i H hlt q, fun H' => Same H1 H' ∧ ∃ kvs, H' D = some (.dK kvs) ∧ kvs.length ≤ i + 1 ∧ ∀ k, valV kvs k = if hasK (ks.take (i + 1)) k = true then some (V.bl true) else none, fun H' p' => ⟨xs.length - (i + 1), by omega, rfl, hlt, p'⟩, fun x H' y => ?_⟩
    obtain ⟨rfl, hx⟩ := w.yields i H x H' hlt q y
    rw [hk, List.getElem?_map, Option.map_eq_some_iff] at hx
    obtain ⟨k, hkk, rfl⟩ := hx
    refine ⟨hw _, ?_⟩
    unfold tYes
    show (if true = true then _ else _)
    rw [if_pos rfl]
    refine ⟨_, hv _, kvs, k, rfl, hD, small1000 (by omega), fun b o z => ?_, _, upd_same, ?_, fun k' => ?_⟩
    · rw [upd_ne (ne_of_none z nD)]
      exact s _ _ z
    · have := putK_few kvs k (.bl true)
      omega
    · rw [valV_put, take_snoc hkk]
      unfold hasK
      rw [List.any_append]
      by_cases e : k' = k
      · rw [if_pos e, if_pos (by simp [e])]
      · rw [if_neg e, hvv k']
        unfold hasK
        have : ([k].any fun x => decide (x = k')) = false := by rw [List.any_cons, List.any_nil, Bool.or_false]; exact decide_eq_false fun z => e z.symm
        rw [this, Bool.or_false]
  · have e : i = xs.length := by omega
    subst e
    refine .inl ⟨w.stops H q, fin H kvs hD (fun k => ?_) s⟩
    rw [hvv k, List.take_of_length_le (by rw [← List.length_map (f := kV), ← hk]; exact Nat.le_refl _)]
theorem seq_keys {K : PySem.W.Frag} {a : Addr} {xs : List V} {ks : List Key} {j : Nat} {vs : List Nat} {σ : L2.St} {H1 : Hp} {Qd : Addr → Hp → Prop} (hq : SqA K H1 a xs) (hk : xs = ks.map kV) (few : xs.length ≤ 1000)
    (hw : ∀ x, wipe ((wipe σ vs).set j (some x)) vs = wipe σ vs) (hv : ∀ x, ((wipe σ vs).set j (some x))[j]? = some (some x))
    (fin : ∀ D H' kvs, H1 D = none → H' D = some (.dK kvs) → (∀ k, valV kvs k = if hasK ks k = true then some (V.bl true) else none) → Same H1 H' → Qd D H') :
    ∃ a', V.ref a = V.ref a' ∧ (((∃ ys, SqL K H1 a' ys) ∧ ∀ D, H1 D = none → DkGoal (Itl K a') vs j σ H1 D (Qd D)) ∨ ((∃ ys, SqT K H1 a' ys) ∧ ∀ D, H1 D = none → DkGoal (Itt K a') vs j σ H1 D (Qd D))) := by
  refine ⟨a, rfl, ?_⟩
  rcases hq with hq | hq
  · exact .inl ⟨⟨xs, hq⟩, fun D nD => dk_walk walk_list hk few nD (fun H s => s.seq hq) hw hv fun H' kvs => fin D H' kvs nD⟩
  · exact .inr ⟨⟨xs, hq⟩, fun D nD => dk_walk walk_tup hk few nD (fun H s => same_seqT s hq) hw hv fun H' kvs => fin D H' kvs nD⟩
end VA

/-! Comprehensions whose items are told by a relation; a list beside an empty one. -/
namespace VA
open PySem L2 SX AddrMath
abbrev LcGoal (J : It) (g : TG) (tt : TT) (te : TE) (vs : List Nat) (σ : L2.St) (H1 : Hp) (D : Addr) (Qd : Hp → Prop) : Prop :=
  ∃ W : Nat → Nat → Hp → Prop, (∃ m, W 0 m (upd H1 D (.lst []))) ∧ ∀ i m H, W i m H →
      (J.stop i H ∧ Qd H) ∨ (J.go i H ∧ ∃ Nx : Hp → Prop, (∀ H', Nx H' → ∃ m', m' < m ∧ W (i + 1) m' H') ∧ ∀ x H', J.yld i H x H' → g x (wipe σ vs) H' fun σ2 H2 => wipe σ2 vs = wipe σ vs ∧ tt σ2 H2 fun b H3 =>
        if b = true then te σ2 H3 fun y H4 => ∃ acc, H4 D = some (.lst acc) ∧ acc.length < sizeLine ∧ Nx (upd H4 D (.lst (acc ++ [y]))) else Nx H3)
/-- a comprehension without a test -/
theorem lc_rel {J : It} {xs : List V} {G : Hp → Prop} (w : Walk J xs.length G (YAt xs)) (few : xs.length ≤ 1000) {g : TG} {te : TE} {vs : List Nat} {σ : L2.St} {H1 : Hp} {D : Addr} {Qd : Hp → Prop} (nD : H1 D = none) (hG : ∀ H, Same H1 H → G H)
    (rel : Nat → V → Hp → Prop) (st : ∀ i y H H', Same H H' → rel i y H → rel i y H') (sb : ∀ i y H H' zs, H D = some (.lst zs) → But D H H' → rel i y H → rel i y H')
    (step : ∀ i x, xs[i]? = some x → ∀ H, Same H1 H → ∀ R : VK, (∀ y H', Same H H' → rel i y H' → R y H') → g x (wipe σ vs) H fun σ2 H2 => wipe σ2 vs = wipe σ vs ∧ te σ2 H2 R)
    (fin : ∀ H' ys, H' D = some (.lst ys) → ys.length = xs.length → (∀ i y, ys[i]? = some y → rel i y H') → Same H1 H' → Qd H') : LcGoal J g tYes te vs σ H1 D Qd := by
  refine lc_it w (fun i H => Same H1 H ∧ ∃ ys, H D = some (.lst ys) ∧ ys.length = i ∧ ∀ k y, ys[k]? = some y → rel k y H) ⟨same_new nD, [], upd_same, rfl, fun k y z => by simp at z⟩ (fun i H _ p => hG H p.1) ?_ ?_
  · rintro i x H H' hi ⟨s, ys, hD, hl, hr⟩ ⟨rfl, hx⟩
    refine step i x hx H' s (fun y H4 => ∃ acc, H4 D = some (.lst acc) ∧ acc.length < sizeLine ∧ (Same H1 (upd H4 D (.lst (acc ++ [y]))) ∧ ∃ ys, (upd H4 D (.lst (acc ++ [y]))) D = some (.lst ys) ∧ ys.length = i + 1 ∧ ∀ k y', ys[k]? = some y' → rel k y' (upd H4 D (.lst (acc ++ [y]))))) fun y H4 s4 ry => ?_
    have hD4 := s4 _ _ hD
    have b4 : But D H4 (upd H4 D (.lst (ys ++ [y]))) := But.upd
    refine ⟨ys, hD4, small1000 (by omega), fun b o z => ?_, _, upd_same, by rw [List.length_append, hl]; rfl, fun k y' hk => ?_⟩
    · rw [upd_ne (ne_of_none z nD)]
      exact s4 _ _ (s _ _ z)
    · rcases Nat.lt_or_ge k ys.length with c | c
      · rw [List.getElem?_append_left c] at hk
        exact sb k y' _ _ _ hD4 b4 (st k y' _ _ s4 (hr k y' hk))
      · rw [List.getElem?_append_right c] at hk
        have e0 : k - ys.length = 0 := by
          rcases Nat.eq_zero_or_pos (k - ys.length) with e | e
          · exact e
          · rw [List.getElem?_eq_none (by show 1 ≤ k - ys.length; exact e)] at hk
            cases hk
        rw [e0] at hk
        cases hk
        have ek : k = i := by omega
        rw [ek]
        exact sb i y _ _ _ hD4 b4 ry
  · rintro H ⟨s, ys, hD, hl, hr⟩
    exact fin H ys hD hl hr s
/-- the same of what is a list or a tuple -/
theorem seq_rel {K : PySem.W.Frag} {a : Addr} {xs : List V} {g : TG} {te : TE} {vs : List Nat} {σ : L2.St} {H1 : Hp} {Qd : Addr → Hp → Prop} (hq : SqA K H1 a xs) (few : xs.length ≤ 1000)
    (rel : Nat → V → Hp → Prop) (st : ∀ i y H H', Same H H' → rel i y H → rel i y H') (sb : ∀ D, H1 D = none → ∀ i y H H' zs, H D = some (.lst zs) → But D H H' → rel i y H → rel i y H')
    (step : ∀ i x, xs[i]? = some x → ∀ H, Same H1 H → ∀ R : VK, (∀ y H', Same H H' → rel i y H' → R y H') → g x (wipe σ vs) H fun σ2 H2 => wipe σ2 vs = wipe σ vs ∧ te σ2 H2 R)
    (fin : ∀ D H' ys, H1 D = none → H' D = some (.lst ys) → ys.length = xs.length → (∀ i y, ys[i]? = some y → rel i y H') → Same H1 H' → Qd D H') :
    ∃ a', V.ref a = V.ref a' ∧ (((∃ ys, SqL K H1 a' ys) ∧ ∀ D, H1 D = none → LcGoal (Itl K a') g tYes te vs σ H1 D (Qd D)) ∨ ((∃ ys, SqT K H1 a' ys) ∧ ∀ D, H1 D = none → LcGoal (Itt K a') g tYes te vs σ H1 D (Qd D))) := by
  refine ⟨a, rfl, ?_⟩
  rcases hq with hq | hq
  · exact .inl ⟨⟨xs, hq⟩, fun D nD => lc_rel walk_list few nD (fun H s => s.seq hq) rel st (sb D nD) step fun H' ys => fin D H' ys nD⟩
  · exact .inr ⟨⟨xs, hq⟩, fun D nD => lc_rel walk_tup few nD (fun H s => same_seqT s hq) rel st (sb D nD) step fun H' ys => fin D H' ys nD⟩
/-- a list beside a new empty one -/
def rNeNil : R2 := fun x y H Q => ∃ a b xs, x = .ref a ∧ y = .ref b ∧ H a = some (.lst xs) ∧ H b = some (.lst []) ∧ Q (.bl (!xs.isEmpty)) H
theorem lst_is {X : Cx} {pins : List (Addr × Obj)} {σ : L2.St} {H : Hp} {s : Shared} {a : Addr} {xs : List V} (I : L2.Inv X pins σ H s) (h : H a = some (.lst xs)) : ∃ its : List Value, s.heap.IsList a its.toArray ∧ its.length = xs.length := by
  obtain ⟨its, rv, p, hz⟩ := I.list (.inl (.inl h))
  exact ⟨its, p.isList, rv.length.symm⟩
theorem op_neNil {X : Cx} (hu : X.A.units < cLine) : OpR X (compareOp .NotEq) rNeNil := by
  intro pins s σ H x y v u Q I rx ry ⟨a, b, xs, ex, ey, ha, hb, q⟩
  subst ex ey
  cases (show v = Value.ref a from rx)
  cases (show u = Value.ref b from ry)
  obtain ⟨i1, p1, l1⟩ := lst_is I ha
  obtain ⟨i2, p2, l2⟩ := lst_is I hb
  have e2 : i2 = [] := List.length_eq_zero_iff.mp l2
  subst e2
  cases xs with
  | nil =>
    have e1 : i1 = [] := List.length_eq_zero_iff.mp l1
    subst e1
    exact SeqAt.RcNeAt.lists (e := fun _ => true) p1 p2 rfl hu (fun j h1 => absurd h1 (by simp)) _ _ _ _ ⟨.bl false, H, I, rfl, q⟩
  | cons z r =>
    exact SeqAt.RcNeAt.lists_lengths p1 p2 (by simp; intro z; rw [z] at l1; cases l1) hu _ _ _ _ ⟨.bl true, H, I, rfl, q⟩
end VA

/-! f(k = v, ..): a def of the text, by keywords alone. -/
namespace VA
open PySem L2 SX AddrMath
def tCallK0 (m : Nat) (sp : Sp) (gV : List V → List V → List V) (E : XK) (tk : TA) : TE := fun σ H Q => tk σ H fun zs H1 => zs.length = m ∧ sp (gV [] zs) H1 Q E
section
variable {X : Cx} {CX : CXT} {k : Nat} {f : Addr} {fd : FuncData} {ps ks : List Str} {sp : Sp} {E : XK} {x : Str} {p pos : Pos} {kws : List Keyword} {tk : TA} {g : List Value → List Value → List Value} {gV : List V → List V → List V}
theorem call_k0 {pn : List (Addr × Obj)} {σ : L2.St} {H : Hp} {s : Shared} {Q : VK} {ws : List Value} {zs : List V} (F : FnOk X.prog X.w X.K X.mg X.base CX k f fd ps sp) (room : Room k X.A) (bn : KBn X.K fd ps 0 ks g gV) (pa : Passes CX X E) (J : Inv X pn σ H s) (rz : Vals zs ws) (l2 : zs.length = ks.length)
    (want : sp (gV [] zs) H Q E) : wpAny (model X.prog X.w) X.A (call (.ref f) [] (ks.zip ws)) (EP X pn σ Q) X.xe s := by
  refine wpAny_call (codeAny_mono (F.run X.A X.stack s H ⟨[], ks.zip ws⟩ (g [] ws) _ Q E room J.env0 (bn.to s [] ws J.kIn rfl (rz.length.symm.trans l2)) (bn.rel .nil rz) want) ?_)
  rintro (e | fl) s' h
  · exact pa _ _ _ _ _ _ J h
  cases fl with
  | next => exact (show False from h).elim
  | brk => exact (show False from h).elim
  | cont => exact (show False from h).elim
  | ret u => exact J.after h
theorem pe_callK0 (F : FnOk X.prog X.w X.K X.mg X.base CX k f fd ps sp) (room : Room k X.A) (hg : Gl X x) (hm : X.mg x = some (.ref f)) (hk : PySem.W.keepIn X.K (.ref f) = true) (bn : KBn X.K fd ps 0 ks g gV) (pa : Passes CX X E)
    (hkw : PK X kws tk) (hall : (backToKw pos (keywordEach kws X.env)).all (·.1.isSome) = true := by rfl) (hks : (backToKw pos (keywordEach kws X.env)).filterMap (·.1) = ks := by rfl)
    (hdb : (x == ("__debug__" : Str)) = false := by decide)
    (hpl : ((backTo pos (starEach [] X.env)).any (·.1) || (backToKw pos (keywordEach kws X.env)).any (·.1.isNone)) = false := by rfl) :
    PE X (.Call (.Name x p) [] kws pos) (tCallK0 ks.length sp gV E tk) := by
  refine ⟨fun pn s σ H Q J want => ?_⟩
  refine wpAny_Call_Name_kw (ld_glob J hg hm ?_ hdb)
  refine PySem.W.callWith_KW0 J.ok.mod.kin hk hall (thn (hkw.run pos pn s σ H _ J want) fun ws s2 ⟨zs, H2, J2, rz, l2, q2⟩ => ⟨J2.kIn, ?_⟩) hpl
  rw [hks]
  exact call_k0 F room bn pa J2 rz l2 q2
end
theorem passes_of {X : Cx} {E : XK} (t : Takes X fun cls d _ H => E cls d H) : Passes (L2.CX X.prog X.w) X E := fun pins σ H s e s' I h => passAt t σ pins H s e s' I h
end VA

namespace RL
open PySem L2 SX AddrMath VA PySem.W GR
section
variable {P : Program} {w : World} {K : Frag} {mg : Str → Option Value} {base : Heap}
/-! ### len and an item -/
abbrev sALen : Stmt := inClass (top 12) 3
abbrev sAItem : Stmt := inClass (top 12) 4
abbrev sAAdd : Stmt := inClass (top 12) 6
abbrev sARadd : Stmt := inClass (top 12) 7
theorem scALen : FnScope ["self"] ["self"] (defScope sALen) := ⟨rfl, rfl, rfl, by decide +kernel, rfl, by decide +kernel, by decide +kernel⟩
theorem scAItem : FnScope ["self", "at"] ["self", "at"] (defScope sAItem) := ⟨rfl, rfl, rfl, by decide +kernel, rfl, by decide +kernel, by decide +kernel⟩
theorem scAAdd : FnScope ["self", "other"] ["self", "other"] (defScope sAAdd) := ⟨rfl, rfl, rfl, by decide +kernel, rfl, by decide +kernel, by decide +kernel⟩
theorem scARadd : FnScope ["self", "other"] ["self", "other"] (defScope sARadd) := ⟨rfl, rfl, rfl, by decide +kernel, rfl, by decide +kernel, by decide +kernel⟩
def spALen (K : Frag) (C : Addr) : Sp := fun vs H Q _ => ∃ (a t : Addr) (z : Str) (ss : List Str), vs = [.ref a] ∧ AddrT K C H a t z ss ∧ Q (.int (ss.length : Nat)) H
theorem ok_alen {f C : Addr} {fd : FuncData} (F : Fun K "__len__" "Address.__len__" sALen f fd) (T : ATxt K mg C) (B : Blt mg) : FnOk P w K mg base CX0 1 f fd ["self"] (spALen K C) := by
  refine F.ok scALen (fun vs H Q E h => ?_) (fun cdv A outer s0 H vs Q E hr h => ?_)
  · obtain ⟨a, t, z, ss, rfl, _⟩ := h
    rfl
  · obtain ⟨a, t, z, ss, rfl, ⟨dx, k, h1, h2, h3⟩, q⟩ := h
    refine ⟨_, pss_one (ps_ret (pe_callB call_len (by rfl) B.len_ (by decide +kernel) (pa_cons (pe_fld (pv 0) rfl) pa_nil))), _, rfl, a, C, dx, _, _, rfl, h1, T.cl, T.nP, aF_path _ _ _, _, (tV ss).length, rfl, .inr ⟨_, h2, rfl⟩, ?_⟩
    rw [List.length_map]
    exact q
def spAItem (K : Frag) (C CO : Addr) : Sp := fun vs H Q E => ∃ (a t : Addr) (z : Str) (ss : List Str) (x : V) (d : PyData), vs = [.ref a, x] ∧ AddrT K C H a t z ss ∧ Vx K H x d ∧
  (∀ (i : Nat) (y : Str), x = .int (i : Int) → ss[i]? = some y → Q (.str y) H) ∧
  (idxV x ss.length = false → ∀ d' H', Same H H' → H' d' = some (.xd (ixF nValue x)) → H d' = none → E (.ref CO) (some d') H')
theorem idx_true {x : V} {m : Nat} (h : idxV x m = true) : ∃ i : Nat, x = .int (i : Int) ∧ i < m := by
  cases x with
  | int i =>
    have h' : (decide (0 ≤ i) && decide (i < (m : Int))) = true := h
    rw [Bool.and_eq_true, decide_eq_true_eq, decide_eq_true_eq] at h'
    exact ⟨i.toNat, by rw [Int.toNat_of_nonneg h'.1], by omega⟩
  | _ => cases h
theorem ok_aitem {f C CO fO : Addr} {fd fdO : FuncData} (F : Fun K "__getitem__" "Address.__getitem__" sAItem f fd) (T : ATxt K mg C) (B : Blt mg)
    (TO : ErrL K mg "OutOfRange" nValue CO fO) (GO : FnOk P w K mg base CX0 1 fO fdO ["self", "value"] (spErr nValue CO)) (bO : Binds K fdO ["self", "value"] [])
    (is_index : Own P w K mg base CX0 2 "is_index" ["value", "many"] (spIsIndex K)) : FnOk P w K mg base (L2.CX P w) 3 f fd ["self", "at"] (spAItem K C CO) := by
  refine F.okX scAItem (fun vs H Q E h => ?_) (fun cdv A outer s0 H vs Q E hr h => ?_)
  · obtain ⟨a, t, z, ss, x, d, rfl, _⟩ := h
    rfl
  · obtain ⟨a, t, z, ss, x, d, rfl, ⟨dx, k, h1, h2, h3⟩, hx, q, eO⟩ := h
    have hr2 : Room 2 _ := hr
    refine ⟨_, (pss_cons (ps_if (pt_not (pt_val (pe_call is_index.g hr rfl is_index.mg is_index.kp is_index.b .nil pass0 (pa_cons (pv 1) (pa_cons (pe_callB call_len (by rfl) B.len_ (by decide +kernel) (pa_cons (pe_fld (pv 0) rfl) pa_nil)) pa_nil))))) (pss_one (ps_raise rfl (takes_of rfl rfl rfl rfl) (pmk_oel TO.ox TO.iC TO.tI GO hr2 bO .nil pass0 (by rfl) TO.mgC (by exact (pa_cons (pv 1) pa_nil))))) pss_nil)
      (pss_one (ps_ret (pe_ix ix_tup (pe_fld (pv 0) rfl) (pv 1) (fun _ _ => rfl))))), ?_⟩
    refine ⟨_, rfl, _, rfl, a, C, dx, _, _, rfl, h1, T.cl, T.nP, aF_path _ _ _, _, (tV ss).length, rfl, .inr ⟨_, h2, rfl⟩, x, d, ss.length, by rw [List.length_map]; rfl, hx, _, rfl, ?_⟩
    cases e : idxV x ss.length with
    | false =>
      refine iteT ⟨_, rfl, by show 1 ≤ 1000; decide, fun a na => err_use na fun d nd => ?_⟩
      exact eO e d _ (same_new nd) upd_same nd
    | true =>
      obtain ⟨i, rfl, hi⟩ := idx_true e
      refine iteF ⟨_, rfl, a, C, dx, _, _, rfl, h1, T.cl, T.nP, aF_path _ _ _, _, rfl, t, _, (i : Int), .str ss[i], rfl, rfl, h2, ?_, q i _ rfl (List.getElem?_eq_getElem hi)⟩
      exact atI_nat (by rw [List.getElem?_map, List.getElem?_eq_getElem hi]; rfl)
/-! ### + on both sides -/
theorem same_insA {p dx C : Addr} {G : Hp} (np : G p = none) (ndx : G dx = none) : Same G (upd (upd G dx (.own p)) p (.ins C dx [])) := fun b o e => by
  rw [upd_ne (ne_of_none e np), upd_ne (ne_of_none e ndx)]
  exact e
def spAAdd (K : Frag) (C CE : Addr) (g : List Str → Str → List Str) : Sp := fun vs H Q E => ∃ (a t : Addr) (z : Str) (ss : List Str) (x : V) (d : PyData), vs = [.ref a, x] ∧ AddrT K C H a t z ss ∧ wrd z = true ∧ ss.all wrd = true ∧ ss.length ≤ 900 ∧ Vx K H x d ∧
  (wV x = false → ∀ d' H', Same H H' → H' d' = some (.xd (ixF nField (.str "path"))) → E (.ref CE) (some d') H') ∧
  (∀ y, x = .str y → wrd y = true → ∀ b t' H', Same H H' → H b = none → AddrT K C H' b t' z (g ss y) → Q (.ref b) H')
theorem ok_aadd {f C CE fI : Addr} {fd fdI : FuncData} (F : Fun K "__add__" "Address.__add__" sAAdd f fd) (T : ATxt K mg C) (B : Blt mg)
    (MI : Mk K C fI) (GI : FnOk P w K mg base (L2.CX P w) 3 fI fdI ["self", "state", "path"] (spAInitX K C CE)) (bI : Binds K fdI ["self", "state", "path"] []) : FnOk P w K mg base (L2.CX P w) 5 f fd ["self", "other"] (spAAdd K C CE fun ss y => ss ++ [y]) := by
  refine F.okX scAAdd (fun vs H Q E h => ?_) (fun cdv A outer s0 H vs Q E hr h => ?_)
  · obtain ⟨a, t, z, ss, x, d, rfl, _⟩ := h
    rfl
  · obtain ⟨a, t, z, ss, x, d, rfl, ⟨dx, k, h1, h2, h3⟩, hz, hw, few, hx, eP, q⟩ := h
    refine ⟨_, pss_one (ps_ret (pe_make MI GI hr (by rfl) T.mgC bI .nil (passes_of (takes_of rfl rfl rfl rfl)) (pa_cons (pe_fld (pv 0) rfl) (pa_cons (pe_tup (StX.pa_star (pe_fld (pv 0) rfl) (pa_cons (pv 1) pa_nil))) pa_nil)))), ?_⟩
    refine ⟨_, rfl, a, C, dx, _, _, rfl, h1, T.cl, T.nS, aF_state _ _ _, _, rfl, a, C, dx, _, _, rfl, h1, T.cl, T.nP, aF_path _ _ _, t, tV ss, rfl, .inl h2, x, rfl, ?_⟩
    refine ⟨size_ok (by rw [List.length_append, List.length_map]; show ss.length + 1 ≤ _; omega), fun l nl p pd np npd ne => ?_⟩
    have s1 := same_new (o := .tup (tV ss ++ [x])) nl
    have s2 := same_insA (C := C) np npd
    have s12 := s1.trans s2
    have hl := s2 _ _ (upd_same (H := H) (a := l) (o := .tup (tV ss ++ [x])))
    refine ⟨p, pd, .str z, .ref l, .str z, if wV x then some (ss ++ [strV x]) else none, rfl, upd_same, (str_vx hz), ?_, fun e => ?_, fun _ e d' H' s' hd nd => ?_, fun z' rs ez _ er wr H' t' hA fr => ?_⟩
    · refine .inr ⟨l, _, rfl, .inr (.inl (.inl hl)), by rw [List.length_append, List.length_map]; show ss.length + 1 ≤ _; omega, fun u hu => ?_, (wordsV_snoc hw x).symm⟩
      rcases List.mem_append.mp hu with hu | hu
      · obtain ⟨y, hy, rfl⟩ := List.mem_map.mp hu
        exact ⟨_, str_vx (List.all_eq_true.mp hw y hy)⟩
      · rw [List.mem_singleton.mp hu]
        exact ⟨d, hx.same s12⟩
    · rw [show wV (.str z) = wrd z from rfl, hz] at e
      cases e
    · refine eP ?_ d' H' (s12.trans s') hd
      cases c : wV x with
      | false => rfl
      | true => rw [c, if_pos rfl] at e; cases e
    · cases ez
      cases c : wV x with
      | false => rw [c] at er; cases er
      | true =>
        rw [c, if_pos rfl] at er
        cases er
        obtain ⟨y, rfl, hy⟩ := wv_str c
        exact ⟨rfl, q y rfl hy p t' H' (fun b o e => fr b o (s2 _ _ (s1 _ _ e)) (ne_of_none (s1 _ _ e) np)) (s1.free np) hA⟩
theorem ok_aradd {f C CE fI : Addr} {fd fdI : FuncData} (F : Fun K "__radd__" "Address.__radd__" sARadd f fd) (T : ATxt K mg C) (B : Blt mg)
    (MI : Mk K C fI) (GI : FnOk P w K mg base (L2.CX P w) 3 fI fdI ["self", "state", "path"] (spAInitX K C CE)) (bI : Binds K fdI ["self", "state", "path"] []) : FnOk P w K mg base (L2.CX P w) 5 f fd ["self", "other"] (spAAdd K C CE fun ss y => y :: ss) := by
  refine F.okX scARadd (fun vs H Q E h => ?_) (fun cdv A outer s0 H vs Q E hr h => ?_)
  · obtain ⟨a, t, z, ss, x, d, rfl, _⟩ := h
    rfl
  · obtain ⟨a, t, z, ss, x, d, rfl, ⟨dx, k, h1, h2, h3⟩, hz, hw, few, hx, eP, q⟩ := h
    refine ⟨_, pss_one (ps_ret (pe_make MI GI hr (by rfl) T.mgC bI .nil (passes_of (takes_of rfl rfl rfl rfl)) (pa_cons (pe_fld (pv 0) rfl) (pa_cons (pe_tup (pa_cons (pv 1) (StX.pa_star (pe_fld (pv 0) rfl) pa_nil))) pa_nil)))), ?_⟩
    refine ⟨_, rfl, a, C, dx, _, _, rfl, h1, T.cl, T.nS, aF_state _ _ _, x, rfl, _, rfl, a, C, dx, _, _, rfl, h1, T.cl, T.nP, aF_path _ _ _, t, tV ss, rfl, .inl h2, ?_⟩
    have ap : tV ss ++ [] = tV ss := List.append_nil _
    refine ⟨size_ok (by show (tV ss ++ []).length + 1 ≤ _; rw [ap, List.length_map]; omega), fun l nl p pd np npd ne => ?_⟩
    have s1 := same_new (o := .tup (x :: (tV ss ++ []))) nl
    have s2 := same_insA (C := C) np npd
    have s12 := s1.trans s2
    have hl := s2 _ _ (upd_same (H := H) (a := l) (o := .tup (x :: (tV ss ++ []))))
    replace hl := hl.trans (show some (HO.tup (x :: (tV ss ++ []))) = some (.tup (x :: tV ss)) by rw [ap])
    refine ⟨p, pd, .str z, .ref l, .str z, if wV x then some (strV x :: ss) else none, rfl, upd_same, (str_vx hz), ?_, fun e => ?_, fun _ e d' H' s' hd nd => ?_, fun z' rs ez _ er wr H' t' hA fr => ?_⟩
    · refine .inr ⟨l, _, rfl, .inr (.inl (.inl hl)), by show (tV ss).length + 1 ≤ _; rw [List.length_map]; omega, fun u hu => ?_, (wordsV_cons hw x).symm⟩
      rcases List.mem_cons.mp hu with rfl | hu
      · exact ⟨d, hx.same s12⟩
      · obtain ⟨y, hy, rfl⟩ := List.mem_map.mp hu
        exact ⟨_, str_vx (List.all_eq_true.mp hw y hy)⟩
    · rw [show wV (.str z) = wrd z from rfl, hz] at e
      cases e
    · refine eP ?_ d' H' (s12.trans s') hd
      cases c : wV x with
      | false => rfl
      | true => rw [c, if_pos rfl] at e; cases e
    · cases ez
      cases c : wV x with
      | false => rw [c] at er; cases er
      | true =>
        rw [c, if_pos rfl] at er
        cases er
        obtain ⟨y, rfl, hy⟩ := wv_str c
        exact ⟨rfl, q y rfl hy p t' H' (fun b o e => fr b o (s2 _ _ (s1 _ _ e)) (ne_of_none (s1 _ _ e) np)) (s1.free np) hA⟩
end
end RL

/-! repr of any value: None, truths, numbers, texts, lists and tuples of such, the empty dict. -/
namespace RV
open PySem PySem.W PySem.Spec PySem.Calls PyProof.Rows L2 SX GR
inductive ShowV (K : PySem.W.Frag) (H : Hp) : V → Str → Prop
  | non : ShowV K H .non (Str.ofString "None")
  | bl (b : Bool) : ShowV K H (.bl b) (if b = true then Str.ofString "True" else Str.ofString "False")
  | int (i : Int) (h : i.natAbs.log2 < 1920) : ShowV K H (.int i) (Str.ofString (toString i))
  | str (z : Str) (h : (reprText z).length ≤ sizeLine) : ShowV K H (.str z) (reprText z)
  | data {a : Addr} {d : PyData} (dp : Dp K H (.ref a) d) (sh : d.showable = true) (nd : d.hasDict = false) (dep : d.depth ≤ 40) (len : d.shown.length ≤ sizeLine) : ShowV K H (.ref a) d.shown
  | edict {a : Addr} (e : H a = some (.dK [])) : ShowV K H (.ref a) (PyData.dict []).shown
theorem ShowV.same {K : PySem.W.Frag} {H H' : Hp} {v : V} {r : Str} (h : ShowV K H v r) (s : ∀ b o, H b = some o → H' b = some o) : ShowV K H' v r := by
  cases h with
  | non => exact .non
  | bl b => exact .bl b
  | int i h => exact .int i h
  | str z h => exact .str z h
  | data dp a b c d => exact .data (VA.dp_same s dp) a b c d
  | edict e => exact .edict (s _ _ e)
theorem call_reprV {X : Cx} (quiet : Quiet X.A) (hu : X.A.units + 64 < cLine) : CallR X (.builtin "repr") (fun xs H Q => ∃ v r, xs = [v] ∧ ShowV X.K H v r ∧ Q (.str r) H) := by
  intro pins s σ H xs us Q I rel ⟨v, r, ex, sv, q⟩
  subst ex
  obtain ⟨u, rfl, ru⟩ := rel.one
  cases sv with
  | non =>
    cases (show u = Value.none from ru)
    exact P.repr_of_none ⟨.str _, H, I.tok _, ⟨_, rfl⟩, q⟩
  | bl b =>
    cases (show u = Value.bool b from ru)
    exact P.repr_of_bool ⟨.str (if b = true then Str.ofString "True" else Str.ofString "False"), H, I.tok _, ⟨_, rfl⟩, q⟩
  | int i h =>
    obtain ⟨t, rfl⟩ : ∃ t, u = Value.int i t := ru
    exact P.repr_of_int h ⟨.str _, H, I.tok _, ⟨_, rfl⟩, q⟩
  | str z h =>
    obtain ⟨t, rfl⟩ : ∃ t, u = Value.str z t := ru
    exact P.repr_of_str ⟨.str _, H, I.tok _, ⟨_, rfl⟩, q⟩ h
  | @data a d dp sh nd dep len =>
    cases (show u = Value.ref a from ru)
    obtain ⟨as, rd⟩ := dp.reads I d _ _ rfl
    exact repr_of_reads' rd sh (PyData.noDict_hsm nd) quiet (by omega) (fun _ _ e => e) (fun h' u tk hk => ⟨.str d.shown, H, I.kept hk, ⟨_, rfl⟩, q⟩) len
  | @edict a e =>
    cases (show u = Value.ref a from ru)
    obtain ⟨_, nsys, vs, kv, o, es, ep, g1, g2, g3, _, g5, _⟩ := I.hok a _ e
    have ev : vs = [] := by cases kv; rfl
    subst ev
    have rd : Reads s.heap (.ref a) (.dict []) (a :: [] ++ []) := by
      have el : es.toList = [] := by
        revert g5
        generalize es.toList = l
        intro g5
        cases l with
        | nil => rfl
        | cons x r => cases g5
      exact .dict g1 g2.1 g3 (by rw [el]; exact .nil) (by rw [el]; exact .nil)
    refine repr_of_reads' rd rfl (fun _ m => ?_) quiet (by show X.A.units + _ < cLine; have : (PyData.dict []).depth ≤ 40 := by decide
                                                           omega) (fun _ _ e => e) (fun h' u tk hk => ⟨.str _, H, I.kept hk, ⟨_, rfl⟩, q⟩) (by decide +kernel)
    rw [List.append_nil, List.mem_singleton] at m
    rw [← m] at nsys
    simp at nsys
theorem call_reprVK {X : Cx} {K : PySem.W.Frag} (e : X.K = K) (quiet : Quiet X.A) (hu : X.A.units + 64 < cLine) : CallR X (.builtin "repr") (fun xs H Q => ∃ v r, xs = [v] ∧ ShowV K H v r ∧ Q (.str r) H) := by
  subst e
  exact call_reprV quiet hu
end RV

/-! Several except clauses that all keep the error under one name (slot j). -/
namespace TM
open PySem PySem.Spec PyProof.Rows L2
abbrev SuR := Addr → Value → Option Addr → TS
/-- the ends behind a clause: the name is gone -/
def gone (D : Ends) (j : Nat) : Ends := ⟨fun τ G => D.nx (τ.set j none) G, D.rt, fun τ G => D.bk (τ.set j none) G, fun τ G => D.ct (τ.set j none) G⟩
/-- what the clauses wish, one behind the other -/
def wAll (F : PySem.W.Frag) (out : WX) (D : Ends) (j : Nat) : List (Value × SuR) → WX
  | [] => out
  | p :: more => fun k dd τ G => ∃ hit, PySem.W.exmOne F k p.1 = some hit ∧ (hit = true → ∀ a, G a = none → p.2 a k dd (gone D j) (τ.set j (some (.ref a))) G) ∧ (hit = false → wAll F out D j more k dd τ G)
inductive Cls (X : Cx) (m : Str) : List ExceptHandler → List (Value × SuR) → Prop
  | nil : Cls X m [] []
  | cons {y : Str} {c : Value} {su : SuR} {b0 : Stmt} {rest : List Stmt} {p1 p2 : Pos} {hs : List ExceptHandler} {ps : List (Value × SuR)} (named : Names X y c)
      (runs : ∀ a oe k dd pn, Zc k dd oe → (∃ vs, oe.data = .fields vs) → PSs (X.suite a ((a, oe) :: pn)) (b0 :: rest) (su a k dd)) (tail : Cls X m hs ps) :
      Cls X m (.ExceptHandler (some (.Name y p1)) (some m) (b0 :: rest) p2 :: hs) ((c, su) :: ps)
section
variable {X : Cx} {m : Str} {j : Nat} {out : WX} {pins : List (Addr × Obj)} {D : Ends}
theorem noFr {a : Addr} {B : Heap} {es : List Env} {h : Heap} {o : Obj} {vs : Array Value} (ff : h.FunFrames B es) (ea : h.get? a = some o) (ed : o.data = .fields vs) : a ∉ frs es := fun mem => by
  obtain ⟨_, o2, e2, notF⟩ := ff.mem mem
  rw [ea] at e2
  cases e2
  exact notF _ ed
theorem clauses {hs : List ExceptHandler} {ps : List (Value × SuR)} (C : Cls X m hs ps) (stk : X.stack = X.env :: X.outer) (frm : X.env.frame = some X.env.locals) (nd : X.N.Nodup) (slot : X.N[j]? = some m) (loc : X.env.kindOf m = some .local)
    (tk : Takes X out) (ok : X.Ok) {B hp : Heap} {a : Addr} {k : Value} {dd : Option Addr} {τ : L2.St} {G : Hp} {sI sN : Shared} (J : Inv X pins τ G sI) (nb : ∀ b o, sI.heap.get? b = some o → b ∉ frs X.stack → B.get? b = some o)
    (up : sI.heap.UpToSlots hp) (os : sN.os = sI.os) (ag : AllBare sN.gens) (fl : HandSPX.FlyingZ B (X.env :: X.outer) a (Zc k dd) hp) (ea : G a = none) (w : wAll X.K out D j ps k dd τ G) :
    wpAny (model X.prog X.w) X.A (handleBy (.ref a) X.env hs) (SP X pins D) X.xe { sN with heap := hp } := by
  obtain ⟨ob, vs, g1, g2, g3⟩ := fl.there
  have far := noFr fl.2.2.1 g1 g3
  have offL : a ≠ X.env.locals := fun z => far (List.mem_filterMap.mpr ⟨X.env, List.mem_cons_self, by rw [frm, z]⟩)
  have offF : a ∉ X.fs := fun mem => by
    obtain ⟨e, me, q⟩ := List.mem_filterMap.mp mem
    exact far (List.mem_filterMap.mpr ⟨e, List.mem_cons_of_mem _ me, q⟩)
  have S0 := (J.landed (s' := { sN with heap := hp }) nb fl.1 up os ag).suite g1 g3 ea offL offF
  induction C with
  | nil =>
    refine wpAny_handleBy_nil ?_
    obtain ⟨_, _, _, oe, us, T, _, _, u1, _, u3, u4, _⟩ := id fl
    unfold PySem.passOn
    refine wpAny_bind (wpAny_field u1 u3 u4 ?_)
    rw [if_neg (by simp : ¬ ((Value.ref T == Value.none) = true))]
    have last : wpAny (model X.prog X.w) X.A (setFlight (.ref a) X.env.frame)
        (fun _ t => wpAny (model X.prog X.w) X.A (throw (.ref a) : Sem Flow) (SP X pins D) X.xe t) X.xe { sN with heap := hp } := by
      rw [frm]
      refine HandSPX.setFlight_upZ fl fun hq held more => wpAny_throw (tk _ _ ?_)
      exact ⟨a, B, sI, pins, τ, G, k, dd, rfl, J, nb, up.trans more, .inr (.inr (by rw [stk]; exact held)), ea, os, ag, w⟩
    first
      | exact wpAny_bind (wpAny_pure (wpAny_bind last))
      | exact wpAny_bind last
  | @cons y c su b0 rest p1 p2 hs' ps' named runs tail ih =>
    obtain ⟨hit, eh, yes, no⟩ := w
    refine wpAny_handleBy_cons (codeAny_handlers_test ?_) (fun z => by cases z)
    have ty : PySem.W.Looks (model X.prog X.w) hp (typeOf (.ref a)) k := fun _ _ _ _ kp q => wpAny_typeOf_ref (kp _ _ g1) (by rw [g2.1]; exact q)
    have match_ := PySem.W.exm_one (M := model X.prog X.w) ((J.landed (s' := { sN with heap := hp }) nb fl.1 up os ag).kIn) ty eh
    have name : ∀ {Q : Value → Shared → Prop} {E : Value → Shared → Prop}, Q c { sN with heap := hp } →
        wpAny (model X.prog X.w) (X.A.mark (some (.ref a))) (eval (.Name y p1) X.env) Q E { sN with heap := hp } := fun {Q E} q => by
      obtain ⟨gl, notD, isM | ⟨noM, isB, notN⟩⟩ := named
      · exact ld_glob (X := X.suite a ((a, ob) :: (X.pn ++ pins))) S0 gl isM q notD
      · exact ld_blt (X := X.suite a ((a, ob) :: (X.pn ++ pins))) S0 gl noM isB q notN notD
    refine name (match_.here ?_)
    cases hit with
    | true =>
      refine codeAny_handlers_suite_as (HandSPX.lands_againZ fl fun hq fq upq => ?_)
      obtain ⟨oq, vq, q1, q2, q3⟩ := fq.there
      have Sq := (J.landed (s' := { sN with heap := hq }) nb fq.1 (up.trans upq) os ag).suite q1 q3 ea offL offF
      refine store_ok (X := X.suite a ((a, oq) :: (X.pn ++ pins))) (v := .ref a) Sq nd slot (.inl loc) rfl (fun s5 S5 => ?_) (.inr loc)
      refine wpAny_mono ((runs a oq k dd (X.pn ++ pins) q2 ⟨_, q3⟩).run [] s5 _ G _ S5 (yes rfl a ea)) (fun f s6 ends => ?_) (fun _ _ z => z.elim)
      have off : ∀ {τ6 : L2.St} {G6 : Hp} {R : Shared → Prop}, Inv (X.suite a ((a, oq) :: (X.pn ++ pins))) [] τ6 G6 s6 → (∀ s7, Inv X pins (τ6.set j none) G6 s7 → R s7) →
          wpAny (model X.prog X.w) X.A (do bindName X.env m .none; unbindBehindTheSuite X.env m p2) (fun _ s7 => R s7) X.xe s6 := fun {_ _ _} S6 r => gone_ok (S6.unsuite ok) nd slot loc r
      cases f with
      | next =>
        obtain ⟨_, _, S6, r⟩ := ends
        exact off S6 fun _ J7 => ⟨_, _, J7, r⟩
      | brk =>
        obtain ⟨_, _, S6, r⟩ := ends
        exact off S6 fun _ J7 => ⟨_, _, J7, r⟩
      | cont =>
        obtain ⟨_, _, S6, r⟩ := ends
        exact off S6 fun _ J7 => ⟨_, _, J7, r⟩
      | ret u =>
        obtain ⟨_, _, _, S6, rv, r⟩ := ends
        exact off S6 fun _ J7 => ⟨_, _, _, J7, rv, r⟩
    | false =>
      show wpAny _ X.A (handleBy (.ref a) X.env hs') _ _ _
      exact ih (no rfl)
variable {body : List Stmt} {h₀ : ExceptHandler} {hds : List ExceptHandler} {l : List (Value × SuR)} {pos : Pos} {tb : WX → TS}
theorem ps_try_all (stk : X.stack = X.env :: X.outer) (frm : X.env.frame = some X.env.locals) (nd : X.N.Nodup) (slot : X.N[j]? = some m) (loc : X.env.kindOf m = some .local) (tk : Takes X out)
    (reads : ∀ (W : WX) (pn : List (Addr × Obj)) (xe : Value → Shared → Prop), Takes (X.tr pn xe) W → PassesOwn (model X.prog X.w) X.A X.env xe → PSs (X.tr pn xe) body (tb W)) (C : Cls X m (h₀ :: hds) l) :
    PS X (.Try body (h₀ :: hds) [] [] pos) (fun D σ H => tb (wAll X.K out D j l) D σ H) := by
  refine ⟨fun pins s σ H D I want => ?_⟩
  have ok := I.ok
  have frames : X.A.frames = some (X.env :: X.outer) := by rw [ok.frames, stk]
  have run := (reads (wAll X.K out D j l) (X.pn ++ pins)
    (fun e t => wpAny (model X.prog X.w) X.A (noteFrame e X.env) (fun _ t2 => wpAny (model X.prog X.w) X.A (setFlight e none)
      (fun _ t3 => wpAny (model X.prog X.w) X.A (handleBy e X.env (h₀ :: hds)) (SP X pins D) X.xe t3) X.xe t2) X.xe t) (fun u s' x => ?_) PassesOwn.looking).run [] s σ H D (I.toTry _) want
  · refine wpAny_Try_except (wpAny_mono run (fun f t ends => ?_) (fun _ _ z => z))
    cases f with
    | next =>
      obtain ⟨τ, G, J, r⟩ := ends
      exact wpAny_execs_nil ⟨τ, G, J.ofTry ok, r⟩
    | brk =>
      obtain ⟨τ, G, J, r⟩ := ends
      exact ⟨τ, G, J.ofTry ok, r⟩
    | cont =>
      obtain ⟨τ, G, J, r⟩ := ends
      exact ⟨τ, G, J.ofTry ok, r⟩
    | ret u =>
      obtain ⟨v, τ, G, J, rv, r⟩ := ends
      exact ⟨v, τ, G, J.ofTry ok, rv, r⟩
  · obtain ⟨a, B, sI, pins', τ, G, k, dd, rfl, J0, nb, up, sky, ea, os, ag, w⟩ := x
    have sky2 : Sky B (X.env :: X.outer) a (Zc k dd) X.env.locals s'.heap := by rw [← stk]; exact sky
    show wpAny _ X.A (noteFrame (.ref a) X.env) _ _ _
    exact Sky.land Zc.steady frames frm sky2 fun hq fq upq => clauses C stk frm nd slot loc tk ok (J0.ofTry ok) nb (up.trans upq) os ag fq ea w
end
end TM

namespace RL
open PySem L2 SX AddrMath VA PySem.W GR LamX
section
variable {P : Program} {w : World} {K : Frag} {mg : Str → Option Value} {base : Heap}
/-! ### _law_due: slots _law_home 0, _law_track 1, _law_one 2 -/
abbrev sDue : Stmt := top 21
theorem scDue : FnScope ["_law_home", "_law_track", "_law_one"] ["_law_home", "_law_track"] (defScope sDue) := ⟨rfl, rfl, rfl, by decide +kernel, rfl, by decide +kernel, by decide +kernel⟩
def dueP : Option (List Str) → Option Str
  | some _ => none
  | none => some "path"
def dueF (hv : V) (o : Option (List Str)) : Option Str := if wV hv = true then dueP o else some "state"
def TellF (K : Frag) (H : Hp) : Option Str → V → Prop
  | none, v => v = .non
  | some f, v => ∃ l, v = .ref l ∧ SqT K H l [.str "address", .str f, .bl true]
theorem TellF.same {H H' : Hp} {e : Option Str} {v : V} (h : TellF K H e v) (s : Same H H') : TellF K H' e v := by
  cases e with
  | none => exact h
  | some f =>
    obtain ⟨l, e, hl⟩ := h
    exact ⟨l, e, same_seqT s hl⟩
def spDue (K : Frag) : Sp := fun vs H Q _ => ∃ (hv tv : V) (d : PyData) (o : Option (List Str)), vs = [hv, tv] ∧ Vx K H hv d ∧ PX K H tv o ∧ ∀ v H', Same H H' → TellF K H' (dueF hv o) v → Q v H'
theorem ok_due {f : Addr} {fd : FuncData} (F : Fun K "_law_due" "_law_due" sDue f fd) (B : Blt mg) (lword : Own P w K mg base CX0 1 "_law_is_word" ["_law_value"] (spLWord K)) : FnOk P w K mg base CX0 2 f fd ["_law_home", "_law_track"] (spDue K) := by
  refine F.ok scDue (fun vs H Q E h => ?_) (fun cdv A outer s H vs Q E hr h => ?_)
  · obtain ⟨hv, tv, d, o, rfl, _⟩ := h
    rfl
  · obtain ⟨hv, tv, d, o, rfl, hh, ht, q⟩ := h
    have hu : (A.deeper (PyProof.Rows.envOfC "_law_due" (defScope sDue) s.heap.objs.size f cdv)).units < cLine := hr.units0
    refine ⟨_, (pss_cons (ps_if (pt_not (pt_val (pe_call lword.g (hr.mono (by decide)) rfl lword.mg lword.kp lword.b .nil pass0 (pa_cons (pv 0) pa_nil)))) (pss_one (ps_ret (pe_tup (pa_cons pe_str (pa_cons pe_str (pa_cons pe_bl pa_nil)))))) pss_nil)
      (pss_cons (ps_if (PW.pt (pw_or (pt_not (pt_val (pe_callB call_isiT (by rfl) B.isinstance_ (by decide +kernel) (pa_cons (pv 1) (pa_cons (pe_tup (pa_cons (pe_bltn (v := .ty "list") (by rfl) B.list_ (by decide +kernel) rfl) (pa_cons (pe_bltn (v := .ty "tuple") (by rfl) B.tuple_ (by decide +kernel) rfl) pa_nil))) pa_nil))))) (pw_or1 (pt_cmpR (op_neNil hu) (pe_lc (own := [("_law_one", 2)]) (g := gName 2) rfl scDue.nd (pi_seq (pv 1))
          (blkOk_by (own := [("_law_one", 2)]) (N := ["_law_home", "_law_track", "_law_one"]) (sc := defScope sDue) (by decide +kernel))
          (fun _ _ _ _ _ => (pg_name (i := 2) scDue.nd rfl (Or.inl rfl))) (fun _ _ _ _ _ => pts_one (pt_not (pt_val (pe_call lword.g (hr.mono (by decide)) rfl lword.mg lword.kp lword.b .nil pass0 (pa_cons (pv 2) pa_nil)))))
          (fun _ _ _ _ _ => (pv 2))) (pe_lst pa_nil) (nomark _))))) (pss_one (ps_ret (pe_tup (pa_cons pe_str (pa_cons pe_str (pa_cons pe_bl pa_nil)))))) pss_nil)
      (pss_one (ps_ret pe_non)))), ?_⟩
    refine ⟨_, rfl, hv, d, rfl, hh, fun H1 s1 => ⟨_, rfl, ?_⟩⟩
    rw [wv_vx hh]
    cases e : wV hv with
    | false =>
      refine iteT ⟨by show 3 ≤ sizeLine; decide, fun l nl => q _ _ (s1.trans (same_new nl)) ?_⟩
      unfold dueF
      rw [e, if_neg (by decide)]
      exact ⟨l, rfl, .inl (.inl upd_same)⟩
    | true =>
    have du : dueF hv o = dueP o := by
      unfold dueF
      rw [if_pos e]
    rw [du] at q
    refine iteF ⟨_, rfl, by show 2 ≤ sizeLine; decide, fun t nt => ?_⟩
    have s2 := s1.trans (same_new (o := .tup [.ty "list", .ty "tuple"]) nt)
    have hT : (upd H1 t (.tup [.ty "list", .ty "tuple"])) t = some (.tup [.ty "list", .ty "tuple"]) := upd_same
    generalize upd H1 t (.tup [.ty "list", .ty "tuple"]) = H2 at s2 hT ⊢
    have bad : ∀ {G : Hp}, Same H G → o = none → ∃ (n : 3 ≤ sizeLine), ∀ p, G p = none → Q (.ref p) (upd G p (.tup [.str "address", .str "path", .bl true])) := fun {G} sG eo => ⟨by decide, fun l nl => by
      subst eo
      exact q _ _ (sG.trans (same_new nl)) ⟨l, rfl, .inl (.inl upd_same)⟩⟩
    rcases ht.same s2 with ⟨dt, h1, nd, eo⟩ | ⟨a, xs, rfl, ha, few, hx, eo⟩
    · refine ⟨_, t, _, _, [.type "list", .type "tuple"], isSeqD dt, rfl, hT, .cons (.ty "list") (.cons (.ty "tuple") .nil), h1.ty, kitSeq dt, _, rfl, ?_⟩
      rw [nd]
      exact iteT (iteT ⟨(bad s2 eo).1, (bad s2 eo).2⟩)
    · have ty : ∃ (T : String), TyX K H2 (.ref a) (.type T) ∧ PySem.W.kitAny K (.type T) [.type "list", .type "tuple"] = some true := by
        rcases ha with h | h
        · exact ⟨"list", sql_ty h, kitSeq (.list [])⟩
        · exact ⟨"tuple", sqt_ty h, kitSeq (.tuple [])⟩
      obtain ⟨T, t1, t2⟩ := ty
      refine ⟨_, t, _, _, [.type "list", .type "tuple"], true, rfl, hT, .cons (.ty "list") (.cons (.ty "tuple") .nil), t1, t2, _, rfl, iteF ⟨_, rfl, ?_⟩⟩
      refine seq_map ha few (fun x => !wV x) (fun x => x) ?hw (fun x hm H3 s3 => ⟨fun R hR => ?_, fun _ H4 s4 R hR => ⟨_, rfl, hR H4 (Same.refl H4)⟩⟩) fun D H3 nD hD s3 => ?_
      case hw => intro _; rfl
      · obtain ⟨dx, hdx⟩ := hx x hm
        refine ⟨_, rfl, x, dx, rfl, hdx.same s3, fun H4 s4 => ⟨_, rfl, ?_⟩⟩
        rw [wv_vx hdx]
        exact hR H4 s4
      · rw [map_same] at hD
        refine ⟨Nat.zero_le _, fun l2 nl2 => ?_⟩
        have s4 := (s2.trans s3).trans (same_new (o := .lst []) nl2)
        refine ⟨D, l2, _, rfl, rfl, (same_new nl2) _ _ hD, upd_same, _, rfl, ?_⟩
        rw [filter_empty]
        have all2 : (xs.all fun x => !!wV x) = xs.all wV := by simp
        rw [all2]
        unfold wordsV at eo
        cases c : xs.all wV with
        | false =>
          rw [c] at eo
          exact iteT ⟨(bad s4 eo).1, (bad s4 eo).2⟩
        | true =>
          rw [c, if_pos rfl] at eo
          subst eo
          exact iteF (q _ _ s4 rfl)
/-! ### == beside a tuple -/
theorem aeq_not {f C : Addr} {fd : FuncData} (F : Fun K "__eq__" "Address.__eq__" sAEq f fd) (T : ATxt K mg C) (kt : PySem.W.kitOne K (.type "tuple") (.ref C) = some false) (B : Blt mg) (mN : mg "NotImplemented" = none) (bd : Binds K fd ["self", "other"] []) (X : Cx) (hP : X.prog = P) (hw : X.w = w) (hK : X.K = K) (hm : X.mg = mg) (hb : X.base = base) :
    NI.Decl X 1 f (fun vs H => ∃ (p dx : Addr) (fs : List (Str × V)) (y : V), vs = [.ref p, y] ∧ H p = some (.ins C dx fs) ∧ ∃ b ds, y = .ref b ∧ Dp K H (.ref b) (.tuple ds)) := by
  subst hP hw hK hm hb
  refine ⟨fun Ar fs s H us vs hp room e0 rel => ?_⟩
  obtain ⟨p, dx, gs, y, rfl, hp1, b, ds, rfl, hd⟩ := hp
  refine NI.ni_fn F scAEq rfl rfl (fun _ _ _ _ => by rfl) mN (fun cd Ar fs s hr => ?_) Ar fs s ⟨us, []⟩ (us ++ []) room e0 (bd s us (fun x o h => (e0.bs x o (e0.mod.kin x o h)).1) (by rw [List.append_nil, ← rel.length]; rfl)) (by rw [List.append_nil]; exact rel)
  refine ⟨_, pt_not (pt_val (pe_callB call_isi (by rfl) B.isinstance_ (by decide +kernel) (pa_cons (pv 1) (pa_cons (pe_glob (v := .ref C) (by rfl) T.mgC rfl) pa_nil)))), ?_⟩
  exact ⟨_, rfl, .ref b, .ref C, _, _, false, rfl, .own C, dp_ty hd, kt, _, rfl, rfl, rfl⟩
end
/-! ### _law_refused: slots _law_call 0, e 1 -/
abbrev sRefused : Stmt := top 20
theorem scRefused : FnScope ["_law_call", "e"] ["_law_call"] (defScope sRefused) := ⟨rfl, rfl, rfl, by decide +kernel, rfl, by decide +kernel, by decide +kernel⟩
theorem takes_len {X : Cx} {W : WX} (t : Takes X W) : Takes X (fun cls d σ H => σ.length = X.N.length → W cls d σ H) := fun u s' ⟨a, B, sI, pins, σ, H, cls, d, e, I, h1, h2, h3, h4, h5, h6, h7⟩ => t u s' ⟨a, B, sI, pins, σ, H, cls, d, e, I, h1, h2, h3, h4, h5, h6, h7 I.len⟩
theorem set_two {σ : L2.St} {v : Option V} (h : σ.length = 2) : (σ.set 1 v)[1]? = some v := by
  rw [List.getElem?_set_self (by omega)]
/-- what is told of a call: None, or the error with its field -/
def ttRef (K : Frag) (CA CO : Addr) (tl : XK → Hp → VK → Prop) (H : Hp) (Q : VK) : Prop := ∀ (E : XK) (Q' : VK),
  (∀ d z H', H' d = some (.xd (ixF nField (.str z))) → (∀ l, H' l = none → Q (.ref l) (upd H' l (.tup [.str "address", .str z, .bl true]))) → E (.ref CA) (some d) H') →
  (∀ d v r H', H' d = some (.xd (ixF nValue v)) → RV.ShowV K H' v r → (∀ l, H' l = none → Q (.ref l) (upd H' l (.tup [.str "range", .str r, .bl true]))) → E (.ref CO) (some d) H') →
  (∀ v H', Q .non H' → Q' v H') → tl E H Q'
theorem gives_refused {X : Cx} {g CA CO fA fO : Addr} {cdg : Value} {q : Str} (TA : ErrC X.K X.mg "InvalidAddress" nField CA fA) (TO : ErrL X.K X.mg "OutOfRange" nValue CO fO) (xfA : XfC X.K CA) (xcA : ExcC X.K CA) (xfO : XfC X.K CO) (xcO : ExcC X.K CO)
    (kA : PySem.W.kitOne X.K (.ref CA) (.type "ValueError") = some true) (kO : PySem.W.kitOne X.K (.ref CO) (.type "LookupError") = some true) (eAA : PySem.W.exmOne X.K (.ref CA) (.ref CA) = some true) (eOA : PySem.W.exmOne X.K (.ref CO) (.ref CA) = some false) (eOO : PySem.W.exmOne X.K (.ref CO) (.ref CO) = some true)
    (mi : X.mg "isinstance" = none) (mr : X.mg "repr" = none) (mv : X.mg "ValueError" = none) (ml : X.mg "LookupError" = none) (quiet : Quiet X.A) (hu : X.A.units + 80 < cLine) : GivesTo X ["_law_call", "e"] "_law_refused" (defScope sRefused) g cdg (defBody sRefused) "_law_call" q (ttRef X.K CA CO) := by
  intro f c' s H Q tl call hc tt
  refine ⟨_, pss_cons (TM.ps_try_all (j := 1) (out := fun _ _ _ _ => False) rfl rfl scRefused.nd rfl rfl L2.takes0
      (fun W pn xe tk _ => pss_one (ps_expr (call _ pn xe (fun cls d H' => ∀ σ' : L2.St, σ'.length = 2 → W cls d σ' H') _ _ (takes_len tk) (fun _ _ σ' _ h l => h σ' l))))
      (.cons ⟨rfl, by decide, Or.inl TA.mgC⟩ (fun a oe cls d pn hz hf => pss_one (ps_ret (pe_tup (pa_cons pe_str (pa_cons (pe_xf xfA TA.no hz hf (pv 1)) (pa_cons (pe_callB (call_isX xcA hz hf) (by rfl) mi (by decide +kernel) (pa_cons (pv 1) (pa_cons (pe_bltn (v := .ty "ValueError") (by rfl) mv (by decide +kernel) rfl) pa_nil))) pa_nil))))))
      (.cons ⟨rfl, by decide, Or.inl TO.mgC⟩ (fun a oe cls d pn hz hf => pss_one (ps_ret (pe_tup (pa_cons pe_str (pa_cons (pe_callB (RV.call_reprVK (K := X.K) rfl (by exact quiet) (by show X.A.units + 3 + 64 < cLine; omega)) (by rfl) mr (by decide +kernel) (pa_cons (pe_xf xfO TO.no hz hf (pv 1)) pa_nil)) (pa_cons (pe_callB (call_isX xcO hz hf) (by rfl) mi (by decide +kernel) (pa_cons (pv 1) (pa_cons (pe_bltn (v := .ty "LookupError") (by rfl) ml (by decide +kernel) rfl) pa_nil))) pa_nil))))))
      .nil)))
      (pss_one (ps_ret pe_non)), ?_⟩
  have ixl : ∀ (n : Str) (v : V), (ixF n v).lookup n = some v := fun n v => by
    rw [lookup_put, if_pos rfl]
  refine ⟨rfl, hc, tt _ _ (fun d z H' hd h => ?_) (fun d v r H' hd hv h => ?_) (fun v H' h => h)⟩
  · intro σ' len
    refine ⟨true, eAA, fun _ a na => ?_, fun z => Bool.noConfusion z⟩
    exact ⟨_, set_two len, rfl, rfl, d, _, _, rfl, hd, ixl _ _, _, set_two len, _, _, true, d, _, rfl, rfl, fun u r => r, rfl, hd, kA, by show 3 ≤ sizeLine; decide, fun l nl => h l nl⟩
  · intro σ' len
    refine ⟨false, eOA, fun z => Bool.noConfusion z, fun _ => ⟨true, eOO, fun _ a na => ?_, fun z => Bool.noConfusion z⟩⟩
    exact ⟨_, set_two len, rfl, rfl, d, _, _, rfl, hd, ixl _ _, v, r, rfl, hv, _, set_two len, _, _, true, d, _, rfl, rfl, fun u r => r, rfl, hd, kO, by show 3 ≤ sizeLine; decide, fun l nl => h l nl⟩
end RL

/-! What is kept in a law that draws from a pen and makes lambdas. -/
namespace RL
open PySem L2 SX AddrMath VA LamX
def notTb : HO → Bool
  | .tbl _ => false
  | _ => true
/-- kept, whatever the pen (at d) and the tables of code objects do -/
def Kd (d : Addr) (H H' : Hp) : Prop := ∀ b o, H b = some o → b ≠ d → notTb o = true → H' b = some o
theorem kd_same {d : Addr} {H H' : Hp} (s : Same H H') : Kd d H H' := fun b o e _ _ => s b o e
theorem kd_but {d : Addr} {H H' : Hp} (s : But d H H') : Kd d H H' := fun b o e n _ => s b o e n
theorem kd_ext {d : Addr} {H H' : Hp} (s : ExtN H H') : Kd d H H' := fun b o e _ n => s b o e fun ps z => by rw [z] at n; cases n
theorem Kd.trans {d : Addr} {H H' H2 : Hp} (s : Kd d H H') (r : Kd d H' H2) : Kd d H H2 := fun b o e n t => r b o (s b o e n t) n t
theorem pen_ext {H H' : Hp} {d c : Addr} {n : Nat} (p : PenAt H d c n) (s : ExtN H H') : PenAt H' d c n := by
  obtain ⟨ns, k, r, h1, h2, h3⟩ := p
  exact ⟨ns, k, r, s _ _ h1 (fun _ z => by cases z), s _ _ h2 (fun _ z => by cases z), h3⟩
theorem tabs_same {T : List (Addr × Str)} {H H' : Hp} (h : Tabs T H) (s : Same H H') : Tabs T H' := fun p hp => (h p hp).ext s
theorem tabs_but {T : List (Addr × Str)} {H H' : Hp} {d c : Addr} {n : Nat} (h : Tabs T H) (p : PenAt H d c n) (s : But d H H') : Tabs T H' := fun q hq => by
  obtain ⟨ns, k, r, h1, _⟩ := p
  obtain ⟨ps, e, t, f⟩ := h q hq
  refine ⟨ps, s _ _ e (ne_of e h1 fun z => by cases z), t, fun pos cv hc => ?_⟩
  obtain ⟨u, rfl, hu⟩ := f pos cv hc
  exact ⟨u, rfl, s _ _ hu (ne_of hu h1 fun z => by cases z)⟩
def notDk : HO → Bool
  | .dK _ => false
  | .tbl _ => false
  | _ => true
/-- what is neither a dict nor a table is kept -/
theorem Kd.at_ {d c : Addr} {n : Nat} {H H' : Hp} (k : Kd d H H') (p : PenAt H d c n) {b : Addr} {o : HO} (h : H b = some o) (nd : notDk o = true) : H' b = some o := by
  obtain ⟨ns, s, r, h1, _⟩ := p
  exact k b o h (ne_of h h1 fun z => by rw [z] at nd; cases nd) (by cases o <;> first | rfl | cases nd)
theorem Kd.kp {d c : Addr} {n : Nat} {H H' : Hp} (k : Kd d H H') (p : PenAt H d c n) : Kp H H' := fun b o h s => k.at_ p h (by cases o <;> first | rfl | cases s)
theorem vy_kd {K : PySem.W.Frag} {H H' : Hp} {d c : Addr} {n : Nat} {v : V} (h : Vy K H d v) (p : PenAt H d c n) (k : Kd d H H') : Vy K H' d v := by
  rcases h with ⟨x, hx, o⟩ | ⟨a, kvs, e, nd, ha⟩
  · exact .inl ⟨x, dp_kp (k.kp p) hx, o⟩
  · exact .inr ⟨a, kvs, e, nd, k a _ ha nd rfl⟩
end RL

/-! Written lists of odd values: each with its repr. -/
namespace RL
open PySem L2 SX AddrMath VA LamX RV PyProof.Rows PySem.Spec
/-- the text of data is not too long, and the data can be shown -/
def okShow (d : PyData) : Bool := (d.showable && !d.hasDict) && (decide (d.depth ≤ 40) && (okD 8 d && okD 8 (.str d.shown)))
theorem show_dp {K : PySem.W.Frag} {H : Hp} {v : V} {d : PyData} (h : Dp K H v d) (ok : okShow d = true) : ShowV K H v d.shown ∧ okD 8 (.str d.shown) = true ∧ okD 8 d = true := by
  unfold okShow at ok
  rw [Bool.and_eq_true, Bool.and_eq_true, Bool.and_eq_true, Bool.and_eq_true, decide_eq_true_eq] at ok
  obtain ⟨⟨o1, o2⟩, o3, o4, o5⟩ := ok
  have nd : d.hasDict = false := by
    cases e : d.hasDict with
    | false => rfl
    | true => rw [e] at o2; cases o2
  have o5' := o5
  rw [okD, Bool.and_eq_true, decide_eq_true_eq] at o5
  have hsz : d.shown.length ≤ sizeLine := size_ok (by omega)
  refine ⟨?_, o5', o4⟩
  cases h with
  | non => exact .non
  | bl b => exact .bl b
  | int i => exact .int i (of_decide_eq_true o1)
  | str z => exact .str z hsz
  | lst h1 h2 => exact .data (.lst h1 h2) o1 nd o3 hsz
  | tup h1 h2 => exact .data (.tup h1 h2) o1 nd o3 hsz
def OddV (K : PySem.W.Frag) (bad : V → Prop) (H : Hp) (v : V) (r : Str) : Prop := ShowV K H v r ∧ okD 8 (.str r) = true ∧ bad v ∧ ∃ d, Vx K H v d
theorem OddV.same {K : PySem.W.Frag} {bad : V → Prop} {H H' : Hp} {v : V} {r : Str} (h : OddV K bad H v r) (s : Same H H') : OddV K bad H' v r := by
  obtain ⟨h1, h2, h3, d, h4⟩ := h
  exact ⟨h1.same s, h2, h3, d, h4.same s⟩
theorem OddV.kd {K : PySem.W.Frag} {bad : V → Prop} {H H' : Hp} {d c : Addr} {n : Nat} {v : V} {r : Str} (h : OddV K bad H v r) (ne : ∀ a, v = .ref a → a ≠ d) (p : PenAt H d c n) (k : Kd d H H') : OddV K bad H' v r := by
  obtain ⟨h1, h2, h3, x, h4⟩ := h
  refine ⟨?_, h2, h3, x, ?_⟩
  · cases h1 with
    | non => exact .non
    | bl b => exact .bl b
    | int i h => exact .int i h
    | str z h => exact .str z h
    | data dp a b c d => exact .data (dp_kp (k.kp p) dp) a b c d
    | edict e => exact .edict (k _ _ e (ne _ rfl) rfl)
  · rcases h4 with ⟨h, o⟩ | ⟨a, kvs, rfl, h, e⟩
    · exact .inl ⟨dp_kp (k.kp p) h, o⟩
    · exact .inr ⟨a, kvs, rfl, k _ _ h (ne _ rfl) rfl, e⟩
/-- an odd value, where Pre stands -/
def tOdd (K : PySem.W.Frag) (Pre : L2.St → Hp → Prop) (bad : V → Prop) : TE := fun σ H Q => Pre σ H ∧ ∀ v H' r, OddV K bad H' v r → Fresh H v → Same H H' → Q v H'
def tOdds (K : PySem.W.Frag) (Pre : L2.St → Hp → Prop) (bad : V → Prop) (n : Nat) : TA := fun σ H Q => Pre σ H ∧ ∀ vs H', (∀ v ∈ vs, Fresh H v ∧ ∃ r, OddV K bad H' v r) → vs.length = n → Same H H' → Q vs H'
def tOddL (K : PySem.W.Frag) (Pre : L2.St → Hp → Prop) (bad : V → Prop) (n : Nat) : TE := fun σ H Q => Pre σ H ∧ ∀ p xs H', H' p = some (.lst xs) → (∀ v ∈ xs, Fresh H v ∧ ∃ r, OddV K bad H' v r) → xs.length = n → Same H H' → H p = none → Q (.ref p) H'
section
variable {X : Cx} {K : PySem.W.Frag} {Pre : L2.St → Hp → Prop} {bad : V → Prop}
theorem odd_lit {e : Expr} {d : PyData} (h : PE X e (tLit K d)) (ok : okShow d = true) (b : ∀ v H, Dp K H v d → bad v) : PE X e (tOdd K Pre bad) := pe_by _ h fun σ H Q w v H' hv fv s => by
  obtain ⟨h1, h2, h3⟩ := show_dp hv ok
  exact w.2 v H' _ ⟨h1, h2, b v H' hv, d, .inl ⟨hv, h3⟩⟩ fv s
theorem odd_dict {e : Expr} (h : PE X e tDNewK) (b : ∀ a, bad (.ref a)) : PE X e (tOdd K Pre bad) := pe_by _ h fun σ H Q w p np => w.2 (.ref p) _ (PyData.dict []).shown ⟨.edict upd_same, by decide +kernel, b p, .dict [], .inr ⟨p, _, rfl, upd_same, rfl⟩⟩ (fun a e => by cases e; exact np) (same_new np)
/-- a number that is looked up -/
theorem odd_int {e : Expr} {te : TE} (h : PE X e te) (k : ∀ σ H Q, Pre σ H → (∀ i : Int, okShow (.int i) = true → bad (.int i) → Q (.int i) H) → te σ H Q) : PE X e (tOdd K Pre bad) := pe_by _ h fun σ H Q w => k σ H Q w.1 fun i ok b => by
  obtain ⟨h1, h2, h3⟩ := show_dp (K := K) (H := H) (.int i) ok
  exact w.2 (.int i) H _ ⟨h1, h2, b, .int i, .inl ⟨.int i, h3⟩⟩ (fun a e => by cases e) (Same.refl H)
theorem odds_nil : PA X [] (tOdds K Pre bad 0) := ⟨fun cp pn s σ H Q J w => pa_nil.run cp pn s σ H Q J (w.2 [] H (fun v hv => by cases hv) rfl (Same.refl H))⟩
theorem odds_cons {e : Expr} {es : List Expr} {n : Nat} (pre : ∀ σ H H', Same H H' → Pre σ H → Pre σ H') (h : PE X e (tOdd K Pre bad)) (t : PA X es (tOdds K Pre bad n)) (hs : starEach (e :: es) X.env = (false, eval e X.env) :: starEach es X.env := by rfl) : PA X (e :: es) (tOdds K Pre bad (n + 1)) :=
  pa_by _ (pa_cons h t hs) fun σ H Q w => ⟨w.1, fun v H1 r hv fv s1 => ⟨pre σ H H1 s1 w.1, fun vs H2 hvs hl s2 => w.2 (v :: vs) H2 (fun u hu => by
    rcases List.mem_cons.mp hu with e | e
    · rw [e]
      exact ⟨fv, r, hv.same s2⟩
    · obtain ⟨a, b⟩ := hvs u e
      exact ⟨a.back s1, b⟩) (by rw [List.length_cons, hl]) (s1.trans s2)⟩⟩
theorem oddL {es : List Expr} {n : Nat} {pos : Pos} (t : PA X es (tOdds K Pre bad n)) (few : n ≤ 1000) : PE X (.List es pos) (tOddL K Pre bad n) :=
  pe_by _ (pe_lst t) fun σ H Q w => ⟨w.1, fun vs H1 hv hl s1 => ⟨Nat.le_of_lt (small1000 (by rw [hl]; exact few)), fun p np => w.2 p vs _ upd_same (fun u hu => by
    obtain ⟨a, r, b⟩ := hv u hu
    exact ⟨a, r, b.same (same_new np)⟩) hl (s1.trans (same_new np)) (s1.free np)⟩⟩
end
end RL
namespace RL
open PySem PySem.W PySem.Spec PySem.Calls PyProof.Rows L2 SX GR
section
variable {X : Cx}
/-- == and != of data of a type -/
def rDatN {α : Type} [DecidableEq α] [Datum α] (K : PySem.W.Frag) (f : α → α → Bool) : R2 := fun x y H Q => ∃ p q : α, Dp K H x (Datum.toD p) ∧ Dp K H y (Datum.toD q) ∧ Q (.bl (f p q)) H
theorem opn_eq {α : Type} [DecidableEq α] [Datum α] (hu : X.A.units + Datum.depth α < cLine) : OpR X (compareOp .Eq) (rDatN (α := α) X.K fun p q => decide (p = q)) := by
  intro pins s σ H x y v u Q I rx ry ⟨p, q, hp, hq, fin⟩
  exact eq_datum (Dp.reads I _ _ _ hp rx) (Dp.reads I _ _ _ hq ry) hu ⟨.bl _, H, I, rfl, fin⟩
theorem opn_ne {α : Type} [DecidableEq α] [Datum α] (hu : X.A.units + Datum.depth α < cLine) : OpR X (compareOp .NotEq) (rDatN (α := α) X.K fun p q => decide (p ≠ q)) := by
  intro pins s σ H x y v u Q I rx ry ⟨p, q, hp, hq, fin⟩
  exact ne_datum (Dp.reads I _ _ _ hp rx) (Dp.reads I _ _ _ hq ry) hu ⟨.bl _, H, I, rfl, fin⟩
end
end RL

/-! The end of a row whose law makes lambdas and knows that no repr is under way. -/
namespace GR
open PySem PySem.Spec PyProof.Rows L2 SX
section
variable {pr : Program} {wo : World} {F : PySem.W.Frag} {gl gb : Str → Option Value} {tabs : List (Addr × Addr)} {s : Shared} {H : Hp} {sc : Addr}
/-- a table of the list -/
abbrev IsTab (tabs : List (Addr × Addr)) (b : Addr) : Prop := ∃ p ∈ tabs, p.2 = b
/-- the heap behind the top with the script and the tables in view -/
theorem quiet_tabs {n : Nat} {at_ : Addr} {fd : FuncData} {x : Str} {sp : Sp} {its : Array Value}
    (inF : F.In s.heap) (nsm : s.heap.Ns mainGlobals gl) (nsb : s.heap.Ns builtinsNs gb) (bb : ∀ y : Str, y ≠ "__name__" → gb y = bootBuiltins y) (lim : s.heap.NoLimit) (ng : s.gens = #[])
    (mb : ∃ (m : Addr) (o : Obj), gl "__builtins__" = some (.ref m) ∧ m ≠ builtinsNs ∧ s.heap.get? m = some o ∧ o.cls = .type "module" ∧ o.dict = some builtinsNs ∧ o.data = .plain)
    (empty : ∀ p ∈ tabs, s.heap.get? p.2 = some { cls := .none, data := .fields #[] }) (off : ∀ p ∈ tabs, F.lookup p.2 = none) (codes : ∀ p ∈ tabs, PySem.W.CodeHd s.heap p.1 p.2)
    (atS : s.heap.get? sc = some { cls := .type "list", data := .seq its }) (room : Room n callerA)
    (D : ∀ b0 : Heap, F.In b0 → b0.Ns mainGlobals gl → (∀ p ∈ tabs, LamX.TabB b0 gl p.1 p.2) → FnQ pr wo F gl b0 n at_ fd [x] sp) (binds : ∀ (s : Shared) (u : Value), BindsTo s fd ⟨[u], []⟩ [(x, u)])
    (want : sp [.ref sc] H (fun v _ => v = .bl true) fun _ _ _ => False)
    (seeT : ∀ p ∈ tabs, H p.2 = some (.tbl #[])) (kinds : ∀ b, H b = none ∨ IsTab tabs b ∨ ∃ o xs, H b = some (.frz o (.lst xs))) (ok : HOk pr wo H s.heap) (isS : ∀ b, H b ≠ none → b = sc ∨ IsTab tabs b) (away : H sc ≠ none → F.lookup sc = none) :
    codeAny (model pr wo) callerA (.call (.ref at_) ⟨[.ref sc], []⟩) (fun r s' => r = .ok (.ret (.bool true)) ∧ OldK s.heap s'.heap ∧ s'.os = s.os ∧ AllBare s'.gens) s := by
  have tabO : ∀ {b}, IsTab tabs b → s.heap.get? b = some { cls := .none, data := .fields #[] } := by
    rintro b ⟨p, hp, rfl⟩
    exact empty p hp
  -- what is neither the script nor a table stands in the base
  have seen : ∀ {b : Addr} {o : Obj}, s.heap.get? b = some o → ((∃ v k, o.data = .seq v k) → H b = none) → o.data ≠ .fields #[] → (hidT s.heap H).get? b = some o := fun {b o} e h1 h2 => hidT_get e (by
    cases q : H b with
    | none => rfl
    | some u =>
      exfalso
      rcases isS b (by rw [q]; exact fun z => nomatch z) with rfl | tb
      · rw [h1 ⟨its, _, by rw [atS] at e; cases e; rfl⟩] at q
        cases q
      · rw [tabO tb] at e
        cases e
        exact h2 rfl)
  have names : ∀ {b : Addr} {m : Str → Option Value}, s.heap.Ns b m → (hidT s.heap H).Ns b m := by
    rintro b m ⟨o, es, ep, e, d, rest⟩
    exact ⟨o, es, ep, seen e (fun ⟨_, _, z⟩ => by rw [d] at z; cases z) (fun z => by rw [d] at z; cases z), d, rest⟩
  have inB : F.In (hidT s.heap H) := fun b o e => hidT_get (inF b o e) (by
    cases q : H b with
    | none => rfl
    | some u =>
      exfalso
      rcases isS b (by rw [q]; exact fun z => nomatch z) with rfl | ⟨p, hp, rfl⟩
      · rw [away (by rw [q]; exact fun z => nomatch z)] at e
        cases e
      · rw [off p hp] at e
        cases e)
  have made : ∀ p ∈ tabs, LamX.TabB (hidT s.heap H) gl p.1 p.2 := by
    intro p hp
    have ep := empty p hp
    obtain ⟨o, vs, t1, t2, t3, t4, t5, t6, t7, c1, c2, c3, c4, rest⟩ := codes p hp
    obtain ⟨m, om, m1, m2, m3, m4, m5, m6⟩ := mb
    obtain ⟨og, eg, kg, g1, g2, _⟩ := nsm
    refine ⟨⟨o, vs, t1, t2, t3, t4, t5, t6, t7, seen c1 (fun ⟨_, _, z⟩ => by rw [c3] at z; cases z) (fun z => by rw [c3] at z; cases z; simp at c4), c2, c3, c4, rest⟩, ⟨m, om, m1, m2, fun q => ?_, fun q => ?_, seen m3 (fun ⟨_, _, z⟩ => by rw [m6] at z; cases z) (fun z => by rw [m6] at z; cases z), m4, m5, m6⟩, fun q => ?_⟩
    · rw [q, g1] at m3
      cases m3
      rw [g2] at m6
      cases m6
    · rw [q, ep] at m3
      cases m3
      cases m6
    · rw [q, ep] at g1
      cases g1
      cases g2
  have e0 : Env0 pr wo F gl (hidT s.heap H) callerA [] s H := by
    refine ⟨rfl, ⟨inB, names nsm, ⟨gb, names nsb, bb⟩, ?_⟩, fun b o e => of_hidT e, Nat.le_of_eq (hidT_size _ _), trivial, ?_, ok, .of_eq ng⟩
    · obtain ⟨mc, h1, h2⟩ := lim
      exact ⟨mc, names h1, h2⟩
    · intro b hb
      cases (show b ∈ ([] : List Addr) from hb)
  refine codeAny_mono ((D _ inB (names nsm) made).runs callerA [] s H ⟨[.ref sc], []⟩ [.ref sc] [.ref sc] _ _ rfl room e0 (binds s (.ref sc)) (.cons rfl .nil) want) ?_
  rintro (e | fl) s' h
  · exact (show False from h).elim
  cases fl with
  | next => exact (show False from h).elim
  | brk => exact (show False from h).elim
  | cont => exact (show False from h).elim
  | ret u =>
    obtain ⟨v, H', os, bare, un, ok', rel, q⟩ := h
    cases (show v = V.bl true from q)
    cases (show u = Value.bool true from rel)
    have stays : ∀ b o, ¬ IsTab tabs b → s.heap.get? b = some o → s'.heap.get? b = some o := fun b o nt e => by
      cases q : H b with
      | none => exact un.keep b o e q (fun z => by cases (show b ∈ ([] : List Addr) from z)) (by simp)
      | some u =>
        rcases kinds b with z | z | ⟨ob, xs, z⟩
        · rw [q] at z
          cases z
        · exact absurd z nt
        · have p1 := (ok b _ z).1
          have p2 := (ok' b _ (un.frzs b ob _ z)).1
          rw [e] at p1
          cases p1
          exact p2
    have more : ∀ {b}, IsTab tabs b → ∃ ys : Array Value, s'.heap.get? b = some { cls := .none, data := .fields ys } := by
      rintro b ⟨p, hp, rfl⟩
      obtain ⟨ys, z⟩ := un.tbls p.2 #[] (seeT p hp)
      exact ⟨_, ok' p.2 _ z⟩
    refine ⟨rfl, ⟨fun b o e => ?_, fun b o e => ?_⟩, os, bare⟩
    · by_cases tb : IsTab tabs b
      · obtain ⟨ys, hy⟩ := more tb
        have t0 := tabO tb
        obtain ⟨p, hp, rfl⟩ := tb
        rw [e] at t0
        cases t0
        exact .inr (.inl ⟨((codes p hp).tab (empty p hp)).isCodeTable, rfl, #[], ys, rfl, by rw [Array.empty_append]; exact hy⟩)
      · exact .inl (stays b o tb e)
    · by_cases tb : IsTab tabs b
      · obtain ⟨ys, hy⟩ := more tb
        exact ⟨_, hy⟩
      · exact ⟨o, stays b o tb e⟩
end
end GR

/-! The end of a row whose law makes lambdas: the law's own table of code objects. -/
namespace GR
open PySem PySem.Spec PyProof.Rows L2 SX
section
variable {pr : Program} {wo : World} {F : PySem.W.Frag} {gl : Str → Option Value} {b0 : Heap}
theorem quiet_fnC {x qual : Str} {st : Stmt} {at_ c : Addr} {fd : FuncData} {N names : List Str} {n : Nat} {sp : Sp} (D : ∃ oc od kV doc pm an ct osl, fd = PySem.W.fnOf x qual (defArgs st) (defBody st) (defScope st) .none kV doc pm an (.ref c) ct ∧ F.lookup at_ = some ⟨oc, od, .func fd, osl⟩ ∧ PySem.W.codeIn F (.ref c) qual = true) (S : FnScope N names (defScope st))
    (many : ∀ vs H Q E, sp vs H Q E → vs.length = names.length)
    (body : ∀ (Ar : Around) (fs : List Env) (s : Shared) (H : Hp) (vs : List V) (Q : VK) (E : XK), Quiet Ar →
      Room n (Ar.deeper (envOfC qual (defScope st) s.heap.objs.size at_ (.ref c))) → sp vs H Q E →
      ∃ t, PSs (cxOf CX0 pr wo F gl b0 N qual (defScope st) at_ (.ref c) Ar fs s H E).nox (defBody st) t ∧
        t { nx := fun _ H' => Q .non H', rt := Q } (start N vs) H) :
    FnQ pr wo F gl b0 (n + 1) at_ fd names sp := by
  obtain ⟨oc, od, kV, doc, pm, an, ct, osl, rfl, here, code⟩ := D
  refine ⟨many, ?_⟩
  intro Ar fs s H gs us vs Q E quiet room e0 binds rel want
  have FX : F.In s.heap := e0.mod.kin.keeps (fun b o e => (e0.bs b o e).1)
  have lim : s.heap.NoLimit := e0.mod.nolimit.keeps (fun b o e => (e0.bs b o e).1)
  refine codeAny_call_function room.depth (FX _ _ here) rfl S.co S.gen rfl (PySem.W.codeRec_of FX code) (binds _ _ _ _ ?_)
  refine wpAny_newFunctionEnv_cells S.kind ?_ (fun en en_is s1 inside => ?_)
  · rintro ⟨nm, v⟩ mem
    rcases S.par nm (List.of_mem_zip mem).1 with q | q
    · exact Or.inl q
    · exact Or.inr ⟨q, PySem.W.cellsFrom_some _ _ _ (Or.inl q)⟩
  subst en_is
  refine ⟨lim.keeps inside.toInCall.keep, codeAny_func ?_⟩
  obtain ⟨t, reads, does⟩ := body Ar fs s H vs Q E quiet (room.deeper _) want
  have I0 := inv_start (CX := CX0) (E := E) S room.hd e0 (many _ _ _ _ want) rel inside
  refine wpAny_mono (reads.nox.run [] s1 (start N vs) H _ I0 does) ?_ (fun _ _ h => h)
  intro fl s' ends
  cases fl with
  | next =>
    obtain ⟨σ', H', J, q⟩ := ends
    exact ⟨V.non, H', J.os, J.bare, J.base, J.hok, rfl, q⟩
  | ret u =>
    obtain ⟨v, σ', H', J, rv, q⟩ := ends
    exact ⟨v, H', J.os, J.bare, J.base, J.hok, rv, q⟩
  | brk =>
    obtain ⟨_, _, _, z⟩ := ends
    exact z.elim
  | cont =>
    obtain ⟨_, _, _, z⟩ := ends
    exact z.elim
end
theorem walk_tab {l : PySem.W.OpenLaw} {most n : Nat} {q : Program} {loose : List Str} {XP : (Str → Option Value) → Heap → Prop} {YP : World → Heap → Prop} {d : DefRec} {F : Params → PySem.W.Frag} {sp : Addr → World → Sp} {x : Str}
    (hm : l.most = some most) (small : most ≤ sizeLine) (nd : d.params.defaults = []) (room : Room n callerA) (hany : ((recsOf q).any fun e => e.name == d.name) = true)
    (hY : ∀ (wo : World) (h : Heap), YP wo h → (F wo.params).In h)
    (D : ∀ (wo : World) (gl : Str → Option Value) (at_ : Addr) (h : Heap), (F wo.params).In h → h.Ns mainGlobals gl → gl d.name = some (.ref at_) →
      ∃ (fd : FuncData) (c P : Addr) (o : Obj) (vs : Array Value) (e : Value) (dd : Option Addr) (sl : Array (Option Value)), (F wo.params).lookup at_ = some o ∧ o.data = .func fd ∧ fd.code = .ref c ∧ (F wo.params).lookup c = some ⟨e, dd, .fields vs, sl⟩ ∧ vs[11]? = some (.ref P) ∧
        (F wo.params).lookup P = none ∧ (∀ (s : Shared) (u : Value), BindsTo s fd ⟨[u], []⟩ [(x, u)]) ∧
        ∀ b0 : Heap, (F wo.params).In b0 → b0.Ns mainGlobals gl → LamX.TabB b0 gl c P → FnQ l.prog wo (F wo.params) gl b0 n at_ fd [x] (sp P wo))
    (want : ∀ (wo : World) (H : Hp) (sc P : Addr) (ns : List Int), ns.length ≤ most → SqL (F wo.params) H sc (ns.map V.int) → H P = some (.tbl #[]) → sp P wo [.ref sc] H (fun v _ => v = .bl true) fun _ _ _ => False) :
    PySem.W.WalkO q loose XP YP l.row.toRowW d [] (fun f vs => PySem.call f vs) := by
  refine Att.attach_call hm nd ?_
  intro wo s₀ s gl gb at_ o pm cd doc sc vs ns G Y ho hd hcd hgl atS areI len ng
  have inF := hY wo _ Y
  obtain ⟨fd, c, P, o', vs', e', dd', sl', k1, k2, k3, k4, k5, k6, binds, D0⟩ := D wo gl at_ _ inF G.T.g hgl
  have rv := vals_ints areI
  have lenV := areI.length
  have small' : ns.length ≤ sizeLine := Nat.le_trans len small
  -- the table is empty
  obtain ⟨empty, hcode⟩ : s.heap.get? P = some { cls := .none, data := .fields #[] } ∧ PySem.W.CodeHd s.heap c P := by
    obtain ⟨e, he, hn⟩ := List.any_eq_true.mp hany
    obtain ⟨a2, o2, fd2, c2, P2, t1, t2, t3, t4, t5, t6⟩ := G.T.tab e he
    rw [beq_iff_eq.mp hn, hgl] at t1
    have e1 : at_ = a2 := Value.ref.inj (Option.some.inj t1)
    subst e1
    have e2 : o' = o2 := Option.some.inj ((inF _ _ k1).symm.trans t2)
    subst e2
    have e3 : fd = fd2 := Data.func.inj (k2.symm.trans t3)
    subst e3
    have e4 : c = c2 := Value.ref.inj (k3.symm.trans t4)
    subst e4
    obtain ⟨⟨oc, vc, u1, u2, u3, u4⟩, u5⟩ := t6
    have e5 := Option.some.inj ((inF _ _ k4).symm.trans u1)
    subst e5
    have e6 : vs' = vc := Data.fields.inj u3
    subst e6
    have e7 : P = P2 := Value.ref.inj (Option.some.inj (k5.symm.trans u4))
    subst e7
    obtain ⟨o5, v5, file, tf, flags, tg, inF', text, tt, op, w1, w2, w3, w4, w5, w6, w7, w8, w9, w10, w11⟩ := t5
    have e8 := Option.some.inj ((inF _ _ k4).symm.trans w1)
    subst e8
    have e9 : vs' = v5 := Data.fields.inj w2
    subst e9
    exact ⟨u5, _, _, file, tf, flags, tg, inF', text, tt, w1, u2, w2, k5, w3, w4, w5, w6, w7, w11⟩
  have nP : P ≠ sc := fun z => by
    have e1 := Option.some.inj (empty.symm.trans (by rw [z]; exact atS))
    have e2 := congrArg Obj.data e1
    cases e2
  have kP : ¬ (F wo.params).lookup sc = none → ∀ b, (F wo.params).lookup b ≠ none → b ≠ P := fun _ b h z => h (by rw [z]; exact k6)
  have tabsOk : ∀ {R : Addr × Addr → Prop}, R (c, P) → ∀ p ∈ [(c, P)], R p := fun {R} h p hp => by rw [List.mem_singleton.mp hp]; exact h
  have go := fun (H : Hp) (seen : SqL (F wo.params) H sc (ns.map V.int)) (seeP : H P = some (.tbl #[])) (kinds : ∀ b, H b = none ∨ b = P ∨ ∃ o xs, H b = some (.frz o (.lst xs))) (ok : HOk l.prog wo H s.heap) (isS : ∀ b, H b ≠ none → b = sc ∨ b = P) (away : H sc ≠ none → (F wo.params).lookup sc = none) =>
    quiet_tabs (pr := l.prog) (wo := wo) (F := F wo.params) (tabs := [(c, P)]) (H := H) (sc := sc) (sp := sp P wo) inF G.T.g G.T.b G.T.builtins G.T.nolimit ng G.T.bmain (tabsOk (R := fun p => s.heap.get? p.2 = _) empty) (tabsOk (R := fun p => (F wo.params).lookup p.2 = none) k6) (tabsOk (R := fun p => PySem.W.CodeHd s.heap p.1 p.2) hcode) atS room
      (fun b0 h1 h2 h3 => D0 b0 h1 h2 (h3 (c, P) (List.mem_singleton.mpr rfl))) binds (want wo H sc P ns len seen seeP) (tabsOk (R := fun p => H p.2 = some (.tbl #[])) seeP)
      (fun b => (kinds b).imp id (Or.imp (fun z => ⟨(c, P), List.mem_singleton.mpr rfl, z.symm⟩) id)) ok (fun b h => (isS b h).imp id fun z => ⟨(c, P), List.mem_singleton.mpr rfl, z.symm⟩) away
  by_cases known : (F wo.params).lookup sc = none
  · refine go (fun b => if b = P then some (.tbl #[]) else if b = sc then some (.frz { cls := .type "list", data := .seq vs.toArray } (.lst (ns.map V.int))) else none) (Or.inl (Or.inr ⟨{ cls := .type "list", data := .seq vs.toArray }, (if_neg (Ne.symm nP)).trans (if_pos rfl)⟩)) (if_pos rfl) (fun b => ?_) ?_ (fun b ne => ?_) (fun _ => known)
    · by_cases e : b = P
      · exact Or.inr (Or.inl e)
      · by_cases e2 : b = sc
        · exact Or.inr (Or.inr ⟨_, _, (if_neg e).trans (if_pos e2)⟩)
        · exact Or.inl ((if_neg e).trans (if_neg e2))
    · intro b u e
      by_cases e1 : b = P
      · have e' := (if_pos e1).symm.trans e
        cases e'
        subst e1
        exact empty
      · by_cases eq : b = sc
        · have e' := ((if_neg e1).trans (if_pos eq)).symm.trans e
          cases e'
          subst eq
          exact ⟨atS, by rw [List.length_map]; exact small', vs, _, rv, atS⟩
        · have e' := ((if_neg e1).trans (if_neg eq)).symm.trans e
          cases e'
    · by_cases e : b = P
      · exact Or.inr e
      · by_cases eq : b = sc
        · exact Or.inl eq
        · exact absurd ((if_neg e).trans (if_neg eq)) ne
  · obtain ⟨o', ho'⟩ := Option.ne_none_iff_exists'.mp known
    have e := (atS.symm.trans (inF sc o' ho'))
    cases e
    refine go (fun b => if b = P then some (.tbl #[]) else none) (Or.inr ⟨_, vs.toArray, _, ho', rfl, rfl, rfl, by rw [List.size_toArray, lenV]; exact small', by simpa using rv⟩) (if_pos rfl) (fun b => ?_) ?_ (fun b ne => ?_) (fun ne => ?_)
    · by_cases e : b = P
      · exact Or.inr (Or.inl e)
      · exact Or.inl (if_neg e)
    · intro b u e
      by_cases e1 : b = P
      · have e' := (if_pos e1).symm.trans e
        cases e'
        subst e1
        exact empty
      · have e' := (if_neg e1).symm.trans e
        cases e'
    · by_cases e : b = P
      · exact Or.inr e
      · exact absurd (if_neg e) ne
    · exact absurd (if_neg (Ne.symm nP)) ne
end GR

namespace RL
open PySem L2 SX AddrMath VA PySem.W GR LamX
/-- a method of the text that an operator calls -/
structure OwM (P : Program) (w : World) (K : Frag) (mg : Str → Option Value) (base : Heap) (C : Addr) (nm : Str) (CX : CXT) (n : Nat) (ps : List Str) (sp : Sp) where
  f : Addr
  fd : FuncData
  at_ : findIn K (.ref C) nm = some (some (.ref f))
  isF : isFn K (.ref f) = true
  fi : fnIn K f = true
  ok : FnOk P w K mg base CX n f fd ps sp
  b : Binds K fd ps []
/-- the def that calls a lambda, as it stands -/
structure RefAt (K : Frag) (mg : Str → Option Value) (g : Addr) (oc : Value) (od : Option Addr) (dV kV doc pm : Value) (an : Option Addr) (cdv ct : Value) (sl : Array (Option Value)) : Prop where
  hm : mg "_law_refused" = some (.ref g)
  hk : PySem.W.keepIn K (.ref g) = true
  lk : List.lookup g K = some ⟨oc, od, .func (PySem.W.fnOf "_law_refused" "_law_refused" (defArgs sRefused) (defBody sRefused) (defScope sRefused) dV kV doc pm an cdv ct), sl⟩
  hcg : PySem.W.codeIn K cdv "_law_refused" = true
  hb : Binds K (PySem.W.fnOf "_law_refused" "_law_refused" (defArgs sRefused) (defBody sRefused) (defScope sRefused) dV kV doc pm an cdv ct) ["_law_call"] []
/-- the two errors, as the law catches them -/
structure ErrsC (K : Frag) (mg : Str → Option Value) (CA fA CO fO : Addr) : Prop where
  TA : ErrC K mg "InvalidAddress" nField CA fA
  TO : ErrL K mg "OutOfRange" nValue CO fO
  xfA : XfC K CA
  xcA : ExcC K CA
  xfO : XfC K CO
  xcO : ExcC K CO
  kA : PySem.W.kitOne K (.ref CA) (.type "ValueError") = some true
  kO : PySem.W.kitOne K (.ref CO) (.type "LookupError") = some true
  eAA : PySem.W.exmOne K (.ref CA) (.ref CA) = some true
  eOA : PySem.W.exmOne K (.ref CO) (.ref CA) = some false
  eOO : PySem.W.exmOne K (.ref CO) (.ref CO) = some true
  mv : mg "ValueError" = none
  ml : mg "LookupError" = none
section
variable {P : Program} {w : World} {K : Frag} {mg : Str → Option Value} {base : Heap}
theorem pass_none {X : Cx} : Passes (L2.CX P w) X E0 := fun _ _ _ _ _ _ _ h => by
  obtain ⟨_, _, _, _, _, _, _, _, _, _, _, _, h⟩ := h
  exact h.elim
theorem AddrT.kd {C : Addr} {H H' : Hp} {d c : Addr} {n : Nat} {a t : Addr} {z : Str} {ss : List Str} (h : AddrT K C H a t z ss) (p : PenAt H d c n) (k : Kd d H H') : AddrT K C H' a t z ss := by
  obtain ⟨dx, j, h1, h2, h3⟩ := h
  exact ⟨dx, j, k.at_ p h1 rfl, (k.kp p).sqT h2, (k.kp p).sqT h3⟩
abbrev qLaw : Str := (Str.ofString "law" ++ Str.ofString ".<locals>.") ++ Str.ofString "<lambda>"
abbrev qIdx : Str := (Str.ofString "_law_indexes_right" ++ Str.ofString ".<locals>.") ++ Str.ofString "<lambda>"
/-! ### _law_indexes_right: slots _law_pen_here 0, _law_one 1, _law_track 2, _law_k 3, _law_odd 4 cells _law_odd,_law_one -/
abbrev sIdx : Stmt := top 22
abbrev NX : List Str := ["_law_pen_here", "_law_one", "_law_track", "_law_k", "_law_odd"]
theorem scIdx : FnScope NX ["_law_pen_here", "_law_one", "_law_track"] (defScope sIdx) := ⟨rfl, rfl, rfl, by decide +kernel, rfl, by decide +kernel, by decide +kernel⟩
def spIdx (K : Frag) (C Pl Pi : Addr) : Sp := fun vs H Q _ => ∃ (d c a t tr : Addr) (n : Nat) (z : Str) (ss : List Str), vs = [.ref d, .ref a, .ref tr] ∧ PenAt H d c n ∧ n ≤ 900000 ∧ AddrT K C H a t z ss ∧ H tr = some (.lst (tV ss)) ∧ ss.length ≤ 6 ∧ Tabs [(Pl, qLaw), (Pi, qIdx)] H ∧
  ∀ H', PenAt H' d c (n + 1) → Tabs [(Pl, qLaw), (Pi, qIdx)] H' → Kd d H H' → Q (.bl true) H'
theorem tv_toD {H : Hp} : ∀ ss : List Str, DpAll K H (tV ss) (ss.map Datum.toD) := tv_dat
theorem dp_strs {H : Hp} {l : Addr} {ss : List Str} (h : SqL K H l (tV ss)) : Dp K H (.ref l) (Datum.toD ss) := .lst h (tv_dat ss)
/-- where the list's length is looked up -/
def preT (K : Frag) (m : Nat) : L2.St → Hp → Prop := fun σ H => ∃ tr xs, σ[2]? = some (some (.ref tr)) ∧ SqL K H tr xs ∧ xs.length = m
theorem preT_same {m : Nat} (σ : L2.St) (H H' : Hp) (s : Same H H') (h : preT K m σ H) : preT K m σ H' := by
  obtain ⟨tr, xs, h1, h2, h3⟩ := h
  exact ⟨tr, xs, h1, s.seq h2, h3⟩
abbrev badI (m : Nat) : V → Prop := fun v => idxV v m = false
theorem bad_big {m : Nat} (hm : m ≤ 6) (i : Int) (h : 12 < i ∨ i < 0) : badI m (.int i) := by
  show (decide (0 ≤ i) && decide (i < (m : Int))) = false
  rcases h with h | h
  · rw [decide_eq_false (p := i < (m : Int)) (by omega), Bool.and_false]
  · rw [decide_eq_false (p := 0 ≤ i) (by omega), Bool.false_and]
theorem small_show (i : Int) (h : -7 ≤ i ∧ i ≤ 7) : okShow (.int i) = true := by
  have : i = -7 ∨ i = -6 ∨ i = -5 ∨ i = -4 ∨ i = -3 ∨ i = -2 ∨ i = -1 ∨ i = 0 ∨ i = 1 ∨ i = 2 ∨ i = 3 ∨ i = 4 ∨ i = 5 ∨ i = 6 ∨ i = 7 := by omega
  rcases this with rfl | rfl | rfl | rfl | rfl | rfl | rfl | rfl | rfl | rfl | rfl | rfl | rfl | rfl | rfl <;> decide +kernel
theorem ok_idx {f cI Pl Pi C CO CA fA fO gR : Addr} {fd : FuncData} (D : ∃ oc od kV doc pm an ct osl, fd = PySem.W.fnOf "_law_indexes_right" "_law_indexes_right" (defArgs sIdx) (defBody sIdx) (defScope sIdx) .none kV doc pm an (.ref cI) ct ∧ K.lookup f = some ⟨oc, od, .func fd, osl⟩ ∧ PySem.W.codeIn K (.ref cI) "_law_indexes_right" = true)
    (B : Blt mg) (pick : Own P w K mg base CX0 2 "_law_pick" ["_law_pen_here", "_law_items"] spPick) (item : OwM P w K mg base C "__getitem__" (L2.CX P w) 3 ["self", "at"] (spAItem K C CO)) (EC : ErrsC K mg CA fA CO fO)
    {oc dV kV doc pm cdv ct : Value} {od an : Option Addr} {sl : Array (Option Value)} (FF : RefAt K mg gR oc od dV kV doc pm an cdv ct sl) (TB : TabB base mg cI Pi) (ne : Pl ≠ Pi) : FnQ P w K mg base 7 f fd ["_law_pen_here", "_law_one", "_law_track"] (spIdx K C Pl Pi) := by
  refine quiet_fnC D scIdx (fun vs H Q E h => ?_) (fun Ar fs s0 H vs Q E quiet hr h => ?_)
  · obtain ⟨d, c, a, t, tr, n, z, ss, rfl, _⟩ := h
    rfl
  · obtain ⟨d, c, a, t, tr, n, z, ss, rfl, p, hn, hA, htr, few, tb, q⟩ := h
    have hq := quiet_deeper (e := PyProof.Rows.envOfC "_law_indexes_right" (defScope sIdx) s0.heap.objs.size f (.ref cI)) quiet
    have hr1 : Room (3 + 1) (Ar.deeper (PyProof.Rows.envOfC "_law_indexes_right" (defScope sIdx) s0.heap.objs.size f (.ref cI))) := hr.mono (by decide)
    have un := hr.un
    refine ⟨_, (pss_cons (ps_if (pt_cmpR (opn_ne (α := List Str) (room_all (k := 64) (by decide) hr.units)) (pe_lc (own := [("_law_k", 3)]) (g := gName 3) (tt := tYes) rfl scIdx.nd (pi_range1 (by rfl) B.range_ (pa_cons (pe_callB call_len (by rfl) B.len_ (by decide +kernel) (pa_cons (pv 2) pa_nil)) pa_nil))
          (blkOk_by (own := [("_law_k", 3)]) (N := NX) (sc := defScope sIdx) (by decide +kernel))
          (fun _ _ _ _ _ => (pg_name (i := 3) scIdx.nd rfl (Or.inl rfl))) (fun _ _ _ _ _ => pts_nil)
          (fun _ _ _ _ _ => (OW.pe_own_item item.at_ item.isF item.fi item.ok item.b hr1 pass_none (pv 1) (pv 3)))) (pe_callTy call_lstA (by rfl) B.list_ (by decide +kernel) (pa_cons (pv 2) pa_nil)) (nomark _)) (pss_one (ps_ret pe_bl)) pss_nil)
      (pss_cons (ps_set (i := 4) scIdx.nd rfl (Or.inr rfl) (pe_call pick.g (hr.mono (by decide)) rfl pick.mg pick.kp pick.b .nil pass0 (pa_cons (pv 0) (pa_cons (oddL (K := K) (Pre := preT K ss.length) (bad := badI ss.length) (n := 11)
          (odds_cons preT_same (odd_lit lit_non (by decide +kernel) (fun v H h => by cases h; rfl)) (odds_cons preT_same (odd_lit lit_neg (by decide +kernel) (fun v H h => by cases h; exact bad_big few _ (.inr (by decide)))) (odds_cons preT_same (odd_int (pe_callB call_len (by rfl) B.len_ (by decide +kernel) (pa_cons (pv 2) pa_nil)) ?len1)
          (odds_cons preT_same (odd_lit lit_bl (by decide +kernel) (fun v H h => by cases h; rfl)) (odds_cons preT_same (odd_lit lit_bl (by decide +kernel) (fun v H h => by cases h; rfl)) (odds_cons preT_same (odd_lit lit_str (by decide +kernel) (fun v H h => by cases h; rfl)) (odds_cons preT_same (odd_lit (lit_tup (lits_cons lit_int lits_nil) (by decide)) (by decide +kernel) (fun v H h => by cases h; rfl))
          (odds_cons preT_same (odd_lit (lit_pow ⟨by decide, by decide, by decide⟩) (by decide +kernel) (fun v H h => by cases h; exact bad_big few _ (.inl (by decide +kernel)))) (odds_cons preT_same (odd_lit (lit_lst (lits_cons lit_int lits_nil) (by decide)) (by decide +kernel) (fun v H h => by cases h; rfl))
          (odds_cons preT_same (odd_int (pe_op op_sub pe_int (pe_callB call_len (by rfl) B.len_ (by decide +kernel) (pa_cons (pv 2) pa_nil))) ?len2) (odds_cons preT_same (odd_dict pe_dnewK (fun a => rfl)) odds_nil))))))))))) (by decide)) pa_nil))))
      (pss_one (ps_ret (pe_cmpR (opn_eq (α := T3 Str Str Bool) (room_all (k := 64) (by decide) hr.units)) (pe_lamcall (x := "_law_refused") (T := [(Pl, qLaw), (Pi, qIdx)]) (k := 4) (by rfl) FF.hm FF.hk FF.lk FF.hcg FF.hb scRefused rfl (Or.inl rfl)
          (gives_refused (X := (cxOf CX0 P w K mg base NX "_law_indexes_right" (defScope sIdx) f (.ref cI) Ar fs s0 H E).nox) EC.TA EC.TO EC.xfA EC.xcA EC.xfO EC.xcO EC.kA EC.kO EC.eAA EC.eOA EC.eOO B.isinstance_ B.repr_ EC.mv EC.ml hq ?hu)
          TB rfl (List.mem_cons_of_mem _ (List.mem_singleton.mpr rfl)) ?huniq (hr.mono (by decide)) (lamS_by (sc := defScope sIdx) (by decide +kernel)) rfl (fun _ _ _ _ _ => rfl)
          (fun _ _ _ _ _ _ _ hr4 => OW.pe_own_item item.at_ item.isF item.fi item.ok item.b hr4 (passes_of (takes_of rfl rfl rfl rfl)) (pv 1) (pv 4)))
        (pe_tup (pa_cons pe_str (pa_cons (pe_callB (RV.call_reprV hq hr.units) (by rfl) B.repr_ (by decide +kernel) (pa_cons (pv 4) pa_nil)) (pa_cons pe_bl pa_nil)))) (nomark _)))))), ?_⟩
    case len1 =>
      rintro σ H Q0 ⟨tr, xs, e1, h1, hl⟩ k
      refine ⟨_, e1, _, xs.length, rfl, .inl ⟨xs, h1, rfl⟩, ?_⟩
      rw [hl]
      refine k _ (small_show _ (by omega)) ?_
      show (decide (0 ≤ ((ss.length : Nat) : Int)) && decide (((ss.length : Nat) : Int) < (ss.length : Int))) = false
      rw [decide_eq_false (p := ((ss.length : Nat) : Int) < (ss.length : Int)) (by omega), Bool.and_false]
    case len2 =>
      rintro σ H Q0 ⟨tr, xs, e1, h1, hl⟩ k
      refine ⟨_, e1, _, xs.length, rfl, .inl ⟨xs, h1, rfl⟩, _, _, rfl, rfl, ?_⟩
      rw [hl]
      refine k _ (small_show _ (by omega)) ?_
      show (decide (0 ≤ (0 - ((ss.length : Nat) : Int))) && decide ((0 - ((ss.length : Nat) : Int)) < (ss.length : Int))) = false
      by_cases e : ss.length = 0
      · rw [e]
        rfl
      · rw [decide_eq_false (p := 0 ≤ (0 - ((ss.length : Nat) : Int))) (by omega), Bool.false_and]
    case hu =>
      show (Ar.deeper (PyProof.Rows.envOfC "_law_indexes_right" (defScope sIdx) s0.heap.objs.size f (.ref cI))).units + 80 < cLine
      omega
    case huniq =>
      intro p hp e
      rcases List.mem_cons.mp hp with rfl | hp
      · exact absurd e ne
      · rw [List.mem_singleton.mp hp]
        rfl
    have lss : (tV ss).length = ss.length := List.length_map ..
    have hA0 := hA
    obtain ⟨dx, k, ha, ht, hk⟩ := hA0
    refine ⟨_, rfl, _, (tV ss).length, rfl, .inl ⟨_, .inl (.inl htr), rfl⟩, ((tV ss).length : Int), rfl, by omega, by omega, fun D nD => ?_⟩
    refine lc_range (lo := 0) (n := (tV ss).length) (fun i G => Same H G ∧ G D = some (.lst (tV (ss.take i)))) ⟨same_new nD, upd_same⟩ (fun i G hi g => ?_) (fun G g => ?_)
    · obtain ⟨sG, hD⟩ := g
      refine ⟨rfl, no_test fun G2 s2 => ?_⟩
      have hi' : i < ss.length := by omega
      refine iteT ⟨_, rfl, _, rfl, a, dx, _, rfl, s2 _ _ (sG _ _ ha), trivial, a, t, z, ss, .int (0 + (i : Int)), .int (0 + (i : Int)), rfl, (hA.same sG).same s2, .inl ⟨.int _, rfl⟩, fun j y ej ey => ?_, fun bad => ?_⟩
      · refine ⟨_, s2 _ _ hD, size_lt (by rw [List.length_map, List.length_take]; omega), fun b o e => ?_, ?_⟩
        · rw [upd_ne (ne_of_none e nD)]
          exact s2 _ _ (sG _ _ e)
        · rw [upd_same]
          have : j = i := by
            have e := V.int.inj ej
            omega
          subst this
          rw [List.take_add_one, ey]
          show some (HO.lst ((ss.take j).map V.str ++ [V.str y])) = some (.lst ((ss.take j ++ [y]).map V.str))
          rw [List.map_append]
          rfl
      · exfalso
        have e : (decide (0 ≤ (0 + (i : Int))) && decide ((0 + (i : Int)) < (ss.length : Int))) = false := bad
        rw [decide_eq_true (by omega), decide_eq_true (by omega)] at e
        cases e
    obtain ⟨sG, hD⟩ := g
    rw [lss, List.take_length] at hD
    refine ⟨_, rfl, tr, _, rfl, .inl (.inl (.inl (sG _ _ htr))), fun l nl => ?_⟩
    have s1 := sG.trans (same_new (o := .lst (tV ss)) nl)
    refine ⟨ss, ss, dp_strs (.inl (.inl (same_new nl _ _ hD))), dp_strs (.inl (.inl upd_same)), _, rfl, if_is (fun e => absurd (of_decide_eq_true e) (fun z => z rfl)) fun _ => ?_⟩
    generalize upd G l (.lst (tV ss)) = G1 at s1 ⊢
    clear hD nl sG
    -- odd
    have p1 := p.keep s1
    refine ⟨_, rfl, ⟨tr, _, rfl, .inl (.inl (s1 _ _ htr)), lss⟩, fun ol xs G2 hol hodd lx s2 nol => ?_⟩
    have p2 := p1.keep s2
    refine ⟨d, c, n, _, rfl, p2, by omega, .inl ⟨ol, xs, rfl, hol, by omega, by omega, fun v G3 mv p3 b3 => ?_⟩⟩
    obtain ⟨fv, r, ov⟩ := hodd v mv
    have nev : ∀ b, v = .ref b → b ≠ d := fun b e z => p1.ne (by rw [← z]; exact fv b e)
    have ov3 := ov.kd nev p2 (kd_but b3)
    have tb3 := tabs_but (tabs_same tb (s1.trans s2)) p2 b3
    have k3 : Kd d H G3 := ((kd_same s1).trans (kd_same s2)).trans (kd_but b3)
    have hA3 : AddrT K C G3 a t z ss := ((hA.same s1).same s2).kd p2 (kd_but b3)
    -- refused
    refine ⟨tb3, fun G4 x4 tb4 E' Q' eA eO hQ => ?_⟩
    have p4 := pen_ext p3 x4
    have k4 := k3.trans (kd_ext x4)
    have ov4 := ov3.kd nev p3 (kd_ext x4)
    have hA4 := hA3.kd p3 (kd_ext x4)
    obtain ⟨sh, okr, bad, dv, vx⟩ := ov4
    have hA4' := hA4
    obtain ⟨dx4, k', ha4, _⟩ := hA4'
    refine ⟨_, rfl, _, rfl, a, dx4, _, rfl, ha4, trivial, a, t, z, ss, v, dv, rfl, hA4, vx, fun i y e1 e2 => ?_, fun _ d' H' s' hd nd => ?_⟩
    · exfalso
      rw [e1] at bad
      have e : (decide (0 ≤ (i : Int)) && decide ((i : Int) < (ss.length : Int))) = false := bad
      have := (List.getElem?_eq_some_iff.mp e2).1
      rw [decide_eq_true (by omega), decide_eq_true (by omega)] at e
      cases e
    · refine eO d' v r H' hd (sh.same s') fun l nl => ?_
      have s5 := s'.trans (same_new (o := .tup [.str "range", .str r, .bl true]) nl)
      have hl : (upd H' l (.tup [.str "range", .str r, .bl true])) l = some (.tup [.str "range", .str r, .bl true]) := upd_same
      generalize upd H' l (.tup [.str "range", .str r, .bl true]) = G5 at s5 hl ⊢
      refine ⟨_, rfl, v, r, rfl, sh.same s5, by show 3 ≤ sizeLine; decide, fun l2 nl2 => ?_⟩
      have s6 := s5.trans (same_new (o := .tup [.str "range", .str r, .bl true]) nl2)
      have told : ∀ {G : Hp} {l : Addr}, G l = some (.tup [.str "range", .str r, .bl true]) → Dp K G (.ref l) (Datum.toD (⟨Str.ofString "range", r, true⟩ : T3 Str Str Bool)) := fun h => .tup (.inl (.inl h)) (.cons (.str _) (.cons (.str _) (.cons (.bl _) .nil)))
      refine ⟨⟨Str.ofString "range", r, true⟩, ⟨Str.ofString "range", r, true⟩, told (same_new nl2 _ _ hl), told upd_same, ?_⟩
      have e1 : decide ((⟨Str.ofString "range", r, true⟩ : T3 Str Str Bool) = ⟨Str.ofString "range", r, true⟩) = true := decide_eq_true rfl
      show Q (.bl (decide ((⟨Str.ofString "range", r, true⟩ : T3 Str Str Bool) = ⟨Str.ofString "range", r, true⟩))) _
      rw [e1]
      exact q _ (p4.keep s6) (tabs_same tb4 s6) (k4.trans (kd_same s6))
end
end RL

namespace RL
open PySem L2 SX AddrMath VA PySem.Spec PyProof.Rows
structure FineL (ds : List PyData) (k n : Nat) : Prop where
  sh : PyData.showableAll ds = true
  nd : PyData.hasDictAll ds = false
  lf : PyData.leavesShortAll 8 ds = true
  wt : PyData.weightAll ds ≤ n
  dp : PyData.depthAll ds ≤ k
structure Fine (d : PyData) (k n : Nat) : Prop where
  sh : d.showable = true
  nd : d.hasDict = false
  lf : PyData.leavesShort 8 d = true
  wt : d.weight ≤ n
  dp : d.depth ≤ k
theorem fine_nil : FineL [] 0 0 := ⟨by simp [PyData.showableAll], by simp [PyData.hasDictAll], by simp [PyData.leavesShortAll], by simp [PyData.weightAll], by simp [PyData.depthAll]⟩
theorem fine_cons {d : PyData} {ds : List PyData} {k n m : Nat} (h : Fine d k n) (t : FineL ds k m) : FineL (d :: ds) k (n + m + 1) := by
  refine ⟨by simp [PyData.showableAll, h.sh, t.sh], by simp [PyData.hasDictAll, h.nd, t.nd], by simp [PyData.leavesShortAll, h.lf, t.lf], ?_, ?_⟩
  · have := h.wt
    have := t.wt
    simp only [PyData.weightAll]
    omega
  · have := h.dp
    have := t.dp
    simp only [PyData.depthAll]
    omega
theorem fine_tup {ds : List PyData} {k n : Nat} (h : FineL ds k n) : Fine (.tuple ds) (k + 1) (n + 1) := by
  refine ⟨by simp [PyData.showable, h.sh], by simp [PyData.hasDict, h.nd], by simp [PyData.leavesShort, h.lf], ?_, ?_⟩
  · have := h.wt
    simp only [PyData.weight]
    omega
  · have := h.dp
    simp only [PyData.depth]
    omega
theorem Fine.mono {d : PyData} {k n k' n' : Nat} (h : Fine d k n) (e : k ≤ k') (f : n ≤ n') : Fine d k' n' := ⟨h.sh, h.nd, h.lf, Nat.le_trans h.wt f, Nat.le_trans h.dp e⟩
theorem FineL.mono {d : List PyData} {k n k' n' : Nat} (h : FineL d k n) (e : k ≤ k') (f : n ≤ n') : FineL d k' n' := ⟨h.sh, h.nd, h.lf, Nat.le_trans h.wt f, Nat.le_trans h.dp e⟩
theorem fine_none {k : Nat} : Fine .none k 10 := ⟨by simp [PyData.showable], by simp [PyData.hasDict], by simp [PyData.leavesShort], by simp [PyData.weight], by simp [PyData.depth]⟩
theorem fine_bool {b : Bool} {k : Nat} : Fine (.bool b) k 10 := ⟨by simp [PyData.showable], by simp [PyData.hasDict], by simp [PyData.leavesShort], by simp [PyData.weight], by simp [PyData.depth]⟩
theorem fine_wrd {z : Str} {k : Nat} (h : wrd z = true) : Fine (.str z) k 10 := by
  have l := word_len h
  refine ⟨by simp [PyData.showable], by simp [PyData.hasDict], ?_, ?_, by simp [PyData.depth]⟩
  · simp only [PyData.leavesShort]
    rw [List.all_eq_true]
    intro c hc
    have hl := (isW_iff.mp (show isW z.cps.toList = true from h)).2.2 c hc
    have h' : (decide (97 ≤ c) && decide (c ≤ 122)) = true := hl
    rw [Bool.and_eq_true, decide_eq_true_eq, decide_eq_true_eq] at h'
    exact decide_eq_true (Nat.lt_of_le_of_lt h'.2 (by decide))
  · have : z.cps.size ≤ 8 := l.2
    simp only [PyData.weight]
    omega
/-- what repr asks -/
theorem Fine.repr {d : PyData} {k n : Nat} (h : Fine d k n) (f : n ≤ 2 ^ 20) : d.showable = true ∧ d.hasDict = false ∧ d.depth ≤ k ∧ d.shown.length ≤ sizeLine := ⟨h.sh, h.nd, h.dp, PyData.shown_fits (B := 8) (by decide) (by decide) h.lf (Nat.le_trans h.wt f)⟩
end RL
namespace RL
open PySem L2 SX AddrMath VA PySem.Spec PyProof.Rows
theorem fine_lst {ds : List PyData} {k n : Nat} (h : FineL ds k n) : Fine (.list ds) (k + 1) (n + 1) := by
  refine ⟨by simp [PyData.showable, h.sh], by simp [PyData.hasDict, h.nd], by simp [PyData.leavesShort, h.lf], ?_, ?_⟩
  · have := h.wt
    simp only [PyData.weight]
    omega
  · have := h.dp
    simp only [PyData.depth]
    omega
theorem fine_small {n : Nat} {k : Nat} (h : n ≤ 9) : Fine (.int (n : Int)) k 10 := by
  have : n = 0 ∨ n = 1 ∨ n = 2 ∨ n = 3 ∨ n = 4 ∨ n = 5 ∨ n = 6 ∨ n = 7 ∨ n = 8 ∨ n = 9 := by omega
  rcases this with rfl | rfl | rfl | rfl | rfl | rfl | rfl | rfl | rfl | rfl <;> exact ⟨by decide +kernel, by decide +kernel, by decide +kernel, by decide +kernel, by simp [PyData.depth]⟩
theorem fine_wrds {k : Nat} : ∀ {ss : List Str}, ss.all wrd = true → FineL (ss.map PyData.str) k (11 * ss.length)
  | [], _ => fine_nil.mono (Nat.zero_le _) (Nat.zero_le _)
  | d :: r, h => by
    rw [List.all_cons, Bool.and_eq_true] at h
    exact (fine_cons (fine_wrd h.1) (fine_wrds h.2)).mono (Nat.le_refl _) (by rw [List.length_cons]; omega)
end RL

namespace RL
open PySem L2 SX AddrMath VA
/-- values of a kind, drawn one by one by a pen -/
theorem lc_penR {rel : V → Prop} {d c D : Addr} {n N j m : Nat} {te : TE} {σ : L2.St} {vs : List Nat} {H1 : Hp} {Qd : Hp → Prop} (p : PenAt H1 d c n) (nD : H1 D = none) (few : N ≤ 100)
    (hw : ∀ x, wipe ((wipe σ vs).set j (some x)) vs = wipe σ vs)
    (step : ∀ i H', i < N → But d H1 H' → PenAt H' d c (n + i * m) → ∀ R : VK, (∀ y H'', rel y → PenAt H'' d c (n + i * m + m) → But d H' H'' → R y H'') → te ((wipe σ vs).set j (some (.int (0 + (i : Int))))) H' R)
    (fin : ∀ (ys : List V) H', ys.length = N → (∀ y ∈ ys, rel y) → H' D = some (.lst ys) → PenAt H' d c (n + N * m) → But d H1 H' → Qd H') :
    ∃ W : Nat → Nat → Hp → Prop, (∃ m, W 0 m (upd H1 D (.lst []))) ∧ ∀ i m H, W i m H → ((Itr 0 N).stop i H ∧ Qd H) ∨ ((Itr 0 N).go i H ∧ ∃ Nx : Hp → Prop, (∀ H', Nx H' → ∃ m', m' < m ∧ W (i + 1) m' H') ∧ ∀ x H', (Itr 0 N).yld i H x H' → gName j x (wipe σ vs) H' fun σ2 H2 => wipe σ2 vs = wipe σ vs ∧ tYes σ2 H2 fun b H3 =>
        if b = true then te σ2 H3 fun y H4 => ∃ acc, H4 D = some (.lst acc) ∧ acc.length < sizeLine ∧ Nx (upd H4 D (.lst (acc ++ [y]))) else Nx H3) := by
  have hDd : D ≠ d := fun z => p.ne (by rw [← z]; exact nD)
  have hDc : D ≠ c := fun z => p.neC (by rw [← z]; exact nD)
  refine lc_range (lo := 0) (n := N) (fun i H' => PenAt H' d c (n + i * m) ∧ But d H1 H' ∧ ∃ ys : List V, H' D = some (.lst ys) ∧ ys.length = i ∧ ∀ y ∈ ys, rel y)
    ⟨(p.keep (same_new nD)).mono (by omega), but_of (same_new nD), [], upd_same, rfl, fun e he => by cases he⟩ ?_ ?_
  · rintro i H' hi ⟨p2, b2, ys, hys, hl, ho⟩
    refine ⟨hw _, no_test fun H2 s2 => ?_⟩
    rw [if_pos rfl]
    refine step i H2 hi (b2.trans (but_of s2)) (p2.keep s2) _ fun y H3 hk p3 b3 => ?_
    have h3 := b3 D _ (s2 _ _ hys) hDd
    refine ⟨_, h3, size_lt (by omega), ?_, ?_, ys ++ [y], upd_same, ?_, ?_⟩
    · rw [Nat.add_mul, Nat.one_mul, ← Nat.add_assoc]
      exact p3.put hDd hDc
    · exact ((b2.trans (but_of s2)).trans b3).put nD
    · rw [List.length_append, hl]
      rfl
    · intro u hu
      rcases List.mem_append.mp hu with h | h
      · exact ho u h
      · rw [List.mem_singleton.mp h]
        exact hk
  · rintro H' ⟨p2, b2, ys, hys, hl, ho⟩
    exact fin ys H' hl ho hys p2 b2
end RL

namespace RL
open PySem L2 SX PySem.W GR
theorem run_q {X : Cx} {n : Nat} {f : Addr} {fd : FuncData} {ps : List Str} {sp : Sp} {pins : List (Addr × Obj)} {σ : L2.St} {H : Hp} {s : Shared} {Q : VK} {us : List Value} {vs : List V} (F : FnQ X.prog X.w X.K X.mg X.base n f fd ps sp) (hq : Quiet X.A) (room : Room n X.A) (hb : L2.Binds X.K fd ps []) (I : L2.Inv X pins σ H s) (r : Vals vs us) (q : sp vs H Q E0) :
    wpAny (model X.prog X.w) X.A (call (.ref f) us) (EP X pins σ Q) X.xe s := by
  have bs := hb s us I.kIn (by rw [List.append_nil, ← r.length]; exact F.many _ _ _ _ q)
  refine wpAny_call (codeAny_mono (F.runs X.A X.stack s H ⟨us, []⟩ (us ++ []) vs Q E0 hq room I.env0 bs (by rw [List.append_nil]; exact r) q) ?_)
  rintro (e | fl) s' h
  · exact (show False from h).elim
  cases fl with
  | next => exact (show False from h).elim
  | brk => exact (show False from h).elim
  | cont => exact (show False from h).elim
  | ret u => exact I.after h
theorem pe_callQ {X : Cx} {n : Nat} {f : Addr} {fd : FuncData} {ps : List Str} {sp : Sp} {x : Str} {p pos : Pos} {e : Expr} {es : List Expr} {t : TA} (F : FnQ X.prog X.w X.K X.mg X.base n f fd ps sp) (hq : Quiet X.A) (hr : Room n X.A) (hg : Gl X x) (hm : X.mg x = some (.ref f)) (hk : PySem.W.keepIn X.K (.ref f) = true) (hb : L2.Binds X.K fd ps []) (ha : PA X (e :: es) t)
    (hdb : (x == Str.ofString "__debug__") = false := by rfl) (he : starEach (e :: es) X.env = (false, eval e X.env) :: starEach es X.env := by rfl) (hpl : ((backTo pos (starEach es X.env)).any fun x => x.fst) = false := by rfl) : PE X (.Call (.Name x p) (e :: es) [] pos) (tCall sp [] E0 t) :=
  ⟨fun pins s σ H Q I h => wpAny_Call_Name_kw (ld_glob I hg hm (W.callWith_K I.ok.mod.kin hk (thn (ha.run pos pins s σ H (fun vs H1 => sp (vs ++ []) H1 Q E0) I h) fun us s1 w => by
    obtain ⟨vs, H1, I1, r, q⟩ := w
    rw [List.append_nil] at q
    exact ⟨I1.kIn, run_q F hq hr hb I1 r q⟩) he hpl) hdb)⟩
end RL

namespace RL
open PySem L2 SX AddrMath VA PySem.W GR LamX
section
variable {P : Program} {w : World} {K : Frag} {mg : Str → Option Value} {base : Heap}
theorem sub_no {C : Addr} {T : String} {l : List Value} (h : fastBuiltinMro T = some l) (no : l.all (fun v => match v with | .type _ => true | _ => false) = true) : subIn K (.type T) (.ref C) = some false := by
  show (fastBuiltinMro T).map (·.contains (.ref C)) = some false
  rw [h]
  show some (l.contains (.ref C)) = some false
  congr 1
  rw [← Bool.not_eq_true]
  intro hc
  have m := List.contains_iff_mem.mp hc
  have := List.all_eq_true.mp no _ m
  cases this
theorem add_str {C : Addr} : ∃ fo ro, OW.TyOp K C "str" "add" fo ro ∧ ((fo.isSome && !isSeqSlot fo) || (ro.isSome && !isSeqSlot ro)) = false := ⟨some (.builtin "str.__add__"), none, ⟨by show fastLookup "str" _ = _; kernel_rfl, by show fastLookup "str" _ = _; kernel_rfl, sub_no (l := [.type "str", .type "object"]) (by kernel_rfl) rfl⟩, by decide +kernel⟩
theorem add_list {C : Addr} : ∃ fo ro, OW.TyOp K C "list" "add" fo ro ∧ ((fo.isSome && !isSeqSlot fo) || (ro.isSome && !isSeqSlot ro)) = false := ⟨some (.builtin "list.__add__"), none, ⟨by show fastLookup "list" _ = _; kernel_rfl, by show fastLookup "list" _ = _; kernel_rfl, sub_no (l := [.type "list", .type "object"]) (by kernel_rfl) rfl⟩, by decide +kernel⟩
theorem add_tup {C : Addr} : ∃ fo ro, OW.TyOp K C "tuple" "add" fo ro ∧ ((fo.isSome && !isSeqSlot fo) || (ro.isSome && !isSeqSlot ro)) = false := ⟨some (.builtin "tuple.__add__"), none, ⟨by show fastLookup "tuple" _ = _; kernel_rfl, by show fastLookup "tuple" _ = _; kernel_rfl, sub_no (l := [.type "tuple", .type "object"]) (by kernel_rfl) rfl⟩, by decide +kernel⟩
theorem add_dict {C : Addr} : ∃ fo ro, OW.TyOp K C "dict" "add" fo ro ∧ ((fo.isSome && !isSeqSlot fo) || (ro.isSome && !isSeqSlot ro)) = false := ⟨none, none, ⟨by show fastLookup "dict" _ = _; kernel_rfl, by show fastLookup "dict" _ = _; kernel_rfl, sub_no (l := [.type "dict", .type "object"]) (by kernel_rfl) rfl⟩, by decide +kernel⟩
theorem add_none {C : Addr} : ∃ fo ro, OW.TyOp K C "NoneType" "add" fo ro ∧ ((fo.isSome && !isSeqSlot fo) || (ro.isSome && !isSeqSlot ro)) = false := ⟨none, none, ⟨by show fastLookup "NoneType" _ = _; kernel_rfl, by show fastLookup "NoneType" _ = _; kernel_rfl, sub_no (l := [.type "NoneType", .type "object"]) (by kernel_rfl) rfl⟩, by decide +kernel⟩
theorem add_int {C : Addr} : ∃ fo ro, OW.TyOp K C "int" "add" fo ro ∧ ((fo.isSome && !isSeqSlot fo) || (ro.isSome && !isSeqSlot ro)) = true := ⟨some (.builtin "int.__add__"), some (.builtin "int.__radd__"), ⟨by show fastLookup "int" _ = _; kernel_rfl, by show fastLookup "int" _ = _; kernel_rfl, sub_no (l := [.type "int", .type "object"]) (by kernel_rfl) rfl⟩, by decide +kernel⟩
theorem add_bool {C : Addr} : ∃ fo ro, OW.TyOp K C "bool" "add" fo ro ∧ ((fo.isSome && !isSeqSlot fo) || (ro.isSome && !isSeqSlot ro)) = true := ⟨some (.builtin "int.__add__"), some (.builtin "int.__radd__"), ⟨by show fastLookup "bool" _ = _; kernel_rfl, by show fastLookup "bool" _ = _; kernel_rfl, sub_no (l := [.type "bool", .type "int", .type "object"]) (by kernel_rfl) rfl⟩, by decide +kernel⟩
/-- any value beside + -/
theorem add_any {C : Addr} {H : Hp} {x : V} {d : PyData} (h : Vx K H x d) : ∃ T, TyX K H x (.type T) ∧ ∃ fo ro, OW.TyOp K C T "add" fo ro := by
  refine ⟨tyN d, h.ty, ?_⟩
  cases d with
  | none => obtain ⟨a, b, c, _⟩ := add_none (K := K) (C := C); exact ⟨a, b, c⟩
  | bool _ => obtain ⟨a, b, c, _⟩ := add_bool (K := K) (C := C); exact ⟨a, b, c⟩
  | int _ => obtain ⟨a, b, c, _⟩ := add_int (K := K) (C := C); exact ⟨a, b, c⟩
  | str _ => obtain ⟨a, b, c, _⟩ := add_str (K := K) (C := C); exact ⟨a, b, c⟩
  | list _ => obtain ⟨a, b, c, _⟩ := add_list (K := K) (C := C); exact ⟨a, b, c⟩
  | tuple _ => obtain ⟨a, b, c, _⟩ := add_tup (K := K) (C := C); exact ⟨a, b, c⟩
  | dict _ => obtain ⟨a, b, c, _⟩ := add_dict (K := K) (C := C); exact ⟨a, b, c⟩
theorem op_or {X : Cx} {f : Value → Value → Sem Value} {r1 r2 : R2} (h1 : OpR X f r1) (h2 : OpR X f r2) : OpR X f (fun x y H Q => r1 x y H Q ∨ r2 x y H Q) := fun pins s σ H x y v u Q I rx ry h => by
  rcases h with h | h
  · exact h1 pins s σ H x y v u Q I rx ry h
  · exact h2 pins s σ H x y v u Q I rx ry h
/-- any value + an address, by the address's own def -/
theorem op_radd {X : Cx} {C f g : Addr} {fd : FuncData} {ps : List Str} {n : Nat} {sp : Sp} {CX : CXT} {E : XK} (eK : X.K = K) (O : OW.OwnOp K C g "add") (at_ : findIn K (.ref C) (dunderR "add") = some (some (.ref f))) (isF : isFn K (.ref f) = true) (si : subIn K (.ref C) (.type "int") = some false) (sb : subIn K (.ref C) (.type "bool") = some false)
    (F : FnOk X.prog X.w X.K X.mg X.base CX n f fd ps sp) (hb : Binds X.K fd ps []) (room : Room n X.A) (pa : Passes CX X E) :
    OpR X (binaryOp .Add) (fun x y H Q => ∃ (a dx : Addr) (fs : List (Str × V)) (d : PyData), y = .ref a ∧ H a = some (.ins C dx fs) ∧ Vx K H x d ∧ sp [y, x] H Q E) := by
  subst eK
  intro pins s σ H x y v u Q I rx ry ⟨a, dx, fs, d, ey, ha, hx, q⟩
  have num : ((∃ i, x = .int i) ∨ ∃ b, x = .bl b) → wpAny (model X.prog X.w) X.A (binaryOp .Add v u) (EP X pins σ Q) X.xe s := fun h => OW.own_rnum O at_ isF F hb room pa pins s σ H x y v u Q I rx ry ⟨a, dx, fs, ey, ha, ⟨h, add_int, add_bool, si, sb⟩, q⟩
  have oth : ∀ {T : String}, TyX X.K H x (.type T) → (∃ fo ro, OW.TyOp X.K C T "add" fo ro ∧ ((fo.isSome && !isSeqSlot fo) || (ro.isSome && !isSeqSlot ro)) = false) → wpAny (model X.prog X.w) X.A (binaryOp .Add v u) (EP X pins σ Q) X.xe s := fun {T} ty h => OW.own_right (op := .Add) (sym := "+") rfl O at_ isF F hb room pa pins s σ H x y v u Q I rx ry ⟨a, dx, fs, ey, ha, ⟨T, ty, h⟩, q⟩
  have ty := hx.ty
  rcases hx with ⟨h, _⟩ | ⟨_, _, _, _, rfl⟩
  · cases h with
    | non => exact oth ty add_none
    | bl b => exact num (.inr ⟨b, rfl⟩)
    | int i => exact num (.inl ⟨i, rfl⟩)
    | str z => exact oth ty add_str
    | lst _ _ => exact oth ty add_list
    | tup _ _ => exact oth ty add_tup
  · exact oth ty add_dict
theorem tabs_put {T : List (Addr × Str)} {H : Hp} {D : Addr} {xs : List V} {o : HO} (h : Tabs T H) (hD : H D = some (.lst xs)) : Tabs T (upd H D o) := fun q hq => by
  obtain ⟨ps, e, t, f⟩ := h q hq
  refine ⟨ps, by rw [upd_ne (ne_of e hD fun z => by cases z)]; exact e, t, fun pos cv hc => ?_⟩
  obtain ⟨u, rfl, hu⟩ := f pos cv hc
  exact ⟨u, rfl, by rw [upd_ne (ne_of hu hD fun z => by cases z)]; exact hu⟩
theorem sqt_putL {H : Hp} {D t : Addr} {xs us : List V} {o : HO} (h : SqT K H t us) (hD : H D = some (.lst xs)) : SqT K (upd H D o) t us := by
  rcases h with (h | ⟨u, h⟩) | h
  · exact .inl (.inl (by rw [upd_ne (ne_of h hD fun z => by cases z)]; exact h))
  · exact .inl (.inr ⟨u, by rw [upd_ne (ne_of h hD fun z => by cases z)]; exact h⟩)
  · exact .inr h
theorem AddrT.put {C : Addr} {H : Hp} {D a t : Addr} {xs : List V} {o : HO} {z : Str} {ss : List Str} (h : AddrT K C H a t z ss) (hD : H D = some (.lst xs)) : AddrT K C (upd H D o) a t z ss := by
  obtain ⟨dx, j, h1, h2, h3⟩ := h
  exact ⟨dx, j, by rw [upd_ne (ne_of h1 hD fun z => by cases z)]; exact h1, sqt_putL h2 hD, sqt_putL h3 hD⟩
theorem AddrT.at_ {C : Addr} {H : Hp} {a t : Addr} {z : Str} {ss : List Str} (h : AddrT K C H a t z ss) : ∃ dx fs, H a = some (.ins C dx fs) := by
  obtain ⟨dx, j, h1, _⟩ := h
  exact ⟨dx, _, h1⟩
/-- the reprs that the law compares -/
theorem repr_addr {z : Str} {ss : List Str} (hz : wrd z = true) (hw : ss.all wrd = true) (l : ss.length ≤ 7) : (PyData.list [.str z, .tuple (ss.map PyData.str), .int (ss.length : Int)]).showable = true ∧ (PyData.list [.str z, .tuple (ss.map PyData.str), .int (ss.length : Int)]).hasDict = false ∧ (PyData.list [.str z, .tuple (ss.map PyData.str), .int (ss.length : Int)]).depth ≤ 2 ∧ (PyData.list [.str z, .tuple (ss.map PyData.str), .int (ss.length : Int)]).shown.length ≤ sizeLine := by
  have f1 : Fine (.tuple (ss.map PyData.str)) 1 100 := (fine_tup (fine_wrds (k := 0) hw)).mono (Nat.le_refl _) (by omega)
  have f2 := fine_lst (fine_cons (fine_wrd (k := 1) hz) (fine_cons f1 (fine_cons (fine_small (k := 1) (n := ss.length) (by omega)) (fine_nil.mono (Nat.zero_le 1) (Nat.le_refl 0)))))
  exact f2.repr (by decide)
theorem repr_two {ss rs : List Str} (hw : ss.all wrd = true) (hr : rs.all wrd = true) (l : ss.length ≤ 8) (m : rs.length ≤ 8) : (PyData.list [.tuple (ss.map PyData.str), .tuple (rs.map PyData.str)]).showable = true ∧ (PyData.list [.tuple (ss.map PyData.str), .tuple (rs.map PyData.str)]).hasDict = false ∧ (PyData.list [.tuple (ss.map PyData.str), .tuple (rs.map PyData.str)]).depth ≤ 2 ∧ (PyData.list [.tuple (ss.map PyData.str), .tuple (rs.map PyData.str)]).shown.length ≤ sizeLine := by
  have f1 : Fine (.tuple (ss.map PyData.str)) 1 100 := (fine_tup (fine_wrds (k := 0) hw)).mono (Nat.le_refl _) (by omega)
  have f2 : Fine (.tuple (rs.map PyData.str)) 1 100 := (fine_tup (fine_wrds (k := 0) hr)).mono (Nat.le_refl _) (by omega)
  exact (fine_lst (fine_cons f1 (fine_cons f2 (fine_nil.mono (Nat.zero_le 1) (Nat.le_refl 0))))).repr (by decide)
theorem tv_dps {H : Hp} (ss : List Str) : DpAll K H (tV ss) (ss.map PyData.str) := tv_dp ss
theorem ak_more {z y : Str} {ss : List Str} : ¬ akOf z ss = akOf z (ss ++ [y]) := fun e => by
  unfold akOf at e
  injection e with e1 _ _
  rw [List.length_append] at e1
  have : ([y] : List Str).length = 1 := rfl
  omega
theorem ok_wrd {z : Str} (h : wrd z = true) (n : Nat) : okD n (.str z) = true := ok_mono (Nat.zero_le n) (by
  have := ent_ok7 (d := .str z) (by show (isW z.cps.toList || false) = true; rw [show isW z.cps.toList = true from h]; rfl)
  rw [okD] at this ⊢
  exact this)
theorem ok_wrds {ss : List Str} (h : ss.all wrd = true) (l : ss.length ≤ 900) (n : Nat) : okD (n + 1) (.tuple (ss.map PyData.str)) = true := (ok_seq (by rw [List.length_map]; omega) fun d hd => by
  obtain ⟨y, hy, rfl⟩ := List.mem_map.mp hd
  exact ok_wrd (List.all_eq_true.mp h y hy) n).2
/-- the states and the path that the law compares -/
theorem three_ok {z : Str} {ss : List Str} (hz : wrd z = true) (h : ss.all wrd = true) (l : ss.length ≤ 900) : SeqAt.shaped (.list [.str z, .str z, .tuple (ss.map PyData.str)]) = true ∧ PyData.eqv (.list [.str z, .str z, .tuple (ss.map PyData.str)]) (.list [.str z, .str z, .tuple (ss.map PyData.str)]) = true := by
  have o : okD 3 (.list [.str z, .str z, .tuple (ss.map PyData.str)]) = true := (ok_seq (n := 2) (by show 3 ≤ 1000; decide) fun d hd => by
    simp only [List.mem_cons, List.not_mem_nil, or_false] at hd
    rcases hd with rfl | rfl | rfl
    · exact ok_wrd hz 2
    · exact ok_wrd hz 2
    · exact ok_wrds h l 1).1
  exact ⟨ok_shaped o (by decide), PySem.SeqAt.eqv_refl _ (ok_lay o).1⟩
/-- a value as a path, whatever the pen does -/
def PY (K : Frag) (H : Hp) (d : Addr) (v : V) (o : Option (List Str)) : Prop := (∃ x, Dp K H v x ∧ okD 8 x = true ∧ isSeqD x = false ∧ o = none) ∨ (∃ a kvs, v = .ref a ∧ a ≠ d ∧ H a = some (.dK kvs) ∧ o = none) ∨ ∃ a xs, v = .ref a ∧ SqA K H a xs ∧ xs.length ≤ 1000 ∧ (∀ x ∈ xs, Vy K H d x) ∧ o = wordsV xs
theorem PY.px {H : Hp} {d : Addr} {v : V} {o : Option (List Str)} (h : PY K H d v o) : PX K H v o := by
  rcases h with ⟨x, h1, h2, h3, h4⟩ | ⟨a, kvs, h1, _, h2, h3⟩ | ⟨a, xs, h1, h2, h3, h4, h5⟩
  · exact .inl ⟨x, .inl ⟨h1, h2⟩, h3, h4⟩
  · exact .inl ⟨.dict [], .inr ⟨a, kvs, h1, h2, rfl⟩, rfl, h3⟩
  · exact .inr ⟨a, xs, h1, h2, h3, fun x hx => (h4 x hx).vx, h5⟩
theorem PY.kd {H H' : Hp} {d c : Addr} {n : Nat} {v : V} {o : Option (List Str)} (h : PY K H d v o) (p : PenAt H d c n) (k : Kd d H H') : PY K H' d v o := by
  rcases h with ⟨x, h1, h2, h3, h4⟩ | ⟨a, kvs, h1, h0, h2, h3⟩ | ⟨a, xs, h1, h2, h3, h4, h5⟩
  · exact .inl ⟨x, dp_kp (k.kp p) h1, h2, h3, h4⟩
  · exact .inr (.inl ⟨a, kvs, h1, h0, k _ _ h2 h0 rfl, h3⟩)
  · exact .inr (.inr ⟨a, xs, h1, (k.kp p).sqA h2, h3, fun x hx => vy_kd (h4 x hx) p k, h5⟩)
theorem py_vy {H : Hp} {d : Addr} {v : V} (h : Vy K H d v) : ∃ o, PY K H d v o := by
  rcases h with ⟨x, h1, h2⟩ | ⟨a, kvs, h1, h2, h3⟩
  · cases e : isSeqD x with
    | false => exact ⟨none, .inl ⟨x, h1, h2, e, rfl⟩⟩
    | true =>
      obtain ⟨a, xs, rfl, ha, hd, few, ok⟩ := vx_seq (.inl ⟨h1, h2⟩) e
      refine ⟨_, .inr (.inr ⟨a, xs, rfl, ha, by rw [dps_len hd]; exact few, fun u hu => ?_, rfl⟩)⟩
      obtain ⟨y, hy, hv⟩ := dps_at hd hu
      exact .inl ⟨y, hv, ok_mono (by decide) (ok y hy)⟩
  · exact ⟨none, .inr (.inl ⟨a, kvs, h1, h2, h3, rfl⟩)⟩
theorem vy_str {H : Hp} {d : Addr} {z : Str} (h : wrd z = true) : Vy K H d (.str z) := .inl ⟨.str z, .str z, ok_wrd h 8⟩
theorem py_tv {H : Hp} {d a : Addr} {ss : List Str} (h : SqA K H a (tV ss)) (w : ss.all wrd = true) (l : ss.length ≤ 900) : PY K H d (.ref a) (wordsV (tV ss)) := .inr (.inr ⟨a, _, rfl, h, by rw [List.length_map]; omega, fun x hx => by
  obtain ⟨y, hy, rfl⟩ := List.mem_map.mp hx
  exact vy_str (List.all_eq_true.mp w y hy), rfl⟩)
abbrev TellO (e : Option Str) : Option (T3 Str Str Bool) := e.map fun f => ⟨Str.ofString "address", f, true⟩
theorem tell_dp {H : Hp} {e : Option Str} {v : V} (h : TellF K H e v) : Dp K H v (Datum.toD (TellO e)) := by
  cases e with
  | none =>
    cases (show v = .non from h)
    exact .non
  | some f =>
    obtain ⟨l, rfl, hl⟩ := h
    exact .tup hl (.cons (.str _) (.cons (.str _) (.cons (.bl _) .nil)))
theorem told_at {H : Hp} {l : Addr} {f : Str} : TellF K (upd H l (.tup [.str "address", .str f, .bl true])) (some f) (.ref l) := ⟨l, rfl, .inl (.inl upd_same)⟩
theorem ne_self {α : Type} [DecidableEq α] (p : α) : decide (p ≠ p) = false := decide_eq_false fun z => z rfl
theorem due_state {v : V} {o : Option (List Str)} (w : wV v = false) : dueF v o = some (Str.ofString "state") := by
  unfold dueF
  rw [w, if_neg (by decide)]
theorem due_path {v : V} {o : Option (List Str)} (w : wV v = true) (e : o = none) : dueF v o = some (Str.ofString "path") := by
  unfold dueF
  rw [w, if_pos rfl, e]
  rfl
theorem due_none {v : V} {o : Option (List Str)} {z : Str} {ss : List Str} (ez : v = .str z) (w : wrd z = true) (e : o = some ss) : dueF v o = none := by
  unfold dueF
  rw [ez, show wV (.str z) = wrd z from rfl, w, if_pos rfl, e]
  rfl
theorem op_ladd {X : Cx} {C f : Addr} {fd : FuncData} {ps : List Str} {n : Nat} {sp : Sp} {CX : CXT} {E : XK} (eK : X.K = K) (O : OW.OwnOp K C f "add")
    (F : FnOk X.prog X.w X.K X.mg X.base CX n f fd ps sp) (hb : Binds X.K fd ps []) (room : Room n X.A) (pa : Passes CX X E) :
    OpR X (binaryOp .Add) (fun x y H Q => ∃ (a dx : Addr) (fs : List (Str × V)) (d : PyData), x = .ref a ∧ H a = some (.ins C dx fs) ∧ Vx K H y d ∧ sp [x, y] H Q E) := by
  subst eK
  intro pins s σ H x y v u Q I rx ry ⟨a, dx, fs, d, ey, ha, hx, q⟩
  exact OW.own_left (op := .Add) (sym := "+") rfl O F hb room pa pins s σ H x y v u Q I rx ry ⟨a, dx, fs, ey, ha, add_any hx, q⟩
end
end RL

namespace RL
open PySem L2 SX AddrMath VA PySem.W GR LamX
/-- a getter of the class at C -/
structure OwnP (P : Program) (w : World) (K : PySem.W.Frag) (mg : Str → Option Value) (base : Heap) (C : Addr) (n : Str) (sp : Sp) where
  p : Addr
  g : Addr
  fd : FuncData
  prop : PropOf K C n p g
  ok : FnOk P w K mg base CX0 1 g fd ["self"] sp
  b : Binds K fd ["self"] []
def kwA {α : Type} (us ws : List α) : List α := match ws with
  | [p, s] => us ++ [s, p]
  | _ => us
abbrev sLaw : Stmt := top 23
abbrev NL : List Str := ["_law_script", "_law_pen_here", "_law_turn", "_law_words_here", "_law_k", "_law_home", "_law_track", "_law_kept", "_law_one", "_law_word", "_law_behind", "_law_ahead", "_law_odd", "_law_more", "_law_due_here"]
theorem scLaw : FnScope NL ["_law_script"] (defScope sLaw) := ⟨rfl, rfl, rfl, by decide +kernel, rfl, by decide +kernel, by decide +kernel⟩
def spLaw (K : PySem.W.Frag) (Pl Pi : Addr) : Sp := fun vs H Q _ => ∃ (a : Addr) (ns : List Int), vs = [.ref a] ∧ SqL K H a (ns.map V.int) ∧ ns.length ≤ 63 ∧ H Pl = some (.tbl #[]) ∧ H Pi = some (.tbl #[]) ∧ ∀ H', Q (.bl true) H'
/-- the class of the text, as the law uses it -/
structure AKit (P : Program) (w : World) (K : Frag) (mg : Str → Option Value) (base : Heap) (C CA CO fI eA : Addr) (fdI : FuncData) (dsA : List Value) (gK : List Value → List Value → List Value) where
  T : ATxt K mg C
  MI : Mk K C fI
  GI : FnOk P w K mg base (L2.CX P w) 3 fI fdI ["self", "state", "path"] (spAInitX K C CA)
  bI : Binds K fdI ["self", "state", "path"] []
  bD : Binds K fdI ["self", "state", "path"] dsA
  vD : Vals [.ref eA] dsA
  eE : ∀ H, SqT K H eA []
  bk : KBn K fdI ["self", "state", "path"] 1 ["path", "state"] gK kwA
  state : OwnP P w K mg base C "state" (spAState K C)
  path : OwnP P w K mg base C "path" (spAPath K C)
  len : OwM P w K mg base C "__len__" CX0 1 ["self"] (spALen K C)
  item : OwM P w K mg base C "__getitem__" (L2.CX P w) 3 ["self", "at"] (spAItem K C CO)
  add : OwM P w K mg base C "__add__" (L2.CX P w) 5 ["self", "other"] (spAAdd K C CA fun ss y => ss ++ [y])
  radd : OwM P w K mg base C "__radd__" (L2.CX P w) 5 ["self", "other"] (spAAdd K C CA fun ss y => y :: ss)
  eq : OwM P w K mg base C "__eq__" CX0 1 ["self", "other"] (spAEq K C)
  eqN : ∀ X : Cx, X.prog = P → X.w = w → X.K = K → X.mg = mg → X.base = base → NI.Decl X 1 eq.f (fun vs H => ∃ (p dx : Addr) (fs : List (Str × V)) (y : V), vs = [.ref p, y] ∧ H p = some (.ins C dx fs) ∧ ∃ b ds, y = .ref b ∧ Dp K H (.ref b) (.tuple ds))
  ne : findIn K (.ref C) "__ne__" = some (some (.builtin "object.__ne__"))
  ob : subIn K (.ref C) (.type "object") = some true
  O : OW.OwnOp K C add.f "add"
  si : subIn K (.ref C) (.type "int") = some false
  sb : subIn K (.ref C) (.type "bool") = some false
  sT : subIn K (.type "tuple") (.ref C) = some false
  tT : subIn K (.ref C) (.type "tuple") = some false
/-- the rows that compare what a lambda tells with what is due: the readings that the turn sees -/
def tCmpA (K : Frag) (T : List (Addr × Str)) (j : Nat) : TT := fun σ H R => ∃ (d c : Addr) (n : Nat) (ov mv : V) (o : Option (List Str)), σ[j]? = some (some ov) ∧ σ[13]? = some (some mv) ∧ PenAt H d c n ∧ Tabs T H ∧ Vy K H d ov ∧ PY K H d mv o ∧ ∀ H', PenAt H' d c n → Tabs T H' → Kd d H H' → R false H'
def tCmpB (K : Frag) (T : List (Addr × Str)) (C : Addr) : TT := fun σ H R => ∃ (d c : Addr) (n : Nat) (ov dv : V) (x t : Addr) (z : Str) (ss : List Str), σ[12]? = some (some ov) ∧ σ[14]? = some (some dv) ∧ σ[8]? = some (some (.ref x)) ∧ PenAt H d c n ∧ Tabs T H ∧ Vy K H d ov ∧ AddrT K C H x t z ss ∧ wrd z = true ∧ ss.all wrd = true ∧ ss.length ≤ 900 ∧ TellF K H (if wV ov = true then none else some "path") dv ∧ ∀ H', PenAt H' d c n → Tabs T H' → Kd d H H' → R false H'
def tDueH (K : Frag) : TE := fun σ H Q => ∃ (ov : V) (x : PyData), σ[12]? = some (some ov) ∧ Vx K H ov x ∧ ∀ v H', Same H H' → TellF K H' (if wV ov = true then none else some "path") v → Q v H'
theorem TellF.kd {K : Frag} {H H' : Hp} {d c : Addr} {n : Nat} {e : Option Str} {v : V} (h : TellF K H e v) (p : PenAt H d c n) (k : Kd d H H') : TellF K H' e v := by
  cases e with
  | none => exact h
  | some f =>
    obtain ⟨l, e, hl⟩ := h
    exact ⟨l, e, (k.kp p).sqT hl⟩
section
variable {P : Program} {w : World} {K : Frag} {mg : Str → Option Value} {base : Heap}
theorem q_law {f cL Pl Pi C CO CA fA fO gR fI eA fX : Addr} {fd fdI fdX : FuncData} {dsA : List Value} {gK : List Value → List Value → List Value} (D : ∃ oc od kV doc pm an ct osl, fd = PySem.W.fnOf "law" "law" (defArgs sLaw) (defBody sLaw) (defScope sLaw) .none kV doc pm an (.ref cL) ct ∧ K.lookup f = some ⟨oc, od, .func fd, osl⟩ ∧ PySem.W.codeIn K (.ref cL) "law" = true)
    (B : Blt mg) (pen : Own P w K mg base CX0 1 "_law_pen" ["_law_script"] (spPen K)) (draw : Own P w K mg base CX0 1 "_law_draw" ["_law_pen_here", "_law_many"] spDraw) (pick : Own P w K mg base CX0 2 "_law_pick" ["_law_pen_here", "_law_items"] spPick) (words : Own P w K mg base CX0 3 "_law_words" ["_law_pen_here", "_law_many"] spWords)
    (any_value : Own P w K mg base CX0 3 "_law_any_value" ["_law_pen_here"] (spAny K)) (lword : Own P w K mg base CX0 1 "_law_is_word" ["_law_value"] (spLWord K)) (due : Own P w K mg base CX0 2 "_law_due" ["_law_home", "_law_track"] (spDue K))
    (A : AKit P w K mg base C CA CO fI eA fdI dsA gK) (EC : ErrsC K mg CA fA CO fO)
    {oc dV kV doc pm cdv ct : Value} {od an : Option Addr} {sl : Array (Option Value)} (FF : RefAt K mg gR oc od dV kV doc pm an cdv ct sl) (TB : TabB base mg cL Pl) (ne : Pl ≠ Pi)
    (gX : FnQ P w K mg base 7 fX fdX ["_law_pen_here", "_law_one", "_law_track"] (spIdx K C Pl Pi)) (mX : mg "_law_indexes_right" = some (.ref fX)) (kX : PySem.W.keepIn K (.ref fX) = true) (bX : Binds K fdX ["_law_pen_here", "_law_one", "_law_track"] []) :
    FnQ P w K mg base 9 f fd ["_law_script"] (spLaw K Pl Pi) := by
  refine quiet_fnC D scLaw (fun vs H Q E h => ?_) (fun Ar fs s0 H vs Q E quiet hr h => ?_)
  · obtain ⟨a, ns, rfl, _⟩ := h
    rfl
  · obtain ⟨a, ns, rfl, hS, hlen, hT1, hT2, q⟩ := h
    have hq := quiet_deeper (e := PyProof.Rows.envOfC "law" (defScope sLaw) s0.heap.objs.size f (.ref cL)) quiet
    have un := hr.un
    have hr2 : Room (1 + 1) (Ar.deeper (PyProof.Rows.envOfC "law" (defScope sLaw) s0.heap.objs.size f (.ref cL))) := hr.mono (by decide)
    have hr4 : Room (3 + 1) (Ar.deeper (PyProof.Rows.envOfC "law" (defScope sLaw) s0.heap.objs.size f (.ref cL))) := hr.mono (by decide)
    have hr5 : Room 5 (Ar.deeper (PyProof.Rows.envOfC "law" (defScope sLaw) s0.heap.objs.size f (.ref cL))) := hr.mono (by decide)
    have hu80 : (Ar.deeper (PyProof.Rows.envOfC "law" (defScope sLaw) s0.heap.objs.size f (.ref cL))).units + 80 < cLine := by omega
    have rm : ∀ {k : Nat}, k ≤ 64 → (Ar.deeper (PyProof.Rows.envOfC "law" (defScope sLaw) s0.heap.objs.size f (.ref cL))).units + k < cLine := fun h => by omega
    have huniq : ∀ p ∈ [(Pl, qLaw), (Pi, qIdx)], p.1 = Pl → p.2 = qLaw := by
      intro p hp e
      rcases List.mem_cons.mp hp with rfl | hp
      · rfl
      · rw [List.mem_singleton.mp hp] at e
        exact absurd e.symm ne
    have given := gives_refused (q := qLaw) (g := gR) (cdg := cdv) (X := (cxOf CX0 P w K mg base NL "law" (defScope sLaw) f (.ref cL) Ar fs s0 H E).nox) EC.TA EC.TO EC.xfA EC.xcA EC.xfO EC.xcO EC.kA EC.kO EC.eAA EC.eOA EC.eOO B.isinstance_ B.repr_ EC.mv EC.ml hq hu80
    refine ⟨_, (pss_cons (ps_set (i := 1) scLaw.nd rfl (Or.inr rfl) (pe_call pen.g (hr.mono (by decide)) rfl pen.mg pen.kp pen.b .nil pass0 (pa_cons (pv 0) pa_nil)))
      (pss_cons (ps_for PassesOwn.never rfl (pi_range1 (by rfl) B.range_ (pa_cons (pe_op op_add pe_int (pe_callB (call_min2 rfl) (by rfl) B.min_ (by decide +kernel) (pa_cons pe_int (pa_cons (pe_callB call_len_seq (by rfl) B.len_ (by decide +kernel) (pa_cons (pv 0) pa_nil)) pa_nil)))) pa_nil)) (pg_name (i := 2) scLaw.nd rfl (Or.inl rfl))
        (pss_cons (ps_set (i := 3) scLaw.nd rfl (Or.inr rfl) (pe_call words.g (hr.mono (by decide)) rfl words.mg words.kp words.b .nil pass0 (pa_cons (pv 1) (pa_cons pe_int pa_nil))))
        (pss_cons (ps_asg (pe_tup (pa_cons (pe_call pick.g (hr.mono (by decide)) rfl pick.mg pick.kp pick.b .nil pass0 (pa_cons (pv 1) (pa_cons (pv 3) pa_nil))) (pa_cons (pe_lc (own := [("_law_k", 4)]) (g := gName 4) (tt := tYes) rfl scLaw.nd (pi_range1 (by rfl) B.range_ (pa_cons (pe_call draw.g (hr.mono (by decide)) rfl draw.mg draw.kp draw.b .nil pass0 (pa_cons (pv 1) (pa_cons pe_int pa_nil))) pa_nil))
          (blkOk_by (own := [("_law_k", 4)]) (N := NL) (sc := defScope sLaw) (by decide +kernel))
          (fun _ _ _ _ _ => (pg_name (i := 4) scLaw.nd rfl (Or.inl rfl))) (fun _ _ _ _ _ => pts_nil)
          (fun _ _ _ _ _ => (pe_call pick.g (hr.mono (by decide)) rfl pick.mg pick.kp pick.b .nil pass0 (pa_cons (pv 1) (pa_cons (pv 3) pa_nil))))) pa_nil))) (pg_tup (n := 2) rfl (pgs_cons (pg_name (i := 5) scLaw.nd rfl (Or.inr rfl)) (pgs_cons (pg_name (i := 6) scLaw.nd rfl (Or.inl rfl)) pgs_nil))))
        (pss_cons (ps_asg (pe_tup (pa_cons (pe_callTy call_lstA (by rfl) B.list_ (by decide +kernel) (pa_cons (pv 6) pa_nil)) (pa_cons (pe_make A.MI A.GI hr4 (by rfl) A.T.mgC A.bI .nil pass_none (pa_cons (pv 5) (pa_cons (pv 6) pa_nil))) pa_nil))) (pg_tup (n := 2) rfl (pgs_cons (pg_name (i := 7) scLaw.nd rfl (Or.inl rfl)) (pgs_cons (pg_name (i := 8) scLaw.nd rfl (Or.inr rfl)) pgs_nil))))
        (pss_cons (ps_expr (pe_bm PySem.F.plainAttrs_list PySem.F.slot_list_append PySem.F.type_list_append mt_append (pv 6) (pa_cons pe_str pa_nil)))
        (pss_cons (ps_if (pt_cmpR op_ne (pe_callB (call_reprD hq) (by rfl) B.repr_ (by decide +kernel) (pa_cons (pe_lst (pa_cons (pe_prop (pv 8) A.T.cl A.state.prop A.state.ok hr2 A.state.b .nil pass0 rfl) (pa_cons (pe_prop (pv 8) A.T.cl A.path.prop A.path.ok hr2 A.path.b .nil pass0 rfl) (pa_cons (pe_callB (OW.own_len A.len.at_ A.len.isF A.len.ok A.len.b hr2 pass0) (by rfl) B.len_ (by decide +kernel) (pa_cons (pv 8) pa_nil)) pa_nil)))) pa_nil)) (pe_callB (call_reprD hq) (by rfl) B.repr_ (by decide +kernel) (pa_cons (pe_lst (pa_cons (pv 5) (pa_cons (pe_callTy call_tupA (by rfl) B.tuple_ (by decide +kernel) (pa_cons (pv 7) pa_nil)) (pa_cons (pe_callB call_len (by rfl) B.len_ (by decide +kernel) (pa_cons (pv 7) pa_nil)) pa_nil)))) pa_nil)) (nomark _)) (pss_one (ps_ret pe_bl)) pss_nil)
        (pss_cons (ps_if (PW.pt (pw_or (pt_cmpR (own_ne A.eq.at_ A.eq.isF A.ne A.ob A.eq.ok A.eq.b hr2) (pv 8) (pe_makeK0 A.MI A.GI hr4 (by rfl) A.T.mgC A.bk pass_none (pk_cons (pe_callTy call_tupA (by rfl) B.tuple_ (by decide +kernel) (pa_cons (pv 7) pa_nil)) (pk_cons (pv 5) pk_nil))) (nomark _)) (pw_or (pt_cmpR (own_cmp (op := .Eq) (fun _ _ => rfl) A.eq.at_ A.eq.isF A.eq.ok A.eq.b (hr.mono (by decide))) (pv 8) (pe_make A.MI A.GI hr4 (by rfl) A.T.mgC A.bI .nil pass_none (pa_cons (pv 5) (pa_cons (pv 6) pa_nil))) (nomark _)) (pw_or1 (pt_cmpR (NI.own_eqT A.eq.at_ A.eq.isF A.sT A.tT (A.eqN _ rfl rfl rfl rfl rfl) (hr.mono (by decide))) (pv 8) (pe_tup (pa_cons (pv 5) (pa_cons (pe_callTy call_tupA (by rfl) B.tuple_ (by decide +kernel) (pa_cons (pv 7) pa_nil)) pa_nil))) (nomark _)))))) (pss_one (ps_ret pe_bl)) pss_nil)
        (pss_cons (ps_if (pt_not (pt_val (pe_callQ gX hq (hr.mono (by decide)) (by rfl) mX kX bX (pa_cons (pv 1) (pa_cons (pv 8) (pa_cons (pv 7) pa_nil)))))) (pss_one (ps_ret pe_bl)) pss_nil)
        (pss_cons (ps_set (i := 9) scLaw.nd rfl (Or.inl rfl) (pe_call pick.g (hr.mono (by decide)) rfl pick.mg pick.kp pick.b .nil pass0 (pa_cons (pv 1) (pa_cons (pv 3) pa_nil))))
        (pss_cons (ps_par (by rfl) scLaw.nd (i := 10) (j := 11) rfl rfl (by decide) rfl rfl (pa_cons (pe_op (op_ladd rfl A.O A.add.ok A.add.b hr5 pass_none) (pv 8) (pv 9)) (pa_cons (pe_op (op_radd rfl A.O A.radd.at_ A.radd.isF A.si A.sb A.radd.ok A.radd.b hr5 pass_none) (pv 9) (pv 8)) pa_nil)) (by rfl))
        (pss_cons (ps_if (pt_cmpR op_ne (pe_callB (call_reprD hq) (by rfl) B.repr_ (by decide +kernel) (pa_cons (pe_lst (pa_cons (pe_prop (pv 10) A.T.cl A.path.prop A.path.ok hr2 A.path.b .nil pass0 rfl) (pa_cons (pe_prop (pv 11) A.T.cl A.path.prop A.path.ok hr2 A.path.b .nil pass0 rfl) pa_nil))) pa_nil)) (pe_callB (call_reprD hq) (by rfl) B.repr_ (by decide +kernel) (pa_cons (pe_lst (pa_cons (pe_callTy call_tupA (by rfl) B.tuple_ (by decide +kernel) (pa_cons (pe_op op_cat (pv 7) (pe_lst (pa_cons (pv 9) pa_nil))) pa_nil)) (pa_cons (pe_callTy call_tupA (by rfl) B.tuple_ (by decide +kernel) (pa_cons (pe_op op_cat (pe_lst (pa_cons (pv 9) pa_nil)) (pv 7)) pa_nil)) pa_nil))) pa_nil)) (nomark _)) (pss_one (ps_ret pe_bl)) pss_nil)
        (pss_cons (ps_if (pt_cmpR (op_neD hr.units) (pe_lst (pa_cons (pe_prop (pv 10) A.T.cl A.state.prop A.state.ok hr2 A.state.b .nil pass0 rfl) (pa_cons (pe_prop (pv 11) A.T.cl A.state.prop A.state.ok hr2 A.state.b .nil pass0 rfl) (pa_cons (pe_prop (pv 8) A.T.cl A.path.prop A.path.ok hr2 A.path.b .nil pass0 rfl) pa_nil)))) (pe_lst (pa_cons (pv 5) (pa_cons (pv 5) (pa_cons (pe_callTy call_tupA (by rfl) B.tuple_ (by decide +kernel) (pa_cons (pv 7) pa_nil)) pa_nil)))) (nomark _)) (pss_one (ps_ret pe_bl)) pss_nil)
        (pss_cons (ps_asg (pe_tup (pa_cons (pe_call any_value.g (hr.mono (by decide)) rfl any_value.mg any_value.kp any_value.b .nil pass0 (pa_cons (pv 1) pa_nil)) (pa_cons (pe_call pick.g (hr.mono (by decide)) rfl pick.mg pick.kp pick.b .nil pass0 (pa_cons (pv 1) (pa_cons (pe_lst (pa_cons (pe_call any_value.g (hr.mono (by decide)) rfl any_value.mg any_value.kp any_value.b .nil pass0 (pa_cons (pv 1) pa_nil)) (pa_cons (pe_op op_cat (pv 7) (pe_lst (pa_cons (pe_call any_value.g (hr.mono (by decide)) rfl any_value.mg any_value.kp any_value.b .nil pass0 (pa_cons (pv 1) pa_nil)) pa_nil))) (pa_cons (pv 7) pa_nil)))) pa_nil))) pa_nil))) (pg_tup (n := 2) rfl (pgs_cons (pg_name (i := 12) scLaw.nd rfl (Or.inr rfl)) (pgs_cons (pg_name (i := 13) scLaw.nd rfl (Or.inr rfl)) pgs_nil))))
        (pss_cons (ps_if (pt_by (tCmpA K [(Pl, qLaw), (Pi, qIdx)] 12) (pt_cmpR (opn_ne (α := Option (T3 Str Str Bool)) (room_all (k := 64) (by decide) hr.units)) (pe_lamcall (x := "_law_refused") (T := [(Pl, qLaw), (Pi, qIdx)]) (k := 4) (by rfl) FF.hm FF.hk FF.lk FF.hcg FF.hb scRefused rfl (Or.inl rfl) given TB rfl (List.mem_cons_self ..) huniq (hr.mono (by decide)) (lamS_by (sc := defScope sLaw) (by decide +kernel)) rfl (fun _ _ _ _ _ => rfl)
          (fun _ _ _ _ _ _ _ hr4 => pe_make A.MI A.GI hr4 (by rfl) A.T.mgC A.bI .nil (passes_of (takes_of rfl rfl rfl rfl)) (pa_cons (pv 12) (pa_cons (pv 13) pa_nil)))) (pe_call due.g (hr.mono (by decide)) rfl due.mg due.kp due.b .nil pass0 (pa_cons (pv 12) (pa_cons (pv 13) pa_nil))) (nomark _)) (fun σ H R h => by
            obtain ⟨d, c, n, ov, mv, o, e1, e2, p, tb, hov, hpy, nx⟩ := h
            refine ⟨tb, fun G xt tbG E' Q' eA eO hQ => ?_⟩
            have kG := kd_ext (d := d) xt
            have pG := pen_ext p xt
            obtain ⟨od, hod⟩ := (vy_kd hov p kG).vx
            have pxG := (hpy.kd p kG).px
            have fin : ∀ {G' : Hp}, Same G G' → PenAt G' d c n ∧ Tabs [(Pl, qLaw), (Pi, qIdx)] G' ∧ Kd d H G' := fun sG => ⟨pG.keep sG, tabs_same tbG sG, kG.trans (kd_same sG)⟩
            refine ⟨_, e1, _, e2, fun x dx nx' ndx ne => ?_⟩
            have sN := same_insA (C := C) nx' ndx
            refine ⟨x, dx, ov, mv, od, o, rfl, upd_same, hod.same sN, pxG.same sN, fun w d' H' s' hd nd => eA d' _ H' hd fun l nl => ?_, fun w eo d' H' s' hd nd => eA d' _ H' hd fun l nl => ?_, fun z ss ez hz eo hw H' t hA fr => ⟨rfl, hQ _ _ ?_⟩⟩
            · have sG := (sN.trans s').trans (same_new (o := .tup [.str "address", .str "state", .bl true]) nl)
              refine ⟨_, e1, _, e2, ov, mv, _, o, rfl, hod.same sG, pxG.same sG, fun dv H2 s2 tell => ?_⟩
              rw [due_state w] at tell
              refine ⟨TellO (some (Str.ofString "state")), TellO (some (Str.ofString "state")), tell_dp (told_at.same s2), tell_dp tell, _, rfl, ?_⟩
              show R (decide (TellO (some (Str.ofString "state")) ≠ TellO (some (Str.ofString "state")))) H2
              obtain ⟨f1, f2, f3⟩ := fin (sG.trans s2)
              rw [ne_self]
              exact nx H2 f1 f2 f3
            · have sG := (sN.trans s').trans (same_new (o := .tup [.str "address", .str "path", .bl true]) nl)
              refine ⟨_, e1, _, e2, ov, mv, _, o, rfl, hod.same sG, pxG.same sG, fun dv H2 s2 tell => ?_⟩
              rw [due_path w eo] at tell
              refine ⟨TellO (some (Str.ofString "path")), TellO (some (Str.ofString "path")), tell_dp (told_at.same s2), tell_dp tell, _, rfl, ?_⟩
              show R (decide (TellO (some (Str.ofString "path")) ≠ TellO (some (Str.ofString "path")))) H2
              obtain ⟨f1, f2, f3⟩ := fin (sG.trans s2)
              rw [ne_self]
              exact nx H2 f1 f2 f3
            · have sG : Same G H' := fun b o e => fr b o (sN _ _ e) (ne_of_none e nx')
              refine ⟨_, e1, _, e2, ov, mv, _, o, rfl, hod.same sG, pxG.same sG, fun dv H2 s2 tell => ?_⟩
              rw [due_none ez hz eo] at tell
              refine ⟨TellO none, TellO none, .non, tell_dp tell, _, rfl, ?_⟩
              show R (decide (TellO none ≠ TellO none)) H2
              obtain ⟨f1, f2, f3⟩ := fin (sG.trans s2)
              rw [ne_self]
              exact nx H2 f1 f2 f3)) (pss_one (ps_ret pe_bl)) pss_nil)
        (pss_cons (ps_if (pt_by (tCmpA K [(Pl, qLaw), (Pi, qIdx)] 5) (pt_cmpR (opn_ne (α := Option (T3 Str Str Bool)) (room_all (k := 64) (by decide) hr.units)) (pe_lamcall (x := "_law_refused") (T := [(Pl, qLaw), (Pi, qIdx)]) (k := 4) (by rfl) FF.hm FF.hk FF.lk FF.hcg FF.hb scRefused rfl (Or.inl rfl) given TB rfl (List.mem_cons_self ..) huniq (hr.mono (by decide)) (lamS_by (sc := defScope sLaw) (by decide +kernel)) rfl (fun _ _ _ _ _ => rfl)
          (fun _ _ _ _ _ _ _ hr4 => pe_make A.MI A.GI hr4 (by rfl) A.T.mgC A.bI .nil (passes_of (takes_of rfl rfl rfl rfl)) (pa_cons (pv 5) (pa_cons (pv 13) pa_nil)))) (pe_call due.g (hr.mono (by decide)) rfl due.mg due.kp due.b .nil pass0 (pa_cons (pv 5) (pa_cons (pv 13) pa_nil))) (nomark _)) (fun σ H R h => by
            obtain ⟨d, c, n, ov, mv, o, e1, e2, p, tb, hov, hpy, nx⟩ := h
            refine ⟨tb, fun G xt tbG E' Q' eA eO hQ => ?_⟩
            have kG := kd_ext (d := d) xt
            have pG := pen_ext p xt
            obtain ⟨od, hod⟩ := (vy_kd hov p kG).vx
            have pxG := (hpy.kd p kG).px
            have fin : ∀ {G' : Hp}, Same G G' → PenAt G' d c n ∧ Tabs [(Pl, qLaw), (Pi, qIdx)] G' ∧ Kd d H G' := fun sG => ⟨pG.keep sG, tabs_same tbG sG, kG.trans (kd_same sG)⟩
            refine ⟨_, e1, _, e2, fun x dx nx' ndx ne => ?_⟩
            have sN := same_insA (C := C) nx' ndx
            refine ⟨x, dx, ov, mv, od, o, rfl, upd_same, hod.same sN, pxG.same sN, fun w d' H' s' hd nd => eA d' _ H' hd fun l nl => ?_, fun w eo d' H' s' hd nd => eA d' _ H' hd fun l nl => ?_, fun z ss ez hz eo hw H' t hA fr => ⟨rfl, hQ _ _ ?_⟩⟩
            · have sG := (sN.trans s').trans (same_new (o := .tup [.str "address", .str "state", .bl true]) nl)
              refine ⟨_, e1, _, e2, ov, mv, _, o, rfl, hod.same sG, pxG.same sG, fun dv H2 s2 tell => ?_⟩
              rw [due_state w] at tell
              refine ⟨TellO (some (Str.ofString "state")), TellO (some (Str.ofString "state")), tell_dp (told_at.same s2), tell_dp tell, _, rfl, ?_⟩
              show R (decide (TellO (some (Str.ofString "state")) ≠ TellO (some (Str.ofString "state")))) H2
              obtain ⟨f1, f2, f3⟩ := fin (sG.trans s2)
              rw [ne_self]
              exact nx H2 f1 f2 f3
            · have sG := (sN.trans s').trans (same_new (o := .tup [.str "address", .str "path", .bl true]) nl)
              refine ⟨_, e1, _, e2, ov, mv, _, o, rfl, hod.same sG, pxG.same sG, fun dv H2 s2 tell => ?_⟩
              rw [due_path w eo] at tell
              refine ⟨TellO (some (Str.ofString "path")), TellO (some (Str.ofString "path")), tell_dp (told_at.same s2), tell_dp tell, _, rfl, ?_⟩
              show R (decide (TellO (some (Str.ofString "path")) ≠ TellO (some (Str.ofString "path")))) H2
              obtain ⟨f1, f2, f3⟩ := fin (sG.trans s2)
              rw [ne_self]
              exact nx H2 f1 f2 f3
            · have sG : Same G H' := fun b o e => fr b o (sN _ _ e) (ne_of_none e nx')
              refine ⟨_, e1, _, e2, ov, mv, _, o, rfl, hod.same sG, pxG.same sG, fun dv H2 s2 tell => ?_⟩
              rw [due_none ez hz eo] at tell
              refine ⟨TellO none, TellO none, .non, tell_dp tell, _, rfl, ?_⟩
              show R (decide (TellO none ≠ TellO none)) H2
              obtain ⟨f1, f2, f3⟩ := fin (sG.trans s2)
              rw [ne_self]
              exact nx H2 f1 f2 f3)) (pss_one (ps_ret pe_bl)) pss_nil)
        (pss_cons (ps_set (i := 14) scLaw.nd rfl (Or.inl rfl) (pe_by (tDueH K) (pe_ifExp (pt_val (pe_call lword.g (hr.mono (by decide)) rfl lword.mg lword.kp lword.b .nil pass0 (pa_cons (pv 12) pa_nil))) pe_non (pe_tup (pa_cons pe_str (pa_cons pe_str (pa_cons pe_bl pa_nil))))) (fun σ H Q h => by
            obtain ⟨ov, xd, e1, hx, nx⟩ := h
            refine ⟨_, e1, ov, xd, rfl, hx, fun H1 s1 => ⟨_, rfl, ?_⟩⟩
            rw [wv_vx hx]
            cases e : wV ov with
            | true =>
              rw [e, if_pos rfl] at nx
              exact iteT (nx _ _ s1 rfl)
            | false =>
              rw [e, if_neg (by decide)] at nx
              exact iteF ⟨by show 3 ≤ sizeLine; decide, fun l nl => nx _ _ (s1.trans (same_new nl)) told_at⟩)))
        (pss_cons (ps_if (pt_by (tCmpB K [(Pl, qLaw), (Pi, qIdx)] C) (pt_cmpR (opn_ne (α := Option (T3 Str Str Bool)) (room_all (k := 64) (by decide) hr.units)) (pe_lamcall (x := "_law_refused") (T := [(Pl, qLaw), (Pi, qIdx)]) (k := 5) (by rfl) FF.hm FF.hk FF.lk FF.hcg FF.hb scRefused rfl (Or.inl rfl) given TB rfl (List.mem_cons_self ..) huniq (hr.mono (by decide)) (lamS_by (sc := defScope sLaw) (by decide +kernel)) rfl (fun _ _ _ _ _ => rfl)
          (fun _ _ _ _ _ _ _ hr5 => pe_op (op_ladd rfl A.O A.add.ok A.add.b hr5 (passes_of (takes_of rfl rfl rfl rfl))) (pv 8) (pv 12))) (pv 14) (nomark _)) (fun σ H R h => by
            obtain ⟨d, c, n, ov, dv, x, t, z, ss, e1, e2, e3, p, tb, hov, hA, hz, hw, few, htl, nx⟩ := h
            refine ⟨tb, fun G xt tbG E' Q' eA eO hQ => ?_⟩
            have kG := kd_ext (d := d) xt
            have pG := pen_ext p xt
            obtain ⟨od, hod⟩ := (vy_kd hov p kG).vx
            have hAG := hA.kd p kG
            have tlG := htl.kd p kG
            obtain ⟨dxA, fsA, hxG⟩ := hAG.at_
            have fin : ∀ {G' : Hp}, Same G G' → PenAt G' d c n ∧ Tabs [(Pl, qLaw), (Pi, qIdx)] G' ∧ Kd d H G' := fun sG => ⟨pG.keep sG, tabs_same tbG sG, kG.trans (kd_same sG)⟩
            refine ⟨_, e3, _, e1, x, dxA, _, od, rfl, hxG, hod, x, t, z, ss, ov, od, rfl, hAG, hz, hw, few, hod, fun w d' H' s' hd => eA d' _ H' hd fun l nl => ?_, fun y ey hy b t' H' s' nb hB => hQ _ _ ?_⟩
            · have sG := s'.trans (same_new (o := .tup [.str "address", .str "path", .bl true]) nl)
              have tl2 := tlG.same sG
              rw [w, if_neg (by decide)] at tl2
              refine ⟨_, e2, TellO (some (Str.ofString "path")), TellO (some (Str.ofString "path")), tell_dp told_at, tell_dp tl2, _, rfl, ?_⟩
              show R (decide (TellO (some (Str.ofString "path")) ≠ TellO (some (Str.ofString "path")))) _
              obtain ⟨f1, f2, f3⟩ := fin sG
              rw [ne_self]
              exact nx _ f1 f2 f3
            · have tl2 := tlG.same s'
              rw [ey, show wV (.str y) = wrd y from rfl, hy, if_pos rfl] at tl2
              refine ⟨_, e2, TellO none, TellO none, .non, tell_dp tl2, _, rfl, ?_⟩
              show R (decide (TellO none ≠ TellO none)) _
              obtain ⟨f1, f2, f3⟩ := fin s'
              rw [ne_self]
              exact nx _ f1 f2 f3)) (pss_one (ps_ret pe_bl)) pss_nil)
        (pss_one (ps_if (pt_by (tCmpB K [(Pl, qLaw), (Pi, qIdx)] C) (pt_cmpR (opn_ne (α := Option (T3 Str Str Bool)) (room_all (k := 64) (by decide) hr.units)) (pe_lamcall (x := "_law_refused") (T := [(Pl, qLaw), (Pi, qIdx)]) (k := 5) (by rfl) FF.hm FF.hk FF.lk FF.hcg FF.hb scRefused rfl (Or.inl rfl) given TB rfl (List.mem_cons_self ..) huniq (hr.mono (by decide)) (lamS_by (sc := defScope sLaw) (by decide +kernel)) rfl (fun _ _ _ _ _ => rfl)
          (fun _ _ _ _ _ _ _ hr5 => pe_op (op_radd rfl A.O A.radd.at_ A.radd.isF A.si A.sb A.radd.ok A.radd.b hr5 (passes_of (takes_of rfl rfl rfl rfl))) (pv 12) (pv 8))) (pv 14) (nomark _)) (fun σ H R h => by
            obtain ⟨d, c, n, ov, dv, x, t, z, ss, e1, e2, e3, p, tb, hov, hA, hz, hw, few, htl, nx⟩ := h
            refine ⟨tb, fun G xt tbG E' Q' eA eO hQ => ?_⟩
            have kG := kd_ext (d := d) xt
            have pG := pen_ext p xt
            obtain ⟨od, hod⟩ := (vy_kd hov p kG).vx
            have hAG := hA.kd p kG
            have tlG := htl.kd p kG
            obtain ⟨dxA, fsA, hxG⟩ := hAG.at_
            have fin : ∀ {G' : Hp}, Same G G' → PenAt G' d c n ∧ Tabs [(Pl, qLaw), (Pi, qIdx)] G' ∧ Kd d H G' := fun sG => ⟨pG.keep sG, tabs_same tbG sG, kG.trans (kd_same sG)⟩
            refine ⟨_, e1, _, e3, x, dxA, _, od, rfl, hxG, hod, x, t, z, ss, ov, od, rfl, hAG, hz, hw, few, hod, fun w d' H' s' hd => eA d' _ H' hd fun l nl => ?_, fun y ey hy b t' H' s' nb hB => hQ _ _ ?_⟩
            · have sG := s'.trans (same_new (o := .tup [.str "address", .str "path", .bl true]) nl)
              have tl2 := tlG.same sG
              rw [w, if_neg (by decide)] at tl2
              refine ⟨_, e2, TellO (some (Str.ofString "path")), TellO (some (Str.ofString "path")), tell_dp told_at, tell_dp tl2, _, rfl, ?_⟩
              show R (decide (TellO (some (Str.ofString "path")) ≠ TellO (some (Str.ofString "path")))) _
              obtain ⟨f1, f2, f3⟩ := fin sG
              rw [ne_self]
              exact nx _ f1 f2 f3
            · have tl2 := tlG.same s'
              rw [ey, show wV (.str y) = wrd y from rfl, hy, if_pos rfl] at tl2
              refine ⟨_, e2, TellO none, TellO none, .non, tell_dp tl2, _, rfl, ?_⟩
              show R (decide (TellO none ≠ TellO none)) _
              obtain ⟨f1, f2, f3⟩ := fin s'
              rw [ne_self]
              exact nx _ f1 f2 f3)) (pss_one (ps_ret pe_bl)) pss_nil)))))))))))))))))))
      (pss_one (ps_ret (pe_and (pe_cmpR (opn_eq (α := Tup Str) (room_all (k := 64) (by decide) hr.units)) (pe_prop (pe_make A.MI A.GI hr4 (by rfl) A.T.mgC A.bD A.vD pass_none (pa_cons pe_str pa_nil)) A.T.cl A.path.prop A.path.ok hr2 A.path.b .nil pass0 rfl) (pe_tup pa_nil) (nomark _)) (pe_one (pe_cmpR (own_ne A.eq.at_ A.eq.isF A.ne A.ob A.eq.ok A.eq.b hr2) (pe_make A.MI A.GI hr4 (by rfl) A.T.mgC A.bD A.vD pass_none (pa_cons pe_str pa_nil)) (pe_make A.MI A.GI hr4 (by rfl) A.T.mgC A.bD A.vD pass_none (pa_cons pe_str pa_nil)) (nomark _)))))))), ?_⟩
    refine ⟨_, rfl, a, ns, rfl, hS, hlen, fun d c H0 p0 s0' nd => ?_⟩
    have tb0 : Tabs [(Pl, qLaw), (Pi, qIdx)] H0 := fun p hp => by
      rcases List.mem_cons.mp hp with rfl | hp
      · exact TabS.nil (s0' _ _ hT1)
      · rw [List.mem_singleton.mp hp]
        exact TabS.nil (s0' _ _ hT2)
    refine ⟨_, rfl, a, _, rfl, .inl (s0'.seq hS), _, _, rfl, _, _, rfl, rfl, ?_⟩
    obtain ⟨N, hN, hN1⟩ : ∃ N : Nat, (6 : Int) + (if ((ns.map V.int).length : Int) < 6 then ((ns.map V.int).length : Int) else 6) = (N : Int) ∧ N ≤ 12 := by
      by_cases h : ((ns.map V.int).length : Int) < 6
      · rw [if_pos h]
        exact ⟨6 + (ns.map V.int).length, by omega, by omega⟩
      · rw [if_neg h]
        exact ⟨12, by decide, by decide⟩
    refine ⟨(N : Int), ?_, by omega, by omega, for_range (n := (N : Int).toNat) (fun i σ H' => ∃ o2 o3 o4 o5 o6 o7 o8 o9 o10 o11 o12 o13 o14 : Option V, σ = [some (.ref a), some (.ref d), o2, o3, o4, o5, o6, o7, o8, o9, o10, o11, o12, o13, o14] ∧ PenAt H' d c (i * 100) ∧ Tabs [(Pl, qLaw), (Pi, qIdx)] H') ⟨none, none, none, none, none, none, none, none, none, none, none, none, none, rfl, p0.mono (Nat.zero_le _), tb0⟩ ?_ ?_⟩
    · rw [← hN]
    · rintro i σ G hi ⟨o2, o3, o4, o5, o6, o7, o8, o9, o10, o11, o12, o13, o14, rfl, p, tb⟩
      have hi' : i ≤ 12 := by omega
      clear tb0 p0 s0' nd hT1 hT2 hS
      -- words
      refine ⟨_, rfl, d, c, i * 100, 6, rfl, p, by omega, by decide, fun la wl H1 lw hW hla na p1 b1 => ?_⟩
      have tb1 := tabs_but tb p b1
      obtain ⟨W, hla1, wW, lW⟩ : ∃ W : List Str, H1 la = some (.lst (tV W)) ∧ W.all wrd = true ∧ W.length = 6 := by
        refine ⟨wl.map S, by rw [hla, tV, List.map_map]; rfl, ?_, by rw [List.length_map, lw]⟩
        rw [List.all_map, List.all_eq_true]
        intro x hx
        show isW (S x).cps.toList = true
        rw [show (S x).cps.toList = x by simp [S], hW x hx]
      clear hW hla lw na tb p b1
      have lW' : (tV W).length = 6 := by rw [List.length_map]; exact lW
      have drawn : ∀ {v : V}, v ∈ tV W → ∃ z, v = .str z ∧ wrd z = true := fun {v} h => by
        obtain ⟨z, hz, rfl⟩ := List.mem_map.mp h
        exact ⟨z, rfl, List.all_eq_true.mp wW z hz⟩
      -- home, track
      refine ⟨_, rfl, _, rfl, d, c, _, _, rfl, p1, by omega, .inl ⟨la, tV W, rfl, hla1, by omega, by omega, fun v H2 mv p2 b2 => ?_⟩⟩
      obtain ⟨z, rfl, hz⟩ := drawn mv
      have hla2 := b2 _ _ hla1 (lst_ne hla1 p1)
      have tb2 := tabs_but tb1 p1 b2
      clear mv tb1
      refine ⟨_, rfl, d, c, _, 7, rfl, p2, by omega, by decide, by decide, fun j H3 hj0 hj1 p3 b3 => ?_⟩
      have hla3 := b3 _ _ hla2 (lst_ne hla2 p2)
      have tb3 := tabs_but tb2 p2 b3
      clear tb2 hla1 hla2 b2 b3 p1 p2
      obtain ⟨J, rfl⟩ : ∃ J : Nat, j = (J : Int) := ⟨j.toNat, by omega⟩
      refine ⟨(J : Int), rfl, by omega, by omega, fun D nD => ?_⟩
      refine lc_penR (rel := fun v => wV v = true) (N := J) (m := 1) p3 nD (by omega) (fun _ => rfl) (fun k G' hk bG pG R hR => ?_) fun ys H4 ly hy hD p4 b4 => ?_
      · have hlaG := bG _ _ hla3 (lst_ne hla3 p3)
        refine ⟨_, rfl, _, rfl, d, c, _, _, rfl, pG, by omega, .inl ⟨la, tV W, rfl, hlaG, by omega, by omega, fun v G2 mv p' b' => ?_⟩⟩
        obtain ⟨y, rfl, hy⟩ := drawn mv
        exact hR _ G2 hy p' b'
      obtain ⟨ss, rfl, wss, lss⟩ : ∃ ss : List Str, ys = tV ss ∧ ss.all wrd = true ∧ ss.length = J := by
        obtain ⟨e1, e2⟩ := all_wv (List.all_eq_true.mpr hy)
        exact ⟨_, e1, e2, by rw [List.length_map, ly]⟩
      have hJ : ss.length ≤ 6 := by omega
      clear ly hy
      have hla4 := b4 _ _ hla3 (lst_ne hla3 p3)
      have tb4 := tabs_but tb3 p3 b4
      have Dd : D ≠ d := fun e => p3.ne (by rw [← e]; exact nD)
      have Dc : D ≠ c := fun e => p3.neC (by rw [← e]; exact nD)
      have Dla : la ≠ D := fun e => by rw [e, nD] at hla3; cases hla3
      clear tb3 hla3 p3 nD b4
      have p4' : PenAt H4 d c (i * 100 + 20) := p4.mono (by omega)
      clear p4
      refine ⟨by show 2 ≤ sizeLine; decide, fun t0 nt0 => ⟨t0, _, rfl, .inl (.inl upd_same), rfl, _, _, rfl, _, _, rfl, rfl, ?_⟩⟩
      have s5 := same_new (o := .tup [.str z, .ref D]) nt0
      have p5 := p4'.keep s5
      have tb5 := tabs_same tb4 s5
      have hla5 := s5 _ _ hla4
      have hD5 := s5 _ _ hD
      generalize upd H4 t0 (.tup [.str z, .ref D]) = H5 at p5 tb5 hla5 hD5 ⊢
      clear s5 p4' tb4 hla4 hD nt0
      -- kept, one
      refine ⟨_, rfl, D, _, rfl, .inl (.inl (.inl hD5)), fun ke nke => ⟨_, rfl, _, rfl, fun x dx nx ndx nex => ?_⟩⟩
      have s6 := same_new (o := .lst (tV ss)) nke
      have hke6 : (upd H5 ke (.lst (tV ss))) ke = some (.lst (tV ss)) := upd_same
      have ked : ke ≠ D := fun e => by rw [e, hD5] at nke; cases nke
      have p6 := p5.keep s6
      have tb6 := tabs_same tb5 s6
      have hla6 := s6 _ _ hla5
      have hD6 := s6 _ _ hD5
      generalize upd H5 ke (.lst (tV ss)) = H6 at s6 hke6 p6 tb6 hla6 hD6 nx ndx ⊢
      clear s6 p5 tb5 hla5 hD5 nke
      have sN := same_insA (C := C) nx ndx
      refine ⟨x, dx, .str z, .ref D, .str z, some ss, rfl, upd_same, str_vx hz, px_words (.inl (.inl (.inl (sN _ _ hD6)))) (by omega) wss, fun e => ?_, fun _ e => (by cases e), fun z' rs ez _ er _ H7 t hA fr => ⟨rfl, ?_⟩⟩
      · rw [show wV (.str z) = wrd z from rfl, hz] at e
        cases e
      cases ez
      cases er
      have s7 : Same H6 H7 := fun b o e => fr b o (sN _ _ e) (ne_of_none e nx)
      have p7 := p6.keep s7
      have tb7 := tabs_same tb6 s7
      have hla7 := s7 _ _ hla6
      have hD7 := s7 _ _ hD6
      have hke7 := s7 _ _ hke6
      clear s7 fr sN nx ndx nex p6 tb6 hla6 hD6 hke6
      refine ⟨by show 2 ≤ sizeLine; decide, fun t1 nt1 => ⟨t1, _, rfl, .inl (.inl upd_same), rfl, _, _, rfl, _, _, rfl, rfl, ?_⟩⟩
      have s8 := same_new (o := .tup [.ref ke, .ref x]) nt1
      have p8 := p7.keep s8
      have tb8 := tabs_same tb7 s8
      have hla8 := s8 _ _ hla7
      have hD8 := s8 _ _ hD7
      have hke8 := s8 _ _ hke7
      have hA8 := hA.same s8
      generalize upd H7 t1 (.tup [.ref ke, .ref x]) = H8 at p8 tb8 hla8 hD8 hke8 hA8 ⊢
      clear s8 p7 tb7 hla7 hD7 hke7 hA nt1
      -- append
      refine ⟨_, rfl, .inl ⟨rfl, _, .inl (.inl hD8)⟩, D, _, _, rfl, rfl, hD8, size_lt (by rw [List.length_map]; omega), ?_⟩
      have p9 := p8.put (o := .lst (tV ss ++ [.str "zz"])) Dd Dc
      have tb9 := tabs_put (o := .lst (tV ss ++ [.str "zz"])) tb8 hD8
      have hla9 : (upd H8 D (.lst (tV ss ++ [.str "zz"]))) la = _ := (upd_ne Dla).trans hla8
      have hke9 : (upd H8 D (.lst (tV ss ++ [.str "zz"]))) ke = _ := (upd_ne ked).trans hke8
      have hA9 := hA8.put (o := .lst (tV ss ++ [.str "zz"])) hD8
      have hD9 : (upd H8 D (.lst (tV ss ++ [.str "zz"]))) D = some (.lst (tV (ss ++ [Str.ofString "zz"]))) := by rw [upd_same, tV, tV, List.map_append]; rfl
      generalize upd H8 D (.lst (tV ss ++ [.str "zz"])) = H9 at p9 tb9 hla9 hke9 hA9 hD9 ⊢
      clear p8 tb8 hla8 hke8 hA8 hD8
      obtain ⟨dxA, fsA, hx9⟩ := hA9.at_
      have ltv : (tV ss).length = ss.length := List.length_map ..
      -- repr
      obtain ⟨f1, f2, f3, f4⟩ := repr_addr hz wss (by omega)
      have dpA : ∀ {G : Hp} {l u : Addr} {m : Int}, G l = some (.lst [.str z, .ref u, .int m]) → m = (ss.length : Int) → SqT K G u (tV ss) → Dp K G (.ref l) (.list [.str z, .tuple (ss.map PyData.str), .int (ss.length : Int)]) := fun h1 h2 h3 => by
        subst h2
        exact .lst (.inl (.inl h1)) (.cons (.str z) (.cons (.tup h3 (tv_dps ss)) (.cons (.int _) .nil)))
      have htt : SqT K H9 t (tV ss) := by
        obtain ⟨_, _, _, h, _⟩ := hA9
        exact h
      refine ⟨_, rfl, x, dxA, _, rfl, hx9, x, t, z, ss, rfl, hA9, _, rfl, x, dxA, _, rfl, hx9, x, t, z, ss, rfl, hA9, _, rfl, x, dxA, _, rfl, hx9, x, t, z, ss, rfl, hA9, ss.length, rfl, by omega, by show 3 ≤ sizeLine; decide, fun l1 nl1 => ?_⟩
      have s10 := same_new (o := .lst [.str z, .ref t, .int (ss.length : Int)]) nl1
      refine ⟨l1, _, rfl, dpA upd_same rfl (same_seqT s10 htt), f1, f2, rm (show (PyData.list [.str z, .tuple (ss.map PyData.str), .int (ss.length : Int)]).depth + 1 ≤ 64 by omega), f4, ?_⟩
      refine ⟨_, rfl, _, rfl, ke, _, rfl, .inl (.inl (.inl (s10 _ _ hke9))), fun tk H11 htk s11 => ⟨_, rfl, _, (tV ss).length, rfl, .inl ⟨_, .inl (.inl (s11 _ _ (s10 _ _ hke9))), rfl⟩, by show 3 ≤ sizeLine; decide, fun l2 nl2 => ?_⟩⟩
      have s12 := same_new (o := .lst [.str z, .ref tk, .int ((tV ss).length : Int)]) nl2
      refine ⟨l2, _, rfl, dpA upd_same (by rw [ltv]) (same_seqT s12 htk), f1, f2, rm (show (PyData.list [.str z, .tuple (ss.map PyData.str), .int (ss.length : Int)]).depth + 1 ≤ 64 by omega), f4, rfl, _, rfl, ?_⟩
      rw [decide_eq_true rfl]
      refine iteF ?_
      have sA := (s10.trans s11).trans s12
      have p12 := p9.keep sA
      have tb12 := tabs_same tb9 sA
      have hla12 := sA _ _ hla9
      have hD12 := sA _ _ hD9
      have hke12 := sA _ _ hke9
      have hA12 := hA9.same sA
      have hx12 := sA _ _ hx9
      generalize upd H11 l2 (.lst [.str z, .ref tk, .int ((tV ss).length : Int)]) = H12 at p12 tb12 hla12 hD12 hke12 hA12 hx12 ⊢
      clear sA s12 s11 s10 nl2 nl1 htk htt hx9 hA9 hD9 hke9 hla9 tb9 p9 f1 f2 f3 f4 dpA
      -- one != Address(path=tuple(kept), state=home)
      have px : ∀ {G : Hp} {u : Addr} {rs : List Str}, SqA K G u (tV rs) → rs.length ≤ 900 → rs.all wrd = true → PX K G (.ref u) (some rs) := fun h l w => px_words h (by omega) w
      refine ⟨_, rfl, _, rfl, ke, _, rfl, .inl (.inl (.inl hke12)), fun tk H13 htk s13 => ⟨_, rfl, rfl, rfl, fun x2 dx2 nx2 ndx2 ne2 => ?_⟩⟩
      have sN := same_insA (C := C) nx2 ndx2
      refine ⟨x2, dx2, .str z, .ref tk, .str z, some ss, rfl, upd_same, str_vx hz, px (.inr (same_seqT sN htk)) (by omega) wss, fun e => ?_, fun _ e => (by cases e), fun z' rs ez _ er _ H14 t2 hA2 fr => ⟨rfl, ?_⟩⟩
      · rw [show wV (.str z) = wrd z from rfl, hz] at e
        cases e
      cases ez
      cases er
      have s14 : Same H12 H14 := fun b o e => fr b o (sN _ _ (s13 _ _ e)) (ne_of_none (s13 _ _ e) nx2)
      have hA14 := hA12.same s14
      have hx14 := s14 _ _ hx12
      obtain ⟨dxB, fsB, hx2⟩ := hA2.at_
      refine ⟨x, x2, dxA, dxB, _, _, rfl, rfl, hx14, hx2, x, x2, t, t2, z, z, ss, ss, rfl, hA14, hA2, _, rfl, _, rfl, ?_⟩
      rw [decide_eq_true rfl]
      refine iteF ?_
      have hD14 := s14 _ _ hD12
      have hke14 := s14 _ _ hke12
      clear hA2 hx2 fr sN nx2 ndx2 ne2 htk s13 hA12 hx12
      -- one == Address(home, track)
      refine ⟨_, rfl, _, rfl, _, rfl, fun x2 dx2 nx2 ndx2 ne2 => ?_⟩
      have sN := same_insA (C := C) nx2 ndx2
      refine ⟨x2, dx2, .str z, .ref D, .str z, some (ss ++ [Str.ofString "zz"]), rfl, upd_same, str_vx hz, px (.inl (.inl (.inl (sN _ _ hD14)))) (by rw [List.length_append]; show ss.length + 1 ≤ 900; omega) (by rw [List.all_append, wss]; decide +kernel), fun e => ?_, fun _ e => (by cases e), fun z' rs ez _ er _ H15 t2 hA2 fr => ⟨rfl, ?_⟩⟩
      · rw [show wV (.str z) = wrd z from rfl, hz] at e
        cases e
      cases ez
      cases er
      have s15 : Same H14 H15 := fun b o e => fr b o (sN _ _ e) (ne_of_none e nx2)
      have hA15 := hA14.same s15
      have hx15 := s15 _ _ hx14
      obtain ⟨dxB, fsB, hx2⟩ := hA2.at_
      refine ⟨x, x2, dxA, dxB, _, _, rfl, rfl, hx15, hx2, x, x2, t, t2, z, z, ss, _, rfl, hA15, hA2, _, rfl, ?_⟩
      rw [decide_eq_false ak_more]
      refine iteF ?_
      have hke15 := s15 _ _ hke14
      have s12_15 := s14.trans s15
      clear hA2 hx2 fr sN nx2 ndx2 ne2 hA14 hx14 hD14 hke14 hD12
      -- one == (home, tuple(kept))
      refine ⟨_, rfl, _, rfl, _, rfl, ke, _, rfl, .inl (.inl (.inl hke15)), fun tk H16 htk s16 => ⟨by show 2 ≤ sizeLine; decide, fun l nl => ?_⟩⟩
      have s17 := s16.trans (same_new (o := .tup [.str z, .ref tk]) nl)
      have dpl : Dp K (upd H16 l (.tup [.str z, .ref tk])) (.ref l) (.tuple [.str z, .tuple (ss.map PyData.str)]) := .tup (.inl (.inl upd_same)) (.cons (.str z) (.cons (.tup (same_seqT (same_new nl) htk) (tv_dps ss)) .nil))
      refine ⟨x, dxA, _, l, _, rfl, rfl, s17 _ _ hx15, dpl, ⟨x, dxA, _, .ref l, rfl, s17 _ _ hx15, l, _, rfl, dpl⟩, _, rfl, iteF ?_⟩
      have sB := s12_15.trans s17
      have p17 := p12.keep sB
      have tb17 := tabs_same tb12 sB
      have hla17 := sB _ _ hla12
      have hke17 := sB _ _ hke12
      have hA17 := hA15.same s17
      generalize upd H16 l (.tup [.str z, .ref tk]) = H17 at p17 tb17 hla17 hke17 hA17 ⊢
      clear sB dpl s17 nl s16 htk hke15 s12_15 hx15 hA15 s15 s14 hke12 hla12 tb12 p12
      -- indexes
      refine ⟨_, rfl, _, rfl, _, rfl, d, c, x, t, ke, _, z, ss, rfl, p17, by omega, hA17, hke17, hJ, tb17, fun H18 p18 tb18 k18 => ⟨_, rfl, iteF ?_⟩⟩
      have hla18 := k18.at_ p17 hla17 rfl
      have hke18 := k18.at_ p17 hke17 rfl
      have hA18 := hA17.kd p17 k18
      clear k18 hla17 hke17 hA17 p17 tb17
      -- word
      refine ⟨_, rfl, _, rfl, d, c, _, _, rfl, p18, by omega, .inl ⟨la, tV W, rfl, hla18, by omega, by omega, fun v H19 mv p19 b19 => ?_⟩⟩
      obtain ⟨y, rfl, hy⟩ := drawn mv
      have tb19 := tabs_but tb18 p18 b19
      have hla19 := b19 _ _ hla18 (lst_ne hla18 p18)
      have hke19 := b19 _ _ hke18 (lst_ne hke18 p18)
      have hA19 := hA18.kd p18 (kd_but b19)
      clear b19 hla18 hke18 hA18 p18 tb18 mv
      obtain ⟨dxA, fsA, hx19⟩ := hA19.at_
      -- behind, ahead
      have no : ∀ {A : Prop}, wV (.str y) = false → A := fun e => by
        rw [show wV (.str y) = wrd y from rfl, hy] at e
        cases e
      refine ⟨_, rfl, _, rfl, x, dxA, _, .str y, rfl, hx19, str_vx hy, x, t, z, ss, .str y, .str y, rfl, hA19, hz, wss, by omega, str_vx hy, fun e => no e, fun y' ey _ bh tB H20 s20 nbh hB => ?_⟩
      cases ey
      have hA20 := hA19.same s20
      have hx20 := s20 _ _ hx19
      refine ⟨_, rfl, _, rfl, x, dxA, _, .str y, rfl, hx20, str_vx hy, x, t, z, ss, .str y, .str y, rfl, hA20, hz, wss, by omega, str_vx hy, fun e => no e, fun y' ey _ ah tH H21 s21 nah hH => ⟨_, _, rfl, ?_⟩⟩
      cases ey
      have s2021 := s20.trans s21
      have p21 := p19.keep s2021
      have tb21 := tabs_same tb19 s2021
      have hla21 := s2021 _ _ hla19
      have hke21 := s2021 _ _ hke19
      have hA21 := hA20.same s21
      have hB21 := hB.same s21
      clear s2021 s21 s20 hB hA20 hx20 hA19 hx19 hke19 hla19 tb19 p19 nbh nah
      obtain ⟨dxA, fsA, hx21⟩ := hA21.at_
      obtain ⟨dxB, fsB, hb21⟩ := hB21.at_
      obtain ⟨dxH, fsH, hh21⟩ := hH.at_
      have htB : SqT K H21 tB (tV (ss ++ [y])) := by
        obtain ⟨_, _, _, h, _⟩ := hB21
        exact h
      have htH : SqT K H21 tH (tV (y :: ss)) := by
        obtain ⟨_, _, _, h, _⟩ := hH
        exact h
      have wB : (ss ++ [y]).all wrd = true := by rw [List.all_append, wss]; show (true && (wrd y && true)) = true; rw [hy]; rfl
      have wH : (y :: ss).all wrd = true := by rw [List.all_cons, hy, wss]; rfl
      have lB : (ss ++ [y]).length ≤ 8 := by rw [List.length_append]; show ss.length + 1 ≤ 8; omega
      have lH : (y :: ss).length ≤ 8 := by show ss.length + 1 ≤ 8; omega
      obtain ⟨f1, f2, f3, f4⟩ := repr_two wB wH lB lH
      have dp2 : ∀ {G : Hp} {l u v : Addr}, G l = some (.lst [.ref u, .ref v]) → SqT K G u (tV (ss ++ [y])) → SqT K G v (tV (y :: ss)) → Dp K G (.ref l) (.list [.tuple ((ss ++ [y]).map PyData.str), .tuple ((y :: ss).map PyData.str)]) := fun h1 h2 h3 => .lst (.inl (.inl h1)) (.cons (.tup h2 (tv_dps _)) (.cons (.tup h3 (tv_dps _)) .nil))
      refine ⟨_, rfl, bh, dxB, _, rfl, hb21, bh, tB, z, _, rfl, hB21, _, rfl, ah, dxH, _, rfl, hh21, ah, tH, z, _, rfl, hH, by show 2 ≤ sizeLine; decide, fun l1 nl1 => ?_⟩
      have s22 := same_new (o := .lst [.ref tB, .ref tH]) nl1
      refine ⟨l1, _, rfl, dp2 upd_same (same_seqT s22 htB) (same_seqT s22 htH), f1, f2, rm (show (PyData.list [.tuple ((ss ++ [y]).map PyData.str), .tuple ((y :: ss).map PyData.str)]).depth + 1 ≤ 64 by omega), f4, ?_⟩
      have hke22 := s22 _ _ hke21
      generalize upd H21 l1 (.lst [.ref tB, .ref tH]) = H22 at s22 hke22 ⊢
      refine ⟨_, rfl, _, rfl, by show 1 ≤ sizeLine; decide, fun lw nlw => ?_⟩
      have s23 := same_new (o := .lst [.str y]) nlw
      refine ⟨ke, lw, _, _, rfl, rfl, s23 _ _ hke22, upd_same, size_ok (by rw [List.length_map]; show ss.length + 1 ≤ 1000000; omega), fun lk nlk => ?_⟩
      have s24 := s23.trans (same_new (o := .lst (tV ss ++ [.str y])) nlk)
      refine ⟨lk, _, rfl, .inl (.inl (.inl upd_same)), fun t3 H25 ht3 s25 => ?_⟩
      have s25' := s24.trans s25
      refine ⟨_, rfl, by show 1 ≤ sizeLine; decide, fun lv nlv => ⟨_, rfl, ?_⟩⟩
      have s26 := s25'.trans (same_new (o := .lst [.str y]) nlv)
      refine ⟨lv, ke, _, _, rfl, rfl, upd_same, s26 _ _ hke22, size_ok (by rw [List.length_map]; show 1 + ss.length ≤ 1000000; omega), fun lj nlj => ?_⟩
      have s27 := (same_new (o := .lst [.str y]) nlv).trans (same_new (o := .lst ([.str y] ++ tV ss)) nlj)
      refine ⟨lj, _, rfl, .inl (.inl (.inl upd_same)), fun t4 H28 ht4 s28 => ⟨by show 2 ≤ sizeLine; decide, fun l2 nl2 => ?_⟩⟩
      have s29 := same_new (o := .lst [.ref t3, .ref t4]) nl2
      have e3 : SqT K (upd H28 l2 (.lst [.ref t3, .ref t4])) t3 (tV (ss ++ [y])) := by
        have h := same_seqT ((s27.trans s28).trans s29) ht3
        rw [tV, List.map_append]
        exact h
      have e4 : SqT K (upd H28 l2 (.lst [.ref t3, .ref t4])) t4 (tV (y :: ss)) := same_seqT s29 ht4
      refine ⟨l2, _, rfl, dp2 upd_same e3 e4, f1, f2, rm (show (PyData.list [.tuple ((ss ++ [y]).map PyData.str), .tuple ((y :: ss).map PyData.str)]).depth + 1 ≤ 64 by omega), f4, rfl, _, rfl, ?_⟩
      rw [decide_eq_true rfl]
      refine iteF ?_
      have sC := (s22.trans s25').trans ((s27.trans s28).trans s29)
      have p30 := p21.keep sC
      have tb30 := tabs_same tb21 sC
      have hke30 := sC _ _ hke21
      have hA30 := hA21.same sC
      have hB30 := hB21.same sC
      have hH30 := hH.same sC
      generalize upd H28 l2 (.lst [.ref t3, .ref t4]) = H30 at p30 tb30 hke30 hA30 hB30 hH30 ⊢
      clear sC e3 e4 s29 s28 s27 s26 s25 s25' s24 s23 s22 ht3 ht4 nl2 nlj nlv nlk nlw nl1 f1 f2 f3 f4 dp2 lB lH wB wH htB htH hh21 hb21 hx21 hH hB21 hA21 hke21 hke22 tb21 p21
      -- states and path
      obtain ⟨dxA, fsA, hx30⟩ := hA30.at_
      obtain ⟨dxB, fsB, hb30⟩ := hB30.at_
      obtain ⟨dxH, fsH, hh30⟩ := hH30.at_
      have htt : SqT K H30 t (tV ss) := by
        obtain ⟨_, _, _, h, _⟩ := hA30
        exact h
      obtain ⟨sh3, eq3⟩ := three_ok hz wss (by omega)
      refine ⟨_, rfl, bh, dxB, _, rfl, hb30, bh, tB, z, _, rfl, hB30, _, rfl, ah, dxH, _, rfl, hh30, ah, tH, z, _, rfl, hH30, _, rfl, x, dxA, _, rfl, hx30, x, t, z, ss, rfl, hA30, by show 3 ≤ sizeLine; decide, fun l1 nl1 => ?_⟩
      have s31 := same_new (o := .lst [.str z, .str z, .ref t]) nl1
      have dp31 : Dp K (upd H30 l1 (.lst [.str z, .str z, .ref t])) (.ref l1) (.list [.str z, .str z, .tuple (ss.map PyData.str)]) := .lst (.inl (.inl upd_same)) (.cons (.str z) (.cons (.str z) (.cons (.tup (same_seqT s31 htt) (tv_dps ss)) .nil)))
      have hke31 := s31 _ _ hke30
      generalize upd H30 l1 (.lst [.str z, .str z, .ref t]) = H31 at s31 dp31 hke31 ⊢
      refine ⟨_, rfl, _, rfl, _, rfl, ke, _, rfl, .inl (.inl (.inl hke31)), fun t5 H32 ht5 s32 => ⟨by show 3 ≤ sizeLine; decide, fun l2 nl2 => ?_⟩⟩
      have s33 := same_new (o := .lst [.str z, .str z, .ref t5]) nl2
      refine ⟨_, _, dp_same (s32.trans s33) dp31, .lst (.inl (.inl upd_same)) (.cons (.str z) (.cons (.str z) (.cons (.tup (same_seqT s33 ht5) (tv_dps ss)) .nil))), sh3, sh3, _, rfl, ?_⟩
      rw [eq3]
      refine iteF ?_
      have sD := (s31.trans s32).trans s33
      have p34 := p30.keep sD
      have tb34 := tabs_same tb30 sD
      have hke34 := sD _ _ hke30
      have hA34 := hA30.same sD
      generalize upd H32 l2 (.lst [.str z, .str z, .ref t5]) = H34 at p34 tb34 hke34 hA34 ⊢
      clear sD s33 s32 s31 dp31 hke31 nl1 nl2 ht5 htt hx30 hb30 hh30 hA30 hB30 hH30 hke30 tb30 p30 sh3 eq3
      -- odd, more
      refine ⟨_, rfl, d, c, _, rfl, p34, by omega, fun ov H35 hov p35 b35 => ?_⟩
      have hke35 := b35 _ _ hke34 (lst_ne hke34 p34)
      have hA35 := hA34.kd p34 (kd_but b35)
      have tb35 := tabs_but tb34 p34 b35
      clear hke34 hA34 tb34 b35 p34
      refine ⟨_, rfl, _, rfl, d, c, _, rfl, p35, by omega, fun mv H36 hmv p36 b36 => ?_⟩
      have hke36 := b36 _ _ hke35 (lst_ne hke35 p35)
      have hA36 := hA35.kd p35 (kd_but b36)
      have tb36 := tabs_but tb35 p35 b36
      have hov36 := hov.but p35 b36
      clear hke35 hA35 tb35 b36 p35 hov
      refine ⟨_, rfl, _, rfl, d, c, _, rfl, p36, by omega, fun nv H37 hnv p37 b37 => ⟨by show 1 ≤ sizeLine; decide, fun lw nlw => ?_⟩⟩
      have hke37 := b37 _ _ hke36 (lst_ne hke36 p36)
      have hA37 := hA36.kd p36 (kd_but b37)
      have tb37 := tabs_but tb36 p36 b37
      have hov37 := hov36.but p36 b37
      have hmv37 := hmv.but p36 b37
      clear hke36 hA36 tb36 b37 p36 hov36 hmv
      have s38 := same_new (o := .lst [nv]) nlw
      refine ⟨ke, lw, _, _, rfl, rfl, s38 _ _ hke37, upd_same, size_ok (by rw [List.length_map]; show ss.length + 1 ≤ 1000000; omega), fun lm nlm => ⟨_, rfl, by show 3 ≤ sizeLine; decide, fun ll nll => ?_⟩⟩
      have s39 := s38.trans (same_new (o := .lst (tV ss ++ [nv])) nlm)
      have hlm : (upd (upd H37 lw (.lst [nv])) lm (.lst (tV ss ++ [nv]))) lm = some (.lst (tV ss ++ [nv])) := upd_same
      generalize upd (upd H37 lw (.lst [nv])) lm (.lst (tV ss ++ [nv])) = H39 at s39 hlm nll ⊢
      have s40 := same_new (o := .lst [mv, .ref lm, .ref ke]) nll
      have sE := s39.trans s40
      have p40 := p37.keep sE
      have hmore : ∀ u ∈ [mv, V.ref lm, V.ref ke], ∃ o, PY K (upd H39 ll (.lst [mv, .ref lm, .ref ke])) d u o := fun u hu => by
        simp only [List.mem_cons, List.not_mem_nil, or_false] at hu
        rcases hu with rfl | rfl | rfl
        · exact py_vy (hmv37.same sE)
        · refine ⟨_, .inr (.inr ⟨lm, _, rfl, .inl (.inl (.inl (s40 _ _ hlm))), by rw [List.length_append, List.length_map]; show ss.length + 1 ≤ 1000; omega, fun q hq => ?_, rfl⟩)⟩
          rcases List.mem_append.mp hq with hq | hq
          · obtain ⟨y', hy', rfl⟩ := List.mem_map.mp hq
            exact vy_str (List.all_eq_true.mp wss y' hy')
          · rw [List.mem_singleton.mp hq]
            exact hnv.same sE
        · exact ⟨_, py_tv (.inl (.inl (.inl (sE _ _ hke37)))) wss (by omega)⟩
      refine ⟨d, c, _, _, rfl, p40, by omega, .inl ⟨ll, _, rfl, upd_same, by show 0 < 3; decide, by show 3 < 1000000; decide, fun mo H41 mm p41 b41 => ⟨by show 2 ≤ sizeLine; decide, fun t6 nt6 => ⟨t6, _, rfl, .inl (.inl upd_same), rfl, _, _, rfl, _, _, rfl, rfl, ?_⟩⟩⟩⟩
      obtain ⟨o, hpy⟩ := hmore mo mm
      have s42 := same_new (o := .tup [ov, mo]) nt6
      have p42 := p41.keep s42
      have k41 := kd_but b41
      have tb42 := tabs_same (tabs_but (tabs_same tb37 sE) p40 b41) s42
      have hov42 := (vy_kd (hov37.same sE) p40 k41).same s42
      have hpy42 := (hpy.kd p40 k41).kd p41 (kd_same s42)
      have hA42 := ((hA37.same sE).kd p40 k41).same s42
      generalize upd H41 t6 (.tup [ov, mo]) = H42 at p42 tb42 hov42 hpy42 hA42 ⊢
      clear s42 k41 b41 hpy hmore p40 sE s40 s39 s38 hlm nll nlm nlw hov37 hmv37 hnv hke37 hA37 tb37 p37 p41 mm
      -- the four comparisons
      refine ⟨d, c, _, ov, mo, o, rfl, rfl, p42, tb42, hov42, hpy42, fun H43 p43 tb43 k43 => iteF ?_⟩
      have hov43 := vy_kd hov42 p42 k43
      have hpy43 := hpy42.kd p42 k43
      have hA43 := hA42.kd p42 k43
      clear hov42 hpy42 hA42 k43 p42 tb42
      refine ⟨d, c, _, .str z, mo, o, rfl, rfl, p43, tb43, vy_str hz, hpy43, fun H44 p44 tb44 k44 => iteF ?_⟩
      have hov44 := vy_kd hov43 p43 k44
      have hA44 := hA43.kd p43 k44
      clear hov43 hpy43 hA43 k44 p43 tb43
      obtain ⟨xd, hxd⟩ := hov44.vx
      refine ⟨ov, xd, rfl, hxd, fun dv H45 s45 tell => ?_⟩
      have p45 := p44.keep s45
      refine ⟨d, c, _, ov, dv, x, t, z, ss, rfl, rfl, rfl, p45, tabs_same tb44 s45, hov44.same s45, hA44.same s45, hz, wss, by omega, tell, fun H46 p46 tb46 k46 => iteF ?_⟩
      have tl46 := tell.kd p45 k46
      refine ⟨d, c, _, ov, dv, x, t, z, ss, rfl, rfl, rfl, p46, tb46, vy_kd (hov44.same s45) p45 k46, (hA44.same s45).kd p45 k46, hz, wss, by omega, tl46, fun H47 p47 tb47 k47 => iteF ?_⟩
      exact ⟨_, _, _, _, _, _, _, _, _, _, _, _, _, rfl, p47.mono (by omega), tb47⟩
    · rintro σ G ⟨o2, o3, o4, o5, o6, o7, o8, o9, o10, o11, o12, o13, o14, rfl, p, tb⟩
      have made : ∀ {w : Str} {G : Hp} {x dx : Addr} {R : VK}, wrd w = true → G x = none → G dx = none → (∀ H' t, AddrT K C H' x t w [] → Same G H' → R .non H') → spAInitX K C CA [.ref x, .str w, .ref eA] (upd (upd G dx (.own x)) x (.ins C dx [])) R E0 := fun {w G x dx R} hw nx ndx h => by
        have sN := same_insA (C := C) nx ndx
        refine ⟨x, dx, .str w, .ref eA, .str w, some [], rfl, upd_same, str_vx hw, px_words (ss := []) (.inr (A.eE _)) (Nat.zero_le _) rfl, fun e => ?_, fun _ e => (by cases e), fun z' rs ez _ er _ H' t hA fr => ?_⟩
        · rw [show wV (.str w) = wrd w from rfl, hw] at e
          cases e
        cases ez
        cases er
        exact h H' t hA fun b o e => fr b o (sN _ _ e) (ne_of_none e nx)
      have w1 : wrd (Str.ofString "web") = true := by decide +kernel
      have w2 : wrd (Str.ofString "www") = true := by decide +kernel
      refine fun x1 dx1 nx1 nd1 _ => made w1 nx1 nd1 fun H1 t1 hA1 s1 => ⟨rfl, ?_⟩
      obtain ⟨dxA, fsA, hx1⟩ := hA1.at_
      have ht1 : SqT K H1 t1 (tV []) := by
        obtain ⟨_, _, _, h, _⟩ := hA1
        exact h
      refine ⟨x1, dxA, _, rfl, hx1, x1, t1, _, [], rfl, hA1, by show 0 ≤ sizeLine; decide, fun l nl => ?_⟩
      refine ⟨(⟨[]⟩ : Tup Str), (⟨[]⟩ : Tup Str), .tup (same_seqT (same_new nl) ht1) (tv_dat []), .tup (.inl (.inl upd_same)) .nil, ?_⟩
      refine ⟨_, rfl, if_is (fun _ => ?_) (fun e => absurd rfl (of_decide_eq_false e))⟩
      refine fun x2 dx2 nx2 nd2 _ => made w1 nx2 nd2 fun H2 t2 hA2 s2 => ⟨rfl, ?_⟩
      refine fun x3 dx3 nx3 nd3 _ => made w2 nx3 nd3 fun H3 t3 hA3 s3 => ⟨rfl, ?_⟩
      have hA23 := hA2.same s3
      obtain ⟨dxB, fsB, hx2⟩ := hA23.at_
      obtain ⟨dxC, fsC, hx3⟩ := hA3.at_
      refine ⟨x2, x3, dxB, dxC, _, _, rfl, rfl, hx2, hx3, x2, x3, t2, t3, _, _, [], [], rfl, hA23, hA3, _, rfl, ?_⟩
      have : decide (akOf (Str.ofString "web") [] = akOf (Str.ofString "www") []) = false := by decide +kernel
      rw [this]
      exact q _
end
end RL

/-! The end of a row some of whose defs make lambdas: each such def's own table of code objects. -/
namespace GR
open PySem PySem.Spec PyProof.Rows L2 SX
/-- the def of this name has its code object at c and the table of it at P -/
def TabOf (F : PySem.W.Frag) (gl : Str → Option Value) (nm : Str) (c P : Addr) : Prop := ∃ (at_ : Addr) (o : Obj) (fd : FuncData) (vs : Array Value) (e : Value) (dd : Option Addr) (sl : Array (Option Value)),
  gl nm = some (.ref at_) ∧ F.lookup at_ = some o ∧ o.data = .func fd ∧ fd.code = .ref c ∧ F.lookup c = some ⟨e, dd, .fields vs, sl⟩ ∧ vs[11]? = some (.ref P) ∧ F.lookup P = none
theorem walk_tabs {l : PySem.W.OpenLaw} {most n : Nat} {q : Program} {loose : List Str} {XP : (Str → Option Value) → Heap → Prop} {YP : World → Heap → Prop} {d : DefRec} {F : Params → PySem.W.Frag} {sp : List (Addr × Addr) → World → Sp} {x : Str} {names : List Str}
    (hm : l.most = some most) (small : most ≤ sizeLine) (nd : d.params.defaults = []) (room : Room n callerA) (recs : ∀ nm ∈ names, ((recsOf q).any fun e => e.name == nm) = true)
    (hY : ∀ (wo : World) (h : Heap), YP wo h → (F wo.params).In h)
    (D : ∀ (wo : World) (gl : Str → Option Value) (at_ : Addr) (h : Heap), (F wo.params).In h → h.Ns mainGlobals gl → gl d.name = some (.ref at_) →
      ∃ (fd : FuncData) (ts : List (Addr × Addr)), (∀ p ∈ ts, ∃ nm ∈ names, TabOf (F wo.params) gl nm p.1 p.2) ∧ (∀ (s : Shared) (u : Value), BindsTo s fd ⟨[u], []⟩ [(x, u)]) ∧
        ∀ b0 : Heap, (F wo.params).In b0 → b0.Ns mainGlobals gl → (∀ p ∈ ts, LamX.TabB b0 gl p.1 p.2) → FnQ l.prog wo (F wo.params) gl b0 n at_ fd [x] (sp ts wo))
    (want : ∀ (wo : World) (H : Hp) (sc : Addr) (ts : List (Addr × Addr)) (ns : List Int), ns.length ≤ most → SqL (F wo.params) H sc (ns.map V.int) → (∀ p ∈ ts, H p.2 = some (.tbl #[])) → sp ts wo [.ref sc] H (fun v _ => v = .bl true) fun _ _ _ => False) :
    PySem.W.WalkO q loose XP YP l.row.toRowW d [] (fun f vs => PySem.call f vs) := by
  refine Att.attach_call hm nd ?_
  intro wo s₀ s gl gb at_ o pm cd doc sc vs ns G Y ho hd hcd hgl atS areI len ng
  have inF := hY wo _ Y
  obtain ⟨fd, ts, tabs, binds, D0⟩ := D wo gl at_ _ inF G.T.g hgl
  have rv := vals_ints areI
  have lenV := areI.length
  have small' : ns.length ≤ sizeLine := Nat.le_trans len small
  have facts : ∀ p ∈ ts, s.heap.get? p.2 = some { cls := .none, data := .fields #[] } ∧ (F wo.params).lookup p.2 = none ∧ PySem.W.CodeHd s.heap p.1 p.2 := by
    intro p hp
    obtain ⟨nm, mem, a1, ob, fu, xs, e', dd', sl', k0, k1, k2, k3, k4, k5, k6⟩ := tabs p hp
    obtain ⟨c, P⟩ := p
    dsimp only at k3 k5 k6 ⊢
    obtain ⟨e, he, hn⟩ := List.any_eq_true.mp (recs nm mem)
    obtain ⟨a2, o2, fd2, c2, P2, t1, t2, t3, t4, t5, t6⟩ := G.T.tab e he
    rw [beq_iff_eq.mp hn, k0] at t1
    obtain rfl : a1 = a2 := Value.ref.inj (Option.some.inj t1)
    obtain rfl : ob = o2 := Option.some.inj ((inF _ _ k1).symm.trans t2)
    obtain rfl : fu = fd2 := Data.func.inj (k2.symm.trans t3)
    obtain rfl : c = c2 := Value.ref.inj (k3.symm.trans t4)
    obtain ⟨⟨oc, vc, u1, u2, u3, u4⟩, u5⟩ := t6
    obtain rfl := Option.some.inj ((inF _ _ k4).symm.trans u1)
    obtain rfl : xs = vc := Data.fields.inj u3
    obtain rfl : P = P2 := Value.ref.inj (Option.some.inj (k5.symm.trans u4))
    obtain ⟨o5, v5, file, tf, flags, tg, code_, text, tt, op, w1, w2, w3, w4, w5, w6, w7, w8, w9, w10, w11⟩ := t5
    obtain rfl := Option.some.inj ((inF _ _ k4).symm.trans w1)
    obtain rfl : xs = v5 := Data.fields.inj w2
    exact ⟨u5, k6, _, _, file, tf, flags, tg, code_, text, tt, w1, u2, w2, k5, w3, w4, w5, w6, w7, w11⟩
  have apart : ∀ p ∈ ts, p.2 ≠ sc := fun p hp z => by
    have e1 := Option.some.inj ((facts p hp).1.symm.trans (by rw [z]; exact atS))
    have e2 := congrArg Obj.data e1
    cases e2
  have go := fun (H : Hp) (seen : SqL (F wo.params) H sc (ns.map V.int)) (seeT : ∀ p ∈ ts, H p.2 = some (.tbl #[])) (kinds : ∀ b, H b = none ∨ IsTab ts b ∨ ∃ o xs, H b = some (.frz o (.lst xs))) (ok : HOk l.prog wo H s.heap) (isS : ∀ b, H b ≠ none → b = sc ∨ IsTab ts b) (away : H sc ≠ none → (F wo.params).lookup sc = none) =>
    quiet_tabs (pr := l.prog) (wo := wo) (F := F wo.params) (tabs := ts) (H := H) (sc := sc) (sp := sp ts wo) inF G.T.g G.T.b G.T.builtins G.T.nolimit ng G.T.bmain (fun p hp => (facts p hp).1) (fun p hp => (facts p hp).2.1) (fun p hp => (facts p hp).2.2) atS room
      D0 binds (want wo H sc ts ns len seen seeT) seeT kinds ok isS away
  have isT : ∀ {b : Addr}, b ∈ ts.map (·.2) → IsTab ts b := fun hb => by
    obtain ⟨p, hp, e⟩ := List.mem_map.mp hb
    exact ⟨p, hp, e⟩
  have notT : sc ∉ ts.map (·.2) := fun hb => by
    obtain ⟨p, hp, e⟩ := List.mem_map.mp hb
    exact apart p hp e
  have emptyT : ∀ {b : Addr}, b ∈ ts.map (·.2) → s.heap.get? b = some { cls := .none, data := .fields #[] } := fun hb => by
    obtain ⟨p, hp, rfl⟩ := List.mem_map.mp hb
    exact (facts p hp).1
  by_cases known : (F wo.params).lookup sc = none
  · refine go (fun b => if b ∈ ts.map (·.2) then some (.tbl #[]) else if b = sc then some (.frz { cls := .type "list", data := .seq vs.toArray } (.lst (ns.map V.int))) else none) (Or.inl (Or.inr ⟨{ cls := .type "list", data := .seq vs.toArray }, (if_neg notT).trans (if_pos rfl)⟩)) (fun p hp => if_pos (List.mem_map.mpr ⟨p, hp, rfl⟩)) (fun b => ?_) ?_ (fun b ne => ?_) (fun _ => known)
    · by_cases e : b ∈ ts.map (·.2)
      · exact Or.inr (Or.inl (isT e))
      · by_cases e2 : b = sc
        · exact Or.inr (Or.inr ⟨_, _, (if_neg e).trans (if_pos e2)⟩)
        · exact Or.inl ((if_neg e).trans (if_neg e2))
    · intro b u e
      by_cases e1 : b ∈ ts.map (·.2)
      · cases (if_pos e1).symm.trans e
        exact emptyT e1
      · by_cases e2 : b = sc
        · cases ((if_neg e1).trans (if_pos e2)).symm.trans e
          subst e2
          exact ⟨atS, by rw [List.length_map]; exact small', vs, _, rv, atS⟩
        · cases ((if_neg e1).trans (if_neg e2)).symm.trans e
    · by_cases e : b ∈ ts.map (·.2)
      · exact Or.inr (isT e)
      · by_cases e2 : b = sc
        · exact Or.inl e2
        · exact absurd ((if_neg e).trans (if_neg e2)) ne
  · obtain ⟨o', ho'⟩ := Option.ne_none_iff_exists'.mp known
    cases (atS.symm.trans (inF sc o' ho'))
    refine go (fun b => if b ∈ ts.map (·.2) then some (.tbl #[]) else none) (Or.inr ⟨_, vs.toArray, _, ho', rfl, rfl, rfl, by rw [List.size_toArray, lenV]; exact small', by simpa using rv⟩) (fun p hp => if_pos (List.mem_map.mpr ⟨p, hp, rfl⟩)) (fun b => ?_) ?_ (fun b ne => ?_) (fun ne => ?_)
    · by_cases e : b ∈ ts.map (·.2)
      · exact Or.inr (Or.inl (isT e))
      · exact Or.inl (if_neg e)
    · intro b u e
      by_cases e1 : b ∈ ts.map (·.2)
      · cases (if_pos e1).symm.trans e
        exact emptyT e1
      · cases (if_neg e1).symm.trans e
    · by_cases e : b ∈ ts.map (·.2)
      · exact Or.inr (isT e)
      · exact absurd (if_neg e) ne
    · exact absurd (if_neg notT) ne
end GR

namespace RL
open PySem L2 SX AddrMath VA LamX GR
theorem kit_me {K : PySem.W.Frag} {S : Addr} : PySem.W.kitOne K (.ref S) (.ref S) = some true := by
  unfold PySem.W.kitOne
  rw [if_pos (by simp)]
theorem vals_app {a b : List V} {x y : List Value} (h1 : Vals a x) (h2 : Vals b y) : Vals (a ++ b) (x ++ y) := by
  induction h1 with
  | nil => exact h2
  | cons h _ ih => exact .cons h ih
theorem exm_own {K : PySem.W.Frag} {S : Addr} (h1 : PySem.W.subIn K (.ref S) (.type "BaseException") = some true) (h2 : PySem.W.hasDictIn K S = true) (h3 : PySem.W.typeIn K (.ref S) = some (.type "type")) (h4 : PySem.W.subIn K (.ref S) (.ref S) = some true) :
    PySem.W.exmOne K (.ref S) (.ref S) = some true := PySem.W.exm_ref h1 h2 h3 h4
theorem kit_own {K : PySem.W.Frag} {S : Addr} (h : PySem.W.subIn K (.ref S) (.type "ValueError") = some true) : PySem.W.kitOne K (.ref S) (.type "ValueError") = some true := by
  unfold PySem.W.kitOne
  rw [if_neg (by intro z; cases (beq_iff_eq.mp z))]
  show (if PySem.W.kitMeta "ValueError" = true then PySem.W.subIn K (.ref S) (.type "ValueError") else none) = some true
  rw [if_pos (by decide +kernel)]
  exact h
def own_mk {P : Program} {w : World} {K : PySem.W.Frag} {mg : Str → Option Value} {base : Heap} {CX : CXT} {n : Nat} {x : Str} {ps : List Str} {sp : Sp} {f : Addr} {fd : FuncData} (g : FnOk P w K mg base CX n f fd ps sp) (m : mg x = some (.ref f)) (k : PySem.W.keepIn K (.ref f) = true) (b : Binds K fd ps []) : Own P w K mg base CX n x ps sp := ⟨f, fd, g, m, k, b⟩
def prop_mk {P : Program} {w : World} {K : PySem.W.Frag} {mg : Str → Option Value} {base : Heap} {C p g : Addr} {n : Str} {sp : Sp} {fd : FuncData} (a : PySem.W.findIn K (.ref C) n = some (some (.ref p))) (gt : PySem.W.specialIn K (.ref p) "__get__" = some (some (.builtin "property.__get__"))) (t : PySem.W.takesIn K (.ref p) = some true) {r : List Value} (rc : PySem.W.recIn K p "property" = some (.ref g :: r))
    (ok : FnOk P w K mg base CX0 1 g fd ["self"] sp) (b : Binds K fd ["self"] []) : OwnP P w K mg base C n sp := ⟨p, g, fd, ⟨a, gt, t, ⟨r, rc⟩⟩, ok, b⟩
theorem kit_ownL {K : PySem.W.Frag} {S : Addr} (h : PySem.W.subIn K (.ref S) (.type "LookupError") = some true) : PySem.W.kitOne K (.ref S) (.type "LookupError") = some true := by
  unfold PySem.W.kitOne
  rw [if_neg (by intro z; cases (beq_iff_eq.mp z))]
  show (if PySem.W.kitMeta "LookupError" = true then PySem.W.subIn K (.ref S) (.type "LookupError") else none) = some true
  rw [if_pos (by decide +kernel)]
  exact h
theorem kit_no {K : PySem.W.Frag} {t : Value} {S : Addr} (n : ¬ (t == Value.ref S) = true) (ic : PySem.W.isClsIn K S = true) (ty : PySem.W.typeIn K (.ref S) = some (.type "type")) (h : PySem.W.subIn K t (.ref S) = some false) : PySem.W.kitOne K t (.ref S) = some false := by
  unfold PySem.W.kitOne
  rw [if_neg n]
  have ic' : (PySem.W.clsIn K S).isSome = true := ic
  unfold PySem.W.kitCls
  simp [ic', ty, h]
theorem kwA_vals {vs zs : List V} {us ws : List Value} (h1 : Vals vs us) (h4 : Vals zs ws) : Vals (kwA vs zs) (kwA us ws) := by
  match zs, ws, h4 with
  | [], _, .nil => exact h1
  | [_], _, .cons _ .nil => exact h1
  | [_, _], _, .cons a (.cons b .nil) => exact vals_app h1 (.cons b (.cons a .nil))
  | _ :: _ :: _ :: _, _, .cons _ (.cons _ (.cons _ _)) => exact h1

def spOf (K : PySem.W.Frag) (ts : List (Addr × Addr)) : Sp := match ts with
  | [p, q] => spLaw K p.2 q.2
  | _ => fun _ _ _ _ => True
theorem all_mk {l : PySem.W.OpenLaw} {w : World} {K : PySem.W.Frag} {h : Heap} {mg : Str → Option Value} {fa : Addr} (X : K.In h) (G : h.Ns mainGlobals mg) (hfa : mg "law" = some (.ref fa))
    {C fis_word fare_words fis_integer fis_index CE fErr CO fFar faInit TA eA paState faState paPath faPath faLen faItem faAdd faRadd faEq fpen fdraw fpick fwords fany_value flword fdue frefused fidx flaw cL Pl cI Pi : Addr} {odis_word anis_word odare_words anare_words odis_integer anis_integer odis_index anis_index odErr anErr odFar anFar odaInit anaInit odTA odE odaState anaState odaPath anaPath odaLen anaLen odaItem anaItem odaAdd anaAdd odaRadd anaRadd odaEq anaEq odpen anpen oddraw andraw odpick anpick odwords anwords odany_value anany_value odlword anlword oddue andue odrefused anrefused odidx anidx odlaw anlaw ddcL ddcI : Option Addr} {slis_word slare_words slis_integer slis_index slErr slFar slaInit slTA slE slaState slaPath slaLen slaItem slaAdd slaRadd slaEq slpen sldraw slpick slwords slany_value sllword sldue slrefused slidx sllaw slcL slcI : Array (Option Value)} {ocis_word dcis_word pmis_word cdis_word ctis_word kVis_word ocare_words dcare_words pmare_words cdare_words ctare_words kVare_words ocis_integer dcis_integer pmis_integer cdis_integer ctis_integer kVis_integer ocis_index dcis_index pmis_index cdis_index ctis_index kVis_index ocErr dcErr pmErr cdErr ctErr kVErr ocFar dcFar pmFar cdFar ctFar kVFar ocaInit dcaInit pmaInit cdaInit ctaInit kVaInit ocTA ocaState dcaState pmaState cdaState ctaState kVaState ocaPath dcaPath pmaPath cdaPath ctaPath kVaPath ocaLen dcaLen pmaLen cdaLen ctaLen kVaLen ocaItem dcaItem pmaItem cdaItem ctaItem kVaItem ocaAdd dcaAdd pmaAdd cdaAdd ctaAdd kVaAdd ocaRadd dcaRadd pmaRadd cdaRadd ctaRadd kVaRadd ocaEq dcaEq pmaEq cdaEq ctaEq kVaEq ocpen dcpen pmpen cdpen ctpen kVpen ocdraw dcdraw pmdraw cddraw ctdraw kVdraw ocpick dcpick pmpick cdpick ctpick kVpick ocwords dcwords pmwords cdwords ctwords kVwords ocany_value dcany_value pmany_value cdany_value ctany_value kVany_value oclword dclword pmlword cdlword ctlword kVlword ocdue dcdue pmdue cddue ctdue kVdue ocrefused dcrefused pmrefused cdrefused ctrefused kVrefused ocidx dcidx pmidx ctidx kVidx oclaw dclaw pmlaw ctlaw kVlaw ecL ecI : Value} {nTA nE : Nat} {tk8 : Tok} {raState raPath : List Value}  {nmErr qErr : Str} {NNErr : Addr} {bsErr : List Value} {snErr : List Str} {subErr : List Value} {abErr : Bool} {colErr : Option Bool} {ddErr : Option Addr} {m0Err m1Err m2Err m3Err m5Err : Option Value} {nmFar qFar : Str} {NNFar : Addr} {bsFar : List Value} {snFar : List Str} {subFar : List Value} {abFar : Bool} {colFar : Option Bool} {ddFar : Option Addr} {m0Far m1Far m2Far m3Far m5Far : Option Value} {vscL : Array Value} {vscI : Array Value}
    (zisinstance : PySem.W.nsIn K mainGlobals "isinstance" = some none)
    (zstr : PySem.W.nsIn K mainGlobals "str" = some none)
    (zint : PySem.W.nsIn K mainGlobals "int" = some none)
    (zbool : PySem.W.nsIn K mainGlobals "bool" = some none)
    (zlist : PySem.W.nsIn K mainGlobals "list" = some none)
    (ztuple : PySem.W.nsIn K mainGlobals "tuple" = some none)
    (zlen : PySem.W.nsIn K mainGlobals "len" = some none)
    (zall : PySem.W.nsIn K mainGlobals "all" = some none)
    (zsorted : PySem.W.nsIn K mainGlobals "sorted" = some none)
    (zset : PySem.W.nsIn K mainGlobals "set" = some none)
    (zrange : PySem.W.nsIn K mainGlobals "range" = some none)
    (zmin : PySem.W.nsIn K mainGlobals "min" = some none)
    (zrepr : PySem.W.nsIn K mainGlobals "repr" = some none)
    (zzip : PySem.W.nsIn K mainGlobals "zip" = some none)
    (zValueError : PySem.W.nsIn K mainGlobals "ValueError" = some none)
    (zLookupError : PySem.W.nsIn K mainGlobals "LookupError" = some none)
    (zNotImplemented : PySem.W.nsIn K mainGlobals "NotImplemented" = some none)
    (aLETTERS : PySem.W.nsIn K mainGlobals "LETTERS" = some (some (.int 8 tk8)))
    (mC : PySem.W.nsIn K mainGlobals "Address" = some (some (.ref C)))
    (pgC : PySem.W.plainGet K C Str.empty = true)
    (hdC : PySem.W.hasDictIn K C = true)
    (poC : PySem.W.plainOver K C = true)
    (saC : PySem.W.findIn K (.ref C) "__setattr__" = some (some (.builtin "object.__setattr__")))
    (mkC : PySem.W.makesIn K C = true)
    (kcC : PySem.W.keepIn K (.ref C) = true)
    (nC_state : PySem.W.findIn K (.ref C) "_state" = some none)
    (nC_path : PySem.W.findIn K (.ref C) "_path" = some none)
    (nC_key : PySem.W.findIn K (.ref C) "_key" = some none)
    (icC : PySem.W.isClsIn K C = true)
    (pcC : PySem.W.plainGet K C "__class__" = true)
    (clC : PySem.W.findIn K (.ref C) "__class__" = some (some (.builtin "object.__class__")))
    (moC : PySem.W.mroIn K C (.type "object") = some true)
    (clg : PySem.W.specialIn K (.builtin "object.__class__") "__get__" = some (some (.builtin "getset_descriptor.__get__")))
    (clt : PySem.W.takesIn K (.builtin "object.__class__") = some true)
    (ais_word : PySem.W.nsIn K mainGlobals "is_word" = some (some (.ref fis_word)))
    (lis_word : K.lookup fis_word = some ⟨ocis_word, odis_word, .func (PySem.W.fnOf "is_word" "is_word" (defArgs sIsWord) (defBody sIsWord) (defScope sIsWord) .none kVis_word dcis_word pmis_word anis_word cdis_word ctis_word), slis_word⟩) (cis_word : PySem.W.codeIn K cdis_word "is_word" = true) (kis_word : PySem.W.keepIn K (.ref fis_word) = true)
    (aare_words : PySem.W.nsIn K mainGlobals "are_words" = some (some (.ref fare_words)))
    (lare_words : K.lookup fare_words = some ⟨ocare_words, odare_words, .func (PySem.W.fnOf "are_words" "are_words" (defArgs sAreWords) (defBody sAreWords) (defScope sAreWords) .none kVare_words dcare_words pmare_words anare_words cdare_words ctare_words), slare_words⟩) (care_words : PySem.W.codeIn K cdare_words "are_words" = true) (kare_words : PySem.W.keepIn K (.ref fare_words) = true)
    (ais_integer : PySem.W.nsIn K mainGlobals "is_integer" = some (some (.ref fis_integer)))
    (lis_integer : K.lookup fis_integer = some ⟨ocis_integer, odis_integer, .func (PySem.W.fnOf "is_integer" "is_integer" (defArgs sIsInteger) (defBody sIsInteger) (defScope sIsInteger) .none kVis_integer dcis_integer pmis_integer anis_integer cdis_integer ctis_integer), slis_integer⟩) (cis_integer : PySem.W.codeIn K cdis_integer "is_integer" = true) (kis_integer : PySem.W.keepIn K (.ref fis_integer) = true)
    (ais_index : PySem.W.nsIn K mainGlobals "is_index" = some (some (.ref fis_index)))
    (lis_index : K.lookup fis_index = some ⟨ocis_index, odis_index, .func (PySem.W.fnOf "is_index" "is_index" (defArgs sIsIndex) (defBody sIsIndex) (defScope sIsIndex) .none kVis_index dcis_index pmis_index anis_index cdis_index ctis_index), slis_index⟩) (cis_index : PySem.W.codeIn K cdis_index "is_index" = true) (kis_index : PySem.W.keepIn K (.ref fis_index) = true)
    (mCE : PySem.W.nsIn K mainGlobals "InvalidAddress" = some (some (.ref CE)))
    (xErr : K.lookup CE = some (excClassObj nmErr qErr CE NNErr bsErr [.type "ValueError", .type "Exception", .type "BaseException", .type "object"] true snErr subErr abErr colErr ddErr m0Err m1Err m2Err m3Err m5Err "ValueError.__new__"))
    (saErr : PySem.W.findIn K (.ref CE) "__setattr__" = some (some (.builtin "object.__setattr__")))
    (exErr : PySem.W.subIn K (.ref CE) (.type "BaseException") = some true)
    (tyErr : PySem.W.typeIn K (.ref CE) = some (.type "type"))
    (kcErr : PySem.W.keepIn K (.ref CE) = true)
    (aErr : PySem.W.findIn K (.ref CE) "__init__" = some (some (.ref fErr)))
    (tErr : PySem.W.typeIn K (.ref fErr) = some (.type "function"))
    (lErr : K.lookup fErr = some ⟨ocErr, odErr, .func (PySem.W.fnOf "__init__" "InvalidAddress.__init__" (defArgs sErrA) (defBody sErrA) (defScope sErrA) .none kVErr dcErr pmErr anErr cdErr ctErr), slErr⟩) (cErr : PySem.W.codeIn K cdErr "InvalidAddress.__init__" = true) (kErr : PySem.W.keepIn K (.ref fErr) = true)
    (noErr : PySem.W.findIn K (.ref CE) "field" = some none)
    (gaErr : PySem.W.findIn K (.ref CE) "__getattribute__" = some (some (.builtin "BaseException.__getattribute__")))
    (ggErr : PySem.W.findIn K (.ref CE) "__getattr__" = some none)
    (hdErr : PySem.W.hasDictIn K CE = true)
    (clErr : PySem.W.findIn K (.ref CE) "__class__" = some (some (.builtin "object.__class__")))
    (moErr : PySem.W.mroIn K CE (.type "object") = some true)
    (sVErr : PySem.W.subIn K (.ref CE) (.type "ValueError") = some true)
    (sEErr : PySem.W.subIn K (.ref CE) (.ref CE) = some true)
    (mCO : PySem.W.nsIn K mainGlobals "OutOfRange" = some (some (.ref CO)))
    (xFar : K.lookup CO = some (excClassObj nmFar qFar CO NNFar bsFar [.type "LookupError", .type "Exception", .type "BaseException", .type "object"] true snFar subFar abFar colFar ddFar m0Far m1Far m2Far m3Far m5Far "LookupError.__new__"))
    (saFar : PySem.W.findIn K (.ref CO) "__setattr__" = some (some (.builtin "object.__setattr__")))
    (exFar : PySem.W.subIn K (.ref CO) (.type "BaseException") = some true)
    (tyFar : PySem.W.typeIn K (.ref CO) = some (.type "type"))
    (kcFar : PySem.W.keepIn K (.ref CO) = true)
    (aFar : PySem.W.findIn K (.ref CO) "__init__" = some (some (.ref fFar)))
    (tFar : PySem.W.typeIn K (.ref fFar) = some (.type "function"))
    (lFar : K.lookup fFar = some ⟨ocFar, odFar, .func (PySem.W.fnOf "__init__" "OutOfRange.__init__" (defArgs sErrO) (defBody sErrO) (defScope sErrO) .none kVFar dcFar pmFar anFar cdFar ctFar), slFar⟩) (cFar : PySem.W.codeIn K cdFar "OutOfRange.__init__" = true) (kFar : PySem.W.keepIn K (.ref fFar) = true)
    (noFar : PySem.W.findIn K (.ref CO) "value" = some none)
    (gaFar : PySem.W.findIn K (.ref CO) "__getattribute__" = some (some (.builtin "BaseException.__getattribute__")))
    (ggFar : PySem.W.findIn K (.ref CO) "__getattr__" = some none)
    (hdFar : PySem.W.hasDictIn K CO = true)
    (clFar : PySem.W.findIn K (.ref CO) "__class__" = some (some (.builtin "object.__class__")))
    (moFar : PySem.W.mroIn K CO (.type "object") = some true)
    (sVFar : PySem.W.subIn K (.ref CO) (.type "LookupError") = some true)
    (sEFar : PySem.W.subIn K (.ref CO) (.ref CO) = some true)
    (sOA : PySem.W.subIn K (.ref CO) (.ref CE) = some false)
    (baInit : PySem.W.findIn K (.ref C) "__init__" = some (some (.ref faInit)))
    (iaInit : PySem.W.isFn K (.ref faInit) = true)
    (laInit : K.lookup faInit = some ⟨ocaInit, odaInit, .func (PySem.W.fnOf "__init__" "Address.__init__" (defArgs sAInit) (defBody sAInit) (defScope sAInit) (.ref TA) kVaInit dcaInit pmaInit anaInit cdaInit ctaInit), slaInit⟩) (caInit : PySem.W.codeIn K cdaInit "Address.__init__" = true) (kaInit : PySem.W.keepIn K (.ref faInit) = true)
    (lTA : K.lookup TA = some ⟨ocTA, odTA, .seq [Value.ref eA].toArray nTA, slTA⟩)
    (lE : K.lookup eA = some ⟨.type "tuple", odE, .seq #[] nE, slE⟩)
    (aaState : PySem.W.findIn K (.ref C) "state" = some (some (.ref paState)))
    (gaState : PySem.W.specialIn K (.ref paState) "__get__" = some (some (.builtin "property.__get__")))
    (taState : PySem.W.takesIn K (.ref paState) = some true)
    (r_aState : PySem.W.recIn K paState "property" = some (.ref faState :: raState))
    (laState : K.lookup faState = some ⟨ocaState, odaState, .func (PySem.W.fnOf "state" "Address.state" (defArgs sAState) (defBody sAState) (defScope sAState) .none kVaState dcaState pmaState anaState cdaState ctaState), slaState⟩) (caState : PySem.W.codeIn K cdaState "Address.state" = true) (kaState : PySem.W.keepIn K (.ref faState) = true)
    (aaPath : PySem.W.findIn K (.ref C) "path" = some (some (.ref paPath)))
    (gaPath : PySem.W.specialIn K (.ref paPath) "__get__" = some (some (.builtin "property.__get__")))
    (taPath : PySem.W.takesIn K (.ref paPath) = some true)
    (r_aPath : PySem.W.recIn K paPath "property" = some (.ref faPath :: raPath))
    (laPath : K.lookup faPath = some ⟨ocaPath, odaPath, .func (PySem.W.fnOf "path" "Address.path" (defArgs sAPath) (defBody sAPath) (defScope sAPath) .none kVaPath dcaPath pmaPath anaPath cdaPath ctaPath), slaPath⟩) (caPath : PySem.W.codeIn K cdaPath "Address.path" = true) (kaPath : PySem.W.keepIn K (.ref faPath) = true)
    (aaLen : PySem.W.findIn K (.ref C) "__len__" = some (some (.ref faLen)))
    (iaLen : PySem.W.isFn K (.ref faLen) = true)
    (fiaLen : PySem.W.fnIn K faLen = true)
    (laLen : K.lookup faLen = some ⟨ocaLen, odaLen, .func (PySem.W.fnOf "__len__" "Address.__len__" (defArgs sALen) (defBody sALen) (defScope sALen) .none kVaLen dcaLen pmaLen anaLen cdaLen ctaLen), slaLen⟩) (caLen : PySem.W.codeIn K cdaLen "Address.__len__" = true) (kaLen : PySem.W.keepIn K (.ref faLen) = true)
    (aaItem : PySem.W.findIn K (.ref C) "__getitem__" = some (some (.ref faItem)))
    (iaItem : PySem.W.isFn K (.ref faItem) = true)
    (fiaItem : PySem.W.fnIn K faItem = true)
    (laItem : K.lookup faItem = some ⟨ocaItem, odaItem, .func (PySem.W.fnOf "__getitem__" "Address.__getitem__" (defArgs sAItem) (defBody sAItem) (defScope sAItem) .none kVaItem dcaItem pmaItem anaItem cdaItem ctaItem), slaItem⟩) (caItem : PySem.W.codeIn K cdaItem "Address.__getitem__" = true) (kaItem : PySem.W.keepIn K (.ref faItem) = true)
    (aaAdd : PySem.W.findIn K (.ref C) "__add__" = some (some (.ref faAdd)))
    (iaAdd : PySem.W.isFn K (.ref faAdd) = true)
    (fiaAdd : PySem.W.fnIn K faAdd = true)
    (laAdd : K.lookup faAdd = some ⟨ocaAdd, odaAdd, .func (PySem.W.fnOf "__add__" "Address.__add__" (defArgs sAAdd) (defBody sAAdd) (defScope sAAdd) .none kVaAdd dcaAdd pmaAdd anaAdd cdaAdd ctaAdd), slaAdd⟩) (caAdd : PySem.W.codeIn K cdaAdd "Address.__add__" = true) (kaAdd : PySem.W.keepIn K (.ref faAdd) = true)
    (aaRadd : PySem.W.findIn K (.ref C) "__radd__" = some (some (.ref faRadd)))
    (iaRadd : PySem.W.isFn K (.ref faRadd) = true)
    (fiaRadd : PySem.W.fnIn K faRadd = true)
    (laRadd : K.lookup faRadd = some ⟨ocaRadd, odaRadd, .func (PySem.W.fnOf "__radd__" "Address.__radd__" (defArgs sARadd) (defBody sARadd) (defScope sARadd) .none kVaRadd dcaRadd pmaRadd anaRadd cdaRadd ctaRadd), slaRadd⟩) (caRadd : PySem.W.codeIn K cdaRadd "Address.__radd__" = true) (kaRadd : PySem.W.keepIn K (.ref faRadd) = true)
    (aaEq : PySem.W.findIn K (.ref C) "__eq__" = some (some (.ref faEq)))
    (iaEq : PySem.W.isFn K (.ref faEq) = true)
    (fiaEq : PySem.W.fnIn K faEq = true)
    (laEq : K.lookup faEq = some ⟨ocaEq, odaEq, .func (PySem.W.fnOf "__eq__" "Address.__eq__" (defArgs sAEq) (defBody sAEq) (defScope sAEq) .none kVaEq dcaEq pmaEq anaEq cdaEq ctaEq), slaEq⟩) (caEq : PySem.W.codeIn K cdaEq "Address.__eq__" = true) (kaEq : PySem.W.keepIn K (.ref faEq) = true)
    (neC : PySem.W.findIn K (.ref C) "__ne__" = some (some (.builtin "object.__ne__")))
    (obC : PySem.W.subIn K (.ref C) (.type "object") = some true)
    (sfC : PySem.W.selfFirst K C = true)
    (siC : PySem.W.subIn K (.ref C) (.type "int") = some false)
    (sbC : PySem.W.subIn K (.ref C) (.type "bool") = some false)
    (ctC : PySem.W.subIn K (.ref C) (.type "tuple") = some false)
    (tyC : PySem.W.typeIn K (.ref C) = some (.type "type"))
    (apen : PySem.W.nsIn K mainGlobals "_law_pen" = some (some (.ref fpen)))
    (lpen : K.lookup fpen = some ⟨ocpen, odpen, .func (PySem.W.fnOf "_law_pen" "_law_pen" (defArgs sPen) (defBody sPen) (defScope sPen) .none kVpen dcpen pmpen anpen cdpen ctpen), slpen⟩) (cpen : PySem.W.codeIn K cdpen "_law_pen" = true) (kpen : PySem.W.keepIn K (.ref fpen) = true)
    (adraw : PySem.W.nsIn K mainGlobals "_law_draw" = some (some (.ref fdraw)))
    (ldraw : K.lookup fdraw = some ⟨ocdraw, oddraw, .func (PySem.W.fnOf "_law_draw" "_law_draw" (defArgs sDraw) (defBody sDraw) (defScope sDraw) .none kVdraw dcdraw pmdraw andraw cddraw ctdraw), sldraw⟩) (cdraw : PySem.W.codeIn K cddraw "_law_draw" = true) (kdraw : PySem.W.keepIn K (.ref fdraw) = true)
    (apick : PySem.W.nsIn K mainGlobals "_law_pick" = some (some (.ref fpick)))
    (lpick : K.lookup fpick = some ⟨ocpick, odpick, .func (PySem.W.fnOf "_law_pick" "_law_pick" (defArgs sPick) (defBody sPick) (defScope sPick) .none kVpick dcpick pmpick anpick cdpick ctpick), slpick⟩) (cpick : PySem.W.codeIn K cdpick "_law_pick" = true) (kpick : PySem.W.keepIn K (.ref fpick) = true)
    (awords : PySem.W.nsIn K mainGlobals "_law_words" = some (some (.ref fwords)))
    (lwords : K.lookup fwords = some ⟨ocwords, odwords, .func (PySem.W.fnOf "_law_words" "_law_words" (defArgs sWords) (defBody sWords) (defScope sWords) .none kVwords dcwords pmwords anwords cdwords ctwords), slwords⟩) (cwords : PySem.W.codeIn K cdwords "_law_words" = true) (kwords : PySem.W.keepIn K (.ref fwords) = true)
    (aany_value : PySem.W.nsIn K mainGlobals "_law_any_value" = some (some (.ref fany_value)))
    (lany_value : K.lookup fany_value = some ⟨ocany_value, odany_value, .func (PySem.W.fnOf "_law_any_value" "_law_any_value" (defArgs sAnyValue) (defBody sAnyValue) (defScope sAnyValue) .none kVany_value dcany_value pmany_value anany_value cdany_value ctany_value), slany_value⟩) (cany_value : PySem.W.codeIn K cdany_value "_law_any_value" = true) (kany_value : PySem.W.keepIn K (.ref fany_value) = true)
    (alword : PySem.W.nsIn K mainGlobals "_law_is_word" = some (some (.ref flword)))
    (llword : K.lookup flword = some ⟨oclword, odlword, .func (PySem.W.fnOf "_law_is_word" "_law_is_word" (defArgs sLIsWord) (defBody sLIsWord) (defScope sLIsWord) .none kVlword dclword pmlword anlword cdlword ctlword), sllword⟩) (clword : PySem.W.codeIn K cdlword "_law_is_word" = true) (klword : PySem.W.keepIn K (.ref flword) = true)
    (adue : PySem.W.nsIn K mainGlobals "_law_due" = some (some (.ref fdue)))
    (ldue : K.lookup fdue = some ⟨ocdue, oddue, .func (PySem.W.fnOf "_law_due" "_law_due" (defArgs sDue) (defBody sDue) (defScope sDue) .none kVdue dcdue pmdue andue cddue ctdue), sldue⟩) (cdue : PySem.W.codeIn K cddue "_law_due" = true) (kdue : PySem.W.keepIn K (.ref fdue) = true)
    (arefused : PySem.W.nsIn K mainGlobals "_law_refused" = some (some (.ref frefused)))
    (lrefused : K.lookup frefused = some ⟨ocrefused, odrefused, .func (PySem.W.fnOf "_law_refused" "_law_refused" (defArgs sRefused) (defBody sRefused) (defScope sRefused) .none kVrefused dcrefused pmrefused anrefused cdrefused ctrefused), slrefused⟩) (crefused : PySem.W.codeIn K cdrefused "_law_refused" = true) (krefused : PySem.W.keepIn K (.ref frefused) = true)
    (aidx : PySem.W.nsIn K mainGlobals "_law_indexes_right" = some (some (.ref fidx)))
    (lidx : K.lookup fidx = some ⟨ocidx, odidx, .func (PySem.W.fnOf "_law_indexes_right" "_law_indexes_right" (defArgs sIdx) (defBody sIdx) (defScope sIdx) .none kVidx dcidx pmidx anidx (.ref cI) ctidx), slidx⟩) (cidx : PySem.W.codeIn K (.ref cI) "_law_indexes_right" = true) (kidx : PySem.W.keepIn K (.ref fidx) = true)
    (alaw : PySem.W.nsIn K mainGlobals "law" = some (some (.ref flaw)))
    (llaw : K.lookup flaw = some ⟨oclaw, odlaw, .func (PySem.W.fnOf "law" "law" (defArgs sLaw) (defBody sLaw) (defScope sLaw) .none kVlaw dclaw pmlaw anlaw (.ref cL) ctlaw), sllaw⟩) (claw : PySem.W.codeIn K (.ref cL) "law" = true) (klaw : PySem.W.keepIn K (.ref flaw) = true)
    (lcL : K.lookup cL = some ⟨ecL, ddcL, .fields vscL, slcL⟩)
    (hPl : vscL[11]? = some (.ref Pl))
    (lPl : K.lookup Pl = none)
    (lcI : K.lookup cI = some ⟨ecI, ddcI, .fields vscI, slcI⟩)
    (hPi : vscI[11]? = some (.ref Pi))
    (lPi : K.lookup Pi = none)
    (nePP : Pl ≠ Pi) :
    ∃ (fd : FuncData) (ts : List (Addr × Addr)), (∀ p ∈ ts, ∃ nm ∈ (["law", "_law_indexes_right"] : List Str), TabOf K mg nm p.1 p.2) ∧ (∀ (s : Shared) (u : Value), BindsTo s fd ⟨[u], []⟩ [("_law_script", u)]) ∧
      ∀ base : Heap, K.In base → base.Ns mainGlobals mg → (∀ p ∈ ts, LamX.TabB base mg p.1 p.2) → FnQ l.prog w K mg base 9 fa fd ["_law_script"] (spOf K ts) := by
  have e := hfa.symm.trans (PySem.W.mg_of X G alaw)
  cases e
  have B : Blt mg := ⟨PySem.W.mg_none_of X G zisinstance, PySem.W.mg_none_of X G zstr, PySem.W.mg_none_of X G zint, PySem.W.mg_none_of X G zbool, PySem.W.mg_none_of X G zlist, PySem.W.mg_none_of X G ztuple, PySem.W.mg_none_of X G zlen, PySem.W.mg_none_of X G zall, PySem.W.mg_none_of X G zsorted, PySem.W.mg_none_of X G zset, PySem.W.mg_none_of X G zrange, PySem.W.mg_none_of X G zmin, PySem.W.mg_none_of X G zrepr, PySem.W.mg_none_of X G zzip⟩
  have mvE : mg "ValueError" = none := PySem.W.mg_none_of X G zValueError
  have mlE : mg "LookupError" = none := PySem.W.mg_none_of X G zLookupError
  have mN : mg "NotImplemented" = none := PySem.W.mg_none_of X G zNotImplemented
  have T : ATxt K mg C := ⟨⟨pgC, hdC, poC, saC⟩, nC_state, nC_path, nC_key, PySem.W.mg_of X G mC⟩
  have WC : AOwn K C := ⟨icC, pcC, clC, clg, clt, moC, kit_me⟩
  have Fis_word := fun_mk (st := sIsWord) lis_word cis_word kis_word
  have bis_word := Fis_word.binds (ps := ["value"]) fun _ _ _ _ _ _ us hl => match us, hl with | [_], _ => rfl
  have Fare_words := fun_mk (st := sAreWords) lare_words care_words kare_words
  have bare_words := Fare_words.binds (ps := ["value"]) fun _ _ _ _ _ _ us hl => match us, hl with | [_], _ => rfl
  have Fis_integer := fun_mk (st := sIsInteger) lis_integer cis_integer kis_integer
  have bis_integer := Fis_integer.binds (ps := ["value"]) fun _ _ _ _ _ _ us hl => match us, hl with | [_], _ => rfl
  have Fis_index := fun_mk (st := sIsIndex) lis_index cis_index kis_index
  have bis_index := Fis_index.binds (ps := ["value", "many"]) fun _ _ _ _ _ _ us hl => match us, hl with | [_, _], _ => rfl
  have FErr := fun_mk (st := sErrA) lErr cErr kErr
  have bErr := FErr.binds (ps := ["self", "field"]) fun _ _ _ _ _ _ us hl => match us, hl with | [_, _], _ => rfl
  have TErr : ErrC K mg "InvalidAddress" nField CE fErr := ⟨⟨⟨nmErr, qErr, NNErr, bsErr, _, snErr, subErr, abErr, colErr, ddErr, m0Err, m1Err, m2Err, m3Err, m5Err, xErr, by decide +kernel⟩, saErr, exErr, tyErr, kcErr⟩, aErr, tErr, noErr, PySem.W.mg_of X G mCE⟩
  have FFar := fun_mk (st := sErrO) lFar cFar kFar
  have bFar := FFar.binds (ps := ["self", "value"]) fun _ _ _ _ _ _ us hl => match us, hl with | [_, _], _ => rfl
  have TFar : ErrL K mg "OutOfRange" nValue CO fFar := ⟨⟨⟨nmFar, qFar, NNFar, bsFar, snFar, subFar, abFar, colFar, ddFar, m0Far, m1Far, m2Far, m3Far, m5Far, xFar⟩, saFar, exFar, tyFar, kcFar⟩, aFar, tFar, noFar, PySem.W.mg_of X G mCO⟩
  have FaInit : FunD K "__init__" "Address.__init__" (defArgs sAInit) (defBody sAInit) (defScope sAInit) [.ref eA] [] faInit (PySem.W.fnOf "__init__" "Address.__init__" (defArgs sAInit) (defBody sAInit) (defScope sAInit) (.ref TA) kVaInit dcaInit pmaInit anaInit cdaInit ctaInit) :=
    ⟨⟨ocaInit, odaInit, _, kVaInit, dcaInit, pmaInit, anaInit, cdaInit, ctaInit, slaInit, rfl, laInit, caInit, .inr ⟨by simp, TA, _, [Value.ref eA], nTA, rfl, lTA, rfl, .cons rfl .nil⟩, .inl rfl⟩, kaInit⟩
  have baI0 := FaInit.binds1 (ps := ["self", "state", "path"]) 3 1 (by simp) rfl fun TT kV doc pm an cdv ct us its h1 h2 => match us, h1, its, h2 with | [_, _, _], _, [_], _ => ⟨_, rfl, rfl⟩
  obtain ⟨dsA, vdA, baI⟩ := baI0
  cases vdA
  obtain ⟨dsB, vdB, baD⟩ := FaInit.binds1 (ps := ["self", "state", "path"]) 2 0 (by simp) rfl fun TT kV doc pm an cdv ct us its h1 h2 => match us, h1, its, h2 with | [_, _], _, [_], _ => ⟨_, rfl, rfl⟩
  obtain ⟨itsK, bkA⟩ := FaInit.kbindsD (ps := ["self", "state", "path"]) 1 ["path", "state"] (fun us its ws => kwA us ws) (by simp) (fun h1 _ h3 => kwA_vals h1 h3)
    (fun TT kV doc pm an cdv ct us its ws h1 h2 h3 => match us, h1, its, h2, ws, h3 with | [_], _, [_], _, [_, _], _ => ⟨_, rfl, rfl⟩)
  have eE : ∀ H, SqT K H eA [] := fun H => .inr ⟨_, #[], nE, lE, rfl, rfl, Nat.zero_le _, .nil⟩
  have MA : Mk K C faInit := ⟨mkC, baInit, iaInit, kcC⟩
  have FaState := fun_mk (st := sAState) laState caState kaState
  have baState := FaState.binds (ps := ["self"]) fun _ _ _ _ _ _ us hl => match us, hl with | [_], _ => rfl
  have FaPath := fun_mk (st := sAPath) laPath caPath kaPath
  have baPath := FaPath.binds (ps := ["self"]) fun _ _ _ _ _ _ us hl => match us, hl with | [_], _ => rfl
  have FaLen := fun_mk (st := sALen) laLen caLen kaLen
  have baLen := FaLen.binds (ps := ["self"]) fun _ _ _ _ _ _ us hl => match us, hl with | [_], _ => rfl
  have FaItem := fun_mk (st := sAItem) laItem caItem kaItem
  have baItem := FaItem.binds (ps := ["self", "at"]) fun _ _ _ _ _ _ us hl => match us, hl with | [_, _], _ => rfl
  have FaAdd := fun_mk (st := sAAdd) laAdd caAdd kaAdd
  have baAdd := FaAdd.binds (ps := ["self", "other"]) fun _ _ _ _ _ _ us hl => match us, hl with | [_, _], _ => rfl
  have FaRadd := fun_mk (st := sARadd) laRadd caRadd kaRadd
  have baRadd := FaRadd.binds (ps := ["self", "other"]) fun _ _ _ _ _ _ us hl => match us, hl with | [_, _], _ => rfl
  have FaEq := fun_mk (st := sAEq) laEq caEq kaEq
  have baEq := FaEq.binds (ps := ["self", "other"]) fun _ _ _ _ _ _ us hl => match us, hl with | [_, _], _ => rfl
  have stC : PySem.W.subIn K (.type "tuple") (.ref C) = some false := sub_no (T := "tuple") rfl (by decide +kernel)
  have kt : PySem.W.kitOne K (.type "tuple") (.ref C) = some false := kit_no (by intro z; cases (beq_iff_eq.mp z)) icC tyC stC
  have Fpen := fun_mk (st := sPen) lpen cpen kpen
  have bpen := Fpen.binds (ps := ["_law_script"]) fun _ _ _ _ _ _ us hl => match us, hl with | [_], _ => rfl
  have Fdraw := fun_mk (st := sDraw) ldraw cdraw kdraw
  have bdraw := Fdraw.binds (ps := ["_law_pen_here", "_law_many"]) fun _ _ _ _ _ _ us hl => match us, hl with | [_, _], _ => rfl
  have Fpick := fun_mk (st := sPick) lpick cpick kpick
  have bpick := Fpick.binds (ps := ["_law_pen_here", "_law_items"]) fun _ _ _ _ _ _ us hl => match us, hl with | [_, _], _ => rfl
  have Fwords := fun_mk (st := sWords) lwords cwords kwords
  have bwords := Fwords.binds (ps := ["_law_pen_here", "_law_many"]) fun _ _ _ _ _ _ us hl => match us, hl with | [_, _], _ => rfl
  have Fany_value := fun_mk (st := sAnyValue) lany_value cany_value kany_value
  have bany_value := Fany_value.binds (ps := ["_law_pen_here"]) fun _ _ _ _ _ _ us hl => match us, hl with | [_], _ => rfl
  have Flword := fun_mk (st := sLIsWord) llword clword klword
  have blword := Flword.binds (ps := ["_law_value"]) fun _ _ _ _ _ _ us hl => match us, hl with | [_], _ => rfl
  have Fdue := fun_mk (st := sDue) ldue cdue kdue
  have bdue := Fdue.binds (ps := ["_law_home", "_law_track"]) fun _ _ _ _ _ _ us hl => match us, hl with | [_, _], _ => rfl
  have Frefused := fun_mk (st := sRefused) lrefused crefused krefused
  have brefused := Frefused.binds (ps := ["_law_call"]) fun _ _ _ _ _ _ us hl => match us, hl with | [_], _ => rfl
  have FF : RefAt K mg frefused ocrefused odrefused .none kVrefused dcrefused pmrefused anrefused cdrefused ctrefused slrefused := ⟨PySem.W.mg_of X G arefused, krefused, lrefused, crefused, brefused⟩
  have EC : ErrsC K mg CE fErr CO fFar := ⟨TErr, TFar, ⟨gaErr, ggErr, exErr, hdErr⟩, ⟨gaErr, ggErr, exErr, hdErr, clErr, clg, clt, moErr⟩, ⟨gaFar, ggFar, exFar, hdFar⟩, ⟨gaFar, ggFar, exFar, hdFar, clFar, clg, clt, moFar⟩, kit_own sVErr, kit_ownL sVFar, exm_own exErr hdErr tyErr sEErr, PySem.W.exm_ref exErr hdErr tyErr sOA, exm_own exFar hdFar tyFar sEFar, mvE, mlE⟩
  have Fidx := fun_mk (st := sIdx) lidx cidx kidx
  have bidx := Fidx.binds (ps := ["_law_pen_here", "_law_one", "_law_track"]) fun _ _ _ _ _ _ us hl => match us, hl with | [_, _, _], _ => rfl
  have Flaw := fun_mk (st := sLaw) llaw claw klaw
  refine ⟨PySem.W.fnOf "law" "law" (defArgs sLaw) (defBody sLaw) (defScope sLaw) .none kVlaw dclaw pmlaw anlaw (.ref cL) ctlaw, [(cL, Pl), (cI, Pi)], fun p hp => ?_, fun s v => .of_eq rfl, fun base _ _ TB => ?_⟩
  · rcases List.mem_cons.mp hp with rfl | hp
    · exact ⟨"law", List.mem_cons_self .., _, _, _, _, _, _, _, hfa, llaw, rfl, rfl, lcL, hPl, lPl⟩
    · cases List.mem_singleton.mp hp
      exact ⟨"_law_indexes_right", List.mem_cons_of_mem _ (List.mem_singleton.mpr rfl), _, _, _, _, _, _, _, PySem.W.mg_of X G aidx, lidx, rfl, rfl, lcI, hPi, lPi⟩
  have TBL := TB _ (List.mem_cons_self ..)
  have TBI := TB _ (List.mem_cons_of_mem _ (List.mem_singleton.mpr rfl))
  have gis_word := ok_isword (P := l.prog) (w := w) (base := base) Fis_word B (PySem.W.mg_of X G aLETTERS)
  let ois_word := own_mk gis_word (PySem.W.mg_of X G ais_word) kis_word bis_word
  have gare_words := ok_arew Fare_words B ois_word
  let oare_words := own_mk gare_words (PySem.W.mg_of X G aare_words) kare_words bare_words
  have gis_integer := ok_isint (P := l.prog) (w := w) (base := base) Fis_integer B
  let ois_integer := own_mk gis_integer (PySem.W.mg_of X G ais_integer) kis_integer bis_integer
  have gis_index := ok_isindex Fis_index ois_integer
  let ois_index := own_mk gis_index (PySem.W.mg_of X G ais_index) kis_index bis_index
  have gErr := ok_erra (P := l.prog) (w := w) (base := base) FErr TErr
  have gFar := ok_erro (P := l.prog) (w := w) (base := base) FFar TFar
  have gaInit := ok_ainitx FaInit T B TErr gErr bErr ois_word oare_words
  have uaState := ok_astate (P := l.prog) (w := w) (base := base) FaState T
  let oaState := prop_mk aaState gaState taState r_aState uaState baState
  have uaPath := ok_apath (P := l.prog) (w := w) (base := base) FaPath T
  let oaPath := prop_mk aaPath gaPath taPath r_aPath uaPath baPath
  have gaLen := ok_alen (P := l.prog) (w := w) (base := base) FaLen T B
  have gaItem := ok_aitem FaItem T B TFar gFar bFar ois_index
  have gaAdd := ok_aadd FaAdd T B MA gaInit baI
  have gaRadd := ok_aradd FaRadd T B MA gaInit baI
  have gaEq := ok_aeq (P := l.prog) (w := w) (base := base) FaEq T WC B
  have gpen := ok_pen (P := l.prog) (w := w) (base := base) Fpen B.list_
  let open_ := own_mk gpen (PySem.W.mg_of X G apen) kpen bpen
  have gdraw := ok_draw (P := l.prog) (w := w) (base := base) Fdraw B.int_ B.len_
  let odraw := own_mk gdraw (PySem.W.mg_of X G adraw) kdraw bdraw
  have gpick := ok_pick Fpick gdraw ⟨PySem.W.mg_of X G adraw, kdraw⟩ bdraw B.len_
  let opick := own_mk gpick (PySem.W.mg_of X G apick) kpick bpick
  have gwords := ok_words Fwords gdraw ⟨PySem.W.mg_of X G adraw, kdraw⟩ bdraw gpick ⟨PySem.W.mg_of X G apick, kpick⟩ bpick B.len_ B.range_ B.int_
  let owords := own_mk gwords (PySem.W.mg_of X G awords) kwords bwords
  have gany_value := ok_any Fany_value opick
  let oany_value := own_mk gany_value (PySem.W.mg_of X G aany_value) kany_value bany_value
  have glword := ok_lword (P := l.prog) (w := w) (base := base) Flword B
  let olword := own_mk glword (PySem.W.mg_of X G alword) klword blword
  have gdue := ok_due Fdue B olword
  let odue := own_mk gdue (PySem.W.mg_of X G adue) kdue bdue
  let KA : AKit l.prog w K mg base C CE CO faInit eA _ dsB _ := {
    T := T
    MI := MA
    GI := gaInit
    bI := baI
    bD := baD
    vD := vdB
    eE := eE
    bk := bkA
    state := oaState
    path := oaPath
    len := ⟨_, _, aaLen, iaLen, fiaLen, gaLen, baLen⟩
    item := ⟨_, _, aaItem, iaItem, fiaItem, gaItem, baItem⟩
    add := ⟨_, _, aaAdd, iaAdd, fiaAdd, gaAdd, baAdd⟩
    radd := ⟨_, _, aaRadd, iaRadd, fiaRadd, gaRadd, baRadd⟩
    eq := ⟨_, _, aaEq, iaEq, fiaEq, gaEq, baEq⟩
    eqN := aeq_not FaEq T kt B mN baEq
    ne := neC
    ob := obC
    O := ⟨sfC, aaAdd, iaAdd, .inr ⟨_, aaRadd⟩⟩
    si := siC
    sb := sbC
    sT := stC
    tT := ctC }
  have gI := ok_idx (Pl := Pl) ⟨_, _, _, _, _, _, _, _, rfl, lidx, cidx⟩ B opick KA.item EC FF TBI nePP
  exact q_law ⟨_, _, _, _, _, _, _, _, rfl, llaw, claw⟩ B open_ odraw opick owords oany_value olword odue KA EC FF TBL nePP gI (PySem.W.mg_of X G aidx) kidx bidx
theorem walk {l : PySem.W.OpenLaw} {q : Program} {loose : List Str} {XP : (Str → Option Value) → Heap → Prop} {YP : World → Heap → Prop} {d : DefRec} {K : Params → PySem.W.Frag} (hn : l.most = some 63) (hdf : d.params.defaults = []) (recs : ∀ nm ∈ (["law", "_law_indexes_right"] : List Str), ((PyProof.Rows.recsOf q).any fun e => e.name == nm) = true)
    (hY : ∀ (w : World) (h : Heap), YP w h → (K w.params).In h)
    (F : ∀ (w : World) (mg : Str → Option Value) (fa : Addr) (h : Heap), (K w.params).In h → h.Ns mainGlobals mg → mg d.name = some (.ref fa) →
      ∃ (fd : FuncData) (ts : List (Addr × Addr)), (∀ p ∈ ts, ∃ nm ∈ (["law", "_law_indexes_right"] : List Str), TabOf (K w.params) mg nm p.1 p.2) ∧ (∀ (s : Shared) (u : Value), BindsTo s fd ⟨[u], []⟩ [("_law_script", u)]) ∧
        ∀ base : Heap, (K w.params).In base → base.Ns mainGlobals mg → (∀ p ∈ ts, LamX.TabB base mg p.1 p.2) → FnQ l.prog w (K w.params) mg base 9 fa fd ["_law_script"] (spOf (K w.params) ts)) :
    PySem.W.WalkO q loose XP YP l.row.toRowW d [] (fun f vs => PySem.call f vs) :=
  walk_tabs (most := 63) (n := 9) (x := "_law_script") (sp := fun ts w => spOf (K w.params) ts) hn (by decide) hdf ⟨rfl, by decide, by decide⟩ recs hY F fun w H a ts ns hl hS hP => by
    match ts, hP with
    | [p, q], hP => exact ⟨a, ns, rfl, hS, hl, hP _ (List.mem_cons_self ..), hP _ (List.mem_cons_of_mem _ (List.mem_singleton.mpr rfl)), fun _ => rfl⟩
    | [], _ => exact trivial
    | [_], _ => exact trivial
    | _ :: _ :: _ :: _, _ => exact trivial
end RL

open PySem PySem.W PyProof.Rows
set_option maxRecDepth 100000 in
set_option maxHeartbeats 0 in
theorem PySem.Challenge.cw_sentonward_k01_addresses_made_holds : PySem.Challenge.rw_sentonward_k01_addresses_made.Holds := by
  w_on; o_law; k_head; (case hw => w_witness2)
  k_fill
  refine RL.walk (l := PySem.Challenge.rw_sentonward_k01_addresses_made) rfl rfl (by decide +kernel) (fun w h Y => PySem.W.km_in_of Y) ?F
  case F =>
    intro w mg fa h KX G hmg
    refine' RL.all_mk KX G hmg ?zisinstance ?zstr ?zint ?zbool ?zlist ?ztuple ?zlen ?zall ?zsorted ?zset ?zrange ?zmin ?zrepr ?zzip ?zValueError ?zLookupError ?zNotImplemented ?aLETTERS ?mC ?pgC ?hdC ?poC ?saC ?mkC ?kcC ?nC_state ?nC_path ?nC_key ?icC ?pcC ?clC ?moC ?clg ?clt ?ais_word ?lis_word ?cis_word ?kis_word ?aare_words ?lare_words ?care_words ?kare_words ?ais_integer ?lis_integer ?cis_integer ?kis_integer ?ais_index ?lis_index ?cis_index ?kis_index ?mCE ?xErr ?saErr ?exErr ?tyErr ?kcErr ?aErr ?tErr ?lErr ?cErr ?kErr ?noErr ?gaErr ?ggErr ?hdErr ?clErr ?moErr ?sVErr ?sEErr ?mCO ?xFar ?saFar ?exFar ?tyFar ?kcFar ?aFar ?tFar ?lFar ?cFar ?kFar ?noFar ?gaFar ?ggFar ?hdFar ?clFar ?moFar ?sVFar ?sEFar ?sOA ?baInit ?iaInit ?laInit ?caInit ?kaInit ?lTA ?lE ?aaState ?gaState ?taState ?r_aState ?laState ?caState ?kaState ?aaPath ?gaPath ?taPath ?r_aPath ?laPath ?caPath ?kaPath ?aaLen ?iaLen ?fiaLen ?laLen ?caLen ?kaLen ?aaItem ?iaItem ?fiaItem ?laItem ?caItem ?kaItem ?aaAdd ?iaAdd ?fiaAdd ?laAdd ?caAdd ?kaAdd ?aaRadd ?iaRadd ?fiaRadd ?laRadd ?caRadd ?kaRadd ?aaEq ?iaEq ?fiaEq ?laEq ?caEq ?kaEq ?neC ?obC ?sfC ?siC ?sbC ?ctC ?tyC ?apen ?lpen ?cpen ?kpen ?adraw ?ldraw ?cdraw ?kdraw ?apick ?lpick ?cpick ?kpick ?awords ?lwords ?cwords ?kwords ?aany_value ?lany_value ?cany_value ?kany_value ?alword ?llword ?clword ?klword ?adue ?ldue ?cdue ?kdue ?arefused ?lrefused ?crefused ?krefused ?aidx ?lidx ?cidx ?kidx ?alaw ?llaw ?claw ?klaw ?lcL ?hPl ?lPl ?lcI ?hPi ?lPi ?nePP
    (case zisinstance => k_is)
    (case zstr => k_is)
    (case zint => k_is)
    (case zbool => k_is)
    (case zlist => k_is)
    (case ztuple => k_is)
    (case zlen => k_is)
    (case zall => k_is)
    (case zsorted => k_is)
    (case zset => k_is)
    (case zrange => k_is)
    (case zmin => k_is)
    (case zrepr => k_is)
    (case zzip => k_is)
    (case zValueError => k_is)
    (case zLookupError => k_is)
    (case zNotImplemented => k_is)
    (case aLETTERS => k_is)
    (case mC => k_is)
    (case pgC => k_is)
    (case hdC => k_is)
    (case poC => k_is)
    (case saC => k_is)
    (case mkC => k_is)
    (case kcC => k_is)
    (case nC_state => k_is)
    (case nC_path => k_is)
    (case nC_key => k_is)
    (case icC => k_is)
    (case pcC => k_is)
    (case clC => k_is)
    (case moC => k_is)
    (case clg => k_is)
    (case clt => k_is)
    (case ais_word => k_is)
    (case lis_word => k_is)
    (case cis_word => k_is)
    (case kis_word => k_is)
    (case aare_words => k_is)
    (case lare_words => k_is)
    (case care_words => k_is)
    (case kare_words => k_is)
    (case ais_integer => k_is)
    (case lis_integer => k_is)
    (case cis_integer => k_is)
    (case kis_integer => k_is)
    (case ais_index => k_is)
    (case lis_index => k_is)
    (case cis_index => k_is)
    (case kis_index => k_is)
    (case mCE => k_is)
    (case xErr => k_is)
    (case saErr => k_is)
    (case exErr => k_is)
    (case tyErr => k_is)
    (case kcErr => k_is)
    (case aErr => k_is)
    (case tErr => k_is)
    (case lErr => k_is)
    (case cErr => k_is)
    (case kErr => k_is)
    (case noErr => k_is)
    (case gaErr => k_is)
    (case ggErr => k_is)
    (case hdErr => k_is)
    (case clErr => k_is)
    (case moErr => k_is)
    (case sVErr => k_is)
    (case sEErr => k_is)
    (case mCO => k_is)
    (case xFar => k_is)
    (case saFar => k_is)
    (case exFar => k_is)
    (case tyFar => k_is)
    (case kcFar => k_is)
    (case aFar => k_is)
    (case tFar => k_is)
    (case lFar => k_is)
    (case cFar => k_is)
    (case kFar => k_is)
    (case noFar => k_is)
    (case gaFar => k_is)
    (case ggFar => k_is)
    (case hdFar => k_is)
    (case clFar => k_is)
    (case moFar => k_is)
    (case sVFar => k_is)
    (case sEFar => k_is)
    (case sOA => k_is)
    (case baInit => k_is)
    (case iaInit => k_is)
    (case laInit => k_is)
    (case caInit => k_is)
    (case kaInit => k_is)
    (case lTA => k_is)
    (case lE => k_is)
    (case aaState => k_is)
    (case gaState => k_is)
    (case taState => k_is)
    (case r_aState => k_is)
    (case laState => k_is)
    (case caState => k_is)
    (case kaState => k_is)
    (case aaPath => k_is)
    (case gaPath => k_is)
    (case taPath => k_is)
    (case r_aPath => k_is)
    (case laPath => k_is)
    (case caPath => k_is)
    (case kaPath => k_is)
    (case aaLen => k_is)
    (case iaLen => k_is)
    (case fiaLen => k_is)
    (case laLen => k_is)
    (case caLen => k_is)
    (case kaLen => k_is)
    (case aaItem => k_is)
    (case iaItem => k_is)
    (case fiaItem => k_is)
    (case laItem => k_is)
    (case caItem => k_is)
    (case kaItem => k_is)
    (case aaAdd => k_is)
    (case iaAdd => k_is)
    (case fiaAdd => k_is)
    (case laAdd => k_is)
    (case caAdd => k_is)
    (case kaAdd => k_is)
    (case aaRadd => k_is)
    (case iaRadd => k_is)
    (case fiaRadd => k_is)
    (case laRadd => k_is)
    (case caRadd => k_is)
    (case kaRadd => k_is)
    (case aaEq => k_is)
    (case iaEq => k_is)
    (case fiaEq => k_is)
    (case laEq => k_is)
    (case caEq => k_is)
    (case kaEq => k_is)
    (case neC => k_is)
    (case obC => k_is)
    (case sfC => k_is)
    (case siC => k_is)
    (case sbC => k_is)
    (case ctC => k_is)
    (case tyC => k_is)
    (case apen => k_is)
    (case lpen => k_is)
    (case cpen => k_is)
    (case kpen => k_is)
    (case adraw => k_is)
    (case ldraw => k_is)
    (case cdraw => k_is)
    (case kdraw => k_is)
    (case apick => k_is)
    (case lpick => k_is)
    (case cpick => k_is)
    (case kpick => k_is)
    (case awords => k_is)
    (case lwords => k_is)
    (case cwords => k_is)
    (case kwords => k_is)
    (case aany_value => k_is)
    (case lany_value => k_is)
    (case cany_value => k_is)
    (case kany_value => k_is)
    (case alword => k_is)
    (case llword => k_is)
    (case clword => k_is)
    (case klword => k_is)
    (case adue => k_is)
    (case ldue => k_is)
    (case cdue => k_is)
    (case kdue => k_is)
    (case arefused => k_is)
    (case lrefused => k_is)
    (case crefused => k_is)
    (case krefused => k_is)
    (case aidx => k_is)
    (case lidx => k_is)
    (case cidx => k_is)
    (case kidx => k_is)
    (case alaw => k_is)
    (case llaw => k_is)
    (case claw => k_is)
    (case klaw => k_is)
    (case lcL => k_is)
    (case hPl => first | rfl | decide +kernel | k_is)
    (case lPl => first | rfl | decide +kernel | k_is)
    (case lcI => k_is)
    (case hPi => first | rfl | decide +kernel | k_is)
    (case lPi => first | rfl | decide +kernel | k_is)
    (case nePP => first | decide | decide +kernel)

