import PyProof.Rows.All
import Wide.All
import OpenK.AllK
import Wide.FinOn
import HandS.ForMost
import HandS.ForExc
import HandS.ExcInit
import HandS.ExcField
import HandS.ClsMeth
import HandS.Property
import HandS.Defaults
import HandS.IsInst
import HandS.ExcIs
import HandS.StrMore
import HandS.Codes
import HandS.OwnEq
import HandS.Ends
import HandS.Words
import KE.DatumMoreOrd
import HandS.SlotsOwn
import PyProof.EqAt
import PyProof.EqKinds
import PyProof.TupleCall
import PyProof.Rows.SortShellAny
import HandS.Base
import HandS.Call
import HandS.List
import HandS.Set
import HandS.SetFor
import HandS.TupAny
import HandS.TupLen
import KE.KDictCopyH
import HandS.MakeKw
import HandS.MakeKwOnly
import HandS.Walk
import HandS.DictComp
import PyProof.NeKinds
import HandS.Flow
import HandS.Small
import HandS.Star
import HandS.Zip
import HandS.SetKeys
import HandS.FStr
import HandS.WrittenGet
import HandS.Style
import HandS.RaiseMore
import HandS.Iter
import KE.GoesEnum
import KE.KExcInit
import PyProof.ExcBaseAll.OverflowError
import PyProof.P3Eq
import HandS.ListEq
import HandS.Conv
import HandS.TryOnly
import PySem.Challenge.RW_sentonward_k18_rows_listed
set_option Elab.async false
set_option linter.all false
set_option maxRecDepth 100000
set_option maxHeartbeats 8000000
namespace AddrMath
/-- a letter from a to z -/
def isL (c : Nat) : Bool := decide (97 ≤ c) && decide (c ≤ 122)
/-- a word -/
def isW (l : List Nat) : Bool := decide (1 ≤ l.length) && (decide (l.length ≤ 8) && l.all isL)
theorem isW_iff {l : List Nat} : isW l = true ↔ 1 ≤ l.length ∧ l.length ≤ 8 ∧ ∀ c ∈ l, isL c = true := by
  unfold isW
  rw [Bool.and_eq_true, Bool.and_eq_true, decide_eq_true_eq, decide_eq_true_eq, List.all_eq_true]
theorem isL_ne {c d : Nat} (h : isL c = true) (hd : d < 97) : c ≠ d := by
  unfold isL at h
  rw [Bool.and_eq_true, decide_eq_true_eq, decide_eq_true_eq] at h
  omega
/-- cut at each d -/
def sp (d : Nat) : List Nat → List (List Nat)
  | [] => [[]]
  | c :: r => if c = d then [] :: sp d r else match sp d r with
    | [] => [[c]]
    | p :: q => (c :: p) :: q
theorem sp_ne (d : Nat) : ∀ l, sp d l ≠ []
  | [] => by simp [sp]
  | c :: r => by
    unfold sp
    split
    · simp
    · split <;> simp
theorem sp_hit (d : Nat) (r : List Nat) : sp d (d :: r) = [] :: sp d r := by
  show (if d = d then [] :: sp d r else _) = _
  rw [if_pos rfl]
/-- the first piece and the others -/
theorem sp_cons (d : Nat) (l : List Nat) : ∃ p q, sp d l = p :: q := by
  cases h : sp d l with
  | nil => exact absurd h (sp_ne d l)
  | cons p q => exact ⟨p, q, rfl⟩
theorem sp_miss {d c : Nat} {r p : List Nat} {q : List (List Nat)} (hc : c ≠ d) (h : sp d r = p :: q) : sp d (c :: r) = (c :: p) :: q := by
  show (if c = d then [] :: sp d r else match sp d r with | [] => [[c]] | p :: q => (c :: p) :: q) = _
  rw [if_neg hc, h]
theorem sp_pre {d : Nat} : ∀ {a r p : List Nat} {q : List (List Nat)}, d ∉ a → sp d r = p :: q → sp d (a ++ r) = (a ++ p) :: q
  | [], _, _, _, _, h => h
  | c :: a, r, p, q, ha, h => by
    have h1 : c ≠ d := fun e => ha (by rw [e]; exact List.mem_cons_self ..)
    have h2 : d ∉ a := fun e => ha (List.mem_cons_of_mem _ e)
    exact sp_miss h1 (sp_pre h2 h)
theorem sp_free {d : Nat} {a : List Nat} (h : d ∉ a) : sp d a = [a] := by
  have e := sp_pre (r := []) (p := []) (q := []) h (by rfl)
  rw [List.append_nil] at e
  exact e
theorem sp_at {d : Nat} {a r : List Nat} (h : d ∉ a) : sp d (a ++ d :: r) = a :: sp d r := by
  have e := sp_pre (r := d :: r) (p := []) (q := sp d r) h (sp_hit d r)
  rw [List.append_nil] at e
  exact e
/-! ### the law's own look -/
/-- the pieces behind the first one: words, the last one may be empty -/
def segs : List (List Nat) → Bool
  | [] => false
  | [p] => decide (p = []) || isW p
  | p :: q :: r => isW p && segs (q :: r)
def tailOk (b : List Nat) : Bool := match sp 47 b with
  | [] => false
  | p :: q => decide (p = []) && segs q
def cb (l : List Nat) : Bool := match sp 58 l with
  | [a] => decide (a = []) || isW a
  | [a, b] => isW a && (decide (b = []) || tailOk b)
  | _ => false
/-! ### sign by sign -/
def cC : Nat → List Nat → Bool
  | _, [] => true
  | k, c :: r => if isL c = true then decide (k < 8) && cC (k + 1) r else if c = 47 then decide (1 ≤ k) && cC 0 r else false
def cB : List Nat → Bool
  | [] => true
  | c :: r => if c = 47 then cC 0 r else false
def cA : Nat → List Nat → Bool
  | _, [] => true
  | k, c :: r => if isL c = true then decide (k < 8) && cA (k + 1) r else if c = 58 then decide (1 ≤ k) && cB r else false
theorem isW_long {p : List Nat} (h : 8 < p.length) : isW p = false := by
  cases e : isW p with
  | false => rfl
  | true =>
    have := isW_iff.mp e
    omega
theorem isW_bad {p : List Nat} {c : Nat} (h : c ∈ p) (hc : isL c = false) : isW p = false := by
  cases e : isW p with
  | false => rfl
  | true =>
    have := (isW_iff.mp e).2.2 c h
    rw [hc] at this
    cases this
theorem segs_bad {p : List Nat} {q : List (List Nat)} (h : isW p = false) (hp : p ≠ []) : segs (p :: q) = false := by
  cases q with
  | nil => simp [segs, h, hp]
  | cons a q => simp [segs, h]
theorem isW_mk {a : List Nat} (h8 : a.length ≤ 8) (hl : ∀ c ∈ a, isL c = true) : isW a = decide (1 ≤ a.length) := by
  by_cases h : 1 ≤ a.length
  · rw [decide_eq_true h]
    exact isW_iff.mpr ⟨h, h8, hl⟩
  · rw [decide_eq_false h]
    cases e : isW a with
    | false => rfl
    | true => exact absurd (isW_iff.mp e).1 h
theorem all_snoc {a : List Nat} {c : Nat} (hl : ∀ x ∈ a, isL x = true) (hc : isL c = true) : ∀ x ∈ a ++ [c], isL x = true := by
  intro x hx
  rcases List.mem_append.mp hx with h | h
  · exact hl x h
  · rw [List.mem_singleton.mp h]
    exact hc
theorem no_of {a : List Nat} {d : Nat} (hd : d < 97) (hl : ∀ x ∈ a, isL x = true) : d ∉ a := fun h => isL_ne (hl d h) hd rfl
theorem cC_segs : ∀ (l a : List Nat), a.length ≤ 8 → (∀ c ∈ a, isL c = true) → segs (sp 47 (a ++ l)) = cC a.length l
  | [], a, h8, hl => by
    rw [List.append_nil, sp_free (no_of (by decide) hl)]
    show (decide (a = []) || isW a) = true
    rw [isW_mk h8 hl]
    cases a <;> simp
  | c :: r, a, h8, hl => by
    have h47 := no_of (d := 47) (by decide) hl
    show _ = (if isL c = true then decide (a.length < 8) && cC (a.length + 1) r else if c = 47 then decide (1 ≤ a.length) && cC 0 r else false)
    by_cases hc : isL c = true
    · rw [if_pos hc]
      have hne : c ≠ 47 := isL_ne hc (by decide)
      by_cases hk : a.length < 8
      · have ih := cC_segs r (a ++ [c]) (by rw [List.length_append]; exact hk) (all_snoc hl hc)
        rw [List.append_assoc] at ih
        rw [decide_eq_true hk, Bool.true_and]
        have e : (a ++ [c]).length = a.length + 1 := by simp
        rw [e] at ih
        exact ih
      · rw [decide_eq_false hk, Bool.false_and]
        obtain ⟨p, q, hp⟩ := sp_cons 47 r
        rw [sp_pre h47 (sp_miss hne hp)]
        refine segs_bad (isW_long ?_) (by simp)
        rw [List.length_append, List.length_cons]
        omega
    · rw [if_neg hc]
      by_cases he : c = 47
      · rw [if_pos he, he, sp_at h47]
        obtain ⟨p, q, hp⟩ := sp_cons 47 r
        have ih := cC_segs r [] (by simp) (fun x hx => by cases hx)
        rw [List.nil_append] at ih
        rw [show cC 0 r = cC ([] : List Nat).length r from rfl, ← ih, hp, ← isW_mk h8 hl]
        rfl
      · rw [if_neg he]
        obtain ⟨p, q, hp⟩ := sp_cons 47 r
        rw [sp_pre h47 (sp_miss he hp)]
        exact segs_bad (isW_bad (c := c) (by simp) (by simpa using hc)) (by simp)
/-- behind the colon -/
theorem cB_tail (b : List Nat) : (decide (b = []) || tailOk b) = cB b := by
  cases b with
  | nil => rfl
  | cons c r =>
    show (decide (c :: r = []) || tailOk (c :: r)) = (if c = 47 then cC 0 r else false)
    rw [decide_eq_false (by simp), Bool.false_or]
    by_cases hc : c = 47
    · rw [if_pos hc, hc]
      unfold tailOk
      rw [sp_hit]
      show (decide (([] : List Nat) = []) && segs (sp 47 r)) = _
      rw [decide_eq_true rfl, Bool.true_and]
      exact cC_segs r [] (by simp) (fun x hx => by cases hx)
    · rw [if_neg hc]
      unfold tailOk
      obtain ⟨p, q, hp⟩ := sp_cons 47 r
      rw [sp_miss hc hp]
      show (decide (c :: p = []) && segs q) = false
      rw [decide_eq_false (by simp), Bool.false_and]
theorem cC_58 : ∀ (k : Nat) (r : List Nat), 58 ∈ r → cC k r = false
  | _, [], h => by cases h
  | k, c :: r, h => by
    show (if isL c = true then decide (k < 8) && cC (k + 1) r else if c = 47 then decide (1 ≤ k) && cC 0 r else false) = false
    by_cases hc : isL c = true
    · rw [if_pos hc]
      have hm : 58 ∈ r := by
        rcases List.mem_cons.mp h with e | e
        · exact absurd e.symm (isL_ne hc (by decide))
        · exact e
      rw [cC_58 (k + 1) r hm, Bool.and_false]
    · rw [if_neg hc]
      by_cases he : c = 47
      · rw [if_pos he]
        have hm : 58 ∈ r := by
          rcases List.mem_cons.mp h with e | e
          · omega
          · exact e
        rw [cC_58 0 r hm, Bool.and_false]
      · rw [if_neg he]
theorem cB_58 {r : List Nat} (h : 58 ∈ r) : cB r = false := by
  cases r with
  | nil => cases h
  | cons c r =>
    show (if c = 47 then cC 0 r else false) = false
    by_cases hc : c = 47
    · rw [if_pos hc]
      refine cC_58 0 r ?_
      rcases List.mem_cons.mp h with e | e
      · omega
      · exact e
    · rw [if_neg hc]
theorem sp_two {d : Nat} : ∀ {r : List Nat}, d ∈ r → ∃ p q s, sp d r = p :: q :: s
  | [], h => by cases h
  | c :: r, h => by
    by_cases hc : c = d
    · rw [hc, sp_hit]
      obtain ⟨p, q, e⟩ := sp_cons d r
      exact ⟨[], p, q, by rw [e]⟩
    · have hm : d ∈ r := by
        rcases List.mem_cons.mp h with e | e
        · exact absurd e.symm hc
        · exact e
      obtain ⟨p, q, s, e⟩ := sp_two hm
      exact ⟨c :: p, q, s, sp_miss hc e⟩
theorem cb_bad {p : List Nat} {q : List (List Nat)} {l : List Nat} (e : sp 58 l = p :: q) (h : isW p = false) (hp : p ≠ []) : cb l = false := by
  unfold cb
  rw [e]
  match q with
  | [] => simp [h, hp]
  | [b] => simp [h]
  | _ :: _ :: _ => rfl
theorem cA_cb : ∀ (l a : List Nat), a.length ≤ 8 → (∀ c ∈ a, isL c = true) → cb (a ++ l) = cA a.length l
  | [], a, h8, hl => by
    unfold cb
    rw [List.append_nil, sp_free (no_of (by decide) hl)]
    show (decide (a = []) || isW a) = true
    rw [isW_mk h8 hl]
    cases a <;> simp
  | c :: r, a, h8, hl => by
    have h58 := no_of (d := 58) (by decide) hl
    show _ = (if isL c = true then decide (a.length < 8) && cA (a.length + 1) r else if c = 58 then decide (1 ≤ a.length) && cB r else false)
    by_cases hc : isL c = true
    · rw [if_pos hc]
      have hne : c ≠ 58 := isL_ne hc (by decide)
      by_cases hk : a.length < 8
      · have ih := cA_cb r (a ++ [c]) (by rw [List.length_append]; exact hk) (all_snoc hl hc)
        rw [List.append_assoc] at ih
        rw [decide_eq_true hk, Bool.true_and]
        have e : (a ++ [c]).length = a.length + 1 := by simp
        rw [e] at ih
        exact ih
      · rw [decide_eq_false hk, Bool.false_and]
        obtain ⟨p, q, hp⟩ := sp_cons 58 r
        refine cb_bad (sp_pre h58 (sp_miss hne hp)) (isW_long ?_) (by simp)
        rw [List.length_append, List.length_cons]
        omega
    · rw [if_neg hc]
      by_cases he : c = 58
      · rw [if_pos he, he, ← isW_mk h8 hl]
        by_cases hm : 58 ∈ r
        · obtain ⟨p, q, s, e⟩ := sp_two hm
          rw [cB_58 hm, Bool.and_false]
          unfold cb
          rw [sp_at h58, e]
        · unfold cb
          rw [sp_at h58, sp_free hm, ← cB_tail]
      · rw [if_neg he]
        obtain ⟨p, q, hp⟩ := sp_cons 58 r
        exact cb_bad (sp_pre h58 (sp_miss he hp)) (isW_bad (c := c) (by simp) (by simpa using hc)) (by simp)
theorem cb_cA (l : List Nat) : cb l = cA 0 l := by
  have e := cA_cb l [] (by simp) (fun x hx => by cases hx)
  rw [List.nil_append] at e
  exact e
/-! ### how far it goes -/
def lC : Nat → List Nat → Nat
  | _, [] => 0
  | k, c :: r => if isL c = true then (if k < 8 then lC (k + 1) r + 1 else 0) else if c = 47 then (if 1 ≤ k then lC 0 r + 1 else 0) else 0
def lB : List Nat → Nat
  | [] => 0
  | c :: r => if c = 47 then lC 0 r + 1 else 0
def lA : Nat → List Nat → Nat
  | _, [] => 0
  | k, c :: r => if isL c = true then (if k < 8 then lA (k + 1) r + 1 else 0) else if c = 58 then (if 1 ≤ k then lB r + 1 else 0) else 0
theorem lB_cons (c : Nat) (r : List Nat) : lB (c :: r) = if c = 47 then lC 0 r + 1 else 0 := rfl
theorem cB_cons (c : Nat) (r : List Nat) : cB (c :: r) = if c = 47 then cC 0 r else false := rfl
theorem cC_take : ∀ (l : List Nat) (k j : Nat), j ≤ l.length → cC k (l.take j) = decide (j ≤ lC k l)
  | [], k, j, h => by
    have e : j = 0 := by simpa using h
    subst e
    rfl
  | c :: r, k, 0, _ => by simp [cC]
  | c :: r, k, j + 1, h => by
    have hj : j ≤ r.length := by simpa using h
    rw [List.take_succ_cons]
    unfold cC lC
    by_cases hc : isL c = true
    · rw [if_pos hc, if_pos hc]
      by_cases hk : k < 8
      · rw [if_pos hk, decide_eq_true hk, Bool.true_and, cC_take r (k + 1) j hj]
        simp
      · rw [if_neg hk, decide_eq_false hk, Bool.false_and]
        simp
    · rw [if_neg hc, if_neg hc]
      by_cases he : c = 47
      · rw [if_pos he, if_pos he]
        by_cases hk : 1 ≤ k
        · rw [if_pos hk, decide_eq_true hk, Bool.true_and, cC_take r 0 j hj]
          simp
        · rw [if_neg hk, decide_eq_false hk, Bool.false_and]
          simp
      · rw [if_neg he, if_neg he]
        simp
theorem cB_take (l : List Nat) (j : Nat) (h : j ≤ l.length) : cB (l.take j) = decide (j ≤ lB l) := by
  cases l with
  | nil =>
    have e : j = 0 := by simpa using h
    subst e
    rfl
  | cons c r =>
    cases j with
    | zero => simp [cB]
    | succ j =>
      have hj : j ≤ r.length := by simpa using h
      rw [List.take_succ_cons, cB_cons, lB_cons]
      by_cases he : c = 47
      · rw [if_pos he, if_pos he, cC_take r 0 j hj]
        simp
      · rw [if_neg he, if_neg he]
        simp
theorem cA_take : ∀ (l : List Nat) (k j : Nat), j ≤ l.length → cA k (l.take j) = decide (j ≤ lA k l)
  | [], k, j, h => by
    have e : j = 0 := by simpa using h
    subst e
    rfl
  | c :: r, k, 0, _ => by simp [cA]
  | c :: r, k, j + 1, h => by
    have hj : j ≤ r.length := by simpa using h
    rw [List.take_succ_cons]
    unfold cA lA
    by_cases hc : isL c = true
    · rw [if_pos hc, if_pos hc]
      by_cases hk : k < 8
      · rw [if_pos hk, decide_eq_true hk, Bool.true_and, cA_take r (k + 1) j hj]
        simp
      · rw [if_neg hk, decide_eq_false hk, Bool.false_and]
        simp
    · rw [if_neg hc, if_neg hc]
      by_cases he : c = 58
      · rw [if_pos he, if_pos he]
        by_cases hk : 1 ≤ k
        · rw [if_pos hk, decide_eq_true hk, Bool.true_and, cB_take r j hj]
          simp
        · rw [if_neg hk, decide_eq_false hk, Bool.false_and]
          simp
      · rw [if_neg he, if_neg he]
        simp
theorem lC_le : ∀ (l : List Nat) (k : Nat), lC k l ≤ l.length
  | [], _ => Nat.le_refl _
  | c :: r, k => by
    have i1 := lC_le r (k + 1)
    have i2 := lC_le r 0
    unfold lC
    rw [List.length_cons]
    repeat' split
    all_goals omega
theorem lB_le (l : List Nat) : lB l ≤ l.length := by
  cases l with
  | nil => exact Nat.le_refl _
  | cons c r =>
    have i2 := lC_le r 0
    rw [lB_cons, List.length_cons]
    split <;> omega
theorem lA_le : ∀ (l : List Nat) (k : Nat), lA k l ≤ l.length
  | [], _ => Nat.le_refl _
  | c :: r, k => by
    have i1 := lA_le r (k + 1)
    have i2 := lB_le r
    unfold lA
    rw [List.length_cons]
    repeat' split
    all_goals omega
/-- the longest beginning with which some text begins -/
theorem cb_take (l : List Nat) (j : Nat) (h : j ≤ l.length) : cb (l.take j) = decide (j ≤ lA 0 l) := by
  rw [cb_cA]
  exact cA_take l 0 j h
/-! ### the program's reader -/
/-- letters that are read on from k ones -/
def run : Nat → List Nat → Nat
  | _, [] => 0
  | k, c :: r => if k < 8 ∧ isL c = true then run (k + 1) r + 1 else 0
theorem run_le : ∀ (l : List Nat) (k : Nat), run k l ≤ l.length
  | [], _ => Nat.le_refl _
  | c :: r, k => by
    have := run_le r (k + 1)
    unfold run
    rw [List.length_cons]
    split <;> omega
theorem run_8 : ∀ (l : List Nat) (k : Nat), k ≤ 8 → k + run k l ≤ 8
  | [], k, h => h
  | c :: r, k, h => by
    unfold run
    split
    · rename_i hh
      have := run_8 r (k + 1) (by omega)
      omega
    · omega
theorem run_all : ∀ (l : List Nat) (k : Nat), ∀ c ∈ l.take (run k l), isL c = true
  | [], k, c, h => by simp [run] at h
  | d :: r, k, c, h => by
    unfold run at h
    split at h
    · rename_i hh
      rw [List.take_succ_cons] at h
      rcases List.mem_cons.mp h with e | e
      · rw [e]
        exact hh.2
      · exact run_all r (k + 1) c e
    · simp at h
theorem lC_run : ∀ (l : List Nat) (k : Nat), k ≤ 8 → lC k l = run k l + (if 1 ≤ k + run k l then lB (l.drop (run k l)) else 0)
  | [], k, _ => by
    simp [lC, run, lB]
  | c :: r, k, hk8 => by
    unfold lC run
    by_cases hc : isL c = true
    · by_cases hk : k < 8
      · rw [if_pos hc, if_pos hk, if_pos ⟨hk, hc⟩, lC_run r (k + 1) (by omega), List.drop_succ_cons]
        have e1 : 1 ≤ k + 1 + run (k + 1) r := by omega
        have e2 : 1 ≤ k + (run (k + 1) r + 1) := by omega
        rw [if_pos e1, if_pos e2]
        omega
      · have hn : ¬ (k < 8 ∧ isL c = true) := fun h => hk h.1
        rw [if_pos hc, if_neg hk, if_neg hn, List.drop_zero]
        have e : lB (c :: r) = 0 := by
          rw [lB_cons, if_neg (isL_ne hc (by decide))]
        rw [e]
        split <;> rfl
    · have hn : ¬ (k < 8 ∧ isL c = true) := fun h => hc h.2
      rw [if_neg hc, if_neg hn, List.drop_zero, Nat.zero_add, Nat.add_zero]
      rw [lB_cons]
      by_cases he : c = 47
      · rw [if_pos he, if_pos he]
        rfl
      · rw [if_neg he, if_neg he]
        split <;> rfl
theorem lA_run : ∀ (l : List Nat) (k : Nat), k ≤ 8 → lA k l = run k l + (if 1 ≤ k + run k l ∧ (l.drop (run k l)).head? = some 58 then lB (l.drop (run k l + 1)) + 1 else 0)
  | [], k, _ => by
    simp [lA, run]
  | c :: r, k, hk8 => by
    unfold lA run
    by_cases hc : isL c = true
    · by_cases hk : k < 8
      · rw [if_pos hc, if_pos hk, if_pos ⟨hk, hc⟩, lA_run r (k + 1) (by omega), List.drop_succ_cons, List.drop_succ_cons]
        have e1 : 1 ≤ k + 1 + run (k + 1) r := by omega
        have e2 : 1 ≤ k + (run (k + 1) r + 1) := by omega
        by_cases hh : (r.drop (run (k + 1) r)).head? = some 58
        · rw [if_pos ⟨e1, hh⟩, if_pos ⟨e2, hh⟩]
          omega
        · rw [if_neg (fun z => hh z.2), if_neg (fun z => hh z.2)]
      · have hn : ¬ (k < 8 ∧ isL c = true) := fun h => hk h.1
        rw [if_pos hc, if_neg hk, if_neg hn, List.drop_zero]
        rw [if_neg]
        intro z
        have : c = 58 := by simpa using z.2
        exact isL_ne hc (by decide) this
    · have hn : ¬ (k < 8 ∧ isL c = true) := fun h => hc h.2
      rw [if_neg hc, if_neg hn, List.drop_zero, Nat.zero_add, Nat.add_zero]
      show _ = (if 1 ≤ k ∧ some c = some 58 then lB r + 1 else 0)
      by_cases he : c = 58
      · rw [if_pos he]
        by_cases h1 : 1 ≤ k
        · rw [if_pos h1, if_pos ⟨h1, by rw [he]⟩]
        · rw [if_neg h1, if_neg (fun z => h1 z.1)]
      · rw [if_neg he, if_neg (fun z => he (Option.some.inj z.2))]
theorem lB_58 : ∀ (k : Nat) (r : List Nat), lC k r = r.length → 58 ∉ r
  | _, [], _ => by simp
  | k, c :: r, h => by
    unfold lC at h
    rw [List.length_cons] at h
    by_cases hc : isL c = true
    · rw [if_pos hc] at h
      split at h
      · have := lB_58 (k + 1) r (by omega)
        intro hm
        rcases List.mem_cons.mp hm with e | e
        · exact isL_ne hc (by decide) e.symm
        · exact this e
      · omega
    · rw [if_neg hc] at h
      split at h
      · split at h
        · have := lB_58 0 r (by omega)
          intro hm
          rcases List.mem_cons.mp hm with e | e
          · omega
          · exact this e
        · omega
      · omega
theorem lB_free {b : List Nat} (h : lB b = b.length) : 58 ∉ b := by
  cases b with
  | nil => simp
  | cons c r =>
    rw [lB_cons, List.length_cons] at h
    split at h
    · have := lB_58 0 r (by omega)
      intro hm
      rcases List.mem_cons.mp hm with e | e
      · omega
      · exact this e
    · omega
/-! ### what is told -/
inductive Told where
  | bad (n : Nat)
  | good (s : List Nat) (p : List (List Nat))
/-- the loop behind the colon: what is left, the path so far; how many signs stand ahead -/
def rdB : Nat → List Nat → Nat → List (List Nat) → Nat ⊕ List (List Nat)
  | _, [], _, path => .inr path
  | 0, _ :: _, n, _ => .inl n
  | f + 1, c :: r, n, path => if c ≠ 47 then .inl n else if run 0 r = 0 then .inl (n + 1) else rdB f (r.drop (run 0 r)) (n + 1 + run 0 r) (path ++ [r.take (run 0 r)])
def lastIs (b : List Nat) (c : Nat) : Prop := b.getLast? = some c
instance (b : List Nat) (c : Nat) : Decidable (lastIs b c) := inferInstanceAs (Decidable (_ = _))
def good (b : List Nat) : Prop := lB b = b.length ∧ ¬ lastIs b 47
instance (b : List Nat) : Decidable (good b) := inferInstanceAs (Decidable (_ ∧ _))
theorem rdB_is : ∀ (f : Nat) (b : List Nat) (n : Nat) (path : List (List Nat)), b.length ≤ f → rdB f b n path = if good b then .inr (path ++ (sp 47 b).tail) else .inl (n + lB b)
  | f, [], n, path, _ => by
    have g : good [] := ⟨rfl, by simp [lastIs]⟩
    rw [if_pos g]
    cases f <;> simp [rdB, sp]
  | 0, c :: r, n, path, h => by simp at h
  | f + 1, c :: r, n, path, h => by
    have hr : r.length ≤ f := by simpa using h
    show (if c ≠ 47 then .inl n else if run 0 r = 0 then .inl (n + 1) else rdB f (r.drop (run 0 r)) (n + 1 + run 0 r) (path ++ [r.take (run 0 r)])) = _
    by_cases hc : c = 47
    · rw [if_neg (fun z => z hc)]
      subst hc
      have e1 : lB (47 :: r) = lC 0 r + 1 := by rw [lB_cons, if_pos rfl]
      have e2 := lC_run r 0 (by decide)
      rw [Nat.zero_add] at e2
      by_cases hw : run 0 r = 0
      · rw [if_pos hw]
        rw [hw] at e2
        have e3 : lB (47 :: r) = 1 := by rw [e1, e2]; rfl
        have ng : ¬ good (47 :: r) := by
          intro g
          have g1 := g.1
          rw [e3, List.length_cons] at g1
          have : r = [] := List.length_eq_zero_iff.mp (by omega)
          subst this
          exact g.2 rfl
        rw [if_neg ng, e3]
      · rw [if_neg hw]
        have hw1 : 1 ≤ run 0 r := by omega
        rw [if_pos hw1] at e2
        have hle := run_le r 0
        have ih := rdB_is f (r.drop (run 0 r)) (n + 1 + run 0 r) (path ++ [r.take (run 0 r)]) (by rw [List.length_drop]; omega)
        rw [ih]
        have hsplit : r = r.take (run 0 r) ++ r.drop (run 0 r) := (List.take_append_drop _ _).symm
        have hlet := run_all r 0
        have h47 := no_of (d := 47) (by decide) hlet
        have hlen : (r.drop (run 0 r)).length = r.length - run 0 r := List.length_drop
        have iff : good (47 :: r) ↔ good (r.drop (run 0 r)) := by
          have hl : lB (47 :: r) = (47 :: r).length ↔ lB (r.drop (run 0 r)) = (r.drop (run 0 r)).length := by
            rw [e1, e2, hlen, List.length_cons]
            omega
          have hlast : lastIs (47 :: r) 47 ↔ lastIs (r.drop (run 0 r)) 47 := by
            unfold lastIs
            cases hd : r.drop (run 0 r) with
            | nil =>
              have ht : r.take (run 0 r) = r := by
                have e := hsplit
                rw [hd, List.append_nil] at e
                exact e.symm
              have hr0 : r ≠ [] := by
                intro e
                rw [e] at hw1
                simp [run] at hw1
              constructor
              · intro z
                rw [List.getLast?_cons_of_ne_nil hr0] at z
                have hm := List.mem_of_getLast? z
                rw [← ht] at hm
                exact absurd hm h47
              · intro z
                cases z
            | cons x y =>
              have e : 47 :: r = (47 :: r.take (run 0 r)) ++ (x :: y) := by
                rw [List.cons_append, ← hd, ← hsplit]
              have z : ((47 :: r.take (run 0 r)) ++ (x :: y)).getLast? = (x :: y).getLast? := by
                rw [List.getLast?_append]
                cases hz : (x :: y).getLast? with
                | none => simp at hz
                | some v => rfl
              rw [e, z]
          unfold good
          rw [hl, hlast]
        by_cases g : good (47 :: r)
        · rw [if_pos g, if_pos (iff.mp g)]
          rw [sp_hit, List.tail_cons]
          have g2 := (iff.mp g).1
          have key : sp 47 r = r.take (run 0 r) :: (sp 47 (r.drop (run 0 r))).tail := by
            cases hd : r.drop (run 0 r) with
            | nil =>
              have ht : r.take (run 0 r) = r := by
                have e := hsplit
                rw [hd, List.append_nil] at e
                exact e.symm
              rw [ht] at h47 ⊢
              rw [sp_free h47]
              rfl
            | cons x y =>
              have hx : x = 47 := by
                rw [hd, lB_cons] at g2
                split at g2
                · assumption
                · simp at g2
              subst hx
              have e : r = r.take (run 0 r) ++ 47 :: y := by
                rw [← hd]
                exact hsplit
              rw [sp_hit, List.tail_cons]
              exact (congrArg (sp 47) e).trans (sp_at h47)
          rw [key, List.append_assoc]
          rfl
        · rw [if_neg g, if_neg (fun z => g (iff.mpr z)), e1, e2]
          congr 1
          omega
    · rw [if_pos hc]
      have e : lB (c :: r) = 0 := by rw [lB_cons, if_neg hc]
      have ng : ¬ good (c :: r) := by
        intro g
        have := g.1
        rw [e, List.length_cons] at this
        omega
      rw [if_neg ng, e]
      rfl
/-- the whole reader -/
def rd (l : List Nat) : Told :=
  if run 0 l = 0 ∨ (l.drop (run 0 l)).head? ≠ some 58 then .bad (run 0 l)
  else match rdB l.length (l.drop (run 0 l + 1)) (run 0 l + 1) [] with
    | .inl n => .bad n
    | .inr p => .good (l.take (run 0 l)) p
/-- the law's own -/
def due (l : List Nat) : Told :=
  if lA 0 l < l.length then .bad (lA 0 l) else match sp 58 l with
  | [a, b] => if lastIs b 47 then .bad (lA 0 l) else .good a (sp 47 b).tail
  | _ => .bad (lA 0 l)
theorem rd_due (l : List Nat) : rd l = due l := by
  have e := lA_run l 0 (by decide)
  rw [Nat.zero_add] at e
  have hle := run_le l 0
  have hlet := run_all l 0
  have h58 := no_of (d := 58) (by decide) hlet
  unfold rd
  by_cases hw : run 0 l = 0 ∨ (l.drop (run 0 l)).head? ≠ some 58
  · rw [if_pos hw]
    have hn : ¬ (1 ≤ run 0 l ∧ (l.drop (run 0 l)).head? = some 58) := by
      rintro ⟨h1, h2⟩
      rcases hw with h | h
      · omega
      · exact h h2
    rw [if_neg hn, Nat.add_zero] at e
    unfold due
    rw [e]
    by_cases hlt : run 0 l < l.length
    · rw [if_pos hlt]
    · rw [if_neg hlt]
      have ht : l.take (run 0 l) = l := List.take_of_length_le (by omega)
      rw [ht] at h58
      rw [sp_free h58]
  · rw [if_neg hw]
    have h1 : 1 ≤ run 0 l := by
      rcases Nat.eq_zero_or_pos (run 0 l) with h | h
      · exact absurd (.inl h) hw
      · exact h
    have h2 : (l.drop (run 0 l)).head? = some 58 := by
      by_cases h : (l.drop (run 0 l)).head? = some 58
      · exact h
      · exact absurd (.inr h) hw
    rw [if_pos ⟨h1, h2⟩] at e
    have hd : l.drop (run 0 l) = 58 :: l.drop (run 0 l + 1) := by
      cases hx : l.drop (run 0 l) with
      | nil =>
        rw [hx] at h2
        cases h2
      | cons x y =>
        rw [hx] at h2
        have ex : x = 58 := by simpa using h2
        have ey : y = l.drop (run 0 l + 1) := by
          have z := congrArg (List.drop 1) hx
          rw [List.drop_drop] at z
          simpa using z.symm
        rw [ex, ey]
    have hl : l = l.take (run 0 l) ++ 58 :: l.drop (run 0 l + 1) := by
      rw [← hd]
      exact (List.take_append_drop _ _).symm
    generalize hb : l.drop (run 0 l + 1) = b at *
    have hlen : l.length = run 0 l + (b.length + 1) := by
      have z := congrArg List.length hl
      rw [List.length_append, List.length_take, List.length_cons, Nat.min_eq_left hle] at z
      exact z
    rw [rdB_is l.length b (run 0 l + 1) [] (by omega)]
    have hsp : sp 58 l = l.take (run 0 l) :: sp 58 b := (congrArg (sp 58) hl).trans (sp_at h58)
    have hbl := lB_le b
    unfold due
    rw [e]
    by_cases hfull : lB b = b.length
    · have hnl : ¬ (run 0 l + (lB b + 1) < l.length) := by omega
      rw [if_neg hnl, hsp, sp_free (lB_free hfull)]
      by_cases hz : lastIs b 47
      · have ng : ¬ good b := fun g => g.2 hz
        rw [if_neg ng]
        show Told.bad _ = (if lastIs b 47 then Told.bad _ else _)
        rw [if_pos hz]
        congr 1
        omega
      · rw [if_pos (show good b from ⟨hfull, hz⟩)]
        show Told.good _ _ = (if lastIs b 47 then _ else Told.good _ _)
        rw [if_neg hz]
        rfl
    · have hlt : run 0 l + (lB b + 1) < l.length := by omega
      rw [if_pos hlt, if_neg (fun g : good b => hfull g.1)]
      show Told.bad _ = Told.bad _
      congr 1
      omega
end AddrMath

/-! A law whose body needs to know that no repr is under way: its def's promise where the list of running reprs is known to be empty, and the end of the row by it. -/
namespace GR
open PySem PySem.Spec PyProof.Rows L2 SX
/-- no repr runs -/
abbrev Quiet (Ar : Around) : Prop := Ar.guards = some []
theorem quiet_deeper {Ar : Around} {e : Env} (h : Quiet Ar) : Quiet (Ar.deeper e) := h
structure FnQ (pr : Program) (wo : World) (F : PySem.W.Frag) (gl : Str → Option Value) (b0 : Heap) (n : Nat) (at_ : Addr) (fd : FuncData) (names : List Str) (sp : Sp) : Prop where
  many : ∀ vs H Q E, sp vs H Q E → vs.length = names.length
  runs : ∀ (Ar : Around) (fs : List Env) (s : Shared) (H : Hp) (gs : Args) (us : List Value) (vs : List V) (Q : VK) (E : XK),
    Quiet Ar → Room n Ar → Env0 pr wo F gl b0 Ar fs s H → BindsTo s fd gs (names.zip us) → Vals vs us → sp vs H Q E →
    codeAny (model pr wo) Ar (.call (.ref at_) gs) (CR CX0 fs pr wo H s Q E) s
section
variable {pr : Program} {wo : World} {F : PySem.W.Frag} {gl : Str → Option Value} {b0 : Heap}
theorem quiet_fn {x qual : Str} {st : Stmt} {at_ : Addr} {fd : FuncData} {N names : List Str} {n : Nat} {sp : Sp} (D : Fun F x qual st at_ fd) (S : FnScope N names (defScope st))
    (many : ∀ vs H Q E, sp vs H Q E → vs.length = names.length)
    (body : ∀ (cd : Value) (Ar : Around) (fs : List Env) (s : Shared) (H : Hp) (vs : List V) (Q : VK) (E : XK), Quiet Ar →
      Room n (Ar.deeper (envOfC qual (defScope st) s.heap.objs.size at_ cd)) → sp vs H Q E →
      ∃ t, PSs (cxOf CX0 pr wo F gl b0 N qual (defScope st) at_ cd Ar fs s H E).nox (defBody st) t ∧
        t { nx := fun _ H' => Q .non H', rt := Q } (start N vs) H) :
    FnQ pr wo F gl b0 (n + 1) at_ fd names sp := by
  obtain ⟨oc, od, kV, doc, pm, an, cd, ct, osl, rfl, here, code⟩ := D.ex
  refine ⟨many, ?_⟩
  intro Ar fs s H gs us vs Q E quiet room e0 binds rel want
  have FX : F.In s.heap := e0.mod.kin.keeps (fun b o e => (e0.bs b o e).1)
  have lim : s.heap.NoLimit := e0.mod.nolimit.keeps (fun b o e => (e0.bs b o e).1)
  refine codeAny_call_function room.depth (FX _ _ here) rfl S.co S.gen rfl (PySem.W.codeRec_of FX code) (binds _ _ _ _ ?_)
  refine wpAny_newFunctionEnv_cells S.kind ?_ (fun en en_is s1 inside => ?_)
  · rintro ⟨nm, v⟩ mem
    rcases S.par nm (List.of_mem_zip mem).1 with q | q
    · exact Or.inl q
    · exact Or.inr ⟨q, PySem.W.cellsFrom_some _ _ _ (Or.inl q)⟩
  subst en_is
  refine ⟨lim.keeps inside.toInCall.keep, codeAny_func ?_⟩
  obtain ⟨t, reads, does⟩ := body cd Ar fs s H vs Q E quiet (room.deeper _) want
  have I0 := inv_start (CX := CX0) (E := E) S room.hd e0 (many _ _ _ _ want) rel inside
  refine wpAny_mono (reads.nox.run [] s1 (start N vs) H _ I0 does) ?_ (fun _ _ h => h)
  intro fl s' ends
  cases fl with
  | next =>
    obtain ⟨σ', H', J, q⟩ := ends
    exact ⟨V.non, H', J.os, J.bare, J.base, J.hok, rfl, q⟩
  | ret u =>
    obtain ⟨v, σ', H', J, rv, q⟩ := ends
    exact ⟨v, H', J.os, J.bare, J.base, J.hok, rv, q⟩
  | brk =>
    obtain ⟨_, _, _, z⟩ := ends
    exact z.elim
  | cont =>
    obtain ⟨_, _, _, z⟩ := ends
    exact z.elim
end
/-- the heap behind the top with the script alone in view -/
theorem quiet_from {pr : Program} {wo : World} {F : PySem.W.Frag} {gl gb : Str → Option Value} {n : Nat} {at_ sc : Addr} {fd : FuncData} {x : Str} {sp : Sp} {s : Shared} {ns : List Int} {ob : Obj} {H : Hp}
    (inF : F.In s.heap) (nsm : s.heap.Ns mainGlobals gl) (nsb : s.heap.Ns builtinsNs gb) (bb : ∀ y : Str, y ≠ "__name__" → gb y = bootBuiltins y) (lim : s.heap.NoLimit) (ng : s.gens = #[])
    (atS : s.heap.get? sc = some ob) (seq : ∃ its k, ob.data = .seq its k) (room : Room n callerA)
    (D : ∀ b0 : Heap, F.In b0 → b0.Ns mainGlobals gl → FnQ pr wo F gl b0 n at_ fd [x] sp) (binds : ∀ (s : Shared) (u : Value), BindsTo s fd ⟨[u], []⟩ [(x, u)])
    (want : sp [.ref sc] H (fun v _ => v = .bl true) fun _ _ _ => False)
    (only : Only H) (ok : HOk pr wo H s.heap) (isS : ∀ b, H b ≠ none → b = sc) (away : H sc ≠ none → F.lookup sc = none) :
    codeAny (model pr wo) callerA (.call (.ref at_) ⟨[.ref sc], []⟩) (fun r s' => r = .ok (.ret (.bool true)) ∧ OldK s.heap s'.heap ∧ s'.os = s.os ∧ AllBare s'.gens) s := by
  have out : ∀ {b : Addr} {o : Obj}, s.heap.get? b = some o → (b = sc → H b = none) → (hidT s.heap H).get? b = some o := fun {b o} e h => hidT_get e (by
    cases q : H b with
    | none => rfl
    | some u => exact (by rw [h (isS b (by rw [q]; exact fun z => nomatch z))] at q; cases q))
  have dict : ∀ {b : Addr} {m : Str → Option Value}, s.heap.Ns b m → (hidT s.heap H).Ns b m := by
    rintro b m ⟨o, es, ep, e, d, rest⟩
    refine ⟨o, es, ep, out e (fun z => ?_), d, rest⟩
    exfalso
    subst z
    obtain ⟨its, k, hs⟩ := seq
    rw [atS] at e
    cases e
    rw [hs] at d
    cases d
  have inB : F.In (hidT s.heap H) := fun b o e => out (inF b o e) (fun z => by
    cases q : H b with
    | none => rfl
    | some u =>
      rw [z] at q e
      rw [away (by rw [q]; exact fun z => nomatch z)] at e
      cases e)
  have e0 : Env0 pr wo F gl (hidT s.heap H) callerA [] s H := by
    refine ⟨rfl, ⟨inB, dict nsm, ⟨gb, dict nsb, bb⟩, ?_⟩, fun b o e => of_hidT e, Nat.le_of_eq (hidT_size _ _), trivial, ?_, ok, .of_eq ng⟩
    · obtain ⟨mc, h1, h2⟩ := lim
      exact ⟨mc, dict h1, h2⟩
    · intro b hb
      cases (show b ∈ ([] : List Addr) from hb)
  refine codeAny_mono ((D _ inB (dict nsm)).runs callerA [] s H ⟨[.ref sc], []⟩ [.ref sc] [.ref sc] _ _ rfl room e0 (binds s (.ref sc)) (.cons rfl .nil) want) ?_
  rintro (e | fl) s' h
  · exact (show False from h).elim
  cases fl with
  | next => exact (show False from h).elim
  | brk => exact (show False from h).elim
  | cont => exact (show False from h).elim
  | ret u =>
    obtain ⟨v, H', os, bare, un, ok', rel, q⟩ := h
    cases (show v = V.bl true from q)
    cases (show u = Value.bool true from rel)
    refine ⟨rfl, OldK.of_keep (fun b o e => ?_), os, bare⟩
    cases q : H b with
    | none => exact un.keep b o e q (fun z => by cases (show b ∈ ([] : List Addr) from z)) (by simp)
    | some u =>
      rcases only b with z | ⟨ob', xs, z⟩
      · rw [q] at z
        cases z
      · have p1 := (ok b _ z).1
        have p2 := (ok' b _ (un.frzs b ob' _ z)).1
        rw [e] at p1
        cases p1
        exact p2
/-- the end of a row whose law knows that no repr runs -/
theorem walk_quiet {l : PySem.W.OpenLaw} {most n : Nat} {q : Program} {loose : List Str} {XP : (Str → Option Value) → Heap → Prop} {YP : World → Heap → Prop} {d : DefRec} {F : Params → PySem.W.Frag} {sp : World → Sp} {x : Str}
    (hm : l.most = some most) (small : most ≤ sizeLine) (nd : d.params.defaults = []) (room : Room n callerA)
    (hY : ∀ (wo : World) (h : Heap), YP wo h → (F wo.params).In h)
    (D : ∀ (wo : World) (gl : Str → Option Value) (at_ : Addr) (h : Heap), (F wo.params).In h → h.Ns mainGlobals gl → gl d.name = some (.ref at_) →
      ∃ fd : FuncData, (∀ (s : Shared) (u : Value), BindsTo s fd ⟨[u], []⟩ [(x, u)]) ∧
        ∀ b0 : Heap, (F wo.params).In b0 → b0.Ns mainGlobals gl → FnQ l.prog wo (F wo.params) gl b0 n at_ fd [x] (sp wo))
    (want : ∀ (wo : World) (H : Hp) (sc : Addr) (ns : List Int), ns.length ≤ most → Only H → SqL (F wo.params) H sc (ns.map V.int) → sp wo [.ref sc] H (fun v _ => v = .bl true) fun _ _ _ => False) :
    PySem.W.WalkO q loose XP YP l.row.toRowW d [] (fun f vs => PySem.call f vs) := by
  refine Att.attach_call hm nd ?_
  intro wo s₀ s gl gb at_ o pm cd doc sc vs ns G Y ho hd hcd hgl atS areI len ng
  have inF := hY wo _ Y
  obtain ⟨fd, binds, D0⟩ := D wo gl at_ _ inF G.T.g hgl
  have rv := vals_ints areI
  have lenV := areI.length
  have small' : ns.length ≤ sizeLine := Nat.le_trans len small
  have go := fun (H : Hp) (only : Only H) (seen : SqL (F wo.params) H sc (ns.map V.int)) =>
    quiet_from (pr := l.prog) (wo := wo) (ns := ns) inF G.T.g G.T.b G.T.builtins G.T.nolimit ng atS ⟨vs.toArray, _, rfl⟩ room D0 binds (want wo H sc ns len only seen) only
  by_cases known : (F wo.params).lookup sc = none
  · refine go (fun b => if b = sc then some (.frz { cls := .type "list", data := .seq vs.toArray } (.lst (ns.map V.int))) else none) (fun b => ?_) (Or.inl (Or.inr ⟨{ cls := .type "list", data := .seq vs.toArray }, if_pos rfl⟩)) ?_ (fun b ne => ?_) (fun _ => known)
    · by_cases e : b = sc
      · exact Or.inr ⟨_, _, if_pos e⟩
      · exact Or.inl (if_neg e)
    · intro b u e
      by_cases eq : b = sc
      · have e' := (if_pos eq).symm.trans e
        cases e'
        subst eq
        exact ⟨atS, by rw [List.length_map]; exact small', vs, _, rv, atS⟩
      · have e' := (if_neg eq).symm.trans e
        cases e'
    · by_cases eq : b = sc
      · exact eq
      · exact absurd (if_neg eq) ne
  · obtain ⟨o', ho'⟩ := Option.ne_none_iff_exists'.mp known
    have e := (atS.symm.trans (inF sc o' ho'))
    cases e
    refine go (fun _ => none) (fun _ => Or.inl rfl) (Or.inr ⟨_, vs.toArray, _, ho', rfl, rfl, rfl, by rw [List.size_toArray, lenV]; exact small', by simpa using rv⟩) (fun b u e => by cases (show (none : Option HO) = some u from e)) (fun b ne => absurd rfl ne) (fun ne => absurd rfl ne)
end GR

/-! Operations a law needs beside the hand layer's: repr of data where no repr runs, the order of data, comparisons that a class of the text defines (instances with a dict), isinstance of such an instance. -/
namespace GR
open PySem PySem.W PySem.Spec PySem.Calls PyProof.Rows L2 SX
section
variable {X : Cx}
/-- repr(x), x a list or a tuple of plain data -/
def rRepr (K : Frag) (A : Around) : List V → Hp → VK → Prop := fun xs H Q => ∃ (a : Addr) (d : PyData), xs = [.ref a] ∧ Dp K H (.ref a) d ∧ d.showable = true ∧ d.hasDict = false ∧ A.units + (d.depth + 1) < cLine ∧ d.shown.length ≤ sizeLine ∧ Q (.str d.shown) H
theorem call_reprD (quiet : Quiet X.A) : CallR X (.builtin "repr") (rRepr X.K X.A) := by
  intro pins s σ H xs us Q I rel h
  obtain ⟨a, d, rfl, dp, sh, nd, room, len, q⟩ := h
  obtain ⟨u, rfl, ru⟩ := rel.one
  cases (show u = Value.ref a from ru)
  obtain ⟨as, rd⟩ := dp.reads I d _ _ rfl
  exact repr_of_reads' rd sh (PyData.noDict_hsm nd) quiet room (fun _ _ e => e) (fun h' u tk hk => ⟨.str d.shown, H, I.kept hk, ⟨_, rfl⟩, q⟩) len
/-- x op y of two values that read as data with an order -/
def rDat {α : Type} [DecidableEq α] [DatumOrd α] (K : Frag) (f : α → α → Bool) : R2 := fun x y H Q => ∃ p q : α, Dp K H x (Datum.toD p) ∧ Dp K H y (Datum.toD q) ∧ Q (.bl (f p q)) H
section
variable {α : Type} [DecidableEq α] [DatumOrd α]
theorem opd_lt (hu : X.A.units + Datum.depth α < cLine) : OpR X (compareOp .Lt) (rDat (α := α) X.K fun p q => DatumOrd.lt p q) := by
  intro pins s σ H x y v u Q I rx ry ⟨p, q, hp, hq, fin⟩
  exact lt_datum (Dp.reads I _ _ _ hp rx) (Dp.reads I _ _ _ hq ry) hu ⟨.bl _, H, I, rfl, fin⟩
theorem opd_gt (hu : X.A.units + Datum.depth α < cLine) : OpR X (compareOp .Gt) (rDat (α := α) X.K fun p q => DatumOrd.lt q p) := by
  intro pins s σ H x y v u Q I rx ry ⟨p, q, hp, hq, fin⟩
  exact gt_datum (Dp.reads I _ _ _ hp rx) (Dp.reads I _ _ _ hq ry) hu ⟨.bl _, H, I, rfl, fin⟩
theorem opd_le (hu : X.A.units + Datum.depth α < cLine) : OpR X (compareOp .LtE) (rDat (α := α) X.K fun p q => !DatumOrd.lt q p) := by
  intro pins s σ H x y v u Q I rx ry ⟨p, q, hp, hq, fin⟩
  exact le_datum (Dp.reads I _ _ _ hp rx) (Dp.reads I _ _ _ hq ry) hu ⟨.bl _, H, I, rfl, fin⟩
theorem opd_ge (hu : X.A.units + Datum.depth α < cLine) : OpR X (compareOp .GtE) (rDat (α := α) X.K fun p q => !DatumOrd.lt p q) := by
  intro pins s σ H x y v u Q I rx ry ⟨p, q, hp, hq, fin⟩
  exact ge_datum (Dp.reads I _ _ _ hp rx) (Dp.reads I _ _ _ hq ry) hu ⟨.bl _, H, I, rfl, fin⟩
theorem opd_eq (hu : X.A.units + Datum.depth α < cLine) : OpR X (compareOp .Eq) (rDat (α := α) X.K fun p q => decide (p = q)) := by
  intro pins s σ H x y v u Q I rx ry ⟨p, q, hp, hq, fin⟩
  exact eq_datum (Dp.reads I _ _ _ hp rx) (Dp.reads I _ _ _ hq ry) hu ⟨.bl _, H, I, rfl, fin⟩
theorem opd_ne (hu : X.A.units + Datum.depth α < cLine) : OpR X (compareOp .NotEq) (rDat (α := α) X.K fun p q => decide (p ≠ q)) := by
  intro pins s σ H x y v u Q I rx ry ⟨p, q, hp, hq, fin⟩
  exact ne_datum (Dp.reads I _ _ _ hp rx) (Dp.reads I _ _ _ hq ry) hu ⟨.bl _, H, I, rfl, fin⟩
end
/-- x op y of two instances of the class at C, by its own def -/
def rIns (C : Addr) (sp : Sp) : R2 := fun x y H Q => ∃ (a b dx dy : Addr) (fs gs : List (Str × V)), x = .ref a ∧ y = .ref b ∧ H a = some (.ins C dx fs) ∧ H b = some (.ins C dy gs) ∧ sp [x, y] H Q E0
section
variable {C f : Addr} {fd : FuncData} {ps : List Str} {n : Nat} {sp : Sp}
theorem own_cmp {op : CmpOp} (hop : ∀ a b, compareOp op a b = richCompare op a b) (at_ : findIn X.K (.ref C) (cmpInfo op).2.1 = some (some (.ref f))) (isF : isFn X.K (.ref f) = true)
    (F : FnOk X.prog X.w X.K X.mg X.base CX0 n f fd ps sp) (hb : Binds X.K fd ps []) (room : Room n X.A) : OpR X (compareOp op) (rIns C sp) := by
  intro pins s σ H x y v u Q I rx ry ⟨a, b, dx, dy, fs, gs, ex, ey, ha, hb', q⟩
  subst ex; subst ey
  cases (show v = Value.ref a from rx); cases (show u = Value.ref b from ry)
  obtain ⟨_, J, _⟩ := ins_get I.hok ha
  obtain ⟨_, J', _⟩ := ins_get I.hok hb'
  obtain ⟨od, J, _⟩ := J.look
  obtain ⟨od', J', _⟩ := J'.look
  obtain ⟨m, hF⟩ := I.fr
  rw [hop]
  refine cmp_K (op := op) (tb := .ref C) room.units0 hF I.ok.mod.kin J J'.type (by simp [notFirst]) at_ isF ?_
  refine wpAny_mono (run_fn (us := [.ref a, .ref b]) (vs := [.ref a, .ref b]) F room hb .nil pass0 I (.cons rfl (.cons rfl .nil)) q) ?_ (fun _ _ e => e)
  rintro w s' ⟨z, H', I', rz, qz⟩
  exact SlX.cmpback rz ⟨z, H', I', rz, qz⟩
/-- != where the class has == alone -/
def rNeI (C : Addr) (sp : Sp) : R2 := fun x y H Q => ∃ (a b dx dy : Addr) (fs gs : List (Str × V)), x = .ref a ∧ y = .ref b ∧ H a = some (.ins C dx fs) ∧ H b = some (.ins C dy gs) ∧ sp [x, y] H (fun z H' => ∃ t, z = .bl t ∧ Q (.bl (!t)) H') E0
theorem bindSlot {M : Model} {h : Heap} (self : Value) : Looks M h (bindSpecial (.builtin "object.__ne__") self) (.builtin "object.__ne__", [self]) := Looks.of_pure (PySem.F.slot_object_ne.bind self)
theorem ifBound_B {K : Frag} {M : Model} {A : Around} {E : Value → Shared → Prop} {s : Shared} {x C : Addr} {ox : Obj} {od : Option Obj} {id : String} {name : Str} {args : List Value} {Q : Option Value → Shared → Prop} (inK : K.In s.heap) (J : InstAt s.heap x ox C od)
    (at_ : findIn K (.ref C) name = some (some (.builtin id))) (bd : Looks M s.heap (bindSpecial (.builtin id) (.ref x)) (.builtin id, [.ref x]))
    (h : wpAny M A (call (.builtin id) (.ref x :: args)) (fun v => Q (some v)) E s) : wpAny M A (callSpecialIfBound? (.ref x) name args) Q E s := by
  simp only [callSpecialIfBound?, bindSpecialIfBound?]
  refine wpAny_holding (wpAny_bind (wpAny_bind (wpAny_bind (J.type.here ((looks_findIn inK at_).here ?_)))))
  have fin : wpAny M A (call (.builtin id) ([.ref x] ++ args) >>= fun v => pure (some v)) Q E s := wpAny_bind (wpAny_mono h (fun v s' q => wpAny_pure q) fun _ _ q => q)
  refine wpAny_bind (wpAny_askSetting (wpAny_ite ?_))
  split
  · exact wpAny_bind (bd.here (wpAny_pure (by exact fin)))
  · exact wpAny_tryCatch (wpAny_bind (bd.here (wpAny_pure (by exact fin))))
theorem own_ne (at_ : findIn X.K (.ref C) "__eq__" = some (some (.ref f))) (isF : isFn X.K (.ref f) = true) (ne_ : findIn X.K (.ref C) "__ne__" = some (some (.builtin "object.__ne__"))) (ob : subIn X.K (.ref C) (.type "object") = some true)
    (F : FnOk X.prog X.w X.K X.mg X.base CX0 n f fd ps sp) (hb : Binds X.K fd ps []) (room : Room (n + 1) X.A) : OpR X (compareOp .NotEq) (rNeI C sp) := by
  intro pins s σ H x y v u Q I rx ry ⟨a, b, dx, dy, fs, gs, ex, ey, ha, hb', q⟩
  subst ex; subst ey
  cases (show v = Value.ref a from rx); cases (show u = Value.ref b from ry)
  obtain ⟨_, J, _⟩ := ins_get I.hok ha
  obtain ⟨_, J', _⟩ := ins_get I.hok hb'
  obtain ⟨od, J, _⟩ := J.look
  obtain ⟨od', J', _⟩ := J'.look
  have inK : X.K.In s.heap := I.kIn
  have room1 : Room n X.A.in1 := room.in1
  have go : wpAny (model X.prog X.w) X.A.in1 (call (.ref f) [.ref a, .ref b]) (fun r s' => ∃ t, r = .bool t ∧ EP X pins σ Q (.bool (!t)) s') X.xe s := by
    have bs := hb s [.ref a, .ref b] inK (by rw [List.append_nil]; exact F.len _ _ _ _ q)
    refine wpAny_call (codeAny_mono (F.run X.A.in1 X.stack s H ⟨[.ref a, .ref b], []⟩ [.ref a, .ref b] [.ref a, .ref b] _ E0 room1 I.env0.in1 bs (.cons rfl (.cons rfl .nil)) q) ?_)
    rintro (e | fl) s' h
    · exact (show False from h).elim
    cases fl with
    | next => exact (show False from h).elim
    | brk => exact (show False from h).elim
    | cont => exact (show False from h).elim
    | ret r =>
      obtain ⟨z, H', I', rz, t, ez, qz⟩ := I.after h
      subst ez
      cases (show r = Value.bool t from rz)
      exact ⟨t, rfl, .bl (!t), H', I', rfl, qz⟩
  have inner : wpAny (model X.prog X.w) X.A (call (.builtin "object.__ne__") [.ref a, .ref b]) (fun r s' => ∃ t, r = .bool (!t) ∧ EP X pins σ Q (.bool (!t)) s') X.xe s := by
    refine wpAny_call (codeAny_call_builtin PySem.F.slot_object_ne.plain PySem.F.cmpEntry_ne (check_slot PySem.F.cmpKind_ne PySem.F.cmpSplit_ne (J.type.andThen (looks_subIn inK ob)) (PySem.F.cmpArgs_ne _ _) ?_))
    unfold Builtin.«object.__ne__»
    repeat (first
      | with_reducible refine wpAny_cRoomFor room1.units0 ?_
      | (refine wpAny_bind (m := callSpecialIfBound? (.ref a) (Str.ofString "__eq__") [.ref b]) (ifBound_K inK J at_ isF (wpAny_mono go (fun r s' hr => by
          obtain ⟨t, rfl, hq⟩ := hr
          repeat (first | exact ⟨t, rfl, hq⟩ | exact wpAny_pure ⟨t, rfl, hq⟩ | exact wpAny_truthy_bool ⟨t, rfl, hq⟩ | (refine wpAny_bind (m := truthy (.bool _)) (wpAny_truthy_bool ?_)) | wp_step)) fun _ _ e => e)))
      | wp_step)
  have one : wpAny (model X.prog X.w) X.A (tryCompare (.ref a) "__ne__" (.ref b)) (fun r s' => ∃ v, r = some v ∧ EP X pins σ Q v s') X.xe s := by
    unfold tryCompare
    refine wpAny_bind (ifBound_B inK J ne_ (bindSlot _) (wpAny_mono inner ?_ fun _ _ e => e))
    rintro r s' ⟨t, rfl, hq⟩
    exact wpAny_pure ⟨_, rfl, hq⟩
  show wpAny _ _ (richCompare .NotEq (.ref a) (.ref b)) _ _ _
  unfold richCompare
  simp only [oneThing_ref]
  refine wpAny_holding (wpAny_bind (wpAny_cRoomFor room.units0 ?_))
  refine wpAny_bind (J.type.here (wpAny_bind (J'.type.here ?_)))
  rw [show (Value.ref C != Value.ref C) = false from by simp]
  simp only [Bool.false_eq_true, if_false]
  refine wpAny_bind (wpAny_pure ?_)
  simp only [Bool.false_eq_true, if_false]
  refine wpAny_bind (wpAny_mono one ?_ fun _ _ e => e)
  rintro r s' ⟨v, rfl, hq⟩
  exact wpAny_pure hq
end
end
end GR

/-! sorted(set(xs)), xs a list of texts -/
namespace TxSet
open PySem PySem.Spec PyProof.Rows L2
abbrev sk (P : Program) (w : World) := PySem.strKind P w
def wd (e : Int × Value) : Str := match e.2 with | .str x _ => x | _ => Str.empty
def Tx (w : World) (e : Int × Value) : Prop := ∃ x u, e.2 = Value.str x u ∧ e.1 = hashStr w x
/-- the set of texts at a -/
def SetX (w : World) (h : Heap) (a : Addr) (M : Str → Bool) (m : Nat) : Prop :=
  ∃ ob cells ep tb, h.get? a = some ob ∧ ob.ExactSet ∧ ob.data = .set cells ep tb ∧ (∀ c ∈ cells.toList, Tx w c) ∧ (cells.toList.map wd).Nodup ∧ (∀ z, M z = true ↔ z ∈ cells.toList.map wd) ∧
    cells.size < scanBound ∧ tb.fits cells.size = true ∧ cells.size = m ∧ Ris tb.place.toList ∧ (w.params.followText "set-order" = true ∨ tb.led = true)
section
variable {P : Program} {w : World} {h h' : Heap} {a : Addr} {M : Str → Bool} {m : Nat}
theorem SetX.stay (R : SetX w h a M m) (k : ∀ ob, h.get? a = some ob → h'.get? a = some ob) : SetX w h' a M m := by
  obtain ⟨ob, cells, ep, tb, ho, r⟩ := R
  exact ⟨ob, cells, ep, tb, k ob ho, r⟩
theorem SetX.like {M' : Str → Bool} (R : SetX w h a M m) (e : ∀ z, M' z = M z) : SetX w h a M' m := by
  have q : M' = M := funext e
  rw [q]
  exact R
theorem tx_elems {l : List (Int × Value)} (g : ∀ c ∈ l, Tx w c) : ElemsOf (sk P w) l := fun c hc => by
  obtain ⟨z, u, h1, h2⟩ := g c hc
  exact ⟨⟨z, by rw [h1]; exact PySem.strKind_is P w z u, h2⟩, by rw [h1] <;> rfl⟩
theorem tx_is {c : Int × Value} (g : Tx w c) (z : Str) : (sk P w).is z c.2 = true ↔ wd c = z := by
  obtain ⟨z0, u, h1, _⟩ := g
  unfold wd
  rw [h1]
  constructor
  · intro q
    exact (sk P w).inj _ _ _ (PySem.strKind_is P w z0 u) q
  · intro q
    have q' : z0 = z := q
    rw [← q']
    exact PySem.strKind_is P w z0 u
theorem tx_mem {l : List (Int × Value)} (g : ∀ c ∈ l, Tx w c) (z : Str) : z ∈ l.map wd ↔ ∃ c ∈ l, (sk P w).is z c.2 = true := by
  rw [List.mem_map]
  constructor
  · rintro ⟨c, hc, q⟩
    exact ⟨c, hc, (tx_is (g c hc) z).2 q⟩
  · rintro ⟨c, hc, q⟩
    exact ⟨c, hc, (tx_is (g c hc) z).1 q⟩
theorem SetX.setOf (R : SetX w h a M m) : h.SetOf (sk P w) a M m := by
  obtain ⟨ob, cells, ep, tb, ho, hx, hd, g, nd, hm, hb, hf, hn, _⟩ := R
  exact ⟨ob, cells, ep, tb, ho, hx, hd, tx_elems g, fun z => (hm z).trans (tx_mem g z), hb, hf, hn⟩
end
section
variable {P : Program} {w : World} {A : Around} {E : Value → Shared → Prop} {s : Shared} {a : Addr} {M : Str → Bool} {m : Nat}
/-- behind the laying of a new entry: the table is stored, and laid anew where it is too full -/
theorem lay_tail {gv : Bool → Sem Unit} (hgv : ∀ (b : Bool) (s₁ : Shared) (Q' : Unit → Shared → Prop), Q' () s₁ → wpAny (model P w) A (gv b) Q' E s₁)
    {ob : Obj} {cells : Array (Int × Value)} {ep : Nat} {tb : SetTable} (ho : s.heap.get? a = some ob) (hex : ob.ExactSet) (hd : ob.data = .set cells ep tb)
    {c1 : Array (Int × Value)} {t2 : SetTable} {M' : Str → Bool} (g1 : ∀ c ∈ c1.toList, Tx w c) (nd1 : (c1.toList.map wd).Nodup) (m1 : ∀ z, M' z = true ↔ z ∈ c1.toList.map wd)
    (hb1 : c1.size < scanBound) (hf2 : t2.fits c1.size = true) (hr : Ris t2.place.toList) (hl : w.params.followText "set-order" = true ∨ t2.led = true) {dum : Bool} {R : Option Bool → Shared → Prop}
    (hR : ∀ h', Heap.SameBut a s.heap h' → SetX w h' a M' c1.size → R (some true) { s with heap := h' }) :
    wpAny (model P w) A (do
        storeSet a c1 t2
        if (!dum && t2.tooFull) = true then do
            gv (relayAll t2 c1 (SetTable.grown c1.size)).2.2
            storeSet a (relayAll t2 c1 (SetTable.grown c1.size)).1 (relayAll t2 c1 (SetTable.grown c1.size)).2.1
            pure (some true)
          else pure (some true)) R E s := by
  refine wpAny_bind (wpAny_storeSet_of ho hd ?_ (fits_of_scanBound hb1))
  have ho1 := store_at (es' := c1) (t' := t2) ho hd
  have sb1 := Heap.SameBut.update s.heap a (Obj.putSet c1 t2)
  split
  · have pm := relayAll_perm t2 c1 (SetTable.grown c1.size)
    have hf3 := relayAll_fits t2 c1 (SetTable.grown c1.size)
    have hr3 := relayAll_ris t2 c1 (SetTable.grown c1.size)
    have hl3 := relayAll_led t2 c1 (SetTable.grown c1.size)
    generalize relayAll t2 c1 (SetTable.grown c1.size) = Z at pm hf3 hr3 hl3 ⊢
    obtain ⟨c2, t3, gave⟩ := Z
    dsimp only at pm hf3 hr3 hl3 ⊢
    have hsz : c2.size = c1.size := by rw [← Array.length_toList, pm.length_eq, Array.length_toList]
    have hb2 : c2.size < scanBound := by rw [hsz]; exact hb1
    refine wpAny_bind (hgv _ _ _ ?_)
    refine wpAny_bind (wpAny_storeSet_of ho1 rfl ?_ (fits_of_scanBound hb2))
    have ho2 := store_at (es' := c2) (t' := t3) ho1 rfl
    refine wpAny_pure (hR _ (sb1.trans (Heap.SameBut.update _ a _)) ?_)
    exact ⟨_, c2, _, t3, ho2, hex, rfl, fun c hc => g1 c (pm.mem_iff.mp hc), (pm.map wd).nodup_iff.mpr nd1, fun z => (m1 z).trans (pm.map wd).mem_iff.symm, hb2, hf3, hsz, hr3,
      hl.imp id fun z => by rw [hl3]; exact z⟩
  · exact wpAny_pure (hR _ sb1 ⟨_, c1, _, t2, ho1, hex, rfl, g1, nd1, m1, hb1, hf2, rfl, hr, hl⟩)
theorem add_hashed {z : Str} {u : Tok} {Q : Bool → Shared → Prop} (R : SetX w s.heap a M m) (room : m + 1 < scanBound)
    (hQ : ∀ h', Heap.SameBut a s.heap h' → SetX w h' a (fun j => M j || decide (j = z)) (if M z = true then m else m + 1) → Q (!M z) { s with heap := h' }) :
    wpAny (model P w) A (setAddHashed a (.str z u) ((sk P w).hash z)) Q E s := by
  obtain ⟨ob, cells, ep, tb, ho, hex, hd, g, nd, hm, hb, hf, hn, hr, hl⟩ := R
  have hkey : (sk P w).is z (.str z u) = true := PySem.strKind_is P w z u
  have hsc : (Value.str z u).scannable = true := rfl
  have hel : ElemsOf (sk P w) cells.toList := tx_elems g
  unfold setAddHashed setAddHashedIn
  refine wpAny_holding (wpAny_bind (wpAny_setState_of ho hd hf ?_))
  dsimp only
  rw [byScan_of hsc hb hel]
  simp only [↓reduceIte]
  unfold setAddByScan
  refine wpAny_bind ?_
  refine wpAny_bind (wpAny_rule ?_)
  refine wpAny_bind (wpAny_setScan_of hkey ho hd hf hel ?_)
  cases hfi : List.findIdx? (fun c => (sk P w).is z c.2) cells.toList with
  | some j =>
    dsimp only
    obtain ⟨hj, pj, _⟩ := List.findIdx?_eq_some_iff_getElem.mp hfi
    have hMz : M z = true := (hm z).2 ((tx_mem (P := P) (w := w) g z).2 ⟨cells.toList[j], List.getElem_mem hj, pj⟩)
    refine wpAny_pure (wpAny_pure ?_)
    have q := hQ s.heap (Heap.SameBut.refl a s.heap) ⟨ob, cells, ep, tb, ho, hex, hd, g, nd, fun i => by
      rw [Bool.or_eq_true, decide_eq_true_eq, ← hm i]
      exact ⟨fun y => y.elim id (fun e => e ▸ hMz), .inl⟩, hb, hf, by rw [if_pos hMz]; exact hn, hr, hl⟩
    rw [hMz] at q
    exact q
  | none =>
    dsimp only
    have hnz : z ∉ cells.toList.map wd := fun y => by
      obtain ⟨c, hc, q⟩ := (tx_mem (P := P) (w := w) g z).1 y
      have d := List.findIdx?_eq_none_iff.mp hfi c hc
      rw [q] at d
      cases d
    have hMz : M z = false := by
      cases q : M z with
      | false => rfl
      | true => exact absurd ((hm z).1 q) hnz
    have hgw : ∀ (b : Bool) {s₁ : Shared} {Q' : Unit → Shared → Prop}, Q' () s₁ → wpAny (model P w) A (match b with | true => rule "set.scan.the-table-gave-way" | false => pure ()) Q' E s₁ :=
      fun b s₁ Q' q => by cases b <;> first | exact wpAny_pure q | exact wpAny_rule q
    have pm := layNew_perm tb cells ((sk P w).hash z) (.str z u)
    have hf1 := layNew_fits tb cells ((sk P w).hash z) (.str z u)
    have hr1 := layNew_ris tb cells ((sk P w).hash z) (.str z u) hr
    have hl1 := layNew_led tb cells ((sk P w).hash z) (.str z u)
    generalize layNew tb cells ((sk P w).hash z) (.str z u) = Z at pm hf1 hr1 hl1 ⊢
    obtain ⟨c1, t1, dum, gave⟩ := Z
    dsimp only at pm hf1 hr1 hl1 ⊢
    rw [Array.toList_push] at pm
    have pc : c1.toList.Perm (((sk P w).hash z, Value.str z u) :: cells.toList) := pm.trans (List.perm_append_singleton _ _)
    have pk : (c1.toList.map wd).Perm (z :: cells.toList.map wd) := pc.map wd
    have g1 : ∀ c ∈ c1.toList, Tx w c := fun c hc => by
      rcases List.mem_cons.mp (pc.mem_iff.mp hc) with y | y
      · rw [y]; exact ⟨z, u, rfl, rfl⟩
      · exact g c y
    have nd1 : (c1.toList.map wd).Nodup := pk.nodup_iff.mpr (List.nodup_cons.mpr ⟨hnz, nd⟩)
    have m1 : ∀ i, (M i || decide (i = z)) = true ↔ i ∈ c1.toList.map wd := fun i => by
      rw [Bool.or_eq_true, decide_eq_true_eq, hm i, pk.mem_iff, List.mem_cons]
      exact Or.comm
    have hsz : c1.size = m + 1 := by rw [← Array.length_toList, pc.length_eq, List.length_cons, Array.length_toList, hn]
    have hb1 : c1.size < scanBound := by rw [hsz]; exact room
    have hled : w.params.followText "set-order" = true ∨ t1.led = true := hl.imp id fun y => by rw [hl1]; exact y
    have fin : ∀ h', Heap.SameBut a s.heap h' → SetX w h' a (fun j => M j || decide (j = z)) c1.size → Q true { s with heap := h' } := fun h' sb r => by
      have q := hQ h' sb
      rw [hMz] at q
      rw [hsz] at r
      exact q r
    refine wpAny_bind (hgw _ ?_)
    split
    · refine wpAny_bind ?_
      rw [hashByValue_scannable 8 hsc]
      refine wpAny_pure ?_
      refine lay_tail ?_ ho hex hd g1 nd1 m1 hb1 ?_ ?_ ?_ ?_
      · intro b s₁ Q' q; cases b <;> first | exact wpAny_pure q | exact wpAny_rule q
      · first | (split <;> first | exact hf1 | exact SetTable.fits_plain_off hf1) | exact hf1
      · first | (split <;> exact hr1) | exact hr1
      · first | (split <;> exact hled) | exact hled
      · intro h' sb r; dsimp only; exact wpAny_pure (fin h' sb r)
    · refine wpAny_bind (wpAny_pure ?_)
      simp only [↓reduceIte]
      refine lay_tail ?_ ho hex hd g1 nd1 m1 hb1 hf1 hr1 hled ?_
      · intro b s₁ Q' q; cases b <;> first | exact wpAny_pure q | exact wpAny_rule q
      · intro h' sb r; dsimp only; exact wpAny_pure (fin h' sb r)
end
theorem txt_at : ∀ {us : List Value} {xs : List Str}, StrsAre us xs → ∀ (i : Nat) (v : Value), us[i]? = some v → ∃ t, v = .str (xs.getD i Str.empty) t
  | _, _, .nil, i, v, h => by simp at h
  | _, _, .cons n t hr, 0, v, h => by
    simp at h
    exact ⟨t, by rw [← h] <;> rfl⟩
  | _, _, .cons n t hr, i + 1, v, h => by
    simp only [List.getElem?_cons_succ] at h
    obtain ⟨t', e⟩ := txt_at hr i v h
    exact ⟨t', by rw [e] <;> rfl⟩
/-- what stands among the first i -/
def among (xs : List Str) (i : Nat) : Str → Bool := fun k => (xs.take i).any (· == k)
theorem among_succ (xs : List Str) {i : Nat} (h : i < xs.length) (k : Str) : among xs (i + 1) k = (among xs i k || decide (k = xs.getD i Str.empty)) := by
  unfold among
  have e : xs.getD i Str.empty = xs[i] := by rw [List.getD_eq_getElem?_getD, List.getElem?_eq_getElem h] <;> rfl
  rw [e, List.take_succ, List.getElem?_eq_getElem h, Option.toList_some, List.any_append]
  congr 1
  show ([xs[i]].any fun y => y == k) = _
  rw [List.any_cons, List.any_nil, Bool.or_false]
  by_cases q : k = xs[i]
  · rw [decide_eq_true q, q]
    exact beq_self_eq_true _
  · rw [decide_eq_false q]
    exact beq_eq_false_iff_ne.mpr fun z => q z.symm
section
variable {prog : Program} {w : World} {A : Around} {R : Result → Shared → Prop} {I : Addr} {fp wr : List Addr} {G : Array GenState → Array GenState → Prop} {n : Nat} {Pv : Nat → Value → Prop} {St : Nat → Shared → Prop}
theorem fill_loop (W : WalksS prog w A.in1 I fp wr G n Pv St) (S : Addr) (hSf : S ∉ fp) (xs : List Str) (hsz : xs.length = n) (hn1 : n + 1 < scanBound)
    (hval : ∀ i v, Pv i v → ∃ t, v = .str (xs.getD i Str.empty) t) :
    ∀ (k i m : Nat) (s : Shared), n - i = k → i ≤ n → m ≤ i → St i s → SetX w s.heap S (among xs i) m →
      (∀ s' m', m' ≤ n → Moved (S :: wr) G s s' → SetX w s'.heap S (among xs n) m' → R (.ok (.ret .none)) s') →
      codeAny (model prog w) A (.builtin "set.update.loop" ⟨[.ref S, .ref I], []⟩) R s := by
  have hSw : S ∉ wr := fun h => hSf (W.sub _ h)
  have hsub : ∀ b ∈ wr, b ∈ S :: wr := fun b hb => List.mem_cons_of_mem _ hb
  intro k
  induction k with
  | zero =>
    intro i m s hk hi hmi hst hS hR
    have hin : i = n := by omega
    subst hin
    refine codeAny_builtin PyProof.Rows.F.entry_set_update_loop ?_
    rw [Around.under_plainId PyProof.Rows.F.plain_set_update_loop _]
    show wpAny _ A.in1 (pyNext (.ref I) >>= _) _ _ s
    refine wpAny_bind (W.done s _ _ hst fun s' hm => ?_)
    show wpAny _ A.in1 (ret Value.none) _ _ s'
    exact wpAny_pure (hR s' m hmi (hm.mono hsub) (hS.stay fun ob ho => hm.heap S _ hSw ho))
  | succ k ih =>
    intro i m s hk hi hmi hst hS hR
    have hlt : i < n := by omega
    refine codeAny_builtin PyProof.Rows.F.entry_set_update_loop ?_
    rw [Around.under_plainId PyProof.Rows.F.plain_set_update_loop _]
    show wpAny _ A.in1 (pyNext (.ref I) >>= _) _ _ s
    refine wpAny_bind (W.item i s _ _ hlt hst fun v s' hP hst' hm => ?_)
    obtain ⟨t, rfl⟩ := hval i v hP
    have hS' : SetX w s'.heap S (among xs i) m := hS.stay fun ob ho => hm.heap S _ hSw ho
    show wpAny _ A.in1 (holding [Value.str (xs.getD i Str.empty) t] (setAdd S (.str (xs.getD i Str.empty) t)) >>= _) _ _ s'
    refine wpAny_bind (wpAny_holding ?_)
    unfold setAdd
    refine wpAny_holding ?_
    refine wpAny_bind ((PySem.strKind prog w).pyHash (k := xs.getD i Str.empty) (PySem.strKind_is _ _ _ _) ?_)
    refine add_hashed (s := { s' with toks := s'.toks + 1 }) hS' (by omega) fun h' hsb hS2 => ?_
    have hSi : SetX w h' S (among xs (i + 1)) (if among xs i (xs.getD i Str.empty) = true then m else m + 1) := hS2.like fun j => among_succ xs (by omega) j
    have hmi' : (if among xs i (xs.getD i Str.empty) = true then m else m + 1) ≤ i + 1 := by split <;> omega
    refine wpAny_pure ⟨plainId_quiet PyProof.Rows.F.plain_set_update_loop _, ih (i + 1) _ _ (by omega) hlt hmi' (W.frame _ s' _ _ hst' (Nat.le_succ _) fun b hb o e => ?_) hSi fun s'' m'' hm2 hm'' hS'' => ?_⟩
    · rw [hsb.2 b (fun h : b = S => hSf (by rw [← h]; exact hb))]
      exact e
    · refine hR s'' m'' hm2 (Moved.trans W.gtrans ((hm.mono hsub).then_heap (Nat.le_succ _) fun b o hb e => ?_) hm'') hS''
      rw [hsb.2 b (fun h : b = S => hb (by rw [h]; exact List.mem_cons_self))]
      exact e
end
end TxSet

namespace TxSet
open PySem PySem.Spec PyProof.Rows L2
/-- the fresh set -/
abbrev newSet (led : Bool) : Obj := { cls := .type "set", dict := none, data := .set #[] 0 (.fresh 0 0 led) }
section
variable {prog : Program} {w : World} {A : Around} {E : Value → Shared → Prop} {s : Shared}
theorem setX_fresh {h : Heap} {a : Addr} (w : World) (hg : h.get? a = some (newSet (!w.params.followText "set-order"))) : SetX w h a (fun _ => false) 0 :=
  ⟨_, #[], 0, _, hg, ⟨rfl, rfl, rfl⟩, rfl, (fun c hc => by simp at hc), (by simp), (fun z => by simp), (by decide), (by rfl), rfl, List.Pairwise.nil, by
    show _ ∨ (!w.params.followText "set-order") = true
    cases w.params.followText "set-order"
    · exact .inr rfl
    · exact .inl rfl⟩
set_option maxHeartbeats 8000000 in
theorem call_set_txt {l : Addr} {items : Array Value} {xs : List Str} {Q : Value → Shared → Prop}
    (hh : A.handled = none) (hl : s.heap.IsList l items) (hi : PyProof.Rows.StrsAre items.toList xs) (hn1 : xs.length + 1 < scanBound)
    (h : ∀ (h' : Heap) (tk m : Nat), m ≤ xs.length → SetX w h' s.heap.objs.size (fun z => decide (z ∈ xs)) m →
      (∀ b o, b < s.heap.objs.size → s.heap.get? b = some o → h'.get? b = some o) → Q (.ref s.heap.objs.size) { s with heap := h', toks := tk }) :
    wpAny (model prog w) A (call (.type "set") [.ref l]) Q E s := by
  have hsz0 : xs.length = items.size := by rw [← StrsAre.len_eq hi, Array.length_toList]
  obtain ⟨c, tl, hmro⟩ := PySem.F.called_set.mro
  have hmade := PySem.F.called_set.made
  have hsub := PySem.F.called_set.sub
  refine wpAny_call (codeAny_of_tree ?_)
  show wpAny _ _ (callAny (.type "set") _) _ _ _
  refine wpAny_pure ⟨Code.quiet_builtin _ (by decide +kernel), codeAny_builtin PySem.F.entry_type_call ?_⟩
  rw [Around.under_plain (weight_type_call_type "set" [.ref l] []) rfl]
  have h1 := PySem.F.called_set.notType
  have h2 := PySem.F.called_set.canCreate
  have hct := PySem.F.typeCall_set_1 (.ref l)
  repeat (any_goals (first | assumption | wp_step))
  refine codeAny_mono (code_set_led1 (.ref l) (E := E) (Q₁ := fun obj s₁ => obj = .ref s.heap.objs.size ∧ s₁ = { s with heap := s.heap.push (newSet (!w.params.followText "set-order")) }) ⟨rfl, rfl⟩) fun r s₁ hr => ?_
  cases r with
  | error e => exact hr
  | ok fl =>
    cases fl with
    | ret obj =>
      obtain ⟨rfl, rfl⟩ := hr
      have hS : (s.heap.push (newSet (!w.params.followText "set-order"))).get? s.heap.objs.size = some (newSet (!w.params.followText "set-order")) := Heap.get?_push_size _ rfl
      have hT : Shared.TypeIs { s with heap := s.heap.push (newSet (!w.params.followText "set-order")) } (.ref s.heap.objs.size) "set" := ⟨_, hS, rfl⟩
      have hli := PySem.F.called_set.init.lookup
      have hbi := PySem.F.called_set.init.bind (.ref s.heap.objs.size)
      repeat (any_goals (first | assumption | wp_step))
      refine codeAny_mono (codeAny_call_builtin (R := wants (fun r s₂ => r = .none ∧ ∃ h' tk m, s₂ = { s with heap := h', toks := tk } ∧ m ≤ xs.length ∧
          SetX w h' s.heap.objs.size (fun z => decide (z ∈ xs)) m ∧
          (∀ b o, b < s.heap.objs.size → s.heap.get? b = some o → h'.get? b = some o)) E) PySem.F.called_set.init.plain PySem.F.entry_set_init (check_set_init_1 hT ?_)) fun r₂ s₂ hr₂ => ?_
      · obtain ⟨ol, hol, hcl, nl, hdl⟩ := hl
        obtain ⟨ocls, odict, odata, oslots⟩ := ol
        simp only at hcl hdl
        subst hcl; subst hdl
        have hol' : (s.heap.push (newSet (!w.params.followText "set-order"))).get? l = some { cls := .type "list", dict := odict, data := .seq items nl, slots := oslots } := Heap.get?_push_of_some _ hol
        have hsls := PySem.F.sub_list_set
        have hslf := PySem.F.sub_list_frozenset
        have hne : (Value.type "list" == Value.type "dict") = false := by decide
        have hl1 : (s.heap.push (newSet (!w.params.followText "set-order"))).IsList l items := ⟨_, hol', rfl, nl, rfl⟩
        unfold Builtin.«set.__init__» noKeywords Builtin.Frozenset.updateFrom
        generalize hPI : pyIter = PI
        wp_walk
        subst hPI
        refine wpAny_pyIter_list hl1 ?_
        refine wpAny_bind (wpAny_runValue ?_)
        have hlS : l < s.heap.objs.size := Heap.lt_size hol
        have hh3 : A.in1.in1.in1.handled = none := by simp [hh]
        have hneI : l ≠ (s.heap.push (newSet (!w.params.followText "set-order"))).objs.size := by
          rw [Heap.size_push]; exact Nat.ne_of_lt (Nat.lt_succ_of_lt hlS)
        have hSf : s.heap.objs.size ∉ [(s.heap.push (newSet (!w.params.followText "set-order"))).objs.size, l] := by
          rw [Heap.size_push]; simp only [List.mem_cons, List.mem_singleton, List.not_mem_nil, or_false, not_or]
          exact ⟨Nat.ne_of_lt (Nat.lt_succ_self _), Nat.ne_of_gt hlS⟩
        have hval : ∀ (i : Nat) (v : Value), items[i]? = some v → ∃ t, v = .str (xs.getD i Str.empty) t := fun i v hv => txt_at hi i v (by rw [Array.getElem?_toList]; exact hv)
        refine fill_loop ((Walks.list hh3 _ l hneI items).toS) s.heap.objs.size
          hSf xs hsz0 (by rw [← hsz0]; exact hn1) hval (items.size - 0) 0 0 _ (by omega) (Nat.zero_le _) (Nat.le_refl _)
          ⟨⟨_, Heap.get?_push_size _ rfl, rfl, rfl⟩, (hl1.push _)⟩ ?hS0 ?hR
        case hS0 =>
          have hget : ((s.heap.push (newSet (!w.params.followText "set-order"))).push { cls := .type "list_iterator", data := .fields #[.ref l, .int 0 0] }).get? s.heap.objs.size
              = some (newSet (!w.params.followText "set-order")) := Heap.get?_push_of_some _ hS
          exact (setX_fresh w hget).like fun z => rfl
        case hR =>
          intro s' m' hm' hm hS'
          obtain ⟨h', g', d', tk', os'⟩ := s'
          have eg : g' = s.gens := hm.gens
          have ed : d' = s.drawn := hm.drawn
          have eo : os' = s.os := hm.os
          subst eg; subst ed; subst eo
          show wpAny _ _ _ _ _ _
          refine wpAny_pure ?_
          show wpAny _ _ (ret Value.none) _ _ _
          refine wpAny_pure ⟨rfl, h', tk', m', rfl, by omega, hS'.like fun z => ?_, fun b o hb e => ?_⟩
          · unfold among
            rw [← hsz0, List.take_length]
            by_cases q : z ∈ xs
            · rw [decide_eq_true q]
              exact ((List.any_eq_true (p := fun x => x == z)).mpr ⟨z, q, beq_self_eq_true z⟩).symm
            · rw [decide_eq_false q]
              refine (List.any_eq_false.mpr fun y hy e => q ?_).symm
              rw [← beq_iff_eq.mp e]
              exact hy
          · have hb1 : b ≠ s.heap.objs.size := Nat.ne_of_lt hb
            have hb2 : b ≠ (s.heap.push (newSet (!w.params.followText "set-order"))).objs.size := by
              rw [Heap.size_push]; exact Nat.ne_of_lt (Nat.lt_succ_of_lt hb)
            exact hm.heap b o (by simp only [List.mem_cons, List.mem_singleton, List.not_mem_nil, or_false, not_or]; exact ⟨hb1, hb2⟩) (Heap.get?_push_of_some _ (Heap.get?_push_of_some _ e))
      · cases r₂ with
        | error e => exact hr₂
        | ok fl₂ =>
          cases fl₂ with
          | ret r =>
            obtain ⟨rfl, h', tk, m', rfl, hm', hS', hk'⟩ := hr₂
            repeat (any_goals (first | assumption | wp_step))
            exact h _ _ m' hm' hS' hk'
          | _ => exact hr₂.elim
    | _ => exact hr.elim
theorem strs_all {w : World} {vs : List Value} {cells : List (Int × Value)} (g : ∀ c ∈ cells, Tx w c) (pm : vs.Perm (cells.map (·.2))) : ∀ v, v ∈ vs → ∃ x t, v = .str x t := fun v hv => by
  obtain ⟨c, hc, q⟩ := List.mem_map.mp (pm.mem_iff.mp hv)
  obtain ⟨x, t, h1, _⟩ := g c hc
  exact ⟨x, t, by rw [← q]; exact h1⟩
theorem wd_eq {w : World} {c : Int × Value} (g : Tx w c) : strOf c.2 = wd c := by
  obtain ⟨x, t, h1, _⟩ := g
  unfold strOf wd
  rw [h1]
theorem sorted_txt {a : Addr} {M : Str → Bool} {m : Nat} {Q : Value → Shared → Prop} (R : SetX w s.heap a M m) (hh : A.handled = none)
    (hQ : ∀ s' p (out : Array Value) (c : Nat) (ys : List Str), (∀ b o, s.heap.get? b = some o → s'.heap.get? b = some o) → s'.gens = s.gens → s'.os = s.os → s.heap.objs.size ≤ p →
      s'.heap.get? p = some (seqObj "list" out c) → StrsAre out.toList ys → sortedS ys = true → ys.Nodup → (∀ z, z ∈ ys ↔ M z = true) → ys.length = m → Q (.ref p) s') :
    wpAny (model prog w) A (call (.builtin "sorted") [.ref a]) Q E s := by
  obtain ⟨ob, cells, ep, tb, ho, hex, hd, g, nd, hm, hb, hf, hn, hr, hl⟩ := R
  refine Calls.call_function_entry kind_sorted plain_sorted entry_sorted (args_sorted1 _) ?_
  unfold Builtin.«sorted»
  refine wpAny_bind (m := checkCount "sorted" 1 1 _) (wpAny_pure ?_)
  refine wpAny_bind (collect_set (A := A.in1) hh ⟨ob, ho, hex.1, hd⟩ hf hb hr hl fun s1 vs k1 hz g1 o1 pm => ?_)
  have hvl : vs.length = m := by rw [pm.length_eq, List.length_map, Array.length_toList]; exact hn
  have hS : StrsAre vs (vs.map strOf) := strsAre_map vs (strs_all g pm)
  have pk : (vs.map strOf).Perm (cells.toList.map wd) := by
    have q := pm.map strOf
    rw [List.map_map] at q
    have e : cells.toList.map (strOf ∘ fun x => x.2) = cells.toList.map wd := List.map_congr_left fun c hc => wd_eq (g c hc)
    rw [e] at q
    exact q
  have hsl : vs.length ≤ sizeLine := by rw [hvl, ← hn]; exact fits_of_scanBound hb
  refine wpAny_bind (wpAny_newList ?_ hsl)
  have hoL : (s1.heap.push (seqObj "list" vs.toArray 0)).get? s1.heap.objs.size = some (seqObj "list" vs.toArray 0) := Heap.get?_push_size _ rfl
  refine wpAny_bind (wpAny_holding (wpAny_call_entry slot_list_sort ⟨_, hoL, rfl⟩ entry_list_sort (list_sort_treeKAny strKind_oneLt hoL hS.keysOf (fun v₁ v₂ rest e => keyKind_strs (by rw [← e]; exact hS)) hsl fun st' hp hs => ⟨_, rfl, ?_⟩) (args_list_sort _)))
  obtain ⟨ys, a1, a2, a3⟩ := sorted_out_str hS hp hs
  obtain ⟨c, hc⟩ := sortedHeap_at (vs := vs) (out := (arrOf st').map (·.2)) hoL
  have pn : ys.Perm (cells.toList.map wd) := a2.trans pk
  refine wpAny_pure ⟨_, rfl, hQ _ s1.heap.objs.size _ c ys (fun b u e => ?_) g1 o1 hz hc a1 a3 (pn.nodup_iff.mpr nd) (fun z => by rw [pn.mem_iff, ← hm z]) ?_⟩
  · have q := k1 b u e
    have hlt := Heap.lt_size q
    show (sortedHeap (s1.heap.push (seqObj "list" vs.toArray 0)) s1.heap.objs.size vs _).get? b = some u
    rw [sortedHeap_old (Nat.ne_of_lt hlt) (by rw [size_push']; exact Nat.lt_succ_of_lt hlt)]
    exact Heap.get?_push_of_some _ q
  · rw [pn.length_eq, List.length_map, Array.length_toList]; exact hn
end
section
variable {X : Cx}
theorem txts_of : ∀ {ys : List Str} {us : List Value}, Vals (ys.map V.str) us → StrsAre us ys
  | [], _, .nil => .nil
  | y :: ys, _, .cons r t => by
    obtain ⟨k, rfl⟩ := r
    exact .cons y k (txts_of t)
theorem srt_fin {pins : List (Addr × Obj)} {σ : L2.St} {H1 : Hp} {Q : VK} {s2 : Shared} (I2 : Inv X pins σ H1 s2) (hc : X.calm = true) {a0 : Addr} {M : Str → Bool} {m : Nat} (hS : SetX X.w s2.heap a0 M m) (hm : m ≤ 1000)
    (q1 : ∀ (ys : List Str) (p : Addr), sortedS ys = true → ys.Nodup → (∀ z, z ∈ ys ↔ M z = true) → H1 p = none → Q (.ref p) (upd H1 p (.lst (ys.map V.str)))) :
    wpAny (model X.prog X.w) X.A (call (.builtin "sorted") [.ref a0]) (EP X pins σ Q) X.xe s2 := by
  refine sorted_txt hS (I2.ok.hd hc) fun s' p' out c ys k g o hp hgt hi hs hnd hmem hlen => ?_
  have hle : (ys.map V.str).length ≤ sizeLine := by rw [List.length_map, sizeLine_eq]; omega
  have hn : H1 p' = none := I2.hok.fresh hp
  have J : Inv X pins σ (upd H1 p' (.lst (ys.map V.str))) { s2 with heap := s'.heap, gens := s'.gens, drawn := s'.drawn, toks := s'.toks } :=
    I2.call (ch := []) (Un.laid k hp hn) (I2.hok.laid k hp ⟨hle, out.toList, c, vals_of_strs hi, hgt⟩) (by rw [g]; exact I2.bare) (fun _ z => nomatch z)
  have e : s' = { s2 with heap := s'.heap, gens := s'.gens, drawn := s'.drawn, toks := s'.toks } := by
    cases s'
    cases s2
    cases o
    rfl
  rw [e]
  exact ⟨.ref p', _, J, rfl, q1 ys p' hs hnd hmem hn⟩
/-- sorted(set(xs)), xs a list of texts: what is among them, each once, in order -/
def tSrtSet (K : PySem.W.Frag) (ta : TE) : TE := fun σ H Q => ta σ H fun x H1 => ∃ (l : Addr) (xs : List Str), x = .ref l ∧ SqL K H1 l (xs.map V.str) ∧ xs.length ≤ 1000 ∧
  ∀ (ys : List Str) (p : Addr), sortedS ys = true → ys.Nodup → (∀ z, z ∈ ys ↔ z ∈ xs) → H1 p = none → Q (.ref p) (upd H1 p (.lst (ys.map V.str)))
theorem pe_srtSet {a : Expr} {ta : TE} {p p2 q pos : Pos} (hc : X.calm = true) (hg : Gl X "sorted") (hm : X.mg "sorted" = none) (hg2 : Gl X "set") (hm2 : X.mg "set" = none) (ha : PE X a ta)
    (na : starEach [a] X.env = (false, eval a X.env) :: starEach [] X.env := by rfl) : PE X (.Call (.Name "sorted" p) [.Call (.Name "set" p2) [a] [] q] [] pos) (tSrtSet X.K ta) := by
  refine ⟨fun pins s σ H Q I h => ?_⟩
  refine Call_ (ld_blt I hg hm (u := .builtin "sorted") (by decide +kernel) ?_)
  refine PyProof.Rows.callWith_builtin1 (PyProof.Rows.args_cons ?_ rfl) rfl rfl
  refine Call_ (ld_blt I hg2 hm2 boot_set ?_)
  refine PyProof.Rows.callWith_type1 (PyProof.Rows.args_cons (thn (ha.run pins s σ H _ I h) fun v s1 ⟨x, H1, I1, r1, q1⟩ => PyProof.Rows.args_nil ?_) na) na rfl
  obtain ⟨l, xs, rfl, hq, hfew, q1⟩ := q1
  cases r1
  obtain ⟨its, r, pl, hz⟩ := I1.list hq
  refine call_set_txt (I1.ok.hd hc) pl.isList (by simpa using txts_of r) (by unfold scanBound; omega) fun h' tk m hm' hS hk => ?_
  refine PyProof.Rows.args_nil ?_
  have I2 : Inv X pins σ H1 { s1 with heap := h', toks := tk } := I1.kept fun b o e => hk b o (Heap.lt_size e) e
  exact srt_fin I2 hc hS (by omega) fun ys p' hs hnd hmem hn => q1 ys p' hs hnd (fun z => by rw [hmem z, decide_eq_true_eq]) hn
end
end TxSet

/-! Values as data, whatever the row: what is said of a word, a hole, entries, a goal. -/
namespace VA
open PySem L2 SX AddrMath
/-- all but what stands at d is as it was -/
def But (d : Addr) (H H' : Hp) : Prop := ∀ b o, H b = some o → b ≠ d → H' b = some o
theorem same_new {p : Addr} {H : Hp} {o : HO} (h : H p = none) : Same H (upd H p o) := fun b u e => by rw [upd_ne (ne_of_none e h)]; exact e
theorem same_seqT {K : PySem.W.Frag} {H H' : Hp} {a : Addr} {xs : List V} (e : Same H H') (h : SqT K H a xs) : SqT K H' a xs := by
  rcases h with (h | ⟨o, h⟩) | h
  · exact .inl (.inl (e _ _ h))
  · exact .inl (.inr ⟨o, e _ _ h⟩)
  · exact .inr h
/-- a list or a tuple of these is to be read at a -/
def SqA (K : PySem.W.Frag) (H : Hp) (a : Addr) (xs : List V) : Prop := SqL K H a xs ∨ SqT K H a xs
theorem SqA.same {K : PySem.W.Frag} {H H' : Hp} {a : Addr} {xs : List V} (h : SqA K H a xs) (e : Same H H') : SqA K H' a xs := h.imp e.seq (same_seqT e)
/-- a list, a tuple, what is locked -/
def seqO : HO → Bool
  | .lst _ => true
  | .tup _ => true
  | .frz _ _ => true
  | _ => false
/-- lists and tuples stand as they stood -/
def Kp (H H' : Hp) : Prop := ∀ b o, H b = some o → seqO o = true → H' b = some o
theorem kp_same {H H' : Hp} (s : Same H H') : Kp H H' := fun b o e _ => s b o e
theorem Kp.trans {H H1 H2 : Hp} (a : Kp H H1) (b : Kp H1 H2) : Kp H H2 := fun c o e k => b c o (a c o e k) k
theorem kp_put {H : Hp} {p : Addr} {u o : HO} (h : H p = some u) (n : seqO u = false) : Kp H (upd H p o) := fun b v e k => by
  by_cases z : b = p
  · rw [z, h] at e
    cases e
    rw [n] at k
    cases k
  · rw [upd_ne z]
    exact e
theorem kp_but {d : Addr} {H H' : Hp} {u : HO} (h : H d = some u) (n : seqO u = false) (b : But d H H') : Kp H H' := fun c o e k => b c o e fun z => by
  rw [z, h] at e
  cases e
  rw [n] at k
  cases k
theorem Kp.sqL {K : PySem.W.Frag} {H H' : Hp} {a : Addr} {xs : List V} (e : Kp H H') (h : SqL K H a xs) : SqL K H' a xs := by
  rcases h with (h | ⟨o, h⟩) | h
  · exact .inl (.inl (e _ _ h rfl))
  · exact .inl (.inr ⟨o, e _ _ h rfl⟩)
  · exact .inr h
theorem Kp.sqT {K : PySem.W.Frag} {H H' : Hp} {a : Addr} {xs : List V} (e : Kp H H') (h : SqT K H a xs) : SqT K H' a xs := by
  rcases h with (h | ⟨o, h⟩) | h
  · exact .inl (.inl (e _ _ h rfl))
  · exact .inl (.inr ⟨o, e _ _ h rfl⟩)
  · exact .inr h
theorem Kp.sqA {K : PySem.W.Frag} {H H' : Hp} {a : Addr} {xs : List V} (e : Kp H H') (h : SqA K H a xs) : SqA K H' a xs := h.imp e.sqL e.sqT
section
variable {K : PySem.W.Frag}
mutual
theorem dp_kp {H H' : Hp} (s : Kp H H') : ∀ {d : PyData} {v : V}, Dp K H v d → Dp K H' v d
  | .none, _, h => by
    cases h
    exact .non
  | .bool b, _, h => by
    cases h
    exact .bl b
  | .int i, _, h => by
    cases h
    exact .int i
  | .str x, _, h => by
    cases h
    exact .str x
  | .list ds, _, h => by
    cases h with
    | lst h1 h2 => exact .lst (s.sqL h1) (dps_kp s h2)
  | .tuple ds, _, h => by
    cases h with
    | tup h1 h2 => exact .tup (s.sqT h1) (dps_kp s h2)
  | .dict _, _, h => by cases h
theorem dps_kp {H H' : Hp} (s : Kp H H') : ∀ {ds : List PyData} {vs : List V}, DpAll K H vs ds → DpAll K H' vs ds
  | [], _, h => by
    cases h
    exact .nil
  | d :: ds, _, h => by
    cases h with
    | cons h1 h2 => exact .cons (dp_kp s h1) (dps_kp s h2)
end
theorem dp_same {H H' : Hp} (s : Same H H') {d : PyData} {v : V} (h : Dp K H v d) : Dp K H' v d := dp_kp (kp_same s) h
theorem dps_same {H H' : Hp} (s : Same H H') {ds : List PyData} {vs : List V} (h : DpAll K H vs ds) : DpAll K H' vs ds := dps_kp (kp_same s) h
theorem dps_len {H : Hp} : ∀ {ds : List PyData} {vs : List V}, DpAll K H vs ds → vs.length = ds.length
  | [], _, h => by cases h; rfl
  | d :: ds, _, h => by
    cases h with
    | cons h1 h2 => rw [List.length_cons, List.length_cons, dps_len h2]
theorem dps_at {H : Hp} : ∀ {ds : List PyData} {vs : List V}, DpAll K H vs ds → ∀ {v}, v ∈ vs → ∃ d ∈ ds, Dp K H v d
  | [], _, h, v, hv => by cases h; cases hv
  | d :: ds, _, h, v, hv => by
    cases h with
    | cons h1 h2 =>
      rcases List.mem_cons.mp hv with e | e
      · rw [e]
        exact ⟨d, List.mem_cons_self .., h1⟩
      · obtain ⟨d', hd, h'⟩ := dps_at h2 e
        exact ⟨d', List.mem_cons_of_mem _ hd, h'⟩
theorem dps_get {H : Hp} : ∀ {ds : List PyData} {vs : List V}, DpAll K H vs ds → ∀ {i : Nat} {v : V}, vs[i]? = some v → ∃ d, ds[i]? = some d ∧ Dp K H v d
  | [], _, h, i, v, hv => by cases h; cases hv
  | d :: ds, _, h, 0, v, hv => by
    cases h with
    | cons h1 h2 =>
      cases hv
      exact ⟨d, rfl, h1⟩
  | d :: ds, _, h, i + 1, v, hv => by
    cases h with
    | cons h1 h2 => exact dps_get h2 hv
theorem dps_app {H : Hp} : ∀ {ds es : List PyData} {vs us : List V}, DpAll K H vs ds → DpAll K H us es → DpAll K H (vs ++ us) (ds ++ es)
  | [], _, _, _, h, g => by cases h; exact g
  | d :: ds, es, _, us, h, g => by
    cases h with
    | cons h1 h2 => exact .cons h1 (dps_app h2 g)
/-! ### the size of data -/
mutual
def okD : Nat → PyData → Bool
  | _, .none => true
  | _, .bool _ => true
  | _, .int _ => true
  | _, .str x => decide (x.length ≤ 1000) && PyData.strOk x
  | n, .list l => decide (1 ≤ n) && (decide (l.length ≤ 5000) && okAll (n - 1) l)
  | n, .tuple l => decide (1 ≤ n) && (decide (l.length ≤ 5000) && okAll (n - 1) l)
  | _, .dict _ => false
def okAll : Nat → List PyData → Bool
  | _, [] => true
  | n, d :: ds => okD n d && okAll n ds
end
theorem okAll_mem : ∀ {n : Nat} {ds : List PyData}, okAll n ds = true → ∀ d ∈ ds, okD n d = true
  | n, [], _, d, h => by cases h
  | n, e :: ds, h, d, hd => by
    rw [okAll, Bool.and_eq_true] at h
    rcases List.mem_cons.mp hd with z | z
    · rw [z]
      exact h.1
    · exact okAll_mem h.2 d z
theorem okAll_of : ∀ {n : Nat} {ds : List PyData}, (∀ d ∈ ds, okD n d = true) → okAll n ds = true
  | n, [], _ => by rw [okAll]
  | n, e :: ds, h => by
    rw [okAll, Bool.and_eq_true]
    exact ⟨h e (List.mem_cons_self ..), okAll_of fun d hd => h d (List.mem_cons_of_mem _ hd)⟩
mutual
theorem ok_lay : ∀ {n : Nat} {d : PyData}, okD n d = true → d.canLay0 = true ∧ d.depth ≤ n
  | n, .none, _ => ⟨rfl, by simp [PyData.depth]⟩
  | n, .bool _, _ => ⟨rfl, by simp [PyData.depth]⟩
  | n, .int _, _ => ⟨rfl, by simp [PyData.depth]⟩
  | n, .str x, h => by
    rw [okD, Bool.and_eq_true] at h
    exact ⟨by simpa [PyData.canLay0] using h.2, by simp [PyData.depth]⟩
  | n, .list l, h => by
    rw [okD, Bool.and_eq_true, Bool.and_eq_true, decide_eq_true_eq] at h
    have q := oks_lay h.2.2
    refine ⟨by rw [PyData.canLay0]; exact q.1, ?_⟩
    rw [PyData.depth]
    have := h.1
    have := q.2
    omega
  | n, .tuple l, h => by
    rw [okD, Bool.and_eq_true, Bool.and_eq_true, decide_eq_true_eq] at h
    have q := oks_lay h.2.2
    refine ⟨by rw [PyData.canLay0]; exact q.1, ?_⟩
    rw [PyData.depth]
    have := h.1
    have := q.2
    omega
  | n, .dict _, h => by rw [okD] at h; cases h
theorem oks_lay : ∀ {n : Nat} {ds : List PyData}, okAll n ds = true → PyData.canLayAll0 ds = true ∧ PyData.depthAll ds ≤ n
  | n, [], _ => ⟨by rw [PyData.canLayAll0], by rw [PyData.depthAll]; omega⟩
  | n, d :: ds, h => by
    rw [okAll, Bool.and_eq_true] at h
    have a := ok_lay h.1
    have b := oks_lay h.2
    refine ⟨by rw [PyData.canLayAll0, a.1, b.1]; rfl, ?_⟩
    rw [PyData.depthAll]
    have := a.2
    have := b.2
    omega
end
theorem ok_shaped {n : Nat} {d : PyData} (h : okD n d = true) (hn : n ≤ 60) : SeqAt.shaped d = true := by
  have q := ok_lay h
  unfold SeqAt.shaped
  rw [q.1, Bool.true_and]
  exact decide_eq_true (by have := q.2; omega)
mutual
theorem ok_mono : ∀ {n m : Nat} {d : PyData}, n ≤ m → okD n d = true → okD m d = true
  | n, m, .none, _, _ => by rw [okD]
  | n, m, .bool _, _, _ => by rw [okD]
  | n, m, .int _, _, _ => by rw [okD]
  | n, m, .str x, _, h => by rw [okD] at h ⊢; exact h
  | n, m, .list l, k, h => by
    rw [okD, Bool.and_eq_true, Bool.and_eq_true, decide_eq_true_eq] at h ⊢
    exact ⟨by omega, h.2.1, oks_mono (by omega) h.2.2⟩
  | n, m, .tuple l, k, h => by
    rw [okD, Bool.and_eq_true, Bool.and_eq_true, decide_eq_true_eq] at h ⊢
    exact ⟨by omega, h.2.1, oks_mono (by omega) h.2.2⟩
  | n, m, .dict _, _, h => by rw [okD] at h; cases h
theorem oks_mono : ∀ {n m : Nat} {ds : List PyData}, n ≤ m → okAll n ds = true → okAll m ds = true
  | n, m, [], _, _ => by rw [okAll]
  | n, m, d :: ds, k, h => by
    rw [okAll, Bool.and_eq_true] at h ⊢
    exact ⟨ok_mono k h.1, oks_mono k h.2⟩
end
theorem ok_seq {n : Nat} {ds : List PyData} (h : ds.length ≤ 1000) (k : ∀ d ∈ ds, okD n d = true) : okD (n + 1) (.list ds) = true ∧ okD (n + 1) (.tuple ds) = true := by
  constructor
  · rw [okD, Bool.and_eq_true, Bool.and_eq_true, decide_eq_true_eq, decide_eq_true_eq]
    exact ⟨by omega, by omega, okAll_of k⟩
  · rw [okD, Bool.and_eq_true, Bool.and_eq_true, decide_eq_true_eq, decide_eq_true_eq]
    exact ⟨by omega, by omega, okAll_of k⟩
/-! ### a value that is data, or a dict -/
def Vx (K : PySem.W.Frag) (H : Hp) (x : V) (d : PyData) : Prop := (Dp K H x d ∧ okD 8 d = true) ∨ ∃ a kvs, x = .ref a ∧ H a = some (.dK kvs) ∧ d = .dict []
theorem Vx.same {H H' : Hp} {x : V} {d : PyData} (h : Vx K H x d) (s : Same H H') : Vx K H' x d := by
  rcases h with ⟨h, o⟩ | ⟨a, kvs, e, h, q⟩
  · exact .inl ⟨dp_same s h, o⟩
  · exact .inr ⟨a, kvs, e, s _ _ h, q⟩
def tyN : PyData → String
  | .none => "NoneType"
  | .bool _ => "bool"
  | .int _ => "int"
  | .str _ => "str"
  | .list _ => "list"
  | .tuple _ => "tuple"
  | .dict _ => "dict"
theorem sql_ty {H : Hp} {a : Addr} {xs : List V} (h : SqL K H a xs) : TyX K H (.ref a) (.type "list") := by
  rcases h with (h | ⟨o, h⟩) | ⟨o, its, n, h1, h2, _⟩
  · exact .base (.lst h)
  · exact .base (.frz h)
  · exact .kList h1 h2
theorem sqt_ty {H : Hp} {a : Addr} {xs : List V} (h : SqT K H a xs) : TyX K H (.ref a) (.type "tuple") := by
  rcases h with (h | ⟨o, h⟩) | ⟨o, its, n, h1, h2, _⟩
  · exact .base (.tup h)
  · exact .fTuple h
  · exact .kTuple h1 h2
theorem dp_ty {H : Hp} {x : V} {d : PyData} (h : Dp K H x d) : TyX K H x (.type (tyN d)) := by
  cases h with
  | non => exact .base .non
  | bl b => exact .base (.bl b)
  | int i => exact .base (.int i)
  | str z => exact .base (.str z)
  | lst h1 h2 => exact sql_ty h1
  | tup h1 h2 => exact sqt_ty h1
theorem Vx.ty {H : Hp} {x : V} {d : PyData} (h : Vx K H x d) : TyX K H x (.type (tyN d)) := by
  rcases h with ⟨h, _⟩ | ⟨a, kvs, rfl, h, rfl⟩
  · exact dp_ty h
  · exact .base (.dK h)
/-! ### what is a word, a hole, entries, a goal -/
def isWordD : PyData → Bool
  | .str x => isW x.cps.toList
  | _ => false
def isIntD : PyData → Bool
  | .int _ => true
  | _ => false
def isHoleD : PyData → Bool
  | .int i => decide (1 ≤ i) && decide (i ≤ 2)
  | _ => false
def isEntD (d : PyData) : Bool := isWordD d || isHoleD d
def isSeqD : PyData → Bool
  | .list _ => true
  | .tuple _ => true
  | _ => false
def itemsD : PyData → List PyData
  | .list l => l
  | .tuple l => l
  | _ => []
def areEntD (most : Int) (d : PyData) : Bool := isSeqD d && (decide (((itemsD d).length : Int) ≤ most) && (itemsD d).all isEntD)
/-- an entry is among these -/
def inD (e : PyData) (ds : List PyData) : Bool := ds.any fun d => PyData.eqv d e
def isGoalD (g p : PyData) : Bool := match g with
  | .none => true
  | .tuple [s, b] => isWordD s && (areEntD 4 b && (itemsD b).all fun e => isWordD e || inD e (itemsD p))
  | _ => false
/-- the first wrong argument of a rule -/
def wrongD (s p g x : PyData) : Option Str :=
  if isWordD s = false then some (Str.ofString "state") else if areEntD 2 p = false then some (Str.ofString "pattern") else if isGoalD g p = false then some (Str.ofString "goal")
  else match x with
    | .bool _ => none
    | _ => some (Str.ofString "is_exact")
/-- an entry's value -/
def entV : PyData → V
  | .int i => .int i
  | .str x => .str x
  | _ => .non
theorem ent_val {H : Hp} {x : V} {d : PyData} (h : Dp K H x d) (e : isEntD d = true) : x = entV d := by
  cases h with
  | int i => rfl
  | str z => rfl
  | non => cases e
  | bl b => cases e
  | lst h1 h2 => cases e
  | tup h1 h2 => cases e
theorem ents_val {H : Hp} : ∀ {ds : List PyData} {vs : List V}, DpAll K H vs ds → ds.all isEntD = true → vs = ds.map entV
  | [], _, h, _ => by cases h; rfl
  | d :: ds, _, h, e => by
    cases h with
    | cons h1 h2 =>
      rw [List.all_cons, Bool.and_eq_true] at e
      rw [List.map_cons, ← ent_val h1 e.1, ← ents_val h2 e.2]
theorem ent_dp {H : Hp} {d : PyData} (e : isEntD d = true) : Dp K H (entV d) d := by
  cases d with
  | int i => exact .int i
  | str z => exact .str z
  | _ => cases e
theorem ents_dp {H : Hp} : ∀ {ds : List PyData}, ds.all isEntD = true → DpAll K H (ds.map entV) ds
  | [], _ => .nil
  | d :: ds, e => by
    rw [List.all_cons, Bool.and_eq_true] at e
    exact .cons (ent_dp e.1) (ents_dp e.2)
theorem ent_flat {d : PyData} (e : isEntD d = true) : flatV (entV d) = true := by
  cases d with
  | int i => rfl
  | str z => rfl
  | _ => cases e
theorem ents_flat : ∀ {ds : List PyData}, ds.all isEntD = true → (ds.map entV).all flatV = true
  | [], _ => rfl
  | d :: ds, e => by
    rw [List.all_cons, Bool.and_eq_true] at e
    rw [List.map_cons, List.all_cons, ent_flat e.1, ents_flat e.2]
    rfl
theorem eqv_ent {d e : PyData} (hd : isEntD d = true) (he : isEntD e = true) : eqV (entV d) (entV e) = PyData.eqv d e := by
  cases d with
  | int i =>
    cases e with
    | int j => simp [entV, eqV, PyData.eqv]
    | str z => simp [entV, eqV, PyData.eqv]
    | _ => cases he
  | str z =>
    cases e with
    | int j => simp [entV, eqV, PyData.eqv]
    | str y => simp [entV, eqV, PyData.eqv]
    | _ => cases he
  | _ => cases hd
theorem inV_ent {e : PyData} (he : isEntD e = true) : ∀ {ds : List PyData}, ds.all isEntD = true → inV (entV e) (ds.map entV) = inD e ds
  | [], _ => rfl
  | d :: ds, h => by
    rw [List.all_cons, Bool.and_eq_true] at h
    have ih := inV_ent he h.2
    unfold inV inD at ih ⊢
    rw [List.map_cons, List.any_cons, List.any_cons, eqv_ent h.1 he, ih]
/-! ### a word, by the signs -/
theorem asc_facts : ∀ c : Nat, c < 128 → (Unicode.isAlpha c && !(Unicode.isUpper c || Unicode.isTitle c)) = isL c := by decide +kernel
theorem low_facts : ∀ k : Nat, k < 26 → Unicode.isLower (97 + k) = true := by decide +kernel
theorem word_txt (x : Str) (h1 : 1 ≤ x.length) (h8 : x.length ≤ 8) : (Txt.isascii x && (Txt.isalpha x && Txt.islower x)) = isW x.cps.toList := by
  have hl : x.cps.toList.length = x.length := (TL.len_tl x).symm
  have e1 : Txt.isascii x = x.cps.toList.all (fun c => decide (c < 128)) := by
    unfold Txt.isascii
    rw [← Array.all_toList]
  have e2 : Txt.isalpha x = x.cps.toList.all (fun c => Unicode.isAlpha c) := by
    unfold Txt.isalpha
    rw [← Array.all_toList, decide_eq_true (show x.length > 0 from h1), Bool.true_and]
  have e3 : Txt.islower x = (x.cps.toList.any (fun c => Unicode.isLower c) && !(x.cps.toList.any fun c => Unicode.isUpper c || Unicode.isTitle c)) := by
    unfold Txt.islower
    rw [← Array.any_toList, ← Array.any_toList]
  rw [e1, e2, e3]
  cases hW : isW x.cps.toList with
  | true =>
    have hw := (isW_iff.mp hW).2.2
    have le : ∀ c ∈ x.cps.toList, c < 128 := fun c hc => by
      have := hw c hc
      unfold isL at this
      rw [Bool.and_eq_true, decide_eq_true_eq, decide_eq_true_eq] at this
      omega
    have f : ∀ c ∈ x.cps.toList, Unicode.isAlpha c = true ∧ (Unicode.isUpper c || Unicode.isTitle c) = false := fun c hc => by
      have q := asc_facts c (le c hc)
      rw [hw c hc, Bool.and_eq_true, Bool.not_eq_true'] at q
      exact q
    rw [List.all_eq_true.mpr fun c hc => decide_eq_true (le c hc), List.all_eq_true.mpr fun c hc => (f c hc).1]
    have e4 : (x.cps.toList.any fun c => Unicode.isUpper c || Unicode.isTitle c) = false := List.any_eq_false.mpr fun c hc => by rw [(f c hc).2]; exact Bool.false_ne_true
    rw [e4]
    obtain ⟨c, r, e⟩ : ∃ c r, x.cps.toList = c :: r := by
      cases q : x.cps.toList with
      | nil =>
        rw [q] at hl
        have : (0 : Nat) = x.length := hl
        omega
      | cons c r => exact ⟨c, r, rfl⟩
    have hc : isL c = true := hw c (by rw [e]; exact List.mem_cons_self ..)
    have lc : Unicode.isLower c = true := by
      unfold isL at hc
      rw [Bool.and_eq_true, decide_eq_true_eq, decide_eq_true_eq] at hc
      have z := low_facts (c - 97) (by omega)
      rw [show 97 + (c - 97) = c by omega] at z
      exact z
    rw [e, List.any_cons, lc]
    rfl
  | false =>
    cases h : (x.cps.toList.all (fun c => decide (c < 128)) && (x.cps.toList.all (fun c => Unicode.isAlpha c) && (x.cps.toList.any (fun c => Unicode.isLower c) && !(x.cps.toList.any fun c => Unicode.isUpper c || Unicode.isTitle c)))) with
    | false => rfl
    | true =>
      rw [Bool.and_eq_true, Bool.and_eq_true, Bool.and_eq_true, List.all_eq_true, List.all_eq_true, Bool.not_eq_true', List.any_eq_false] at h
      obtain ⟨a, b, c, d⟩ := h
      have : isW x.cps.toList = true := isW_iff.mpr ⟨by rw [hl]; exact h1, by rw [hl]; exact h8, fun z hz => by
        have q := asc_facts z (by have := a z hz; exact of_decide_eq_true this)
        rw [b z hz, Bool.eq_false_iff.mpr (d z hz)] at q
        exact q.symm⟩
      rw [this] at hW
      cases hW
theorem word_len {x : Str} (h : isW x.cps.toList = true) : 1 ≤ x.length ∧ x.length ≤ 8 := by
  have q := isW_iff.mp h
  have hl : x.cps.toList.length = x.length := (TL.len_tl x).symm
  rw [hl] at q
  exact ⟨q.1, q.2.1⟩
end
end VA

/-! Rules beside the hand layer's: what is walked may be a list or a tuple; a comprehension that maps; a def of the text with all that a call of it wants. -/
namespace VA
open PySem L2 SX AddrMath
/-- a def of the text and all that a call of it wants -/
structure Own (P : Program) (w : World) (K : PySem.W.Frag) (mg : Str → Option Value) (base : Heap) (CX : CXT) (n : Nat) (x : Str) (ps : List Str) (sp : Sp) where
  f : Addr
  fd : FuncData
  g : FnOk P w K mg base CX n f fd ps sp
  mg : mg x = some (.ref f)
  kp : PySem.W.keepIn K (.ref f) = true
  b : Binds K fd ps []
theorem st_is {A : L2.St → Hp → Prop} {σ σ' : L2.St} {H : Hp} (e : σ = σ') (h : A σ' H) : A σ H := by rw [e]; exact h
theorem hp_is {A : L2.St → Hp → Prop} {σ : L2.St} {H H' : Hp} (e : H = H') (h : A σ H') : A σ H := by rw [e]; exact h
section
variable {X : Cx} {tg : Expr}
def iSeq (K : PySem.W.Frag) (te : TE) : TI := fun σ H R => te σ H fun x H1 => ∃ a, x = .ref a ∧ (((∃ xs, SqL K H1 a xs) ∧ R (Itl K a) H1) ∨ ((∃ xs, SqT K H1 a xs) ∧ R (Itt K a) H1))
theorem pi_seq {e : Expr} {te : TE} (pe : PE X e te) : PI X tg e (iSeq X.K te) := by
  refine ⟨fun pn s σ H R J h => ?_⟩
  refine thn (pe.run pn s σ H _ J h) fun v s2 ⟨x, H2, J2, rx, q2⟩ => ?_
  obtain ⟨a, ex, q2⟩ := q2
  subst ex
  cases rx
  rcases q2 with ⟨⟨xs, hq⟩, q⟩ | ⟨⟨xs, hq⟩, q⟩
  · obtain ⟨its, rv, p, hz⟩ := J2.list hq
    refine wpAny_pyIter_list p.isList ⟨s2.heap.objs.size, [s2.heap.objs.size], _, _, H2, rfl, J2.kept (t' := s2.toks) fun b o z => Heap.get?_push_of_some _ z, turn_list a _, ⟨_, Heap.get?_push_size _ rfl, rfl, rfl⟩, fun b hb => ?_, q⟩
    obtain rfl : b = s2.heap.objs.size := by simpa using hb
    exact J2.fpOk (Nat.le_refl _) (J2.hok.fresh (Nat.le_refl _))
  · obtain ⟨its, rv, p, hz⟩ := J2.tuple hq
    refine wpAny_pyIter_tuple (show s2.heap.IsTuple a its.toArray from p) ⟨s2.heap.objs.size, [s2.heap.objs.size], _, _, H2, rfl, J2.kept (t' := s2.toks) fun b o z => Heap.get?_push_of_some _ z, turn_tuple a _, ⟨_, Heap.get?_push_size _ rfl, rfl, rfl⟩, fun b hb => ?_, q⟩
    obtain rfl : b = s2.heap.objs.size := by simpa using hb
    exact J2.fpOk (Nat.le_refl _) (J2.hok.fresh (Nat.le_refl _))
end
theorem take_snoc {α : Type} {xs : List α} {i : Nat} {x : α} (h : xs[i]? = some x) : xs.take (i + 1) = xs.take i ++ [x] := by
  rw [List.take_succ, h]
  rfl
/-- a comprehension over a list or a tuple whose test and element are known by values, and leave what stands -/
theorem seq_map {K : PySem.W.Frag} {a : Addr} {xs : List V} {j : Nat} {tt : TT} {te : TE} {vs : List Nat} {σ : L2.St} {H1 : Hp} {Qd : Addr → Hp → Prop} (hq : SqA K H1 a xs) (few : xs.length ≤ 1000) (p : V → Bool) (F : V → V)
    (hw : ∀ x, wipe ((wipe σ vs).set j (some x)) vs = wipe σ vs)
    (step : ∀ x ∈ xs, ∀ H, Same H1 H → (∀ R : Bool → Hp → Prop, (∀ H', Same H H' → R (p x) H') → tt ((wipe σ vs).set j (some x)) H R) ∧ (p x = true → ∀ H', Same H H' → ∀ R : VK, (∀ H'', Same H' H'' → R (F x) H'') → te ((wipe σ vs).set j (some x)) H' R))
    (fin : ∀ D H', H1 D = none → H' D = some (.lst ((xs.filter p).map F)) → Same H1 H' → Qd D H') :
    ∃ a', V.ref a = V.ref a' ∧ (((∃ ys, SqL K H1 a' ys) ∧ ∀ D, H1 D = none → ∃ W : Nat → Nat → Hp → Prop, (∃ m, W 0 m (upd H1 D (.lst []))) ∧ ∀ i m H, W i m H →
      ((Itl K a').stop i H ∧ Qd D H) ∨ ((Itl K a').go i H ∧ ∃ Nx : Hp → Prop, (∀ H', Nx H' → ∃ m', m' < m ∧ W (i + 1) m' H') ∧ ∀ x H', (Itl K a').yld i H x H' → gName j x (wipe σ vs) H' fun σ2 H2 => wipe σ2 vs = wipe σ vs ∧ tt σ2 H2 fun b H3 =>
        if b = true then te σ2 H3 fun y H4 => ∃ acc, H4 D = some (.lst acc) ∧ acc.length < sizeLine ∧ Nx (upd H4 D (.lst (acc ++ [y]))) else Nx H3)) ∨
     ((∃ ys, SqT K H1 a' ys) ∧ ∀ D, H1 D = none → ∃ W : Nat → Nat → Hp → Prop, (∃ m, W 0 m (upd H1 D (.lst []))) ∧ ∀ i m H, W i m H →
      ((Itt K a').stop i H ∧ Qd D H) ∨ ((Itt K a').go i H ∧ ∃ Nx : Hp → Prop, (∀ H', Nx H' → ∃ m', m' < m ∧ W (i + 1) m' H') ∧ ∀ x H', (Itt K a').yld i H x H' → gName j x (wipe σ vs) H' fun σ2 H2 => wipe σ2 vs = wipe σ vs ∧ tt σ2 H2 fun b H3 =>
        if b = true then te σ2 H3 fun y H4 => ∃ acc, H4 D = some (.lst acc) ∧ acc.length < sizeLine ∧ Nx (upd H4 D (.lst (acc ++ [y]))) else Nx H3))) := by
  have key : ∀ D, H1 D = none → ∀ i x H, xs[i]? = some x → (Same H1 H ∧ H D = some (.lst (((xs.take i).filter p).map F))) → gName j x (wipe σ vs) H fun σ2 H2 => wipe σ2 vs = wipe σ vs ∧ tt σ2 H2 fun b H3 =>
        if b = true then te σ2 H3 fun y H4 => ∃ acc, H4 D = some (.lst acc) ∧ acc.length < sizeLine ∧ (Same H1 (upd H4 D (.lst (acc ++ [y]))) ∧ (upd H4 D (.lst (acc ++ [y]))) D = some (.lst (((xs.take (i + 1)).filter p).map F))) else (Same H1 H3 ∧ H3 D = some (.lst (((xs.take (i + 1)).filter p).map F))) := by
    rintro D nD i x H hx ⟨s1, hD⟩
    have hm : x ∈ xs := List.mem_of_getElem? hx
    obtain ⟨t1, t2⟩ := step x hm H s1
    refine ⟨hw x, t1 _ fun H' s2 => ?_⟩
    have hD2 := s2 _ _ hD
    rw [take_snoc hx, List.filter_append, List.map_append]
    cases e : p x with
    | false =>
      refine iteF ⟨s1.trans s2, ?_⟩
      rw [show [x].filter p = [] by simp [e], List.map_nil, List.append_nil]
      exact hD2
    | true =>
      refine iteT (t2 e H' s2 _ fun H'' s3 => ⟨_, s3 _ _ hD2, ?_, fun b o z => ?_, ?_⟩)
      · refine small1000 (Nat.le_trans ?_ few)
        rw [List.length_map]
        exact Nat.le_trans (List.length_filter_le _ _) (by rw [List.length_take]; exact Nat.min_le_right _ _)
      · rw [upd_ne (ne_of_none z nD)]
        exact s3 _ _ (s2 _ _ (s1 _ _ z))
      · rw [upd_same, show [x].filter p = [x] by simp [e]]
        rfl
  have fin' : ∀ D, H1 D = none → ∀ H, (Same H1 H ∧ H D = some (.lst (((xs.take xs.length).filter p).map F))) → Qd D H := by
    rintro D nD H ⟨s1, hD⟩
    rw [List.take_length] at hD
    exact fin D H nD hD s1
  refine ⟨a, rfl, ?_⟩
  rcases hq with hq | hq
  · exact .inl ⟨⟨xs, hq⟩, fun D nD => lc_list (K := K) (a := a) (xs := xs) (fun i H => Same H1 H ∧ H D = some (.lst (((xs.take i).filter p).map F))) ⟨same_new nD, upd_same⟩ (fun i H _ z => z.1.seq hq) (key D nD) (fin' D nD)⟩
  · exact .inr ⟨⟨xs, hq⟩, fun D nD => lc_tup (K := K) (a := a) (xs := xs) (fun i H => Same H1 H ∧ H D = some (.lst (((xs.take i).filter p).map F))) ⟨same_new nD, upd_same⟩ (fun i H _ z => same_seqT z.1 hq) (key D nD) (fin' D nD)⟩
theorem filter_yes {α : Type} (xs : List α) : xs.filter (fun _ => true) = xs := by simp
theorem no_test {σ : L2.St} {H : Hp} {R : Bool → Hp → Prop} (h : ∀ H', Same H H' → R true H') : tYes σ H R := h H (Same.refl H)
end VA
namespace VA
open PySem L2 SX AddrMath
theorem op_inK {X : Cx} {K : PySem.W.Frag} (h : X.K = K) : OpR X (compareOp .In) (rIn K false) := by
  subst h
  exact op_in_seq
theorem op_notInK {X : Cx} {K : PySem.W.Frag} (h : X.K = K) : OpR X (compareOp .NotIn) (rIn K true) := by
  subst h
  exact op_notIn_seq
end VA
namespace VA
open PySem L2 SX AddrMath
/-- tuple(x), x a list or a tuple: a tuple of the same -/
def rTupA (K : PySem.W.Frag) : List V → Hp → VK → Prop := fun xs H Q => ∃ p ys, xs = [V.ref p] ∧ SqA K H p ys ∧ ∀ t H', SqT K H' t ys → Same H H' → Q (.ref t) H'
theorem call_tupA {X : Cx} : CallR X (.type "tuple") (rTupA X.K) := by
  intro pn s σ H xs us Q J r h
  obtain ⟨p, ys, e, hp, q⟩ := h
  refine call_tuple_of pn s σ H xs us Q J r ⟨p, ys, e, ?_⟩
  rcases hp with hp | hp
  · exact .inl ⟨hp, fun l nl => q l _ (.inl (.inl upd_same)) (same_new nl)⟩
  · exact .inr ⟨hp, q p H hp (Same.refl H)⟩
/-- t + u of tuples -/
def rCatB (K : PySem.W.Frag) : R2 := fun x y H Q => ∃ a b xs ys, x = .ref a ∧ y = .ref b ∧ SqT K H a xs ∧ SqT K H b ys ∧ xs.length + ys.length ≤ 1000 ∧ ∀ t H', SqT K H' t (xs ++ ys) → Same H H' → Q (.ref t) H'
theorem op_catB {X : Cx} : OpR X (binaryOp .Add) (rCatB X.K) := by
  intro pn s σ H x y v u Q J rx ry h
  obtain ⟨a, b, xs, ys, ex, ey, ha, hb, few, q⟩ := h
  refine op_catA pn s σ H x y v u Q J rx ry ⟨a, b, xs, ys, ex, ey, ha, hb, Nat.le_of_lt (small1000 few), fun e => ?_, fun _ e => ?_, fun _ _ t nt => q t _ (.inl (.inl upd_same)) (same_new nt)⟩
  · subst e
    exact q b H hb (Same.refl H)
  · subst e
    refine q a H ?_ (Same.refl H)
    rw [List.append_nil]
    exact ha
/-- list(x), x a list or a tuple: a new list -/
def rLstA (K : PySem.W.Frag) : List V → Hp → VK → Prop := fun xs H Q => ∃ p ys, xs = [V.ref p] ∧ SqA K H p ys ∧ ∀ l, H l = none → Q (.ref l) (upd H l (.lst ys))
theorem call_lstA {X : Cx} : CallR X (.type "list") (rLstA X.K) := by
  intro pn s σ H xs us Q J r h
  obtain ⟨p, ys, e, hp, q⟩ := h
  exact call_list_of pn s σ H xs us Q J r ⟨p, ys, e, hp, q⟩
end VA
namespace VA
open PySem L2 SX AddrMath
/-- an expression's reading, said otherwise -/
theorem pe_by {X : Cx} {e : Expr} {t : TE} (t' : TE) (h : PE X e t) (k : ∀ σ H Q, t' σ H Q → t σ H Q) : PE X e t' := ⟨fun pn s σ H Q J w => h.run pn s σ H Q J (k σ H Q w)⟩
theorem ps_by {X : Cx} {st : Stmt} {t : TS} (t' : TS) (h : PS X st t) (k : ∀ D σ H, t' D σ H → t D σ H) : PS X st t' := ⟨fun pn s σ H D J w => h.run pn s σ H D J (k D σ H w)⟩
theorem pss_by {X : Cx} {st : List Stmt} {t : TS} (t' : TS) (h : PSs X st t) (k : ∀ D σ H, t' D σ H → t D σ H) : PSs X st t' := ⟨fun pn s σ H D J w => h.run pn s σ H D J (k D σ H w)⟩
theorem pt_by {X : Cx} {e : Expr} {t : TT} (t' : TT) (h : PT X e t) (k : ∀ σ H Q, t' σ H Q → t σ H Q) : PT X e t' := ⟨fun pn s σ H Q J w => h.run pn s σ H Q J (k σ H Q w)⟩
end VA

/-! len of a written dict. -/
namespace VA
open PySem PySem.Spec PyProof.Rows L2
section
variable {prog : Program} {w : World} {A : Around} {E : Value → Shared → Prop} {s : Shared} {d : Addr} {es : Array DictEntry} {ep : Nat}
theorem len_raw {Q : Value → Shared → Prop} (hd : (d == sysModules) = false) (hm : s.heap.DictRaw d es ep) (few : (es.size : Int) < 2 ^ 63)
    (h : Q (.int es.size (s.toks + 1)) { s with toks := s.toks + 1 + 1 }) : wpAny (model prog w) A (call (.builtin "len") [.ref d]) Q E s := by
  refine Calls.call_function_entry kind_len plain_len entry_len (args_len1 _) ?_
  unfold Builtin.«len»
  refine wpAny_bind (m := oneArg "len" _) (wpAny_pure ?_)
  refine wpAny_bind (m := callSpecial? (.ref d) (Str.ofString "__len__")) (wpAny_callSpecial?_slot (name := Str.ofString "__len__") hm.typeIs F.slot_dict_len (call_len_raw hd hm ?_))
  show wpAny _ _ _ _ _ { s with toks := s.toks + 1 }
  refine wpAny_bind (wpAny_holding (wpAny_pure ?_))
  refine wpAny_bind (wpAny_letGo ?_)
  show wpAny _ _ (if ((es.size : Nat) : Int) < 0 then _ else _) _ _ _
  rw [if_neg (by omega)]
  show wpAny _ _ (if ((es.size : Nat) : Int) ≥ 2 ^ 63 then _ else _) _ _ _
  rw [if_neg (by omega)]
  exact wpAny_bind (wpAny_mkInt (wpAny_pure ⟨_, rfl, h⟩))
end
/-- len(d), d a dict of the written part -/
theorem call_lenK {X : Cx} {d : Addr} {es : Array DictEntry} {n : Nat} (at_ : X.K.lookup d = some ⟨.type "dict", none, .dict es n, #[]⟩) (low : (d == sysModules) = false) (few : (es.size : Int) < 2 ^ 63) :
    CallR X (.builtin "len") (fun xs H Q => xs = [V.ref d] ∧ Q (.int es.size) H) := by
  intro pn s σ H xs us Q J r h
  obtain ⟨rfl, q⟩ := h
  obtain ⟨u, rfl, ru⟩ := vals1 r
  cases ru
  exact len_raw low ⟨_, J.kIn _ _ at_, ⟨rfl, rfl, rfl⟩, rfl⟩ few ⟨.int es.size, H, J.tok _, ⟨_, rfl⟩, q⟩
end VA

/-! Own errors of one field: made, caught, looked at; an instance made with keywords where it may raise. -/
namespace K3X
open PySem PySem.W PySem.Spec PySem.Calls PyProof.Rows
variable {pr : Program} {wo : World} {Ar : Around} {Er : Value → Shared → Prop} {F : Frag} {x D : Addr} {ox : Obj}
/-- e.__class__ of an error that has its own dict -/
theorem cls_xd {s : Shared} {od : Obj} {G : Option Value → Shared → Prop} (C : L2.ExcC F D) (inF : F.In s.heap) (at_ : InstAt s.heap x ox D (some od)) (fin : G (some (.ref D)) { s with toks := s.toks + 1 }) :
    wpAny (model pr wo) Ar (getAttr? (.ref x) "__class__") G Er s := by
  have found : findObj F D (some od) "__class__" = some (.bind (.builtin "getset_descriptor.__get__") (.builtin "object.__class__")) :=
    findObj_data (by obtain ⟨_, hcd, _⟩ := any_some C.hd; rw [hcd]; rfl) C.ha C.hn C.ht
  obtain ⟨hh, ge, dr, tk, os⟩ := s
  have lt := at_.type (M := model pr wo); have lg := looks_findIn (M := model pr wo) inF C.hg
  have lk := looks_findIn (M := model pr wo) inF C.hk; have lf := looks_find (M := model pr wo) inF at_ found
  have isB : Looks (model pr wo) hh (isInstance (.ref x) (.type "BaseException")) true := lt.andThen (looks_subIn inF C.hs)
  have n2 : (Value.builtin "BaseException.__getattribute__" == Value.builtin "object.__getattribute__") = false := by decide +kernel
  have n1 : (onTheHeap (Value.ref D) && Value.builtin "BaseException.__getattribute__" == Value.builtin "object.__getattribute__") = false := by rw [n2]; rfl
  unfold getAttr? getAttrBy? getAttrBy; refine wpAny_bind (wpAny_mkText (wpAny_bind (wpAny_attempt (wpAny_holding (wpAny_bind (lt.at (wpAny_bind (lg.at ?_))))))))
  show wpAny _ _ (ite ((onTheHeap (Value.ref D) && Value.builtin "BaseException.__getattribute__" == Value.builtin "object.__getattribute__") = true) _ _) _ _ _
  rw [n1, if_neg Bool.false_ne_true]; unfold getAttrByItsOwn hookBefore
  refine wpAny_bind ?_; rw [if_pos (show onTheHeap (Value.ref D) = true from rfl)]; refine lk.at ?_
  refine wpAny_bind (wpAny_attempt (wpAny_holding ?_)); unfold callGetattribute
  rw [show (false && onTheHeap (Value.builtin "BaseException.__getattribute__")) = false from rfl, if_neg Bool.false_ne_true]; unfold boundAndCalled
  rw [PySem.F.excAttr_ValueError.ga.bind (.ref x)]; refine wpAny_bind (wpAny_pure ?_)
  show wpAny _ _ (call (.builtin "BaseException.__getattribute__") [.ref x, .str "__class__" tk]) _ _ _
  refine wpAny_call (codeAny_call_builtin PySem.F.excAttr_ValueError.ga.plain PySem.F.entry_bexc_ga (@check_slot (model pr wo) _ _ ⟨hh, ge, dr, tk + 1, os⟩ "BaseException.__getattribute__" "BaseException" "__getattribute__" (.ref x)
    [.str "__class__" tk] [] _ (by decide +kernel) (by decide +kernel) isB (PySem.F.args_bexc_ga (.ref x) (.str "__class__" tk)) ?_))
  unfold Builtin.«object.__getattribute__»; refine wpAny_bind (wpAny_of_eq (a := ((Value.ref x : Value), [Value.str "__class__" tk])) (by first | rfl | (simp only [slotArgs]; rfl)) ?_)
  refine wpAny_bind (wpAny_pure (wpAny_bind (lt.at (wpAny_bind (lf.at ?_)))))
  show wpAny _ _ (holding [Value.builtin "object.__class__"] (call (.builtin "getset_descriptor.__get__") [.builtin "object.__class__", .ref x, .ref D]) >>= ret) _ _ _
  refine wpAny_bind (wpAny_holding (wpAny_call (class_get (s := ⟨hh, ge, dr, tk + 1, os⟩) (ox := ox) (od := some od) inF at_ C.hm (wpAny_pure ?_))))
  show wpAny _ _ (handedOut (.ref D)) _ _ _
  rw [handedOut_of (v := .ref D) rfl]
  first
    | exact wpAny_pure (wpAny_pure fin)
    | exact wpAny_pure fin
    | exact wpAny_pure (wpAny_bind (wpAny_pure (wpAny_pure fin)))
/-- the class's own record -/
theorem rec_of {h : Heap} (C : L2.ExcC F D) (inF : F.In h) : ∃ o cd, h.get? D = some o ∧ o.data = .cls cd ∧ F.lookup D = some o := by
  obtain ⟨cd, hcd, _⟩ := any_some C.hd
  unfold clsIn at hcd
  split at hcd
  · rename_i c1 d1 cd1 sl1 ho
    exact ⟨_, cd1, inF _ _ ho, rfl, ho⟩
  · cases hcd
theorem kit_xd (C : L2.ExcC F D) : KitX F (.ref x) (.ref D) (fun h => ∃ od, InstAt h x ox D (some od)) where
  ty := fun _ _ _ ⟨_, I⟩ => I.type
  it := fun _ _ inF _ => by
    intro A1 Q1 E1 s1 kp q
    obtain ⟨o, cd, ho, hd, _⟩ := rec_of C inF
    unfold isType loadHead
    exact wpAny_bind (wpAny_loadPart (kp _ _ ho) (by rw [hd]; exact wpAny_pure q))
  ne := fun h tp dd its n sl inF htp => by
    obtain ⟨o, cd, ho, hd, _⟩ := rec_of C inF
    refine Bool.eq_false_iff.mpr fun q => ?_
    have e : D = tp := Value.ref.inj (beq_iff_eq.mp q)
    subst e
    rw [ho] at htp
    have z := Option.some.inj htp
    rw [z] at hd
    cases hd
  ca := fun inF ⟨_, I⟩ k => cls_xd C inF I k
end K3X
namespace VA
open PySem L2 SX AddrMath
/-- isinstance(e, c), e the caught error with a dict of its own -/
def rIsX (F : PySem.W.Frag) (D a : Addr) (cls : Value) (d : Option Addr) : List V → Hp → VK → Prop := fun xs H Q => ∃ (c : V) (cv : Value) (b : Bool) (dd : Addr) (fs : List (Str × V)), xs = [.ref a, c] ∧ cls = .ref D ∧ (∀ u, RelV c u → u = cv) ∧ d = some dd ∧ H dd = some (.xd fs) ∧ PySem.W.kitOne F (.ref D) cv = some b ∧ Q (.bl b) H
theorem call_isX {X : Cx} {a D : Addr} {cls : Value} {d : Option Addr} {oe : Obj} {pn : List (Addr × Obj)} (C : ExcC X.K D) (hz : Zc cls d oe) (hf : ∃ vs, oe.data = .fields vs) : CallR (X.suite a ((a, oe) :: pn)) (.builtin "isinstance") (rIsX X.K D a cls d) := by
  intro pins s σ H xs us Q I r h
  obtain ⟨c, cv, b, dd, fs, rfl, ecl, hcv, rfl, hdd, e, q⟩ := h
  subst ecl
  cases r with
  | cons rx rr =>
    cases rr with
    | cons rt rr =>
      cases rr
      cases rx
      obtain rfl := hcv _ rt
      have ha := (I.pin (a, oe) (List.mem_append_left _ List.mem_cons_self)).1
      obtain ⟨vs, hv⟩ := hf
      have hx : ObjOk X.prog X.w H s.heap dd (.xd fs) := I.hok dd _ hdd
      obtain ⟨mA, hns, _⟩ := hx
      obtain ⟨od, ho, _⟩ := lookIn_ns hns
      have J : PySem.W.InstAt s.heap a oe D (some od) := ⟨ha, hz.1, by unfold PySem.W.notCls; rw [hv] <;> rfl, by rw [hz.2]; exact ho⟩
      exact PySem.W.kia_one (K3X.kit_xd C) I.kIn ⟨od, J⟩ e (fun z => nomatch z) fun tk => ⟨.bl b, H, I.kept (t' := tk) fun _ _ z => z, rfl, q⟩
end VA
namespace VA
open PySem L2 SX AddrMath PySem.Spec PyProof.Rows
/-- what the text says of an own error with one field n, at C, and of its __init__, at fI -/
structure ErrC (K : PySem.W.Frag) (mg : Str → Option Value) (x n : Str) (C fI : Addr) : Prop where
  ox : OexC K C
  iC : PySem.W.findIn K (.ref C) "__init__" = some (some (.ref fI))
  tI : PySem.W.typeIn K (.ref fI) = some (.type "function")
  no : PySem.W.findIn K (.ref C) n = some none
  mgC : mg x = some (.ref C)
abbrev ixF (n : Str) (v : V) : List (Str × V) := [(n, v)]
def spErr (n : Str) (C : Addr) : Sp := fun vs H Q _ => ∃ (a : Addr) (v : V), vs = [.ref a, v] ∧ H a = some (exo a C none) ∧ ∀ dx, H dx = none → dx ≠ a → Q .non (upd (upd H dx (exd dx (ixF n v))) a (exo a C (some dx)))
/-- an own error of one field, made -/
theorem err_use {n : Str} {C a : Addr} {H1 : Hp} {v : V} {Q : XK} {E : XK} (na : H1 a = none) (q : ∀ d, H1 d = none → Q (.ref C) (some d) (upd H1 d (.xd (ixF n v)))) :
    spErr n C [.ref a, v] (upd H1 a (exo a C none)) (fun u H2 => u = .non ∧ ∃ (d : Addr) (fs : List (Str × V)), H2 a = some (exo a C (some d)) ∧ H2 d = some (exd d fs) ∧ H1 d = none ∧ Q (.ref C) (some d) (upd (del H2 a) d (.xd fs))) E := by
  refine ⟨a, v, rfl, upd_same, fun dx nd ne => ⟨rfl, dx, ixF n v, upd_same, ?_, ?_, ?_⟩⟩
  · rw [upd_ne ne, upd_same]
  · rw [upd_ne ne] at nd
    exact nd
  · have n1 : H1 dx = none := by
      rw [upd_ne ne] at nd
      exact nd
    have e : upd (del (upd (upd (upd H1 a (exo a C none)) dx (exd dx (ixF n v))) a (exo a C (some dx))) a) dx (.xd (ixF n v)) = upd H1 dx (.xd (ixF n v)) := by
      funext b
      by_cases h1 : b = dx
      · rw [h1, upd_same, upd_same]
      · rw [upd_ne h1, upd_ne h1]
        by_cases h2 : b = a
        · rw [h2, del_same, na]
        · rw [del_ne h2, upd_ne h2, upd_ne h1, upd_ne h2]
    rw [e]
    exact q dx n1

/-! ### C(e, .., k = v, ..) where what __init__ lets out is wished for at the caller's slots -/
def tMakeNS (C : Addr) (n m : Nat) (sp : Sp) (gV : List V → List V → List V) (E : L2.St → XK) (t tk : TA) : TE := fun σ H Q => t σ H fun vs H1 => tk σ H1 fun zs H2 => vs.length = n ∧ zs.length = m ∧
  ∀ y dy, H2 y = none → H2 dy = none → dy ≠ y → sp (gV (.ref y :: vs) zs) (upd (upd H2 dy (.own y)) y (.ins C dy [])) (fun v H3 => v = .non ∧ Q (.ref y) H3) (E σ)
section
variable {X : Cx} {CX : CXT} {k n : Nat} {f C : Addr} {fd : FuncData} {names ks : List Str} {sp : Sp} {E : L2.St → XK} {x : Str} {p pos : Pos} {e : Expr} {es : List Expr} {kws : List Keyword} {t tk : TA} {g : List Value → List Value → List Value} {gV : List V → List V → List V}
theorem make_kS {pn : List (Addr × Obj)} {σ : L2.St} {H : Hp} {s : Shared} {Q : VK} {us ws : List Value} {vs zs : List V} (M : Mk X.K C f) (D : FnOk X.prog X.w X.K X.mg X.base CX k f fd names sp) (room : Room (k + 1) X.A) (bn : KBn X.K fd names (n + 1) ks g gV)
    (pa : PassesAt CX X σ (E σ)) (J : Inv X pn σ H s) (rv : Vals vs us) (rz : Vals zs ws) (l1 : vs.length = n) (l2 : zs.length = ks.length)
    (want : ∀ y dy, H y = none → H dy = none → dy ≠ y → sp (gV (.ref y :: vs) zs) (upd (upd H dy (.own y)) y (.ins C dy [])) (fun v H2 => v = .non ∧ Q (.ref y) H2) (E σ)) :
    wpAny (model X.prog X.w) X.A (call (.ref C) us (ks.zip ws)) (EP X pn σ Q) X.xe s := by
  have w1 := want (s.heap.objs.size + 1) s.heap.objs.size (J.hok.fresh (Nat.le_succ _)) (J.hok.fresh (Nat.le_refl _)) (Nat.ne_of_lt (Nat.lt_succ_self _))
  have J2 := Inv.made (C := C) J
  have rv1 : Vals (V.ref (s.heap.objs.size + 1) :: vs) (Value.ref (s.heap.objs.size + 1) :: us) := .cons rfl rv
  have many : (Value.ref (s.heap.objs.size + 1) :: us).length = n + 1 := rv1.length.symm.trans (congrArg Nat.succ l1)
  refine wpAny_call (make_map (f := f) J.kIn M.makes M.init (beq_iff_eq.mp M.fn) (codeAny_mono (D.run _ X.stack _ _ ⟨Value.ref (s.heap.objs.size + 1) :: us, ks.zip ws⟩ (g (Value.ref (s.heap.objs.size + 1) :: us) ws) _ _ (E σ) (room.make C us (ks.zip ws))
    (J2.env0.make C us (ks.zip ws)) (bn.to _ (Value.ref (s.heap.objs.size + 1) :: us) ws J2.kIn many (rz.length.symm.trans l2)) (bn.rel rv1 rz) w1) fun r s' out => ?_))
  match r, out with
  | .error er, out => exact pa _ _ _ _ _ J2 out
  | .ok (.ret u), out =>
    obtain ⟨v, H', J3, ru, ev, q3⟩ := J2.after out
    subst ev
    exact ⟨ru, ⟨V.ref (s.heap.objs.size + 1), H', J3, rfl, q3⟩⟩
  | .ok .next, out => exact False.elim out
  | .ok .brk, out => exact False.elim out
  | .ok .cont, out => exact False.elim out
theorem pe_makeNS (M : Mk X.K C f) (D : FnOk X.prog X.w X.K X.mg X.base CX k f fd names sp) (room : Room (k + 1) X.A) (hg : Gl X x) (hm : X.mg x = some (.ref C)) (bn : KBn X.K fd names (n + 1) ks g gV) (pa : ∀ σ, PassesAt CX X σ (E σ))
    (ha : PA X (e :: es) t) (hkw : PK X kws tk) (hall : (backToKw pos (keywordEach kws X.env)).all (·.1.isSome) = true := by rfl) (hks : (backToKw pos (keywordEach kws X.env)).filterMap (·.1) = ks := by rfl)
    (hdb : (x == ("__debug__" : Str)) = false := by decide) (he : starEach (e :: es) X.env = (false, eval e X.env) :: starEach es X.env := by rfl)
    (hpl : ((backTo pos (starEach (e :: es) X.env)).any (·.1) || (backToKw pos (keywordEach kws X.env)).any (·.1.isNone)) = false := by rfl) :
    PE X (.Call (.Name x p) (e :: es) kws pos) (tMakeNS C n ks.length sp gV E t tk) := by
  refine ⟨fun pn s σ H Q J want => ?_⟩
  refine wpAny_Call_Name_kw (ld_glob J hg hm ?_ hdb)
  refine PySem.W.callWith_KW (h₀ := X.base) J.ok.mod.kin M.kp hall (thn (ha.run pos pn s σ H _ J want) fun us s1 ⟨vs, H1, J1, rv, q⟩ => ?_) hpl he
  refine thn (hkw.run pos pn s1 σ H1 _ J1 q) fun ws s2 ⟨zs, H2, J2, rz, l1, l2, q2⟩ => ⟨J2.kIn, ?_⟩
  rw [hks]
  exact make_kS M D room bn (pa σ) J2 rv rz l1 l2 q2
end
end VA

/-! The source of draws, whatever the row. -/
namespace VA
open PySem L2 SX AddrMath
theorem But.refl (d : Addr) (H : Hp) : But d H H := fun _ _ h _ => h
theorem But.trans {d : Addr} {H H1 H2 : Hp} (a : But d H H1) (b : But d H1 H2) : But d H H2 := fun c o h hc => b c o (a c o h hc) hc
theorem But.upd {d : Addr} {H : Hp} {o : HO} : But d H (upd H d o) := fun b u e hb => by rw [upd_ne hb]; exact e
theorem But.new {d p : Addr} {H : Hp} {o : HO} (h : H p = none) : But d H (L2.upd H p o) := fun b u e _ => by rw [upd_ne (ne_of_none e h)]; exact e
theorem but_of {d : Addr} {H H' : Hp} (s : Same H H') : But d H H' := fun b o e _ => s b o e
theorem But.free {d a : Addr} {H H' : Hp} {o : HO} (hd : H d = some o) (b : But d H H') (hd' : H' d ≠ none) (h : H' a = none) : H a = none := by
  cases q : H a with
  | none => rfl
  | some u =>
    by_cases e : a = d
    · rw [e] at h
      exact absurd h hd'
    · rw [b a u q e] at h
      cases h
abbrev kCells : Key := Sum.inr ("cells" : Str)
abbrev kSpot : Key := Sum.inr ("spot" : Str)
abbrev kRest : Key := Sum.inr ("rest" : Str)
theorem k_cs : ¬ (kCells = kSpot) := by decide +kernel
theorem k_cr : ¬ (kCells = kRest) := by decide +kernel
theorem k_sc : ¬ (kSpot = kCells) := by decide +kernel
theorem k_sr : ¬ (kSpot = kRest) := by decide +kernel
theorem k_rc : ¬ (kRest = kCells) := by decide +kernel
theorem k_rs : ¬ (kRest = kSpot) := by decide +kernel
def penKV (c : Addr) (spot rest : Int) : List (Key × V) := [(kCells, .ref c), (kSpot, .int spot), (kRest, .int rest)]
theorem pen_cells (c : Addr) (s r : Int) : valV (penKV c s r) kCells = some (.ref c) := valV_pos rfl
theorem pen_spot (c : Addr) (s r : Int) : valV (penKV c s r) kSpot = some (.int s) := (valV_neg k_cs).trans (valV_pos rfl)
theorem pen_rest (c : Addr) (s r : Int) : valV (penKV c s r) kRest = some (.int r) := (valV_neg k_cr).trans ((valV_neg k_sr).trans (valV_pos rfl))
theorem pen_putS (c : Addr) (s r z : Int) : putK (penKV c s r) kSpot (.int z) = penKV c z r := by
  unfold putK penKV
  rw [if_pos (by simp)]
  simp only [List.map_cons, List.map_nil, if_neg k_cs, if_neg k_rs, if_pos trivial]
theorem pen_putR (c : Addr) (s r z : Int) : putK (penKV c s r) kRest (.int z) = penKV c s z := by
  unfold putK penKV
  rw [if_pos (by simp)]
  simp only [List.map_cons, List.map_nil, if_neg k_cr, if_neg k_sr, if_pos trivial]
theorem pen_made (c : Addr) (s r : Int) : mergeK [] (penKV c s r) = penKV c s r := by
  show putK (putK (putK [] kCells (V.ref c)) kSpot (V.int s)) kRest (V.int r) = _
  have e1 : putK [] kCells (V.ref c) = [(kCells, V.ref c)] := putK_new _ rfl
  have e2 : putK [(kCells, V.ref c)] kSpot (V.int s) = [(kCells, V.ref c), (kSpot, V.int s)] := putK_new _ (valV_neg k_cs)
  rw [e1, e2]
  exact putK_new _ ((valV_neg k_cr).trans (valV_neg k_sr))
/-- a source of draws stands at d, at most n draws were begun -/
def PenAt (H : Hp) (d c : Addr) (n : Nat) : Prop := ∃ (ns : List Int) (s : Nat) (r : Int), H d = some (.dK (penKV c (s : Int) r)) ∧ H c = some (.lst (ns.map V.int)) ∧ ns.length ≤ 63 ∧ s ≤ n
theorem PenAt.keep {H H' : Hp} {d c : Addr} {n : Nat} (p : PenAt H d c n) (s : Same H H') : PenAt H' d c n := by
  obtain ⟨ns, k, r, h1, h2, h3, h4⟩ := p
  exact ⟨ns, k, r, s _ _ h1, s _ _ h2, h3, h4⟩
theorem PenAt.mono {H : Hp} {d c : Addr} {n m : Nat} (p : PenAt H d c n) (h : n ≤ m) : PenAt H d c m := by
  obtain ⟨ns, k, r, h1, h2, h3, h4⟩ := p
  exact ⟨ns, k, r, h1, h2, h3, Nat.le_trans h4 h⟩
theorem PenAt.ne {H : Hp} {d c : Addr} {n : Nat} (p : PenAt H d c n) : H d ≠ none := by
  obtain ⟨ns, k, r, h1, h2, h3, h4⟩ := p
  rw [h1]
  exact fun z => nomatch z
theorem PenAt.neC {H : Hp} {d c : Addr} {n : Nat} (p : PenAt H d c n) : H c ≠ none := by
  obtain ⟨ns, k, r, h1, h2, h3, h4⟩ := p
  rw [h2]
  exact fun z => nomatch z
theorem PenAt.free {H H' : Hp} {d c a : Addr} {n m : Nat} (p : PenAt H d c n) (p' : PenAt H' d c m) (b : But d H H') (h : H' a = none) : H a = none := by
  obtain ⟨ns, k, r, h1, h2, h3, h4⟩ := p
  exact b.free h1 p'.ne h
/-- another object is written -/
theorem PenAt.put {H : Hp} {d c a : Addr} {n : Nat} {o : HO} (p : PenAt H d c n) (h1 : a ≠ d) (h2 : a ≠ c) : PenAt (upd H a o) d c n := by
  obtain ⟨ns, k, r, e1, e2, h3, h4⟩ := p
  exact ⟨ns, k, r, by rw [upd_ne h1.symm]; exact e1, by rw [upd_ne h2.symm]; exact e2, h3, h4⟩
theorem But.put {d a : Addr} {H H' : Hp} {o : HO} (b : But d H H') (h : H a = none) : But d H (L2.upd H' a o) := fun x u e hx => by
  rw [upd_ne (ne_of_none e h)]
  exact b x u e hx
theorem dp_ints {K : PySem.W.Frag} {H : Hp} : ∀ ns : List Int, DpAll K H (ns.map V.int) (ns.map PyData.int)
  | [] => .nil
  | n :: r => .cons (.int n) (dp_ints r)
theorem cl_ints : ∀ ns : List Int, PyData.canLayAll0 (ns.map PyData.int) = true
  | [] => rfl
  | _ :: r => by simp [PyData.canLayAll0, PyData.canLay0, cl_ints r]
theorem da_ints : ∀ ns : List Int, PyData.depthAll (ns.map PyData.int) = 0
  | [] => rfl
  | _ :: r => by simp [PyData.depthAll, PyData.depth, da_ints r]
theorem sh_ints (ns : List Int) : SeqAt.shaped (.list (ns.map PyData.int)) = true := by
  simp [SeqAt.shaped, PyData.canLay0, PyData.depth, cl_ints, da_ints]
theorem fmod_in (x : Int) {m : Int} (h : 0 < m) : 0 ≤ x.fmod m ∧ x.fmod m < m := by
  rw [Int.fmod_eq_emod_of_nonneg x (by omega)]
  exact ⟨Int.emod_nonneg x (by omega), Int.emod_lt_of_pos x h⟩
theorem eqv_ints (ns : List Int) : PyData.eqv (.list (ns.map PyData.int)) (.list []) = ns.isEmpty := by
  cases ns <;> rfl
theorem nz1 : (2147483423 : Int) ≠ 0 := by decide
theorem nz2 : (2147483477 : Int) ≠ 0 := by decide
theorem nz3 : (2147483489 : Int) ≠ 0 := by decide
theorem nz4 : (2147483497 : Int) ≠ 0 := by decide
theorem cut_to (xs : List V) (k : Nat) : cutV xs none (some (k : Int)) = xs.take k := by
  unfold cutV
  rw [HT.sIx_none, HT.sIx_nat, List.drop_zero, Nat.sub_zero]
  by_cases h : k ≤ xs.length
  · rw [Nat.min_eq_left h]
  · rw [Nat.min_eq_right (by omega), List.take_of_length_le (Nat.le_refl _), List.take_of_length_le (by omega)]
theorem cut_from (xs : List V) (k : Nat) : cutV xs (some (k : Int)) none = xs.drop k := by
  unfold cutV
  rw [HT.sIx_none, HT.sIx_nat]
  by_cases h : k ≤ xs.length
  · rw [Nat.min_eq_left h, List.take_of_length_le (by rw [List.length_drop]; omega)]
  · rw [Nat.min_eq_right (by omega), List.drop_eq_nil_of_le (Nat.le_refl _), List.drop_eq_nil_of_le (by omega)]
    simp
theorem size_ok {n : Nat} (h : n ≤ 1000000) : n ≤ sizeLine := by rw [sizeLine_eq]; omega
theorem size_lt {n : Nat} (h : n ≤ 1000000) : n < sizeLine := by rw [sizeLine_eq]; omega
/-! ### texts by their signs -/
theorem len_S (l : List Nat) : (S l).length = l.length := S_len l
theorem cutS_to (l : List Nat) (k : Nat) : cutS (S l) none (some (k : Int)) = S (l.take k) := by
  unfold cutS
  rw [HT.sIx_none, HT.sIx_nat, len_S, List.drop_zero, Nat.sub_zero]
  show S (l.take (min k l.length)) = _
  by_cases h : k ≤ l.length
  · rw [Nat.min_eq_left h]
  · rw [Nat.min_eq_right (by omega), List.take_of_length_le (Nat.le_refl _), List.take_of_length_le (by omega)]
theorem cutS_from (l : List Nat) (k : Nat) : cutS (S l) (some (k : Int)) none = S (l.drop k) := by
  unfold cutS
  rw [HT.sIx_none, HT.sIx_nat, len_S]
  show S ((l.drop (min k l.length)).take (l.length - min k l.length)) = _
  by_cases h : k ≤ l.length
  · rw [Nat.min_eq_left h, List.take_of_length_le (by rw [List.length_drop]; omega)]
  · rw [Nat.min_eq_right (by omega), List.drop_eq_nil_of_le (Nat.le_refl _), List.drop_eq_nil_of_le (show l.length ≤ k by omega)]
    simp
theorem cutS_mid (l : List Nat) (i k : Nat) : cutS (S l) (some (i : Int)) (some (k : Int)) = S ((l.take k).drop i) := by
  unfold cutS
  rw [HT.sIx_nat, HT.sIx_nat, len_S]
  show S ((l.drop (min i l.length)).take (min k l.length - min i l.length)) = _
  congr 1
  apply List.ext_getElem?
  intro n
  rw [List.getElem?_take, List.getElem?_drop, List.getElem?_drop, List.getElem?_take]
  by_cases hi : i ≤ l.length
  · rw [Nat.min_eq_left hi]
    by_cases hk : k ≤ l.length
    · rw [Nat.min_eq_left hk]
      by_cases h : n < k - i
      · rw [if_pos h, if_pos (by omega)]
      · rw [if_neg h, if_neg (by omega)]
    · rw [Nat.min_eq_right (by omega)]
      by_cases h : n < l.length - i
      · rw [if_pos h, if_pos (by omega)]
      · rw [if_neg h]
        split
        · exact (List.getElem?_eq_none (by omega)).symm
        · rfl
  · rw [Nat.min_eq_right (by omega : l.length ≤ i)]
    rw [if_neg (by omega)]
    split
    · exact (List.getElem?_eq_none (by omega)).symm
    · rfl
theorem joinL_nil : ∀ ys : List (List Nat), TL.joinL [] ys = ys.flatten
  | [] => rfl
  | [p] => by simp [TL.joinL]
  | p :: q :: r => by
    show p ++ ([] ++ TL.joinL [] (q :: r)) = _
    rw [joinL_nil (q :: r)]
    rfl
theorem join_S0 (ys : List (List Nat)) : Txt.join (S []) (ys.map S) = S ys.flatten := by rw [join_S, joinL_nil]
theorem emp_S : (Str.ofString "" : Str) = S [] := by decide +kernel
theorem nz3' : (3 : Int) ≠ 0 := by decide
theorem nz26 : (26 : Int) ≠ 0 := by decide
theorem at_ofN {xs : List Nat} {z : Int} {j : Nat} {v : Nat} (e : z = (j : Int)) (h : xs[j]? = some v) : atI xs z = some v := by
  rw [e]
  exact atI_nat h
abbrev lettersL : List Nat := (Str.ofString "abcdefghijklmnopqrstuvwxyz" : Str).cps.toList
theorem letters_all : ∀ c ∈ lettersL, isL c = true := by decide +kernel
theorem letters_len : lettersL.length = 26 := by decide +kernel
theorem letters_S : (Str.ofString "abcdefghijklmnopqrstuvwxyz" : Str) = S lettersL := (S_tl _).symm
theorem flat_one (cs : List Nat) : (cs.map fun c => [c]).flatten = cs := by
  induction cs with
  | nil => rfl
  | cons c r ih =>
    rw [List.map_cons, List.flatten_cons, ih]
    rfl
theorem map_one (cs : List Nat) : (cs.map fun c => V.str (S [c])) = ((cs.map fun c => [c]).map S).map V.str := by
  rw [List.map_map, List.map_map]
  rfl
theorem sum_one (cs : List Nat) : (((cs.map fun c => [c]).map S).map (·.length)).sum = cs.length := by
  induction cs with
  | nil => rfl
  | cons c r ih =>
    rw [List.map_cons, List.map_cons, List.map_cons, List.sum_cons, ih, List.length_cons, len_S]
    exact Nat.add_comm _ _
end VA

/-! Written values: a literal's data, and lists of values of any kind. -/
namespace VA
open PySem L2 SX AddrMath
/-- what is new, or no object -/
def Fresh (H : Hp) (v : V) : Prop := ∀ a, v = .ref a → H a = none
theorem Fresh.back {H H' : Hp} {v : V} (s : Same H H') (f : Fresh H' v) : Fresh H v := fun a e => s.free (f a e)
/-- a literal: a new value of this data -/
def tLit (K : PySem.W.Frag) (d : PyData) : TE := fun σ H Q => ∀ v H', Dp K H' v d → Fresh H v → Same H H' → Q v H'
def tLits (K : PySem.W.Frag) (ds : List PyData) : TA := fun σ H Q => ∀ vs H', DpAll K H' vs ds → (∀ v ∈ vs, Fresh H v) → Same H H' → Q vs H'
/-- a new value of any kind -/
def tAny (K : PySem.W.Frag) : TE := fun σ H Q => ∀ v H' d, Vx K H' v d → Fresh H v → Same H H' → Q v H'
def tAnys (K : PySem.W.Frag) (n : Nat) : TA := fun σ H Q => ∀ vs H', (∀ v ∈ vs, Fresh H v ∧ ∃ d, Vx K H' v d) → vs.length = n → Same H H' → Q vs H'
def tAnyL (K : PySem.W.Frag) (n : Nat) : TE := fun σ H Q => ∀ p xs H', H' p = some (.lst xs) → (∀ v ∈ xs, Fresh H v ∧ ∃ d, Vx K H' v d) → xs.length = n → Same H H' → H p = none → Q (.ref p) H'
def tLitL (K : PySem.W.Frag) (ds : List PyData) : TE := fun σ H Q => ∀ p xs H', H' p = some (.lst xs) → DpAll K H' xs ds → (∀ v ∈ xs, Fresh H v) → Same H H' → H p = none → Q (.ref p) H'
section
variable {X : Cx} {K : PySem.W.Frag}
theorem lit_c {e : Expr} {v : V} {d : PyData} (h : PE X e (tC v)) (k : ∀ H, Dp K H v d) (nr : ∀ a, v ≠ .ref a) : PE X e (tLit K d) :=
  pe_by _ h fun σ H Q w => w v H (k H) (fun a e => absurd e (nr a)) (Same.refl H)
theorem lit_non {j : Nat} {pos : Pos} : PE X (.Constant .none j pos) (tLit K .none) := lit_c pe_non (fun _ => .non) (fun _ z => by cases z)
theorem lit_bl {b : Bool} {j : Nat} {pos : Pos} : PE X (.Constant (.bool b) j pos) (tLit K (.bool b)) := lit_c pe_bl (fun _ => .bl b) (fun _ z => by cases z)
theorem lit_int {i : Int} {j : Nat} {pos : Pos} : PE X (.Constant (.int i) j pos) (tLit K (.int i)) := lit_c pe_int (fun _ => .int i) (fun _ z => by cases z)
theorem lit_str {x : Str} {j : Nat} {pos : Pos} : PE X (.Constant (.str x) j pos) (tLit K (.str x)) := lit_c pe_str (fun _ => .str x) (fun _ z => by cases z)
theorem lit_neg {i : Int} {j : Nat} {pos p2 : Pos} : PE X (.UnaryOp .USub (.Constant (.int i) j p2) pos) (tLit K (.int (-i))) :=
  pe_by _ (pe_un un_neg pe_int) fun σ H Q w => ⟨i, rfl, w _ H (.int _) (fun a e => by cases e) (Same.refl H)⟩
theorem lit_pow {a b : Int} {j j2 : Nat} {pos p2 p3 : Pos} (hb : 0 ≤ b ∧ b ≤ 1000000 ∧ a.natAbs < 2 ^ 64) : PE X (.BinOp (.Constant (.int a) j p2) .Pow (.Constant (.int b) j2 p3) pos) (tLit K (.int (a ^ b.toNat))) :=
  pe_by _ (pe_op op_pow pe_int pe_int) fun σ H Q w => ⟨a, b, rfl, rfl, hb, w _ H (.int _) (fun a e => by cases e) (Same.refl H)⟩
theorem lits_nil : PA X [] (tLits K []) := ⟨fun cp pn s σ H Q J w => pa_nil.run cp pn s σ H Q J (w [] H .nil (fun v hv => by cases hv) (Same.refl H))⟩
theorem pa_by {es : List Expr} {t : TA} (t' : TA) (h : PA X es t) (k : ∀ σ H Q, t' σ H Q → t σ H Q) : PA X es t' := ⟨fun cp pn s σ H Q J w => h.run cp pn s σ H Q J (k σ H Q w)⟩
theorem lits_cons {e : Expr} {es : List Expr} {d : PyData} {ds : List PyData} (h : PE X e (tLit K d)) (t : PA X es (tLits K ds)) (hs : starEach (e :: es) X.env = (false, eval e X.env) :: starEach es X.env := by rfl) : PA X (e :: es) (tLits K (d :: ds)) :=
  pa_by _ (pa_cons h t hs) fun σ H Q w v H1 hv fv s1 vs H2 hvs fvs s2 => w (v :: vs) H2 (.cons (dp_same s2 hv) hvs) (fun u hu => by
    rcases List.mem_cons.mp hu with e | e
    · rw [e]
      exact fv
    · exact (fvs u e).back s1) (s1.trans s2)
theorem lit_tup {x1} {es : List Expr} {ds : List PyData} {pos : Pos} (t : PA X es (tLits K ds)) (few : ds.length ≤ 1000) : PE X (.Tuple es x1 pos) (tLit K (.tuple ds)) :=
  pe_by _ (pe_tup t) fun σ H Q w vs H1 hv fv s1 => ⟨Nat.le_of_lt (small1000 (by rw [dps_len hv]; exact few)), fun p np => w (.ref p) _ (.tup (.inl (.inl upd_same)) (dps_same (same_new np) hv)) (fun a e => by cases e; exact s1.free np) (s1.trans (same_new np))⟩
theorem litL {es : List Expr} {ds : List PyData} {pos : Pos} (t : PA X es (tLits K ds)) (few : ds.length ≤ 1000) : PE X (.List es pos) (tLitL K ds) :=
  pe_by _ (pe_lst t) fun σ H Q w vs H1 hv fv s1 => ⟨Nat.le_of_lt (small1000 (by rw [dps_len hv]; exact few)), fun p np => w p vs _ upd_same (dps_same (same_new np) hv) fv (s1.trans (same_new np)) (s1.free np)⟩
theorem lit_lst {es : List Expr} {ds : List PyData} {pos : Pos} (t : PA X es (tLits K ds)) (few : ds.length ≤ 1000) : PE X (.List es pos) (tLit K (.list ds)) :=
  pe_by _ (litL t few) fun σ H Q w p xs H' hp hx fx s np => w (.ref p) H' (.lst (.inl (.inl hp)) hx) (fun a e => by cases e; exact np) s
theorem any_lit {e : Expr} {d : PyData} (h : PE X e (tLit K d)) (ok : okD 8 d = true) : PE X e (tAny K) := pe_by _ h fun σ H Q w v H' hv fv s => w v H' d (.inl ⟨hv, ok⟩) fv s
theorem any_dict {e : Expr} (h : PE X e tDNewK) : PE X e (tAny K) := pe_by _ h fun σ H Q w p np => w (.ref p) _ (.dict []) (.inr ⟨p, _, rfl, upd_same, rfl⟩) (fun a e => by cases e; exact np) (same_new np)
theorem any_disp {keys : List (Option Expr)} {values : List Expr} {pos : Pos} {x : Str} {i : Int} (h : PE X (.Dict keys values pos) (tDisp [(tC (.str x), tC (.int i))])) : PE X (.Dict keys values pos) (tAny K) :=
  pe_by _ h fun σ H Q w p np => ⟨upd_same, [(Sum.inr x, .int i)], rfl, by show 1 ≤ 15; decide, w (.ref p) _ (.dict []) (.inr ⟨p, _, rfl, upd_same, rfl⟩) (fun a e => by cases e; exact np) fun b o e => by
    rw [upd_ne (ne_of_none e np), upd_ne (ne_of_none e np)]
    exact e⟩
theorem anys_nil : PA X [] (tAnys K 0) := ⟨fun cp pn s σ H Q J w => pa_nil.run cp pn s σ H Q J (w [] H (fun v hv => by cases hv) rfl (Same.refl H))⟩
theorem anys_cons {e : Expr} {es : List Expr} {n : Nat} (h : PE X e (tAny K)) (t : PA X es (tAnys K n)) (hs : starEach (e :: es) X.env = (false, eval e X.env) :: starEach es X.env := by rfl) : PA X (e :: es) (tAnys K (n + 1)) :=
  pa_by _ (pa_cons h t hs) fun σ H Q w v H1 d hv fv s1 vs H2 hvs hl s2 => w (v :: vs) H2 (fun u hu => by
    rcases List.mem_cons.mp hu with e | e
    · rw [e]
      exact ⟨fv, d, hv.same s2⟩
    · obtain ⟨a, b⟩ := hvs u e
      exact ⟨a.back s1, b⟩) (by rw [List.length_cons, hl]) (s1.trans s2)
theorem anyL {es : List Expr} {n : Nat} {pos : Pos} (t : PA X es (tAnys K n)) (few : n ≤ 1000) : PE X (.List es pos) (tAnyL K n) :=
  pe_by _ (pe_lst t) fun σ H Q w vs H1 hv hl s1 => ⟨Nat.le_of_lt (small1000 (by rw [hl]; exact few)), fun p np => w p vs _ upd_same (fun u hu => by
    obtain ⟨a, d, b⟩ := hv u hu
    exact ⟨a, d, b.same (same_new np)⟩) hl (s1.trans (same_new np)) (s1.free np)⟩
end
/-- data, or a dict that is not the pen -/
def Vy (K : PySem.W.Frag) (H : Hp) (d : Addr) (v : V) : Prop := (∃ x, Dp K H v x ∧ okD 8 x = true) ∨ ∃ a kvs, v = .ref a ∧ a ≠ d ∧ H a = some (.dK kvs)
theorem Vy.vx {K : PySem.W.Frag} {H : Hp} {d : Addr} {v : V} (h : Vy K H d v) : ∃ x, Vx K H v x := by
  rcases h with ⟨x, h⟩ | ⟨a, kvs, e, _, h⟩
  · exact ⟨x, .inl h⟩
  · exact ⟨.dict [], .inr ⟨a, kvs, e, h, rfl⟩⟩
theorem pen_kp {H H' : Hp} {d c : Addr} {n : Nat} (p : PenAt H d c n) (b : But d H H') : Kp H H' := by
  obtain ⟨ns, s, r, h1, _⟩ := p
  exact kp_but h1 rfl b
theorem Vy.but {K : PySem.W.Frag} {H H' : Hp} {d c : Addr} {n : Nat} {v : V} (h : Vy K H d v) (p : PenAt H d c n) (b : But d H H') : Vy K H' d v := by
  rcases h with ⟨x, h, o⟩ | ⟨a, kvs, e, ne, h⟩
  · exact .inl ⟨x, dp_kp (pen_kp p b) h, o⟩
  · exact .inr ⟨a, kvs, e, ne, b _ _ h ne⟩
theorem Vy.same {K : PySem.W.Frag} {H H' : Hp} {d : Addr} {v : V} (h : Vy K H d v) (s : Same H H') : Vy K H' d v := by
  rcases h with ⟨x, h, o⟩ | ⟨a, kvs, e, ne, h⟩
  · exact .inl ⟨x, dp_same s h, o⟩
  · exact .inr ⟨a, kvs, e, ne, s _ _ h⟩
theorem vy_of {K : PySem.W.Frag} {H G : Hp} {d : Addr} {v : V} (f : Fresh G v) (nd : G d ≠ none) (h : ∃ x, Vx K H v x) : Vy K H d v := by
  obtain ⟨x, h | ⟨a, kvs, e, h, _⟩⟩ := h
  · exact .inl ⟨x, h⟩
  · exact .inr ⟨a, kvs, e, fun z => nd (f d (by rw [e, z])), h⟩
end VA

/-! Comprehensions over a text; a list that is compared with the empty one. -/
namespace VA
open PySem L2 SX AddrMath
/-- a comprehension over the signs of a text -/
theorem lc_signs {l : List Nat} {g : TG} {tt : TT} {te : TE} {vs : List Nat} {σ : L2.St} {H1 : Hp} {D : Addr} {Qd : Hp → Prop} (Pv : Nat → Hp → Prop) (h0 : Pv 0 (upd H1 D (.lst [])))
    (turn : ∀ i c H, l[i]? = some c → Pv i H → g (.str (S [c])) (wipe σ vs) H fun σ2 H2 => wipe σ2 vs = wipe σ vs ∧ tt σ2 H2 fun b H3 =>
      if b = true then te σ2 H3 fun y H4 => ∃ acc, H4 D = some (.lst acc) ∧ acc.length < sizeLine ∧ Pv (i + 1) (upd H4 D (.lst (acc ++ [y]))) else Pv (i + 1) H3) (done : ∀ H, Pv l.length H → Qd H) :
    ∃ W : Nat → Nat → Hp → Prop, (∃ m, W 0 m (upd H1 D (.lst []))) ∧ ∀ i m H, W i m H →
      ((Its (S l)).stop i H ∧ Qd H) ∨ ((Its (S l)).go i H ∧ ∃ Nx : Hp → Prop, (∀ H', Nx H' → ∃ m', m' < m ∧ W (i + 1) m' H') ∧ ∀ x H', (Its (S l)).yld i H x H' → g x (wipe σ vs) H' fun σ2 H2 => wipe σ2 vs = wipe σ vs ∧ tt σ2 H2 fun b H3 =>
        if b = true then te σ2 H3 fun y H4 => ∃ acc, H4 D = some (.lst acc) ∧ acc.length < sizeLine ∧ Nx (upd H4 D (.lst (acc ++ [y]))) else Nx H3) := by
  have sz : (S l).cps.size = l.length := by simp [S]
  refine ⟨fun i m H => m = l.length - i ∧ i ≤ l.length ∧ Pv i H, ⟨_, rfl, Nat.zero_le _, h0⟩, fun i m H hW => ?_⟩
  obtain ⟨rfl, hi, p⟩ := hW
  rcases Nat.lt_or_ge i l.length with hlt | hge
  · refine .inr ⟨by show i < (S l).cps.size; rw [sz]; exact hlt, Pv (i + 1), fun H' p' => ⟨l.length - (i + 1), by omega, rfl, hlt, p'⟩, fun x H' y => ?_⟩
    obtain ⟨rfl, c, hc, rfl⟩ := y
    refine turn i c H' ?_ p
    simpa [S] using hc
  · have e : i = l.length := by omega
    subst e
    exact .inl ⟨by show (S l).cps.size ≤ _; rw [sz]; exact Nat.le_refl _, done H p⟩
theorem letters_in : ∀ k : Nat, k < 26 → 97 + k ∈ lettersL := by decide +kernel
theorem letters_iff (c : Nat) : c ∈ lettersL ↔ isL c = true := by
  constructor
  · exact letters_all c
  · intro h
    unfold isL at h
    rw [Bool.and_eq_true, decide_eq_true_eq, decide_eq_true_eq] at h
    have z := letters_in (c - 97) (by omega)
    rw [show 97 + (c - 97) = c by omega] at z
    exact z

theorem eqv_nil (ds : List PyData) : PyData.eqv (.list ds) (.list []) = ds.isEmpty := by
  cases ds <;> rfl
/-- xs == [], the list xs just made -/
theorem eq_nil {K : PySem.W.Frag} {σ : L2.St} {H : Hp} {D : Addr} {xs : List V} {ds : List PyData} {Q : VK} (hD : H D = some (.lst xs)) (hd : DpAll K H xs ds) (few : ds.length ≤ 1000) (ok : ∀ d ∈ ds, okD 7 d = true) (q : ∀ H', Same H H' → Q (.bl ds.isEmpty) H') :
    tLst tNil σ H fun y H2 => rEqD K (.ref D) y H2 Q := by
  refine ⟨Nat.zero_le _, fun e ne => ?_⟩
  have s := same_new (o := .lst []) ne
  refine ⟨.list ds, .list [], .lst (.inl (.inl (s _ _ hD))) (dps_same s hd), .lst (.inl (.inl upd_same)) .nil, ok_shaped (ok_seq few ok).1 (by decide), by decide +kernel, ?_⟩
  rw [eqv_nil]
  exact q _ s
/-- the items that pass, as data -/
theorem dps_filter {K : PySem.W.Frag} {H : Hp} (p : V → Bool) (f : PyData → Bool) : ∀ {ds : List PyData} {xs : List V}, DpAll K H xs ds → (∀ x d, x ∈ xs → d ∈ ds → Dp K H x d → p x = f d) → DpAll K H (xs.filter p) (ds.filter f)
  | [], _, h, _ => by cases h; exact .nil
  | d :: ds, _, h, hp => by
    cases h with
    | @cons x xs _ _ h1 h2 =>
      have e := hp x d (List.mem_cons_self ..) (List.mem_cons_self ..) h1
      have ih := dps_filter p f h2 fun y c hy hc => hp y c (List.mem_cons_of_mem _ hy) (List.mem_cons_of_mem _ hc)
      cases q : f d with
      | true =>
        rw [List.filter_cons_of_pos (by rw [e]; exact q), List.filter_cons_of_pos q]
        exact .cons h1 ih
      | false =>
        rw [List.filter_cons_of_neg (by rw [e, q]; exact Bool.false_ne_true), List.filter_cons_of_neg (by rw [q]; exact Bool.false_ne_true)]
        exact ih
theorem filter_empty {α : Type} (f : α → Bool) (xs : List α) : (xs.filter f).isEmpty = xs.all fun x => !f x := by
  induction xs with
  | nil => rfl
  | cons x xs ih =>
    cases h : f x with
    | true =>
      rw [List.filter_cons_of_pos h, List.all_cons, h]
      rfl
    | false =>
      rw [List.filter_cons_of_neg (by rw [h]; exact Bool.false_ne_true), List.all_cons, h, ih]
      rfl
theorem map_same {α : Type} (xs : List α) : (xs.map fun x => x) = xs := by
  induction xs with
  | nil => rfl
  | cons x xs ih => rw [List.map_cons, ih]
end VA

/-! {x: True for x in xs}, xs a list or a tuple of ints and texts. -/
namespace VA
open PySem L2 SX AddrMath
abbrev DkGoal (J : It) (vs : List Nat) (j : Nat) (σ : L2.St) (H1 : Hp) (D : Addr) (Qd : Hp → Prop) : Prop :=
  ∃ W : Nat → Nat → Hp → Prop, (∃ m, W 0 m (upd H1 D (.dK []))) ∧ ∀ i m H, W i m H →
    (J.stop i H ∧ Qd H) ∨ (J.go i H ∧ ∃ Nx : Hp → Prop, (∀ H', Nx H' → ∃ m', m' < m ∧ W (i + 1) m' H') ∧ ∀ x H', J.yld i H x H' → gName j x (wipe σ vs) H' fun σ2 H2 => wipe σ2 vs = wipe σ vs ∧ tYes σ2 H2 fun b H3 =>
      if b = true then tVar j σ2 H3 fun y H4 => tC (.bl true) σ2 H4 fun z H5 => ∃ kvs k, y = kV k ∧ H5 D = some (.dK kvs) ∧ kvs.length < sizeLine ∧ Nx (upd H5 D (.dK (putK kvs k z))) else Nx H3)
def hasK (ks : List Key) (k : Key) : Bool := ks.any fun x => decide (x = k)
theorem putK_few (kvs : List (Key × V)) (k : Key) (v : V) : (putK kvs k v).length ≤ kvs.length + 1 := by
  unfold putK
  split
  · rw [List.length_map]
    omega
  · rw [List.length_append]
    exact Nat.le_refl _
theorem dk_walk {J : It} {xs : List V} {ks : List Key} {G : Hp → Prop} (w : Walk J xs.length G (YAt xs)) (hk : xs = ks.map kV) (few : xs.length ≤ 1000) {vs : List Nat} {j : Nat} {σ : L2.St} {H1 : Hp} {D : Addr} {Qd : Hp → Prop} (nD : H1 D = none) (hG : ∀ H, Same H1 H → G H)
    (hw : ∀ x, wipe ((wipe σ vs).set j (some x)) vs = wipe σ vs) (hv : ∀ x, ((wipe σ vs).set j (some x))[j]? = some (some x))
    (fin : ∀ H' kvs, H' D = some (.dK kvs) → (∀ k, valV kvs k = if hasK ks k = true then some (V.bl true) else none) → Same H1 H' → Qd H') : DkGoal J vs j σ H1 D Qd := by
  refine ⟨fun i m H => m = xs.length - i ∧ i ≤ xs.length ∧ Same H1 H ∧ ∃ kvs, H D = some (.dK kvs) ∧ kvs.length ≤ i ∧ ∀ k, valV kvs k = if hasK (ks.take i) k = true then some (V.bl true) else none, ⟨xs.length, by simp, Nat.zero_le _, same_new nD, [], upd_same, Nat.le_refl _, fun k => rfl⟩, ?_⟩
  rintro i m H ⟨rfl, hi, s, kvs, hD, hl, hvv⟩
  have q := hG H s
  by_cases hlt : i < xs.length
  · refine .inr ⟨w.goes i H hlt q, fun H' => Same H1 H' ∧ ∃ kvs, H' D = some (.dK kvs) ∧ kvs.length ≤ i + 1 ∧ ∀ k, valV kvs k = if hasK (ks.take (i + 1)) k = true then some (V.bl true) else none, fun H' p' => ⟨xs.length - (i + 1), by omega, rfl, hlt, p'⟩, fun x H' y => ?_⟩
    obtain ⟨rfl, hx⟩ := w.yields i H x H' hlt q y
    rw [hk, List.getElem?_map, Option.map_eq_some_iff] at hx
    obtain ⟨k, hkk, rfl⟩ := hx
    refine ⟨hw _, ?_⟩
    unfold tYes
    show (if true = true then _ else _)
    rw [if_pos rfl]
    refine ⟨_, hv _, kvs, k, rfl, hD, small1000 (by omega), fun b o z => ?_, _, upd_same, ?_, fun k' => ?_⟩
    · rw [upd_ne (ne_of_none z nD)]
      exact s _ _ z
    · have := putK_few kvs k (.bl true)
      omega
    · rw [valV_put, take_snoc hkk]
      unfold hasK
      rw [List.any_append]
      by_cases e : k' = k
      · rw [if_pos e, if_pos (by simp [e])]
      · rw [if_neg e, hvv k']
        unfold hasK
        have : ([k].any fun x => decide (x = k')) = false := by rw [List.any_cons, List.any_nil, Bool.or_false]; exact decide_eq_false fun z => e z.symm
        rw [this, Bool.or_false]
  · have e : i = xs.length := by omega
    subst e
    refine .inl ⟨w.stops H q, fin H kvs hD (fun k => ?_) s⟩
    rw [hvv k, List.take_of_length_le (by rw [← List.length_map (f := kV), ← hk]; exact Nat.le_refl _)]
theorem seq_keys {K : PySem.W.Frag} {a : Addr} {xs : List V} {ks : List Key} {j : Nat} {vs : List Nat} {σ : L2.St} {H1 : Hp} {Qd : Addr → Hp → Prop} (hq : SqA K H1 a xs) (hk : xs = ks.map kV) (few : xs.length ≤ 1000)
    (hw : ∀ x, wipe ((wipe σ vs).set j (some x)) vs = wipe σ vs) (hv : ∀ x, ((wipe σ vs).set j (some x))[j]? = some (some x))
    (fin : ∀ D H' kvs, H1 D = none → H' D = some (.dK kvs) → (∀ k, valV kvs k = if hasK ks k = true then some (V.bl true) else none) → Same H1 H' → Qd D H') :
    ∃ a', V.ref a = V.ref a' ∧ (((∃ ys, SqL K H1 a' ys) ∧ ∀ D, H1 D = none → DkGoal (Itl K a') vs j σ H1 D (Qd D)) ∨ ((∃ ys, SqT K H1 a' ys) ∧ ∀ D, H1 D = none → DkGoal (Itt K a') vs j σ H1 D (Qd D))) := by
  refine ⟨a, rfl, ?_⟩
  rcases hq with hq | hq
  · exact .inl ⟨⟨xs, hq⟩, fun D nD => dk_walk walk_list hk few nD (fun H s => s.seq hq) hw hv fun H' kvs => fin D H' kvs nD⟩
  · exact .inr ⟨⟨xs, hq⟩, fun D nD => dk_walk walk_tup hk few nD (fun H s => same_seqT s hq) hw hv fun H' kvs => fin D H' kvs nD⟩
end VA

/-! Comprehensions whose items are told by a relation; a list beside an empty one. -/
namespace VA
open PySem L2 SX AddrMath
abbrev LcGoal (J : It) (g : TG) (tt : TT) (te : TE) (vs : List Nat) (σ : L2.St) (H1 : Hp) (D : Addr) (Qd : Hp → Prop) : Prop :=
  ∃ W : Nat → Nat → Hp → Prop, (∃ m, W 0 m (upd H1 D (.lst []))) ∧ ∀ i m H, W i m H →
      (J.stop i H ∧ Qd H) ∨ (J.go i H ∧ ∃ Nx : Hp → Prop, (∀ H', Nx H' → ∃ m', m' < m ∧ W (i + 1) m' H') ∧ ∀ x H', J.yld i H x H' → g x (wipe σ vs) H' fun σ2 H2 => wipe σ2 vs = wipe σ vs ∧ tt σ2 H2 fun b H3 =>
        if b = true then te σ2 H3 fun y H4 => ∃ acc, H4 D = some (.lst acc) ∧ acc.length < sizeLine ∧ Nx (upd H4 D (.lst (acc ++ [y]))) else Nx H3)
/-- a comprehension without a test -/
theorem lc_rel {J : It} {xs : List V} {G : Hp → Prop} (w : Walk J xs.length G (YAt xs)) (few : xs.length ≤ 1000) {g : TG} {te : TE} {vs : List Nat} {σ : L2.St} {H1 : Hp} {D : Addr} {Qd : Hp → Prop} (nD : H1 D = none) (hG : ∀ H, Same H1 H → G H)
    (rel : Nat → V → Hp → Prop) (st : ∀ i y H H', Same H H' → rel i y H → rel i y H') (sb : ∀ i y H H' zs, H D = some (.lst zs) → But D H H' → rel i y H → rel i y H')
    (step : ∀ i x, xs[i]? = some x → ∀ H, Same H1 H → ∀ R : VK, (∀ y H', Same H H' → rel i y H' → R y H') → g x (wipe σ vs) H fun σ2 H2 => wipe σ2 vs = wipe σ vs ∧ te σ2 H2 R)
    (fin : ∀ H' ys, H' D = some (.lst ys) → ys.length = xs.length → (∀ i y, ys[i]? = some y → rel i y H') → Same H1 H' → Qd H') : LcGoal J g tYes te vs σ H1 D Qd := by
  refine lc_it w (fun i H => Same H1 H ∧ ∃ ys, H D = some (.lst ys) ∧ ys.length = i ∧ ∀ k y, ys[k]? = some y → rel k y H) ⟨same_new nD, [], upd_same, rfl, fun k y z => by simp at z⟩ (fun i H _ p => hG H p.1) ?_ ?_
  · rintro i x H H' hi ⟨s, ys, hD, hl, hr⟩ ⟨rfl, hx⟩
    refine step i x hx H' s (fun y H4 => ∃ acc, H4 D = some (.lst acc) ∧ acc.length < sizeLine ∧ (Same H1 (upd H4 D (.lst (acc ++ [y]))) ∧ ∃ ys, (upd H4 D (.lst (acc ++ [y]))) D = some (.lst ys) ∧ ys.length = i + 1 ∧ ∀ k y', ys[k]? = some y' → rel k y' (upd H4 D (.lst (acc ++ [y]))))) fun y H4 s4 ry => ?_
    have hD4 := s4 _ _ hD
    have b4 : But D H4 (upd H4 D (.lst (ys ++ [y]))) := But.upd
    refine ⟨ys, hD4, small1000 (by omega), fun b o z => ?_, _, upd_same, by rw [List.length_append, hl]; rfl, fun k y' hk => ?_⟩
    · rw [upd_ne (ne_of_none z nD)]
      exact s4 _ _ (s _ _ z)
    · rcases Nat.lt_or_ge k ys.length with c | c
      · rw [List.getElem?_append_left c] at hk
        exact sb k y' _ _ _ hD4 b4 (st k y' _ _ s4 (hr k y' hk))
      · rw [List.getElem?_append_right c] at hk
        have e0 : k - ys.length = 0 := by
          rcases Nat.eq_zero_or_pos (k - ys.length) with e | e
          · exact e
          · rw [List.getElem?_eq_none (by show 1 ≤ k - ys.length; exact e)] at hk
            cases hk
        rw [e0] at hk
        cases hk
        have ek : k = i := by omega
        rw [ek]
        exact sb i y _ _ _ hD4 b4 ry
  · rintro H ⟨s, ys, hD, hl, hr⟩
    exact fin H ys hD hl hr s
/-- the same of what is a list or a tuple -/
theorem seq_rel {K : PySem.W.Frag} {a : Addr} {xs : List V} {g : TG} {te : TE} {vs : List Nat} {σ : L2.St} {H1 : Hp} {Qd : Addr → Hp → Prop} (hq : SqA K H1 a xs) (few : xs.length ≤ 1000)
    (rel : Nat → V → Hp → Prop) (st : ∀ i y H H', Same H H' → rel i y H → rel i y H') (sb : ∀ D, H1 D = none → ∀ i y H H' zs, H D = some (.lst zs) → But D H H' → rel i y H → rel i y H')
    (step : ∀ i x, xs[i]? = some x → ∀ H, Same H1 H → ∀ R : VK, (∀ y H', Same H H' → rel i y H' → R y H') → g x (wipe σ vs) H fun σ2 H2 => wipe σ2 vs = wipe σ vs ∧ te σ2 H2 R)
    (fin : ∀ D H' ys, H1 D = none → H' D = some (.lst ys) → ys.length = xs.length → (∀ i y, ys[i]? = some y → rel i y H') → Same H1 H' → Qd D H') :
    ∃ a', V.ref a = V.ref a' ∧ (((∃ ys, SqL K H1 a' ys) ∧ ∀ D, H1 D = none → LcGoal (Itl K a') g tYes te vs σ H1 D (Qd D)) ∨ ((∃ ys, SqT K H1 a' ys) ∧ ∀ D, H1 D = none → LcGoal (Itt K a') g tYes te vs σ H1 D (Qd D))) := by
  refine ⟨a, rfl, ?_⟩
  rcases hq with hq | hq
  · exact .inl ⟨⟨xs, hq⟩, fun D nD => lc_rel walk_list few nD (fun H s => s.seq hq) rel st (sb D nD) step fun H' ys => fin D H' ys nD⟩
  · exact .inr ⟨⟨xs, hq⟩, fun D nD => lc_rel walk_tup few nD (fun H s => same_seqT s hq) rel st (sb D nD) step fun H' ys => fin D H' ys nD⟩
/-- a list beside a new empty one -/
def rNeNil : R2 := fun x y H Q => ∃ a b xs, x = .ref a ∧ y = .ref b ∧ H a = some (.lst xs) ∧ H b = some (.lst []) ∧ Q (.bl (!xs.isEmpty)) H
theorem lst_is {X : Cx} {pins : List (Addr × Obj)} {σ : L2.St} {H : Hp} {s : Shared} {a : Addr} {xs : List V} (I : L2.Inv X pins σ H s) (h : H a = some (.lst xs)) : ∃ its : List Value, s.heap.IsList a its.toArray ∧ its.length = xs.length := by
  obtain ⟨its, rv, p, hz⟩ := I.list (.inl (.inl h))
  exact ⟨its, p.isList, rv.length.symm⟩
theorem op_neNil {X : Cx} (hu : X.A.units < cLine) : OpR X (compareOp .NotEq) rNeNil := by
  intro pins s σ H x y v u Q I rx ry ⟨a, b, xs, ex, ey, ha, hb, q⟩
  subst ex ey
  cases (show v = Value.ref a from rx)
  cases (show u = Value.ref b from ry)
  obtain ⟨i1, p1, l1⟩ := lst_is I ha
  obtain ⟨i2, p2, l2⟩ := lst_is I hb
  have e2 : i2 = [] := List.length_eq_zero_iff.mp l2
  subst e2
  cases xs with
  | nil =>
    have e1 : i1 = [] := List.length_eq_zero_iff.mp l1
    subst e1
    exact SeqAt.RcNeAt.lists (e := fun _ => true) p1 p2 rfl hu (fun j h1 => absurd h1 (by simp)) _ _ _ _ ⟨.bl false, H, I, rfl, q⟩
  | cons z r =>
    exact SeqAt.RcNeAt.lists_lengths p1 p2 (by simp; intro z; rw [z] at l1; cases l1) hu _ _ _ _ ⟨.bl true, H, I, rfl, q⟩
end VA

/-! A comprehension whose items are new objects of the list's own kind: what is said of an item may name the list. -/
namespace RL
open PySem L2 SX AddrMath VA
theorem lc_relD {J : It} {xs : List V} {G : Hp → Prop} (w : Walk J xs.length G (YAt xs)) (few : xs.length ≤ 1000) {g : TG} {te : TE} {vs : List Nat} {σ : L2.St} {H1 : Hp} {D : Addr} {Qd : Hp → Prop} (nD : H1 D = none) (hG : ∀ H, Same H1 H → G H)
    (rel : Nat → V → Hp → Prop) (st : ∀ i y H H', Same H H' → rel i y H → rel i y H') (sb : ∀ i y H H' zs, H D = some (.lst zs) → But D H H' → rel i y H → rel i y H')
    (step : ∀ i x, xs[i]? = some x → ∀ H, Same H1 H → H D ≠ none → ∀ R : VK, (∀ y H', Same H H' → rel i y H' → R y H') → g x (wipe σ vs) H fun σ2 H2 => wipe σ2 vs = wipe σ vs ∧ te σ2 H2 R)
    (fin : ∀ H' ys, H' D = some (.lst ys) → ys.length = xs.length → (∀ i y, ys[i]? = some y → rel i y H') → Same H1 H' → Qd H') : LcGoal J g tYes te vs σ H1 D Qd := by
  refine lc_it w (fun i H => Same H1 H ∧ ∃ ys, H D = some (.lst ys) ∧ ys.length = i ∧ ∀ k y, ys[k]? = some y → rel k y H) ⟨same_new nD, [], upd_same, rfl, fun k y z => by simp at z⟩ (fun i H _ p => hG H p.1) ?_ ?_
  · rintro i x H H' hi ⟨s, ys, hD, hl, hr⟩ ⟨rfl, hx⟩
    refine step i x hx H' s (by rw [hD]; exact fun z => by cases z) (fun y H4 => ∃ acc, H4 D = some (.lst acc) ∧ acc.length < sizeLine ∧ (Same H1 (upd H4 D (.lst (acc ++ [y]))) ∧ ∃ ys, (upd H4 D (.lst (acc ++ [y]))) D = some (.lst ys) ∧ ys.length = i + 1 ∧ ∀ k y', ys[k]? = some y' → rel k y' (upd H4 D (.lst (acc ++ [y]))))) fun y H4 s4 ry => ?_
    have hD4 := s4 _ _ hD
    have b4 : But D H4 (upd H4 D (.lst (ys ++ [y]))) := But.upd
    refine ⟨ys, hD4, small1000 (by omega), fun b o z => ?_, _, upd_same, by rw [List.length_append, hl]; rfl, fun k y' hk => ?_⟩
    · rw [upd_ne (ne_of_none z nD)]
      exact s4 _ _ (s _ _ z)
    · rcases Nat.lt_or_ge k ys.length with c | c
      · rw [List.getElem?_append_left c] at hk
        exact sb k y' _ _ _ hD4 b4 (st k y' _ _ s4 (hr k y' hk))
      · rw [List.getElem?_append_right c] at hk
        have e0 : k - ys.length = 0 := by
          rcases Nat.eq_zero_or_pos (k - ys.length) with e | e
          · exact e
          · rw [List.getElem?_eq_none (by show 1 ≤ k - ys.length; exact e)] at hk
            cases hk
        rw [e0] at hk
        cases hk
        have ek : k = i := by omega
        rw [ek]
        exact sb i y _ _ _ hD4 b4 ry
  · rintro H ⟨s, ys, hD, hl, hr⟩
    exact fin H ys hD hl hr s
theorem seq_relD {K : PySem.W.Frag} {a : Addr} {xs : List V} {g : TG} {te : TE} {vs : List Nat} {σ : L2.St} {H1 : Hp} {Qd : Addr → Hp → Prop} (hq : SqA K H1 a xs) (few : xs.length ≤ 1000)
    (rel : Addr → Nat → V → Hp → Prop) (st : ∀ D i y H H', Same H H' → rel D i y H → rel D i y H') (sb : ∀ D, H1 D = none → ∀ i y H H' zs, H D = some (.lst zs) → But D H H' → rel D i y H → rel D i y H')
    (step : ∀ D i x, xs[i]? = some x → ∀ H, Same H1 H → H D ≠ none → H1 D = none → ∀ R : VK, (∀ y H', Same H H' → rel D i y H' → R y H') → g x (wipe σ vs) H fun σ2 H2 => wipe σ2 vs = wipe σ vs ∧ te σ2 H2 R)
    (fin : ∀ D H' ys, H1 D = none → H' D = some (.lst ys) → ys.length = xs.length → (∀ i y, ys[i]? = some y → rel D i y H') → Same H1 H' → Qd D H') :
    ∃ a', V.ref a = V.ref a' ∧ (((∃ ys, SqL K H1 a' ys) ∧ ∀ D, H1 D = none → LcGoal (Itl K a') g tYes te vs σ H1 D (Qd D)) ∨ ((∃ ys, SqT K H1 a' ys) ∧ ∀ D, H1 D = none → LcGoal (Itt K a') g tYes te vs σ H1 D (Qd D))) := by
  refine ⟨a, rfl, ?_⟩
  rcases hq with hq | hq
  · exact .inl ⟨⟨xs, hq⟩, fun D nD => lc_relD walk_list few nD (fun H s => s.seq hq) (rel D) (st D) (sb D nD) (fun i x hx H s nd => step D i x hx H s nd nD) fun H' ys => fin D H' ys nD⟩
  · exact .inr ⟨⟨xs, hq⟩, fun D nD => lc_relD walk_tup few nD (fun H s => same_seqT s hq) (rel D) (st D) (sb D nD) (fun i x hx H s nd => step D i x hx H s nd nD) fun H' ys => fin D H' ys nD⟩
end RL

/-! A comprehension with two `for`s: the items, in their order, told by a relation. -/
namespace RL
open PySem L2 SX AddrMath VA
/-- the second walk -/
theorem in_it {J : It} {n : Nat} {G : Hp → Prop} {Y : Nat → Hp → V → Hp → Prop} (w : Walk J n G Y) {H4 : Hp} {Nx : Hp → Prop} {C : (Hp → Prop) → V → Hp → Prop} (Pv : Nat → Hp → Prop) (h0 : Pv 0 H4) (hG : ∀ i H, i ≤ n → Pv i H → G H)
    (hs : ∀ i x H H', i < n → Pv i H → Y i H x H' → C (Pv (i + 1)) x H') (hd : ∀ H, Pv n H → Nx H) :
    ∃ W1 : Nat → Nat → Hp → Prop, (∃ m, W1 0 m H4) ∧ ∀ j k H, W1 j k H → (J.stop j H ∧ Nx H) ∨ (J.go j H ∧ ∃ Nx1 : Hp → Prop, (∀ H', Nx1 H' → ∃ k', k' < k ∧ W1 (j + 1) k' H') ∧ ∀ x H', J.yld j H x H' → C Nx1 x H') := by
  refine ⟨fun i m H => m = n - i ∧ i ≤ n ∧ Pv i H, ⟨n, by simp, Nat.zero_le _, h0⟩, ?_⟩
  rintro i m H ⟨rfl, hi, p⟩
  have q := hG i H hi p
  by_cases hlt : i < n
  · exact .inr ⟨w.goes i H hlt q, Pv (i + 1), fun H' p' => ⟨n - (i + 1), by omega, rfl, hlt, p'⟩, fun x H' y => hs i x H H' hlt p (w.yields i H x H' hlt q y)⟩
  · have e : i = n := by omega
    subst e
    exact .inl ⟨w.stops H q, hd H p⟩
/-- items that are so, one by one -/
def AllR {β : Type} (rel : β → V → Hp → Prop) (bs : List β) (ys : List V) (H : Hp) : Prop := ys.length = bs.length ∧ ∀ (k : Nat) (b : β) (y : V), bs[k]? = some b → ys[k]? = some y → rel b y H
theorem AllR.imp {β : Type} {rel : β → V → Hp → Prop} {bs : List β} {ys : List V} {H H' : Hp} (h : AllR rel bs ys H) (k : ∀ b y, rel b y H → rel b y H') : AllR rel bs ys H' := ⟨h.1, fun i b y e1 e2 => k b y (h.2 i b y e1 e2)⟩
theorem AllR.app {β : Type} {rel : β → V → Hp → Prop} {bs cs : List β} {ys zs : List V} {H : Hp} (h : AllR rel bs ys H) (g : AllR rel cs zs H) : AllR rel (bs ++ cs) (ys ++ zs) H := by
  refine ⟨by rw [List.length_append, List.length_append, h.1, g.1], fun i b y e1 e2 => ?_⟩
  rcases Nat.lt_or_ge i ys.length with c | c
  · rw [List.getElem?_append_left c] at e2
    rw [List.getElem?_append_left (by rw [← h.1]; exact c)] at e1
    exact h.2 i b y e1 e2
  · rw [List.getElem?_append_right c] at e2
    rw [List.getElem?_append_right (by rw [← h.1]; exact c), ← h.1] at e1
    exact g.2 _ b y e1 e2
theorem AllR.one {β : Type} {rel : β → V → Hp → Prop} {b : β} {y : V} {H : Hp} (h : rel b y H) : AllR rel [b] [y] H := ⟨rfl, fun i c z e1 e2 => by
  match i, e1, e2 with
  | 0, e1, e2 =>
    cases e1
    cases e2
    exact h
  | i + 1, e1, _ => cases e1⟩
abbrev Lc2Goal (J : It) (g : TG) (wi1 : TI) (g1 : TG) (te : TE) (vs vs1 : List Nat) (σ : L2.St) (H1 : Hp) (D : Addr) (Qd : Hp → Prop) : Prop :=
  ∃ W : Nat → Nat → Hp → Prop, (∃ m, W 0 m (upd H1 D (.lst []))) ∧ ∀ i m H, W i m H →
    (J.stop i H ∧ Qd H) ∨ (J.go i H ∧ ∃ Nx : Hp → Prop, (∀ H', Nx H' → ∃ m', m' < m ∧ W (i + 1) m' H') ∧ ∀ x H', J.yld i H x H' → g x (wipe σ vs) H' fun σ2 H2 => wipe σ2 vs = wipe σ vs ∧ tYes σ2 H2 fun b H3 =>
      if b = true then wi1 σ2 H3 fun J1 H4 => ∃ W1 : Nat → Nat → Hp → Prop, (∃ m, W1 0 m H4) ∧ ∀ j k H, W1 j k H →
        (J1.stop j H ∧ Nx H) ∨ (J1.go j H ∧ ∃ Nx1 : Hp → Prop, (∀ H', Nx1 H' → ∃ k', k' < k ∧ W1 (j + 1) k' H') ∧ ∀ x H', J1.yld j H x H' → g1 x (wipe σ2 vs1) H' fun σ3 H5 => wipe σ3 vs1 = wipe σ2 vs1 ∧ tYes σ3 H5 fun b H6 =>
          if b = true then te σ3 H6 fun y H7 => ∃ acc, H7 D = some (.lst acc) ∧ acc.length < sizeLine ∧ Nx1 (upd H7 D (.lst (acc ++ [y]))) else Nx1 H6)
      else Nx H3)
theorem flat_few {β : Type} (f : Nat → List β) (fl : ∀ i, (f i).length ≤ 1000) (n : Nat) : ((List.range n).flatMap f).length ≤ n * 1000 := by
  induction n with
  | zero => exact Nat.le_refl _
  | succ n ih =>
    rw [List.range_succ, List.flatMap_append, List.length_append, List.flatMap_singleton]
    have := fl n
    omega
theorem range_mapO {α β : Type} (g : α → β) : ∀ l : List α, (List.range l.length).filterMap (fun i => l[i]?.map g) = l.map g
  | [] => rfl
  | x :: r => by
    have ih := range_mapO g r
    rw [List.length_cons, List.range_succ_eq_map, List.filterMap_cons, List.filterMap_map]
    have e : ((fun i => (x :: r)[i]?.map g) ∘ Nat.succ) = fun i => r[i]?.map g := by
      funext i
      rfl
    rw [e, ih]
    rfl
theorem range_flat {α β : Type} (g : α → List β) : ∀ l : List α, (List.range l.length).flatMap (fun i => (l[i]?.map g).getD []) = l.flatMap g
  | [] => rfl
  | x :: r => by
    have ih := range_flat g r
    rw [List.length_cons, List.range_succ_eq_map, List.flatMap_cons, List.flatMap_map, List.flatMap_cons]
    have e : (fun i : Nat => ((x :: r)[Nat.succ i]?.map g).getD []) = fun i => (r[i]?.map g).getD [] := by
      funext i
      rfl
    rw [show (fun a : Nat => ((x :: r)[a.succ]?.map g).getD []) = fun i => (r[i]?.map g).getD [] from e, ih]
    rfl
/-- a list or a tuple is walked -/
theorem seq_use {K : PySem.W.Frag} {a : Addr} {xs : List V} {H : Hp} (hq : SqA K H a xs) {R : It → Hp → Prop} (h : ∀ (J : It) (G : Hp → Prop), Walk J xs.length G (YAt xs) → (∀ H', (∀ o, H a = some o → H' a = some o) → G H') → R J H) :
    ∃ a', V.ref a = V.ref a' ∧ (((∃ ys, SqL K H a' ys) ∧ R (Itl K a') H) ∨ ((∃ ys, SqT K H a' ys) ∧ R (Itt K a') H)) := by
  refine ⟨a, rfl, ?_⟩
  rcases hq with hq | hq
  · refine .inl ⟨⟨xs, hq⟩, h _ _ walk_list fun H' k => ?_⟩
    rcases hq with (e | ⟨o, e⟩) | e
    · exact .inl (.inl (k _ e))
    · exact .inl (.inr ⟨o, k _ e⟩)
    · exact .inr e
  · refine .inr ⟨⟨xs, hq⟩, h _ _ walk_tup fun H' k => ?_⟩
    rcases hq with (e | ⟨o, e⟩) | e
    · exact .inl (.inl (k _ e))
    · exact .inl (.inr ⟨o, k _ e⟩)
    · exact .inr e
theorem flat_len {α β : Type} (l : List α) (g : α → List β) (n : Nat) (h : ∀ x ∈ l, (g x).length ≤ n) : (l.flatMap g).length ≤ l.length * n := by
  induction l with
  | nil => exact Nat.zero_le _
  | cons x r ih =>
    rw [List.flatMap_cons, List.length_append, List.length_cons, Nat.add_mul, Nat.one_mul]
    have h1 := h x (List.mem_cons_self ..)
    have h2 := ih fun y hy => h y (List.mem_cons_of_mem _ hy)
    omega
theorem idx_lt {α : Type} {l : List α} {i : Nat} {x : α} (h : l[i]? = some x) : i < l.length := by
  rcases Nat.lt_or_ge i l.length with c | c
  · exact c
  · rw [List.getElem?_eq_none c] at h
    cases h
theorem seqA_but {K : PySem.W.Frag} {a D : Addr} {H H' : Hp} {xs : List V} (h : SqA K H a xs) (n : a ≠ D) (k : But D H H') : SqA K H' a xs := by
  rcases h with ((h | ⟨o, h⟩) | h) | ((h | ⟨o, h⟩) | h)
  · exact .inl (.inl (.inl (k _ _ h n)))
  · exact .inl (.inl (.inr ⟨o, k _ _ h n⟩))
  · exact .inl (.inr h)
  · exact .inr (.inl (.inl (k _ _ h n)))
  · exact .inr (.inl (.inr ⟨o, k _ _ h n⟩))
  · exact .inr (.inr h)
/-- a list or a tuple walked, and another one for each of its items -/
theorem lc2_rel {K : PySem.W.Frag} {β : Type} {J : It} {xs : List V} {G : Hp → Prop} (w : Walk J xs.length G (YAt xs)) (few : xs.length ≤ 1000) {j : Nat} {g1 : TG} {te1 te : TE} {vs vs1 : List Nat} {σ : L2.St} {H1 : Hp} {D : Addr} {Qd : Hp → Prop} (nD : H1 D = none) (hG : ∀ H, Same H1 H → G H)
    (f : Nat → List β) (fl : ∀ i, (f i).length ≤ 1000) (rel : β → V → Hp → Prop) (st : ∀ b y H H', Same H H' → rel b y H → rel b y H') (sb : ∀ b y H H' zs, H D = some (.lst zs) → But D H H' → rel b y H → rel b y H')
    (hw : ∀ x, wipe ((wipe σ vs).set j (some x)) vs = wipe σ vs)
    (inner : ∀ (i : Nat) (x : V), xs[i]? = some x → ∀ H, Same H1 H → H D ≠ none → ∀ R : VK, (∀ (b : Addr) (ys : List V) (H' : Hp), SqA K H' b ys → b ≠ D → ys.length = (f i).length → Same H H' →
        (∀ H'', Same H1 H'' → But D H' H'' → ∀ (k : Nat) (y : V), ys[k]? = some y → ∀ R' : VK, (∀ v H3, Same H'' H3 → (∀ e, (f i)[k]? = some e → rel e v H3) → R' v H3) → g1 y (wipe ((wipe σ vs).set j (some x)) vs1) H'' fun σ3 H5 => wipe σ3 vs1 = wipe ((wipe σ vs).set j (some x)) vs1 ∧ te σ3 H5 R') → R (.ref b) H') → te1 ((wipe σ vs).set j (some x)) H R)
    (fin : ∀ H' ys, H' D = some (.lst ys) → AllR rel ((List.range xs.length).flatMap f) ys H' → Same H1 H' → Qd H') : Lc2Goal J (gName j) (iSeq K te1) g1 te vs vs1 σ H1 D Qd := by
  refine in_it w (C := fun Nx x H' => gName j x (wipe σ vs) H' fun σ2 H2 => wipe σ2 vs = wipe σ vs ∧ tYes σ2 H2 fun b H3 =>
      if b = true then iSeq K te1 σ2 H3 fun J1 H4 => ∃ W1 : Nat → Nat → Hp → Prop, (∃ m, W1 0 m H4) ∧ ∀ j k H, W1 j k H →
        (J1.stop j H ∧ Nx H) ∨ (J1.go j H ∧ ∃ Nx1 : Hp → Prop, (∀ H', Nx1 H' → ∃ k', k' < k ∧ W1 (j + 1) k' H') ∧ ∀ x H', J1.yld j H x H' → g1 x (wipe σ2 vs1) H' fun σ3 H5 => wipe σ3 vs1 = wipe σ2 vs1 ∧ tYes σ3 H5 fun b H6 =>
          if b = true then te σ3 H6 fun y H7 => ∃ acc, H7 D = some (.lst acc) ∧ acc.length < sizeLine ∧ Nx1 (upd H7 D (.lst (acc ++ [y]))) else Nx1 H6)
      else Nx H3)
    (fun i H => Same H1 H ∧ ∃ ys, H D = some (.lst ys) ∧ AllR rel ((List.range i).flatMap f) ys H) ⟨same_new nD, [], upd_same, rfl, fun k b y e1 _ => by simp at e1⟩ (fun i H _ p => hG H p.1) ?_ ?_
  · rintro i x H H' hi ⟨s, ys, hD, hr⟩ ⟨rfl, hx⟩
    refine ⟨hw x, ?_⟩
    refine inner i x hx H' s (by rw [hD]; exact fun z => by cases z) _ fun b zs H2 hb nb lz s2 elem => ⟨b, rfl, ?_⟩
    have hlen := hr.1
    have tot := flat_few f fl i
    have fi := fl i
    have inner_walk : ∀ {J1 : It} {G1 : Hp → Prop}, Walk J1 zs.length G1 (YAt zs) → (∀ H, But D H2 H → G1 H) → ∃ W1 : Nat → Nat → Hp → Prop, (∃ m, W1 0 m H2) ∧ ∀ j_1 k H, W1 j_1 k H →
        (J1.stop j_1 H ∧ (Same H1 H ∧ ∃ ys, H D = some (.lst ys) ∧ AllR rel ((List.range (i + 1)).flatMap f) ys H)) ∨ (J1.go j_1 H ∧ ∃ Nx1 : Hp → Prop, (∀ H', Nx1 H' → ∃ k', k' < k ∧ W1 (j_1 + 1) k' H') ∧ ∀ x_1 H', J1.yld j_1 H x_1 H' → g1 x_1 (wipe ((wipe σ vs).set j (some x)) vs1) H' fun σ3 H5 => wipe σ3 vs1 = wipe ((wipe σ vs).set j (some x)) vs1 ∧ tYes σ3 H5 fun b H6 =>
          if b = true then te σ3 H6 fun y H7 => ∃ acc, H7 D = some (.lst acc) ∧ acc.length < sizeLine ∧ Nx1 (upd H7 D (.lst (acc ++ [y]))) else Nx1 H6) := fun w1 hG1 => by
      refine in_it w1 (C := fun Nx1 x_1 H' => g1 x_1 (wipe ((wipe σ vs).set j (some x)) vs1) H' fun σ3 H5 => wipe σ3 vs1 = wipe ((wipe σ vs).set j (some x)) vs1 ∧ tYes σ3 H5 fun b H6 =>
          if b = true then te σ3 H6 fun y H7 => ∃ acc, H7 D = some (.lst acc) ∧ acc.length < sizeLine ∧ Nx1 (upd H7 D (.lst (acc ++ [y]))) else Nx1 H6)
        (fun k H => But D H2 H ∧ Same H1 H ∧ ∃ us, H D = some (.lst us) ∧ AllR rel ((List.range i).flatMap f ++ (f i).take k) us H) ?_ (fun k H _ p => hG1 H p.1) ?_ ?_
      · refine ⟨fun _ _ e _ => e, s.trans s2, ys, s2 _ _ hD, ?_⟩
        rw [List.take_zero, List.append_nil]
        exact hr.imp fun b y => st b y _ _ s2
      · rintro k y H3 H4 hk ⟨b3, s3, us, hD3, hr3⟩ ⟨rfl, hy⟩
        have hk' : k < (f i).length := by rw [← lz]; exact hk
        have ek := List.getElem?_eq_getElem hk'
        have lu := hr3.1
        rw [List.length_append, List.length_take] at lu
        refine elem H4 s3 b3 k y hy (fun y H7 => ∃ acc, H7 D = some (.lst acc) ∧ acc.length < sizeLine ∧ (But D H2 (upd H7 D (.lst (acc ++ [y]))) ∧ Same H1 (upd H7 D (.lst (acc ++ [y]))) ∧ ∃ us, (upd H7 D (.lst (acc ++ [y]))) D = some (.lst us) ∧ AllR rel ((List.range i).flatMap f ++ (f i).take (k + 1)) us (upd H7 D (.lst (acc ++ [y]))))) fun v H5 s5 hv => ?_
        have hD5 := s5 _ _ hD3
        have b5 : But D H5 (upd H5 D (.lst (us ++ [v]))) := But.upd
        refine ⟨us, hD5, ?_, fun a o e n => b5 _ _ (s5 _ _ (b3 _ _ e n)) n, fun a o e => ?_, _, upd_same, ?_⟩
        · have : i * 1000 ≤ 1000000 := by
            have : i ≤ 1000 := by omega
            omega
          have : us.length ≤ 1001000 := by omega
          exact Nat.lt_of_le_of_lt this (by show 1001000 < sizeLine; decide)
        · rw [upd_ne (ne_of_none e nD)]
          exact s5 _ _ (s3 _ _ e)
        · rw [List.take_add_one, ek, ← List.append_assoc]
          refine AllR.app ((hr3.imp fun b y => st b y _ _ s5).imp fun b y => sb b y _ _ _ hD5 b5) (AllR.one ?_)
          exact sb _ _ _ _ _ hD5 b5 (hv _ ek)
      · rintro H3 ⟨b3, s3, us, hD3, hr3⟩
        refine ⟨s3, us, hD3, ?_⟩
        rw [lz, List.take_length] at hr3
        rw [List.range_succ, List.flatMap_append, List.flatMap_singleton]
        exact hr3
    rcases hb with hb | hb
    · refine .inl ⟨⟨zs, hb⟩, inner_walk walk_list fun H k => ?_⟩
      rcases hb with (h | ⟨o, h⟩) | h
      · exact .inl (.inl (k _ _ h nb))
      · exact .inl (.inr ⟨o, k _ _ h nb⟩)
      · exact .inr h
    · refine .inr ⟨⟨zs, hb⟩, inner_walk walk_tup fun H k => ?_⟩
      rcases hb with (h | ⟨o, h⟩) | h
      · exact .inl (.inl (k _ _ h nb))
      · exact .inl (.inr ⟨o, k _ _ h nb⟩)
      · exact .inr h
  · rintro H ⟨s, ys, hD, hr⟩
    exact fin H ys hD hr s
/-- one `for` with a test -/
theorem lc_flt {β : Type} {J : It} {xs : List V} {G : Hp → Prop} (w : Walk J xs.length G (YAt xs)) (few : xs.length ≤ 1000000) {j : Nat} {tt : TT} {te : TE} {vs : List Nat} {σ : L2.St} {H1 : Hp} {D : Addr} {Qd : Hp → Prop} (nD : H1 D = none) (hG : ∀ H, Same H1 H → G H)
    (f : Nat → Option β) (rel : β → V → Hp → Prop) (st : ∀ b y H H', Same H H' → rel b y H → rel b y H') (sb : ∀ b y H H' zs, H D = some (.lst zs) → But D H H' → rel b y H → rel b y H')
    (hw : ∀ x, wipe ((wipe σ vs).set j (some x)) vs = wipe σ vs)
    (step : ∀ (i : Nat) (x : V), xs[i]? = some x → ∀ H, Same H1 H → (∀ R : Bool → Hp → Prop, (∀ H', Same H H' → R (f i).isSome H') → tt ((wipe σ vs).set j (some x)) H R) ∧
      ∀ e, f i = some e → ∀ H', Same H H' → ∀ R : VK, (∀ y H'', Same H' H'' → rel e y H'' → R y H'') → te ((wipe σ vs).set j (some x)) H' R)
    (fin : ∀ H' ys, H' D = some (.lst ys) → AllR rel ((List.range xs.length).filterMap f) ys H' → Same H1 H' → Qd H') : LcGoal J (gName j) tt te vs σ H1 D Qd := by
  refine lc_it w (fun i H => Same H1 H ∧ ∃ ys, H D = some (.lst ys) ∧ AllR rel ((List.range i).filterMap f) ys H) ⟨same_new nD, [], upd_same, rfl, fun k b y e1 _ => by simp at e1⟩ (fun i H _ p => hG H p.1) ?_ ?_
  · rintro i x H H' hi ⟨s, ys, hD, hr⟩ ⟨rfl, hx⟩
    obtain ⟨s1, s2⟩ := step i x hx H' s
    refine ⟨hw x, s1 _ fun H3 s3 => ?_⟩
    have e9 : (List.range (i + 1)).filterMap f = (List.range i).filterMap f ++ (match f i with | some e => [e] | none => []) := by
      rw [List.range_succ, List.filterMap_append]
      congr 1
      cases e : f i with
      | none => simp [e]
      | some v => simp [e]
    rw [e9]
    cases e : f i with
    | none =>
      refine iteF ⟨s.trans s3, ys, s3 _ _ hD, ?_⟩
      rw [List.append_nil]
      exact hr.imp fun b y => st b y _ _ s3
    | some v =>
      refine iteT (s2 v e H3 s3 _ fun y H4 s4 ry => ?_)
      have hD4 := s4 _ _ (s3 _ _ hD)
      have b4 : But D H4 (upd H4 D (.lst (ys ++ [y]))) := But.upd
      have hlen := hr.1
      have hfm : ((List.range i).filterMap f).length ≤ i := by
        have := List.length_filterMap_le f (List.range i)
        rwa [List.length_range] at this
      refine ⟨ys, hD4, Nat.lt_of_le_of_lt (show ys.length ≤ 1000000 by omega) (by show 1000000 < sizeLine; decide), fun a o z => ?_, _, upd_same, ?_⟩
      · rw [upd_ne (ne_of_none z nD)]
        exact s4 _ _ (s3 _ _ (s _ _ z))
      · exact AllR.app ((hr.imp fun b y => st b y _ _ (s3.trans s4)).imp fun b y => sb b y _ _ _ hD4 b4) (AllR.one (sb _ _ _ _ _ hD4 b4 ry))
  · rintro H ⟨s, ys, hD, hr⟩
    exact fin H ys hD hr s
theorem seq_flt {K : PySem.W.Frag} {β : Type} {a : Addr} {xs : List V} {j : Nat} {tt : TT} {te : TE} {vs : List Nat} {σ : L2.St} {H1 : Hp} {Qd : Addr → Hp → Prop} (hq : SqA K H1 a xs) (few : xs.length ≤ 1000000)
    (f : Nat → Option β) (rel : β → V → Hp → Prop) (st : ∀ b y H H', Same H H' → rel b y H → rel b y H') (sb : ∀ D, H1 D = none → ∀ b y H H' zs, H D = some (.lst zs) → But D H H' → rel b y H → rel b y H')
    (hw : ∀ x, wipe ((wipe σ vs).set j (some x)) vs = wipe σ vs)
    (step : ∀ (i : Nat) (x : V), xs[i]? = some x → ∀ H, Same H1 H → (∀ R : Bool → Hp → Prop, (∀ H', Same H H' → R (f i).isSome H') → tt ((wipe σ vs).set j (some x)) H R) ∧
      ∀ e, f i = some e → ∀ H', Same H H' → ∀ R : VK, (∀ y H'', Same H' H'' → rel e y H'' → R y H'') → te ((wipe σ vs).set j (some x)) H' R)
    (fin : ∀ D H' ys, H1 D = none → H' D = some (.lst ys) → AllR rel ((List.range xs.length).filterMap f) ys H' → Same H1 H' → Qd D H') :
    ∃ a', V.ref a = V.ref a' ∧ (((∃ ys, SqL K H1 a' ys) ∧ ∀ D, H1 D = none → LcGoal (Itl K a') (gName j) tt te vs σ H1 D (Qd D)) ∨ ((∃ ys, SqT K H1 a' ys) ∧ ∀ D, H1 D = none → LcGoal (Itt K a') (gName j) tt te vs σ H1 D (Qd D))) := by
  refine ⟨a, rfl, ?_⟩
  rcases hq with hq | hq
  · exact .inl ⟨⟨xs, hq⟩, fun D nD => lc_flt walk_list few nD (fun H s => s.seq hq) f rel st (sb D nD) hw step fun H' ys => fin D H' ys nD⟩
  · exact .inr ⟨⟨xs, hq⟩, fun D nD => lc_flt walk_tup few nD (fun H s => same_seqT s hq) f rel st (sb D nD) hw step fun H' ys => fin D H' ys nD⟩
theorem seq2_rel {K : PySem.W.Frag} {β : Type} {a : Addr} {xs : List V} {j : Nat} {g1 : TG} {te1 te : TE} {vs vs1 : List Nat} {σ : L2.St} {H1 : Hp} {Qd : Addr → Hp → Prop} (hq : SqA K H1 a xs) (few : xs.length ≤ 1000)
    (f : Nat → List β) (fl : ∀ i, (f i).length ≤ 1000) (rel : β → V → Hp → Prop) (st : ∀ b y H H', Same H H' → rel b y H → rel b y H') (sb : ∀ D, H1 D = none → ∀ b y H H' zs, H D = some (.lst zs) → But D H H' → rel b y H → rel b y H')
    (hw : ∀ x, wipe ((wipe σ vs).set j (some x)) vs = wipe σ vs)
    (inner : ∀ (D : Addr), H1 D = none → ∀ (i : Nat) (x : V), xs[i]? = some x → ∀ H, Same H1 H → H D ≠ none → ∀ R : VK, (∀ (b : Addr) (ys : List V) (H' : Hp), SqA K H' b ys → b ≠ D → ys.length = (f i).length → Same H H' →
        (∀ H'', Same H1 H'' → But D H' H'' → ∀ (k : Nat) (y : V), ys[k]? = some y → ∀ R' : VK, (∀ v H3, Same H'' H3 → (∀ e, (f i)[k]? = some e → rel e v H3) → R' v H3) → g1 y (wipe ((wipe σ vs).set j (some x)) vs1) H'' fun σ3 H5 => wipe σ3 vs1 = wipe ((wipe σ vs).set j (some x)) vs1 ∧ te σ3 H5 R') → R (.ref b) H') → te1 ((wipe σ vs).set j (some x)) H R)
    (fin : ∀ D H' ys, H1 D = none → H' D = some (.lst ys) → AllR rel ((List.range xs.length).flatMap f) ys H' → Same H1 H' → Qd D H') :
    ∃ a', V.ref a = V.ref a' ∧ (((∃ ys, SqL K H1 a' ys) ∧ ∀ D, H1 D = none → Lc2Goal (Itl K a') (gName j) (iSeq K te1) g1 te vs vs1 σ H1 D (Qd D)) ∨ ((∃ ys, SqT K H1 a' ys) ∧ ∀ D, H1 D = none → Lc2Goal (Itt K a') (gName j) (iSeq K te1) g1 te vs vs1 σ H1 D (Qd D))) := by
  refine ⟨a, rfl, ?_⟩
  rcases hq with hq | hq
  · exact .inl ⟨⟨xs, hq⟩, fun D nD => lc2_rel walk_list few nD (fun H s => s.seq hq) f fl rel st (sb D nD) hw (inner D nD) fun H' ys => fin D H' ys nD⟩
  · exact .inr ⟨⟨xs, hq⟩, fun D nD => lc2_rel walk_tup few nD (fun H s => same_seqT s hq) f fl rel st (sb D nD) hw (inner D nD) fun H' ys => fin D H' ys nD⟩
end RL

namespace RL
open PySem L2 SX AddrMath VA
def top (i : Nat) : Stmt := PySem.Challenge.pw_sentonward_k18_rows_listed.main.body.getD i (.Pass ⟨0, 0, 0, 0⟩)
/-- names that are the built-in ones -/
structure Blt (mg : Str → Option Value) : Prop where
  isinstance_ : mg "isinstance" = none
  str_ : mg "str" = none
  int_ : mg "int" = none
  bool_ : mg "bool" = none
  list_ : mg "list" = none
  tuple_ : mg "tuple" = none
  len_ : mg "len" = none
  all_ : mg "all" = none
  sorted_ : mg "sorted" = none
  set_ : mg "set" = none
  range_ : mg "range" = none
  min_ : mg "min" = none
  repr_ : mg "repr" = none
  zip_ : mg "zip" = none
theorem if_dec {c A B : Prop} [Decidable c] (h : c) (a : A) : if decide c = true then A else B := by
  rw [if_pos (decide_eq_true h)]
  exact a
theorem if_not {c A B : Prop} [Decidable c] (h : ¬ c) (b : B) : if decide c = true then A else B := by
  rw [if_neg (by simpa using h)]
  exact b
theorem if_is {b : Bool} {A B : Prop} (t : b = true → A) (f : b = false → B) : if b = true then A else B := by
  cases b with
  | true => exact iteT (t rfl)
  | false => exact iteF (f rfl)
theorem kitSeq {K : PySem.W.Frag} (d : PyData) : PySem.W.kitAny K (.type (tyN d)) [.type "list", .type "tuple"] = some (isSeqD d) := by
  cases d with
  | none => exact kitAny_cons (kit_ty (show kitB "NoneType" "list" = some false by decide +kernel)) (fun _ => kitAny_cons (kit_ty (show kitB "NoneType" "tuple" = some false by decide +kernel)) (fun _ => rfl) (fun z => by cases z)) (fun z => by cases z)
  | bool b => exact kitAny_cons (kit_ty (show kitB "bool" "list" = some false by decide +kernel)) (fun _ => kitAny_cons (kit_ty (show kitB "bool" "tuple" = some false by decide +kernel)) (fun _ => rfl) (fun z => by cases z)) (fun z => by cases z)
  | int i => exact kitAny_cons (kit_ty (show kitB "int" "list" = some false by decide +kernel)) (fun _ => kitAny_cons (kit_ty (show kitB "int" "tuple" = some false by decide +kernel)) (fun _ => rfl) (fun z => by cases z)) (fun z => by cases z)
  | str x => exact kitAny_cons (kit_ty (show kitB "str" "list" = some false by decide +kernel)) (fun _ => kitAny_cons (kit_ty (show kitB "str" "tuple" = some false by decide +kernel)) (fun _ => rfl) (fun z => by cases z)) (fun z => by cases z)
  | list l => exact kitAny_cons (kit_ty (show kitB "list" "list" = some true by decide +kernel)) (fun z => by cases z) fun _ => rfl
  | tuple l => exact kitAny_cons (kit_ty (show kitB "tuple" "list" = some false by decide +kernel)) (fun _ => kitAny_cons (kit_ty (show kitB "tuple" "tuple" = some true by decide +kernel)) (fun z => by cases z) fun _ => rfl) (fun z => by cases z)
  | dict l => exact kitAny_cons (kit_ty (show kitB "dict" "list" = some false by decide +kernel)) (fun _ => kitAny_cons (kit_ty (show kitB "dict" "tuple" = some false by decide +kernel)) (fun _ => rfl) (fun z => by cases z)) (fun z => by cases z)
def isStrD : PyData → Bool
  | .str _ => true
  | _ => false
def isBoolD : PyData → Bool
  | .bool _ => true
  | _ => false
def isTupD : PyData → Bool
  | .tuple _ => true
  | _ => false
def isNumD : PyData → Bool
  | .int _ => true
  | .bool _ => true
  | _ => false
theorem kitStr {K : PySem.W.Frag} (d : PyData) : PySem.W.kitOne K (.type (tyN d)) (.type "str") = some (isStrD d) := by
  cases d with
  | none => exact (kit_ty (show kitB "NoneType" "str" = some false by decide +kernel))
  | bool b => exact (kit_ty (show kitB "bool" "str" = some false by decide +kernel))
  | int i => exact (kit_ty (show kitB "int" "str" = some false by decide +kernel))
  | str x => exact (kit_ty (show kitB "str" "str" = some true by decide +kernel))
  | list l => exact (kit_ty (show kitB "list" "str" = some false by decide +kernel))
  | tuple l => exact (kit_ty (show kitB "tuple" "str" = some false by decide +kernel))
  | dict l => exact (kit_ty (show kitB "dict" "str" = some false by decide +kernel))
theorem kitBool {K : PySem.W.Frag} (d : PyData) : PySem.W.kitOne K (.type (tyN d)) (.type "bool") = some (isBoolD d) := by
  cases d with
  | none => exact (kit_ty (show kitB "NoneType" "bool" = some false by decide +kernel))
  | bool b => exact (kit_ty (show kitB "bool" "bool" = some true by decide +kernel))
  | int i => exact (kit_ty (show kitB "int" "bool" = some false by decide +kernel))
  | str x => exact (kit_ty (show kitB "str" "bool" = some false by decide +kernel))
  | list l => exact (kit_ty (show kitB "list" "bool" = some false by decide +kernel))
  | tuple l => exact (kit_ty (show kitB "tuple" "bool" = some false by decide +kernel))
  | dict l => exact (kit_ty (show kitB "dict" "bool" = some false by decide +kernel))
theorem kitTup {K : PySem.W.Frag} (d : PyData) : PySem.W.kitOne K (.type (tyN d)) (.type "tuple") = some (isTupD d) := by
  cases d with
  | none => exact (kit_ty (show kitB "NoneType" "tuple" = some false by decide +kernel))
  | bool b => exact (kit_ty (show kitB "bool" "tuple" = some false by decide +kernel))
  | int i => exact (kit_ty (show kitB "int" "tuple" = some false by decide +kernel))
  | str x => exact (kit_ty (show kitB "str" "tuple" = some false by decide +kernel))
  | list l => exact (kit_ty (show kitB "list" "tuple" = some false by decide +kernel))
  | tuple l => exact (kit_ty (show kitB "tuple" "tuple" = some true by decide +kernel))
  | dict l => exact (kit_ty (show kitB "dict" "tuple" = some false by decide +kernel))
theorem kitInt {K : PySem.W.Frag} (d : PyData) : PySem.W.kitOne K (.type (tyN d)) (.type "int") = some (isNumD d) := by
  cases d with
  | none => exact (kit_ty (show kitB "NoneType" "int" = some false by decide +kernel))
  | bool b => exact (kit_ty (show kitB "bool" "int" = some true by decide +kernel))
  | int i => exact (kit_ty (show kitB "int" "int" = some true by decide +kernel))
  | str x => exact (kit_ty (show kitB "str" "int" = some false by decide +kernel))
  | list l => exact (kit_ty (show kitB "list" "int" = some false by decide +kernel))
  | tuple l => exact (kit_ty (show kitB "tuple" "int" = some false by decide +kernel))
  | dict l => exact (kit_ty (show kitB "dict" "int" = some false by decide +kernel))
theorem vx_str {K : PySem.W.Frag} {H : Hp} {x : V} {d : PyData} (h : Vx K H x d) (e : isStrD d = true) : ∃ z : Str, x = .str z ∧ d = .str z ∧ z.length ≤ 1000 := by
  rcases h with ⟨h, o⟩ | ⟨a, kvs, rfl, h, rfl⟩
  · cases h with
    | str z =>
      rw [okD, Bool.and_eq_true, decide_eq_true_eq] at o
      exact ⟨z, rfl, rfl, o.1⟩
    | non => cases e
    | bl b => cases e
    | int i => cases e
    | lst h1 h2 => cases e
    | tup h1 h2 => cases e
  · cases e
theorem vx_seq {K : PySem.W.Frag} {H : Hp} {x : V} {d : PyData} (h : Vx K H x d) (e : isSeqD d = true) : ∃ a xs, x = .ref a ∧ SqA K H a xs ∧ DpAll K H xs (itemsD d) ∧ (itemsD d).length ≤ 5000 ∧ ∀ e ∈ itemsD d, okD 7 e = true := by
  rcases h with ⟨h, o⟩ | ⟨a, kvs, rfl, h, rfl⟩
  · cases h with
    | str z => cases e
    | non => cases e
    | bl b => cases e
    | int i => cases e
    | lst h1 h2 =>
      rw [okD, Bool.and_eq_true, Bool.and_eq_true, decide_eq_true_eq, decide_eq_true_eq] at o
      exact ⟨_, _, rfl, .inl h1, h2, o.2.1, okAll_mem o.2.2⟩
    | tup h1 h2 =>
      rw [okD, Bool.and_eq_true, Bool.and_eq_true, decide_eq_true_eq, decide_eq_true_eq] at o
      exact ⟨_, _, rfl, .inr h1, h2, o.2.1, okAll_mem o.2.2⟩
  · cases e
section
variable {P : Program} {w : World} {K : PySem.W.Frag} {mg : Str → Option Value} {base : Heap}
/-! ### is_word: slots value 0 -/
abbrev sIsWord : Stmt := top 12
def spIsWord (K : PySem.W.Frag) : Sp := fun vs H Q _ => ∃ x d, vs = [x] ∧ Vx K H x d ∧ Q (.bl (isWordD d)) H
theorem scIsWord : FnScope ["value"] ["value"] (defScope sIsWord) := ⟨rfl, rfl, rfl, by decide +kernel, rfl, by decide +kernel, by decide +kernel⟩
theorem ok_isword {f : Addr} {fd : FuncData} {t : Tok} (F : Fun K "is_word" "is_word" sIsWord f fd) (B : Blt mg) (mL : mg "LETTERS" = some (.int 8 t)) :
    FnOk P w K mg base CX0 1 f fd ["value"] (spIsWord K) := by
  refine F.ok scIsWord (fun vs H Q E h => ?_) (fun cdv A outer s H vs Q E hr h => ?_)
  · obtain ⟨x, d, rfl, _⟩ := h
    rfl
  · obtain ⟨x, d, rfl, hx, q⟩ := h
    refine ⟨_, (pss_cons (ps_if (pt_not (pt_val (pe_callB call_isi (by rfl) B.isinstance_ (by decide +kernel) (pa_cons (pv 0) (pa_cons (pe_bltn (v := .ty "str") (by rfl) B.str_ (by decide +kernel) rfl) pa_nil))))) (pss_one (ps_ret pe_bl)) pss_nil)
      (pss_one (ps_ret (pe_and (pe_chain op_le op_le pe_int (pe_callB call_len_str (by rfl) B.len_ (by decide +kernel) (pa_cons (pv 0) pa_nil)) (pe_glob (v := .int 8) rfl mL ⟨_, rfl⟩)) (pe_and (pe_m0 PySem.F.slot_str_isascii PySem.F.type_str_isascii mt_isascii (pv 0)) (pe_and (pe_m0 PySem.F.slot_str_isalpha PySem.F.type_str_isalpha mt_isalpha (pv 0)) (pe_one (pe_m0 PySem.F.slot_str_islower PySem.F.type_str_islower mt_islower (pv 0))))))))), ?_⟩
    refine ⟨_, rfl, _, _, _, _, isStrD d, rfl, .ty "str", hx.ty, kitStr d, _, rfl, ?_⟩
    cases e : isStrD d with
    | false =>
      refine iteT ?_
      have : isWordD d = false := by cases d <;> first | rfl | cases e
      rw [this] at q
      exact q
    | true =>
      refine iteF ?_
      obtain ⟨z, rfl, rfl, hz⟩ := vx_str hx e
      have q' : Q (.bl (isW z.cps.toList)) H := q
      refine ⟨_, rfl, _, rfl, size_ok (by omega), _, _, rfl, rfl, _, rfl, if_is (fun h1 => ?_) (fun h1 => ?_)⟩
      · have h1' : (1 : Int) ≤ (z.length : Int) := of_decide_eq_true h1
        refine ⟨_, _, rfl, rfl, _, rfl, if_is (fun h8 => ?_) (fun h8 => ?_)⟩
        · have h8' : (z.length : Int) ≤ 8 := of_decide_eq_true h8
          have e2 := word_txt z (by omega) (by omega)
          refine ⟨_, rfl, ⟨_, rfl⟩, _, rfl, rfl, trivial, _, rfl, if_is (fun a1 => ?_) (fun a1 => ?_)⟩
          · refine ⟨_, rfl, ⟨_, rfl⟩, _, rfl, rfl, trivial, _, rfl, if_is (fun a2 => ?_) (fun a2 => ?_)⟩
            · refine ⟨_, rfl, ⟨_, rfl⟩, _, rfl, rfl, trivial, ?_⟩
              rw [a1, a2, Bool.true_and, Bool.true_and] at e2
              rw [e2]
              exact q'
            · rw [a1, a2, Bool.true_and, Bool.false_and] at e2
              rw [e2]
              exact q'
          · rw [a1, Bool.false_and] at e2
            rw [e2]
            exact q'
        · have : isW z.cps.toList = false := Bool.eq_false_iff.mpr fun y => by
            have := word_len y
            have := of_decide_eq_false h8
            omega
          rw [this] at q'
          exact q'
      · have : isW z.cps.toList = false := Bool.eq_false_iff.mpr fun y => by
          have := word_len y
          have := of_decide_eq_false h1
          omega
        rw [this] at q'
        exact ⟨_, rfl, iteF q'⟩
/-! ### is_integer: slots value 0 -/
abbrev sIsInteger : Stmt := top 14
def spIsInt (K : PySem.W.Frag) : Sp := fun vs H Q _ => ∃ x d, vs = [x] ∧ Vx K H x d ∧ Q (.bl (isIntD d)) H
theorem scIsInteger : FnScope ["value"] ["value"] (defScope sIsInteger) := ⟨rfl, rfl, rfl, by decide +kernel, rfl, by decide +kernel, by decide +kernel⟩
theorem ok_isint {f : Addr} {fd : FuncData} (F : Fun K "is_integer" "is_integer" sIsInteger f fd) (B : Blt mg) : FnOk P w K mg base CX0 1 f fd ["value"] (spIsInt K) := by
  refine F.ok scIsInteger (fun vs H Q E h => ?_) (fun cdv A outer s H vs Q E hr h => ?_)
  · obtain ⟨x, d, rfl, _⟩ := h
    rfl
  · obtain ⟨x, d, rfl, hx, q⟩ := h
    refine ⟨_, (pss_one (ps_ret (pe_and (pe_callB call_isi (by rfl) B.isinstance_ (by decide +kernel) (pa_cons (pv 0) (pa_cons (pe_bltn (v := .ty "int") (by rfl) B.int_ (by decide +kernel) rfl) pa_nil))) (pe_one (pe_not (pe_callB call_isi (by rfl) B.isinstance_ (by decide +kernel) (pa_cons (pv 0) (pa_cons (pe_bltn (v := .ty "bool") (by rfl) B.bool_ (by decide +kernel) rfl) pa_nil)))))))), ?_⟩
    refine ⟨_, rfl, _, _, _, _, isNumD d, rfl, .ty "int", hx.ty, kitInt d, _, rfl, if_is (fun e => ?_) (fun e => ?_)⟩
    · refine ⟨_, rfl, _, _, _, _, isBoolD d, rfl, .ty "bool", hx.ty, kitBool d, _, rfl, ?_⟩
      have : (!isBoolD d) = isIntD d := by cases d <;> first | rfl | cases e
      rw [this]
      exact q
    · have : isIntD d = false := by cases d <;> first | rfl | cases e
      rw [this] at q
      exact q
end
end RL

namespace RL
open PySem L2 SX AddrMath VA
section
variable {P : Program} {w : World} {K : PySem.W.Frag} {mg : Str → Option Value} {base : Heap}
/-! ### is_hole: slots value 0, is_free 1 -/
abbrev sIsHole : Stmt := top 28
/-- the holes' dict stands there -/
structure Holes (K : PySem.W.Frag) (mg : Str → Option Value) (d : Addr) (es : Array DictEntry) (n : Nat) : Prop where
  mg : mg "HOLES" = some (.ref d)
  at_ : K.lookup d = some ⟨.type "dict", none, .dict es n, #[]⟩
  low : (d == sysModules) = false
  two : es.size = 2
def spIsHole (K : PySem.W.Frag) : Sp := fun vs H Q _ => ∃ x d, vs = [x, .bl false] ∧ Vx K H x d ∧ Q (.bl (isHoleD d)) H
theorem scIsHole : FnScope ["value", "is_free"] ["value", "is_free"] (defScope sIsHole) := ⟨rfl, rfl, rfl, by decide +kernel, rfl, by decide +kernel, by decide +kernel⟩
theorem ok_ishole {f : Addr} {fd : FuncData} {hd : Addr} {es : Array DictEntry} {n : Nat} (F : Fun K "is_hole" "is_hole" sIsHole f fd) (B : Blt mg) (is_integer : Own P w K mg base CX0 1 "is_integer" ["value"] (spIsInt K)) (Z : Holes K mg hd es n) : FnOk P w K mg base CX0 2 f fd ["value", "is_free"] (spIsHole K) := by
  refine F.ok scIsHole (fun vs H Q E h => ?_) (fun cdv A outer s H vs Q E hr h => ?_)
  · obtain ⟨x, d, rfl, _⟩ := h
    rfl
  · obtain ⟨x, d, rfl, hx, q⟩ := h
    refine ⟨_, (pss_one (ps_ret (pe_and (pe_call is_integer.g (hr.mono (by decide)) rfl is_integer.mg is_integer.kp is_integer.b .nil pass0 (pa_cons (pv 0) pa_nil)) (pe_and (pe_cmpR op_le pe_int (pv 0) (nomark _)) (pe_one (pe_or (pv 1) (pe_one (pe_cmpR op_le (pv 0) (pe_callB (call_lenK (d := hd) (es := es) (n := n) Z.at_ Z.low (by rw [Z.two]; decide)) (by rfl) B.len_ (by decide +kernel) (pa_cons (pe_glob (v := .ref hd) rfl Z.mg rfl) pa_nil)) (nomark _))))))))), ?_⟩
    refine ⟨_, rfl, x, d, rfl, hx, _, rfl, if_is (fun e => ?_) (fun e => ?_)⟩
    · obtain ⟨i, rfl, rfl⟩ : ∃ i, x = .int i ∧ d = .int i := by
        rcases hx with ⟨h, o⟩ | ⟨a, kvs, rfl, h, rfl⟩
        · cases h with
          | int i => exact ⟨i, rfl, rfl⟩
          | str z => cases e
          | non => cases e
          | bl b => cases e
          | lst h1 h2 => cases e
          | tup h1 h2 => cases e
        · cases e
      have q' : Q (.bl (decide (1 ≤ i) && decide (i ≤ 2))) H := q
      refine ⟨_, rfl, _, _, rfl, rfl, _, rfl, if_is (fun h1 => ?_) (fun h1 => ?_)⟩
      · refine ⟨_, rfl, _, rfl, iteF ⟨_, rfl, rfl, _, _, rfl, rfl, ?_⟩⟩
        rw [h1, Bool.true_and] at q'
        have e2 : (es.size : Int) = 2 := by rw [Z.two]; rfl
        rw [e2]
        exact q'
      · rw [h1, Bool.false_and] at q'
        exact q'
    · have : isHoleD d = false := by cases d <;> first | rfl | cases e
      rw [this] at q
      exact q
end
end RL

/-! Parts of texts: comprehensions over long lists, what stands at the ends of a list. -/
namespace VA
open PySem L2 SX AddrMath
/-- for long ones: a comprehension over a list or a tuple whose test and element are known by values, and leave what stands -/
theorem seq_mapL {K : PySem.W.Frag} {a : Addr} {xs : List V} {j : Nat} {tt : TT} {te : TE} {vs : List Nat} {σ : L2.St} {H1 : Hp} {Qd : Addr → Hp → Prop} (hq : SqA K H1 a xs) (few : xs.length ≤ 1000000) (p : V → Bool) (F : V → V)
    (hw : ∀ x, wipe ((wipe σ vs).set j (some x)) vs = wipe σ vs)
    (step : ∀ x ∈ xs, ∀ H, Same H1 H → (∀ R : Bool → Hp → Prop, (∀ H', Same H H' → R (p x) H') → tt ((wipe σ vs).set j (some x)) H R) ∧ (p x = true → ∀ H', Same H H' → ∀ R : VK, (∀ H'', Same H' H'' → R (F x) H'') → te ((wipe σ vs).set j (some x)) H' R))
    (fin : ∀ D H', H1 D = none → H' D = some (.lst ((xs.filter p).map F)) → Same H1 H' → Qd D H') :
    ∃ a', V.ref a = V.ref a' ∧ (((∃ ys, SqL K H1 a' ys) ∧ ∀ D, H1 D = none → ∃ W : Nat → Nat → Hp → Prop, (∃ m, W 0 m (upd H1 D (.lst []))) ∧ ∀ i m H, W i m H →
      ((Itl K a').stop i H ∧ Qd D H) ∨ ((Itl K a').go i H ∧ ∃ Nx : Hp → Prop, (∀ H', Nx H' → ∃ m', m' < m ∧ W (i + 1) m' H') ∧ ∀ x H', (Itl K a').yld i H x H' → gName j x (wipe σ vs) H' fun σ2 H2 => wipe σ2 vs = wipe σ vs ∧ tt σ2 H2 fun b H3 =>
        if b = true then te σ2 H3 fun y H4 => ∃ acc, H4 D = some (.lst acc) ∧ acc.length < sizeLine ∧ Nx (upd H4 D (.lst (acc ++ [y]))) else Nx H3)) ∨
     ((∃ ys, SqT K H1 a' ys) ∧ ∀ D, H1 D = none → ∃ W : Nat → Nat → Hp → Prop, (∃ m, W 0 m (upd H1 D (.lst []))) ∧ ∀ i m H, W i m H →
      ((Itt K a').stop i H ∧ Qd D H) ∨ ((Itt K a').go i H ∧ ∃ Nx : Hp → Prop, (∀ H', Nx H' → ∃ m', m' < m ∧ W (i + 1) m' H') ∧ ∀ x H', (Itt K a').yld i H x H' → gName j x (wipe σ vs) H' fun σ2 H2 => wipe σ2 vs = wipe σ vs ∧ tt σ2 H2 fun b H3 =>
        if b = true then te σ2 H3 fun y H4 => ∃ acc, H4 D = some (.lst acc) ∧ acc.length < sizeLine ∧ Nx (upd H4 D (.lst (acc ++ [y]))) else Nx H3))) := by
  have key : ∀ D, H1 D = none → ∀ i x H, xs[i]? = some x → (Same H1 H ∧ H D = some (.lst (((xs.take i).filter p).map F))) → gName j x (wipe σ vs) H fun σ2 H2 => wipe σ2 vs = wipe σ vs ∧ tt σ2 H2 fun b H3 =>
        if b = true then te σ2 H3 fun y H4 => ∃ acc, H4 D = some (.lst acc) ∧ acc.length < sizeLine ∧ (Same H1 (upd H4 D (.lst (acc ++ [y]))) ∧ (upd H4 D (.lst (acc ++ [y]))) D = some (.lst (((xs.take (i + 1)).filter p).map F))) else (Same H1 H3 ∧ H3 D = some (.lst (((xs.take (i + 1)).filter p).map F))) := by
    rintro D nD i x H hx ⟨s1, hD⟩
    have hm : x ∈ xs := List.mem_of_getElem? hx
    obtain ⟨t1, t2⟩ := step x hm H s1
    refine ⟨hw x, t1 _ fun H' s2 => ?_⟩
    have hD2 := s2 _ _ hD
    rw [take_snoc hx, List.filter_append, List.map_append]
    cases e : p x with
    | false =>
      refine iteF ⟨s1.trans s2, ?_⟩
      rw [show [x].filter p = [] by simp [e], List.map_nil, List.append_nil]
      exact hD2
    | true =>
      refine iteT (t2 e H' s2 _ fun H'' s3 => ⟨_, s3 _ _ hD2, ?_, fun b o z => ?_, ?_⟩)
      · refine size_lt (Nat.le_trans ?_ few)
        rw [List.length_map]
        exact Nat.le_trans (List.length_filter_le _ _) (by rw [List.length_take]; exact Nat.min_le_right _ _)
      · rw [upd_ne (ne_of_none z nD)]
        exact s3 _ _ (s2 _ _ (s1 _ _ z))
      · rw [upd_same, show [x].filter p = [x] by simp [e]]
        rfl
  have fin' : ∀ D, H1 D = none → ∀ H, (Same H1 H ∧ H D = some (.lst (((xs.take xs.length).filter p).map F))) → Qd D H := by
    rintro D nD H ⟨s1, hD⟩
    rw [List.take_length] at hD
    exact fin D H nD hD s1
  refine ⟨a, rfl, ?_⟩
  rcases hq with hq | hq
  · exact .inl ⟨⟨xs, hq⟩, fun D nD => lc_list (K := K) (a := a) (xs := xs) (fun i H => Same H1 H ∧ H D = some (.lst (((xs.take i).filter p).map F))) ⟨same_new nD, upd_same⟩ (fun i H _ z => z.1.seq hq) (key D nD) (fin' D nD)⟩
  · exact .inr ⟨⟨xs, hq⟩, fun D nD => lc_tup (K := K) (a := a) (xs := xs) (fun i H => Same H1 H ∧ H D = some (.lst (((xs.take i).filter p).map F))) ⟨same_new nD, upd_same⟩ (fun i H _ z => same_seqT z.1 hq) (key D nD) (fin' D nD)⟩

theorem cut_init {xs : List V} (h : 0 < xs.length) : cutV xs none (some (-1)) = xs.dropLast := by
  have e : HT.sIx xs.length xs.length (some (-1)) = xs.length - 1 := by
    show (if (-1 : Int) < 0 then ((-1 : Int) + (xs.length : Int)).toNat else min (-1 : Int).toNat xs.length) = xs.length - 1
    rw [if_pos (by decide)]
    omega
  unfold cutV
  rw [e, HT.sIx_none, List.drop_zero, Nat.sub_zero, List.dropLast_eq_take]
theorem at_last {α : Type} {xs : List α} {y : α} (h : xs.getLast? = some y) : atI xs (-1) = some y := by
  have l : 0 < xs.length := by
    cases xs with
    | nil => cases h
    | cons _ _ => exact Nat.succ_pos _
  have e : ixN xs.length (-1) = some (xs.length - 1) := by
    unfold ixN
    rw [if_neg (by decide)]
    first
    | (rw [if_pos (by omega)]; exact congrArg some (by omega))
    | (rw [if_pos (by omega)] <;> simp <;> omega)
  unfold atI
  rw [e, Option.bind_some, ← List.getLast?_eq_getElem?]
  exact h
end VA

namespace RL
open PySem L2 SX AddrMath VA TxSet
/-! ### the same of a value as it stands -/
def wordOk : V → Bool
  | .str z => isW z.cps.toList
  | _ => false
def entOk : V → Bool
  | .str z => isW z.cps.toList
  | .int i => decide (1 ≤ i) && decide (i ≤ 2)
  | _ => false
section
variable {K : PySem.W.Frag}
theorem word_v {H : Hp} {x : V} {d : PyData} (h : Dp K H x d) : wordOk x = isWordD d := by cases h <;> rfl
theorem ent_v {H : Hp} {x : V} {d : PyData} (h : Dp K H x d) : entOk x = isEntD d := by
  cases h with
  | str z => exact (Bool.or_false _).symm
  | int i => exact (Bool.false_or _).symm
  | _ => rfl
theorem ents_v {H : Hp} : ∀ {ds : List PyData} {xs : List V}, DpAll K H xs ds → xs.all entOk = ds.all isEntD
  | [], _, h => by cases h; rfl
  | d :: ds, _, h => by
    cases h with
    | cons h1 h2 => rw [List.all_cons, List.all_cons, ent_v h1, ents_v h2]
theorem map_bl (f : V → Bool) (xs : List V) : ((xs.filter fun _ => true).map fun x => V.bl (f x)) = (xs.map f).map V.bl := by
  rw [filter_yes, List.map_map]
  rfl
theorem all_map (f : V → Bool) (xs : List V) : (xs.map f).all id = xs.all f := by
  rw [List.all_map]
  rfl
theorem okv {H : Hp} {x : V} {d : PyData} (h : Dp K H x d) (o : okD 7 d = true) : Vx K H x d := .inl ⟨h, ok_mono (by decide) o⟩
variable {P : Program} {w : World} {mg : Str → Option Value} {base : Heap}
/-! ### are_entries: slots value 0, most 1, entry 2 -/
abbrev sAreEntries : Stmt := top 29
def spAreEnt (K : PySem.W.Frag) : Sp := fun vs H Q _ => ∃ x d m, vs = [x, .int m, .bl false] ∧ Vx K H x d ∧ ∀ H', Same H H' → Q (.bl (areEntD m d)) H'
theorem scAreEntries : FnScope ["value", "most", "is_free", "entry"] ["value", "most", "is_free"] (defScope sAreEntries) := ⟨rfl, rfl, rfl, by decide +kernel, rfl, by decide +kernel, by decide +kernel⟩
theorem ok_areent {f : Addr} {fd : FuncData} (F : Fun K "are_entries" "are_entries" sAreEntries f fd) (B : Blt mg) (is_word : Own P w K mg base CX0 1 "is_word" ["value"] (spIsWord K)) (is_hole : Own P w K mg base CX0 2 "is_hole" ["value", "is_free"] (spIsHole K)) :
    FnOk P w K mg base CX0 3 f fd ["value", "most", "is_free"] (spAreEnt K) := by
  refine F.ok scAreEntries (fun vs H Q E h => ?_) (fun cdv A outer s H vs Q E hr h => ?_)
  · obtain ⟨x, d, m, rfl, _⟩ := h
    rfl
  · obtain ⟨x, d, m, rfl, hx, q⟩ := h
    refine ⟨_, (pss_cons (ps_if (PW.pt (pw_or (pt_not (pt_val (pe_callB call_isiT (by rfl) B.isinstance_ (by decide +kernel) (pa_cons (pv 0) (pa_cons (pe_tup (pa_cons (pe_bltn (v := .ty "list") (by rfl) B.list_ (by decide +kernel) rfl) (pa_cons (pe_bltn (v := .ty "tuple") (by rfl) B.tuple_ (by decide +kernel) rfl) pa_nil))) pa_nil))))) (pw_or1 (PW.pt (pw_and (pt_not (pt_val (pv 2))) (pw_and1 (pt_cmpR op_gt (pe_callB call_len (by rfl) B.len_ (by decide +kernel) (pa_cons (pv 0) pa_nil)) (pv 1) (nomark _)))))))) (pss_one (ps_ret pe_bl)) pss_nil)
      (pss_one (ps_ret (pe_callB (cr_all rfl) (by rfl) B.all_ (by decide +kernel) (pa_cons (pe_lc (own := [("entry", 3)]) (g := gName 3) (tt := tYes) rfl scAreEntries.nd (pi_seq (pv 0))
          (blkOk_by (own := [("entry", 3)]) (N := ["value", "most", "is_free", "entry"]) (sc := defScope sAreEntries) (by decide +kernel))
          (fun _ _ _ _ _ => (pg_name (i := 3) scAreEntries.nd rfl (Or.inl rfl))) (fun _ _ _ _ _ => pts_nil)
          (fun _ _ _ _ _ => (pe_or (pe_call is_word.g (hr.mono (by decide)) rfl is_word.mg is_word.kp is_word.b .nil pass0 (pa_cons (pv 3) pa_nil)) (pe_one (pe_call is_hole.g (hr.mono (by decide)) rfl is_hole.mg is_hole.kp is_hole.b .nil pass0 (pa_cons (pv 3) (pa_cons (pv 2) pa_nil))))))) pa_nil))))), ?_⟩
    refine ⟨_, rfl, by show 2 ≤ sizeLine; decide, fun t nt => ?_⟩
    have s1 : Same H (upd H t (.tup [.ty "list", .ty "tuple"])) := same_new nt
    refine ⟨_, t, _, _, [.type "list", .type "tuple"], isSeqD d, rfl, upd_same, .cons (.ty "list") (.cons (.ty "tuple") .nil), (hx.same s1).ty, kitSeq d, _, rfl, ?_⟩
    generalize upd H t (.tup [.ty "list", .ty "tuple"]) = H1 at s1 ⊢
    have h1 := hx.same s1
    cases e : isSeqD d with
    | false =>
      refine iteT (iteT ?_)
      have : areEntD m d = false := by unfold areEntD; rw [e]; rfl
      rw [this] at q
      exact q _ s1
    | true =>
      refine iteF ?_
      obtain ⟨a, xs, rfl, ha, hd, few, ok⟩ := vx_seq h1 e
      have hl := dps_len hd
      refine ⟨_, rfl, _, rfl, iteT ⟨_, rfl, _, xs.length, rfl, ?_, _, rfl, _, _, rfl, rfl, _, rfl, if_is (fun c => ?_) (fun c => ?_)⟩⟩
      · rcases ha with ha | ha
        · exact .inl ⟨xs, ha, rfl⟩
        · exact .inr ⟨xs, ha, rfl⟩
      · have : areEntD m d = false := by
          have c' : m < (xs.length : Int) := of_decide_eq_true c
          unfold areEntD
          rw [e, decide_eq_false (by omega)]
          rfl
        rw [this] at q
        exact q _ s1
      · have c' : ¬ m < (xs.length : Int) := of_decide_eq_false c
        refine ⟨_, rfl, ?_⟩
        refine seq_mapL ha (by omega) (fun _ => true) (fun x => .bl (entOk x)) ?hw (fun x hm H2 s2 => ⟨fun R hR => no_test hR, fun _ H3 s3 R hR => ?_⟩) fun D H2 nD hD s2 => ?_
        case hw => intro _; rfl
        · obtain ⟨dx, hdx, hv⟩ := dps_at hd hm
          have hv3 : Vx K H3 x dx := okv (dp_same s3 (dp_same s2 hv)) (ok dx hdx)
          have ee := ent_v hv
          refine ⟨_, rfl, x, dx, rfl, hv3, _, rfl, if_is (fun e1 => ?_) (fun e1 => ?_)⟩
          · have q3 := hR H3 (Same.refl H3)
            rw [ee, isEntD, e1] at q3
            exact q3
          · have q3 := hR H3 (Same.refl H3)
            rw [ee, isEntD, e1, Bool.false_or] at q3
            exact ⟨_, rfl, _, rfl, x, dx, rfl, hv3, q3⟩
        · rw [map_bl] at hD
          refine ⟨D, _, rfl, .inl (.inl hD), ?_⟩
          rw [all_map, ents_v hd]
          have : areEntD m d = (itemsD d).all isEntD := by
            unfold areEntD
            rw [e, decide_eq_true (by omega)]
            rfl
          rw [this] at q
          exact q _ (s1.trans s2)
/-- an entry as a key -/
def entK : PyData → Key
  | .int i => .inl i
  | .str z => .inr z
  | _ => .inl 0
def valK : V → Key
  | .int i => .inl i
  | .str z => .inr z
  | _ => .inl 0
theorem entV_key {d : PyData} (h : isEntD d = true) : entV d = kV (entK d) := by
  cases d <;> first | rfl | cases h
theorem valK_ent {d : PyData} (h : isEntD d = true) : valK (entV d) = entK d := by
  cases d <;> first | rfl | cases h
theorem ents_keys {ds : List PyData} (h : ds.all isEntD = true) : ds.map entV = (ds.map entK).map kV := by
  rw [List.map_map]
  exact List.map_congr_left fun d hd => entV_key (List.all_eq_true.mp h d hd)
theorem inD_key {d : PyData} (hd : isEntD d = true) : ∀ {ds : List PyData}, ds.all isEntD = true → inD d ds = hasK (ds.map entK) (entK d)
  | [], _ => rfl
  | e :: ds, h => by
    rw [List.all_cons, Bool.and_eq_true] at h
    show (PyData.eqv e d || inD d ds) = (decide (entK e = entK d) || hasK (ds.map entK) (entK d))
    rw [inD_key hd h.2]
    congr 1
    cases e with
    | int i => cases d with
      | int j => by_cases c : i = j <;> simp [PyData.eqv, entK, c]
      | str z => simp [PyData.eqv, entK]
      | _ => cases hd
    | str y => cases d with
      | int j => simp [PyData.eqv, entK]
      | str z => by_cases c : y = z <;> simp [PyData.eqv, entK, c]
      | _ => cases hd
    | _ => cases h.1
/-! ### is_goal: slots value 0, pattern 1, is_free 2, state 3, beginning 4, entry 5, entries 6 cells entries -/
abbrev sIsGoal : Stmt := top 30
theorem scIsGoal : FnScope ["value", "pattern", "is_free", "state", "beginning", "entry", "entries"] ["value", "pattern", "is_free"] (defScope sIsGoal) := ⟨rfl, rfl, rfl, by decide +kernel, rfl, by decide +kernel, by decide +kernel⟩
def spIsGoal (K : PySem.W.Frag) : Sp := fun vs H Q _ => ∃ x y g p, vs = [x, y, .bl false] ∧ Vx K H x g ∧ Vx K H y p ∧ areEntD 2 p = true ∧ ∀ H', Same H H' → Q (.bl (isGoalD g p)) H'
def isNonD : PyData → Bool
  | .none => true
  | _ => false
theorem vx_non {H : Hp} {x : V} {d : PyData} (h : Vx K H x d) : decide (x = .non) = isNonD d := by
  rcases h with ⟨h, o⟩ | ⟨a, kvs, rfl, h, rfl⟩
  · cases h <;> simp [isNonD]
  · simp [isNonD]
theorem goal_no {g p : PyData} (h : isTupD g = false) (n : g ≠ .none) : isGoalD g p = false := by
  cases g with
  | none => exact absurd rfl n
  | tuple l => cases h
  | _ => rfl
theorem goal_len {l : List PyData} {p : PyData} (h : l.length ≠ 2) : isGoalD (.tuple l) p = false := by
  match l, h with
  | [], _ => rfl
  | [_], _ => rfl
  | [_, _], h => exact absurd rfl h
  | _ :: _ :: _ :: _, _ => rfl
theorem areEnt_parts {m : Int} {d : PyData} (h : areEntD m d = true) : isSeqD d = true ∧ ((itemsD d).length : Int) ≤ m ∧ (itemsD d).all isEntD = true := by
  unfold areEntD at h
  rw [Bool.and_eq_true, Bool.and_eq_true, decide_eq_true_eq] at h
  exact h
theorem ok_isgoal {f : Addr} {fd : FuncData} {tB : Tok} (F : Fun K "is_goal" "is_goal" sIsGoal f fd) (B : Blt mg) (mBEGINNING : mg "BEGINNING" = some (.int 4 tB)) (is_word : Own P w K mg base CX0 1 "is_word" ["value"] (spIsWord K)) (are_entries : Own P w K mg base CX0 3 "are_entries" ["value", "most", "is_free"] (spAreEnt K)) :
    FnOk P w K mg base CX0 4 f fd ["value", "pattern", "is_free"] (spIsGoal K) := by
  refine F.ok scIsGoal (fun vs H Q E h => ?_) (fun cdv A outer s H vs Q E hr h => ?_)
  · obtain ⟨x, y, g, p, rfl, _⟩ := h
    rfl
  · obtain ⟨x, y, g, p, rfl, hx, hy, hp, q⟩ := h
    refine ⟨_, (pss_cons (ps_if (pt_cmpR op_isN (pv 0) pe_non (nomark _)) (pss_one (ps_ret pe_bl)) pss_nil)
      (pss_cons (ps_if (PW.pt (pw_or (pt_not (pt_val (pe_callB call_isi (by rfl) B.isinstance_ (by decide +kernel) (pa_cons (pv 0) (pa_cons (pe_bltn (v := .ty "tuple") (by rfl) B.tuple_ (by decide +kernel) rfl) pa_nil))))) (pw_or1 (pt_cmpR op_ne (pe_callB call_len (by rfl) B.len_ (by decide +kernel) (pa_cons (pv 0) pa_nil)) pe_int (nomark _))))) (pss_one (ps_ret pe_bl)) pss_nil)
      (pss_cons (ps_asg (pv 0) (pg_tup rfl (pgs_cons (pg_name (i := 3) scIsGoal.nd rfl (Or.inl rfl)) (pgs_cons (pg_name (i := 4) scIsGoal.nd rfl (Or.inl rfl)) pgs_nil))))
      (pss_cons (ps_if (PW.pt (pw_or (pt_not (pt_val (pe_call is_word.g (hr.mono (by decide)) rfl is_word.mg is_word.kp is_word.b .nil pass0 (pa_cons (pv 3) pa_nil)))) (pw_or1 (pt_not (pt_val (pe_call are_entries.g (hr.mono (by decide)) rfl are_entries.mg are_entries.kp are_entries.b .nil pass0 (pa_cons (pv 4) (pa_cons (pe_glob (v := .int 4) rfl mBEGINNING ⟨_, rfl⟩) (pa_cons (pv 2) pa_nil))))))))) (pss_one (ps_ret pe_bl)) pss_nil)
      (pss_cons (ps_set (i := 6) scIsGoal.nd rfl (Or.inr rfl) (pe_dc (own := [("entry", 5)]) (g := gName 5) (tt := tYes) rfl scIsGoal.nd (pi_seq (pv 1))
          (blkOk_by (own := [("entry", 5)]) (N := ["value", "pattern", "is_free", "state", "beginning", "entry", "entries"]) (sc := defScope sIsGoal) (by decide +kernel))
          (fun _ _ _ _ _ => (pg_name (i := 5) scIsGoal.nd rfl (Or.inl rfl))) (fun _ _ _ _ _ => pts_nil)
          (fun _ _ _ _ _ => (pv 5)) (fun _ _ _ _ _ => pe_bl)))
      (pss_one (ps_ret (pe_callB (cr_all rfl) (by rfl) B.all_ (by decide +kernel) (pa_cons (pe_lc (own := [("entry", 5)]) (g := gName 5) (tt := tYes) rfl scIsGoal.nd (pi_seq (pv 4))
          (blkOk_by (own := [("entry", 5)]) (N := ["value", "pattern", "is_free", "state", "beginning", "entry", "entries"]) (sc := defScope sIsGoal) (by decide +kernel))
          (fun _ _ _ _ _ => (pg_name (i := 5) scIsGoal.nd rfl (Or.inl rfl))) (fun _ _ _ _ _ => pts_nil)
          (fun _ _ _ _ _ => (pe_or (pe_call is_word.g (hr.mono (by decide)) rfl is_word.mg is_word.kp is_word.b .nil pass0 (pa_cons (pv 5) pa_nil)) (pe_one (pe_cmp (pc_din (hu_of hr) (pv 5) (pv 6)) rfl))))) pa_nil))))))))), ?_⟩
    refine ⟨_, rfl, rfl, _, rfl, ?_⟩
    rw [vx_non hx]
    by_cases hn : g = .none
    · subst hn
      exact iteT (q _ (Same.refl H))
    have e0 : isNonD g = false := by cases g <;> first | rfl | exact absurd rfl hn
    rw [e0]
    refine iteF ⟨_, rfl, _, _, _, _, isTupD g, rfl, .ty "tuple", hx.ty, kitTup g, _, rfl, ?_⟩
    cases e1 : isTupD g with
    | false =>
      refine iteT (iteT ?_)
      rw [goal_no e1 hn] at q
      exact q _ (Same.refl H)
    | true =>
      refine iteF ?_
      have e2 : isSeqD g = true := by cases g <;> first | rfl | cases e1
      obtain ⟨l, rfl⟩ : ∃ l, g = .tuple l := by
        cases g with
        | tuple l => exact ⟨l, rfl⟩
        | _ => cases e1
      obtain ⟨hd0, ok0⟩ : Dp K H x (.tuple l) ∧ okD 8 (.tuple l) = true := by
        rcases hx with h | ⟨a, kvs, _, _, z⟩
        · exact h
        · cases z
      rw [okD, Bool.and_eq_true, Bool.and_eq_true, decide_eq_true_eq, decide_eq_true_eq] at ok0
      have ok := okAll_mem ok0.2.2
      cases hd0 with
      | @tup a xs _ ha hd =>
      have hl := dps_len hd
      refine ⟨_, rfl, _, xs.length, rfl, .inr ⟨xs, ha, rfl⟩, rfl, _, rfl, ?_⟩
      by_cases h2' : l.length ≠ 2
      · have h2 := h2'
        rw [show (!decide (V.int (xs.length : Int) = V.int 2)) = true by simp; omega]
        refine iteT ?_
        rw [goal_len h2] at q
        exact q _ (Same.refl H)
      have h2 : l.length = 2 := Decidable.not_not.mp h2'
      rw [show (!decide (V.int (xs.length : Int) = V.int 2)) = false by simp; omega]
      refine iteF ?_
      obtain ⟨sd, bd, rfl⟩ : ∃ sd bd, l = [sd, bd] := by
        match l, h2 with
        | [sd, bd], _ => exact ⟨sd, bd, rfl⟩
      cases hd with
      | @cons sv _ _ _ hs hd =>
      cases hd with
      | @cons bv _ _ _ hb hd =>
      cases hd
      have okS := ok sd (by simp)
      have okB := ok bd (by simp)
      refine ⟨_, rfl, a, _, rfl, ha, rfl, sv, _, rfl, bv, _, rfl, rfl, ?_⟩
      refine ⟨_, rfl, sv, sd, rfl, okv hs okS, _, rfl, if_is (fun c => ?_) (fun c => ?_)⟩
      · have c' : isWordD sd = false := by
          cases z : isWordD sd with
          | false => rfl
          | true => rw [z] at c; cases c
        refine iteT ?_
        have : isGoalD (.tuple [sd, bd]) p = false := by
          show (isWordD sd && _) = false
          rw [c']
          rfl
        rw [this] at q
        exact q _ (Same.refl H)
      have cS : isWordD sd = true := by
        cases z : isWordD sd with
        | true => rfl
        | false => rw [z] at c; cases c
      refine ⟨_, rfl, _, rfl, bv, bd, 4, rfl, okv hb okB, fun H1 s1 => ⟨_, rfl, ?_⟩⟩
      have goalE : isGoalD (.tuple [sd, bd]) p = (areEntD 4 bd && (itemsD bd).all fun e => isWordD e || inD e (itemsD p)) := by
        show (isWordD sd && _) = _
        rw [cS]
        rfl
      cases eB : areEntD 4 bd with
      | false =>
        refine iteT ?_
        rw [goalE, eB] at q
        exact q _ s1
      | true =>
        refine iteF ?_
        rw [goalE, eB, Bool.true_and] at q
        obtain ⟨b1, b2, b3⟩ := areEnt_parts eB
        obtain ⟨p1, p2, p3⟩ := areEnt_parts hp
        obtain ⟨ba, bs, rfl, hba, hbd, bfew, bok⟩ := vx_seq ((okv hb okB).same s1) b1
        obtain ⟨pa, ps, rfl, hpa, hpd, pfew, pok⟩ := vx_seq (hy.same s1) p1
        have eps := ents_val hpd p3
        have hbl := dps_len hbd
        refine ⟨_, rfl, ?_⟩
        refine seq_keys hpa (by rw [eps]; exact ents_keys p3) (by have := dps_len hpd; omega) (fun _ => rfl) (fun _ => rfl) fun E HE kvs nE hE hkv sE => ?_
        have hb2 : SqA K HE ba bs := hba.same sE
        refine ⟨_, rfl, ?_⟩
        refine seq_map hb2 (by omega) (fun _ => true) (fun x => .bl (wordOk x || hasK ((itemsD p).map entK) (valK x))) ?hw (fun x hm H2 s2 => ⟨fun R hR => no_test hR, fun _ H3 s3 R hR => ?_⟩) fun D H2 nD hD s2 => ?_
        case hw => intro _; rfl
        · obtain ⟨dx, hdx, hv0⟩ := dps_at hbd hm
          have hv := dp_same sE hv0
          have hv3 : Vx K H3 x dx := okv (dp_same s3 (dp_same s2 hv)) (bok dx hdx)
          have q3 := hR H3 (Same.refl H3)
          have eDx : isEntD dx = true := List.all_eq_true.mp b3 dx hdx
          refine ⟨_, rfl, x, dx, rfl, hv3, _, rfl, if_is (fun e1 => ?_) (fun e1 => ?_)⟩
          · rw [word_v hv, e1] at q3
            exact q3
          · rw [word_v hv, e1, Bool.false_or] at q3
            have ex := ent_val hv eDx
            subst ex
            have dg := DGet.k (k := entK dx) (s3 _ _ (s2 _ _ hE))
            rw [← entV_key eDx, hkv] at dg
            rw [valK_ent eDx] at q3
            refine ⟨_, rfl, _, rfl, E, _, rfl, dg, ?_⟩
            cases hh : hasK ((itemsD p).map entK) (entK dx) with
            | true =>
              rw [hh] at q3
              exact q3
            | false =>
              rw [hh] at q3
              exact q3
        · rw [map_bl] at hD
          refine ⟨D, _, rfl, .inl (.inl hD), ?_⟩
          rw [all_map]
          have : (bs.all fun x => wordOk x || hasK ((itemsD p).map entK) (valK x)) = ((itemsD bd).all fun e => isWordD e || inD e (itemsD p)) := by
            have eb := ents_val hbd b3
            rw [eb, List.all_map]
            have cong : ∀ (ds : List PyData), ds.all isEntD = true → (ds.all ((fun x => wordOk x || hasK ((itemsD p).map entK) (valK x)) ∘ entV)) = ds.all fun e => isWordD e || inD e (itemsD p) := by
              intro ds
              induction ds with
              | nil => intro _; rfl
              | cons d ds ih =>
                intro hh
                rw [List.all_cons, Bool.and_eq_true] at hh
                rw [List.all_cons, List.all_cons, ih hh.2]
                show ((wordOk (entV d) || hasK ((itemsD p).map entK) (valK (entV d))) && _) = _
                rw [valK_ent hh.1, ← inD_key hh.1 p3, word_v (ent_dp (K := K) (H := H) hh.1)]
            exact cong _ b3
          rw [this]
          exact q _ ((s1.trans sE).trans s2)
def strsD (ds : List PyData) : List Str := ds.filterMap fun d => match d with
  | .str z => some z
  | _ => none
theorem mem_strsD {ds : List PyData} {z : Str} : z ∈ strsD ds ↔ PyData.str z ∈ ds := by
  unfold strsD
  rw [List.mem_filterMap]
  constructor
  · rintro ⟨d, hd, e⟩
    cases d with
    | str y =>
      cases e
      exact hd
    | _ => cases e
  · intro h
    exact ⟨_, h, rfl⟩
theorem strs_val : ∀ {ds : List PyData}, ds.all isEntD = true → (((ds.map entV).filter wordOk).map fun x => x) = (strsD ds).map V.str
  | [], _ => rfl
  | d :: ds, h => by
    rw [List.all_cons, Bool.and_eq_true] at h
    have ih := strs_val h.2
    cases d with
    | str z =>
      have hz : isW z.cps.toList = true := by
        have q := h.1
        unfold isEntD at q
        rw [show isHoleD (.str z) = false from rfl, Bool.or_false] at q
        exact q
      show (((V.str z :: ds.map entV).filter wordOk).map fun x => x) = V.str z :: (strsD ds).map V.str
      rw [List.filter_cons_of_pos (show wordOk (V.str z) = true from hz), List.map_cons, ih]
    | int i =>
      show (((V.int i :: ds.map entV).filter wordOk).map fun x => x) = (strsD ds).map V.str
      rw [List.filter_cons_of_neg (by show ¬ (false = true); decide), ih]
    | _ => cases h.1
end
end RL

namespace RL
open PySem L2 SX AddrMath VA TxSet
abbrev nState : Str := "_state"
abbrev nPattern : Str := "_pattern"
abbrev nGoal : Str := "_goal"
abbrev nExact : Str := "_is_exact"
abbrev nWords : Str := "_words"
abbrev nKey : Str := "_key"
abbrev nField : Str := "field"
/-- a rule's attributes -/
def rF (a b c d e f : V) : List (Str × V) := [(nState, a), (nPattern, b), (nGoal, c), (nExact, d), (nWords, e), (nKey, f)]
/-- the beginning's entries -/
def begD : PyData → List PyData
  | .tuple [_, b] => itemsD b
  | _ => []
/-- the goal of a rule, as it is kept -/
def GoalAt (K : PySem.W.Frag) (H : Hp) (gV : V) : PyData → Prop
  | .none => gV = .non
  | .tuple [.str z, b] => ∃ g tb, gV = .ref g ∧ H g = some (.tup [.str z, .ref tb]) ∧ SqT K H tb ((itemsD b).map entV)
  | _ => False
/-- a rule of state z, pattern pd, goal gd stands at p -/
structure RuleAt (K : PySem.W.Frag) (C : Addr) (H : Hp) (p : Addr) (z : Str) (pd gd : PyData) (x : Bool) : Prop where
  ex : ∃ (dx tP tW tK : Addr) (gV : V) (ws : List Str), H p = some (.ins C dx (rF (.str z) (.ref tP) gV (.bl x) (.ref tW) (.ref tK))) ∧ SqT K H tP ((itemsD pd).map entV) ∧ GoalAt K H gV gd ∧
    H tW = some (.tup (ws.map V.str)) ∧ PyProof.Rows.sortedS ws = true ∧ ws.Nodup ∧ (∀ y, y ∈ ws ↔ PyData.str y ∈ itemsD pd ++ begD gd) ∧ H tK = some (.tup [.str z, .ref tP, gV, .bl x])
structure RTxt (K : PySem.W.Frag) (mg : Str → Option Value) (C : Addr) : Prop where
  cl : Cls K C
  nS : NoAttr K C "_state"
  nP : NoAttr K C "_pattern"
  nG : NoAttr K C "_goal"
  nE : NoAttr K C "_is_exact"
  nW : NoAttr K C "_words"
  nK : NoAttr K C "_key"
  mgC : mg "Rule" = some (.ref C)
theorem upd_none {H : Hp} {p t : Addr} {o : HO} (h : upd H p o t = none) : t ≠ p ∧ H t = none := by
  by_cases e : t = p
  · rw [e, upd_same] at h
    cases h
  · rw [upd_ne e] at h
    exact ⟨e, h⟩
section
variable {P : Program} {w : World} {K : PySem.W.Frag} {mg : Str → Option Value} {base : Heap}
/-! ### InvalidRule.__init__ -/
abbrev sErr : Stmt := inClass (top 3) 0
theorem scErr : FnScope ["self", "field"] ["self", "field"] (defScope sErr) := ⟨rfl, rfl, rfl, by decide +kernel, rfl, by decide +kernel, by decide +kernel⟩
theorem ok_err {f C fI : Addr} {fd : FuncData} (F : Fun K "__init__" "InvalidRule.__init__" sErr f fd) (T : ErrC K mg "InvalidRule" nField C fI) : FnOk P w K mg base CX0 1 f fd ["self", "field"] (spErr nField C) := by
  refine F.ok scErr (fun vs H Q E h => ?_) (fun cdv A outer s0 H vs Q E hr h => ?_)
  · obtain ⟨a, v, rfl, _⟩ := h
    rfl
  · obtain ⟨a, v, rfl, ha, q⟩ := h
    exact ⟨_, pss_one (ps_ost (pv 0) (pv 1)), _, rfl, _, rfl, a, C, rfl, T.ox, T.no, .inl ⟨ha, q⟩⟩
/-! ### Rule.__init__: slots self 0, state 1, pattern 2, goal 3, is_exact 4 -/
abbrev sRuleInit : Stmt := inClass (top 43) 0
theorem scRuleInit : FnScope ["self", "state", "pattern", "goal", "is_exact"] ["self", "state", "pattern", "goal", "is_exact"] (defScope sRuleInit) := ⟨rfl, rfl, rfl, by decide +kernel, rfl, by decide +kernel, by decide +kernel⟩
def spRInit (K : PySem.W.Frag) (C CE : Addr) : Sp := fun vs H Q E => ∃ (p dx : Addr) (sv pv_ gv xv : V) (sd pd gd xd : PyData), vs = [.ref p, sv, pv_, gv, xv] ∧ H p = some (.ins C dx []) ∧ Vx K H sv sd ∧ Vx K H pv_ pd ∧ Vx K H gv gd ∧ Vx K H xv xd ∧
  (∀ f, wrongD sd pd gd xd = some f → ∀ d H', Same H H' → H' d = some (.xd (ixF nField (.str f))) → H d = none → E (.ref CE) (some d) H') ∧
  (∀ z x, wrongD sd pd gd xd = none → sd = .str z → xd = .bool x → ∀ H', (∀ b o, H b = some o → b ≠ p → H' b = some o) → RuleAt K C H' p z pd gd x → Q .non H')
end
end RL
namespace RL
open PySem L2 SX AddrMath VA TxSet
section
variable {P : Program} {w : World} {K : PySem.W.Frag} {mg : Str → Option Value} {base : Heap}
theorem sqt_put {G : Hp} {p t C dx : Addr} {fs : List (Str × V)} {o : HO} {ys : List V} (h : SqT K G t ys) (hp : G p = some (.ins C dx fs)) : SqT K (upd G p o) t ys := by
  rcases h with (h | ⟨u, h⟩) | h
  · exact .inl (.inl (by rw [upd_ne (ne_of h hp (fun z => by cases z))]; exact h))
  · exact .inl (.inr ⟨u, by rw [upd_ne (ne_of h hp (fun z => by cases z))]; exact h⟩)
  · exact .inr h
theorem tup_put {G : Hp} {p t C dx : Addr} {fs : List (Str × V)} {o : HO} {ys : List V} (h : G t = some (.tup ys)) (hp : G p = some (.ins C dx fs)) : upd G p o t = some (.tup ys) := by
  rw [upd_ne (ne_of h hp (fun z => by cases z))]
  exact h
theorem ent_map_len (ds : List PyData) : (ds.map entV).length = ds.length := List.length_map ..
theorem ent_ok7 {d : PyData} (e : isEntD d = true) : okD 7 d = true := by
  cases d with
  | int i => rw [okD]
  | str z =>
    have hz : isW z.cps.toList = true := by
      unfold isEntD at e
      rw [show isHoleD (.str z) = false from rfl, Bool.or_false] at e
      exact e
    have hl := word_len hz
    rw [okD, Bool.and_eq_true, decide_eq_true_eq]
    refine ⟨by omega, ?_⟩
    unfold PyData.strOk
    rw [← Array.all_toList, List.all_eq_true]
    intro c hc
    have := (isW_iff.mp hz).2.2 c hc
    unfold isL at this
    rw [Bool.and_eq_true, decide_eq_true_eq, decide_eq_true_eq] at this
    exact decide_eq_true (by omega)
  | _ => cases e
theorem wrong_parts {sd pd gd xd : PyData} (h : wrongD sd pd gd xd = none) : isWordD sd = true ∧ areEntD 2 pd = true ∧ isGoalD gd pd = true ∧ isBoolD xd = true := by
  unfold wrongD at h
  cases h1 : isWordD sd with
  | false => rw [h1, if_pos rfl] at h; cases h
  | true =>
    rw [h1, if_neg (by decide)] at h
    cases h2 : areEntD 2 pd with
    | false => rw [h2, if_pos rfl] at h; cases h
    | true =>
      rw [h2, if_neg (by decide)] at h
      cases h3 : isGoalD gd pd with
      | false => rw [h3, if_pos rfl] at h; cases h
      | true =>
        rw [h3, if_neg (by decide)] at h
        refine ⟨rfl, rfl, rfl, ?_⟩
        cases xd <;> first | rfl | cases h
theorem goal_parts {gd pd : PyData} (h : isGoalD gd pd = true) : gd = .none ∨ ∃ z b, gd = .tuple [.str z, b] ∧ isW z.cps.toList = true ∧ areEntD 4 b = true := by
  cases gd with
  | none => exact .inl rfl
  | tuple l =>
    match l, h with
    | [s, b], h =>
      have h' : (isWordD s && (areEntD 4 b && (itemsD b).all fun e => isWordD e || inD e (itemsD pd))) = true := h
      rw [Bool.and_eq_true, Bool.and_eq_true] at h'
      cases s with
      | str z => exact .inr ⟨z, b, rfl, h'.1, h'.2.1⟩
      | _ => cases h'.1
  | _ => cases h
/-- None if goal is None else (goal[0], tuple(goal[1])), goal in slot 0 -/
def tGoalV (K : PySem.W.Frag) : TE := fun σ H Q => ∃ gv gd pd, σ[0]? = some (some gv) ∧ Dp K H gv gd ∧ isGoalD gd pd = true ∧ ∀ gV H', GoalAt K H' gV gd → Same H H' → Q gV H'
theorem goal_val {σ : L2.St} {H : Hp} {Q : VK} (h : tGoalV K σ H Q) :
    tIf (tTest (tOp (fun x y H Q => y = V.non ∧ Q (.bl (decide (x = V.non))) H) (tVar 0) (tC .non))) (tC .non)
      (tTup (tCons (tOp (rIxT K) (tVar 0) (tC (.int 0))) (tCons (tCB (rTupA K) (tCons (tOp (rIxT K) (tVar 0) (tC (.int 1))) tNil)) tNil))) σ H Q := by
  obtain ⟨gv, gd, pd, e0, hg, ok, q⟩ := h
  rcases goal_parts ok with rfl | ⟨gz, gb, rfl, hgz, hgb⟩
  · cases hg
    exact ⟨_, e0, rfl, _, rfl, iteT (q _ H rfl (Same.refl H))⟩
  · cases hg with
    | @tup ga xs _ ha hd =>
    cases hd with
    | @cons sv _ _ _ h1 hd =>
    cases hd with
    | @cons bv _ _ _ h2 hd =>
    cases hd
    cases h1
    obtain ⟨b1, b2, b3⟩ := areEnt_parts hgb
    have hv : ∃ a xs, bv = .ref a ∧ SqA K H a xs ∧ DpAll K H xs (itemsD gb) := by
      cases h2 with
      | lst h h' => exact ⟨_, _, rfl, .inl h, h'⟩
      | tup h h' => exact ⟨_, _, rfl, .inr h, h'⟩
      | _ => cases b1
    obtain ⟨ba, bs, rfl, hb, hbd⟩ := hv
    have eb := ents_val hbd b3
    subst eb
    refine ⟨_, e0, rfl, _, rfl, iteF ⟨_, e0, ga, _, 0, _, rfl, rfl, ha, rfl, _, e0, ga, _, 1, _, rfl, rfl, ha, rfl, ba, _, rfl, hb, fun t H1 ht s1 => ⟨by show 2 ≤ sizeLine; decide, fun g ng => ?_⟩⟩⟩
    exact q _ _ ⟨g, t, rfl, upd_same, same_seqT (same_new ng) ht⟩ (s1.trans (same_new ng))
/-- pattern if goal is None else pattern + goal[1] -/
def tAllV (K : PySem.W.Frag) : TE := fun σ H Q => ∃ gd pd tp gV, σ[0]? = some (some (.ref tp)) ∧ σ[1]? = some (some gV) ∧ isGoalD gd pd = true ∧ areEntD 2 pd = true ∧
  SqT K H tp ((itemsD pd).map entV) ∧ GoalAt K H gV gd ∧ ∀ t H', SqT K H' t ((itemsD pd ++ begD gd).map entV) → Same H H' → Q (.ref t) H'
theorem all_val {σ : L2.St} {H : Hp} {Q : VK} (h : tAllV K σ H Q) :
    tIf (tTest (tOp (fun x y H Q => y = V.non ∧ Q (.bl (decide (x = V.non))) H) (tVar 1) (tC .non))) (tVar 0)
      (tOp (rCatB K) (tVar 0) (tOp (rIxT K) (tVar 1) (tC (.int 1)))) σ H Q := by
  obtain ⟨gd, pd, tp, gV, e0, e1, ok, hp2, htp, hG, q⟩ := h
  obtain ⟨p1, p2, p3⟩ := areEnt_parts hp2
  rcases goal_parts ok with rfl | ⟨gz, gb, rfl, hgz, hgb⟩
  · cases (show gV = .non from hG)
    refine ⟨_, e1, rfl, _, rfl, iteT ⟨_, e0, q tp H ?_ (Same.refl H)⟩⟩
    show SqT K H tp ((itemsD pd ++ []).map entV)
    rw [List.append_nil]
    exact htp
  · obtain ⟨b1, b2, b3⟩ := areEnt_parts hgb
    obtain ⟨g, tb, rfl, hg1, htb⟩ := hG
    refine ⟨_, e1, rfl, _, rfl, iteF ⟨_, e0, _, e1, g, _, 1, _, rfl, rfl, .inl (.inl hg1), rfl, tp, tb, _, _, rfl, rfl, htp, htb, ?_, fun t H' ht s => q t H' ?_ s⟩⟩
    · rw [List.length_map, List.length_map]
      omega
    · show SqT K H' t ((itemsD pd ++ itemsD gb).map entV)
      rw [List.map_append]
      exact ht
theorem all_ents {gd pd : PyData} (ok : isGoalD gd pd = true) (hp : areEntD 2 pd = true) : (itemsD pd ++ begD gd).all isEntD = true ∧ (itemsD pd ++ begD gd).length ≤ 6 := by
  obtain ⟨p1, p2, p3⟩ := areEnt_parts hp
  rcases goal_parts ok with rfl | ⟨gz, gb, rfl, hgz, hgb⟩
  · show (itemsD pd ++ []).all isEntD = true ∧ (itemsD pd ++ []).length ≤ 6
    rw [List.append_nil]
    exact ⟨p3, by omega⟩
  · obtain ⟨b1, b2, b3⟩ := areEnt_parts hgb
    show (itemsD pd ++ itemsD gb).all isEntD = true ∧ (itemsD pd ++ itemsD gb).length ≤ 6
    rw [List.all_append, p3, b3, List.length_append]
    exact ⟨rfl, by omega⟩
theorem goal_at_kp {H H' : Hp} {gV : V} {gd : PyData} (h : GoalAt K H gV gd) (k : Kp H H') : GoalAt K H' gV gd := by
  match gd, h with
  | .none, h => exact h
  | .tuple [.str z, b], h =>
    obtain ⟨g, tb, e, h1, h2⟩ := h
    exact ⟨g, tb, e, k _ _ h1 rfl, k.sqT h2⟩
/-! ### words_named: slots pattern 0, goal 1, entries 2, entry 3 -/
abbrev sWordsNamed : Stmt := top 33
theorem scWordsNamed : FnScope ["pattern", "goal", "entries", "entry"] ["pattern", "goal"] (defScope sWordsNamed) := ⟨rfl, rfl, rfl, by decide +kernel, rfl, by decide +kernel, by decide +kernel⟩
def spNamed (K : PySem.W.Frag) : Sp := fun vs H Q _ => ∃ (tp : Addr) (gV : V) (gd pd : PyData), vs = [.ref tp, gV] ∧ isGoalD gd pd = true ∧ areEntD 2 pd = true ∧ SqT K H tp ((itemsD pd).map entV) ∧ GoalAt K H gV gd ∧
  ∀ (t : Addr) (ys : List Str) (H' : Hp), PyProof.Rows.sortedS ys = true → ys.Nodup → (∀ z, z ∈ ys ↔ PyData.str z ∈ itemsD pd ++ begD gd) → H' t = some (.tup (ys.map V.str)) → Same H H' → H t = none → Q (.ref t) H'
theorem ok_named {f : Addr} {fd : FuncData} (F : Fun K "words_named" "words_named" sWordsNamed f fd) (B : Blt mg) (is_word : Own P w K mg base CX0 1 "is_word" ["value"] (spIsWord K)) : FnOk P w K mg base CX0 2 f fd ["pattern", "goal"] (spNamed K) := by
  refine F.ok scWordsNamed (fun vs H Q E h => ?_) (fun cdv A outer s H vs Q E hr h => ?_)
  · obtain ⟨tp, gV, gd, pd, rfl, _⟩ := h
    rfl
  · obtain ⟨tp, gV, gd, pd, rfl, eg, ep, htp, hG, q⟩ := h
    refine ⟨_, (pss_cons (ps_set (i := 2) scWordsNamed.nd rfl (Or.inl rfl) (pe_by (tAllV K) (pe_ifExp (pt_cmpR op_isN (pv 1) pe_non (nomark _)) (pv 0) (pe_op op_catB (pv 0) (pe_ix ix_tup (pv 1) pe_int (fun _ _ => rfl)))) (fun _ _ _ h => all_val h)))
      (pss_one (ps_ret (pe_callTy call_tuple_of (by rfl) B.tuple_ (by decide +kernel) (pa_cons (pe_srtSet rfl (by rfl) B.sorted_ (by rfl) B.set_ (pe_lc (own := [("entry", 3)]) (g := gName 3) rfl scWordsNamed.nd (pi_seq (pv 2))
          (blkOk_by (own := [("entry", 3)]) (N := ["pattern", "goal", "entries", "entry"]) (sc := defScope sWordsNamed) (by decide +kernel))
          (fun _ _ _ _ _ => (pg_name (i := 3) scWordsNamed.nd rfl (Or.inl rfl))) (fun _ _ _ _ _ => pts_one (pt_val (pe_call is_word.g (hr.mono (by decide)) rfl is_word.mg is_word.kp is_word.b .nil pass0 (pa_cons (pv 3) pa_nil))))
          (fun _ _ _ _ _ => (pv 3)))) pa_nil))))), ?_⟩
    obtain ⟨hE, few0⟩ := all_ents eg ep
    refine ⟨gd, pd, tp, gV, rfl, rfl, eg, ep, htp, hG, fun a H1 ha s1 => ?_⟩
    generalize itemsD pd ++ begD gd = ds at hE few0 ha q
    have few : ds.length ≤ 1000 := by omega
    refine ⟨_, rfl, ?_⟩
    refine seq_map (.inr ha) (by rw [List.length_map]; exact few) wordOk (fun x => x) ?hw (fun x hm H2 s2 => ⟨fun R hR => ?_, fun _ H3 s3 R hR => ⟨_, rfl, hR H3 (Same.refl H3)⟩⟩) fun D H2 nD hD s2 => ?_
    case hw => intro _; rfl
    · obtain ⟨d, hd, rfl⟩ := List.mem_map.mp hm
      have hde := List.all_eq_true.mp hE d hd
      have hv : Dp K H2 (entV d) d := ent_dp hde
      have q2 := hR H2 (Same.refl H2)
      rw [word_v hv] at q2
      exact ⟨_, rfl, _, d, rfl, okv hv (ent_ok7 hde), _, rfl, q2⟩
    · rw [strs_val hE] at hD
      have lS : (strsD ds).length ≤ 1000 := Nat.le_trans (List.length_filterMap_le _ _) few
      refine ⟨D, _, rfl, .inl (.inl hD), lS, fun ys p hs hn hm np => ?_⟩
      refine ⟨p, _, rfl, .inl ⟨.inl (.inl upd_same), fun l nl => ?_⟩⟩
      have s3 : Same H2 (upd H2 p (.lst (ys.map V.str))) := same_new np
      have s4 := same_new (o := .tup (ys.map V.str)) nl
      exact q l ys _ hs hn (fun z => (hm z).trans mem_strsD) upd_same (((s1.trans s2).trans s3).trans s4) (s1.free (s2.free (s3.free nl)))
/-! ### copied_goal: slots goal 0 -/
abbrev sCopiedGoal : Stmt := top 32
theorem scCopiedGoal : FnScope ["goal"] ["goal"] (defScope sCopiedGoal) := ⟨rfl, rfl, rfl, by decide +kernel, rfl, by decide +kernel, by decide +kernel⟩
def spCopied (K : PySem.W.Frag) : Sp := fun vs H Q _ => ∃ gv gd pd, vs = [gv] ∧ Dp K H gv gd ∧ isGoalD gd pd = true ∧ ∀ gV H', GoalAt K H' gV gd → Same H H' → Q gV H'
theorem ok_copied {f : Addr} {fd : FuncData} (F : Fun K "copied_goal" "copied_goal" sCopiedGoal f fd) (B : Blt mg) : FnOk P w K mg base CX0 1 f fd ["goal"] (spCopied K) := by
  refine F.ok scCopiedGoal (fun vs H Q E h => ?_) (fun cdv A outer s H vs Q E hr h => ?_)
  · obtain ⟨gv, gd, pd, rfl, _⟩ := h
    rfl
  · obtain ⟨gv, gd, pd, rfl, hg, eg, q⟩ := h
    exact ⟨_, (pss_one (ps_ret (pe_by (tGoalV K) (pe_ifExp (pt_cmpR op_isN (pv 0) pe_non (nomark _)) pe_non (pe_tup (pa_cons (pe_ix ix_tup (pv 0) pe_int (fun _ _ => rfl)) (pa_cons (pe_callTy call_tupA (by rfl) B.tuple_ (by decide +kernel) (pa_cons (pe_ix ix_tup (pv 0) pe_int (fun _ _ => rfl)) pa_nil)) pa_nil)))) (fun _ _ _ h => goal_val h)))), gv, gd, pd, rfl, hg, eg, q⟩
/-! ### check_parts: slots state 0, pattern 1, goal 2, is_exact 3, is_free 4 -/
abbrev sCheckParts : Stmt := top 31
theorem scCheckParts : FnScope ["state", "pattern", "goal", "is_exact", "is_free"] ["state", "pattern", "goal", "is_exact", "is_free"] (defScope sCheckParts) := ⟨rfl, rfl, rfl, by decide +kernel, rfl, by decide +kernel, by decide +kernel⟩
def spCheck (K : PySem.W.Frag) (CE : Addr) : Sp := fun vs H Q E => ∃ (sv pv_ gv xv : V) (sd pd gd xd : PyData), vs = [sv, pv_, gv, xv, .bl false] ∧ Vx K H sv sd ∧ Vx K H pv_ pd ∧ Vx K H gv gd ∧ Vx K H xv xd ∧
  (∀ f, wrongD sd pd gd xd = some f → ∀ d H', Same H H' → H' d = some (.xd (ixF nField (.str f))) → H d = none → E (.ref CE) (some d) H') ∧ (wrongD sd pd gd xd = none → ∀ H', Same H H' → Q .non H')
theorem ok_check {f CE fE : Addr} {fd fdE : FuncData} {tP : Tok} (F : Fun K "check_parts" "check_parts" sCheckParts f fd) (B : Blt mg)
    (TE : ErrC K mg "InvalidRule" nField CE fE) (GE : FnOk P w K mg base CX0 1 fE fdE ["self", "field"] (spErr nField CE)) (bE : Binds K fdE ["self", "field"] []) (mPATTERN : mg "PATTERN" = some (.int 2 tP))
    (is_word : Own P w K mg base CX0 1 "is_word" ["value"] (spIsWord K)) (are_entries : Own P w K mg base CX0 3 "are_entries" ["value", "most", "is_free"] (spAreEnt K)) (is_goal : Own P w K mg base CX0 4 "is_goal" ["value", "pattern", "is_free"] (spIsGoal K)) :
    FnOk P w K mg base (L2.CX P w) 5 f fd ["state", "pattern", "goal", "is_exact", "is_free"] (spCheck K CE) := by
  refine F.okX scCheckParts (fun vs H Q E h => ?_) (fun cdv A outer s0 H vs Q E hr h => ?_)
  · obtain ⟨sv, pv_, gv, xv, sd, pd, gd, xd, rfl, _⟩ := h
    rfl
  · obtain ⟨sv, pv_, gv, xv, sd, pd, gd, xd, rfl, hs, hpt, hg, hx, qE, q⟩ := h
    have hr2 : Room 2 _ := hr.mono (by decide)
    refine ⟨_, (pss_cons (ps_if (pt_not (pt_val (pe_call is_word.g (hr.mono (by decide)) rfl is_word.mg is_word.kp is_word.b .nil pass0 (pa_cons (pv 0) pa_nil)))) (pss_one (ps_raise rfl (takes_of rfl rfl rfl rfl) (pmk_oex TE.ox TE.iC TE.tI GE hr2 bE .nil pass0 (by rfl) TE.mgC (by exact (pa_cons pe_str pa_nil))))) pss_nil)
      (pss_cons (ps_if (pt_not (pt_val (pe_call are_entries.g (hr.mono (by decide)) rfl are_entries.mg are_entries.kp are_entries.b .nil pass0 (pa_cons (pv 1) (pa_cons (pe_glob (v := .int 2) rfl mPATTERN ⟨_, rfl⟩) (pa_cons (pv 4) pa_nil)))))) (pss_one (ps_raise rfl (takes_of rfl rfl rfl rfl) (pmk_oex TE.ox TE.iC TE.tI GE hr2 bE .nil pass0 (by rfl) TE.mgC (by exact (pa_cons pe_str pa_nil))))) pss_nil)
      (pss_cons (ps_if (pt_not (pt_val (pe_call is_goal.g hr rfl is_goal.mg is_goal.kp is_goal.b .nil pass0 (pa_cons (pv 2) (pa_cons (pv 1) (pa_cons (pv 4) pa_nil)))))) (pss_one (ps_raise rfl (takes_of rfl rfl rfl rfl) (pmk_oex TE.ox TE.iC TE.tI GE hr2 bE .nil pass0 (by rfl) TE.mgC (by exact (pa_cons pe_str pa_nil))))) pss_nil)
      (pss_one (ps_if (pt_not (pt_val (pe_callB call_isi (by rfl) B.isinstance_ (by decide +kernel) (pa_cons (pv 3) (pa_cons (pe_bltn (v := .ty "bool") (by rfl) B.bool_ (by decide +kernel) rfl) pa_nil))))) (pss_one (ps_raise rfl (takes_of rfl rfl rfl rfl) (pmk_oex TE.ox TE.iC TE.tI GE hr2 bE .nil pass0 (by rfl) TE.mgC (by exact (pa_cons pe_str pa_nil))))) pss_nil))))), ?_⟩
    -- state
    refine ⟨_, rfl, sv, sd, rfl, hs, _, rfl, ?_⟩
    cases e1 : isWordD sd with
    | false =>
      refine iteT ⟨by show 1 ≤ 1000; decide, fun a na => err_use na fun d nd => ?_⟩
      exact qE (Str.ofString "state") (by unfold wrongD; rw [e1, if_pos rfl]) d _ (same_new nd) upd_same nd
    | true =>
    refine iteF ?_
    -- pattern
    refine ⟨_, rfl, _, rfl, pv_, pd, 2, rfl, hpt, fun H1 s1 => ⟨_, rfl, ?_⟩⟩
    cases e2 : areEntD 2 pd with
    | false =>
      refine iteT ⟨by show 1 ≤ 1000; decide, fun a na => err_use na fun d nd => ?_⟩
      exact qE (Str.ofString "pattern") (by unfold wrongD; rw [e1, e2, if_neg (by decide), if_pos rfl]) d _ (s1.trans (same_new nd)) upd_same (s1.free nd)
    | true =>
    refine iteF ?_
    -- goal
    refine ⟨_, rfl, _, rfl, _, rfl, gv, pv_, gd, pd, rfl, hg.same s1, hpt.same s1, e2, fun H2 s2' => ⟨_, rfl, ?_⟩⟩
    have s2 := s1.trans s2'
    cases e3 : isGoalD gd pd with
    | false =>
      refine iteT ⟨by show 1 ≤ 1000; decide, fun a na => err_use na fun d nd => ?_⟩
      exact qE (Str.ofString "goal") (by unfold wrongD; rw [e1, e2, e3, if_neg (by decide), if_neg (by decide), if_pos rfl]) d _ (s2.trans (same_new nd)) upd_same (s2.free nd)
    | true =>
    refine iteF ?_
    -- is_exact
    refine ⟨_, rfl, _, _, _, _, isBoolD xd, rfl, .ty "bool", (hx.same s2).ty, kitBool xd, _, rfl, ?_⟩
    cases e4 : isBoolD xd with
    | false =>
      refine iteT ⟨by show 1 ≤ 1000; decide, fun a na => err_use na fun d nd => ?_⟩
      refine qE (Str.ofString "is_exact") ?_ d _ (s2.trans (same_new nd)) upd_same (s2.free nd)
      unfold wrongD
      rw [e1, e2, e3, if_neg (by decide), if_neg (by decide), if_neg (by decide)]
      cases xd <;> first | rfl | cases e4
    | true =>
    refine iteF (q ?_ H2 s2)
    unfold wrongD
    rw [e1, e2, e3, if_neg (by decide), if_neg (by decide), if_neg (by decide)]
    cases xd <;> first | rfl | cases e4
theorem ok_rinit {f C CE fI : Addr} {fd : FuncData} {dvs : List V} {kws : List (Str × V)} (F : FunD K "__init__" "Rule.__init__" (defArgs sRuleInit) (defBody sRuleInit) (defScope sRuleInit) dvs kws f fd) (T : RTxt K mg C) (B : Blt mg)
    (check_parts : Own P w K mg base (L2.CX P w) 5 "check_parts" ["state", "pattern", "goal", "is_exact", "is_free"] (spCheck K CE)) (copied_goal : Own P w K mg base CX0 1 "copied_goal" ["goal"] (spCopied K))
    (words_named : Own P w K mg base CX0 2 "words_named" ["pattern", "goal"] (spNamed K)) : FnOk P w K mg base (L2.CX P w) 6 f fd ["self", "state", "pattern", "goal", "is_exact"] (spRInit K C CE) := by
  refine F.ok scRuleInit (fun vs H Q E h => ?_) (fun cdv A outer s0 H vs Q E hr h => ?_)
  · obtain ⟨p, dx, sv, pv_, gv, xv, sd, pd, gd, xd, rfl, _⟩ := h
    rfl
  · obtain ⟨p, dx, sv, pv_, gv, xv, sd, pd, gd, xd, rfl, hp, hs, hpt, hg, hx, qE, q⟩ := h
    refine ⟨_, (pss_cons (ps_expr (pe_callS check_parts.g hr rfl check_parts.mg check_parts.kp check_parts.b (fun σ => passAt (takes_of rfl rfl rfl rfl) σ) (pa_cons (pv 1) (pa_cons (pv 2) (pa_cons (pv 3) (pa_cons (pv 4) (pa_cons pe_bl pa_nil)))))))
      (pss_cons (ps_fld (pv 0) (pv 1) rfl)
      (pss_cons (ps_fld (pv 0) (pe_callTy call_tupA (by rfl) B.tuple_ (by decide +kernel) (pa_cons (pv 2) pa_nil)) rfl)
      (pss_cons (ps_fld (pv 0) (pe_call copied_goal.g (hr.mono (by decide)) rfl copied_goal.mg copied_goal.kp copied_goal.b .nil pass0 (pa_cons (pv 3) pa_nil)) rfl)
      (pss_cons (ps_fld (pv 0) (pv 4) rfl)
      (pss_cons (ps_fld (pv 0) (pe_call words_named.g (hr.mono (by decide)) rfl words_named.mg words_named.kp words_named.b .nil pass0 (pa_cons (pe_fld (pv 0) rfl) (pa_cons (pe_fld (pv 0) rfl) pa_nil))) rfl)
      (pss_one (ps_fld (pv 0) (pe_tup (pa_cons (pe_fld (pv 0) rfl) (pa_cons (pe_fld (pv 0) rfl) (pa_cons (pe_fld (pv 0) rfl) (pa_cons (pe_fld (pv 0) rfl) pa_nil))))) rfl)))))))), ?_⟩
    refine ⟨_, rfl, _, rfl, _, rfl, _, rfl, sv, pv_, gv, xv, sd, pd, gd, xd, rfl, hs, hpt, hg, hx, qE, fun hn H2 s2 => ?_⟩
    obtain ⟨e1, e2, e3, e4⟩ := wrong_parts hn
    obtain ⟨z, rfl, rfl, hz⟩ := vx_str hs (by cases sd <;> first | rfl | cases e1)
    obtain ⟨x, rfl, rfl⟩ : ∃ x, xv = .bl x ∧ xd = .bool x := by
      rcases hx with ⟨h, o⟩ | ⟨a, kvs, rfl, h, rfl⟩
      · cases h <;> first | exact ⟨_, rfl, rfl⟩ | cases e4
      · cases e4
    have q' := q z x hn rfl rfl
    obtain ⟨p1, p2, p3⟩ := areEnt_parts e2
    have hp2 := s2 _ _ hp
    -- self._state
    refine ⟨_, rfl, _, rfl, p, C, dx, _, rfl, hp2, T.cl, T.nS, (by show 0 < 1000; decide), ?_⟩
    have k2 : Kp H2 (upd H2 p (.ins C dx [(nState, .str z)])) := kp_put hp2 rfl
    have b1 : ∀ b o, H b = some o → b ≠ p → (upd H2 p (.ins C dx [(nState, .str z)])) b = some o := fun b o e ne => by rw [upd_ne ne]; exact s2 _ _ e
    have g1 : (upd H2 p (.ins C dx [(nState, .str z)])) p = some (.ins C dx [(nState, .str z)]) := upd_same
    obtain ⟨pa, ps, rfl, hpa, hpd, pfew, pok⟩ := vx_seq (hpt.same s2) p1
    have eps := ents_val hpd p3
    subst eps
    have hpa1 := k2.sqA hpa
    have hg2 : Dp K H2 gv gd ∧ okD 8 gd = true := by
      rcases hg.same s2 with h | ⟨a, kvs, _, _, z⟩
      · exact h
      · rw [z] at e3
        cases e3
    have hg1 := dp_kp k2 hg2.1
    refine hp_is (H' := upd H2 p (.ins C dx [(nState, .str z)])) rfl ?_
    generalize upd H2 p (.ins C dx [(nState, .str z)]) = G1 at k2 b1 g1 hpa1 hg1 ⊢
    -- self._pattern
    refine ⟨_, rfl, pa, _, rfl, hpa1, fun tp G2 htp sg => ⟨_, rfl, p, C, dx, _, rfl, sg _ _ g1, T.cl, T.nP, (by show 1 < 1000; decide), ?_⟩⟩
    have gp2 := sg _ _ g1
    have kq : Kp G1 (upd G2 p (.ins C dx [(nState, .str z), (nPattern, .ref tp)])) := (kp_same sg).trans (kp_put gp2 rfl)
    have htp2 : SqT K (upd G2 p (.ins C dx [(nState, .str z), (nPattern, .ref tp)])) tp ((itemsD pd).map entV) := sqt_put htp gp2
    have g2 : (upd G2 p (.ins C dx [(nState, .str z), (nPattern, .ref tp)])) p = some (.ins C dx [(nState, .str z), (nPattern, .ref tp)]) := upd_same
    have b2 : ∀ b o, H b = some o → b ≠ p → (upd G2 p (.ins C dx [(nState, .str z), (nPattern, .ref tp)])) b = some o := fun b o e ne => by rw [upd_ne ne]; exact sg _ _ (b1 b o e ne)
    have hg3 := dp_kp kq hg1
    refine hp_is (H' := upd G2 p (.ins C dx [(nState, .str z), (nPattern, .ref tp)])) rfl ?_
    generalize upd G2 p (.ins C dx [(nState, .str z), (nPattern, .ref tp)]) = G3 at kq htp2 g2 b2 hg3 ⊢
    -- self._goal
    refine ⟨_, rfl, gv, gd, pd, rfl, hg3, e3, fun gV G4 hgV s4 => ⟨_, rfl, p, C, dx, _, rfl, s4 _ _ g2, T.cl, T.nG, (by show 2 < 1000; decide), ?_⟩⟩
    have kp4 : Kp G4 (upd G4 p (.ins C dx [(nState, .str z), (nPattern, .ref tp), (nGoal, gV)])) := kp_put (s4 _ _ g2) rfl
    have htp4 := kp4.sqT (same_seqT s4 htp2)
    have hgV4 := goal_at_kp hgV kp4
    have hg4 := dp_kp kp4 (dp_same s4 hg3)
    have g4 : (upd G4 p (.ins C dx [(nState, .str z), (nPattern, .ref tp), (nGoal, gV)])) p = some (.ins C dx [(nState, .str z), (nPattern, .ref tp), (nGoal, gV)]) := upd_same
    have b4 : ∀ b o, H b = some o → b ≠ p → (upd G4 p (.ins C dx [(nState, .str z), (nPattern, .ref tp), (nGoal, gV)])) b = some o := fun b o e ne => by rw [upd_ne ne]; exact s4 _ _ (b2 b o e ne)
    refine hp_is (H' := upd G4 p (.ins C dx [(nState, .str z), (nPattern, .ref tp), (nGoal, gV)])) rfl ?_
    generalize upd G4 p (.ins C dx [(nState, .str z), (nPattern, .ref tp), (nGoal, gV)]) = G5 at htp4 hgV4 hg4 g4 b4 ⊢
    -- self._is_exact
    refine ⟨_, rfl, _, rfl, p, C, dx, _, rfl, g4, T.cl, T.nE, (by show 3 < 1000; decide), ?_⟩
    have kp5 : Kp G5 (upd G5 p (.ins C dx [(nState, .str z), (nPattern, .ref tp), (nGoal, gV), (nExact, .bl x)])) := kp_put g4 rfl
    have htp5 := kp5.sqT htp4
    have hgV5 := goal_at_kp hgV4 kp5
    have hg5 := dp_kp kp5 hg4
    have g5 : (upd G5 p (.ins C dx [(nState, .str z), (nPattern, .ref tp), (nGoal, gV), (nExact, .bl x)])) p = some (.ins C dx [(nState, .str z), (nPattern, .ref tp), (nGoal, gV), (nExact, .bl x)]) := upd_same
    have b5 : ∀ b o, H b = some o → b ≠ p → (upd G5 p (.ins C dx [(nState, .str z), (nPattern, .ref tp), (nGoal, gV), (nExact, .bl x)])) b = some o := fun b o e ne => by rw [upd_ne ne]; exact b4 b o e ne
    refine hp_is (H' := upd G5 p (.ins C dx [(nState, .str z), (nPattern, .ref tp), (nGoal, gV), (nExact, .bl x)])) rfl ?_
    generalize upd G5 p (.ins C dx [(nState, .str z), (nPattern, .ref tp), (nGoal, gV), (nExact, .bl x)]) = G6 at htp5 hgV5 hg5 g5 b5 ⊢
    -- self._words
    refine ⟨_, rfl, p, C, dx, _, _, rfl, g5, T.cl, T.nP, rfl, _, rfl, p, C, dx, _, _, rfl, g5, T.cl, T.nG, rfl, tp, gV, gd, pd, rfl, e3, e2, htp5, hgV5, fun tW ws G8 hs1 hs2 hs3 htW s8 ntW => ?_⟩
    have g8 := s8 _ _ g5
    refine ⟨_, rfl, p, C, dx, _, rfl, g8, T.cl, T.nW, (by show 4 < 1000; decide), ?_⟩
    have kp8 : Kp G8 (upd G8 p (.ins C dx [(nState, .str z), (nPattern, .ref tp), (nGoal, gV), (nExact, .bl x), (nWords, .ref tW)])) := kp_put g8 rfl
    have htp8 := kp8.sqT (same_seqT s8 htp5)
    have hgV8 := goal_at_kp hgV5 ((kp_same s8).trans kp8)
    have htW8 := kp8 _ _ htW rfl
    have g9 : (upd G8 p (.ins C dx [(nState, .str z), (nPattern, .ref tp), (nGoal, gV), (nExact, .bl x), (nWords, .ref tW)])) p = some (.ins C dx [(nState, .str z), (nPattern, .ref tp), (nGoal, gV), (nExact, .bl x), (nWords, .ref tW)]) := upd_same
    have b8 : ∀ b o, H b = some o → b ≠ p → (upd G8 p (.ins C dx [(nState, .str z), (nPattern, .ref tp), (nGoal, gV), (nExact, .bl x), (nWords, .ref tW)])) b = some o := fun b o e ne => by rw [upd_ne ne]; exact s8 _ _ (b5 b o e ne)
    refine hp_is (H' := upd G8 p (.ins C dx [(nState, .str z), (nPattern, .ref tp), (nGoal, gV), (nExact, .bl x), (nWords, .ref tW)])) rfl ?_
    generalize upd G8 p (.ins C dx [(nState, .str z), (nPattern, .ref tp), (nGoal, gV), (nExact, .bl x), (nWords, .ref tW)]) = G9 at htp8 hgV8 htW8 g9 b8 ⊢
    -- self._key
    refine ⟨_, rfl, p, C, dx, _, _, rfl, g9, T.cl, T.nS, rfl, _, rfl, p, C, dx, _, _, rfl, g9, T.cl, T.nP, rfl, _, rfl, p, C, dx, _, _, rfl, g9, T.cl, T.nG, rfl, _, rfl, p, C, dx, _, _, rfl, g9, T.cl, T.nE, rfl, by show 4 ≤ sizeLine; decide, fun k nk => ?_⟩
    have sk : Same G9 (upd G9 k (.tup [.str z, .ref tp, gV, .bl x])) := same_new nk
    have g10 := sk _ _ g9
    have hk : (upd G9 k (.tup [.str z, .ref tp, gV, .bl x])) k = some (.tup [.str z, .ref tp, gV, .bl x]) := upd_same
    refine ⟨_, rfl, p, C, dx, _, rfl, g10, T.cl, T.nK, (by show 5 < 1000; decide), ?_⟩
    have kp10 : Kp (upd G9 k (.tup [.str z, .ref tp, gV, .bl x])) (upd (upd G9 k (.tup [.str z, .ref tp, gV, .bl x])) p (.ins C dx (rF (.str z) (.ref tp) gV (.bl x) (.ref tW) (.ref k)))) := kp_put g10 rfl
    refine q' _ (fun b o e ne => ?_) ⟨dx, tp, tW, k, gV, ws, upd_same, kp10.sqT (same_seqT sk htp8), goal_at_kp hgV8 ((kp_same sk).trans kp10), kp10 _ _ (sk _ _ htW8) rfl, hs1, hs2, hs3, kp10 _ _ hk rfl⟩
    rw [upd_ne ne]
    exact sk _ _ (b8 b o e ne)
end
end RL

-- FROM law_k18_rows_listed
namespace RL
open PySem L2 SX AddrMath VA
/-- what a call of a def of the text wants, beside its promise -/
structure Cd (K : PySem.W.Frag) (mg : Str → Option Value) (x : Str) (f : Addr) : Prop where
  mg : mg x = some (.ref f)
  kp : PySem.W.keepIn K (.ref f) = true
theorem lst_ne {H : Hp} {a d c : Addr} {xs : List V} {n : Nat} (h : H a = some (.lst xs)) (p : PenAt H d c n) : a ≠ d := by
  obtain ⟨ns, s, r, h1, _⟩ := p
  exact ne_of h h1 (fun z => by cases z)
theorem tup_ne {H : Hp} {a d c : Addr} {xs : List V} {n : Nat} (h : H a = some (.tup xs)) (p : PenAt H d c n) : a ≠ d := by
  obtain ⟨ns, s, r, h1, _⟩ := p
  exact ne_of h h1 (fun z => by cases z)
/-- the tape: at least one cell -/
def TapeAt (H : Hp) (d c : Addr) (n : Nat) : Prop := ∃ (ns : List Int) (s : Nat) (r : Int), H d = some (.dK (penKV c (s : Int) r)) ∧ H c = some (.lst (ns.map V.int)) ∧ 0 < ns.length ∧ ns.length ≤ 63 ∧ s ≤ n
theorem TapeAt.keep {H H' : Hp} {d c : Addr} {n : Nat} (p : TapeAt H d c n) (s : Same H H') : TapeAt H' d c n := by
  obtain ⟨ns, sp, r, h1, h2, h3⟩ := p
  exact ⟨ns, sp, r, s _ _ h1, s _ _ h2, h3⟩
theorem TapeAt.mono {H : Hp} {d c : Addr} {n m : Nat} (p : TapeAt H d c n) (h : n ≤ m) : TapeAt H d c m := by
  obtain ⟨ns, sp, r, h1, h2, h3, h4, h5⟩ := p
  exact ⟨ns, sp, r, h1, h2, h3, h4, by omega⟩
theorem TapeAt.pen {H : Hp} {d c : Addr} {n : Nat} (p : TapeAt H d c n) : PenAt H d c n := by
  obtain ⟨ns, sp, r, h1, h2, h3, h4, h5⟩ := p
  exact ⟨ns, sp, r, h1, h2, h4, h5⟩
section
variable {P : Program} {w : World} {K : PySem.W.Frag} {mg : Str → Option Value} {base : Heap}
/-! ### _law_begin: slots script 0 -/
abbrev sBegin : Stmt := top 60
theorem scBegin : FnScope ["_law_script"] ["_law_script"] (defScope sBegin) := ⟨rfl, rfl, rfl, by decide +kernel, rfl, by decide +kernel, by decide +kernel⟩
def spBegin (K : PySem.W.Frag) : Sp := fun vs H Q _ => ∃ (a : Addr) (ns : List Int), vs = [.ref a] ∧ SqL K H a (ns.map V.int) ∧ ns.length ≤ 63 ∧ ∀ (d c : Addr) (H' : Hp), TapeAt H' d c 0 → Same H H' → H d = none → Q (.ref d) H'
/-- script[:63] or [0] -/
def tCells (K : PySem.W.Frag) : TE := fun σ H Q => ∃ (a : Addr) (ns : List Int), σ[0]? = some (some (.ref a)) ∧ SqL K H a (ns.map V.int) ∧ ns.length ≤ 63 ∧ ∀ (c : Addr) (ms : List Int) (H' : Hp), H' c = some (.lst (ms.map V.int)) → 0 < ms.length → ms.length ≤ 63 → Same H H' → H c = none → Q (.ref c) H'
theorem ok_begin {f : Addr} {fd : FuncData} (F : Fun K "_law_begin" "_law_begin" sBegin f fd) : FnOk P w K mg base CX0 1 f fd ["_law_script"] (spBegin K) := by
  refine F.ok scBegin (fun vs H Q E h => ?_) (fun cdv A outer s H vs Q E hr h => ?_)
  · obtain ⟨a, ns, rfl, _⟩ := h
    rfl
  · obtain ⟨a, ns, rfl, hS, hlen, q⟩ := h
    refine ⟨_, pss_one (ps_ret (pe_disp (pps_cons pe_str (pe_by (tCells K) (pe_orT (pe_slice sl_list (pv 0) po_none (po_some pe_int)) (pe_one (pe_lst (pa_cons pe_int pa_nil)))) (fun σ H Q h => by
        obtain ⟨a, ns, e0, hS, hl, q⟩ := h
        refine ⟨_, e0, 63, rfl, a, ns.map V.int, rfl, hS, fun c nc => ?_⟩
        have ecut : cutV (ns.map V.int) none (some 63) = (ns.take 63).map V.int := by
          rw [show (63 : Int) = ((63 : Nat) : Int) from rfl, cut_to, List.map_take]
        have sc : Same H (upd H c (.lst (cutV (ns.map V.int) none (some 63)))) := same_new nc
        have uc : (upd H c (.lst (cutV (ns.map V.int) none (some 63)))) c = some (.lst (cutV (ns.map V.int) none (some 63))) := upd_same
        rw [ecut] at sc uc ⊢
        refine ⟨!((ns.take 63).map V.int).isEmpty, .inl ⟨_, .inl (.inl uc), rfl⟩, ?_⟩
        cases hb : ((ns.take 63).map V.int).isEmpty with
        | false =>
          refine q c (ns.take 63) _ uc ?_ (by rw [List.length_take]; omega) sc nc
          cases hz : ns.take 63 with
          | nil => rw [hz] at hb; cases hb
          | cons z r => exact Nat.succ_pos _
        | true =>
          refine ⟨by show 1 ≤ sizeLine; decide, fun p np => ?_⟩
          exact q p [0] _ upd_same (by decide) (by decide) (sc.trans (same_new np)) (sc.free np)))
      (pps_cons pe_str pe_int (pps_cons pe_str pe_int pps_nil))) (by rfl) (by rfl) (fun z => by cases z) (by decide))), ?_⟩
    intro p hp
    have s1 : Same H (upd H p (.dK [])) := same_new hp
    have u1 : (upd H p (.dK [])) p = some (.dK []) := upd_same
    refine ⟨a, ns, rfl, s1.seq hS, hlen, fun c ms H2 hc h0 h63 s2 nc => ?_⟩
    refine ⟨s2 _ _ u1, penKV c 0 0, rfl, by show 3 ≤ 15; decide, ?_⟩
    rw [pen_made]
    have npl : c ≠ p := fun z => by
      rw [z, u1] at nc
      cases nc
    refine q p c _ ⟨ms, 0, 0, upd_same, by rw [upd_ne npl]; exact hc, h0, h63, Nat.le_refl _⟩ (fun b o e => ?_) hp
    rw [upd_ne (ne_of_none e hp)]
    exact s2 _ _ (s1 _ _ e)
/-! ### _law_draw: slots tape 0, many 1, spot 2, size 3, cell 4, mixed 5, found 6 -/
abbrev sDraw : Stmt := top 61
def spDraw : Sp := fun vs H Q _ => ∃ (d c : Addr) (n : Nat) (m : Int), vs = [.ref d, .int m] ∧ TapeAt H d c n ∧ n ≤ 1000000 ∧ 0 < m ∧ m < 1073741824 ∧ ∀ (j : Int) (H' : Hp), 0 ≤ j → j < m → TapeAt H' d c (n + 1) → But d H H' → Q (.int j) H'
theorem nzA : (2305843009213693951 : Int) ≠ 0 := by decide
theorem nzB : (10 : Int) ^ (49 : Int).toNat + 9 ≠ 0 := by decide
/-- the last three rows: the tape's rest is told -/
def tFin (c : Addr) (m : Int) : TS := fun D σ H => ∃ (d : Addr) (sp r : Int) (o2 o3 o4 o5 : Option V), σ = [some (.ref d), some (.int m), o2, o3, o4, o5, none] ∧ H d = some (.dK (penKV c sp r)) ∧ ∀ (j z : Int) (H' : Hp), 0 ≤ j → j < m → H' d = some (.dK (penKV c sp z)) → But d H H' → D.rt (.int j) H'
theorem scDraw : FnScope ["_law_tape", "_law_many", "_law_spot", "_law_size", "_law_cell", "_law_mixed", "_law_found"] ["_law_tape", "_law_many"] (defScope sDraw) := ⟨rfl, rfl, rfl, by decide +kernel, rfl, by decide +kernel, by decide +kernel⟩
theorem ok_draw {f : Addr} {fd : FuncData} (F : Fun K "_law_draw" "_law_draw" sDraw f fd) (mi : mg "int" = none) (ml : mg "len" = none) : FnOk P w K mg base CX0 1 f fd ["_law_tape", "_law_many"] spDraw := by
  refine F.ok scDraw (fun vs H Q E h => ?_) (fun cdv A outer s H vs Q E hr h => ?_)
  · obtain ⟨d, c, n, m, rfl, _⟩ := h
    rfl
  · obtain ⟨d, c, n, m, rfl, p, hn, hm0, hm1, q⟩ := h
    have hu := hu_of hr
    have hmn : m ≠ 0 := by omega
    have hma : m.natAbs < 1073741824 := by omega
    have fm : ∀ x : Int, 0 ≤ x.fmod m ∧ x.fmod m < m := fun x => fmod_in x hm0
    have gC : ∀ {H : Hp} {d : Addr} {x y : Int}, H d = some (.dK (penKV c x y)) → DGet H d (.str "cells") (some (.ref c)) := fun {H d x y} e => by
      have z := DGet.k (k := kCells) e
      rw [pen_cells] at z
      exact z
    have gS : ∀ {H : Hp} {d : Addr} {x y : Int}, H d = some (.dK (penKV c x y)) → DGet H d (.str "spot") (some (.int x)) := fun {H d x y} e => by
      have z := DGet.k (k := kSpot) e
      rw [pen_spot] at z
      exact z
    have gR : ∀ {H : Hp} {d : Addr} {x y : Int}, H d = some (.dK (penKV c x y)) → DGet H d (.str "rest") (some (.int y)) := fun {H d x y} e => by
      have z := DGet.k (k := kRest) e
      rw [pen_rest] at z
      exact z
    have uS : ∀ {H : Hp} {d : Addr} {x y z : Int}, H d = some (.dK (penKV c x y)) → DPut H d (.str "spot") (.int z) (upd H d (.dK (penKV c z y))) := fun {H d x y z} e => by
      have q := DPut.k (k := kSpot) (v := .int z) e (small1000 (by show 3 ≤ 1000; decide))
      rw [pen_putS] at q
      exact q
    have uR : ∀ {H : Hp} {d : Addr} {x y z : Int}, H d = some (.dK (penKV c x y)) → DPut H d (.str "rest") (.int z) (upd H d (.dK (penKV c x z))) := fun {H d x y z} e => by
      have q := DPut.k (k := kRest) (v := .int z) e (small1000 (by show 3 ≤ 1000; decide))
      rw [pen_putR] at q
      exact q
    refine ⟨_, (pss_cons (ps_if (pt_cmpR op_lt (pe_dget hu (pv 0) pe_str (fun _ _ => rfl)) (pv 1) (nomark _)) (pss_cons (ps_par (by rfl) scDraw.nd (i := 2) (j := 3) rfl rfl (by decide) rfl rfl (pa_cons (pe_dget hu (pv 0) pe_str (fun _ _ => rfl)) (pa_cons (pe_callB call_len_seq (by rfl) ml PySem.boot_len (pa_cons (pe_dget hu (pv 0) pe_str (fun _ _ => rfl)) pa_nil)) pa_nil)) (by rfl))
        (pss_cons (ps_asg (pe_tup (pa_cons (pe_ix ix_list (pe_dget hu (pv 0) pe_str (fun _ _ => rfl)) (pe_op op_modN (pe_callTy call_int1 (by rfl) mi (by decide +kernel) (pa_cons (pv 2) pa_nil)) (pv 3)) (fun _ _ => rfl)) (pa_cons (pe_op op_add (pv 2) pe_int) pa_nil))) (pg_tup (n := 2) rfl (pgs_cons (pg_name (i := 4) scDraw.nd rfl (Or.inl rfl)) (pgs_cons (pg_sub (pv 0) pe_str (set_dict hu)) pgs_nil))))
        (pss_cons (ps_set (i := 5) scDraw.nd rfl (Or.inl rfl) (pe_op op_add (pe_op op_add (pe_op op_modN (pe_callTy call_int1 (by rfl) mi (by decide +kernel) (pa_cons (pv 4) pa_nil)) pe_int) (pe_op op_mul pe_int (pv 2))) pe_int))
        (pss_cons (ps_dput hu (pv 0) pe_str (pe_op op_modN (pe_callTy call_int1 (by rfl) mi (by decide +kernel) (pa_cons (pe_op op_add (pe_op op_pow (pv 5) pe_int) (pe_op op_mul pe_int (pv 2))) pa_nil)) (pe_op op_add (pe_op op_pow pe_int pe_int) pe_int)) rfl)
        (pss_one (ps_if (PW.pt (pw_and (pt_cmpR op_ge (pv 4) (pe_op op_pow pe_int pe_int) (nomark _)) (pw_and1 (pt_cmpR op_lt (pv 2) (pv 3) (nomark _))))) (pss_one (ps_dput hu (pv 0) pe_str (pe_op op_sub (pv 4) (pe_op op_pow pe_int pe_int)) rfl)) pss_nil)))))) pss_nil)
      (pss_by (tFin c m) (pss_cons (ps_asg (pe_tup (pa_cons (pe_op op_modN (pe_callTy call_int1 (by rfl) mi (by decide +kernel) (pa_cons (pe_dget hu (pv 0) pe_str (fun _ _ => rfl)) pa_nil)) (pv 1)) (pa_cons (pe_op op_fdivN (pe_dget hu (pv 0) pe_str (fun _ _ => rfl)) (pv 1)) pa_nil))) (pg_tup (n := 2) rfl (pgs_cons (pg_name (i := 6) scDraw.nd rfl (Or.inl rfl)) (pgs_cons (pg_sub (pv 0) pe_str (set_dict hu)) pgs_nil))))
      (pss_one (ps_ret (pv 6)))) (fun D σ H h => by
        obtain ⟨d, sp, r, o2, o3, o4, o5, rfl, h1, q⟩ := h
        refine ⟨_, rfl, d, _, rfl, gR h1, .inl ⟨_, rfl, _, rfl, _, _, rfl, rfl, hmn, ?_⟩⟩
        refine ⟨_, rfl, d, _, rfl, gR h1, _, rfl, _, _, rfl, rfl, ⟨hmn, hma⟩, by show 2 ≤ sizeLine; decide, fun t nt => ?_⟩
        have h2 := (same_new (o := .tup [.int (r.fmod m), .int (r.fdiv m)]) nt) _ _ h1
        refine ⟨t, _, rfl, .inl (.inl upd_same), rfl, _, _, rfl, _, _, rfl, _, rfl, d, _, rfl, uR h2, rfl, ?_⟩
        refine ⟨_, rfl, q _ (r.fdiv m) _ (fm r).1 (fm r).2 upd_same ((but_of (same_new nt)).trans But.upd)⟩))), ?_⟩
    obtain ⟨ns, sp, r, h1, h2, h3, h4, h5⟩ := p
    have ncd : c ≠ d := ne_of h2 h1 (fun z => by cases z)
    have fin : ∀ {o2 o3 o4 o5 : Option V} {s1 : Nat} {r1 : Int} {H1 : Hp}, H1 d = some (.dK (penKV c (s1 : Int) r1)) → H1 c = some (.lst (ns.map V.int)) → s1 ≤ n + 1 → But d H H1 → tFin c m ⟨fun _ _ => False, Q, fun _ _ => False, fun _ _ => False⟩ [some (.ref d), some (.int m), o2, o3, o4, o5, none] H1 := fun {o2 o3 o4 o5 s1 r1 H1} e1 e2 l b =>
      ⟨d, s1, r1, o2, o3, o4, o5, rfl, e1, fun j z H' j0 j1 e b' => q j H' j0 j1 ⟨ns, s1, z, e, b' _ _ e2 ncd, h3, h4, l⟩ (b.trans b')⟩
    refine ⟨_, rfl, d, _, rfl, gR h1, _, rfl, _, _, rfl, rfl, _, rfl, ?_⟩
    refine ite2 (fun _ => ?_) (fun _ => ?_)
    · -- spot, size
      have hl0 : (0 : Int) < ((ns.map V.int).length : Int) := by rw [List.length_map]; omega
      have hsp : (sp : Int) ≤ 1000000 := by omega
      refine ⟨_, rfl, d, _, rfl, gS h1, _, rfl, d, _, rfl, gC h1, c, _, rfl, .inl (.inl (.inl h2)), _, _, rfl, ?_⟩
      have fi := fmod_in (sp : Int) hl0
      obtain ⟨j, ej⟩ : ∃ j : Nat, (sp : Int).fmod ((ns.map V.int).length : Int) = (j : Int) := ⟨((sp : Int).fmod ((ns.map V.int).length : Int)).toNat, by omega⟩
      have hj : j < ns.length := by
        have z := fi.2
        rw [ej, List.length_map] at z
        omega
      -- cell, tape["spot"]
      refine ⟨_, rfl, d, _, rfl, gC h1, _, rfl, .inl ⟨_, rfl, _, rfl, _, _, rfl, rfl, by omega, c, _, _, .int ns[j], rfl, rfl, .inl (.inl h2), at_of (j := j) ej (by rw [List.getElem?_map, List.getElem?_eq_getElem hj]; rfl), ?_⟩⟩
      generalize ns[j] = z
      refine ⟨_, rfl, _, _, rfl, rfl, by show 2 ≤ sizeLine; decide, fun t nt => ?_⟩
      have st := same_new (o := .tup [.int z, .int ((sp : Int) + 1)]) nt
      have h1' := st _ _ h1
      have h2' := st _ _ h2
      have ut : (upd H t (.tup [.int z, .int ((sp : Int) + 1)])) t = some (.tup [.int z, .int ((sp : Int) + 1)]) := upd_same
      generalize upd H t (.tup [.int z, .int ((sp : Int) + 1)]) = Ht at st h1' h2' ut
      refine ⟨t, _, rfl, .inl (.inl ut), rfl, _, _, rfl, _, _, rfl, _, rfl, d, _, rfl, uS h1', rfl, ?_⟩
      have u1 : (upd Ht d (.dK (penKV c ((sp : Int) + 1) r))) d = some (.dK (penKV c ((sp : Int) + 1) r)) := upd_same
      have u2 : (upd Ht d (.dK (penKV c ((sp : Int) + 1) r))) c = some (.lst (ns.map V.int)) := by rw [upd_ne ncd]; exact h2'
      have b1 : But d H (upd Ht d (.dK (penKV c ((sp : Int) + 1) r))) := (but_of st).trans But.upd
      generalize upd Ht d (.dK (penKV c ((sp : Int) + 1) r)) = H1 at u1 u2 b1
      -- mixed
      refine ⟨_, rfl, .inl ⟨_, rfl, _, _, rfl, rfl, nzA, _, rfl, _, _, rfl, rfl, .inl ⟨by decide, by decide⟩, _, _, rfl, rfl, _, _, rfl, rfl, ?_⟩⟩
      have f0 := fmod_in z (m := 2305843009213693951) (by decide)
      obtain ⟨z1, e1⟩ : ∃ z1, z.fmod 2305843009213693951 + 52223 * (sp : Int) + 104729 = z1 := ⟨_, rfl⟩
      have a1 : z1.natAbs < 2 ^ 64 := by omega
      refine ⟨_, rfl, z1, _, congrArg V.int e1, rfl, ⟨by decide, by decide, a1⟩, _, rfl, _, _, rfl, rfl, .inl ⟨by decide, by decide⟩, _, _, rfl, rfl, .inl ⟨_, rfl, _, _, rfl, rfl, ⟨by decide, by decide, by decide⟩, _, _, rfl, rfl, _, _, rfl, rfl, nzB, ?_⟩⟩
      obtain ⟨z2, e2⟩ : ∃ z2, (z1 ^ (11 : Int).toNat + 31 * (sp : Int)).fmod (10 ^ (49 : Int).toNat + 9) = z2 := ⟨_, rfl⟩
      have w2 : DPut H1 d (.str "rest") (.int ((z1 ^ (11 : Int).toNat + 31 * (sp : Int)).fmod (10 ^ (49 : Int).toNat + 9))) (upd H1 d (.dK (penKV c ((sp : Int) + 1) z2))) := by
        rw [e2]
        exact uR u1
      refine ⟨_, rfl, d, upd H1 d (.dK (penKV c ((sp : Int) + 1) z2)), rfl, w2, ?_⟩
      clear w2 e2
      have v1 : (upd H1 d (.dK (penKV c ((sp : Int) + 1) z2))) d = some (.dK (penKV c ((sp : Int) + 1) z2)) := upd_same
      have v2 : (upd H1 d (.dK (penKV c ((sp : Int) + 1) z2))) c = some (.lst (ns.map V.int)) := by rw [upd_ne ncd]; exact u2
      have b2 : But d H (upd H1 d (.dK (penKV c ((sp : Int) + 1) z2))) := b1.trans But.upd
      generalize upd H1 d (.dK (penKV c ((sp : Int) + 1) z2)) = H2 at v1 v2 b2
      refine ⟨_, rfl, _, _, rfl, rfl, ⟨by decide, by decide, by decide⟩, _, _, rfl, rfl, _, rfl, ite2 (fun _ => ⟨_, rfl, _, rfl, _, _, rfl, rfl, _, rfl, ite2 (fun _ => ?_) (fun _ => ?_)⟩) (fun _ => ?_)⟩
      · refine ⟨_, rfl, _, _, rfl, rfl, ⟨by decide, by decide, by decide⟩, _, _, rfl, rfl, _, rfl, d, _, rfl, uR v1, ?_⟩
        exact fin (s1 := sp + 1) upd_same (by rw [upd_ne ncd]; exact v2) (by omega) (b2.trans But.upd)
      · exact fin (s1 := sp + 1) v1 v2 (by omega) b2
      · exact fin (s1 := sp + 1) v1 v2 (by omega) b2
    · exact fin h1 h2 (by omega) (But.refl d H)
end
section
variable {P : Program} {w : World} {K : PySem.W.Frag} {mg : Str → Option Value} {base : Heap}
theorem tape_ne {H : Hp} {a d c : Addr} {xs : List V} {n : Nat} (h : H a = some (.lst xs)) (p : TapeAt H d c n) : a ≠ d := by
  obtain ⟨ns, s, r, h1, _⟩ := p
  exact ne_of h h1 (fun z => by cases z)
/-! ### _law_pick: slots tape 0, some 1 -/
abbrev sPick : Stmt := top 62
def spPick : Sp := fun vs H Q _ => ∃ (d c a : Addr) (n : Nat) (xs : List V), vs = [.ref d, .ref a] ∧ TapeAt H d c n ∧ n ≤ 1000000 ∧ H a = some (.lst xs) ∧ 0 < xs.length ∧ xs.length < 1000000 ∧ ∀ (v : V) (H' : Hp), v ∈ xs → TapeAt H' d c (n + 1) → But d H H' → Q v H'
theorem scPick : FnScope ["_law_tape", "_law_some"] ["_law_tape", "_law_some"] (defScope sPick) := ⟨rfl, rfl, rfl, by decide +kernel, rfl, by decide +kernel, by decide +kernel⟩
theorem ok_pick {f : Addr} {fd : FuncData} (F : Fun K "_law_pick" "_law_pick" sPick f fd) (draw : Own P w K mg base CX0 1 "_law_draw" ["_law_tape", "_law_many"] spDraw) (ml : mg "len" = none) : FnOk P w K mg base CX0 2 f fd ["_law_tape", "_law_some"] spPick := by
  refine F.ok scPick (fun vs H Q E h => ?_) (fun cdv A outer s H vs Q E hr h => ?_)
  · obtain ⟨d, c, a, n, xs, rfl, _⟩ := h
    rfl
  · obtain ⟨d, c, a, n, xs, rfl, p, hn, hx, h0, h1, q⟩ := h
    refine ⟨_, pss_one (ps_ret (pe_ix ix_seq (pv 1) (pe_call draw.g hr rfl draw.mg draw.kp draw.b .nil pass0 (pa_cons (pv 0) (pa_cons (pe_callB call_len (by rfl) ml (by decide +kernel) (pa_cons (pv 1) pa_nil)) pa_nil))) (fun _ _ => rfl))), ?_⟩
    refine ⟨_, rfl, _, rfl, _, rfl, _, _, rfl, .inl ⟨_, .inl (.inl hx), rfl⟩, d, c, n, (xs.length : Int), rfl, p, hn, by omega, by omega, fun j H' hj0 hj1 p' b => ?_⟩
    have hx' := b a _ hx (tape_ne hx p)
    obtain ⟨k, rfl⟩ : ∃ k : Nat, j = (k : Int) := ⟨j.toNat, by omega⟩
    have hk : k < xs.length := by omega
    exact .inl ⟨a, xs, _, xs[k], rfl, rfl, .inl (.inl hx'), atI_nat (List.getElem?_eq_getElem hk), q _ _ (List.getElem_mem hk) p' b⟩
end
end RL

namespace RL
open PySem L2 SX AddrMath VA PySem.W GR
/-! ## addresses: of a word and a list of words -/
abbrev nPath : Str := "_path"
def aF1 (z : Str) : List (Str × V) := putF nState (.str z) []
def aF2 (z : Str) (t : Addr) : List (Str × V) := putF nPath (.ref t) (aF1 z)
def aF (z : Str) (t k : Addr) : List (Str × V) := putF nKey (.ref k) (aF2 z t)
theorem an_sp : ¬ (nState : Str) = nPath := by decide
theorem an_sk : ¬ (nState : Str) = nKey := by decide
theorem an_pk : ¬ (nPath : Str) = nKey := by decide
theorem aF2_state (z : Str) (t : Addr) : (aF2 z t).lookup nState = some (.str z) := by
  unfold aF2 aF1
  rw [lookup_putF, if_neg an_sp, lookup_putF, if_pos rfl]
theorem aF2_path (z : Str) (t : Addr) : (aF2 z t).lookup nPath = some (.ref t) := by
  unfold aF2
  rw [lookup_putF, if_pos rfl]
theorem aF_state (z : Str) (t k : Addr) : (aF z t k).lookup nState = some (.str z) := by
  unfold aF
  rw [lookup_putF, if_neg an_sk, aF2_state]
theorem aF_path (z : Str) (t k : Addr) : (aF z t k).lookup nPath = some (.ref t) := by
  unfold aF
  rw [lookup_putF, if_neg an_pk, aF2_path]
theorem aF_key (z : Str) (t k : Addr) : (aF z t k).lookup nKey = some (.ref k) := by
  unfold aF
  rw [lookup_putF, if_pos rfl]
theorem aF_no (z : Str) (t k : Addr) {m : Str} (h1 : ¬ m = nState) (h2 : ¬ m = nPath) (h3 : ¬ m = nKey) : (aF z t k).lookup m = none := by
  unfold aF aF2 aF1
  rw [lookup_putF, if_neg h3, lookup_putF, if_neg h2, lookup_putF, if_neg h1]
  rfl
theorem aF1_len (z : Str) : (aF1 z).length < 1000 := by
  show (1 : Nat) < 1000
  decide
theorem aF2_eq (z : Str) (t : Addr) : aF2 z t = ([(nState, V.str z), (nPath, V.ref t)] : List (Str × V)) := by
  show (if (nState : Str) = nPath then [(nState, V.ref t)] else (nState, V.str z) :: putF nPath (V.ref t) []) = _
  rw [if_neg an_sp]
  rfl
theorem aF2_len (z : Str) (t : Addr) : (aF2 z t).length < 1000 := by
  rw [aF2_eq]
  show (2 : Nat) < 1000
  decide
/-- texts as values -/
abbrev tV (ss : List Str) : List V := ss.map V.str
/-- an address stands at a, its path's tuple at t -/
def AddrT (K : PySem.W.Frag) (C : Addr) (H : Hp) (a t : Addr) (z : Str) (ss : List Str) : Prop := ∃ dx k, H a = some (.ins C dx (aF z t k)) ∧ SqT K H t (tV ss) ∧ SqT K H k [.int ss.length, .str z, .ref t]
structure ATxt (K : PySem.W.Frag) (mg : Str → Option Value) (C : Addr) : Prop where
  cl : Cls K C
  nS : NoAttr K C nState
  nP : NoAttr K C nPath
  nK : NoAttr K C nKey
  mgC : mg "Address" = some (.ref C)
theorem AddrT.same {K : PySem.W.Frag} {C : Addr} {H H' : Hp} {a t : Addr} {z : Str} {ss : List Str} (h : AddrT K C H a t z ss) (s : Same H H') : AddrT K C H' a t z ss := by
  obtain ⟨dx, k, h1, h2, h3⟩ := h
  exact ⟨dx, k, s _ _ h1, same_seqT s h2, same_seqT s h3⟩
def wrd (z : Str) : Bool := isW z.cps.toList
section
variable {P : Program} {w : World} {K : PySem.W.Frag} {mg : Str → Option Value} {base : Heap}
theorem str_vx {H : Hp} {z : Str} (h : wrd z = true) : Vx K H (.str z) (.str z) := .inl ⟨.str z, by
  have := ent_ok7 (d := .str z) (by show (isW z.cps.toList || false) = true; rw [show isW z.cps.toList = true from h]; rfl)
  exact ok_mono (by decide) this⟩
/-! ### are_words, of a list: slots value 0, item 1 -/
abbrev sAreWords : Stmt := top 13
def spAreWords (K : PySem.W.Frag) : Sp := fun vs H Q _ => ∃ (a : Addr) (ss : List Str), vs = [.ref a] ∧ SqA K H a (tV ss) ∧ ss.length ≤ 1000 ∧ ss.all wrd = true ∧ ∀ H', Same H H' → Q (.bl true) H'
theorem scAreWords : FnScope ["value", "item"] ["value"] (defScope sAreWords) := ⟨rfl, rfl, rfl, by decide +kernel, rfl, by decide +kernel, by decide +kernel⟩
theorem tv_dp {H : Hp} : ∀ ss : List Str, DpAll K H (tV ss) (ss.map PyData.str)
  | [] => .nil
  | z :: r => .cons (.str z) (tv_dp r)
theorem ok_arewords {f : Addr} {fd : FuncData} (F : Fun K "are_words" "are_words" sAreWords f fd) (B : Blt mg) (is_word : Own P w K mg base CX0 1 "is_word" ["value"] (spIsWord K)) :
    FnOk P w K mg base CX0 2 f fd ["value"] (spAreWords K) := by
  refine F.ok scAreWords (fun vs H Q E h => ?_) (fun cdv A outer s H vs Q E hr h => ?_)
  · obtain ⟨a, ss, rfl, _⟩ := h
    rfl
  · obtain ⟨a, ss, rfl, ha, few, hw, q⟩ := h
    refine ⟨_, (pss_one (ps_ret (pe_and (pe_callB call_isiT (by rfl) B.isinstance_ (by decide +kernel) (pa_cons (pv 0) (pa_cons (pe_tup (pa_cons (pe_bltn (v := .ty "list") (by rfl) B.list_ (by decide +kernel) rfl) (pa_cons (pe_bltn (v := .ty "tuple") (by rfl) B.tuple_ (by decide +kernel) rfl) pa_nil))) pa_nil))) (pe_one (pe_callB (cr_all rfl) (by rfl) B.all_ (by decide +kernel) (pa_cons (pe_lc (own := [("item", 1)]) (g := gName 1) (tt := tYes) rfl scAreWords.nd (pi_seq (pv 0))
          (blkOk_by (own := [("item", 1)]) (N := ["value", "item"]) (sc := defScope sAreWords) (by decide +kernel))
          (fun _ _ _ _ _ => (pg_name (i := 1) scAreWords.nd rfl (Or.inl rfl))) (fun _ _ _ _ _ => pts_nil)
          (fun _ _ _ _ _ => (pe_call is_word.g (hr.mono (by decide)) rfl is_word.mg is_word.kp is_word.b .nil pass0 (pa_cons (pv 1) pa_nil)))) pa_nil)))))), ?_⟩
    refine ⟨_, rfl, by show 2 ≤ sizeLine; decide, fun t nt => ?_⟩
    have s1 : Same H (upd H t (.tup [.ty "list", .ty "tuple"])) := same_new nt
    have ty : ∃ (T : String), TyX K (upd H t (.tup [.ty "list", .ty "tuple"])) (.ref a) (.type T) ∧ PySem.W.kitAny K (.type T) [.type "list", .type "tuple"] = some true := by
      rcases ha with h | h
      · exact ⟨"list", sql_ty (s1.seq h), kitSeq (.list [])⟩
      · exact ⟨"tuple", sqt_ty (same_seqT s1 h), kitSeq (.tuple [])⟩
    obtain ⟨T, t1, t2⟩ := ty
    refine ⟨_, t, _, _, [.type "list", .type "tuple"], true, rfl, upd_same, .cons (.ty "list") (.cons (.ty "tuple") .nil), t1, t2, _, rfl, ?_⟩
    generalize upd H t (.tup [.ty "list", .ty "tuple"]) = H1 at s1 ⊢
    refine iteT ⟨_, rfl, ?_⟩
    refine seq_map (ha.same s1) (by rw [List.length_map]; exact few) (fun _ => true) (fun x => .bl true) ?hw (fun x hm H2 s2 => ⟨fun R hR => no_test hR, fun _ H3 s3 R hR => ?_⟩) fun D H2 nD hD s2 => ?_
    case hw => intro _; rfl
    · obtain ⟨z, hz, rfl⟩ := List.mem_map.mp hm
      have hz' : isWordD (.str z) = true := List.all_eq_true.mp hw z hz
      have q3 := hR H3 (Same.refl H3)
      refine ⟨_, rfl, .str z, .str z, rfl, str_vx (List.all_eq_true.mp hw z hz), ?_⟩
      rw [hz']
      exact q3
    · refine ⟨D, (((tV ss).filter fun _ => true).map fun _ => true), rfl, .inl (.inl ?_), ?_⟩
      · rw [hD, List.map_map]
        rfl
      · have : (((tV ss).filter fun _ => true).map fun _ => true).all id = true := by simp
        rw [this]
        exact q _ (s1.trans s2)
/-! ### Address.__init__, of a word and a list of words: slots self 0, state 1, path 2 -/
abbrev sAInit : Stmt := inClass (top 19) 0
abbrev sAState : Stmt := inClass (top 19) 1
abbrev sAPath : Stmt := inClass (top 19) 2
abbrev sAEq : Stmt := inClass (top 19) 8
def spAInit (K : PySem.W.Frag) (C : Addr) : Sp := fun vs H Q _ => ∃ (p dx a : Addr) (z : Str) (ss : List Str), vs = [.ref p, .str z, .ref a] ∧ H p = some (.ins C dx []) ∧ wrd z = true ∧ SqA K H a (tV ss) ∧ ss.length ≤ 1000 ∧ ss.all wrd = true ∧
  ∀ (H' : Hp) (t : Addr), AddrT K C H' p t z ss → (∀ b o, H b = some o → b ≠ p → H' b = some o) → Q .non H'
theorem scAInit : FnScope ["self", "state", "path"] ["self", "state", "path"] (defScope sAInit) := ⟨rfl, rfl, rfl, by decide +kernel, rfl, by decide +kernel, by decide +kernel⟩
/-- a def with defaults, from which nothing gets out -/
theorem def_calm {x qual : Str} {params : Arguments} {body : List Stmt} {scope : Scope} {dvs : List V} {kws : List (Str × V)} {f : Addr} {fd : FuncData}
    {N ps : List Str} {k : Nat} {sp : Sp} (F : FunD K x qual params body scope dvs kws f fd) (S : FnScope N ps scope) (len : ∀ vs H Q E, sp vs H Q E → vs.length = ps.length)
    (go : ∀ (cdv : Value) (A : Around) (outer : List Env) (s : Shared) (H : Hp) (vs : List V) (Q : VK) (E : XK), Room k (A.deeper (PyProof.Rows.envOfC qual scope s.heap.objs.size f cdv)) → sp vs H Q E →
      ∃ t, PSs (cxOf CX0 P w K mg base N qual scope f cdv A outer s H E).nox body t ∧ t { nx := fun _ H' => Q .non H', rt := Q } (L2.start N vs) H) : FnOk P w K mg base CX0 (k + 1) f fd ps sp :=
  F.ok S len fun cdv A outer s H vs Q E hr h =>
    let ⟨t, a, b⟩ := go cdv A outer s H vs Q E hr h
    ⟨t, a.nox, b⟩
theorem ok_ainit {f C : Addr} {fd : FuncData} {dvs : List V} {kws : List (Str × V)} (F : FunD K "__init__" "Address.__init__" (defArgs sAInit) (defBody sAInit) (defScope sAInit) dvs kws f fd) (T : ATxt K mg C) (B : Blt mg)
    (is_word : Own P w K mg base CX0 1 "is_word" ["value"] (spIsWord K)) (are_words : Own P w K mg base CX0 2 "are_words" ["value"] (spAreWords K)) : FnOk P w K mg base CX0 3 f fd ["self", "state", "path"] (spAInit K C) := by
  refine def_calm F scAInit (fun vs H Q E h => ?_) (fun cdv A outer s0 H vs Q E hr h => ?_)
  · obtain ⟨p, dx, a, z, ss, rfl, _⟩ := h
    rfl
  · obtain ⟨p, dx, a, z, ss, rfl, hp, hz, ha, few, hw, q⟩ := h
    refine ⟨_, pss_cons (ps_if (pt_not (pt_val (pe_call is_word.g (hr.mono (by decide)) rfl is_word.mg is_word.kp is_word.b .nil pass0 (pa_cons (pv 1) pa_nil)))) (pss_one ps_never) pss_nil)
      (pss_cons (ps_if (pt_not (pt_val (pe_call are_words.g hr rfl are_words.mg are_words.kp are_words.b .nil pass0 (pa_cons (pv 2) pa_nil)))) (pss_one ps_never) pss_nil)
      (pss_cons (ps_fld (pv 0) (pv 1) rfl)
      (pss_cons (ps_fld (pv 0) (pe_callTy call_tupA (by rfl) B.tuple_ (by decide +kernel) (pa_cons (pv 2) pa_nil)) rfl)
      (pss_one (ps_fld (pv 0) (pe_tup (pa_cons (pe_callB call_len (by rfl) B.len_ (by decide +kernel) (pa_cons (pe_fld (pv 0) rfl) pa_nil)) (pa_cons (pe_fld (pv 0) rfl) (pa_cons (pe_fld (pv 0) rfl) pa_nil)))) rfl))))), ?_⟩
    have hz' : isWordD (.str z) = true := hz
    refine ⟨_, rfl, .str z, .str z, rfl, str_vx hz, _, rfl, ?_⟩
    rw [hz']
    refine iteF ⟨_, rfl, a, ss, rfl, ha, few, hw, fun H1 s1 => ⟨_, rfl, iteF ?_⟩⟩
    have hp1 := s1 _ _ hp
    refine ⟨_, rfl, _, rfl, p, C, dx, _, rfl, hp1, T.cl, T.nS, (by show 0 < 1000; decide), ?_⟩
    have kp : Kp H1 (upd H1 p (.ins C dx (putF nState (.str z) []))) := kp_put hp1 rfl
    have hpu : (upd H1 p (.ins C dx (putF nState (.str z) []))) p = some (.ins C dx (aF1 z)) := upd_same
    have o1 : ∀ b o, H1 b = some o → b ≠ p → (upd H1 p (.ins C dx (putF nState (.str z) []))) b = some o := fun b o e n => by rw [upd_ne n]; exact e
    generalize upd H1 p (.ins C dx (putF nState (.str z) [])) = H2 at kp hpu o1 ⊢
    refine ⟨_, rfl, a, _, rfl, kp.sqA (ha.same s1), fun t H3 ht s3 => ?_⟩
    have ht' : SqT K H3 t (tV ss) := ht
    have hp3 := s3 _ _ hpu
    refine ⟨_, rfl, p, C, dx, _, rfl, hp3, T.cl, T.nP, aF1_len _, ?_⟩
    have k4 : Kp H3 (upd H3 p (.ins C dx (putF nPath (.ref t) (aF1 z)))) := kp_put hp3 rfl
    have hp4 : (upd H3 p (.ins C dx (putF nPath (.ref t) (aF1 z)))) p = some (.ins C dx (aF2 z t)) := upd_same
    have o4 : ∀ b o, H3 b = some o → b ≠ p → (upd H3 p (.ins C dx (putF nPath (.ref t) (aF1 z)))) b = some o := fun b o e n => by rw [upd_ne n]; exact e
    have ht4 := k4.sqT ht'
    generalize upd H3 p (.ins C dx (putF nPath (.ref t) (aF1 z))) = H4 at k4 hp4 o4 ht4 ⊢
    refine ⟨_, rfl, p, C, dx, _, _, rfl, hp4, T.cl, T.nP, aF2_path _ _, _, _, rfl, .inr ⟨_, ht4, rfl⟩, _, rfl, p, C, dx, _, _, rfl, hp4, T.cl, T.nS, aF2_state _ _, _, rfl, p, C, dx, _, _, rfl, hp4, T.cl, T.nP, aF2_path _ _, by show 3 ≤ sizeLine; decide, fun k nk => ?_⟩
    have s5 := same_new (o := .tup [.int ((tV ss).length : Int), .str z, .ref t]) nk
    have hk5 : (upd H4 k (.tup [.int ((tV ss).length : Int), .str z, .ref t])) k = some (.tup [.int (ss.length : Int), .str z, .ref t]) := by
      rw [upd_same, List.length_map]
    have hp5 := s5 _ _ hp4
    have ht5 := same_seqT s5 ht4
    generalize upd H4 k (.tup [.int ((tV ss).length : Int), .str z, .ref t]) = H5 at s5 hk5 hp5 ht5 ⊢
    refine ⟨_, rfl, p, C, dx, aF2 z t, rfl, hp5, T.cl, T.nK, aF2_len _ _, ?_⟩
    have k6 : Kp H5 (upd H5 p (.ins C dx (putF nKey (.ref k) (aF2 z t)))) := kp_put hp5 rfl
    refine q _ t ⟨dx, k, upd_same, k6.sqT ht5, k6.sqT (.inl (.inl hk5))⟩ fun b o e hb => ?_
    rw [upd_ne hb]
    exact s5 _ _ (o4 _ _ (s3 _ _ (o1 _ _ (s1 _ _ e) hb)) hb)
/-! ### the getters and == -/
def spAState (K : PySem.W.Frag) (C : Addr) : Sp := fun vs H Q _ => ∃ (a t : Addr) (z : Str) (ss : List Str), vs = [.ref a] ∧ AddrT K C H a t z ss ∧ Q (.str z) H
def spAPath (K : PySem.W.Frag) (C : Addr) : Sp := fun vs H Q _ => ∃ (a t : Addr) (z : Str) (ss : List Str), vs = [.ref a] ∧ AddrT K C H a t z ss ∧ Q (.ref t) H
theorem scAState : FnScope ["self"] ["self"] (defScope sAState) := ⟨rfl, rfl, rfl, by decide +kernel, rfl, by decide +kernel, by decide +kernel⟩
theorem scAPath : FnScope ["self"] ["self"] (defScope sAPath) := ⟨rfl, rfl, rfl, by decide +kernel, rfl, by decide +kernel, by decide +kernel⟩
theorem ok_astate {f C : Addr} {fd : FuncData} (F : Fun K "state" "Address.state" sAState f fd) (T : ATxt K mg C) : FnOk P w K mg base CX0 1 f fd ["self"] (spAState K C) := by
  refine F.ok scAState (fun vs H Q E h => ?_) (fun cdv A outer s0 H vs Q E hr h => ?_)
  · obtain ⟨a, t, z, ss, rfl, _⟩ := h
    rfl
  · obtain ⟨a, t, z, ss, rfl, ⟨dx, k, h1, h2, h3⟩, q⟩ := h
    exact ⟨_, pss_one (ps_ret (pe_fld (pv 0) rfl)), _, rfl, a, C, dx, _, _, rfl, h1, T.cl, T.nS, aF_state _ _ _, q⟩
theorem ok_apath {f C : Addr} {fd : FuncData} (F : Fun K "path" "Address.path" sAPath f fd) (T : ATxt K mg C) : FnOk P w K mg base CX0 1 f fd ["self"] (spAPath K C) := by
  refine F.ok scAPath (fun vs H Q E h => ?_) (fun cdv A outer s0 H vs Q E hr h => ?_)
  · obtain ⟨a, t, z, ss, rfl, _⟩ := h
    rfl
  · obtain ⟨a, t, z, ss, rfl, ⟨dx, k, h1, h2, h3⟩, q⟩ := h
    exact ⟨_, pss_one (ps_ret (pe_fld (pv 0) rfl)), _, rfl, a, C, dx, _, _, rfl, h1, T.cl, T.nP, aF_path _ _ _, q⟩
abbrev AK := T3 Int Str (Tup Str)
def akOf (z : Str) (ss : List Str) : AK := ⟨(ss.length : Int), z, ⟨ss⟩⟩
theorem tv_dat {H : Hp} : ∀ ss : List Str, DpAll K H (tV ss) (ss.map Datum.toD)
  | [] => .nil
  | x :: r => .cons (.str x) (tv_dat r)
theorem ak_dp {H : Hp} {k t : Addr} {z : Str} {ss : List Str} (hk : SqT K H k [.int (ss.length : Int), .str z, .ref t]) (ht : SqT K H t (tV ss)) : Dp K H (.ref k) (Datum.toD (akOf z ss)) :=
  .tup hk (.cons (.int _) (.cons (.str _) (.cons (.tup ht (tv_dat ss)) .nil)))
/-- what isinstance asks of the class at C -/
structure AOwn (K : PySem.W.Frag) (C : Addr) : Prop where
  ic : PySem.W.isClsIn K C = true
  pg : PySem.W.plainGet K C "__class__" = true
  ca : PySem.W.findIn K (.ref C) "__class__" = some (some (.builtin "object.__class__"))
  cn : PySem.W.specialIn K (.builtin "object.__class__") "__get__" = some (some (.builtin "getset_descriptor.__get__"))
  ct : PySem.W.takesIn K (.builtin "object.__class__") = some true
  cm : PySem.W.mroIn K C (.type "object") = some true
  me : PySem.W.kitOne K (.ref C) (.ref C) = some true
def rIsI (C : Addr) : List V → Hp → VK → Prop := fun xs H Q => ∃ (a dx : Addr) (fs : List (Str × V)), xs = [.ref a, .ref C] ∧ H a = some (.ins C dx fs) ∧ Q (.bl true) H
theorem call_isI {X : Cx} {C : Addr} (W : AOwn X.K C) : CallR X (.builtin "isinstance") (rIsI C) := by
  intro pins s σ H xs us Q I r ⟨a, dx, fs, ex, ha, q⟩
  subst ex
  obtain ⟨u1, u2, rfl, r1, r2⟩ := r.two
  cases (show u1 = Value.ref a from r1)
  cases (show u2 = Value.ref C from r2)
  obtain ⟨_, J, _⟩ := ins_get I.hok ha
  obtain ⟨od, J, _⟩ := J.look
  exact kia_one (OwX.kitx_slt W.ic W.pg W.ca W.cn W.ct W.cm) I.kIn J W.me (fun z => nomatch z) fun tk => ⟨.bl true, H, I.tok _, rfl, q⟩
def spAEq (K : PySem.W.Frag) (C : Addr) : Sp := fun vs H Q _ => ∃ (a b t u : Addr) (z y : Str) (ss rs : List Str), vs = [.ref a, .ref b] ∧ AddrT K C H a t z ss ∧ AddrT K C H b u y rs ∧ Q (.bl (decide (akOf z ss = akOf y rs))) H
theorem scAEq : FnScope ["self", "other"] ["self", "other"] (defScope sAEq) := ⟨rfl, rfl, rfl, by decide +kernel, rfl, by decide +kernel, by decide +kernel⟩
theorem ok_aeq {f C : Addr} {fd : FuncData} (F : Fun K "__eq__" "Address.__eq__" sAEq f fd) (T : ATxt K mg C) (W : AOwn K C) (B : Blt mg) : FnOk P w K mg base CX0 1 f fd ["self", "other"] (spAEq K C) := by
  refine F.ok scAEq (fun vs H Q E h => ?_) (fun cdv A outer s0 H vs Q E hr h => ?_)
  · obtain ⟨a, b, t, u, z, y, ss, rs, rfl, _⟩ := h
    rfl
  · obtain ⟨a, b, t, u, z, y, ss, rs, rfl, ⟨dx, k, h1, h2, h3⟩, ⟨dy, l, g1, g2, g3⟩, q⟩ := h
    refine ⟨_, pss_cons (ps_if (pt_not (pt_val (pe_callB (call_isI W) (by rfl) B.isinstance_ (by decide +kernel) (pa_cons (pv 1) (pa_cons (pe_glob (v := .ref C) (by rfl) T.mgC rfl) pa_nil))))) (pss_one ps_never) pss_nil)
      (pss_one (ps_ret (pe_cmpR (opd_eq (α := AK) (room_all (k := 64) (by decide) hr.units)) (pe_fld (pv 0) rfl) (pe_fld (pv 1) rfl) (nomark _)))), ?_⟩
    refine ⟨_, rfl, b, dy, _, rfl, g1, _, rfl, iteF ?_⟩
    exact ⟨_, rfl, a, C, dx, _, _, rfl, h1, T.cl, T.nK, aF_key _ _ _, _, rfl, b, C, dy, _, _, rfl, g1, T.cl, T.nK, aF_key _ _ _, _, _, ak_dp h3 h2, ak_dp g3 g2, q⟩
end
end RL

namespace RL
open PySem L2 SX AddrMath VA
/-! ## a rule over an address -/
abbrev Bnd := Int → Option Str
/-- the holes, filled entry by entry -/
def mat : List PyData → List Str → Bnd → Option Bnd
  | [], _, f => some f
  | .int i :: es, z :: ss, f => match f i with
    | some y => if y = z then mat es ss f else none
    | none => mat es ss (fun j => if j = i then some z else f j)
  | .str y :: es, z :: ss, f => if y = z then mat es ss f else none
  | _, _, _ => none
def noBnd : Bnd := fun _ => none
def fitD (es : List PyData) (x : Bool) (ss : List Str) : Option Bnd :=
  if ss.length < es.length then none else if x = true ∧ ss.length ≠ es.length then none else mat es ss noBnd
def fillD (f : Bnd) : PyData → Str
  | .int i => (f i).getD Str.empty
  | .str z => z
  | _ => Str.empty
/-- the dict at d holds f -/
def HolesAt (H : Hp) (d : Addr) (f : Bnd) (n : Nat) : Prop := ∃ kvs : List (Key × V), H d = some (.dK kvs) ∧ (∀ i : Int, valV kvs (.inl i) = (f i).map V.str) ∧ kvs.length ≤ n
theorem HolesAt.same {H H' : Hp} {d : Addr} {f : Bnd} {n : Nat} (h : HolesAt H d f n) (s : Same H H') : HolesAt H' d f n := by
  obtain ⟨kvs, h1, h2, h3⟩ := h
  exact ⟨kvs, s _ _ h1, h2, h3⟩
theorem HolesAt.mono {H : Hp} {d : Addr} {f : Bnd} {n m : Nat} (h : HolesAt H d f n) (e : n ≤ m) : HolesAt H d f m := by
  obtain ⟨kvs, h1, h2, h3⟩ := h
  exact ⟨kvs, h1, h2, by omega⟩
theorem holes_nil (H : Hp) (d : Addr) : HolesAt (upd H d (.dK [])) d noBnd 0 := ⟨[], upd_same, fun _ => rfl, Nat.le_refl 0⟩
theorem putK_len (kvs : List (Key × V)) (k : Key) (v : V) : (putK kvs k v).length ≤ kvs.length + 1 := by
  unfold putK
  split
  · rw [List.length_map]
    omega
  · rw [List.length_append]
    exact Nat.le_refl _
theorem holes_put {H : Hp} {d : Addr} {f : Bnd} {n : Nat} {kvs : List (Key × V)} (h2 : ∀ i : Int, valV kvs (.inl i) = (f i).map V.str) (h3 : kvs.length ≤ n) (i : Int) (z : Str) :
    HolesAt (upd H d (.dK (putK kvs (.inl i) (.str z)))) d (fun j => if j = i then some z else f j) (n + 1) := by
  refine ⟨_, upd_same, fun j => ?_, ?_⟩
  · rw [valV_put]
    by_cases e : j = i
    · rw [if_pos (by rw [e])]
      show _ = Option.map V.str (if j = i then some z else f j)
      rw [if_pos e]
      rfl
    · rw [if_neg (fun z => e (by injection z))]
      show _ = Option.map V.str (if j = i then some z else f j)
      rw [if_neg e]
      exact h2 j
  · have := putK_len kvs (.inl i) (.str z)
    omega
theorem bnd_put {f : Bnd} {i : Int} {z : Str} (h : f i = some z) : (fun j => if j = i then some z else f j) = f := by
  funext j
  by_cases e : j = i
  · rw [if_pos e, e, h]
  · rw [if_neg e]
theorem mat_int {i : Int} {es : List PyData} {z : Str} {ss : List Str} {f : Bnd} : mat (.int i :: es) (z :: ss) f = match f i with
    | some y => if y = z then mat es ss f else none
    | none => mat es ss (fun j => if j = i then some z else f j) := by rw [mat]
theorem mat_str {y : Str} {es : List PyData} {z : Str} {ss : List Str} {f : Bnd} : mat (.str y :: es) (z :: ss) f = if y = z then mat es ss f else none := by rw [mat]
theorem mat_nil {ss : List Str} {f : Bnd} : mat [] ss f = some f := by rw [mat]
theorem ent_cases {e : PyData} (h : isEntD e = true) : (∃ i, e = .int i) ∨ ∃ z, e = .str z ∧ wrd z = true := by
  cases e with
  | int i => exact .inl ⟨i, rfl⟩
  | str z =>
    have h' : (isW z.cps.toList || false) = true := h
    rw [Bool.or_false] at h'
    exact .inr ⟨z, rfl, h'⟩
  | _ => cases h
/-- what is bound stays -/
theorem mat_keeps : ∀ {es : List PyData} {ss : List Str} {f g : Bnd}, mat es ss f = some g → ∀ i z, f i = some z → g i = some z
  | [], ss, f, g, h, i, z, e => by
    rw [mat_nil] at h
    cases h
    exact e
  | .int k :: es, y :: ss, f, g, h, i, z, e => by
    rw [mat_int] at h
    cases c : f k with
    | some u =>
      rw [c] at h
      by_cases q : u = y
      · have h' : (if u = y then mat es ss f else none) = some g := h
        rw [if_pos q] at h'
        exact mat_keeps h' i z e
      · have h' : (if u = y then mat es ss f else none) = some g := h
        rw [if_neg q] at h'
        cases h'
    | none =>
      rw [c] at h
      refine mat_keeps (f := fun j => if j = k then some y else f j) h i z ?_
      by_cases q : i = k
      · rw [q, c] at e
        cases e
      · show (if i = k then some y else f i) = some z
        rw [if_neg q]
        exact e
  | .str u :: es, y :: ss, f, g, h, i, z, e => by
    rw [mat_str] at h
    by_cases q : u = y
    · rw [if_pos q] at h
      exact mat_keeps h i z e
    · rw [if_neg q] at h
      cases h
  | .int _ :: _, [], f, g, h, i, z, e => by simp [mat] at h
  | .str _ :: _, [], f, g, h, i, z, e => by simp [mat] at h
  | .none :: _, _, f, g, h, i, z, e => by simp [mat] at h
  | .bool _ :: _, _, f, g, h, i, z, e => by simp [mat] at h
  | .list _ :: _, _, f, g, h, i, z, e => by simp [mat] at h
  | .tuple _ :: _, _, f, g, h, i, z, e => by simp [mat] at h
  | .dict _ :: _, _, f, g, h, i, z, e => by simp [mat] at h
theorem mat_bound : ∀ {es : List PyData} {ss : List Str} {f g : Bnd}, mat es ss f = some g → ∀ i, PyData.int i ∈ es → ∃ z, g i = some z
  | [], _, _, _, _, _, m => absurd m List.not_mem_nil
  | .int k :: es, y :: ss, f, g, h, i, m => by
    rw [mat_int] at h
    cases c : f k with
    | some u =>
      rw [c] at h
      have h' : (if u = y then mat es ss f else none) = some g := h
      by_cases q : u = y
      · rw [if_pos q] at h'
        rcases List.mem_cons.mp m with e | m
        · cases e
          exact ⟨_, mat_keeps h' _ _ c⟩
        · exact mat_bound h' i m
      · rw [if_neg q] at h'
        cases h'
    | none =>
      rw [c] at h
      have h' : mat es ss (fun j => if j = k then some y else f j) = some g := h
      rcases List.mem_cons.mp m with e | m
      · cases e
        exact ⟨y, mat_keeps h' _ y (if_pos rfl)⟩
      · exact mat_bound h' i m
  | .str u :: es, y :: ss, f, g, h, i, m => by
    rw [mat_str] at h
    by_cases q : u = y
    · rw [if_pos q] at h
      rcases List.mem_cons.mp m with e | m
      · cases e
      · exact mat_bound h i m
    · rw [if_neg q] at h
      cases h
  | .int _ :: _, [], f, g, h, i, _ => by simp [mat] at h
  | .str _ :: _, [], f, g, h, i, _ => by simp [mat] at h
  | .none :: _, _, f, g, h, i, _ => by simp [mat] at h
  | .bool _ :: _, _, f, g, h, i, _ => by simp [mat] at h
  | .list _ :: _, _, f, g, h, i, _ => by simp [mat] at h
  | .tuple _ :: _, _, f, g, h, i, _ => by simp [mat] at h
  | .dict _ :: _, _, f, g, h, i, _ => by simp [mat] at h
theorem mat_words : ∀ {es : List PyData} {ss : List Str} {f g : Bnd}, ss.all wrd = true → (∀ i z, f i = some z → wrd z = true) → mat es ss f = some g → ∀ i z, g i = some z → wrd z = true
  | [], _, f, g, _, hf, h, i, z, e => by
    rw [mat_nil] at h
    cases h
    exact hf i z e
  | .int k :: es, y :: ss, f, g, hs, hf, h, i, z, e => by
    rw [List.all_cons, Bool.and_eq_true] at hs
    rw [mat_int] at h
    cases c : f k with
    | some u =>
      rw [c] at h
      have h' : (if u = y then mat es ss f else none) = some g := h
      by_cases q : u = y
      · rw [if_pos q] at h'
        exact mat_words hs.2 hf h' i z e
      · rw [if_neg q] at h'
        cases h'
    | none =>
      rw [c] at h
      have h' : mat es ss (fun j => if j = k then some y else f j) = some g := h
      refine mat_words hs.2 (fun j x hj => ?_) h' i z e
      by_cases q : j = k
      · have hj' : (if j = k then some y else f j) = some x := hj
        rw [if_pos q] at hj'
        cases hj'
        exact hs.1
      · have hj' : (if j = k then some y else f j) = some x := hj
        rw [if_neg q] at hj'
        exact hf j x hj'
  | .str u :: es, y :: ss, f, g, hs, hf, h, i, z, e => by
    rw [List.all_cons, Bool.and_eq_true] at hs
    rw [mat_str] at h
    by_cases q : u = y
    · rw [if_pos q] at h
      exact mat_words hs.2 hf h i z e
    · rw [if_neg q] at h
      cases h
  | .int _ :: _, [], f, g, _, _, h, i, z, e => by simp [mat] at h
  | .str _ :: _, [], f, g, _, _, h, i, z, e => by simp [mat] at h
  | .none :: _, _, f, g, _, _, h, i, z, e => by simp [mat] at h
  | .bool _ :: _, _, f, g, _, _, h, i, z, e => by simp [mat] at h
  | .list _ :: _, _, f, g, _, _, h, i, z, e => by simp [mat] at h
  | .tuple _ :: _, _, f, g, _, _, h, i, z, e => by simp [mat] at h
  | .dict _ :: _, _, f, g, _, _, h, i, z, e => by simp [mat] at h
theorem take_drop_cons {α : Type} {xs : List α} {i : Nat} {x : α} (h : xs[i]? = some x) : xs.drop i = x :: xs.drop (i + 1) := by
  obtain ⟨hi, e⟩ := List.getElem?_eq_some_iff.mp h
  rw [List.drop_eq_getElem_cons hi, e]
section
variable {K : PySem.W.Frag}
/-- a walk over two tuples -/
theorem walk_two {a b : Addr} {xs ys : List V} {n : Nat} (hn : n = min xs.length ys.length) : Walk (RZ.ItzT K a b) n (fun H => SqT K H a xs ∧ SqT K H b ys) (YPair (fun i => xs[i]?) (fun i => ys[i]?)) where
  goes i H hi g := by
    have h1 : i < xs.length := by omega
    have h2 : i < ys.length := by omega
    exact ⟨xs, ys, xs[i], ys[i], g.1, g.2, List.getElem?_eq_getElem h1, List.getElem?_eq_getElem h2⟩
  stops H g := ⟨xs, ys, g.1, g.2, by omega⟩
  yields i H x H' hi g y := by
    obtain ⟨T, u, v, e1, e2, e3, e4, e5⟩ := y
    exact ⟨T, u, v, e1, e2, e3, e4 xs g.1, e5 ys g.2⟩
variable {P : Program} {w : World} {mg : Str → Option Value} {base : Heap}
/-! ### getters of a rule -/
def spGet (C : Addr) (n : Str) : Sp := fun vs H Q _ => ∃ (p dx : Addr) (fs : List (Str × V)) (v : V), vs = [.ref p] ∧ H p = some (.ins C dx fs) ∧ fs.lookup n = some v ∧ Q v H
abbrev sRState : Stmt := inClass (top 43) 1
abbrev sRPattern : Stmt := inClass (top 43) 2
abbrev sRGoal : Stmt := inClass (top 43) 3
abbrev sRExact : Stmt := inClass (top 43) 4
abbrev sRFits : Stmt := inClass (top 43) 6
abbrev sRCall : Stmt := inClass (top 43) 7
abbrev sMatched : Stmt := top 34
abbrev sSent : Stmt := top 35
abbrev sFitsAddress : Stmt := top 36
abbrev sSentAddress : Stmt := top 37
theorem scRState : FnScope ["self"] ["self"] (defScope sRState) := ⟨rfl, rfl, rfl, by decide +kernel, rfl, by decide +kernel, by decide +kernel⟩
theorem scRPattern : FnScope ["self"] ["self"] (defScope sRPattern) := ⟨rfl, rfl, rfl, by decide +kernel, rfl, by decide +kernel, by decide +kernel⟩
theorem scRGoal : FnScope ["self"] ["self"] (defScope sRGoal) := ⟨rfl, rfl, rfl, by decide +kernel, rfl, by decide +kernel, by decide +kernel⟩
theorem scRExact : FnScope ["self"] ["self"] (defScope sRExact) := ⟨rfl, rfl, rfl, by decide +kernel, rfl, by decide +kernel, by decide +kernel⟩
theorem ok_rstate {f C : Addr} {fd : FuncData} (F : Fun K "state" "Rule.state" sRState f fd) (T : RTxt K mg C) : FnOk P w K mg base CX0 1 f fd ["self"] (spGet C nState) := by
  refine F.ok scRState (fun vs H Q E h => ?_) (fun cdv A outer s0 H vs Q E hr h => ?_)
  · obtain ⟨p, dx, fs, v, rfl, _⟩ := h
    rfl
  · obtain ⟨p, dx, fs, v, rfl, hp, l, q⟩ := h
    exact ⟨_, pss_one (ps_ret (pe_fld (pv 0) rfl)), _, rfl, p, C, dx, fs, v, rfl, hp, T.cl, T.nS, l, q⟩
theorem ok_rpattern {f C : Addr} {fd : FuncData} (F : Fun K "pattern" "Rule.pattern" sRPattern f fd) (T : RTxt K mg C) : FnOk P w K mg base CX0 1 f fd ["self"] (spGet C nPattern) := by
  refine F.ok scRPattern (fun vs H Q E h => ?_) (fun cdv A outer s0 H vs Q E hr h => ?_)
  · obtain ⟨p, dx, fs, v, rfl, _⟩ := h
    rfl
  · obtain ⟨p, dx, fs, v, rfl, hp, l, q⟩ := h
    exact ⟨_, pss_one (ps_ret (pe_fld (pv 0) rfl)), _, rfl, p, C, dx, fs, v, rfl, hp, T.cl, T.nP, l, q⟩
theorem ok_rgoal {f C : Addr} {fd : FuncData} (F : Fun K "goal" "Rule.goal" sRGoal f fd) (T : RTxt K mg C) : FnOk P w K mg base CX0 1 f fd ["self"] (spGet C nGoal) := by
  refine F.ok scRGoal (fun vs H Q E h => ?_) (fun cdv A outer s0 H vs Q E hr h => ?_)
  · obtain ⟨p, dx, fs, v, rfl, _⟩ := h
    rfl
  · obtain ⟨p, dx, fs, v, rfl, hp, l, q⟩ := h
    exact ⟨_, pss_one (ps_ret (pe_fld (pv 0) rfl)), _, rfl, p, C, dx, fs, v, rfl, hp, T.cl, T.nG, l, q⟩
theorem ok_rexact {f C : Addr} {fd : FuncData} (F : Fun K "is_exact" "Rule.is_exact" sRExact f fd) (T : RTxt K mg C) : FnOk P w K mg base CX0 1 f fd ["self"] (spGet C nExact) := by
  refine F.ok scRExact (fun vs H Q E h => ?_) (fun cdv A outer s0 H vs Q E hr h => ?_)
  · obtain ⟨p, dx, fs, v, rfl, _⟩ := h
    rfl
  · obtain ⟨p, dx, fs, v, rfl, hp, l, q⟩ := h
    exact ⟨_, pss_one (ps_ret (pe_fld (pv 0) rfl)), _, rfl, p, C, dx, fs, v, rfl, hp, T.cl, T.nE, l, q⟩
/-- a getter of the class at C -/
structure OwnP (P : Program) (w : World) (K : PySem.W.Frag) (mg : Str → Option Value) (base : Heap) (C : Addr) (n : Str) (sp : Sp) where
  p : Addr
  g : Addr
  fd : FuncData
  prop : PropOf K C n p g
  ok : FnOk P w K mg base CX0 1 g fd ["self"] sp
  b : Binds K fd ["self"] []
/-! ### matched: slots pattern 0, is_exact 1, signs 2, is_end 3, holes 4, entry 5, sign 6, wanted 7 -/
theorem scMatched : FnScope ["pattern", "is_exact", "signs", "is_end", "holes", "entry", "sign", "wanted"] ["pattern", "is_exact", "signs", "is_end"] (defScope sMatched) := ⟨rfl, rfl, rfl, by decide +kernel, rfl, by decide +kernel, by decide +kernel⟩
def spMatched (K : PySem.W.Frag) : Sp := fun vs H Q _ => ∃ (tP t : Addr) (es : List PyData) (x : Bool) (ss : List Str), vs = [.ref tP, .bl x, .ref t, .bl true] ∧ SqT K H tP (es.map entV) ∧ es.all isEntD = true ∧ es.length ≤ 2 ∧ SqT K H t (tV ss) ∧
  (fitD es x ss = none → ∀ H', Same H H' → Q .non H') ∧ (∀ f, fitD es x ss = some f → ∀ d H', Same H H' → H d = none → HolesAt H' d f 5 → Q (.ref d) H')
/-- is_exact and not (is_end and len(signs) == len(pattern)) -/
def tOff (K : PySem.W.Frag) : TT := fun σ H R => ∃ (x : Bool) (t tP : Addr) (xs ys : List V), σ[1]? = some (some (.bl x)) ∧ σ[2]? = some (some (.ref t)) ∧ σ[3]? = some (some (.bl true)) ∧ σ[0]? = some (some (.ref tP)) ∧
  SqT K H t xs ∧ SqT K H tP ys ∧ R (x && decide (xs.length ≠ ys.length)) H
abbrev rLenV (K : PySem.W.Frag) : List V → Hp → VK → Prop := fun xs H Q => ∃ x n, xs = [x] ∧ LenV K x H n ∧ Q (.int (n : Int)) H
theorem off_does {σ : L2.St} {H : Hp} {R : Bool → Hp → Prop} (h : tOff K σ H R) : tAnd (tB (tVar 1)) (tNot (tAnd (tB (tVar 3)) (tTest (tOp rEq (tCB (rLenV K) (tCons (tVar 2) tNil)) (tCB (rLenV K) (tCons (tVar 0) tNil)))))) σ H R := by
  obtain ⟨x, t, tP, xs, ys, e1, e2, e3, e0, hx, hy, r⟩ := h
  refine ⟨_, e1, _, rfl, ?_⟩
  refine if_is (fun ex => ⟨_, e3, _, rfl, iteT ⟨_, e2, _, xs.length, rfl, .inr ⟨_, hx, rfl⟩, _, e0, _, ys.length, rfl, .inr ⟨_, hy, rfl⟩, rfl, _, rfl, ?_⟩⟩) (fun ex => ?_)
  · rw [ex] at r
    have : (true && decide (xs.length ≠ ys.length)) = !decide (V.int (xs.length : Int) = V.int (ys.length : Int)) := by
      by_cases e : xs.length = ys.length
      · simp [e]
      · have : ¬ ((xs.length : Int) = (ys.length : Int)) := by omega
        simp [e, this]
    rw [this] at r
    exact r
  · rw [ex] at r
    exact r
theorem ok_matched {f : Addr} {fd : FuncData} (F : Fun K "matched" "matched" sMatched f fd) (B : Blt mg) : FnOk P w K mg base CX0 1 f fd ["pattern", "is_exact", "signs", "is_end"] (spMatched K) := by
  refine F.ok scMatched (fun vs H Q E h => ?_) (fun cdv A outer s0 H vs Q E hr h => ?_)
  · obtain ⟨tP, t, es, x, ss, rfl, _⟩ := h
    rfl
  · obtain ⟨tP, t, es, x, ss, rfl, hP, hE, h2, ht, q0, q1⟩ := h
    refine ⟨_, (pss_cons (ps_if (pt_cmpR op_lt (pe_callB call_len (by rfl) B.len_ (by decide +kernel) (pa_cons (pv 2) pa_nil)) (pe_callB call_len (by rfl) B.len_ (by decide +kernel) (pa_cons (pv 0) pa_nil)) (nomark _)) (pss_one (ps_ret pe_non)) pss_nil)
      (pss_cons (ps_if (pt_by (tOff K) (PW.pt (pw_and (pt_val (pv 1)) (pw_and1 (pt_not (PW.pt (pw_and (pt_val (pv 3)) (pw_and1 (pt_cmpR op_eq (pe_callB call_len (by rfl) B.len_ (by decide +kernel) (pa_cons (pv 2) pa_nil)) (pe_callB call_len (by rfl) B.len_ (by decide +kernel) (pa_cons (pv 0) pa_nil)) (nomark _))))))))) (fun _ _ _ h => off_does h)) (pss_one (ps_ret pe_non)) pss_nil)
      (pss_cons (ps_set (i := 4) scMatched.nd rfl (Or.inl rfl) pe_dnewK)
      (pss_cons (ps_for PassesOwn.never rfl (RZ.pi_zipA (by rfl) B.zip_ (pa_cons (pv 0) (pa_cons (pv 2) pa_nil))) (pg_tup rfl (pgs_cons (pg_name (i := 5) scMatched.nd rfl (Or.inl rfl)) (pgs_cons (pg_name (i := 6) scMatched.nd rfl (Or.inl rfl)) pgs_nil)))
        (pss_cons (ps_set (i := 7) scMatched.nd rfl (Or.inl rfl) (pe_ifExp (pt_val (pe_callB call_isi (by rfl) B.isinstance_ (by decide +kernel) (pa_cons (pv 5) (pa_cons (pe_bltn (v := .ty "str") (by rfl) B.str_ (by decide +kernel) rfl) pa_nil)))) (pv 5) (pe_dsetd (pv 4) (pv 5) (pv 6) ⟨rfl, rfl, rfl, rfl⟩)))
        (pss_one (ps_if (pt_cmpR op_ne (pv 7) (pv 6) (nomark _)) (pss_one (ps_ret pe_non)) pss_nil))))
      (pss_one (ps_ret (pv 4))))))), ?_⟩
    refine ⟨_, rfl, _, (tV ss).length, rfl, .inr ⟨_, ht, rfl⟩, _, rfl, _, (es.map entV).length, rfl, .inr ⟨_, hP, rfl⟩, _, _, rfl, rfl, _, rfl, ?_⟩
    have l1 : (tV ss).length = ss.length := List.length_map ..
    have l2 : (es.map entV).length = es.length := List.length_map ..
    refine if_is (fun c => ?_) (fun c => ?_)
    · have c' := of_decide_eq_true c
      exact q0 (by unfold fitD; rw [if_pos (by omega)]) H (Same.refl H)
    have c' := of_decide_eq_false c
    have hle : es.length ≤ ss.length := by omega
    refine ⟨x, t, tP, _, _, rfl, rfl, rfl, rfl, ht, hP, ?_⟩
    refine if_is (fun ex => ?_) (fun ex => ?_)
    · rw [Bool.and_eq_true, decide_eq_true_eq, l1, l2] at ex
      exact q0 (by unfold fitD; rw [if_neg (by omega), if_pos ex]) H (Same.refl H)
    have ex' : ¬ (x = true ∧ ss.length ≠ es.length) := fun z => by
      rw [← l1, ← l2, ← decide_eq_true_eq (p := _ ≠ _), ← Bool.and_eq_true, ex] at z
      cases z
    have fd : fitD es x ss = mat es ss noBnd := by unfold fitD; rw [if_neg (by omega), if_neg ex']
    rw [fd] at q0 q1
    intro d nd
    have h0 := holes_nil H d
    have s0 : Same H (upd H d (.dK [])) := same_new nd
    generalize upd H d (.dK []) = H0 at h0 s0 ⊢
    refine ⟨_, rfl, _, rfl, tP, t, _, _, rfl, .inr ⟨same_seqT s0 hP, same_seqT s0 ht, ?_⟩⟩
    refine for_it (walk_two (xs := es.map entV) (ys := tV ss) rfl) (fun i σ G => ∃ (o5 o6 o7 : Option V) (g : Bnd), σ = [some (.ref tP), some (.bl x), some (.ref t), some (.bl true), some (.ref d), o5, o6, o7] ∧ Same H G ∧ HolesAt G d g i ∧ mat (es.drop i) (ss.drop i) g = mat es ss noBnd) ⟨none, none, none, noBnd, rfl, s0, h0, rfl⟩ ?_ ?_ ?_
    · rintro i σ G hi ⟨_, _, _, _, _, sG, _⟩
      exact ⟨same_seqT sG hP, same_seqT sG ht⟩
    · rintro i v σ G G' hi ⟨o5, o6, o7, g, rfl, sG, hd, hm⟩ ⟨T, u, y, rfl, nT, rfl, e1, e2⟩
      have sT : Same G (upd G T (.tup [u, y])) := same_new nT
      have hT : (upd G T (.tup [u, y])) T = some (.tup [u, y]) := upd_same
      refine ⟨T, _, rfl, .inl (.inl hT), rfl, ?_⟩
      have sG1 := sG.trans sT
      have hd1 := hd.same sT
      generalize upd G T (.tup [u, y]) = G1 at sT hT sG1 hd1 ⊢
      replace e1 : (es.map entV)[i]? = some u := e1
      replace e2 : (tV ss)[i]? = some y := e2
      rw [List.getElem?_map, Option.map_eq_some_iff] at e1 e2
      obtain ⟨e, he, rfl⟩ := e1
      obtain ⟨y', hy, rfl⟩ := e2
      rw [take_drop_cons he, take_drop_cons hy] at hm
      have hEe : isEntD e = true := List.all_eq_true.mp hE e (List.mem_of_getElem? he)
      have few : i < 2 := by
        have := (List.getElem?_eq_some_iff.mp he).1
        omega
      have vx : Vx K G1 (entV e) e := .inl ⟨ent_dp hEe, ok_mono (by decide) (ent_ok7 hEe)⟩
      have hq : ∀ G', Same G1 G' → mat es ss noBnd = none → Q .non G' := fun G' s z => q0 z G' (sG1.trans s)
      refine ⟨_, _, rfl, _, _, rfl, rfl, _, rfl, _, _, _, _, isStrD e, rfl, .ty "str", vx.ty, kitStr e, _, rfl, ?_⟩
      rcases ent_cases hEe with ⟨k, rfl⟩ | ⟨x', rfl, _⟩
      · rw [mat_int] at hm
        obtain ⟨kvs, h1, h2', h3⟩ := hd1
        refine iteF ⟨_, rfl, d, rfl, .inl ⟨kvs, .inl h1⟩, _, rfl, _, rfl, kvs, .inl k, h1, rfl, Nat.lt_of_lt_of_le (m := 3) (by omega) (by show 3 ≤ sizeLine; decide), fun v hv => ?_, fun hn => ?_⟩
        · rw [h2' k, Option.map_eq_some_iff] at hv
          obtain ⟨yy, hg, rfl⟩ := hv
          rw [hg] at hm
          have hm' : (if yy = y' then mat (es.drop (i + 1)) (ss.drop (i + 1)) g else none) = mat es ss noBnd := hm
          refine ⟨_, rfl, _, rfl, rfl, _, rfl, if_is (fun c => ?_) (fun c => ?_)⟩
          · have : ¬ yy = y' := fun z => by rw [z] at c; simp at c
            rw [if_neg this] at hm'
            exact hq G1 (Same.refl G1) hm'.symm
          · have : yy = y' := by
              by_cases z : yy = y'
              · exact z
              · simp [z] at c
            rw [if_pos this] at hm'
            exact ⟨_, _, _, g, rfl, sG1, ⟨kvs, h1, h2', by omega⟩, hm'⟩
        · have hg : g k = none := by
            rw [h2' k] at hn
            exact Option.map_eq_none_iff.mp hn
          rw [hg] at hm
          refine ⟨_, rfl, _, rfl, rfl, _, rfl, ?_⟩
          rw [decide_eq_true rfl]
          exact iteF ⟨_, _, _, _, rfl, fun b o eb => by rw [upd_ne (ne_of_none eb nd)]; exact sG1 b o eb, holes_put h2' h3 k y', hm⟩
      · rw [mat_str] at hm
        refine iteT ⟨_, rfl, _, rfl, _, rfl, rfl, _, rfl, if_is (fun c => ?_) (fun c => ?_)⟩
        · have : ¬ x' = y' := fun z => by rw [z] at c; simp [entV] at c
          rw [if_neg this] at hm
          exact hq G1 (Same.refl G1) hm.symm
        · have : x' = y' := by
            by_cases z : x' = y'
            · exact z
            · simp [entV, z] at c
          rw [if_pos this] at hm
          exact ⟨_, _, _, g, rfl, sG1, hd1.mono (by omega), hm⟩
    · rintro σ G ⟨o5, o6, o7, g, rfl, sG, hd, hm⟩
      have hn : min (es.map entV).length (tV ss).length = es.length := by omega
      rw [hn, List.drop_length, mat_nil] at hm
      exact ⟨_, rfl, q1 g hm.symm d G sG nd (hd.mono (by omega))⟩
end
end RL

/-! A def that gives NotImplemented (an own == beside a value of another kind). -/
namespace NI
open PySem PySem.W PySem.Spec PySem.Calls PyProof.Rows L2 SX GR
section
variable {pr : Program} {wo : World} {F : PySem.W.Frag} {gl : Str → Option Value} {b0 : Heap}
/-- what a call that gives NotImplemented and changes nothing leaves -/
def Left (fs : List Env) (pr : Program) (wo : World) (H : Hp) (s : Shared) : Result → Shared → Prop := fun r s' => r = .ok (.ret .notImplemented) ∧ CE fs pr wo H s (fun v H' => v = .non ∧ H' = H) .none s'
theorem ni_body {X : Cx} {c : Expr} {p1 p2 p3 : Pos} {body rest : List Stmt} {t : TT} {σ : L2.St} {H : Hp} {s1 : Shared} (bd : body = .If c [.Return (some (.Name "NotImplemented" p1)) p2] [] p3 :: rest) (gn : Gl X "NotImplemented") (gm : X.mg "NotImplemented" = none)
    (reads : PT X c t) (I : L2.Inv X [] σ H s1) (does : t σ H (fun b H' => b = true ∧ H' = H)) :
    wpAny (model X.prog X.w) X.A (execs body X.env) (fun fl s' => fl = .ret .notImplemented ∧ L2.Inv X [] σ H s') X.xe s1 := by
  subst bd
  refine wpAny_execs_cons (wpAny_If (thn (reads.run [] s1 σ H (fun b H' => b = true ∧ H' = H) I does) ?_))
  rintro b s2 ⟨H2, J, rfl, rfl⟩
  rw [if_pos rfl]
  refine wpAny_execs_cons (wpAny_Return_some ?_)
  exact ld_blt J gn gm rfl ⟨rfl, J⟩
theorem ni_fn {x qual : Str} {st : Stmt} {at_ : Addr} {fd : FuncData} {N names : List Str} {n : Nat} {c : Expr} {p1 p2 p3 : Pos} {rest : List Stmt} {vs : List V} {H : Hp} (D : Fun F x qual st at_ fd) (S : FnScope N names (defScope st))
    (bd : defBody st = .If c [.Return (some (.Name "NotImplemented" p1)) p2] [] p3 :: rest) (many : vs.length = names.length)
    (gn : ∀ (cd : Value) (Ar : Around) (fs : List Env) (s : Shared), Gl (cxOf CX0 pr wo F gl b0 N qual (defScope st) at_ cd Ar fs s H E0) "NotImplemented") (gm : gl "NotImplemented" = none)
    (test : ∀ (cd : Value) (Ar : Around) (fs : List Env) (s : Shared), Room n (Ar.deeper (envOfC qual (defScope st) s.heap.objs.size at_ cd)) →
      ∃ t, PT (cxOf CX0 pr wo F gl b0 N qual (defScope st) at_ cd Ar fs s H E0).nox c t ∧ t (start N vs) H (fun b H' => b = true ∧ H' = H))
    (Ar : Around) (fs : List Env) (s : Shared) (gs : Args) (us : List Value) (room : Room (n + 1) Ar) (e0 : Env0 pr wo F gl b0 Ar fs s H) (binds : BindsTo s fd gs (names.zip us)) (rel : Vals vs us) :
    codeAny (model pr wo) Ar (.call (.ref at_) gs) (Left fs pr wo H s) s := by
  obtain ⟨oc, od, kV, doc, pm, an, cd, ct, osl, rfl, here, code⟩ := D.ex
  have FX : F.In s.heap := e0.mod.kin.keeps (fun b o e => (e0.bs b o e).1)
  have lim : s.heap.NoLimit := e0.mod.nolimit.keeps (fun b o e => (e0.bs b o e).1)
  refine codeAny_call_function room.depth (FX _ _ here) rfl S.co S.gen rfl (PySem.W.codeRec_of FX code) (binds _ _ _ _ ?_)
  refine wpAny_newFunctionEnv_cells S.kind ?_ (fun en en_is s1 inside => ?_)
  · rintro ⟨nm, v⟩ mem
    rcases S.par nm (List.of_mem_zip mem).1 with q | q
    · exact Or.inl q
    · exact Or.inr ⟨q, PySem.W.cellsFrom_some _ _ _ (Or.inl q)⟩
  subst en_is
  refine ⟨lim.keeps inside.toInCall.keep, codeAny_func ?_⟩
  obtain ⟨t, reads, does⟩ := test cd Ar fs s (room.deeper _)
  have I0 := inv_start (CX := CX0) (E := E0) S room.hd e0 many rel inside
  refine wpAny_mono (ni_body bd (gn cd Ar fs s) gm reads.nox I0 does) ?_ (fun _ _ h => wpAny_mono h (fun _ _ z => (show False from z).elim) (fun _ _ z => (show False from z).elim))
  rintro fl s' ⟨rfl, J⟩
  exact ⟨rfl, V.non, H, J.os, J.bare, J.base, J.hok, rfl, rfl, rfl⟩
end
end NI

namespace NI
open PySem PySem.W PySem.Spec PySem.Calls PyProof.Rows L2 SX GR
section
variable {X : Cx}
/-- a def that gives NotImplemented for these values -/
structure Decl (X : Cx) (n : Nat) (f : Addr) (Pd : List V → Hp → Prop) : Prop where
  runs : ∀ (Ar : Around) (fs : List Env) (s : Shared) (H : Hp) (us : List Value) (vs : List V), Pd vs H → Room n Ar → Env0 X.prog X.w X.K X.mg X.base Ar fs s H → Vals vs us → codeAny (model X.prog X.w) Ar (.call (.ref f) ⟨us, []⟩) (Left fs X.prog X.w H s) s
/-- x == y, x an instance whose own == gives NotImplemented, y a text -/
theorem own_eqS {C f : Addr} {n : Nat} {Pd : List V → Hp → Prop} (at_ : findIn X.K (.ref C) "__eq__" = some (some (.ref f))) (isF : isFn X.K (.ref f) = true) (nf : subIn X.K (.type "str") (.ref C) = some false) (D : Decl X n f Pd) (room : Room n X.A) :
    OpR X (compareOp .Eq) (fun x y H Q => ∃ a dx fs z, x = .ref a ∧ y = .str z ∧ H a = some (.ins C dx fs) ∧ Pd [x, y] H ∧ Q (.bl false) H) := by
  intro pins s σ H x y v u Q I rx ry ⟨a, dx, fs, z, ex, ey, ha, hp, q⟩
  subst ex; subst ey
  cases (show v = Value.ref a from rx)
  obtain ⟨t, rfl⟩ : ∃ t, u = Value.str z t := ry
  obtain ⟨_, J, _⟩ := ins_get I.hok ha
  obtain ⟨od, J, _⟩ := J.look
  have inK : X.K.In s.heap := I.kIn
  have go : wpAny (model X.prog X.w) X.A (call (.ref f) [.ref a, .str z t]) (fun r s' => r = .notImplemented ∧ L2.Inv X pins σ H s') X.xe s := by
    refine wpAny_call (codeAny_mono (D.runs X.A X.stack s H [.ref a, .str z t] [.ref a, .str z] hp room I.env0 (.cons rfl (.cons ⟨t, rfl⟩ .nil))) ?_)
    rintro r s' ⟨rfl, ce⟩
    obtain ⟨z', H', I', rz, ez, eh⟩ := I.after ce
    subst eh
    exact ⟨rfl, I'⟩
  show wpAny _ _ (richCompare .Eq (.ref a) (.str z t)) _ _ _
  unfold richCompare
  have no : oneThing? CmpOp.Eq (.ref a) (.str z t) = none := rfl
  simp only [no]
  refine wpAny_holding (wpAny_bind (wpAny_cRoomFor room.units0 ?_))
  refine wpAny_bind (J.type.here ?_)
  refine wpAny_bind (wpAny_pure ?_)
  rw [show (Value.ref C != Value.type "str") = true from rfl]
  simp only [if_true]
  refine wpAny_bind ((looks_subIn inK nf).here ?_)
  simp only [Bool.false_eq_true, if_false]
  have one : wpAny (model X.prog X.w) X.A (tryCompare (.ref a) "__eq__" (.str z t)) (fun r s' => r = none ∧ L2.Inv X pins σ H s') X.xe s := by
    unfold tryCompare
    refine wpAny_bind (ifBound_K inK J at_ isF (wpAny_mono go ?_ fun _ _ e => e))
    rintro r s' ⟨rfl, hI⟩
    exact wpAny_pure ⟨rfl, hI⟩
  refine wpAny_bind (wpAny_mono one ?_ fun _ _ e => e)
  rintro r s1 ⟨rfl, I1⟩
  simp only [Bool.not_false, if_true]
  obtain ⟨_, J1, _⟩ := ins_get I1.hok ha
  obtain ⟨od1, J1, _⟩ := J1.look
  have two : wpAny (model X.prog X.w) X.A (tryCompare (.str z t) "__eq__" (.ref a)) (fun r s' => r = none ∧ L2.Inv X pins σ H s') X.xe s1 := by
    refine wpAny_tryCompare_declines (T := "str") (id := "str.__eq__") ?_ PySem.F.slot_str_eq ?_
    · rfl
    · refine wpAny_call (codeAny_call_builtin PySem.F.slot_str_eq.plain PySem.F.entry_str_eq (PySem.F.slot_str_eq.check _ _ _ _ _ _ _ _ ?_ (PySem.F.args_str_eq_2 _ _) ?_))
      · rfl
      · have at1 : s1.heap.get? a = some (W.instObj C dx) := J1.at_
        have done : ∀ s', s' = s1 → L2.Inv X pins σ H s' := fun s' e => by rw [e]; exact I1
        unfold Builtin.«str.__eq__» Builtin.Str.strCompare Builtin.Str.strSlot
        repeat (first | exact ⟨rfl, rfl, I1⟩ | refine wpAny_bind (wpAny_load at1 ?_) | wp_step)
  refine wpAny_bind (wpAny_mono two ?_ fun _ _ e => e)
  rintro r s2 ⟨rfl, I2⟩
  have fin : EP X pins σ Q (.bool false) s2 := ⟨.bl false, H, I2, rfl, q⟩
  show wpAny _ _ (do
      rule "compare.eq-identity"
      let same ← isSame (.ref a) (.str z t)
      pure (Value.bool same)) _ _ _
  repeat (first | exact fin | exact wpAny_pure fin | refine wpAny_bind (wpAny_isSame_plain (by rfl) ?_) | wp_step)
theorem tup_head (x y : Value) : ∃ k, Builtin.«tuple.__eq__» ⟨[x, y], []⟩ = (do
    let b ← isInstance y (.type "tuple")
    if (!b) = true then ret .notImplemented else k) := ⟨_, rfl⟩
theorem tup_at {H : Hp} {s : Shared} {pins : List (Addr × Obj)} {σ : L2.St} {b : Addr} {ds : List PyData} (I : L2.Inv X pins σ H s) (h : Dp X.K H (.ref b) (.tuple ds)) : ∃ o, s.heap.get? b = some o ∧ o.cls = .type "tuple" := by
  obtain ⟨as, rd⟩ := Dp.reads I _ _ _ h rfl
  cases rd
  exact ⟨_, by assumption, by assumption⟩
/-- x == y, x an instance whose own == gives NotImplemented, y a tuple -/
theorem own_eqT {C f : Addr} {n : Nat} {Pd : List V → Hp → Prop} (at_ : findIn X.K (.ref C) "__eq__" = some (some (.ref f))) (isF : isFn X.K (.ref f) = true) (nf : subIn X.K (.type "tuple") (.ref C) = some false) (nt : subIn X.K (.ref C) (.type "tuple") = some false) (D : Decl X n f Pd) (room : Room n X.A) :
    OpR X (compareOp .Eq) (fun x y H Q => ∃ a dx fs b ds, x = .ref a ∧ y = .ref b ∧ H a = some (.ins C dx fs) ∧ Dp X.K H (.ref b) (.tuple ds) ∧ Pd [x, y] H ∧ Q (.bl false) H) := by
  intro pins s σ H x y v u Q I rx ry ⟨a, dx, fs, b, ds, ex, ey, ha, hb, hp, q⟩
  subst ex; subst ey
  cases (show v = Value.ref a from rx)
  cases (show u = Value.ref b from ry)
  obtain ⟨_, J, _⟩ := ins_get I.hok ha
  obtain ⟨od, J, _⟩ := J.look
  have inK : X.K.In s.heap := I.kIn
  obtain ⟨ob, gb, cb⟩ := tup_at I hb
  have ga : s.heap.get? a = some (W.instObj C dx) := J.at_
  have nab : a ≠ b := fun e => by rw [e, gb] at ga; cases ga; cases cb
  have go : wpAny (model X.prog X.w) X.A (call (.ref f) [.ref a, .ref b]) (fun r s' => r = .notImplemented ∧ L2.Inv X pins σ H s') X.xe s := by
    refine wpAny_call (codeAny_mono (D.runs X.A X.stack s H [.ref a, .ref b] [.ref a, .ref b] hp room I.env0 (.cons rfl (.cons rfl .nil))) ?_)
    rintro r s' ⟨rfl, ce⟩
    obtain ⟨z', H', I', rz, ez, eh⟩ := I.after ce
    subst eh
    exact ⟨rfl, I'⟩
  show wpAny _ _ (richCompare .Eq (.ref a) (.ref b)) _ _ _
  unfold richCompare
  simp only [oneThing_ref]
  refine wpAny_holding (wpAny_bind (wpAny_cRoomFor room.units0 ?_))
  refine wpAny_bind (J.type.here ?_)
  have tyb : ∀ {s' : Shared} {R : Value → Shared → Prop}, s'.heap.get? b = some ob → R (.type "tuple") s' → wpAny (model X.prog X.w) X.A (typeOf (.ref b)) R X.xe s' := fun g r => by
    unfold typeOf
    repeat (first | exact r | (rw [cb]; exact r) | refine wpAny_bind (wpAny_load g ?_) | wp_step)
  refine wpAny_bind (tyb gb ?_)
  rw [show (Value.ref C != Value.type "tuple") = true from rfl]
  simp only [if_true]
  refine wpAny_bind ((looks_subIn inK nf).here ?_)
  simp only [Bool.false_eq_true, if_false]
  have one : wpAny (model X.prog X.w) X.A (tryCompare (.ref a) "__eq__" (.ref b)) (fun r s' => r = none ∧ L2.Inv X pins σ H s') X.xe s := by
    unfold tryCompare
    refine wpAny_bind (ifBound_K inK J at_ isF (wpAny_mono go ?_ fun _ _ e => e))
    rintro r s' ⟨rfl, hI⟩
    exact wpAny_pure ⟨rfl, hI⟩
  refine wpAny_bind (wpAny_mono one ?_ fun _ _ e => e)
  rintro r s1 ⟨rfl, I1⟩
  simp only [Bool.not_false, if_true]
  obtain ⟨_, J1, _⟩ := ins_get I1.hok ha
  obtain ⟨od1, J1, _⟩ := J1.look
  obtain ⟨ob1, gb1, cb1⟩ := tup_at I1 hb
  have ga1 : s1.heap.get? a = some (W.instObj C dx) := J1.at_
  have two : wpAny (model X.prog X.w) X.A (tryCompare (.ref b) "__eq__" (.ref a)) (fun r s' => r = none ∧ s' = s1) X.xe s1 := by
    refine wpAny_tryCompare_declines (T := "tuple") (id := "tuple.__eq__") ⟨ob1, gb1, cb1⟩ PySem.F.slot_tuple_eq ?_
    refine wpAny_call (codeAny_call_builtin PySem.F.slot_tuple_eq.plain PySem.F.entry_tuple_eq (PySem.F.slot_tuple_eq.check _ _ _ _ _ _ _ _ ⟨ob1, gb1, cb1⟩ (PySem.F.args_tuple_eq_2 _ _) ?_))
    obtain ⟨k, ek⟩ := tup_head (.ref b) (.ref a)
    rw [ek]
    refine wpAny_bind (wpAny_mono (show wpAny _ _ (isInstance (.ref a) (.type "tuple")) (fun r s' => r = false ∧ s' = s1) _ _ from ?_) ?_ fun _ _ e => e)
    · have inK1 : X.K.In s1.heap := I1.kIn
      unfold isInstance
      repeat (first | exact wpAny_bind (J1.type.here ((looks_subIn inK1 nt).here ⟨rfl, rfl⟩)) | exact ((looks_subIn inK1 nt).here ⟨rfl, rfl⟩) | refine wpAny_bind (J1.type.here ?_) | wp_step)
    · rintro r s' ⟨rfl, rfl⟩
      simp only [Bool.not_false, if_true]
      repeat (first | exact ⟨rfl, trivial, rfl⟩ | exact ⟨rfl, rfl, rfl⟩ | wp_step)
  refine wpAny_bind (wpAny_mono two ?_ fun _ _ e => e)
  rintro r s2 ⟨rfl, rfl⟩
  have fin : EP X pins σ Q (.bool false) s2 := ⟨.bl false, H, I1, rfl, q⟩
  show wpAny _ _ (do
      rule "compare.eq-identity"
      let same ← isSame (.ref a) (.ref b)
      pure (Value.bool same)) _ _ _
  repeat (first | exact fin | exact wpAny_pure fin | refine wpAny_bind (wpAny_isSame_ref_other nab ga1 gb1 (fun z => by cases z) ?_) | wp_step)
end
end NI

namespace RL
open PySem L2 SX AddrMath VA PySem.W GR
section
variable {P : Program} {w : World} {K : PySem.W.Frag} {mg : Str → Option Value} {base : Heap}
/-! ### Rule.__eq__: slots self 0, other 1 -/
abbrev sREq : Stmt := inClass (top 43) 8
theorem scREq : FnScope ["self", "other"] ["self", "other"] (defScope sREq) := ⟨rfl, rfl, rfl, by decide +kernel, rfl, by decide +kernel, by decide +kernel⟩
def goalD : PyData → PyData
  | .tuple [.str y, b] => .tuple [.str y, .tuple (itemsD b)]
  | _ => .none
/-- a rule's key, as data -/
def keyD (z : Str) (pd gd : PyData) (x : Bool) : PyData := .tuple [.str z, .tuple (itemsD pd), goalD gd, .bool x]
theorem goal_dp {H : Hp} {gV : V} {gd : PyData} (h : GoalAt K H gV gd) (hb : (begD gd).all isEntD = true) : Dp K H gV (goalD gd) := by
  match gd, h with
  | .none, h =>
    cases (show gV = .non from h)
    exact .non
  | .tuple [.str z, b], h =>
    obtain ⟨g, tb, rfl, h1, h2⟩ := h
    exact .tup (.inl (.inl h1)) (.cons (.str z) (.cons (.tup h2 (ents_dp hb)) .nil))
theorem key_dp {C : Addr} {H : Hp} {p : Addr} {z : Str} {pd gd : PyData} {x : Bool} (h : RuleAt K C H p z pd gd x) (hp : (itemsD pd).all isEntD = true) (hb : (begD gd).all isEntD = true) :
    ∃ dx fs k, H p = some (.ins C dx fs) ∧ fs.lookup nKey = some (.ref k) ∧ Dp K H (.ref k) (keyD z pd gd x) := by
  obtain ⟨dx, tP, tW, tK, gV, ws, h1, hP, hG, hW, _, _, _, hK⟩ := h.ex
  exact ⟨dx, _, tK, h1, rfl, .tup (.inl (.inl hK)) (.cons (.str z) (.cons (.tup hP (ents_dp hp)) (.cons (goal_dp hG hb) (.cons (.bl x) .nil))))⟩
structure ROwn (K : PySem.W.Frag) (C : Addr) : Prop where
  own : AOwn K C
  ks : PySem.W.kitOne K (.type "str") (.ref C) = some false
  kt : PySem.W.kitOne K (.type "tuple") (.ref C) = some false
def spREq (K : PySem.W.Frag) (C : Addr) : Sp := fun vs H Q _ => ∃ (p q : Addr) (z y : Str) (pd gd pe ge : PyData) (x u : Bool), vs = [.ref p, .ref q] ∧ RuleAt K C H p z pd gd x ∧ RuleAt K C H q y pe ge u ∧ (itemsD pd).all isEntD = true ∧ (begD gd).all isEntD = true ∧ (itemsD pe).all isEntD = true ∧ (begD ge).all isEntD = true ∧
  SeqAt.shaped (keyD z pd gd x) = true ∧ SeqAt.shaped (keyD y pe ge u) = true ∧ Q (.bl (PyData.eqv (keyD z pd gd x) (keyD y pe ge u))) H
theorem ok_req {f C : Addr} {fd : FuncData} (F : Fun K "__eq__" "Rule.__eq__" sREq f fd) (T : RTxt K mg C) (W : ROwn K C) (B : Blt mg) : FnOk P w K mg base CX0 1 f fd ["self", "other"] (spREq K C) := by
  refine F.ok scREq (fun vs H Q E h => ?_) (fun cdv A outer s0 H vs Q E hr h => ?_)
  · obtain ⟨p, q, z, y, pd, gd, pe, ge, x, u, rfl, _⟩ := h
    rfl
  · obtain ⟨p, q, z, y, pd, gd, pe, ge, x, u, rfl, h1, h2, e1, e2, e3, e4, k1, k2, r⟩ := h
    refine ⟨_, pss_cons (ps_if (pt_not (pt_val (pe_callB (call_isI W.own) (by rfl) B.isinstance_ (by decide +kernel) (pa_cons (pv 1) (pa_cons (pe_glob (v := .ref C) (by rfl) T.mgC rfl) pa_nil))))) (pss_one ps_never) pss_nil)
      (pss_one (ps_ret (pe_cmpR (op_eqD (room_all (k := 64) (by decide) hr.units)) (pe_fld (pv 0) rfl) (pe_fld (pv 1) rfl) (nomark _)))), ?_⟩
    obtain ⟨dx, fs, k, a1, a2, a3⟩ := key_dp h1 e1 e2
    obtain ⟨dy, gs, l, b1, b2, b3⟩ := key_dp h2 e3 e4
    exact ⟨_, rfl, q, dy, _, rfl, b1, _, rfl, iteF ⟨_, rfl, p, C, dx, _, _, rfl, a1, T.cl, T.nK, a2, _, rfl, q, C, dy, _, _, rfl, b1, T.cl, T.nK, b2, _, _, a3, b3, k1, k2, r⟩⟩
theorem req_not {n : Nat} {f C : Addr} {fd : FuncData} (F : Fun K "__eq__" "Rule.__eq__" sREq f fd) (T : RTxt K mg C) (W : ROwn K C) (B : Blt mg) (mN : mg "NotImplemented" = none) (bd : Binds K fd ["self", "other"] []) (X : Cx) (hP : X.prog = P) (hw : X.w = w) (hK : X.K = K) (hm : X.mg = mg) (hb : X.base = base) :
    NI.Decl X 1 f (fun vs H => ∃ (p dx : Addr) (fs : List (Str × V)) (y : V), vs = [.ref p, y] ∧ H p = some (.ins C dx fs) ∧ ((∃ z, y = .str z) ∨ ∃ b ds, y = .ref b ∧ Dp K H (.ref b) (.tuple ds))) := by
  subst hP hw hK hm hb
  refine ⟨fun Ar fs s H us vs hp room e0 rel => ?_⟩
  obtain ⟨p, dx, gs, y, rfl, hp1, alt⟩ := hp
  refine NI.ni_fn F scREq rfl rfl (fun _ _ _ _ => by rfl) mN (fun cd Ar fs s hr => ?_) Ar fs s ⟨us, []⟩ (us ++ []) room e0 (bd s us (fun x o h => (e0.bs x o (e0.mod.kin x o h)).1) (by rw [List.append_nil, ← rel.length]; rfl)) (by rw [List.append_nil]; exact rel)
  refine ⟨_, pt_not (pt_val (pe_callB call_isi (by rfl) B.isinstance_ (by decide +kernel) (pa_cons (pv 1) (pa_cons (pe_glob (v := .ref C) (by rfl) T.mgC rfl) pa_nil)))), ?_⟩
  rcases alt with ⟨z, rfl⟩ | ⟨b, ds, rfl, hd⟩
  · exact ⟨_, rfl, .str z, .ref C, _, _, false, rfl, .own C, dp_ty (.str z), W.ks, _, rfl, rfl, rfl⟩
  · exact ⟨_, rfl, .ref b, .ref C, _, _, false, rfl, .own C, dp_ty hd, W.kt, _, rfl, rfl, rfl⟩
end
end RL

namespace RL
open PySem L2 SX AddrMath VA PySem.W GR
section
theorem run_q {X : Cx} {n : Nat} {f : Addr} {fd : FuncData} {ps : List Str} {sp : Sp} {pins : List (Addr × Obj)} {σ : L2.St} {H : Hp} {s : Shared} {Q : VK} {us : List Value} {vs : List V} (F : FnQ X.prog X.w X.K X.mg X.base n f fd ps sp) (hq : Quiet X.A) (room : Room n X.A) (hb : L2.Binds X.K fd ps []) (I : L2.Inv X pins σ H s) (r : Vals vs us) (q : sp vs H Q E0) :
    wpAny (model X.prog X.w) X.A (call (.ref f) us) (EP X pins σ Q) X.xe s := by
  have bs := hb s us I.kIn (by rw [List.append_nil, ← r.length]; exact F.many _ _ _ _ q)
  refine wpAny_call (codeAny_mono (F.runs X.A X.stack s H ⟨us, []⟩ (us ++ []) vs Q E0 hq room I.env0 bs (by rw [List.append_nil]; exact r) q) ?_)
  rintro (e | fl) s' h
  · exact (show False from h).elim
  cases fl with
  | next => exact (show False from h).elim
  | brk => exact (show False from h).elim
  | cont => exact (show False from h).elim
  | ret u => exact I.after h
theorem pe_callQ {X : Cx} {n : Nat} {f : Addr} {fd : FuncData} {ps : List Str} {sp : Sp} {x : Str} {p pos : Pos} {e : Expr} {es : List Expr} {t : TA} (F : FnQ X.prog X.w X.K X.mg X.base n f fd ps sp) (hq : Quiet X.A) (hr : Room n X.A) (hg : Gl X x) (hm : X.mg x = some (.ref f)) (hk : PySem.W.keepIn X.K (.ref f) = true) (hb : L2.Binds X.K fd ps []) (ha : PA X (e :: es) t)
    (hdb : (x == Str.ofString "__debug__") = false := by rfl) (he : starEach (e :: es) X.env = (false, eval e X.env) :: starEach es X.env := by rfl) (hpl : ((backTo pos (starEach es X.env)).any fun x => x.fst) = false := by rfl) : PE X (.Call (.Name x p) (e :: es) [] pos) (tCall sp [] E0 t) :=
  ⟨fun pins s σ H Q I h => wpAny_Call_Name_kw (ld_glob I hg hm (W.callWith_K I.ok.mod.kin hk (thn (ha.run pos pins s σ H (fun vs H1 => sp (vs ++ []) H1 Q E0) I h) fun us s1 w => by
    obtain ⟨vs, H1, I1, r, q⟩ := w
    rw [List.append_nil] at q
    exact ⟨I1.kIn, run_q F hq hr hb I1 r q⟩) he hpl) hdb)⟩
variable {P : Program} {w : World} {K : PySem.W.Frag} {mg : Str → Option Value} {base : Heap}
/-! ### path_text: slots entries 0, is_exact 1, entry 2, text 3 -/
abbrev sPathText : Stmt := top 38
theorem scPathText : FnScope ["entries", "is_exact", "entry", "text"] ["entries", "is_exact"] (defScope sPathText) := ⟨rfl, rfl, rfl, by decide +kernel, rfl, by decide +kernel, by decide +kernel⟩
def spPathText (K : PySem.W.Frag) : Sp := fun vs H Q _ => ∃ (t : Addr) (x : Bool) (es : List PyData), vs = [.ref t, .bl x] ∧ SqT K H t (es.map entV) ∧ es.all isEntD = true ∧ es.length ≤ 4 ∧ ∀ z H', Same H H' → z.length ≤ 400 → Q (.str z) H'
def segV : V → V
  | .int i => .str ((Str.empty ++ Str.ofString "/") ++ Str.ofString (toString i))
  | .str z => .str ((Str.empty ++ Str.ofString "/") ++ z)
  | v => v
theorem str_len_app (a b : Str) : (a ++ b).length = a.length + b.length := by
  show (a.cps ++ b.cps).size = _
  exact Array.size_append
def segS : PyData → Str
  | .int i => (Str.empty ++ Str.ofString "/") ++ Str.ofString (toString i)
  | .str z => (Str.empty ++ Str.ofString "/") ++ z
  | _ => Str.empty
theorem seg_ent {e : PyData} (h : isEntD e = true) : segV (entV e) = .str (segS e) ∧ (segS e).length ≤ 20 := by
  rcases ent_cases h with ⟨k, rfl⟩ | ⟨x', rfl, hx⟩
  · refine ⟨rfl, ?_⟩
    have h' : (false || (decide (1 ≤ k) && decide (k ≤ 2))) = true := h
    rw [Bool.false_or, Bool.and_eq_true, decide_eq_true_eq, decide_eq_true_eq] at h'
    have : k = 1 ∨ k = 2 := by omega
    rcases this with rfl | rfl <;> decide +kernel
  · refine ⟨rfl, ?_⟩
    have := word_len hx
    show ((Str.empty ++ Str.ofString "/") ++ x').length ≤ 20
    rw [str_len_app]
    have : (Str.empty ++ Str.ofString "/").length = 1 := by decide +kernel
    omega
/-- f'/{entry}', entry in slot 2 -/
def tSeg : TE := fun σ H Q => ∃ e, σ[2]? = some (some (entV e)) ∧ isEntD e = true ∧ Q (segV (entV e)) H
theorem seg_does {σ : L2.St} {H : Hp} {Q : VK} (h : tSeg σ H Q) : (fun σ H Q => tJs [tC (.str (Str.ofString "/")), tFmt (tVar 2)] Str.empty σ H fun out H1 => Q (.str out) H1) σ H Q := by
  obtain ⟨e, e2, he, q⟩ := h
  obtain ⟨g1, g2⟩ := seg_ent he
  rw [g1] at q
  have sz : ∀ n, n ≤ 20 → n ≤ sizeLine := fun n h => Nat.le_trans h (by show 20 ≤ sizeLine; decide)
  rcases ent_cases he with ⟨k, rfl⟩ | ⟨x', rfl, hx⟩
  · have h' : (false || (decide (1 ≤ k) && decide (k ≤ 2))) = true := he
    rw [Bool.false_or, Bool.and_eq_true, decide_eq_true_eq, decide_eq_true_eq] at h'
    have : k = 1 ∨ k = 2 := by omega
    refine ⟨_, rfl, by decide +kernel, _, e2, .inr ⟨k, rfl, ?_, _, rfl, sz _ g2, q⟩⟩
    rcases this with rfl | rfl <;> decide +kernel
  · exact ⟨_, rfl, by decide +kernel, _, e2, .inl ⟨x', rfl, sz _ (by have := word_len hx; omega), _, rfl, sz _ g2, q⟩⟩
theorem ok_pathtext {f : Addr} {fd : FuncData} (F : Fun K "path_text" "path_text" sPathText f fd) : FnOk P w K mg base CX0 1 f fd ["entries", "is_exact"] (spPathText K) := by
  refine F.ok scPathText (fun vs H Q E h => ?_) (fun cdv A outer s0 H vs Q E hr h => ?_)
  · obtain ⟨t, x, es, rfl, _⟩ := h
    rfl
  · obtain ⟨t, x, es, rfl, ht, hE, h4, q⟩ := h
    refine ⟨_, (pss_cons (ps_set (i := 3) scPathText.nd rfl (Or.inl rfl) (pe_join pe_str (pe_lc (own := [("entry", 2)]) (g := gName 2) (tt := tYes) rfl scPathText.nd (pi_seq (pv 0))
          (blkOk_by (own := [("entry", 2)]) (N := ["entries", "is_exact", "entry", "text"]) (sc := defScope sPathText) (by decide +kernel))
          (fun _ _ _ _ _ => (pg_name (i := 2) scPathText.nd rfl (Or.inl rfl))) (fun _ _ _ _ _ => pts_nil)
          (fun _ _ _ _ _ => (pe_by tSeg (pe_joined (.cons pe_str (.cons (pe_fmt (pv 2)) .nil))) (fun _ _ _ h => seg_does h))))))
      (pss_cons (ps_if (pt_not (pt_val (pv 1))) (pss_one (ps_ret (pe_op op_add_str (pv 3) pe_str))) pss_nil)
      (pss_one (ps_ret (pe_ifExp (pt_cmpR op_ne (pv 3) pe_str (nomark _)) (pv 3) pe_str))))), ?_⟩
    refine ⟨⟨_, rfl⟩, _, rfl, ?_⟩
    refine seq_map (.inr ht) (by rw [List.length_map]; omega) (fun _ => true) segV ?hw (fun v hm H2 s2 => ⟨fun R hR => no_test hR, fun _ H3 s3 R hR => ?_⟩) fun D H2 nD hD s2 => ?_
    case hw => intro _; rfl
    · obtain ⟨e, he, rfl⟩ := List.mem_map.mp hm
      exact ⟨e, rfl, List.all_eq_true.mp hE e he, hR H3 (Same.refl H3)⟩
    · have eq : ((es.map entV).filter fun _ => true).map segV = (es.map segS).map V.str := by
        rw [filter_yes, List.map_map, List.map_map]
        exact List.map_congr_left fun e he => (seg_ent (List.all_eq_true.mp hE e he)).1
      rw [eq] at hD
      have sm : ∀ es : List PyData, es.all isEntD = true → ((es.map segS).map (fun x => x.length)).sum ≤ 20 * es.length := fun es => by
        induction es with
        | nil => intro _; exact Nat.le_refl 0
        | cons e r ih =>
          intro h
          rw [List.all_cons, Bool.and_eq_true] at h
          have := (seg_ent h.1).2
          have := ih h.2
          simp only [List.map_cons, List.sum_cons, List.length_cons]
          omega
      have s4 := sm es hE
      refine ⟨_, D, es.map segS, rfl, rfl, .inl (.inl (.inl hD)), ?_, ?_⟩
      · show _ + _ * 0 ≤ _
        omega
      have jl : (Txt.join (Str.ofString "") (es.map segS)).length ≤ 340 := by
        refine PyProof.Rows.len_join_le (n := 84) ?_ (by decide)
        show _ + _ ≤ _
        rw [List.length_map]
        omega
      generalize Txt.join (Str.ofString "") (es.map segS) = z at jl ⊢
      have l3 : (Str.ofString "/..").length = 3 := by decide +kernel
      refine ⟨_, rfl, _, rfl, if_is (fun c => ?_) (fun c => ?_)⟩
      · exact ⟨_, rfl, _, _, rfl, rfl, Nat.le_trans (m := 1000) (by omega) (by show 1000 ≤ sizeLine; decide), q _ H2 s2 (by rw [str_len_app]; omega)⟩
      · refine ⟨_, rfl, rfl, _, rfl, if_is (fun _ => ⟨_, rfl, q z H2 s2 (by omega)⟩) (fun _ => q _ H2 s2 (by decide +kernel))⟩
/-! ### rule_text: slots rule 0, text 1; Rule.text -/
abbrev sRuleText : Stmt := top 39
abbrev sRText : Stmt := inClass (top 43) 9
theorem scRuleText : FnScope ["rule", "text"] ["rule"] (defScope sRuleText) := ⟨rfl, rfl, rfl, by decide +kernel, rfl, by decide +kernel, by decide +kernel⟩
theorem scRText : FnScope ["self"] ["self"] (defScope sRText) := ⟨rfl, rfl, rfl, by decide +kernel, rfl, by decide +kernel, by decide +kernel⟩
def spRText (K : PySem.W.Frag) (C : Addr) : Sp := fun vs H Q _ => ∃ (p : Addr) (z : Str) (pd gd : PyData) (x : Bool), vs = [.ref p] ∧ RuleAt K C H p z pd gd x ∧ wrd z = true ∧ (itemsD pd).all isEntD = true ∧ (itemsD pd).length ≤ 4 ∧ isGoalD gd pd = true ∧ ∀ y H', Same H H' → Q (.str y) H'
theorem ok_ruletext {f C : Addr} {fd : FuncData} (F : Fun K "rule_text" "rule_text" sRuleText f fd) (T : RTxt K mg C) (rstate : OwnP P w K mg base C "state" (spGet C nState)) (rpattern : OwnP P w K mg base C "pattern" (spGet C nPattern)) (rgoal : OwnP P w K mg base C "goal" (spGet C nGoal)) (rexact : OwnP P w K mg base C "is_exact" (spGet C nExact))
    (path_text : Own P w K mg base CX0 1 "path_text" ["entries", "is_exact"] (spPathText K)) : FnOk P w K mg base CX0 3 f fd ["rule"] (spRText K C) := by
  refine F.ok scRuleText (fun vs H Q E h => ?_) (fun cdv A outer s0 H vs Q E hr h => ?_)
  · obtain ⟨p, z, pd, gd, x, rfl, _⟩ := h
    rfl
  · obtain ⟨p, z, pd, gd, x, rfl, hR, hz, hE, h4, hg, q⟩ := h
    have hr2 : Room 2 _ := hr
    have hr1 : Room 1 _ := hr.mono (by decide)
    refine ⟨_, (pss_cons (ps_set (i := 1) scRuleText.nd rfl (Or.inl rfl) (pe_joined (.cons (pe_fmt (pe_prop (pv 0) T.cl rstate.prop rstate.ok hr2 rstate.b .nil pass0 rfl)) (.cons pe_str (.cons (pe_fmt (pe_call path_text.g hr1 rfl path_text.mg path_text.kp path_text.b .nil pass0 (pa_cons (pe_prop (pv 0) T.cl rpattern.prop rpattern.ok hr2 rpattern.b .nil pass0 rfl) (pa_cons (pe_prop (pv 0) T.cl rexact.prop rexact.ok hr2 rexact.b .nil pass0 rfl) pa_nil)))) .nil)))))
      (pss_cons (ps_if (pt_cmpR op_isN (pe_prop (pv 0) T.cl rgoal.prop rgoal.ok hr2 rgoal.b .nil pass0 rfl) pe_non (nomark _)) (pss_one (ps_ret (pe_joined (.cons (pe_fmt (pv 1)) (.cons pe_str .nil))))) pss_nil)
      (pss_one (ps_ret (pe_joined (.cons (pe_fmt (pv 1)) (.cons pe_str (.cons (pe_fmt (pe_ix ix_tup (pe_prop (pv 0) T.cl rgoal.prop rgoal.ok hr2 rgoal.b .nil pass0 rfl) pe_int (fun _ _ => rfl))) (.cons pe_str (.cons (pe_fmt (pe_call path_text.g hr1 rfl path_text.mg path_text.kp path_text.b .nil pass0 (pa_cons (pe_ix ix_tup (pe_prop (pv 0) T.cl rgoal.prop rgoal.ok hr2 rgoal.b .nil pass0 rfl) pe_int (fun _ _ => rfl)) (pa_cons (pe_prop (pv 0) T.cl rexact.prop rexact.ok hr2 rexact.b .nil pass0 rfl) pa_nil)))) .nil)))))))))), ?_⟩
    obtain ⟨dx, tP, tW, tK, gV, ws, hp, hP, hG, hW, _, _, _, hK⟩ := hR.ex
    have lz := word_len hz
    have sz : ∀ n, n ≤ 2000 → n ≤ sizeLine := fun n h => Nat.le_trans h (by show 2000 ≤ sizeLine; decide)
    have l0 : Str.empty.length = 0 := by decide +kernel
    have l1 : (Str.ofString " ").length = 1 := by decide +kernel
    have l6 : (Str.ofString " stays").length = 6 := by decide +kernel
    have l4 : (Str.ofString " to ").length = 4 := by decide +kernel
    refine ⟨_, rfl, p, dx, _, rfl, hp, p, dx, _, _, rfl, hp, rfl, .inl ⟨z, rfl, sz _ (by omega), _, rfl, sz _ (by rw [str_len_app]; omega), _, rfl, sz _ (by simp only [str_len_app]; omega), ?_⟩⟩
    refine ⟨_, rfl, p, dx, _, rfl, hp, p, dx, _, _, rfl, hp, rfl, _, rfl, p, dx, _, rfl, hp, p, dx, _, _, rfl, hp, rfl, tP, x, itemsD pd, rfl, hP, hE, h4, fun u H1 s1 hu => .inl ⟨u, rfl, sz _ (by omega), _, rfl, sz _ (by simp only [str_len_app]; omega), ?_⟩⟩
    have lt : (Str.empty ++ z ++ Str.ofString " " ++ u).length ≤ 410 := by
      simp only [str_len_app]
      omega
    generalize Str.empty ++ z ++ Str.ofString " " ++ u = t1 at lt ⊢
    have hp1 := s1 _ _ hp
    refine ⟨_, rfl, p, dx, _, rfl, hp1, p, dx, _, _, rfl, hp1, rfl, rfl, _, rfl, ?_⟩
    rcases goal_parts hg with rfl | ⟨gz, gb, rfl, hgz, hgb⟩
    · cases (show gV = .non from hG)
      exact iteT ⟨_, rfl, .inl ⟨t1, rfl, sz _ (by omega), _, rfl, sz _ (by simp only [str_len_app]; omega), _, rfl, sz _ (by simp only [str_len_app]; omega), q _ H1 s1⟩⟩
    · obtain ⟨g, tb, rfl, hgg, htb⟩ := hG
      obtain ⟨_, b2, b3⟩ := areEnt_parts hgb
      have lg := word_len hgz
      refine iteF ⟨_, rfl, .inl ⟨t1, rfl, sz _ (by omega), _, rfl, sz _ (by simp only [str_len_app]; omega), _, rfl, sz _ (by simp only [str_len_app]; omega), _, rfl, p, dx, _, rfl, hp1, p, dx, _, _, rfl, hp1, rfl, g, _, 0, _, rfl, rfl, .inl (.inl (s1 _ _ hgg)), rfl, .inl ⟨gz, rfl, sz _ (by omega), _, rfl, sz _ (by simp only [str_len_app]; omega), _, rfl, sz _ (by simp only [str_len_app]; omega), ?_⟩⟩⟩
      exact ⟨_, rfl, p, dx, _, rfl, hp1, p, dx, _, _, rfl, hp1, rfl, g, _, 1, _, rfl, rfl, .inl (.inl (s1 _ _ hgg)), rfl, _, rfl, p, dx, _, rfl, hp1, p, dx, _, _, rfl, hp1, rfl, tb, x, itemsD gb, rfl, same_seqT s1 htb, b3, by omega, fun u2 H2 s2 hu2 => .inl ⟨u2, rfl, sz _ (by omega), _, rfl, sz _ (by simp only [str_len_app]; omega), q _ H2 (s1.trans s2)⟩⟩
theorem ok_rtext {f C : Addr} {fd : FuncData} (F : Fun K "text" "Rule.text" sRText f fd) (rule_text : Own P w K mg base CX0 3 "rule_text" ["rule"] (spRText K C)) : FnOk P w K mg base CX0 4 f fd ["self"] (spRText K C) := by
  refine F.ok scRText (fun vs H Q E h => ?_) (fun cdv A outer s0 H vs Q E hr h => ?_)
  · obtain ⟨p, z, pd, gd, x, rfl, _⟩ := h
    rfl
  · obtain ⟨p, z, pd, gd, x, rfl, h⟩ := h
    exact ⟨_, (pss_one (ps_ret (pe_call rule_text.g hr rfl rule_text.mg rule_text.kp rule_text.b .nil pass0 (pa_cons (pv 0) pa_nil)))), _, rfl, p, z, pd, gd, x, rfl, h⟩
end
end RL

/-! get of a written dict with keys of text: d.get(k, x). -/
namespace VA
open PySem PySem.Spec PyProof.Rows L2
/-- what is found under a text in the rows kvs -/
def txAt : List (Str × V) → Str → Option V
  | [], _ => none
  | p :: l, x => if p.1 = x then some p.2 else txAt l x
/-- the rows of a written dict -/
def TxRows : List (Str × V) → List DictEntry → Prop
  | [], [] => True
  | p :: l, e :: r => (∃ t, e.key = .str p.1 t) ∧ RelV p.2 e.val ∧ TxRows l r
  | _, _ => False
/-- the written dict at d holds the rows kvs -/
def TxDict (F : PySem.W.Frag) (w : World) (d : Addr) (kvs : List (Str × V)) : Prop := (d == sysModules) = false ∧ ∃ es n, F.lookup d = some ⟨.type "dict", none, .dict es n, #[]⟩ ∧ PySem.W.KeysLit w.params es.toList ∧ TxRows kvs es.toList
theorem rows_find {k : Str} : ∀ {kvs : List (Str × V)} {r : List DictEntry}, TxRows kvs r → RelO (txAt kvs k) ((r.find? fun e => Value.isStrOf k e.key).map (·.val))
  | [], [], _ => True.intro
  | [], _ :: _, h => h.elim
  | _ :: _, [], h => h.elim
  | p :: l, e :: r, h => by
    obtain ⟨⟨t, ek⟩, ev, tl⟩ := h
    have b : Value.isStrOf k e.key = (p.1 == k) := by rw [ek]; rfl
    by_cases c : p.1 = k
    · rw [List.find?_cons_of_pos (by rw [b]; exact beq_iff_eq.mpr c)]
      show RelO (if p.1 = k then some p.2 else txAt l k) _
      rw [if_pos c]
      exact ev
    · rw [List.find?_cons_of_neg (by rw [b]; intro z; exact c (beq_iff_eq.mp z))]
      show RelO (if p.1 = k then some p.2 else txAt l k) _
      rw [if_neg c]
      exact rows_find tl
/-- d.get(k, x), d written -/
def tKGet (F : PySem.W.Frag) (w : World) (to ty tx : TE) : TE := fun σ H Q => to σ H fun x H1 => ∃ d kvs, x = .ref d ∧ TxDict F w d kvs ∧ ty σ H1 fun y H2 => ∃ k, y = .str k ∧ tx σ H2 fun z H3 => Q ((txAt kvs k).getD z) H3
section
variable {X : Cx} {o e f : Expr} {apos cpos : Pos} {to ty tx : TE}
theorem pe_kget (ho : PE X o to) (he : PE X e ty) (hf : PE X f tx) (m : M2 X o "get" apos e f cpos) : PE X (.Call (.Attribute o "get" apos) [e, f] [] cpos) (tKGet X.K X.w to ty tx) := by
  refine ⟨fun pn s σ H Q J h => ?_⟩
  refine wpAny_Call_method m.base m.few m.line PySem.F.plainAttrs_dict PySem.F.slot_dict_get PySem.F.type_dict_get (thn (ho.run pn s σ H _ J h) fun u s1 ⟨x, H1, J1, rx, d, kvs, ex, ⟨low, es, n, at_, lit, rows⟩, q1⟩ => ?_)
  subst ex
  obtain rfl : u = Value.ref d := rx
  have here := J1.kIn _ _ at_
  refine ⟨⟨_, here, rfl⟩, fun b q => ?_, ?_⟩
  · cases q
    exact ⟨_, here, rfl⟩
  rw [m.trees]
  refine Calls.callWith_builtin rfl (Calls.evalArgs_plain (Calls.spliced_cons (thn (he.run pn s1 σ H1 _ J1 q1) fun kv s2 ⟨y, H2, J2, ry, k, ey, q2⟩ =>
    Calls.spliced_cons (thn (hf.run pn s2 σ H2 _ J2 q2) fun dv s3 ⟨z, H3, J3, rz, q3⟩ => Calls.spliced_nil ?_))))
  subst ey
  obtain ⟨tk, rfl⟩ := (show ∃ t, kv = Value.str k t from ry)
  have map := PySem.W.mapOf_K (prog := X.prog) (w := X.w) J3.kIn at_ lit
  refine call_meetsIn PySem.F.slot_dict_get map.typeIs PySem.F.entry_dict_get (PySem.F.args_dict_get_3 _ _ _) (meets_dict_get_default (strKind X.prog X.w) d (strKind_is X.prog X.w k tk) low dv) ⟨_, map, ?_⟩
  refine ⟨_, H3, J3.tok _, ?_, q3⟩
  have rel := rows_find (k := k) rows
  have e1 : findBy Value.isStrOf es k = (es.toList.find? fun e => Value.isStrOf k e.key).map (·.val) := by
    obtain ⟨l⟩ := es
    unfold findBy
    rw [List.find?_toArray]
  rw [e1]
  cases c : txAt kvs k with
  | none =>
    rw [c] at rel
    cases c2 : (es.toList.find? fun e => Value.isStrOf k e.key).map (·.val) with
    | none => exact rz
    | some u =>
      rw [c2] at rel
      exact rel.elim
  | some v =>
    rw [c] at rel
    cases c2 : (es.toList.find? fun e => Value.isStrOf k e.key).map (·.val) with
    | none =>
      rw [c2] at rel
      exact rel.elim
    | some u =>
      rw [c2] at rel
      exact rel
end
end VA

namespace RL
open PySem L2 SX AddrMath VA
/-! ## the program's reader of rule texts -/
abbrev slash : Str := "/"
abbrev blank : Str := " "
abbrev dots : Str := ".."
def holeRows : List (Str × V) := [("1", .int 1), ("2", .int 2)]
/-- the hole that a part is, without a bound -/
def holeP (p : Str) : Option PyData := if p = ("1" : Str) then some (.int 1) else if p = ("2" : Str) then some (.int 2) else none
/-- the entry that a part is -/
def entP (p : Str) : Option PyData := if isW p.cps.toList = true then some (.str p) else holeP p
def optE : Option PyData → V
  | some d => entV d
  | none => .non
theorem hole_at (p : Str) : (txAt holeRows p).getD .non = optE (holeP p) := by
  show Option.getD (if ("1" : Str) = p then some (V.int 1) else if ("2" : Str) = p then some (V.int 2) else none) V.non = _
  unfold holeP
  by_cases h1 : p = ("1" : Str)
  · rw [if_pos h1.symm, if_pos h1]
    rfl
  · rw [if_neg (Ne.symm h1), if_neg h1]
    by_cases h2 : p = ("2" : Str)
    · rw [if_pos h2.symm, if_pos h2]
      rfl
    · rw [if_neg (Ne.symm h2), if_neg h2]
      rfl
/-- entries and whether the path is exact, of the parts -/
def partsP (ps : List Str) : Option (List PyData × Bool) :=
  let x := !decide (ps.getLast? = some dots)
  let qs := if x then ps else ps.dropLast
  if qs.all (fun p => (entP p).isSome) then some (qs.filterMap entP, x) else none
def pathP (t : Str) : Option (List PyData × Bool) := if t = slash then some ([], true) else if Txt.startswith t slash = true then partsP (Txt.split (Txt.slice t (some 1) none) slash) else none
def PathV (K : PySem.W.Frag) (H : Hp) : Option (List PyData × Bool) → V → Prop
  | none, v => v = .non
  | some (ds, x), v => ∃ p tp, v = .ref p ∧ SqT K H p [.ref tp, .bl x] ∧ SqT K H tp (ds.map entV)
theorem PathV.same {K : PySem.W.Frag} {H H' : Hp} {o : Option (List PyData × Bool)} {v : V} (h : PathV K H o v) (s : Same H H') : PathV K H' o v := by
  match o, h with
  | none, h => exact h
  | some (ds, x), ⟨p, tp, e, h1, h2⟩ => exact ⟨p, tp, e, same_seqT s h1, same_seqT s h2⟩
theorem holeP_int {p : Str} {d : PyData} (h : holeP p = some d) : d = .int 1 ∨ d = .int 2 := by
  unfold holeP at h
  by_cases h1 : p = ("1" : Str)
  · rw [if_pos h1] at h
    cases h
    exact .inl rfl
  · rw [if_neg h1] at h
    by_cases h2 : p = ("2" : Str)
    · rw [if_pos h2] at h
      cases h
      exact .inr rfl
    · rw [if_neg h2] at h
      cases h
theorem entP_ent {p : Str} {d : PyData} (h : entP p = some d) : isEntD d = true := by
  unfold entP at h
  by_cases c : isW p.cps.toList = true
  · rw [if_pos c] at h
    cases h
    show (isW p.cps.toList || false) = true
    rw [c]
    rfl
  · rw [if_neg c] at h
    rcases holeP_int h with rfl | rfl <;> rfl
theorem optE_flat (o : Option PyData) (h : ∀ d, o = some d → isEntD d = true) : flatV (optE o) = true ∧ eqV (optE o) .non = o.isNone := by
  cases o with
  | none => exact ⟨rfl, rfl⟩
  | some d =>
    have := h d rfl
    cases d <;> first | exact ⟨rfl, rfl⟩ | cases this
theorem none_in : ∀ ps : List Str, inV .non (ps.map fun p => optE (entP p)) = !ps.all (fun p => (entP p).isSome)
  | [] => rfl
  | p :: ps => by
    have e := (optE_flat (entP p) fun d h => entP_ent h).2
    have ih := none_in ps
    unfold inV at ih ⊢
    rw [List.map_cons, List.any_cons, ih, List.all_cons, e]
    cases entP p <;> rfl
theorem all_flat (ps : List Str) : (ps.map fun p => optE (entP p)).all flatV = true := by
  rw [List.all_eq_true]
  intro v hv
  obtain ⟨p, _, rfl⟩ := List.mem_map.mp hv
  exact (optE_flat (entP p) fun d h => entP_ent h).1
theorem ents_of : ∀ {ps : List Str}, ps.all (fun p => (entP p).isSome) = true → (ps.map fun p => optE (entP p)) = (ps.filterMap entP).map entV
  | [], _ => rfl
  | p :: ps, h => by
    rw [List.all_cons, Bool.and_eq_true] at h
    obtain ⟨d, hd⟩ := Option.isSome_iff_exists.mp h.1
    rw [List.map_cons, ents_of h.2, List.filterMap_cons_some hd, List.map_cons, hd]
    rfl
theorem partsP_ents {ps : List Str} {ds : List PyData} {x : Bool} (h : partsP ps = some (ds, x)) : ds.all isEntD = true ∧ ds.length ≤ ps.length := by
  have key : ∀ (qs : List Str) (y : Bool), qs.length ≤ ps.length → (if qs.all (fun p => (entP p).isSome) then some (qs.filterMap entP, y) else none) = some (ds, x) → ds.all isEntD = true ∧ ds.length ≤ ps.length := by
    intro qs y hl h
    by_cases c : qs.all (fun p => (entP p).isSome) = true
    · rw [if_pos c] at h
      obtain ⟨rfl, rfl⟩ := Prod.mk.inj (Option.some.inj h)
      refine ⟨?_, Nat.le_trans (List.length_filterMap_le _ _) hl⟩
      rw [List.all_eq_true]
      intro d hd
      obtain ⟨p, _, e⟩ := List.mem_filterMap.mp hd
      exact entP_ent e
    · rw [if_neg c] at h
      cases h
  unfold partsP at h
  by_cases c : ps.getLast? = some dots
  · rw [decide_eq_true c] at h
    exact key _ _ (by show ps.dropLast.length ≤ _; rw [List.length_dropLast]; omega) h
  · rw [decide_eq_false c] at h
    exact key _ _ (Nat.le_refl _) h
section
variable {P : Program} {w : World} {K : PySem.W.Frag} {mg : Str → Option Value} {base : Heap}
/-! ### is_word of texts of any length -/
def spIsWordS : Sp := fun vs H Q _ => ∃ z : Str, vs = [.str z] ∧ z.length ≤ 1000000 ∧ Q (.bl (isW z.cps.toList)) H
theorem ok_iswordS {f : Addr} {fd : FuncData} {t : Tok} (F : Fun K "is_word" "is_word" sIsWord f fd) (B : Blt mg) (mL : mg "LETTERS" = some (.int 8 t)) : FnOk P w K mg base CX0 1 f fd ["value"] spIsWordS := by
  refine F.ok scIsWord (fun vs H Q E h => ?_) (fun cdv A outer s H vs Q E hr h => ?_)
  · obtain ⟨z, rfl, _⟩ := h
    rfl
  · obtain ⟨z, rfl, hz, q⟩ := h
    refine ⟨_, (pss_cons (ps_if (pt_not (pt_val (pe_callB call_isi (by rfl) B.isinstance_ (by decide +kernel) (pa_cons (pv 0) (pa_cons (pe_bltn (v := .ty "str") (by rfl) B.str_ (by decide +kernel) rfl) pa_nil))))) (pss_one (ps_ret pe_bl)) pss_nil)
      (pss_one (ps_ret (pe_and (pe_chain op_le op_le pe_int (pe_callB call_len_str (by rfl) B.len_ (by decide +kernel) (pa_cons (pv 0) pa_nil)) (pe_glob (v := .int 8) rfl mL ⟨_, rfl⟩)) (pe_and (pe_m0 PySem.F.slot_str_isascii PySem.F.type_str_isascii mt_isascii (pv 0)) (pe_and (pe_m0 PySem.F.slot_str_isalpha PySem.F.type_str_isalpha mt_isalpha (pv 0)) (pe_one (pe_m0 PySem.F.slot_str_islower PySem.F.type_str_islower mt_islower (pv 0))))))))), ?_⟩
    refine ⟨_, rfl, _, _, _, _, true, rfl, .ty "str", .base (.str z), kitStr (.str z), _, rfl, iteF ?_⟩
    refine ⟨_, rfl, _, rfl, size_ok (by omega), _, _, rfl, rfl, _, rfl, if_is (fun h1 => ?_) (fun h1 => ?_)⟩
    · have h1' : (1 : Int) ≤ (z.length : Int) := of_decide_eq_true h1
      refine ⟨_, _, rfl, rfl, _, rfl, if_is (fun h8 => ?_) (fun h8 => ?_)⟩
      · have h8' : (z.length : Int) ≤ 8 := of_decide_eq_true h8
        have e2 := word_txt z (by omega) (by omega)
        refine ⟨_, rfl, ⟨_, rfl⟩, _, rfl, rfl, trivial, _, rfl, if_is (fun a1 => ?_) (fun a1 => ?_)⟩
        · refine ⟨_, rfl, ⟨_, rfl⟩, _, rfl, rfl, trivial, _, rfl, if_is (fun a2 => ?_) (fun a2 => ?_)⟩
          · refine ⟨_, rfl, ⟨_, rfl⟩, _, rfl, rfl, trivial, ?_⟩
            rw [a1, a2, Bool.true_and, Bool.true_and] at e2
            rw [e2]
            exact q
          · rw [a1, a2, Bool.true_and, Bool.false_and] at e2
            rw [e2]
            exact q
        · rw [a1, Bool.false_and] at e2
          rw [e2]
          exact q
      · have : isW z.cps.toList = false := Bool.eq_false_iff.mpr fun y => by
          have := word_len y
          have := of_decide_eq_false h8
          omega
        rw [this] at q
        exact q
    · have : isW z.cps.toList = false := Bool.eq_false_iff.mpr fun y => by
        have := word_len y
        have := of_decide_eq_false h1
        omega
      rw [this] at q
      exact ⟨_, rfl, iteF q⟩
/-! ### hole_in: slots part 0, is_free 1, hole 2 -/
abbrev sHoleIn : Stmt := top 40
theorem scHoleIn : FnScope ["part", "is_free", "hole"] ["part", "is_free"] (defScope sHoleIn) := ⟨rfl, rfl, rfl, by decide +kernel, rfl, by decide +kernel, by decide +kernel⟩
def spHoleIn : Sp := fun vs H Q _ => ∃ p : Str, vs = [.str p, .bl false] ∧ Q (optE (holeP p)) H
/-! ### number_in is not asked: slots text 0, digits 1 -/
abbrev sNumberIn : Stmt := top 16
theorem scNumberIn : FnScope ["text", "digits"] ["text", "digits"] (defScope sNumberIn) := ⟨rfl, rfl, rfl, by decide +kernel, rfl, by decide +kernel, by decide +kernel⟩
def spNo : Sp := fun _ _ _ _ => False
theorem ok_numin {f : Addr} {fd : FuncData} (F : Fun K "number_in" "number_in" sNumberIn f fd) : FnOk P w K mg base CX0 1 f fd ["text", "digits"] spNo :=
  F.ok scNumberIn (fun vs H Q E h => h.elim) fun cdv A outer s H vs Q E hr h => h.elim
theorem ok_holein {f hd : Addr} {fd : FuncData} {t : Tok} (F : Fun K "hole_in" "hole_in" sHoleIn f fd) (number_in : Own P w K mg base CX0 1 "number_in" ["text", "digits"] spNo) (mH : mg "HOLES" = some (.ref hd)) (TD : TxDict K w hd holeRows) (mD : mg "HOLE_DIGITS" = some (.int 100 t)) :
    FnOk P w K mg base CX0 2 f fd ["part", "is_free"] spHoleIn := by
  refine F.ok scHoleIn (fun vs H Q E h => ?_) (fun cdv A outer s H vs Q E hr h => ?_)
  · obtain ⟨p, rfl, _⟩ := h
    rfl
  · obtain ⟨p, rfl, q⟩ := h
    refine ⟨_, (pss_cons (ps_if (pt_not (pt_val (pv 1))) (pss_one (ps_ret (pe_kget (pe_glob (v := .ref hd) (by rfl) mH rfl) (pv 0) pe_non ⟨rfl, by rfl, rfl, rfl⟩))) pss_nil)
      (pss_cons (ps_set (i := 2) scHoleIn.nd rfl (Or.inl rfl) (pe_call number_in.g (hr.mono (by decide)) rfl number_in.mg number_in.kp number_in.b .nil pass0 (pa_cons (pv 0) (pa_cons (pe_glob (v := .int 100) rfl mD ⟨_, rfl⟩) pa_nil))))
      (pss_one (ps_ret (pe_ifExp (pt_cmpR op_eq (pv 2) pe_int (nomark _)) pe_non (pv 2)))))), ?_⟩
    refine ⟨_, rfl, _, rfl, iteT ⟨hd, holeRows, rfl, TD, _, rfl, p, rfl, ?_⟩⟩
    show Q ((txAt holeRows p).getD .non) H
    rw [hole_at]
    exact q
/-! ### parsed_path: slots text 0, is_free 1, parts 2, is_exact 3, part 4, entries 5 cells is_free -/
abbrev sParsedPath : Stmt := top 41
theorem scParsedPath : FnScope ["text", "is_free", "parts", "is_exact", "part", "entries"] ["text", "is_free"] (defScope sParsedPath) := ⟨rfl, rfl, rfl, by decide +kernel, rfl, by decide +kernel, by decide +kernel⟩
def spParsedPath (K : PySem.W.Frag) : Sp := fun vs H Q _ => ∃ t : Str, vs = [.str t, .bl false] ∧ t.length ≤ 100000 ∧ ∀ v H', Same H H' → PathV K H' (pathP t) v → Q v H'
/-- the last part is left out where it is the dots -/
def tInit (K : PySem.W.Frag) : TS := fun D σ H => ∃ (a : Addr) (ps : List Str) (x : Bool) (s0 s1 s4 s5 : Option V), σ = [s0, s1, some (.ref a), some (.bl x), s4, s5] ∧ SqL K H a (ps.map V.str) ∧ 0 < ps.length ∧
  ∀ b H', Same H H' → SqL K H' b ((if x then ps else ps.dropLast).map V.str) → D.nx [s0, s1, some (.ref b), some (.bl x), s4, s5] H'
theorem ok_parsedpath {f : Addr} {fd : FuncData} (F : Fun K "parsed_path" "parsed_path" sParsedPath f fd) (B : Blt mg) (is_wordS : Own P w K mg base CX0 1 "is_word" ["value"] spIsWordS) (hole_in : Own P w K mg base CX0 2 "hole_in" ["part", "is_free"] spHoleIn) :
    FnOk P w K mg base CX0 3 f fd ["text", "is_free"] (spParsedPath K) := by
  refine F.ok scParsedPath (fun vs H Q E h => ?_) (fun cdv A outer s H vs Q E hr h => ?_)
  · obtain ⟨t, rfl, _⟩ := h
    rfl
  · obtain ⟨t, rfl, hl, q⟩ := h
    refine ⟨_, (pss_cons (ps_if (pt_cmpR op_eq (pv 0) pe_str (nomark _)) (pss_one (ps_ret (pe_tup (pa_cons (pe_tup pa_nil) (pa_cons pe_bl pa_nil))))) pss_nil)
      (pss_cons (ps_if (pt_not (pt_val (pe_m1 PySem.F.slot_str_startswith PySem.F.type_str_startswith mt_startswith (pv 0) pe_str))) (pss_one (ps_ret pe_non)) pss_nil)
      (pss_cons (ps_set (i := 2) scParsedPath.nd rfl (Or.inl rfl) (pe_split (pe_slice C8.sl_txt (pv 0) (po_some pe_int) po_none) pe_str))
      (pss_cons (ps_set (i := 3) scParsedPath.nd rfl (Or.inl rfl) (pe_cmpR op_ne (pe_ix ix_list (pv 2) (pe_un un_neg pe_int) (fun _ _ => rfl)) pe_str (nomark _)))
      (pss_cons (ps_by (tInit K) (ps_if (pt_not (pt_val (pv 3))) (pss_one (ps_set (i := 2) scParsedPath.nd rfl (Or.inl rfl) (pe_slice sl_list (pv 2) po_none (po_some (pe_un un_neg pe_int))))) pss_nil) (fun D σ H h => ?init))
      (pss_cons (ps_set (i := 5) scParsedPath.nd rfl (Or.inl rfl) (pe_callTy call_tuple_of (by rfl) B.tuple_ (by decide +kernel) (pa_cons (pe_lc (own := [("part", 4)]) (g := gName 4) (tt := tYes) rfl scParsedPath.nd (pi_seq (pv 2))
          (blkOk_by (own := [("part", 4)]) (N := ["text", "is_free", "parts", "is_exact", "part", "entries"]) (sc := defScope sParsedPath) (by decide +kernel))
          (fun _ _ _ _ _ => (pg_name (i := 4) scParsedPath.nd rfl (Or.inl rfl))) (fun _ _ _ _ _ => pts_nil)
          (fun _ _ _ _ _ => (pe_ifExp (pt_val (pe_call is_wordS.g (hr.mono (by decide)) rfl is_wordS.mg is_wordS.kp is_wordS.b .nil pass0 (pa_cons (pv 4) pa_nil))) (pv 4) (pe_call hole_in.g (hr.mono (by decide)) rfl hole_in.mg hole_in.kp hole_in.b .nil pass0 (pa_cons (pv 4) (pa_cons (pv 1) pa_nil)))))) pa_nil)))
      (pss_one (ps_ret (pe_ifExp (pt_cmpR op_in_seq pe_non (pv 5) (by with_unfolding_all rfl)) pe_non (pe_tup (pa_cons (pv 5) (pa_cons (pv 3) pa_nil)))))))))))), ?_⟩
    case init =>
      obtain ⟨a, ps, x, s0, s1, s4, s5, rfl, ha, l0, k⟩ := h
      refine ⟨_, rfl, _, rfl, if_is (fun e => ?_) (fun e => ?_)⟩
      · cases x with
        | true => cases e
        | false =>
          refine ⟨_, rfl, 1, rfl, -1, rfl, a, _, rfl, ha, fun b nb => ?_⟩
          refine k b _ (same_new nb) (.inl (.inl ?_))
          rw [upd_same, cut_init (by rw [List.length_map]; exact l0), ← List.map_dropLast]
          rfl
      · cases x with
        | false => cases e
        | true => exact k a H (Same.refl H) ha
    refine ⟨_, rfl, rfl, _, rfl, if_is (fun e => ?_) (fun e => ?_)⟩
    · have e' : t = slash := V.str.inj (of_decide_eq_true e)
      refine ⟨Nat.zero_le _, fun tp nt => ⟨by show 2 ≤ sizeLine; decide, fun p np => ?_⟩⟩
      have s1 : Same H (upd H tp (.tup [])) := same_new nt
      refine q _ _ (s1.trans (same_new np)) ?_
      unfold pathP
      rw [if_pos e']
      exact ⟨p, tp, rfl, .inl (.inl upd_same), .inl (.inl (same_new np _ _ upd_same))⟩
    · have e' : ¬ t = slash := fun z => by
        rw [z] at e
        cases of_decide_eq_false e rfl
      refine ⟨_, rfl, ⟨_, rfl⟩, t, slash, rfl, rfl, _, rfl, ?_⟩
      cases c : Txt.startswith t slash with
      | false =>
        refine iteT (q _ _ (Same.refl H) ?_)
        unfold pathP
        rw [if_neg e', c]
        rfl
      | true =>
        have hp : pathP t = partsP (Txt.split (Txt.slice t (some 1) none) slash) := by
          unfold pathP
          rw [if_neg e', if_pos c]
        rw [hp] at q
        clear hp
        refine iteF ?_
        have hsl : (Txt.slice t (some 1) none).length ≤ 100000 := by
          rw [← C8.cutS_slice]
          exact Nat.le_trans (cutS_length _ _ _) hl
        refine ⟨_, rfl, _, rfl, t, rfl, size_ok (by omega), ⟨_, rfl⟩, _, slash, rfl, rfl, rfl, size_ok (by omega), fun a na => ?_⟩
        obtain ⟨ps, eps⟩ : ∃ ps, Txt.split (Txt.slice t (some 1) none) slash = ps := ⟨_, rfl⟩
        have lps : 1 ≤ ps.length ∧ ps.length ≤ 100002 := by
          have := PyProof.Rows.fact_split (Txt.slice t (some 1) none) slash
          rw [eps] at this
          omega
        have short : ∀ p ∈ ps, p.length ≤ 1000000 := fun p hp => by
          have := PyProof.Rows.part_short (x := Txt.slice t (some 1) none) (y := slash) (by rw [eps]; exact hp)
          omega
        rw [eps] at q ⊢
        obtain ⟨z, hz⟩ : ∃ z, ps.getLast? = some z := by
          cases hz : ps.getLast? with
          | some z => exact ⟨z, rfl⟩
          | none =>
            rw [List.getLast?_eq_none_iff] at hz
            rw [hz] at lps
            exact absurd lps.1 (by decide)
        have ha : SqL K (upd H a (.lst (ps.map V.str))) a (ps.map V.str) := .inl (.inl upd_same)
        have s1 : Same H (upd H a (.lst (ps.map V.str))) := same_new na
        generalize upd H a (.lst (ps.map V.str)) = G at ha s1 ⊢
        refine ⟨_, rfl, 1, rfl, a, _, -1, .str z, rfl, rfl, ha, at_last (by rw [List.getLast?_map, hz]; rfl), rfl, ?_⟩
        have ex : (!decide (V.str z = V.str dots)) = !decide (ps.getLast? = some dots) := by
          rw [hz]
          congr 1
          exact decide_eq_decide.mpr ⟨fun e => by rw [V.str.inj e], fun e => by rw [Option.some.inj e]⟩
        refine ⟨a, ps, !decide (ps.getLast? = some dots), some (.str t), some (.bl false), none, none, ?_, ha, lps.1, fun b G2 s2' hb => ?_⟩
        · show _ = _
          rw [← ex]
          rfl
        have hx : ∀ x : Bool, (!decide (ps.getLast? = some dots)) = x → x = true ∨ x = false := fun x _ => by cases x <;> simp
        obtain ⟨qs, eqs⟩ : ∃ qs, (if (!decide (ps.getLast? = some dots)) = true then ps else ps.dropLast) = qs := ⟨_, rfl⟩
        have shortQ : ∀ p ∈ qs, p.length ≤ 1000000 := fun p hp => by
          rw [← eqs] at hp
          split at hp
          · exact short p hp
          · exact short p (List.dropLast_subset _ hp)
        have lqs : qs.length ≤ 100002 := by
          rw [← eqs]
          split
          · exact lps.2
          · rw [List.length_dropLast]
            omega
        have hpp : partsP ps = if qs.all (fun p => (entP p).isSome) = true then some (qs.filterMap entP, !decide (ps.getLast? = some dots)) else none := by
          rw [← eqs]
          rfl
        rw [eqs] at hb
        rw [hpp] at q
        clear hpp ex hz
        obtain ⟨x, hxx⟩ : ∃ x, (!decide (ps.getLast? = some dots)) = x := ⟨_, rfl⟩
        rw [hxx] at q ⊢
        refine ⟨_, rfl, ?_⟩
        refine seq_mapL (.inl hb) (by rw [List.length_map]; omega) (fun _ => true) (fun v => match v with | .str p => optE (entP p) | v => v) ?hw (fun v hm H2 s2 => ⟨fun R hR => no_test hR, fun _ H3 s3 R hR => ?_⟩) fun D H2 nD hD s2 => ?_
        case hw => intro _; rfl
        · obtain ⟨p, hp, rfl⟩ := List.mem_map.mp hm
          have q3 : R (optE (entP p)) H3 := hR H3 (Same.refl H3)
          unfold entP at q3
          refine ⟨_, rfl, p, rfl, shortQ p hp, _, rfl, if_is (fun e1 => ?_) (fun e1 => ?_)⟩
          · rw [if_pos e1] at q3
            exact ⟨_, rfl, q3⟩
          · rw [if_neg (by rw [e1]; decide)] at q3
            exact ⟨_, rfl, _, rfl, p, rfl, q3⟩
        · have hD' : H2 D = some (.lst (qs.map fun p => optE (entP p))) := by
            rw [hD, filter_yes, List.map_map]
            rfl
          refine ⟨D, _, rfl, .inl ⟨.inl (.inl hD'), fun l nl => ?_⟩⟩
          have s3 : Same H2 (upd H2 l (.tup (qs.map fun p => optE (entP p)))) := same_new nl
          have hl2 : SqT K (upd H2 l (.tup (qs.map fun p => optE (entP p)))) l (qs.map fun p => optE (entP p)) := .inl (.inl upd_same)
          have sA := ((s1.trans s2').trans s2).trans s3
          generalize upd H2 l (.tup (qs.map fun p => optE (entP p))) = H3 at hl2 s3 sA ⊢
          refine ⟨_, rfl, l, _, rfl, .inr hl2, rfl, all_flat qs, _, rfl, ?_⟩
          rw [if_neg (by decide), none_in]
          cases c2 : qs.all (fun p => (entP p).isSome) with
          | false =>
            rw [c2, if_neg (by decide)] at q
            exact iteT (q _ _ sA rfl)
          | true =>
            rw [c2, if_pos rfl] at q
            rw [ents_of c2] at hl2
            refine iteF ⟨_, rfl, _, rfl, by show 2 ≤ sizeLine; decide, fun p np => ?_⟩
            exact q _ _ (sA.trans (same_new np)) ⟨p, l, rfl, .inl (.inl upd_same), same_seqT (same_new np) hl2⟩
end
end RL

namespace RL
open PySem L2 SX AddrMath VA
abbrev stays : Str := "stays"
abbrev toward : Str := "to"
/-- what a text of a rule says: state, pattern, goal, whether it is exact -/
abbrev Said := Str × List PyData × Option (Str × List PyData) × Bool
def isShort : List Str → Bool
  | [_, _, c] => decide (c = stays)
  | _ => false
def isLong : List Str → Bool
  | [_, _, c, d, _] => decide (c = toward) && isW d.cps.toList
  | _ => false
def sidesP (a b : Str) (g : Option (Str × Str)) : Option Said := match pathP b with
  | none => none
  | some (ds, x) => if isW a.cps.toList = true then (match g with
      | none => some (a, ds, none, x)
      | some (d, e) => match pathP e with
        | none => none
        | some (es, y) => if y = x then some (a, ds, some (d, es), x) else none) else none
def lineP : List Str → Option Said
  | [a, b, c] => if c = stays then sidesP a b none else none
  | [a, b, c, d, e] => if (decide (c = toward) && isW d.cps.toList) = true then sidesP a b (some (d, e)) else none
  | _ => none
def ruleP (z : Str) : Option Said := lineP (Txt.split z blank)
def readP : V → Option Said
  | .str z => ruleP z
  | _ => none
def GoalV (K : PySem.W.Frag) (H : Hp) : Option (Str × List PyData) → V → Prop
  | none, v => v = .non
  | some (d, es), v => ∃ g te, v = .ref g ∧ SqT K H g [.str d, .ref te] ∧ SqT K H te (es.map entV)
def SaidV (K : PySem.W.Frag) (H : Hp) : Option Said → V → Prop
  | none, v => v = .non
  | some (a, ds, g, x), v => ∃ p tp gv, v = .ref p ∧ SqT K H p [.str a, .ref tp, gv, .bl x] ∧ SqT K H tp (ds.map entV) ∧ GoalV K H g gv
theorem GoalV.same {K : PySem.W.Frag} {H H' : Hp} {o : Option (Str × List PyData)} {v : V} (h : GoalV K H o v) (s : Same H H') : GoalV K H' o v := by
  match o, h with
  | none, h => exact h
  | some (d, es), ⟨g, te, e, h1, h2⟩ => exact ⟨g, te, e, same_seqT s h1, same_seqT s h2⟩
theorem SaidV.same {K : PySem.W.Frag} {H H' : Hp} {o : Option Said} {v : V} (h : SaidV K H o v) (s : Same H H') : SaidV K H' o v := by
  match o, h with
  | none, h => exact h
  | some (a, ds, g, x), ⟨p, tp, gv, e, h1, h2, h3⟩ => exact ⟨p, tp, gv, e, same_seqT s h1, same_seqT s h2, h3.same s⟩
theorem line_other {ps : List Str} (h3 : ps.length ≠ 3) (h5 : ps.length ≠ 5) : isShort ps = false ∧ isLong ps = false ∧ lineP ps = none := by
  match ps, h3, h5 with
  | [], _, _ => exact ⟨rfl, rfl, rfl⟩
  | [_], _, _ => exact ⟨rfl, rfl, rfl⟩
  | [_, _], _, _ => exact ⟨rfl, rfl, rfl⟩
  | [_, _, _], h, _ => exact absurd rfl h
  | [_, _, _, _], _, _ => exact ⟨rfl, rfl, rfl⟩
  | [_, _, _, _, _], _, h => exact absurd rfl h
  | _ :: _ :: _ :: _ :: _ :: _ :: _, _, _ => exact ⟨rfl, rfl, rfl⟩
/-- what a line of the one or the other kind has in its places -/
theorem line_cases (ps : List Str) : (isShort ps = false ∧ isLong ps = false ∧ lineP ps = none) ∨
    ∃ (a b : Str) (g : Option (Str × Str)), atI (ps.map V.str) 0 = some (V.str a) ∧ atI (ps.map V.str) 1 = some (V.str b) ∧ a ∈ ps ∧ b ∈ ps ∧ lineP ps = sidesP a b g ∧
      ((isShort ps = true ∧ g = none) ∨ (isShort ps = false ∧ isLong ps = true ∧ ∃ d e, g = some (d, e) ∧ atI (ps.map V.str) 3 = some (V.str d) ∧ atI (ps.map V.str) 4 = some (V.str e) ∧ e ∈ ps)) := by
  match ps with
  | [] => exact .inl ⟨rfl, rfl, rfl⟩
  | [_] => exact .inl ⟨rfl, rfl, rfl⟩
  | [_, _] => exact .inl ⟨rfl, rfl, rfl⟩
  | [a, b, c] =>
    by_cases h : c = stays
    · refine .inr ⟨a, b, none, rfl, rfl, by simp, by simp, if_pos h, .inl ⟨decide_eq_true h, rfl⟩⟩
    · exact .inl ⟨decide_eq_false h, rfl, if_neg h⟩
  | [_, _, _, _] => exact .inl ⟨rfl, rfl, rfl⟩
  | [a, b, c, d, e] =>
    cases h : decide (c = toward) && isW d.cps.toList with
    | true => exact .inr ⟨a, b, some (d, e), rfl, rfl, by simp, by simp, if_pos h, .inr ⟨rfl, h, d, e, rfl, rfl, rfl, by simp⟩⟩
    | false => exact .inl ⟨rfl, h, if_neg (by rw [h]; decide)⟩
  | _ :: _ :: _ :: _ :: _ :: _ :: _ => exact .inl ⟨rfl, rfl, rfl⟩
section
variable {P : Program} {w : World} {K : PySem.W.Frag} {mg : Str → Option Value} {base : Heap}
/-! ### parsed: slots text 0, is_free 1, parts 2, is_short 3, side 4, pattern 5, is_exact 6 -/
abbrev sParsed : Stmt := top 42
theorem scParsed : FnScope ["text", "is_free", "parts", "is_short", "side", "pattern", "is_exact"] ["text", "is_free"] (defScope sParsed) := ⟨rfl, rfl, rfl, by decide +kernel, rfl, by decide +kernel, by decide +kernel⟩
/-- a text that is not too long, or what is no text -/
def TextOr (K : PySem.W.Frag) (H : Hp) (v : V) : Prop := (∃ d, Vx K H v d ∧ isStrD d = false) ∨ ∃ z, v = .str z ∧ z.length ≤ 4000
def spParsed (K : PySem.W.Frag) : Sp := fun vs H Q _ => ∃ v, vs = [v, .bl false] ∧ TextOr K H v ∧ ∀ u H', Same H H' → SaidV K H' (readP v) u → Q u H'
/-- whether the parts are a short line -/
def tShort (K : PySem.W.Frag) : TE := fun σ H Q => ∃ (a : Addr) (ps : List Str), σ[2]? = some (some (.ref a)) ∧ SqL K H a (ps.map V.str) ∧ Q (.bl (isShort ps)) H
/-- whether they are none at all -/
def tNoLine (K : PySem.W.Frag) : TT := fun σ H R => ∃ (a : Addr) (ps : List Str), σ[2]? = some (some (.ref a)) ∧ σ[3]? = some (some (.bl (isShort ps))) ∧ SqL K H a (ps.map V.str) ∧ (∀ p ∈ ps, p.length ≤ 1000000) ∧ R (!isShort ps && !isLong ps) H
theorem ok_parsed {f : Addr} {fd : FuncData} (F : Fun K "parsed" "parsed" sParsed f fd) (B : Blt mg) (is_wordS : Own P w K mg base CX0 1 "is_word" ["value"] spIsWordS) (parsed_path : Own P w K mg base CX0 3 "parsed_path" ["text", "is_free"] (spParsedPath K)) :
    FnOk P w K mg base CX0 4 f fd ["text", "is_free"] (spParsed K) := by
  refine F.ok scParsed (fun vs H Q E h => ?_) (fun cdv A outer s H vs Q E hr h => ?_)
  · obtain ⟨v, rfl, _⟩ := h
    rfl
  · obtain ⟨v, rfl, hv, q⟩ := h
    refine ⟨_, (pss_cons (ps_if (pt_not (pt_val (pe_callB call_isi (by rfl) B.isinstance_ (by decide +kernel) (pa_cons (pv 0) (pa_cons (pe_bltn (v := .ty "str") (by rfl) B.str_ (by decide +kernel) rfl) pa_nil))))) (pss_one (ps_ret pe_non)) pss_nil)
      (pss_cons (ps_set (i := 2) scParsed.nd rfl (Or.inl rfl) (pe_split (pv 0) pe_str))
      (pss_cons (ps_set (i := 3) scParsed.nd rfl (Or.inl rfl) (pe_by (tShort K) (pe_and (pe_cmpR op_eq (pe_callB call_len (by rfl) B.len_ (by decide +kernel) (pa_cons (pv 2) pa_nil)) pe_int (nomark _)) (pe_one (pe_cmpR op_eq (pe_ix ix_list (pv 2) pe_int (fun _ _ => rfl)) pe_str (nomark _)))) (fun σ H Q h => ?short)))
      (pss_cons (ps_if (pt_by (tNoLine K) (PW.pt (pw_and (pt_not (pt_val (pv 3))) (pw_and1 (pt_not (PW.pt (pw_and (pt_cmpR op_eq (pe_callB call_len (by rfl) B.len_ (by decide +kernel) (pa_cons (pv 2) pa_nil)) pe_int (nomark _)) (pw_and (pt_cmpR op_eq (pe_ix ix_list (pv 2) pe_int (fun _ _ => rfl)) pe_str (nomark _)) (pw_and1 (pt_val (pe_call is_wordS.g (hr.mono (by decide)) rfl is_wordS.mg is_wordS.kp is_wordS.b .nil pass0 (pa_cons (pe_ix ix_list (pv 2) pe_int (fun _ _ => rfl)) pa_nil))))))))))) (fun σ H R h => ?noline)) (pss_one (ps_ret pe_non)) pss_nil)
      (pss_cons (ps_set (i := 4) scParsed.nd rfl (Or.inl rfl) (pe_call parsed_path.g (hr.mono (by decide)) rfl parsed_path.mg parsed_path.kp parsed_path.b .nil pass0 (pa_cons (pe_ix ix_list (pv 2) pe_int (fun _ _ => rfl)) (pa_cons (pv 1) pa_nil))))
      (pss_cons (ps_if (PW.pt (pw_or (pt_cmpR op_isN (pv 4) pe_non (nomark _)) (pw_or1 (pt_not (pt_val (pe_call is_wordS.g (hr.mono (by decide)) rfl is_wordS.mg is_wordS.kp is_wordS.b .nil pass0 (pa_cons (pe_ix ix_list (pv 2) pe_int (fun _ _ => rfl)) pa_nil))))))) (pss_one (ps_ret pe_non)) pss_nil)
      (pss_cons (ps_asg (pv 4) (pg_tup rfl (pgs_cons (pg_name (i := 5) scParsed.nd rfl (Or.inl rfl)) (pgs_cons (pg_name (i := 6) scParsed.nd rfl (Or.inl rfl)) pgs_nil))))
      (pss_cons (ps_if (pt_val (pv 3)) (pss_one (ps_ret (pe_tup (pa_cons (pe_ix ix_list (pv 2) pe_int (fun _ _ => rfl)) (pa_cons (pv 5) (pa_cons pe_non (pa_cons (pv 6) pa_nil))))))) pss_nil)
      (pss_cons (ps_set (i := 4) scParsed.nd rfl (Or.inl rfl) (pe_call parsed_path.g (hr.mono (by decide)) rfl parsed_path.mg parsed_path.kp parsed_path.b .nil pass0 (pa_cons (pe_ix ix_list (pv 2) pe_int (fun _ _ => rfl)) (pa_cons (pv 1) pa_nil))))
      (pss_cons (ps_if (PW.pt (pw_or (pt_cmpR op_isN (pv 4) pe_non (nomark _)) (pw_or1 (pt_cmpR op_ne (pe_ix ix_tup (pv 4) pe_int (fun _ _ => rfl)) (pv 6) (nomark _))))) (pss_one (ps_ret pe_non)) pss_nil)
      (pss_one (ps_ret (pe_tup (pa_cons (pe_ix ix_list (pv 2) pe_int (fun _ _ => rfl)) (pa_cons (pv 5) (pa_cons (pe_tup (pa_cons (pe_ix ix_list (pv 2) pe_int (fun _ _ => rfl)) (pa_cons (pe_ix ix_tup (pv 4) pe_int (fun _ _ => rfl)) pa_nil))) (pa_cons (pv 6) pa_nil))))))))))))))))), ?_⟩
    case short =>
      obtain ⟨a, ps, e2, ha, k⟩ := h
      refine ⟨_, e2, _, ps.length, rfl, .inl ⟨_, ha, (List.length_map ..).symm⟩, rfl, _, rfl, if_is (fun e => ?_) (fun e => ?_)⟩
      · have l3 : ps.length = 3 := by
          have := V.int.inj (of_decide_eq_true e)
          omega
        match ps, l3 with
        | [x, y, z], _ =>
          refine ⟨_, e2, a, _, 2, .str z, rfl, rfl, ha, rfl, rfl, ?_⟩
          have : decide (V.str z = V.str stays) = decide (z = stays) := decide_eq_decide.mpr ⟨V.str.inj, fun e => by rw [e]⟩
          rw [this]
          exact k
      · have l3 : ps.length ≠ 3 := fun z => by
          rw [z] at e
          cases e
        have : isShort ps = false := by
          match ps, l3 with
          | [], _ => rfl
          | [_], _ => rfl
          | [_, _], _ => rfl
          | [_, _, _], h => exact absurd rfl h
          | _ :: _ :: _ :: _ :: _, _ => rfl
        rw [this] at k
        exact k
    case noline =>
      obtain ⟨a, ps, e2, e3, ha, sh, k⟩ := h
      refine ⟨_, e3, _, rfl, ?_⟩
      cases c : isShort ps with
      | true =>
        rw [c] at k
        exact k
      | false =>
        rw [c] at k
        refine ⟨_, e2, _, ps.length, rfl, .inl ⟨_, ha, (List.length_map ..).symm⟩, rfl, _, rfl, ?_⟩
        cases e : decide (V.int (ps.length : Int) = V.int 5) with
        | true =>
          have l5 : ps.length = 5 := by
            have := V.int.inj (of_decide_eq_true e)
            omega
          match ps, l5 with
          | [x, y, z, u, v], _ =>
            refine ⟨_, e2, a, _, 2, .str z, rfl, rfl, ha, rfl, rfl, _, rfl, ?_⟩
            have : decide (V.str z = V.str toward) = decide (z = toward) := decide_eq_decide.mpr ⟨V.str.inj, fun e => by rw [e]⟩
            rw [this]
            have k' : R (!(decide (z = toward) && isW u.cps.toList)) H := k
            cases c2 : decide (z = toward) with
            | false =>
              rw [c2] at k'
              exact k'
            | true =>
              rw [c2, Bool.true_and] at k'
              refine ⟨_, e2, a, _, 3, .str u, rfl, rfl, ha, rfl, u, rfl, sh u (by simp), _, rfl, ?_⟩
              cases c3 : isW u.cps.toList with
              | false =>
                rw [c3] at k'
                exact k'
              | true =>
                rw [c3] at k'
                exact k'
        | false =>
          have l5 : ps.length ≠ 5 := fun z => by
            rw [z] at e
            cases e
          have : isLong ps = false := by
            match ps, l5 with
            | [], _ => rfl
            | [_], _ => rfl
            | [_, _], _ => rfl
            | [_, _, _], _ => rfl
            | [_, _, _, _], _ => rfl
            | [_, _, _, _, _], h => exact absurd rfl h
            | _ :: _ :: _ :: _ :: _ :: _ :: _, _ => rfl
          rw [this] at k
          exact k
    rcases hv with ⟨d, hv, ns⟩ | ⟨z, rfl, hz⟩
    · refine ⟨_, rfl, _, _, _, _, isStrD d, rfl, .ty "str", hv.ty, kitStr d, _, rfl, ?_⟩
      rw [ns]
      refine iteT (q _ _ (Same.refl H) ?_)
      have : readP v = none := by
        rcases hv with ⟨h, _⟩ | ⟨a, kvs, rfl, _⟩
        · cases h <;> first | rfl | cases ns
        · rfl
      rw [this]
      rfl
    · have q' : ∀ (u : V) (H' : Hp), Same H H' → SaidV K H' (ruleP z) u → Q u H' := q
      clear q
      refine ⟨_, rfl, _, _, _, _, true, rfl, .ty "str", .base (.str z), kitStr (.str z), _, rfl, iteF ?_⟩
      refine ⟨_, rfl, ⟨_, rfl⟩, z, blank, rfl, rfl, rfl, size_ok (by omega), fun a na => ?_⟩
      unfold ruleP at q'
      have short : ∀ p ∈ Txt.split z blank, p.length ≤ 100000 := fun p hp => by
        have := PyProof.Rows.part_short hp
        omega
      generalize Txt.split z blank = ps at q' short ⊢
      have ha : SqL K (upd H a (.lst (ps.map V.str))) a (ps.map V.str) := .inl (.inl upd_same)
      have s1 : Same H (upd H a (.lst (ps.map V.str))) := same_new na
      generalize upd H a (.lst (ps.map V.str)) = G at ha s1 ⊢
      refine ⟨a, ps, rfl, ha, a, ps, rfl, rfl, ha, fun p hp => Nat.le_trans (short p hp) (by decide), ?_⟩
      rcases line_cases ps with ⟨h1, h2, h3⟩ | ⟨x, y, g, ax, ay, mx, my, hl, hg⟩
      · rw [h1, h2]
        refine iteT (q' _ _ s1 ?_)
        rw [h3]
        rfl
      have some_line : (!isShort ps && !isLong ps) = false := by
        rcases hg with ⟨h, _⟩ | ⟨_, h, _⟩
        · rw [h]
          rfl
        · rw [h, Bool.not_true, Bool.and_false]
      rw [some_line]
      rw [hl] at q'
      refine iteF ?_
      refine ⟨_, rfl, a, _, 1, .str y, rfl, rfl, ha, ay, _, rfl, y, rfl, short y my, fun u H2 s2 hu => ?_⟩
      have ha2 := s2.seq ha
      have sA := s1.trans s2
      unfold sidesP at q'
      refine ⟨_, rfl, rfl, _, rfl, ?_⟩
      cases hp : pathP y with
      | none =>
        rw [hp] at hu q'
        obtain rfl : u = .non := hu
        exact iteT (iteT (q' _ _ sA rfl))
      | some dx =>
        obtain ⟨ds, b⟩ := dx
        rw [hp] at hu q'
        obtain ⟨p, tp, rfl, hp1, hp2⟩ := hu
        refine iteF ⟨_, rfl, a, _, 0, .str x, rfl, rfl, ha2, ax, x, rfl, Nat.le_trans (short x mx) (by decide), _, rfl, ?_⟩
        dsimp only at q'
        cases hw : isW x.cps.toList with
        | false =>
          rw [hw] at q'
          exact iteT (q' _ _ sA rfl)
        | true =>
          rw [hw, if_pos rfl] at q'
          refine iteF ?_
          refine ⟨_, rfl, p, [.ref tp, .bl b], rfl, hp1, rfl, _, _, rfl, _, _, rfl, rfl, ?_⟩
          refine ⟨_, rfl, _, rfl, ?_⟩
          rcases hg with ⟨g1, rfl⟩ | ⟨g1, _, d, e, rfl, ad, ae, me⟩
          · rw [g1]
            refine iteT ⟨_, rfl, a, _, 0, .str x, rfl, rfl, ha2, ax, _, rfl, _, rfl, by show 4 ≤ sizeLine; decide, fun r nr => ?_⟩
            exact q' _ _ (sA.trans (same_new nr)) ⟨r, tp, .non, rfl, .inl (.inl upd_same), same_seqT (same_new nr) hp2, rfl⟩
          · rw [g1]
            refine iteF ?_
            refine ⟨_, rfl, a, _, 4, .str e, rfl, rfl, ha2, ae, _, rfl, e, rfl, short e me, fun u2 H3 s3 hu2 => ?_⟩
            have sB := sA.trans s3
            have ha3 := s3.seq ha2
            dsimp only at q'
            refine ⟨_, rfl, rfl, _, rfl, ?_⟩
            cases hp3 : pathP e with
            | none =>
              rw [hp3] at hu2 q'
              obtain rfl : u2 = .non := hu2
              exact iteT (iteT (q' _ _ sB rfl))
            | some dx2 =>
              obtain ⟨es, b2⟩ := dx2
              rw [hp3] at hu2 q'
              obtain ⟨p2, tp2, rfl, hp21, hp22⟩ := hu2
              dsimp only at q'
              refine iteF ⟨_, rfl, p2, _, 1, .bl b2, rfl, rfl, hp21, rfl, _, rfl, rfl, _, rfl, ?_⟩
              by_cases hb : b2 = b
              · subst hb
                rw [if_pos rfl] at q'
                rw [decide_eq_true (rfl : V.bl b2 = V.bl b2)]
                refine iteF ?_
                refine ⟨_, rfl, a, _, 0, .str x, rfl, rfl, ha3, ax, _, rfl, _, rfl, a, _, 3, .str d, rfl, rfl, ha3, ad, _, rfl, p2, _, 0, .ref tp2, rfl, rfl, hp21, rfl, by show 2 ≤ sizeLine; decide, fun r nr => ?_⟩
                have s4 := same_new (o := .tup [.str d, .ref tp2]) nr
                refine ⟨_, rfl, by show 4 ≤ sizeLine; decide, fun r2 nr2 => ?_⟩
                have s5 := same_new (o := .tup [.str x, .ref tp, .ref r, .bl b2]) nr2
                have s45 := s4.trans s5
                exact q' _ _ (sB.trans s45) ⟨r2, tp, .ref r, rfl, .inl (.inl upd_same), same_seqT (s3.trans s45) hp2, r, tp2, rfl, .inl (.inl (s5 _ _ upd_same)), same_seqT s45 hp22⟩
              · rw [if_neg hb] at q'
                rw [decide_eq_false (fun z => hb (V.bl.inj z) : ¬ V.bl b2 = V.bl b)]
                exact iteT (q' _ _ sB rfl)
end
end RL

/-! A class method called by the class, and the class made through a local name with keywords; what they let out is wished for at the caller's slots. -/
namespace VA
open PySem L2 SX AddrMath PySem.Spec PyProof.Rows
section
variable {X : Cx} {CX : CXT} {k i n : Nat} {C f g p : Addr} {fd : FuncData} {ps ks names : List Str} {sp : Sp} {mc : Value} {x m : Str} {np pos apos : Pos} {o e : Expr} {es : List Expr} {kws : List Keyword} {ta : TE} {t tk : TA} {dvs : List V} {ds : List Value}
/-- x(e, .., k = v), x a local name that holds the class at C -/
def tMakeLK (i : Nat) (C : Addr) (n m : Nat) (sp : Sp) (gV : List V → List V → List V) (E : L2.St → XK) (t tk : TA) : TE := fun σ H Q => σ[i]? = some (some (.ref C)) ∧ tMakeNS C n m sp gV E t tk σ H Q
theorem pe_makeLK {E : L2.St → XK} {gk : List Value → List Value → List Value} {gV : List V → List V → List V} (M : Mk X.K C f) (D : FnOk X.prog X.w X.K X.mg X.base CX k f fd names sp) (room : Room (k + 1) X.A) (at_ : X.N[i]? = some x) (vis : Vis X.env.scope x) (bn : KBn X.K fd names (n + 1) ks gk gV) (pa : ∀ σ, PassesAt CX X σ (E σ))
    (args : PA X (e :: es) t) (keys : PK X kws tk) (named : (backToKw pos (keywordEach kws X.env)).all (·.1.isSome) = true := by rfl) (names_ : (backToKw pos (keywordEach kws X.env)).filterMap (·.1) = ks := by rfl)
    (d1 : (x == ("__debug__" : Str)) = false := by decide) (d2 : (x == ("__classdict__" : Str)) = false := by decide) (st : starEach (e :: es) X.env = (false, eval e X.env) :: starEach es X.env := by rfl)
    (plain : ((backTo pos (starEach (e :: es) X.env)).any (·.1) || (backToKw pos (keywordEach kws X.env)).any (·.1.isNone)) = false := by rfl) :
    PE X (.Call (.Name x np) (e :: es) kws pos) (tMakeLK i C n ks.length sp gV E t tk) := by
  refine ⟨fun pins s σ H Q I hh => ?_⟩
  refine wpAny_Call_Name_kw (thn ((pe_var (pos := np) at_ vis d1 d2).run pins s σ H (fun v H1 => v = .ref C ∧ H1 = H) I ⟨.ref C, hh.1, rfl, rfl⟩) fun u s0 ⟨v, H0, I0, r0, ev, eH⟩ => ?_)
  subst ev eH
  cases r0
  refine PySem.W.callWith_KW (h₀ := X.base) I0.ok.mod.kin M.kp named (thn (args.run pos pins s0 σ _ _ I0 hh.2) fun us s1 ⟨vs, H1, I1, rv, q⟩ => ?_) plain st
  refine thn (keys.run pos pins s1 σ H1 _ I1 q) fun ws s2 ⟨zs, H2, I2, rz, l1, l2, q2⟩ => ⟨I2.kIn, ?_⟩
  rw [names_]
  exact make_kS M D room bn (pa σ) I2 rv rz l1 l2 q2
/-- a class method's call, what it lets out wished for at the caller's slots -/
theorem run_cmS {pins : List (Addr × Obj)} {σ : L2.St} {H : Hp} {s : Shared} {E : L2.St → XK} {Q : VK} {q : Addr} {us : List Value} {vs : List V} (Fo : FnOk X.prog X.w X.K X.mg X.base CX k g fd ps sp) (room : Room k X.A) (bi : Binds X.K fd ps []) (pa : PassesAt CX X σ (E σ))
    (I : Inv X ((q, PySem.W.methodObj (.ref g) (.ref C)) :: pins) σ H s) (rv : Vals vs us) (w : sp (.ref C :: vs) H Q (E σ)) : wpAny (model X.prog X.w) X.A (call (.ref q) us) (EP X pins σ Q) X.xe s := by
  have rv' : Vals (V.ref C :: vs) (Value.ref C :: us) := .cons rfl rv
  have b := bi s (.ref C :: us) I.kIn (by rw [List.append_nil, ← rv'.length]; exact Fo.len _ _ _ _ w)
  rw [List.append_nil] at b
  refine thn (wpAny_call (PySem.W.method_call (ClX.pin_at I) (codeAny_mono (Fo.run X.A X.stack s H ⟨.ref C :: us, []⟩ (.ref C :: us) (.ref C :: vs) Q (E σ) room I.env0 b rv' w) fun r s' hq => ?_))) fun _ _ y => ClX.unpinE (p := (q, PySem.W.methodObj (.ref g) (.ref C))) y
  match r, hq with
  | .error er, hq => exact pa _ _ _ _ _ I hq
  | .ok (.ret u), hq => exact I.after hq
  | .ok .next, hq => exact False.elim hq
  | .ok .brk, hq => exact False.elim hq
  | .ok .cont, hq => exact False.elim hq
def tCMethS (C : Addr) (sp : Sp) (E : L2.St → XK) (ta : TE) (t : TA) : TE := fun σ H Q => ta σ H fun v H1 => v = .ref C ∧ t σ H1 fun vs H2 => sp (.ref C :: vs) H2 Q (E σ)
theorem pe_cmethS {E : L2.St → XK} {pl : Sem Bool} (oe : PE X o ta) (rd : ClX.CRead X.K C mc) (cm : ClX.CMet X.K C mc m p g) (Fo : FnOk X.prog X.w X.K X.mg X.base CX k g fd ps sp) (room : Room k X.A) (bi : Binds X.K fd ps []) (pa : ∀ σ, PassesAt CX X σ (E σ)) (args : PA X (e :: es) t)
    (st : starEach (e :: es) X.env = (false, eval e X.env) :: starEach es X.env := by rfl) (pn : (backTo pos (starEach es X.env)).any (·.1) = false := by rfl)
    (tr : eval (.Call (.Attribute o m apos) (e :: es) [] pos) X.env = (eval o X.env >>= fun ov => standAt apos.atName >>= fun _ => holding [ov] (getMethod ov m pl) >>= fun z =>
      callWith pos z.1 z.2 (backTo pos (starEach (e :: es) X.env)) (backToKw pos (keywordEach [] X.env))) := by rfl) :
    PE X (.Call (.Attribute o m apos) (e :: es) [] pos) (tCMethS C sp E ta t) := by
  refine ⟨fun pins s σ H Q I hh => ?_⟩
  refine PySem.W.methodCall_KW (pl := pl) (thn (oe.run pins s σ H _ I hh) fun u s1 ⟨v, H1, I1, rx, ev, q⟩ => ?_) tr
  subst ev
  obtain rfl : u = Value.ref C := rx
  refine ClX.getmethcm_ok I1 rd cm fun s2 I2 => ?_
  refine ClX.callwith_cm I2 (ClX.base_none I1 (Nat.le_refl _)) cm.fi (thn (args.run pos _ s2 σ H1 _ I2 q) fun us s3 ⟨vs, H2, I3, rv, q2⟩ => ⟨⟨ClX.pin_at I3, I3.kIn⟩, ?_⟩) st pn
  exact run_cmS Fo room bi (pa σ) I3 rv q2
end
end VA

namespace RL
open PySem L2 SX AddrMath VA
/-- the data of what a text says -/
def goalSD : Option (Str × List PyData) → PyData
  | none => .none
  | some (d, es) => .tuple [.str d, .tuple es]
/-- what the constructor finds wrong in it -/
def wrongS (s : Said) : Option Str := wrongD (.str s.1) (.tuple s.2.1) (goalSD s.2.2.1) (.bool s.2.2.2)
theorem path_ents {t : Str} {ds : List PyData} {x : Bool} (h : pathP t = some (ds, x)) : ds.all isEntD = true ∧ ds.length ≤ t.length + 2 := by
  unfold pathP at h
  by_cases c : t = slash
  · rw [if_pos c] at h
    obtain ⟨rfl, rfl⟩ := Prod.mk.inj (Option.some.inj h)
    exact ⟨rfl, Nat.zero_le _⟩
  · rw [if_neg c] at h
    by_cases c2 : Txt.startswith t slash = true
    · rw [if_pos c2] at h
      obtain ⟨h1, h2⟩ := partsP_ents h
      refine ⟨h1, Nat.le_trans h2 (Nat.le_trans (PyProof.Rows.fact_split _ _).2 ?_)⟩
      have : (Txt.slice t (some 1) none).length ≤ t.length := by
        rw [← C8.cutS_slice]
        exact cutS_length _ _ _
      omega
    · rw [if_neg c2] at h
      cases h
/-- what is said is of words and entries, and not too long -/
structure Fit (s : Said) : Prop where
  state : isW s.1.cps.toList = true
  ents : s.2.1.all isEntD = true
  few : s.2.1.length ≤ 4002
  goal : ∀ d es, s.2.2.1 = some (d, es) → isW d.cps.toList = true ∧ es.all isEntD = true ∧ es.length ≤ 4002
theorem sides_fit {a b : Str} {g : Option (Str × Str)} {s : Said} (hb : b.length ≤ 4000) (hg : ∀ d e, g = some (d, e) → isW d.cps.toList = true ∧ e.length ≤ 4000) (h : sidesP a b g = some s) : Fit s := by
  unfold sidesP at h
  cases hp : pathP b with
  | none =>
    rw [hp] at h
    cases h
  | some dx =>
    obtain ⟨ds, x⟩ := dx
    rw [hp] at h
    dsimp only at h
    obtain ⟨p1, p2⟩ := path_ents hp
    by_cases c : isW a.cps.toList = true
    · rw [if_pos c] at h
      match g, hg, h with
      | none, _, h =>
        cases h
        exact ⟨c, p1, by show ds.length ≤ 4002; omega, fun d es z => by cases z⟩
      | some (d, e), hg, h =>
        dsimp only at h
        obtain ⟨w1, w2⟩ := hg d e rfl
        cases hp2 : pathP e with
        | none =>
          rw [hp2] at h
          cases h
        | some dx2 =>
          obtain ⟨es, y⟩ := dx2
          rw [hp2] at h
          dsimp only at h
          obtain ⟨p3, p4⟩ := path_ents hp2
          by_cases c2 : y = x
          · rw [if_pos c2] at h
            cases h
            refine ⟨c, p1, by show ds.length ≤ 4002; omega, fun d' es' z => ?_⟩
            obtain ⟨rfl, rfl⟩ := Prod.mk.inj (Option.some.inj z)
            exact ⟨w1, p3, by omega⟩
          · rw [if_neg c2] at h
            cases h
    · rw [if_neg c] at h
      cases h
theorem rule_fit {z : Str} {s : Said} (hz : z.length ≤ 4000) (h : ruleP z = some s) : Fit s := by
  unfold ruleP at h
  have sh : ∀ p ∈ Txt.split z blank, p.length ≤ 4000 := fun p hp => Nat.le_trans (PyProof.Rows.part_short hp) hz
  generalize Txt.split z blank = ps at h sh
  match ps, h, sh with
  | [], h, _ => cases h
  | [_], h, _ => cases h
  | [_, _], h, _ => cases h
  | [a, b, c], h, sh =>
    have h' : (if c = stays then sidesP a b none else none) = some s := h
    by_cases k : c = stays
    · rw [if_pos k] at h'
      exact sides_fit (sh b (by simp)) (fun d e z => by cases z) h'
    · rw [if_neg k] at h'
      cases h'
  | [_, _, _, _], h, _ => cases h
  | [a, b, c, d, e], h, sh =>
    have h' : (if (decide (c = toward) && isW d.cps.toList) = true then sidesP a b (some (d, e)) else none) = some s := h
    by_cases k : (decide (c = toward) && isW d.cps.toList) = true
    · rw [if_pos k] at h'
      refine sides_fit (sh b (by simp)) (fun d' e' z => ?_) h'
      obtain ⟨rfl, rfl⟩ := Prod.mk.inj (Option.some.inj z)
      rw [Bool.and_eq_true] at k
      exact ⟨k.2, sh e (by simp)⟩
    · rw [if_neg k] at h'
      cases h'
  | _ :: _ :: _ :: _ :: _ :: _ :: _, h, _ => cases h
theorem ent_okN {n : Nat} {d : PyData} (h : isEntD d = true) : okD n d = true := by
  have k := ent_ok7 h
  cases d with
  | int i => rw [okD]
  | str z => rw [okD] at k ⊢; exact k
  | _ => cases h
theorem ok_long {n : Nat} {ds : List PyData} (few : ds.length ≤ 4002) (h : ds.all isEntD = true) : okD (n + 1) (.tuple ds) = true := by
  rw [okD, Bool.and_eq_true, Bool.and_eq_true, decide_eq_true_eq, decide_eq_true_eq]
  exact ⟨by omega, by omega, okAll_of fun d hd => ent_okN (List.all_eq_true.mp h d hd)⟩
theorem word_okN {n : Nat} {z : Str} (h : isW z.cps.toList = true) : okD n (.str z) = true := ent_okN (d := .str z) (by
  show (isW z.cps.toList || false) = true
  rw [h]
  rfl)
/-- the goal, as the constructor sees it -/
theorem goal_vx {K : PySem.W.Frag} {H : Hp} {g : Option (Str × List PyData)} {gv : V} (h : GoalV K H g gv) (f : ∀ d es, g = some (d, es) → isW d.cps.toList = true ∧ es.all isEntD = true ∧ es.length ≤ 4002) : Vx K H gv (goalSD g) := by
  match g, h, f with
  | none, h, _ =>
    obtain rfl : gv = .non := h
    exact .inl ⟨.non, by unfold goalSD; rw [okD]⟩
  | some (d, es), h, f =>
    obtain ⟨r, te, rfl, h1, h2⟩ := h
    obtain ⟨f1, f2, f3⟩ := f d es rfl
    refine .inl ⟨.tup h1 (.cons (.str d) (.cons (.tup h2 (ents_dp f2)) .nil)), ?_⟩
    refine (ok_seq (n := 7) (by show 2 ≤ 1000; decide) fun e he => ?_).2
    simp only [List.mem_cons, List.not_mem_nil, or_false] at he
    rcases he with rfl | rfl
    · exact word_okN f1
    · exact ok_long (n := 6) f3 f2
section
variable {P : Program} {w : World} {K : PySem.W.Frag} {mg : Str → Option Value} {base : Heap}
abbrev nIndex : Str := "index"
/-! ### InvalidText.__init__ -/
abbrev sErrT : Stmt := inClass (top 4) 0
theorem scErrT : FnScope ["self", "index"] ["self", "index"] (defScope sErrT) := ⟨rfl, rfl, rfl, by decide +kernel, rfl, by decide +kernel, by decide +kernel⟩
theorem ok_errt {f C fI : Addr} {fd : FuncData} (F : Fun K "__init__" "InvalidText.__init__" sErrT f fd) (T : ErrC K mg "InvalidText" nIndex C fI) : FnOk P w K mg base CX0 1 f fd ["self", "index"] (spErr nIndex C) := by
  refine F.ok scErrT (fun vs H Q E h => ?_) (fun cdv A outer s0 H vs Q E hr h => ?_)
  · obtain ⟨a, v, rfl, _⟩ := h
    rfl
  · obtain ⟨a, v, rfl, ha, q⟩ := h
    exact ⟨_, pss_one (ps_ost (pv 0) (pv 1)), _, rfl, _, rfl, a, C, rfl, T.ox, T.no, .inl ⟨ha, q⟩⟩
/-! ### Rule.read: slots cls 0, text 1, told 2, state 3, pattern 4, goal 5, is_exact 6 -/
abbrev sRuleRead : Stmt := inClass (top 43) 10
theorem scRuleRead : FnScope ["cls", "text", "told", "state", "pattern", "goal", "is_exact"] ["cls", "text"] (defScope sRuleRead) := ⟨rfl, rfl, rfl, by decide +kernel, rfl, by decide +kernel, by decide +kernel⟩
/-- the end of Rule(..) over data: refused with a field, or made -/
def MadeOf (K : PySem.W.Frag) (C CE : Addr) (H : Hp) (s : Said) (Q : VK) (E : XK) : Prop :=
  (∀ f, wrongS s = some f → ∀ d H', Same H H' → H' d = some (.xd (ixF nField (.str f))) → H d = none → E (.ref CE) (some d) H') ∧
  (wrongS s = none → ∀ p H', Same H H' → H p = none → RuleAt K C H' p s.1 (.tuple s.2.1) (goalSD s.2.2.1) s.2.2.2 → Q (.ref p) H')
def spRead (K : PySem.W.Frag) (C CE CT : Addr) : Sp := fun vs H Q E => ∃ v, vs = [.ref C, v] ∧ TextOr K H v ∧
  (readP v = none → ∀ d H', Same H H' → H' d = some (.xd (ixF nIndex (.int 0))) → H d = none → E (.ref CT) (some d) H') ∧
  (∀ s, readP v = some s → MadeOf K C CE H s Q E)
theorem ok_ruleread {f C CE CT fI fT : Addr} {fd fdI fdT : FuncData} {gk : List Value → List Value → List Value} (F : Fun K "read" "Rule.read" sRuleRead f fd) (T : RTxt K mg C) (parsed : Own P w K mg base CX0 4 "parsed" ["text", "is_free"] (spParsed K))
    (TT : ErrC K mg "InvalidText" nIndex CT fT) (GT : FnOk P w K mg base CX0 1 fT fdT ["self", "index"] (spErr nIndex CT)) (bT : Binds K fdT ["self", "index"] [])
    (MI : Mk K C fI) (GI : FnOk P w K mg base (L2.CX P w) 6 fI fdI ["self", "state", "pattern", "goal", "is_exact"] (spRInit K C CE)) (bn : KBn K fdI ["self", "state", "pattern", "goal", "is_exact"] 4 ["is_exact"] gk fun us ws => us ++ ws) :
    FnOk P w K mg base (L2.CX P w) 8 f fd ["cls", "text"] (spRead K C CE CT) := by
  refine F.okX scRuleRead (fun vs H Q E h => ?_) (fun cdv A outer s0 H vs Q E hr h => ?_)
  · obtain ⟨v, rfl, _⟩ := h
    rfl
  · obtain ⟨v, rfl, hv, qT, qS⟩ := h
    have hr2 : Room 2 _ := hr.mono (by decide)
    refine ⟨_, (pss_cons (ps_set (i := 2) scRuleRead.nd rfl (Or.inl rfl) (pe_call parsed.g (hr.mono (by decide)) rfl parsed.mg parsed.kp parsed.b .nil pass0 (pa_cons (pv 1) (pa_cons pe_bl pa_nil))))
      (pss_cons (ps_if (pt_cmpR op_isN (pv 2) pe_non (nomark _)) (pss_one (ps_raise rfl (takes_of rfl rfl rfl rfl) (pmk_oex TT.ox TT.iC TT.tI GT hr2 bT .nil pass0 (by rfl) TT.mgC (by exact (pa_cons pe_int pa_nil))))) pss_nil)
      (pss_cons (ps_asg (pv 2) (pg_tup rfl (pgs_cons (pg_name (i := 3) scRuleRead.nd rfl (Or.inl rfl)) (pgs_cons (pg_name (i := 4) scRuleRead.nd rfl (Or.inl rfl)) (pgs_cons (pg_name (i := 5) scRuleRead.nd rfl (Or.inl rfl)) (pgs_cons (pg_name (i := 6) scRuleRead.nd rfl (Or.inl rfl)) pgs_nil))))))
      (pss_one (ps_ret (pe_makeLK (i := 0) (n := 3) MI GI (hr.mono (by decide)) rfl (.inl rfl) bn (fun σ => passAt (takes_of rfl rfl rfl rfl) σ) (pa_cons (pv 3) (pa_cons (pv 4) (pa_cons (pv 5) pa_nil))) (pk_cons (pv 6) pk_nil))))))), ?_⟩
    refine ⟨_, rfl, v, rfl, hv, fun u H1 s1 hu => ⟨_, rfl, rfl, _, rfl, ?_⟩⟩
    cases hp : readP v with
    | none =>
      rw [hp] at hu
      obtain rfl : u = .non := hu
      refine iteT ⟨by show 1 ≤ 1000; decide, fun a na => err_use na fun d nd => ?_⟩
      exact qT hp d _ (s1.trans (same_new nd)) upd_same (s1.free nd)
    | some s =>
      obtain ⟨z, ds, g, x⟩ := s
      rw [hp] at hu
      obtain ⟨r, tp, gv, rfl, h1, h2, h3⟩ := hu
      obtain ⟨qE, qM⟩ := qS _ hp
      refine iteF ⟨_, rfl, r, _, rfl, h1, rfl, _, _, rfl, _, _, rfl, _, _, rfl, _, _, rfl, rfl, ?_⟩
      refine ⟨rfl, _, rfl, _, rfl, _, rfl, _, rfl, rfl, rfl, fun p dx np nd ne => ?_⟩
      have fit : Fit (z, ds, g, x) := by
        rcases hv with ⟨d, hv, ns⟩ | ⟨z0, rfl, hz⟩
        · exfalso
          have : readP v = none := by
            rcases hv with ⟨h, _⟩ | ⟨a, kvs, rfl, _⟩
            · cases h <;> first | rfl | cases ns
            · rfl
          rw [this] at hp
          cases hp
        · exact rule_fit hz hp
      obtain ⟨f1, f2, f3, f4⟩ := fit
      have sI : Same H1 (upd (upd H1 dx (.own p)) p (.ins C dx [])) := (same_new nd).trans (same_new (by rw [upd_ne (Ne.symm ne)]; exact np))
      have sA := s1.trans sI
      refine ⟨p, dx, .str z, .ref tp, gv, .bl x, .str z, .tuple ds, goalSD g, .bool x, rfl, upd_same, .inl ⟨.str z, word_okN f1⟩, .inl ⟨.tup (same_seqT sI h2) (ents_dp f2), ok_long (n := 7) f3 f2⟩, goal_vx (h3.same sI) f4, .inl ⟨.bl x, by rw [okD]⟩, fun f hf d H' s' hd nd' => ?_, fun z' x' hw ez ex H' fr hR => ⟨rfl, ?_⟩⟩
      · have nd2 : H1 d = none := by
          by_cases e : H1 d = none
          · exact e
          · obtain ⟨o, ho⟩ := Option.ne_none_iff_exists'.mp e
            rw [sI _ _ ho] at nd'
            cases nd'
        exact qE f hf d H' (sA.trans s') hd (s1.free nd2)
      · cases ez
        cases ex
        refine qM hw p H' (s1.trans fun b o z => ?_) (s1.free np) hR
        refine fr b o (sI _ _ z) fun e => ?_
        rw [e, np] at z
        cases z
end
end RL

namespace RL
open PySem L2 SX AddrMath VA PySem.W GR
/-! ## the texts of rules, sign by sign -/
def pathS (es : List PyData) (x : Bool) : Str := if x = true then (if Txt.join (Str.ofString "") (es.map segS) = Str.ofString "" then Str.ofString "/" else Txt.join (Str.ofString "") (es.map segS)) else Txt.join (Str.ofString "") (es.map segS) ++ Str.ofString "/.."
theorem seg_nine {e : PyData} (h : isEntD e = true) : (segS e).length ≤ 9 := by
  rcases ent_cases h with ⟨k, rfl⟩ | ⟨x', rfl, hx⟩
  · have h' : (false || (decide (1 ≤ k) && decide (k ≤ 2))) = true := h
    rw [Bool.false_or, Bool.and_eq_true, decide_eq_true_eq, decide_eq_true_eq] at h'
    have : k = 1 ∨ k = 2 := by omega
    rcases this with rfl | rfl <;> decide +kernel
  · have := word_len hx
    show ((Str.empty ++ Str.ofString "/") ++ x').length ≤ 9
    rw [str_len_app]
    have : (Str.empty ++ Str.ofString "/").length = 1 := by decide +kernel
    omega
theorem join_len0 : ∀ ys : List Str, (PySem.Str.join (Str.ofString "") ys).length = (ys.map (fun x => x.length)).sum
  | [] => rfl
  | [p] => by
    show p.length = p.length + 0
    omega
  | p :: q :: r => by
    show (p ++ Str.ofString "" ++ PySem.Str.join (Str.ofString "") (q :: r)).length = _
    rw [str_len_app, str_len_app, join_len0 (q :: r), show (Str.ofString "").length = 0 by decide +kernel]
    simp only [List.map_cons, List.sum_cons]
    omega
theorem path_len {es : List PyData} (h : es.all isEntD = true) (x : Bool) : (Txt.join (Str.ofString "") (es.map segS)).length ≤ 9 * es.length ∧ (pathS es x).length ≤ 9 * es.length + 3 := by
  have sm : ∀ es : List PyData, es.all isEntD = true → ((es.map segS).map (fun x => x.length)).sum ≤ 9 * es.length := fun es => by
    induction es with
    | nil => intro _; exact Nat.le_refl 0
    | cons e r ih =>
      intro h
      rw [List.all_cons, Bool.and_eq_true] at h
      have := seg_nine h.1
      have := ih h.2
      simp only [List.map_cons, List.sum_cons, List.length_cons]
      omega
  have s4 := sm es h
  have jl : (Txt.join (Str.ofString "") (es.map segS)).length ≤ 9 * es.length := by
    rw [TL.join_eq, join_len0]
    exact s4
  refine ⟨jl, ?_⟩
  have l3 : (Str.ofString "/..").length = 3 := by decide +kernel
  have l1 : (Str.ofString "/").length = 1 := by decide +kernel
  unfold pathS
  split
  · split
    · omega
    · omega
  · rw [str_len_app]
    omega
/-- the text of a rule -/
def ruleS (z : Str) (pd gd : PyData) (x : Bool) : Str := match gd with
  | .tuple [.str gz, gb] => Str.empty ++ (Str.empty ++ z ++ Str.ofString " " ++ pathS (itemsD pd) x) ++ Str.ofString " to " ++ gz ++ Str.ofString " " ++ pathS (itemsD gb) x
  | _ => Str.empty ++ (Str.empty ++ z ++ Str.ofString " " ++ pathS (itemsD pd) x) ++ Str.ofString " stays"
section
variable {P : Program} {w : World} {K : PySem.W.Frag} {mg : Str → Option Value} {base : Heap}
def spPathTextX (K : PySem.W.Frag) : Sp := fun vs H Q _ => ∃ (t : Addr) (x : Bool) (es : List PyData), vs = [.ref t, .bl x] ∧ SqT K H t (es.map entV) ∧ es.all isEntD = true ∧ es.length ≤ 4 ∧ ∀ H', Same H H' → Q (.str (pathS es x)) H'
theorem ok_pathtextX {f : Addr} {fd : FuncData} (F : Fun K "path_text" "path_text" sPathText f fd) : FnOk P w K mg base CX0 1 f fd ["entries", "is_exact"] (spPathTextX K) := by
  refine F.ok scPathText (fun vs H Q E h => ?_) (fun cdv A outer s0 H vs Q E hr h => ?_)
  · obtain ⟨t, x, es, rfl, _⟩ := h
    rfl
  · obtain ⟨t, x, es, rfl, ht, hE, h4, q⟩ := h
    refine ⟨_, (pss_cons (ps_set (i := 3) scPathText.nd rfl (Or.inl rfl) (pe_join pe_str (pe_lc (own := [("entry", 2)]) (g := gName 2) (tt := tYes) rfl scPathText.nd (pi_seq (pv 0))
          (blkOk_by (own := [("entry", 2)]) (N := ["entries", "is_exact", "entry", "text"]) (sc := defScope sPathText) (by decide +kernel))
          (fun _ _ _ _ _ => (pg_name (i := 2) scPathText.nd rfl (Or.inl rfl))) (fun _ _ _ _ _ => pts_nil)
          (fun _ _ _ _ _ => (pe_by tSeg (pe_joined (.cons pe_str (.cons (pe_fmt (pv 2)) .nil))) (fun _ _ _ h => seg_does h))))))
      (pss_cons (ps_if (pt_not (pt_val (pv 1))) (pss_one (ps_ret (pe_op op_add_str (pv 3) pe_str))) pss_nil)
      (pss_one (ps_ret (pe_ifExp (pt_cmpR op_ne (pv 3) pe_str (nomark _)) (pv 3) pe_str))))), ?_⟩
    refine ⟨⟨_, rfl⟩, _, rfl, ?_⟩
    refine seq_map (.inr ht) (by rw [List.length_map]; omega) (fun _ => true) segV ?hw (fun v hm H2 s2 => ⟨fun R hR => no_test hR, fun _ H3 s3 R hR => ?_⟩) fun D H2 nD hD s2 => ?_
    case hw => intro _; rfl
    · obtain ⟨e, he, rfl⟩ := List.mem_map.mp hm
      exact ⟨e, rfl, List.all_eq_true.mp hE e he, hR H3 (Same.refl H3)⟩
    · have eq : ((es.map entV).filter fun _ => true).map segV = (es.map segS).map V.str := by
        rw [filter_yes, List.map_map, List.map_map]
        exact List.map_congr_left fun e he => (seg_ent (List.all_eq_true.mp hE e he)).1
      rw [eq] at hD
      have sm : ∀ es : List PyData, es.all isEntD = true → ((es.map segS).map (fun x => x.length)).sum ≤ 20 * es.length := fun es => by
        induction es with
        | nil => intro _; exact Nat.le_refl 0
        | cons e r ih =>
          intro h
          rw [List.all_cons, Bool.and_eq_true] at h
          have := (seg_ent h.1).2
          have := ih h.2
          simp only [List.map_cons, List.sum_cons, List.length_cons]
          omega
      have s4 := sm es hE
      refine ⟨_, D, es.map segS, rfl, rfl, .inl (.inl (.inl hD)), ?_, ?_⟩
      · show _ + _ * 0 ≤ _
        omega
      obtain ⟨jl, _⟩ := path_len hE x
      have jl : (Txt.join (Str.ofString "") (es.map segS)).length ≤ 9 * es.length := jl
      have q' := q H2 s2
      unfold pathS at q'
      have l3 : (Str.ofString "/..").length = 3 := by decide +kernel
      generalize Txt.join (Str.ofString "") (es.map segS) = z at jl q' ⊢
      refine ⟨_, rfl, _, rfl, ?_⟩
      cases x with
      | false => exact iteT ⟨_, rfl, _, _, rfl, rfl, Nat.le_trans (m := 1000) (by omega) (by show 1000 ≤ sizeLine; decide), q'⟩
      | true =>
        refine iteF ⟨_, rfl, rfl, _, rfl, ?_⟩
        by_cases c : z = Str.ofString ""
        · have q2 : Q (.str (Str.ofString "/")) H2 := by
            have : (if true = true then (if z = Str.ofString "" then Str.ofString "/" else z) else z ++ Str.ofString "/..") = Str.ofString "/" := by rw [if_pos rfl, if_pos c]
            rw [this] at q'
            exact q'
          exact if_is (fun e => absurd e (by rw [decide_eq_true (congrArg V.str c)]; decide)) fun _ => q2
        · have q2 : Q (.str z) H2 := by
            have : (if true = true then (if z = Str.ofString "" then Str.ofString "/" else z) else z ++ Str.ofString "/..") = z := by rw [if_pos rfl, if_neg c]
            rw [this] at q'
            exact q'
          exact if_is (fun _ => ⟨_, rfl, q2⟩) fun e => absurd e (by rw [decide_eq_false fun z => c (V.str.inj z)]; decide)
def spRTextX (K : PySem.W.Frag) (C : Addr) : Sp := fun vs H Q _ => ∃ (p : Addr) (z : Str) (pd gd : PyData) (x : Bool), vs = [.ref p] ∧ RuleAt K C H p z pd gd x ∧ wrd z = true ∧ (itemsD pd).all isEntD = true ∧ (itemsD pd).length ≤ 4 ∧ isGoalD gd pd = true ∧ ∀ H', Same H H' → Q (.str (ruleS z pd gd x)) H'
theorem ok_ruletextX {f C : Addr} {fd : FuncData} (F : Fun K "rule_text" "rule_text" sRuleText f fd) (T : RTxt K mg C) (rstate : OwnP P w K mg base C "state" (spGet C nState)) (rpattern : OwnP P w K mg base C "pattern" (spGet C nPattern)) (rgoal : OwnP P w K mg base C "goal" (spGet C nGoal)) (rexact : OwnP P w K mg base C "is_exact" (spGet C nExact))
    (path_text : Own P w K mg base CX0 1 "path_text" ["entries", "is_exact"] (spPathTextX K)) : FnOk P w K mg base CX0 3 f fd ["rule"] (spRTextX K C) := by
  refine F.ok scRuleText (fun vs H Q E h => ?_) (fun cdv A outer s0 H vs Q E hr h => ?_)
  · obtain ⟨p, z, pd, gd, x, rfl, _⟩ := h
    rfl
  · obtain ⟨p, z, pd, gd, x, rfl, hR, hz, hE, h4, hg, q⟩ := h
    have hr2 : Room 2 _ := hr
    have hr1 : Room 1 _ := hr.mono (by decide)
    refine ⟨_, (pss_cons (ps_set (i := 1) scRuleText.nd rfl (Or.inl rfl) (pe_joined (.cons (pe_fmt (pe_prop (pv 0) T.cl rstate.prop rstate.ok hr2 rstate.b .nil pass0 rfl)) (.cons pe_str (.cons (pe_fmt (pe_call path_text.g hr1 rfl path_text.mg path_text.kp path_text.b .nil pass0 (pa_cons (pe_prop (pv 0) T.cl rpattern.prop rpattern.ok hr2 rpattern.b .nil pass0 rfl) (pa_cons (pe_prop (pv 0) T.cl rexact.prop rexact.ok hr2 rexact.b .nil pass0 rfl) pa_nil)))) .nil)))))
      (pss_cons (ps_if (pt_cmpR op_isN (pe_prop (pv 0) T.cl rgoal.prop rgoal.ok hr2 rgoal.b .nil pass0 rfl) pe_non (nomark _)) (pss_one (ps_ret (pe_joined (.cons (pe_fmt (pv 1)) (.cons pe_str .nil))))) pss_nil)
      (pss_one (ps_ret (pe_joined (.cons (pe_fmt (pv 1)) (.cons pe_str (.cons (pe_fmt (pe_ix ix_tup (pe_prop (pv 0) T.cl rgoal.prop rgoal.ok hr2 rgoal.b .nil pass0 rfl) pe_int (fun _ _ => rfl))) (.cons pe_str (.cons (pe_fmt (pe_call path_text.g hr1 rfl path_text.mg path_text.kp path_text.b .nil pass0 (pa_cons (pe_ix ix_tup (pe_prop (pv 0) T.cl rgoal.prop rgoal.ok hr2 rgoal.b .nil pass0 rfl) pe_int (fun _ _ => rfl)) (pa_cons (pe_prop (pv 0) T.cl rexact.prop rexact.ok hr2 rexact.b .nil pass0 rfl) pa_nil)))) .nil)))))))))), ?_⟩
    obtain ⟨dx, tP, tW, tK, gV, ws, hp, hP, hG, hW, _, _, _, hK⟩ := hR.ex
    have lz := word_len hz
    have sz : ∀ n, n ≤ 2000 → n ≤ sizeLine := fun n h => Nat.le_trans h (by show 2000 ≤ sizeLine; decide)
    have l0 : Str.empty.length = 0 := by decide +kernel
    have lP := (path_len hE x).2
    have l1 : (Str.ofString " ").length = 1 := by decide +kernel
    have l6 : (Str.ofString " stays").length = 6 := by decide +kernel
    have l4 : (Str.ofString " to ").length = 4 := by decide +kernel
    refine ⟨_, rfl, p, dx, _, rfl, hp, p, dx, _, _, rfl, hp, rfl, .inl ⟨z, rfl, sz _ (by omega), _, rfl, sz _ (by rw [str_len_app]; omega), _, rfl, sz _ (by simp only [str_len_app]; omega), ?_⟩⟩
    refine ⟨_, rfl, p, dx, _, rfl, hp, p, dx, _, _, rfl, hp, rfl, _, rfl, p, dx, _, rfl, hp, p, dx, _, _, rfl, hp, rfl, tP, x, itemsD pd, rfl, hP, hE, h4, fun H1 s1 => .inl ⟨_, rfl, sz _ (by omega), _, rfl, sz _ (by simp only [str_len_app]; omega), ?_⟩⟩
    have lt : (Str.empty ++ z ++ Str.ofString " " ++ pathS (itemsD pd) x).length ≤ 410 := by
      simp only [str_len_app]
      omega
    unfold ruleS at q
    generalize Str.empty ++ z ++ Str.ofString " " ++ pathS (itemsD pd) x = t1 at lt q ⊢
    have hp1 := s1 _ _ hp
    refine ⟨_, rfl, p, dx, _, rfl, hp1, p, dx, _, _, rfl, hp1, rfl, rfl, _, rfl, ?_⟩
    rcases goal_parts hg with rfl | ⟨gz, gb, rfl, hgz, hgb⟩
    · cases (show gV = .non from hG)
      exact iteT ⟨_, rfl, .inl ⟨t1, rfl, sz _ (by omega), _, rfl, sz _ (by simp only [str_len_app]; omega), _, rfl, sz _ (by simp only [str_len_app]; omega), q H1 s1⟩⟩
    · obtain ⟨g, tb, rfl, hgg, htb⟩ := hG
      obtain ⟨_, b2, b3⟩ := areEnt_parts hgb
      have lg := word_len hgz
      have lG := (path_len b3 x).2
      refine iteF ⟨_, rfl, .inl ⟨t1, rfl, sz _ (by omega), _, rfl, sz _ (by simp only [str_len_app]; omega), _, rfl, sz _ (by simp only [str_len_app]; omega), _, rfl, p, dx, _, rfl, hp1, p, dx, _, _, rfl, hp1, rfl, g, _, 0, _, rfl, rfl, .inl (.inl (s1 _ _ hgg)), rfl, .inl ⟨gz, rfl, sz _ (by omega), _, rfl, sz _ (by simp only [str_len_app]; omega), _, rfl, sz _ (by simp only [str_len_app]; omega), ?_⟩⟩⟩
      exact ⟨_, rfl, p, dx, _, rfl, hp1, p, dx, _, _, rfl, hp1, rfl, g, _, 1, _, rfl, rfl, .inl (.inl (s1 _ _ hgg)), rfl, _, rfl, p, dx, _, rfl, hp1, p, dx, _, _, rfl, hp1, rfl, tb, x, itemsD gb, rfl, same_seqT s1 htb, b3, by omega, fun H2 s2 => .inl ⟨_, rfl, sz _ (by omega), _, rfl, sz _ (by simp only [str_len_app]; omega), q H2 (s1.trans s2)⟩⟩
theorem ok_rtextX {f C : Addr} {fd : FuncData} (F : Fun K "text" "Rule.text" sRText f fd) (rule_text : Own P w K mg base CX0 3 "rule_text" ["rule"] (spRTextX K C)) : FnOk P w K mg base CX0 4 f fd ["self"] (spRTextX K C) := by
  refine F.ok scRText (fun vs H Q E h => ?_) (fun cdv A outer s0 H vs Q E hr h => ?_)
  · obtain ⟨p, z, pd, gd, x, rfl, _⟩ := h
    rfl
  · obtain ⟨p, z, pd, gd, x, rfl, h⟩ := h
    exact ⟨_, (pss_one (ps_ret (pe_call rule_text.g hr rfl rule_text.mg rule_text.kp rule_text.b .nil pass0 (pa_cons (pv 0) pa_nil)))), _, rfl, p, z, pd, gd, x, rfl, h⟩
end
end RL

/-! == and != of a list that is no object of the heap's tracked part, beside a new empty one; the first sign of a text. -/
namespace VA
open PySem PySem.Spec PyProof.Rows L2 SX
def rEqNil : R2 := fun x y H Q => ∃ a b xs, x = .ref a ∧ y = .ref b ∧ H a = some (.lst xs) ∧ H b = some (.lst []) ∧ Q (.bl xs.isEmpty) H
theorem op_eqNil {X : Cx} (hu : X.A.units < cLine) : OpR X (compareOp .Eq) rEqNil := by
  intro pins s σ H x y v u Q I rx ry ⟨a, b, xs, ex, ey, ha, hb, q⟩
  subst ex ey
  cases (show v = Value.ref a from rx)
  cases (show u = Value.ref b from ry)
  obtain ⟨i1, p1, l1⟩ := lst_is I ha
  obtain ⟨i2, p2, l2⟩ := lst_is I hb
  have e2 : i2 = [] := List.length_eq_zero_iff.mp l2
  subst e2
  cases xs with
  | nil =>
    have e1 : i1 = [] := List.length_eq_zero_iff.mp l1
    subst e1
    exact SeqAt.RcAt.lists (e := fun _ => true) p1 p2 rfl hu (fun j h1 => absurd h1 (by simp)) _ _ _ _ ⟨.bl true, H, I, rfl, q⟩
  | cons z r =>
    exact SeqAt.RcAt.lists_lengths p1 p2 (by simp; intro z; rw [z] at l1; cases l1) hu _ _ _ _ ⟨.bl false, H, I, rfl, q⟩
/-- whether a text begins with one sign -/
theorem starts_one (t : Str) (c : Nat) : Txt.startswith t (S [c]) = decide (t.cps.toList.head? = some c) := by
  show (decide (0 + 1 ≤ t.length) && (t.cps.extract 0 (0 + 1) == (S [c]).cps)) = _
  obtain ⟨⟨l⟩⟩ := t
  cases l with
  | nil => rfl
  | cons x r =>
    show (decide (0 + 1 ≤ (x :: r).length) && ((x :: r).toArray.extract 0 (0 + 1) == [c].toArray)) = decide (some x = some c)
    rw [decide_eq_true (by show 0 + 1 ≤ r.length + 1; omega), Bool.true_and, show (x :: r).toArray.extract 0 (0 + 1) = [x].toArray by simp]
    by_cases e : x = c
    · subst e
      simp
    · rw [decide_eq_false (by simpa using e)]
      simpa using e
theorem cut_one (t : Str) (c : Nat) : (Txt.slice t none (some 1) = S [c]) ↔ t.cps.toList.head? = some c := by
  rw [← C8.cutS_slice]
  obtain ⟨⟨l⟩⟩ := t
  cases l with
  | nil =>
    constructor
    · intro h
      have := congrArg (fun z : Str => z.cps.size) h
      simp [cutS] at this
    · intro h
      cases h
  | cons x r =>
    have e : cutS ⟨(x :: r).toArray⟩ none (some 1) = S [x] := by
      have l1 : (⟨(x :: r).toArray⟩ : Str).length = r.length + 1 := rfl
      have s1 : HT.sIx (r.length + 1) (r.length + 1) (some 1) = 1 := by
        show HT.sIx (r.length + 1) (r.length + 1) (some ((1 : Nat) : Int)) = 1
        rw [HT.sIx_nat]
        omega
      unfold cutS
      rw [l1, s1, HT.sIx_none]
      rfl
    rw [e]
    constructor
    · intro h
      have := congrArg (fun z : Str => z.cps.toList) h
      simpa using this
    · intro h
      have : x = c := by simpa using h
      rw [this]
end VA

namespace RL
open PySem L2 SX AddrMath VA
section
variable {P : Program} {w : World} {K : PySem.W.Frag} {mg : Str → Option Value} {base : Heap}
theorem call_isiK {X : Cx} {K : PySem.W.Frag} (e : X.K = K) : CallR X (.builtin "isinstance") (rIsi K) := by
  subst e
  exact call_isi
/-! ### sent: slots pattern 0, beginning 1, signs 2, holes 3, entry 4, filled 5 cells holes -/
theorem scSent : FnScope ["pattern", "beginning", "signs", "holes", "entry", "filled"] ["pattern", "beginning", "signs", "holes"] (defScope sSent) := ⟨rfl, rfl, rfl, by decide +kernel, rfl, by decide +kernel, by decide +kernel⟩
def fillV (f : Bnd) : V → V
  | .int i => .str ((f i).getD Str.empty)
  | v => v
theorem fill_ent (f : Bnd) {e : PyData} (h : isEntD e = true) : fillV f (entV e) = .str (fillD f e) := by
  rcases ent_cases h with ⟨k, rfl⟩ | ⟨x', rfl, _⟩ <;> rfl
theorem fill_ents (f : Bnd) {es : List PyData} (h : es.all isEntD = true) : ((es.map entV).filter fun _ => true).map (fillV f) = tV (es.map (fillD f)) := by
  rw [filter_yes, List.map_map]
  show _ = (es.map (fillD f)).map V.str
  rw [List.map_map]
  exact List.map_congr_left fun e he => fill_ent f (List.all_eq_true.mp h e he)
def spSent (K : PySem.W.Frag) : Sp := fun vs H Q _ => ∃ (tP tB t d : Addr) (es bs : List PyData) (ss : List Str) (f : Bnd) (n : Nat), vs = [.ref tP, .ref tB, .ref t, .ref d] ∧ SqT K H tP (es.map entV) ∧ es.length ≤ 900 ∧ SqT K H tB (bs.map entV) ∧ bs.all isEntD = true ∧ bs.length ≤ 4 ∧ SqT K H t (tV ss) ∧ HolesAt H d f n ∧
  (∀ i, .int i ∈ bs → ∃ u, f i = some u) ∧ ss.length ≤ 900 ∧ ∀ (r : Addr) (H' : Hp), Same H H' → SqT K H' r (tV (bs.map (fillD f) ++ ss.drop es.length)) → Q (.ref r) H'
theorem ok_sent {f : Addr} {fd : FuncData} (F : Fun K "sent" "sent" sSent f fd) (B : Blt mg) : FnOk P w K mg base CX0 1 f fd ["pattern", "beginning", "signs", "holes"] (spSent K) := by
  refine F.ok scSent (fun vs H Q E h => ?_) (fun cdv A outer s0 H vs Q E hr h => ?_)
  · obtain ⟨tP, tB, t, d, es, bs, ss, g, n, rfl, _⟩ := h
    rfl
  · obtain ⟨tP, tB, t, d, es, bs, ss, g, n, rfl, hP, hle, hB, hE, h4, ht, hd, hb, few, q⟩ := h
    refine ⟨_, (pss_cons (ps_setLc (i := 5) (own := [("entry", 4)]) (g := gName 4) (tt := tYes) rfl scSent.nd rfl rfl (sw_true rfl rfl rfl (by decide +kernel)) (pi_seq (pv 1))
          (blkOk_by (own := [("entry", 4)]) (N := ["pattern", "beginning", "signs", "holes", "entry", "filled"]) (sc := defScope sSent) (by decide +kernel))
          (fun _ _ _ _ _ => (pg_name (i := 4) scSent.nd rfl (Or.inl rfl))) (fun _ _ _ _ _ => pts_nil)
          (fun _ _ _ _ _ => (pe_ifExp (pt_val (pe_callB (call_isiK (K := K) rfl) (by rfl) B.isinstance_ (by decide +kernel) (pa_cons (pv 4) (pa_cons (pe_bltn (v := .ty "str") (by rfl) B.str_ (by decide +kernel) rfl) pa_nil)))) (pv 4) (pe_dget (hu_of hr) (pv 3) (pv 4) (fun _ _ => rfl)))))
      (pss_one (ps_ret (pe_op op_catB (pe_callTy call_tupA (by rfl) B.tuple_ (by decide +kernel) (pa_cons (pv 5) pa_nil)) (pe_slice sl_tupA (pv 2) (po_some (pe_callB call_len (by rfl) B.len_ (by decide +kernel) (pa_cons (pv 0) pa_nil))) po_none))))), ?_⟩
    refine ⟨_, rfl, ?_⟩
    refine seq_map (.inr hB) (by rw [List.length_map]; omega) (fun _ => true) (fillV g) ?hw (fun v hm H2 s2 => ⟨fun R hR => no_test hR, fun _ H3 s3 R hR => ?_⟩) fun D H2 nD hD s2 => ?_
    case hw => intro _; rfl
    · obtain ⟨e, he, rfl⟩ := List.mem_map.mp hm
      have hEe := List.all_eq_true.mp hE e he
      have vx : Vx K H3 (entV e) e := .inl ⟨ent_dp hEe, ok_mono (by decide) (ent_ok7 hEe)⟩
      have q3 := hR H3 (Same.refl H3)
      refine ⟨_, rfl, _, _, _, _, isStrD e, rfl, .ty "str", vx.ty, kitStr e, _, rfl, ?_⟩
      rcases ent_cases hEe with ⟨k, rfl⟩ | ⟨x', rfl, _⟩
      · obtain ⟨kvs, h1, h2', h3⟩ := (hd.same s2).same s3
        obtain ⟨u, hu⟩ := hb k he
        have dg := DGet.k (k := .inl k) h1
        rw [h2' k, hu] at dg
        have q4 : R (.str ((g k).getD Str.empty)) H3 := q3
        rw [hu] at q4
        exact iteF ⟨_, rfl, _, rfl, d, .str u, rfl, dg, q4⟩
      · exact iteT ⟨_, rfl, q3⟩
    · rw [fill_ents g hE] at hD
      refine ⟨_, rfl, D, _, rfl, .inl (.inl (.inl hD)), fun r1 H3 hr1 s3 => ?_⟩
      have sA := s2.trans s3
      refine ⟨_, rfl, _, rfl, _, _, rfl, .inr ⟨_, same_seqT sA hP, rfl⟩, _, rfl, t, tV ss, rfl, same_seqT sA ht, ?_⟩
      have cut : cutV (tV ss) (some ((es.map entV).length : Int)) none = tV (ss.drop es.length) := by
        rw [cut_from, List.length_map]
        show (ss.map V.str).drop _ = (ss.drop _).map V.str
        rw [List.map_drop]
      have go : ∀ (u : Addr) (H4 : Hp), Same H3 H4 → SqT K H4 u (tV (ss.drop es.length)) → rCatB K (.ref r1) (.ref u) H4 Q := fun u H4 s4 hu => by
        refine ⟨r1, u, _, _, rfl, rfl, same_seqT s4 hr1, hu, ?_, fun r H5 h5 s5 => q r H5 ((sA.trans s4).trans s5) ?_⟩
        · rw [List.length_map, List.length_map, List.length_map, List.length_drop]
          omega
        · show SqT K H5 r ((bs.map (fillD g) ++ ss.drop es.length).map V.str)
          rw [List.map_append]
          exact h5
      refine ⟨fun zz => go t H3 (Same.refl H3) ?_, fun _ l nl => go l _ (same_new nl) ?_⟩
      · have e1 : cutV (tV ss) (some ((es.map entV).length : Int)) none = tV ss := by
          unfold cutV
          rw [zz.1, zz.2, List.drop_zero, Nat.sub_zero, List.take_length]
        rw [← cut, e1]
        exact same_seqT sA ht
      · rw [cut]
        exact .inl (.inl upd_same)
/-! ### fits_address: slots rule 0, address 1; Rule.fits -/
theorem scFitsAddress : FnScope ["rule", "address"] ["rule", "address"] (defScope sFitsAddress) := ⟨rfl, rfl, rfl, by decide +kernel, rfl, by decide +kernel, by decide +kernel⟩
theorem scRFits : FnScope ["self", "address"] ["self", "address"] (defScope sRFits) := ⟨rfl, rfl, rfl, by decide +kernel, rfl, by decide +kernel, by decide +kernel⟩
theorem scRCall : FnScope ["self", "address"] ["self", "address"] (defScope sRCall) := ⟨rfl, rfl, rfl, by decide +kernel, rfl, by decide +kernel, by decide +kernel⟩
theorem scSentAddress : FnScope ["rule", "address", "holes"] ["rule", "address"] (defScope sSentAddress) := ⟨rfl, rfl, rfl, by decide +kernel, rfl, by decide +kernel, by decide +kernel⟩
/-- whether a rule fits -/
def fitA (z : Str) (es : List PyData) (x : Bool) (y : Str) (ss : List Str) : Option Bnd := if y = z then fitD es x ss else none
def spFits (K : PySem.W.Frag) (C CA : Addr) : Sp := fun vs H Q _ => ∃ (p a t : Addr) (z y : Str) (pd gd : PyData) (x : Bool) (ss : List Str), vs = [.ref p, .ref a] ∧ RuleAt K C H p z pd gd x ∧ (itemsD pd).all isEntD = true ∧ (itemsD pd).length ≤ 2 ∧ AddrT K CA H a t y ss ∧
  ∀ H', Same H H' → Q (.bl (fitA z (itemsD pd) x y ss).isSome) H'
theorem ok_fitsaddr {f C CA : Addr} {fd : FuncData} (F : Fun K "fits_address" "fits_address" sFitsAddress f fd) (T : RTxt K mg C) (TA : ATxt K mg CA) (B : Blt mg) (state : OwnP P w K mg base CA "state" (spAState K CA)) (path : OwnP P w K mg base CA "path" (spAPath K CA)) (rstate : OwnP P w K mg base C "state" (spGet C nState))
    (rpattern : OwnP P w K mg base C "pattern" (spGet C nPattern)) (rexact : OwnP P w K mg base C "is_exact" (spGet C nExact)) (matched : Own P w K mg base CX0 1 "matched" ["pattern", "is_exact", "signs", "is_end"] (spMatched K)) : FnOk P w K mg base CX0 4 f fd ["rule", "address"] (spFits K C CA) := by
  refine F.ok scFitsAddress (fun vs H Q E h => ?_) (fun cdv A outer s0 H vs Q E hr h => ?_)
  · obtain ⟨p, a, t, z, y, pd, gd, x, ss, rfl, _⟩ := h
    rfl
  · obtain ⟨p, a, t, z, y, pd, gd, x, ss, rfl, hR, hE, h2, hA, q⟩ := h
    have hr2 : Room 2 _ := hr.mono (by decide)
    refine ⟨_, (pss_one (ps_ret (pe_and (pe_cmpR op_eq (pe_prop (pv 1) TA.cl state.prop state.ok hr2 state.b .nil pass0 rfl) (pe_prop (pv 0) T.cl rstate.prop rstate.ok hr2 rstate.b .nil pass0 rfl) (nomark _)) (pe_one (pe_cmpR op_notN (pe_call matched.g (hr.mono (by decide)) rfl matched.mg matched.kp matched.b .nil pass0 (pa_cons (pe_prop (pv 0) T.cl rpattern.prop rpattern.ok hr2 rpattern.b .nil pass0 rfl) (pa_cons (pe_prop (pv 0) T.cl rexact.prop rexact.ok hr2 rexact.b .nil pass0 rfl) (pa_cons (pe_prop (pv 1) TA.cl path.prop path.ok hr2 path.b .nil pass0 rfl) (pa_cons pe_bl pa_nil))))) pe_non (nomark _)))))), ?_⟩
    obtain ⟨dx, tP, tW, tK, gV, ws, hp, hP, hG, hW, _, _, _, hK⟩ := hR.ex
    have hA' := hA
    obtain ⟨da, k, ha, ht, hk⟩ := hA
    refine ⟨_, rfl, a, da, _, rfl, ha, a, t, y, ss, rfl, hA', _, rfl, p, dx, _, rfl, hp, p, dx, _, _, rfl, hp, rfl, rfl, ?_⟩
    refine ⟨_, rfl, if_is (fun e => ?_) (fun e => ?_)⟩
    · have e' : y = z := by simpa using e
      have fa : fitA z (itemsD pd) x y ss = fitD (itemsD pd) x ss := if_pos e'
      rw [fa] at q
      refine ⟨_, rfl, p, dx, _, rfl, hp, p, dx, _, _, rfl, hp, rfl, _, rfl, p, dx, _, rfl, hp, p, dx, _, _, rfl, hp, rfl, _, rfl, a, da, _, rfl, ha, a, t, y, ss, rfl, hA', tP, t, itemsD pd, x, ss, rfl, hP, hE, h2, ht, fun e0 H' s' => ⟨rfl, ?_⟩, fun g e1 d H' s' nd hd => ⟨rfl, ?_⟩⟩
      · rw [e0] at q
        exact q H' s'
      · rw [e1] at q
        exact q H' s'
    · have e' : ¬ y = z := by simpa using e
      have fa : fitA z (itemsD pd) x y ss = none := if_neg e'
      rw [fa] at q
      exact q H (Same.refl H)
theorem ok_fits {f C CA : Addr} {fd : FuncData} (F : Fun K "fits" "Rule.fits" sRFits f fd) (fits_address : Own P w K mg base CX0 4 "fits_address" ["rule", "address"] (spFits K C CA)) : FnOk P w K mg base CX0 5 f fd ["self", "address"] (spFits K C CA) := by
  refine F.ok scRFits (fun vs H Q E h => ?_) (fun cdv A outer s0 H vs Q E hr h => ?_)
  · obtain ⟨p, a, t, z, y, pd, gd, x, ss, rfl, _⟩ := h
    rfl
  · obtain ⟨p, a, t, z, y, pd, gd, x, ss, rfl, h⟩ := h
    exact ⟨_, (pss_one (ps_ret (pe_call fits_address.g hr rfl fits_address.mg fits_address.kp fits_address.b .nil pass0 (pa_cons (pv 0) (pa_cons (pv 1) pa_nil))))), _, rfl, _, rfl, p, a, t, z, y, pd, gd, x, ss, rfl, h⟩
/-! ### Rule.__call__: slots self 0, address 1, holes 2 -/
theorem RuleAt.same {C : Addr} {H H' : Hp} {p : Addr} {z : Str} {pd gd : PyData} {x : Bool} (h : RuleAt K C H p z pd gd x) (s : Same H H') : RuleAt K C H' p z pd gd x := by
  obtain ⟨dx, tP, tW, tK, gV, ws, hp, hP, hG, hW, a1, a2, a3, hK⟩ := h.ex
  exact ⟨dx, tP, tW, tK, gV, ws, s _ _ hp, same_seqT s hP, goal_at_kp hG (kp_same s), s _ _ hW, a1, a2, a3, s _ _ hK⟩
/-- the goal, with what a call tells: none, the address itself, or another -/
inductive Told (K : PySem.W.Frag) (CA : Addr) (H : Hp) (a : Addr) (pd : PyData) (ss : List Str) : Option Bnd → PyData → V → Prop
  | no {gd : PyData} : Told K CA H a pd ss none gd .non
  | stay {f : Bnd} : Told K CA H a pd ss (some f) .none (.ref a)
  | go {f : Bnd} {y : Str} {b : PyData} {c t : Addr} (h : AddrT K CA H c t y ((itemsD b).map (fillD f) ++ ss.drop (itemsD pd).length)) : Told K CA H a pd ss (some f) (.tuple [.str y, b]) (.ref c)
def spRCall (K : PySem.W.Frag) (C CA : Addr) : Sp := fun vs H Q _ => ∃ (p a t : Addr) (z y : Str) (pd gd : PyData) (x : Bool) (ss : List Str), vs = [.ref p, .ref a] ∧ RuleAt K C H p z pd gd x ∧ (itemsD pd).all isEntD = true ∧ (itemsD pd).length ≤ 2 ∧ isGoalD gd pd = true ∧ AddrT K CA H a t y ss ∧ ss.all wrd = true ∧ ss.length ≤ 900 ∧
  ∀ v H', Same H H' → Told K CA H' a pd ss (fitA z (itemsD pd) x y ss) gd v → Q v H'
theorem inD_int {i : Int} : ∀ {ds : List PyData}, ds.all isEntD = true → inD (.int i) ds = true → PyData.int i ∈ ds
  | [], _, h => by cases h
  | d :: ds, he, h => by
    rw [List.all_cons, Bool.and_eq_true] at he
    have h' : (PyData.eqv d (.int i) || inD (.int i) ds) = true := h
    rcases Bool.or_eq_true_iff.mp h' with h1 | h2
    · rcases ent_cases he.1 with ⟨k, rfl⟩ | ⟨x', rfl, _⟩
      · have : k = i := by simpa [PyData.eqv] using h1
        rw [this]
        exact List.mem_cons_self
      · simp [PyData.eqv] at h1
    · exact List.mem_cons_of_mem _ (inD_int he.2 h2)
/-- what a goal's beginning is filled with -/
theorem goal_fill {y : Str} {b pd : PyData} {ss : List Str} {f : Bnd} {x : Bool} (hg : isGoalD (.tuple [.str y, b]) pd = true) (hE : (itemsD pd).all isEntD = true) (hm : fitD (itemsD pd) x ss = some f) (hw : ss.all wrd = true) :
    wrd y = true ∧ (itemsD b).all isEntD = true ∧ (itemsD b).length ≤ 4 ∧ (∀ i, .int i ∈ itemsD b → ∃ u, f i = some u) ∧ ((itemsD b).map (fillD f) ++ ss.drop (itemsD pd).length).all wrd = true ∧ (itemsD pd).length ≤ ss.length := by
  have hg' : (isW y.cps.toList && (areEntD 4 b && (itemsD b).all fun e => isWordD e || inD e (itemsD pd))) = true := hg
  rw [Bool.and_eq_true, Bool.and_eq_true] at hg'
  obtain ⟨g1, g2, g3⟩ := hg'
  obtain ⟨b1, b2, b3⟩ := areEnt_parts g2
  have hle : (itemsD pd).length ≤ ss.length ∧ mat (itemsD pd) ss noBnd = some f := by
    unfold fitD at hm
    by_cases c : ss.length < (itemsD pd).length
    · rw [if_pos c] at hm
      cases hm
    · rw [if_neg c] at hm
      by_cases c2 : x = true ∧ ss.length ≠ (itemsD pd).length
      · rw [if_pos c2] at hm
        cases hm
      · rw [if_neg c2] at hm
        exact ⟨by omega, hm⟩
  have hb : ∀ i, .int i ∈ itemsD b → ∃ u, f i = some u := fun i hi => by
    have := List.all_eq_true.mp g3 _ hi
    have h2 : inD (.int i) (itemsD pd) = true := this
    exact mat_bound hle.2 i (inD_int hE h2)
  refine ⟨g1, b3, by omega, hb, ?_, hle.1⟩
  rw [List.all_append, Bool.and_eq_true]
  refine ⟨?_, ?_⟩
  · rw [List.all_map, List.all_eq_true]
    intro e he
    rcases ent_cases (List.all_eq_true.mp b3 e he) with ⟨k, rfl⟩ | ⟨x', rfl, hx'⟩
    · obtain ⟨u, hu⟩ := hb k he
      show wrd ((f k).getD Str.empty) = true
      rw [hu]
      exact mat_words hw (fun _ _ z => by cases z) hle.2 k u hu
    · exact hx'
  · rw [List.all_eq_true]
    intro u hu
    exact List.all_eq_true.mp hw u (List.mem_of_mem_drop hu)
theorem ok_sentaddr {f C CA fI : Addr} {fd fdI : FuncData} (F : Fun K "sent_address" "sent_address" sSentAddress f fd) (T : RTxt K mg C) (TA : ATxt K mg CA) (B : Blt mg) (state : OwnP P w K mg base CA "state" (spAState K CA)) (path : OwnP P w K mg base CA "path" (spAPath K CA)) (rstate : OwnP P w K mg base C "state" (spGet C nState)) (rgoal : OwnP P w K mg base C "goal" (spGet C nGoal))
    (rpattern : OwnP P w K mg base C "pattern" (spGet C nPattern)) (rexact : OwnP P w K mg base C "is_exact" (spGet C nExact)) (matched : Own P w K mg base CX0 1 "matched" ["pattern", "is_exact", "signs", "is_end"] (spMatched K)) (sent : Own P w K mg base CX0 1 "sent" ["pattern", "beginning", "signs", "holes"] (spSent K))
    (MI : Mk K CA fI) (GI : FnOk P w K mg base CX0 3 fI fdI ["self", "state", "path"] (spAInit K CA)) (bI : Binds K fdI ["self", "state", "path"] []) : FnOk P w K mg base CX0 5 f fd ["rule", "address"] (spRCall K C CA) := by
  refine F.ok scSentAddress (fun vs H Q E h => ?_) (fun cdv A outer s0 H vs Q E hr h => ?_)
  · obtain ⟨p, a, t, z, y, pd, gd, x, ss, rfl, _⟩ := h
    rfl
  · obtain ⟨p, a, t, z, y, pd, gd, x, ss, rfl, hR, hE, h2, hg, hA, hw, few, q⟩ := h
    have hr2 : Room 2 _ := hr.mono (by decide)
    have hr1 : Room 1 _ := hr.mono (by decide)
    refine ⟨_, (pss_cons (ps_if (pt_cmpR op_ne (pe_prop (pv 1) TA.cl state.prop state.ok hr2 state.b .nil pass0 rfl) (pe_prop (pv 0) T.cl rstate.prop rstate.ok hr2 rstate.b .nil pass0 rfl) (nomark _)) (pss_one (ps_ret pe_non)) pss_nil)
      (pss_cons (ps_set (i := 2) scSentAddress.nd rfl (Or.inl rfl) (pe_call matched.g (hr.mono (by decide)) rfl matched.mg matched.kp matched.b .nil pass0 (pa_cons (pe_prop (pv 0) T.cl rpattern.prop rpattern.ok hr2 rpattern.b .nil pass0 rfl) (pa_cons (pe_prop (pv 0) T.cl rexact.prop rexact.ok hr2 rexact.b .nil pass0 rfl) (pa_cons (pe_prop (pv 1) TA.cl path.prop path.ok hr2 path.b .nil pass0 rfl) (pa_cons pe_bl pa_nil))))))
      (pss_cons (ps_if (PW.pt (pw_or (pt_cmpR op_isN (pv 2) pe_non (nomark _)) (pw_or1 (pt_cmpR op_isN (pe_prop (pv 0) T.cl rgoal.prop rgoal.ok hr2 rgoal.b .nil pass0 rfl) pe_non (nomark _))))) (pss_one (ps_ret (pe_ifExp (pt_cmpR op_isN (pv 2) pe_non (nomark _)) pe_non (pv 1)))) pss_nil)
      (pss_one (ps_ret (pe_make MI GI hr rfl TA.mgC bI .nil pass0 (pa_cons (pe_ix ix_tup (pe_prop (pv 0) T.cl rgoal.prop rgoal.ok hr2 rgoal.b .nil pass0 rfl) pe_int (fun _ _ => rfl)) (pa_cons (pe_call sent.g (hr.mono (by decide)) rfl sent.mg sent.kp sent.b .nil pass0 (pa_cons (pe_prop (pv 0) T.cl rpattern.prop rpattern.ok hr2 rpattern.b .nil pass0 rfl) (pa_cons (pe_ix ix_tup (pe_prop (pv 0) T.cl rgoal.prop rgoal.ok hr2 rgoal.b .nil pass0 rfl) pe_int (fun _ _ => rfl)) (pa_cons (pe_prop (pv 1) TA.cl path.prop path.ok hr2 path.b .nil pass0 rfl) (pa_cons (pv 2) pa_nil))))) pa_nil)))))))), ?_⟩
    obtain ⟨dx, tP, tW, tK, gV, ws, hp, hP, hG, hW, w1, w2, w3, hK⟩ := hR.ex
    have hA0 := hA
    obtain ⟨da, k, ha, ht, hk⟩ := hA0
    refine ⟨_, rfl, a, da, _, rfl, ha, a, t, y, ss, rfl, hA, _, rfl, p, dx, _, rfl, hp, p, dx, _, _, rfl, hp, rfl, rfl, _, rfl, if_is (fun e => ?_) (fun e => ?_)⟩
    · have e' : ¬ y = z := by simpa using e
      have fa : fitA z (itemsD pd) x y ss = none := if_neg e'
      rw [fa] at q
      exact q _ H (Same.refl H) .no
    · have e' : y = z := by simpa using e
      have fa : fitA z (itemsD pd) x y ss = fitD (itemsD pd) x ss := if_pos e'
      rw [fa] at q
      refine ⟨_, rfl, p, dx, _, rfl, hp, p, dx, _, _, rfl, hp, rfl, _, rfl, p, dx, _, rfl, hp, p, dx, _, _, rfl, hp, rfl, _, rfl, a, da, _, rfl, ha, a, t, y, ss, rfl, hA, tP, t, itemsD pd, x, ss, rfl, hP, hE, h2, ht, fun e0 H1 s1 => ?_, fun g ed d H1 s1 nd hd => ?_⟩
      · rw [e0] at q
        exact ⟨_, rfl, rfl, _, rfl, iteT ⟨_, rfl, rfl, _, rfl, iteT (q _ H1 s1 .no)⟩⟩
      · rw [ed] at q
        refine ⟨_, rfl, rfl, _, rfl, iteF ⟨_, rfl, p, dx, _, rfl, s1 _ _ hp, p, dx, _, _, rfl, s1 _ _ hp, rfl, rfl, _, rfl, ?_⟩⟩
        rcases goal_parts hg with rfl | ⟨gz, gb, rfl, _, _⟩
        · cases (show gV = .non from hG)
          exact iteT ⟨_, rfl, rfl, _, rfl, iteF ⟨_, rfl, q _ H1 s1 .stay⟩⟩
        · obtain ⟨gg, tb, rfl, hgg, htb⟩ := hG
          obtain ⟨f1, f2, f3, f4, f5, f6⟩ := goal_fill hg hE ed hw
          refine iteF ⟨_, rfl, p, dx, _, rfl, s1 _ _ hp, p, dx, _, _, rfl, s1 _ _ hp, rfl, gg, _, 0, _, rfl, rfl, .inl (.inl (s1 _ _ hgg)), rfl, ?_⟩
          refine ⟨_, rfl, p, dx, _, rfl, s1 _ _ hp, p, dx, _, _, rfl, s1 _ _ hp, rfl, _, rfl, p, dx, _, rfl, s1 _ _ hp, p, dx, _, _, rfl, s1 _ _ hp, rfl, gg, _, 1, _, rfl, rfl, .inl (.inl (s1 _ _ hgg)), rfl, ?_⟩
          refine ⟨_, rfl, a, da, _, rfl, s1 _ _ ha, a, t, y, ss, rfl, hA.same s1, _, rfl, tP, tb, t, d, itemsD pd, itemsD gb, ss, g, 5, rfl, same_seqT s1 hP, by omega, same_seqT s1 htb, f2, f3, same_seqT s1 ht, hd, f4, few, fun r H3 s3 hr3 c dc nc ndc ne => ?_⟩
          have sN : Same H3 (upd (upd H3 dc (.own c)) c (.ins CA dc [])) := fun b o e => by
            rw [upd_ne (ne_of_none e nc), upd_ne (ne_of_none e ndc)]
            exact e
          refine ⟨c, dc, r, gz, _, rfl, upd_same, f1, .inr (same_seqT sN hr3), ?_, f5, fun H4 t4 hA4 fr => ⟨rfl, q _ H4 (fun b o e => fr b o (sN _ _ ((s1.trans s3) _ _ e)) (ne_of_none ((s1.trans s3) _ _ e) nc)) (.go hA4)⟩⟩
          rw [List.length_append, List.length_map, List.length_drop]
          omega
theorem ok_rcall {f C CA : Addr} {fd : FuncData} (F : Fun K "__call__" "Rule.__call__" sRCall f fd) (sent_address : Own P w K mg base CX0 5 "sent_address" ["rule", "address"] (spRCall K C CA)) : FnOk P w K mg base CX0 6 f fd ["self", "address"] (spRCall K C CA) := by
  refine F.ok scRCall (fun vs H Q E h => ?_) (fun cdv A outer s0 H vs Q E hr h => ?_)
  · obtain ⟨p, a, t, z, y, pd, gd, x, ss, rfl, _⟩ := h
    rfl
  · obtain ⟨p, a, t, z, y, pd, gd, x, ss, rfl, h⟩ := h
    exact ⟨_, (pss_one (ps_ret (pe_call sent_address.g hr rfl sent_address.mg sent_address.kp sent_address.b .nil pass0 (pa_cons (pv 0) (pa_cons (pv 1) pa_nil))))), _, rfl, _, rfl, p, a, t, z, y, pd, gd, x, ss, rfl, h⟩
end
end RL

namespace RL
open PySem L2 SX AddrMath VA
def LW (H : Hp) (a : Addr) (ss : List Str) : Prop := H a = some (.lst (tV ss)) ∧ ss.all wrd = true
theorem LW.but {H H' : Hp} {d c a : Addr} {n : Nat} {ss : List Str} (h : LW H a ss) (p : PenAt H d c n) (b : But d H H') : LW H' a ss := ⟨b _ _ h.1 (lst_ne h.1 p), h.2⟩
theorem LW.same {H H' : Hp} {a : Addr} {ss : List Str} (h : LW H a ss) (s : Same H H') : LW H' a ss := ⟨s _ _ h.1, h.2⟩
theorem wrd_ent {z : Str} (h : wrd z = true) : isEntD (.str z) = true := by
  show (wrd z || false) = true
  rw [h]
  rfl
end RL

namespace RL
open PySem L2 SX AddrMath VA
section
variable {P : Program} {w : World} {K : PySem.W.Frag} {mg : Str → Option Value} {base : Heap}
/-- entries, drawn one by one -/
theorem lc_pen {ok : PyData → Prop} {d c D : Addr} {n N j m : Nat} {te : TE} {σ : L2.St} {vs : List Nat} {H1 : Hp} {Qd : Hp → Prop} (p : PenAt H1 d c n) (nD : H1 D = none) (few : N ≤ 100)
    (hw : ∀ x, wipe ((wipe σ vs).set j (some x)) vs = wipe σ vs)
    (step : ∀ i H', i < N → But d H1 H' → PenAt H' d c (n + i * m) → ∀ R : VK, (∀ e H'', isEntD e = true → ok e → PenAt H'' d c (n + i * m + m) → But d H' H'' → R (entV e) H'') → te ((wipe σ vs).set j (some (.int (0 + (i : Int))))) H' R)
    (fin : ∀ (es : List PyData) H', es.length = N → es.all isEntD = true → (∀ e ∈ es, ok e) → H' D = some (.lst (es.map entV)) → PenAt H' d c (n + N * m) → But d H1 H' → Qd H') :
    ∃ W : Nat → Nat → Hp → Prop, (∃ m, W 0 m (upd H1 D (.lst []))) ∧ ∀ i m H, W i m H → ((Itr 0 N).stop i H ∧ Qd H) ∨ ((Itr 0 N).go i H ∧ ∃ Nx : Hp → Prop, (∀ H', Nx H' → ∃ m', m' < m ∧ W (i + 1) m' H') ∧ ∀ x H', (Itr 0 N).yld i H x H' → gName j x (wipe σ vs) H' fun σ2 H2 => wipe σ2 vs = wipe σ vs ∧ tYes σ2 H2 fun b H3 =>
        if b = true then te σ2 H3 fun y H4 => ∃ acc, H4 D = some (.lst acc) ∧ acc.length < sizeLine ∧ Nx (upd H4 D (.lst (acc ++ [y]))) else Nx H3) := by
  have hDd : D ≠ d := fun z => p.ne (by rw [← z]; exact nD)
  have hDc : D ≠ c := fun z => p.neC (by rw [← z]; exact nD)
  refine lc_range (lo := 0) (n := N) (fun i H' => PenAt H' d c (n + i * m) ∧ But d H1 H' ∧ ∃ es : List PyData, H' D = some (.lst (es.map entV)) ∧ es.length = i ∧ es.all isEntD = true ∧ ∀ e ∈ es, ok e)
    ⟨(p.keep (same_new nD)).mono (by omega), but_of (same_new nD), [], upd_same, rfl, rfl, fun e he => by cases he⟩ ?_ ?_
  · rintro i H' hi ⟨p2, b2, es, hes, hl, ha, ho⟩
    refine ⟨hw _, no_test fun H2 s2 => ?_⟩
    rw [if_pos rfl]
    refine step i H2 hi (b2.trans (but_of s2)) (p2.keep s2) _ fun e H3 he hk p3 b3 => ?_
    have h3 := b3 D _ (s2 _ _ hes) hDd
    refine ⟨_, h3, by rw [List.length_map]; exact size_lt (by omega), ?_, ?_, es ++ [e], ?_, ?_, ?_, ?_⟩
    · rw [Nat.add_mul, Nat.one_mul, ← Nat.add_assoc]
      exact p3.put hDd hDc
    · exact ((b2.trans (but_of s2)).trans b3).put nD
    · rw [upd_same, List.map_append]
      rfl
    · rw [List.length_append, hl]
      rfl
    · rw [List.all_append, ha]
      show (true && (isEntD e && true)) = true
      rw [he]
      rfl
    · intro u hu
      rcases List.mem_append.mp hu with h | h
      · exact ho u h
      · rw [List.mem_singleton.mp h]
        exact hk
  · rintro H' ⟨p2, b2, es, hes, hl, ha, ho⟩
    exact fin es H' hl ha ho hes p2 b2
/-! ### _law_rule: slots pen 0, states 1, words 2, state 3, other 4, word 5, k 6, pattern 7, sort 8, exact 9, entry 10, some 11, beginning 12 cells pen, some, words -/
def PlainAt (K : PySem.W.Frag) (H : Hp) (a : Addr) (z : Str) (es : List PyData) (gd : PyData) (x : Bool) : Prop := ∃ tP gV, SqT K H a [.str z, .ref tP, gV, .bl x] ∧ SqT K H tP (es.map entV) ∧ GoalAt K H gV gd
def okRule (z : Str) (es : List PyData) (gd : PyData) : Prop := wrd z = true ∧ es.all isEntD = true ∧ es.length ≤ 2 ∧ isGoalD gd (.tuple es) = true
theorem goal_ok {y : Str} {bs es : List PyData} (hy : wrd y = true) (hb : bs.all isEntD = true) (hl : bs.length ≤ 4) (hi : ∀ i, PyData.int i ∈ bs → PyData.int i ∈ es) : isGoalD (.tuple [.str y, .tuple bs]) (.tuple es) = true := by
  show (wrd y && (areEntD 4 (.tuple bs) && bs.all fun e => isWordD e || inD e es)) = true
  rw [hy, Bool.true_and, Bool.and_eq_true]
  refine ⟨?_, ?_⟩
  · show (true && (decide ((bs.length : Int) ≤ 4) && bs.all isEntD)) = true
    rw [hb, decide_eq_true (by omega)]
    rfl
  · rw [List.all_eq_true]
    intro e he
    rcases ent_cases (List.all_eq_true.mp hb e he) with ⟨k, rfl⟩ | ⟨x', rfl, hx'⟩
    · have : inD (.int k) es = true := List.any_eq_true.mpr ⟨_, hi k he, by simp [PyData.eqv]⟩
      rw [this, Bool.or_true]
    · have : isWordD (.str x') = true := hx'
      rw [this]
      rfl
theorem dp_ents {H : Hp} {v : V} {bs : List PyData} (h : Dp K H v (.tuple bs)) (e : bs.all isEntD = true) : ∃ tb, v = .ref tb ∧ SqT K H tb (bs.map entV) := by
  cases h with
  | tup h1 h2 => exact ⟨_, rfl, by rw [← ents_val h2 e]; exact h1⟩
def intV : V → Bool
  | .int _ => true
  | _ => false
theorem int_ent (e : PyData) (h : isEntD e = true) : intV (entV e) = isIntD e := by
  rcases ent_cases h with ⟨k, rfl⟩ | ⟨x', rfl, _⟩ <;> rfl
theorem ints_of {es : List PyData} (h : es.all isEntD = true) : ((es.map entV).filter intV).map (fun x => x) = (es.filter isIntD).map entV := by
  rw [List.map_id', List.filter_map]
  congr 1
  exact List.filter_congr fun e he => int_ent e (List.all_eq_true.mp h e he)
end
end RL

/-! The mathematics of rule texts (of HE, HI, HM, HN), without a law's defs. -/
namespace RL
open PySem L2 SX AddrMath VA
/-! from HE -/
/-! ## the law's own reader -/
/-- signs that a text can have -/
def sgn (z : Str) : Prop := ∀ c ∈ z.cps.toList, c < 1114112
theorem mem_joinL {s : List Nat} {c : Nat} : ∀ {ps : List (List Nat)} {p : List Nat}, p ∈ ps → c ∈ p → c ∈ TL.joinL s ps
  | [p], q, h, hc => by
    rw [List.mem_singleton.mp h] at hc
    exact hc
  | p :: q :: r, x, h, hc => by
    show c ∈ p ++ (s ++ TL.joinL s (q :: r))
    rcases List.mem_cons.mp h with rfl | h
    · exact List.mem_append_left _ hc
    · exact List.mem_append_right _ (List.mem_append_right _ (mem_joinL h hc))
theorem sgn_part {x y p : Str} (h : sgn x) (hp : p ∈ Txt.split x y) : sgn p := fun c hc => by
  refine h c ?_
  have e : TL.tl (PySem.Str.join y (Txt.split x y)) = TL.tl x := by rw [PySem.StrLaws.join_split]
  rw [TL.tl_join] at e
  show c ∈ TL.tl x
  rw [← e]
  exact mem_joinL (List.mem_map.mpr ⟨p, hp, rfl⟩) hc
theorem sgn_slice {x : Str} (h : sgn x) (lo hi : Option Int) : sgn (Txt.slice x lo hi) := fun c hc => by
  rw [← C8.cutS_slice] at hc
  have hc' : c ∈ (x.cps.toList.drop (HT.sIx x.length 0 lo)).take (HT.sIx x.length x.length hi - HT.sIx x.length 0 lo) := hc
  exact h c (List.mem_of_mem_drop (List.mem_of_mem_take hc'))
/-! from HI -/
/-- an entry's text -/
def entT : PyData → Str
  | .int i => Str.ofString (toString i)
  | .str z => z
  | _ => Str.empty
def strF (v : V) : V := match v with
  | .int i => .str (Str.ofString (toString i))
  | v => v
theorem entT_seg {e : PyData} (h : isEntD e = true) : strF (entV e) = .str (entT e) ∧ TL.tl (segS e) = 47 :: TL.tl (entT e) ∧ (entT e).length ≤ 8 := by
  have e47 : TL.tl (Str.empty ++ Str.ofString "/") = [47] := by decide +kernel
  rcases ent_cases h with ⟨k, rfl⟩ | ⟨x', rfl, hx⟩
  · refine ⟨rfl, ?_, ?_⟩
    · show TL.tl ((Str.empty ++ Str.ofString "/") ++ Str.ofString (toString k)) = _
      rw [TL.tl_append, e47]
      rfl
    · have h' : (false || (decide (1 ≤ k) && decide (k ≤ 2))) = true := h
      rw [Bool.false_or, Bool.and_eq_true, decide_eq_true_eq, decide_eq_true_eq] at h'
      have : k = 1 ∨ k = 2 := by omega
      rcases this with rfl | rfl <;> decide +kernel
  · refine ⟨rfl, ?_, (word_len hx).2⟩
    show TL.tl ((Str.empty ++ Str.ofString "/") ++ x') = _
    rw [TL.tl_append, e47]
    rfl
theorem join_flat : ∀ ps : List (List Nat), TL.joinL [] ps = ps.flatten
  | [] => rfl
  | [p] => by
    show p = p ++ []
    rw [List.append_nil]
  | p :: q :: r => by
    show p ++ ([] ++ TL.joinL [] (q :: r)) = p ++ (q :: r).flatten
    rw [List.nil_append, join_flat (q :: r)]
theorem join_slash : ∀ (p : List Nat) (ps : List (List Nat)), 47 :: TL.joinL [47] (p :: ps) = ((p :: ps).map fun x => 47 :: x).flatten
  | p, [] => by
    show 47 :: p = (47 :: p) ++ []
    rw [List.append_nil]
  | p, q :: r => by
    show 47 :: (p ++ ([47] ++ TL.joinL [47] (q :: r))) = (47 :: p) ++ ((q :: r).map fun x => 47 :: x).flatten
    rw [← join_slash q r]
    rfl
theorem seg_flat : ∀ {es : List PyData}, es.all isEntD = true → ((es.map segS).map TL.tl).flatten = ((es.map fun e => TL.tl (entT e)).map fun x => 47 :: x).flatten
  | [], _ => rfl
  | e :: es, h => by
    rw [List.all_cons, Bool.and_eq_true] at h
    show TL.tl (segS e) ++ ((es.map segS).map TL.tl).flatten = (47 :: TL.tl (entT e)) ++ ((es.map fun e => TL.tl (entT e)).map fun x => 47 :: x).flatten
    rw [(entT_seg h.1).2.1, seg_flat h.2]
/-- the law's text of entries is the program's -/
theorem path_same {es : List PyData} (h : es.all isEntD = true) (x : Bool) : Str.ofString "/" ++ Txt.join (Str.ofString "/") (es.map entT ++ (if x = true then [] else [Str.ofString ".."])) = pathS es x := by
  have t47 : TL.tl (Str.ofString "/") = [47] := by decide +kernel
  have t0 : TL.tl (Str.ofString "") = [] := by decide +kernel
  have jE : TL.tl (Txt.join (Str.ofString "") (es.map segS)) = ((es.map fun e => TL.tl (entT e)).map fun x => 47 :: x).flatten := by
    rw [TL.join_eq, TL.tl_join, t0, join_flat, seg_flat h]
  refine TL.ext_tl ?_
  rw [TL.tl_append, TL.join_eq, TL.tl_join, t47, List.map_append, List.map_map]
  unfold pathS
  cases x with
  | true =>
    rw [if_pos rfl, if_pos rfl, List.map_nil, List.append_nil]
    cases es with
    | nil =>
      rw [if_pos (by decide +kernel)]
      rfl
    | cons e r =>
      have ne : ¬ Txt.join (Str.ofString "") ((e :: r).map segS) = Str.ofString "" := fun z => by
        rw [z, t0] at jE
        cases jE
      rw [if_neg ne, jE]
      exact join_slash _ _
  | false =>
    rw [if_neg (by decide), if_neg (by decide), TL.tl_append, jE]
    have d : TL.tl (Str.ofString "..") = [46, 46] := by decide +kernel
    have d2 : TL.tl (Str.ofString "/..") = [47, 46, 46] := by decide +kernel
    rw [List.map_cons, List.map_nil, d, d2]
    have key : ∀ l : List (List Nat), [47] ++ TL.joinL [47] (l ++ [[46, 46]]) = (l.map fun x => 47 :: x).flatten ++ [47, 46, 46] := fun l => by
      cases l with
      | nil => rfl
      | cons p r =>
        show 47 :: TL.joinL [47] (p :: (r ++ [[46, 46]])) = _
        rw [join_slash]
        simp
    exact key _
/-! from HM -/
/-- the weight of parts: their signs and one more for each -/
def wgt (ys : List Str) : Nat := (ys.map fun y => y.length + 1).sum
theorem wgt_app (xs ys : List Str) : wgt (xs ++ ys) = wgt xs + wgt ys := by
  unfold wgt
  rw [List.map_append, List.sum_append]
theorem wgt_take (n : Nat) (ys : List Str) : wgt (ys.take n) ≤ wgt ys := by
  have := wgt_app (ys.take n) (ys.drop n)
  rw [List.take_append_drop] at this
  omega
theorem wgt_drop (n : Nat) (ys : List Str) : wgt (ys.drop n) ≤ wgt ys := by
  have := wgt_app (ys.take n) (ys.drop n)
  rw [List.take_append_drop] at this
  omega
theorem wgt_mem {ys : List Str} {y : Str} (h : y ∈ ys) : y.length + 1 ≤ wgt ys := by
  induction ys with
  | nil => cases h
  | cons z r ih =>
    unfold wgt
    rw [List.map_cons, List.sum_cons]
    rcases List.mem_cons.mp h with rfl | h
    · omega
    · have := ih h
      unfold wgt at this
      omega
theorem wgt_len (ys : List Str) : ys.length ≤ wgt ys := by
  induction ys with
  | nil => exact Nat.zero_le _
  | cons z r ih =>
    unfold wgt at ih ⊢
    rw [List.map_cons, List.sum_cons, List.length_cons]
    omega
theorem wgt_sum (ys : List Str) : wgt ys = (ys.map (·.length)).sum + ys.length := by
  induction ys with
  | nil => rfl
  | cons z r ih =>
    unfold wgt at ih ⊢
    simp only [List.map_cons, List.sum_cons, List.length_cons]
    omega
theorem join_wgt : ∀ ys : List Str, (PySem.Str.join blank ys).length ≤ wgt ys
  | [] => Nat.zero_le _
  | [p] => by
    show p.length ≤ wgt [p]
    exact Nat.le_of_succ_le (wgt_mem (List.mem_singleton.mpr rfl))
  | p :: q :: r => by
    show (p ++ blank ++ PySem.Str.join blank (q :: r)).length ≤ _
    have ih := join_wgt (q :: r)
    have l1 : blank.length = 1 := by decide +kernel
    rw [str_len_app, str_len_app, l1]
    have e : wgt (p :: q :: r) = (p.length + 1) + wgt (q :: r) := rfl
    omega
theorem mem_join {s : List Nat} {c : Nat} : ∀ {ps : List (List Nat)}, c ∈ TL.joinL s ps → c ∈ s ∨ ∃ p ∈ ps, c ∈ p
  | [], h => nomatch h
  | [p], h => .inr ⟨p, List.mem_singleton.mpr rfl, h⟩
  | p :: q :: r, h => by
    have h' : c ∈ p ++ (s ++ TL.joinL s (q :: r)) := h
    rcases List.mem_append.mp h' with h | h
    · exact .inr ⟨p, List.mem_cons_self .., h⟩
    · rcases List.mem_append.mp h with h | h
      · exact .inl h
      · rcases mem_join h with h | ⟨x, hx, hc⟩
        · exact .inl h
        · exact .inr ⟨x, List.mem_cons_of_mem _ hx, hc⟩
theorem join_fit {ys : List Str} (h : ∀ y ∈ ys, sgn y) : (Txt.join blank ys).length ≤ wgt ys ∧ sgn (Txt.join blank ys) := by
  rw [TL.join_eq]
  refine ⟨join_wgt ys, fun c hc => ?_⟩
  have hc' : c ∈ TL.tl (PySem.Str.join blank ys) := hc
  rw [TL.tl_join] at hc'
  rcases mem_join hc' with h1 | ⟨p, hp, h2⟩
  · have : TL.tl blank = [32] := by decide +kernel
    rw [this] at h1
    rw [List.mem_singleton.mp h1]
    decide
  · obtain ⟨y, hy, rfl⟩ := List.mem_map.mp hp
    exact h y hy c h2
theorem sgn_app {x y : Str} (hx : sgn x) (hy : sgn y) : sgn (x ++ y) := fun c hc => by
  have hc' : c ∈ TL.tl (x ++ y) := hc
  rw [TL.tl_append] at hc'
  rcases List.mem_append.mp hc' with h | h
  · exact hx c h
  · exact hy c h
theorem split_wgt (t : Str) : wgt (Txt.split t blank) ≤ t.length + 1 := by
  rw [wgt_sum]
  exact PyProof.Rows.split_weight t blank (by decide +kernel)
abbrev oddL : List V := [.str "to", .str "stays", .str "a", .str "/", .str "/..", .str "/1", .str "/3", .str "/a/1/2/..", .str "", .str "//", .str "/a/", .str "A", .str "1", .str "/01"]
abbrev oddM : List V := oddL ++ [.str "/1/2/1/2/1/.."]
theorem odd_fit {v : V} (h : v ∈ oddM) : ∃ z : Str, v = .str z ∧ z.length ≤ 13 ∧ sgn z := by
  simp only [oddM, oddL, List.cons_append, List.nil_append, List.mem_cons, List.not_mem_nil, or_false] at h
  rcases h with rfl | rfl | rfl | rfl | rfl | rfl | rfl | rfl | rfl | rfl | rfl | rfl | rfl | rfl | rfl <;> exact ⟨_, rfl, by decide +kernel, by unfold sgn; decide +kernel⟩
/-! from HN -/
/-! ## what is written is read -/
theorem word_no {z : Str} {c : Nat} (h : wrd z = true) (hc : c < 97) : c ∉ TL.tl z := no_of hc (isW_iff.mp (show isW z.cps.toList = true from h)).2.2
theorem word_sgn {z : Str} (h : wrd z = true) : sgn z := fun c hc => by
  have hl : isL c = true := (isW_iff.mp (show isW z.cps.toList = true from h)).2.2 c hc
  have h' : (decide (97 ≤ c) && decide (c ≤ 122)) = true := hl
  rw [Bool.and_eq_true, decide_eq_true_eq, decide_eq_true_eq] at h'
  omega
theorem hole_two {k : Int} (h : isEntD (.int k) = true) : k = 1 ∨ k = 2 := by
  have h' : (false || (decide (1 ≤ k) && decide (k ≤ 2))) = true := h
  rw [Bool.false_or, Bool.and_eq_true, decide_eq_true_eq, decide_eq_true_eq] at h'
  omega
theorem entT_no {e : PyData} {c : Nat} (h : isEntD e = true) (hc : c < 48) : c ∉ TL.tl (entT e) ∧ TL.tl (entT e) ≠ [] ∧ sgn (entT e) := by
  rcases ent_cases h with ⟨k, rfl⟩ | ⟨z, rfl, hz⟩
  · have t1 : TL.tl (Str.ofString (toString (1 : Int))) = [49] := by decide +kernel
    have t2 : TL.tl (Str.ofString (toString (2 : Int))) = [50] := by decide +kernel
    rcases hole_two h with rfl | rfl
    · show c ∉ TL.tl (Str.ofString (toString (1 : Int))) ∧ TL.tl (Str.ofString (toString (1 : Int))) ≠ [] ∧ _
      refine ⟨?_, ?_, fun x hx => ?_⟩
      · rw [t1]
        intro z
        have := List.mem_singleton.mp z
        omega
      · rw [t1]
        exact List.cons_ne_nil _ _
      · have hx' : x ∈ TL.tl (Str.ofString (toString (1 : Int))) := hx
        rw [t1] at hx'
        have := List.mem_singleton.mp hx'
        omega
    · show c ∉ TL.tl (Str.ofString (toString (2 : Int))) ∧ TL.tl (Str.ofString (toString (2 : Int))) ≠ [] ∧ _
      refine ⟨?_, ?_, fun x hx => ?_⟩
      · rw [t2]
        intro z
        have := List.mem_singleton.mp z
        omega
      · rw [t2]
        exact List.cons_ne_nil _ _
      · have hx' : x ∈ TL.tl (Str.ofString (toString (2 : Int))) := hx
        rw [t2] at hx'
        have := List.mem_singleton.mp hx'
        omega
  · refine ⟨word_no hz (by omega), fun e => ?_, word_sgn hz⟩
    have l := (word_len hz).1
    rw [TL.len_tl, show TL.tl z = [] from e] at l
    cases l
theorem entP_T {e : PyData} (h : isEntD e = true) : entP (entT e) = some e := by
  rcases ent_cases h with ⟨k, rfl⟩ | ⟨z, rfl, hz⟩
  · rcases hole_two h with rfl | rfl
    · show entP (Str.ofString (toString (1 : Int))) = _
      unfold entP holeP
      rw [if_neg (by decide +kernel), if_pos (by decide +kernel)]
    · show entP (Str.ofString (toString (2 : Int))) = _
      unfold entP holeP
      rw [if_neg (by decide +kernel), if_neg (by decide +kernel), if_pos (by decide +kernel)]
  · show entP z = _
    unfold entP
    rw [if_pos (show isW z.cps.toList = true from hz)]
theorem ents_T : ∀ {es : List PyData}, es.all isEntD = true → ((es.map entT).all fun p => (entP p).isSome) = true ∧ (es.map entT).filterMap entP = es
  | [], _ => ⟨rfl, rfl⟩
  | e :: es, h => by
    rw [List.all_cons, Bool.and_eq_true] at h
    obtain ⟨i1, i2⟩ := ents_T h.2
    refine ⟨?_, ?_⟩
    · rw [List.map_cons, List.all_cons, i1, entP_T h.1]
      rfl
    · rw [List.map_cons, List.filterMap_cons, entP_T h.1, i2]
theorem dots_tl : TL.tl (Str.ofString "..") = [46, 46] := by decide +kernel
/-- the parts of a written path -/
def prts (es : List PyData) (x : Bool) : List Str := es.map entT ++ (if x = true then [] else [Str.ofString ".."])
theorem prts_mem {es : List PyData} {x : Bool} (h : es.all isEntD = true) {p : Str} (hp : p ∈ prts es x) : 47 ∉ TL.tl p ∧ 32 ∉ TL.tl p ∧ TL.tl p ≠ [] ∧ sgn p := by
  rcases List.mem_append.mp hp with hp | hp
  · obtain ⟨e, he, rfl⟩ := List.mem_map.mp hp
    have k := List.all_eq_true.mp h e he
    obtain ⟨a1, a2, a3⟩ := entT_no (c := 47) k (by decide)
    exact ⟨a1, (entT_no (c := 32) k (by decide)).1, a2, a3⟩
  · cases x with
    | true => cases hp
    | false =>
      rw [List.mem_singleton.mp hp]
      refine ⟨by rw [dots_tl]; decide, by rw [dots_tl]; decide, by rw [dots_tl]; decide, fun c hc => ?_⟩
      have hc' : c ∈ TL.tl (Str.ofString "..") := hc
      rw [dots_tl] at hc'
      simp only [List.mem_cons, List.not_mem_nil, or_false] at hc'
      omega
theorem parts_read {es : List PyData} (h : es.all isEntD = true) (x : Bool) : partsP (prts es x) = some (es, x) := by
  obtain ⟨i1, i2⟩ := ents_T h
  unfold partsP prts
  cases x with
  | false =>
    have l : (es.map entT ++ [Str.ofString ".."]).getLast? = some dots := by rw [List.getLast?_append]; rfl
    have d : (es.map entT ++ [Str.ofString ".."]).dropLast = es.map entT := List.dropLast_concat
    simp only [Bool.false_eq_true, if_false, l, decide_true, Bool.not_true, d, i1, i2, if_true]
  | true =>
    have l : ¬ (es.map entT).getLast? = some dots := fun e => by
      have m := List.mem_of_getLast? e
      obtain ⟨u, hu, eu⟩ := List.mem_map.mp m
      have := (entT_no (c := 46) (List.all_eq_true.mp h u hu) (by decide)).1
      rw [eu] at this
      exact this (by rw [show TL.tl dots = [46, 46] from dots_tl]; exact List.mem_cons_self ..)
    simp only [if_true, List.append_nil, l, decide_false, Bool.not_false, i1, i2]
theorem slash_tl : TL.tl (Str.ofString "/") = [47] := by decide +kernel
theorem cut_rest (l : List Nat) (c : Nat) : Txt.slice ⟨(c :: l).toArray⟩ (some 1) none = ⟨l.toArray⟩ := by
  rw [← C8.cutS_slice]
  unfold cutS
  have l1 : (⟨(c :: l).toArray⟩ : Str).length = l.length + 1 := rfl
  have s1 : HT.sIx (l.length + 1) 0 (some 1) = 1 := by
    show HT.sIx (l.length + 1) 0 (some ((1 : Nat) : Int)) = 1
    rw [HT.sIx_nat]
    omega
  rw [l1, s1, HT.sIx_none]
  show (⟨((c :: l).drop 1 |>.take (l.length + 1 - 1)).toArray⟩ : Str) = _
  rw [List.drop_one, List.tail_cons, Nat.add_sub_cancel, List.take_length]
theorem path_tl {es : List PyData} (h : es.all isEntD = true) (x : Bool) : TL.tl (pathS es x) = 47 :: TL.joinL [47] ((prts es x).map TL.tl) := by
  rw [← path_same h x, TL.tl_append, slash_tl, TL.join_eq, TL.tl_join, slash_tl]
  rfl
theorem path_free {es : List PyData} (h : es.all isEntD = true) (x : Bool) : 32 ∉ TL.tl (pathS es x) ∧ sgn (pathS es x) := by
  have mem : ∀ c ∈ TL.tl (pathS es x), c = 47 ∨ ∃ p ∈ prts es x, c ∈ TL.tl p := fun c hc => by
    rw [path_tl h x] at hc
    rcases List.mem_cons.mp hc with h1 | h1
    · exact .inl h1
    · rcases mem_join h1 with h2 | ⟨p, hp, h2⟩
      · exact .inl (List.mem_singleton.mp h2)
      · obtain ⟨y, hy, rfl⟩ := List.mem_map.mp hp
        exact .inr ⟨y, hy, h2⟩
  refine ⟨fun hc => ?_, fun c hc => ?_⟩
  · rcases mem 32 hc with e | ⟨p, hp, hc⟩
    · cases e
    · exact (prts_mem h hp).2.1 hc
  · rcases mem c hc with e | ⟨p, hp, hc⟩
    · omega
    · exact (prts_mem h hp).2.2.2 c hc
theorem path_read {es : List PyData} (h : es.all isEntD = true) (x : Bool) : pathP (pathS es x) = some (es, x) := by
  by_cases c : prts es x = []
  · have ex : es = [] ∧ x = true := by
      unfold prts at c
      obtain ⟨c1, c2⟩ := List.append_eq_nil_iff.mp c
      refine ⟨List.map_eq_nil_iff.mp c1, ?_⟩
      cases x with
      | true => rfl
      | false => cases c2
    obtain ⟨rfl, rfl⟩ := ex
    exact if_pos (by decide +kernel)
  · have e1 := path_tl h x
    obtain ⟨p, r, hp⟩ := List.exists_cons_of_ne_nil c
    have hj : TL.joinL [47] ((prts es x).map TL.tl) ≠ [] := fun e => by
      have hm : p ∈ prts es x := by rw [hp]; exact List.mem_cons_self ..
      have hn := (prts_mem h hm).2.2.1
      obtain ⟨a, s, ea⟩ := List.exists_cons_of_ne_nil hn
      have hm2 : TL.tl p ∈ (prts es x).map TL.tl := List.mem_map.mpr ⟨p, hm, rfl⟩
      have ha : a ∈ TL.tl p := by rw [ea]; exact List.mem_cons_self ..
      have := mem_joinL (s := [47]) hm2 ha
      rw [e] at this
      cases this
    have ne : pathS es x ≠ slash := fun e => by
      rw [e, show TL.tl slash = [47] from slash_tl] at e1
      exact hj (List.cons.inj e1).2.symm
    have st : Txt.startswith (pathS es x) slash = true := by
      have es' : slash = S [47] := by decide +kernel
      rw [es', starts_one, decide_eq_true_eq]
      show (TL.tl (pathS es x)).head? = some 47
      rw [e1]
      rfl
    have sl : Txt.slice (pathS es x) (some 1) none = Txt.join slash (prts es x) := by
      have : pathS es x = ⟨(47 :: TL.joinL [47] ((prts es x).map TL.tl)).toArray⟩ := by rw [← e1, TL.mk_tl]
      rw [this, cut_rest]
      refine TL.ext_tl ?_
      rw [TL.join_eq, TL.tl_join, show TL.tl slash = [47] from slash_tl]
    unfold pathP
    rw [if_neg ne, if_pos st, sl, TL.split_join (s := 47) (S := []) slash_tl (by decide +kernel) c fun p hp => (prts_mem h hp).1, parts_read h x]
/-- the goal, as a text says it -/
def goalP : PyData → Option (Str × List PyData)
  | .tuple [.str y, b] => some (y, itemsD b)
  | _ => none
theorem goalS_P (gd : PyData) : goalSD (goalP gd) = goalD gd := by
  unfold goalP
  split
  · rfl
  · rename_i h
    unfold goalD
    split
    · rename_i y b
      exact absurd rfl (h y b)
    · rfl
/-- a rule's text is read as the rule; its length, its signs -/
theorem rule_read {z : Str} {es : List PyData} {gd : PyData} {x : Bool} (ok : okRule z es gd) : ruleP (ruleS z (.tuple es) gd x) = some (z, es, goalP gd, x) ∧ (ruleS z (.tuple es) gd x).length ≤ 82 ∧ sgn (ruleS z (.tuple es) gd x) := by
  obtain ⟨o1, o2, o3, o4⟩ := ok
  have e0 : TL.tl Str.empty = [] := by decide +kernel
  have eB : TL.tl blank = [32] := by decide +kernel
  have e1 : TL.tl (Str.ofString " ") = [32] := by decide +kernel
  have e6 : TL.tl (Str.ofString " stays") = 32 :: TL.tl stays := by decide +kernel
  have e4 : TL.tl (Str.ofString " to ") = 32 :: (TL.tl toward ++ [32]) := by decide +kernel
  have fs : 32 ∉ TL.tl stays := by decide +kernel
  have ft : 32 ∉ TL.tl toward := by decide +kernel
  have gs : sgn stays := by unfold sgn; decide +kernel
  have gt : sgn toward := by unfold sgn; decide +kernel
  have fz := word_no (c := 32) o1 (by decide)
  obtain ⟨fp, gp⟩ := path_free o2 x
  have lz := (word_len o1).2
  have lp := (path_len o2 x).2
  rcases goal_parts o4 with rfl | ⟨gz, gb, rfl, hgz, hgb⟩
  · have eq : ruleS z (.tuple es) .none x = Txt.join blank [z, pathS es x, stays] := by
      refine TL.ext_tl ?_
      rw [TL.join_eq, TL.tl_join, eB]
      show TL.tl (Str.empty ++ (Str.empty ++ z ++ Str.ofString " " ++ pathS es x) ++ Str.ofString " stays") = TL.tl z ++ ([32] ++ (TL.tl (pathS es x) ++ ([32] ++ TL.tl stays)))
      simp only [TL.tl_append, e0, e1, e6, List.nil_append, List.append_assoc, List.cons_append]
    have fr : ∀ p ∈ [z, pathS es x, stays], 32 ∉ TL.tl p ∧ sgn p := fun p hp => by
      simp only [List.mem_cons, List.not_mem_nil, or_false] at hp
      rcases hp with rfl | rfl | rfl
      · exact ⟨fz, word_sgn o1⟩
      · exact ⟨fp, gp⟩
      · exact ⟨fs, gs⟩
    have ln : (ruleS z (.tuple es) .none x).length ≤ 82 := by
      rw [eq]
      refine Nat.le_trans (join_fit fun p hp => (fr p hp).2).1 ?_
      show (z.length + 1) + ((((pathS es x).length + 1)) + ((stays.length + 1) + 0)) ≤ 82
      have : stays.length = 5 := by decide +kernel
      omega
    refine ⟨?_, ln, ?_⟩
    · rw [eq]
      unfold ruleP
      rw [TL.split_join (s := 32) (S := []) eB (by decide +kernel) (by simp) fun p hp => (fr p hp).1]
      show (if stays = stays then sidesP z (pathS es x) none else none) = _
      rw [if_pos rfl]
      unfold sidesP
      rw [path_read o2 x]
      show (if isW z.cps.toList = true then _ else none) = _
      rw [if_pos (show isW z.cps.toList = true from o1)]
      rfl
    · rw [eq]
      exact (join_fit fun p hp => (fr p hp).2).2
  · obtain ⟨_, b2, b3⟩ := areEnt_parts hgb
    obtain ⟨fq, gq⟩ := path_free b3 x
    have fg := word_no (c := 32) (z := gz) hgz (by decide)
    have lg := (word_len hgz).2
    have lq := (path_len b3 x).2
    have eq : ruleS z (.tuple es) (.tuple [.str gz, gb]) x = Txt.join blank [z, pathS es x, toward, gz, pathS (itemsD gb) x] := by
      refine TL.ext_tl ?_
      rw [TL.join_eq, TL.tl_join, eB]
      show TL.tl (Str.empty ++ (Str.empty ++ z ++ Str.ofString " " ++ pathS es x) ++ Str.ofString " to " ++ gz ++ Str.ofString " " ++ pathS (itemsD gb) x) = TL.tl z ++ ([32] ++ (TL.tl (pathS es x) ++ ([32] ++ (TL.tl toward ++ ([32] ++ (TL.tl gz ++ ([32] ++ TL.tl (pathS (itemsD gb) x))))))))
      simp only [TL.tl_append, e0, e1, e4, List.nil_append, List.append_assoc, List.cons_append]
    have fr : ∀ p ∈ [z, pathS es x, toward, gz, pathS (itemsD gb) x], 32 ∉ TL.tl p ∧ sgn p := fun p hp => by
      simp only [List.mem_cons, List.not_mem_nil, or_false] at hp
      rcases hp with rfl | rfl | rfl | rfl | rfl
      · exact ⟨fz, word_sgn o1⟩
      · exact ⟨fp, gp⟩
      · exact ⟨ft, gt⟩
      · exact ⟨fg, word_sgn hgz⟩
      · exact ⟨fq, gq⟩
    have ln : (ruleS z (.tuple es) (.tuple [.str gz, gb]) x).length ≤ 82 := by
      simp only [ruleS, str_len_app]
      have l0 : Str.empty.length = 0 := by decide +kernel
      have l1 : (Str.ofString " ").length = 1 := by decide +kernel
      have l4 : (Str.ofString " to ").length = 4 := by decide +kernel
      have lp' : (pathS (itemsD (.tuple es)) x).length ≤ 9 * es.length + 3 := lp
      omega
    refine ⟨?_, ln, ?_⟩
    · rw [eq]
      unfold ruleP
      rw [TL.split_join (s := 32) (S := []) eB (by decide +kernel) (by simp) fun p hp => (fr p hp).1]
      show (if (decide (toward = toward) && isW gz.cps.toList) = true then sidesP z (pathS es x) (some (gz, pathS (itemsD gb) x)) else none) = _
      rw [if_pos (by rw [decide_eq_true rfl, show isW gz.cps.toList = true from hgz]; rfl)]
      unfold sidesP
      rw [path_read o2 x]
      show (if isW z.cps.toList = true then (match pathP (pathS (itemsD gb) x) with
        | none => none
        | some (es', y) => if y = x then some (z, es, some (gz, es'), x) else none) else none) = _
      rw [if_pos (show isW z.cps.toList = true from o1), path_read b3 x]
      show (if x = x then _ else none) = _
      rw [if_pos rfl]
      rfl
    · rw [eq]
      exact (join_fit fun p hp => (fr p hp).2).2
end RL

/-! Comprehensions whose items are told by the index, with a test; a statement that is never reached; a class made through a local name from a starred argument. -/
namespace VA
open PySem L2 SX AddrMath PySem.Spec PyProof.Rows StX
theorem range_fm {α β : Type} (f : α → Option β) : ∀ ss : List α, (List.range ss.length).filterMap (fun i => ss[i]?.bind f) = ss.filterMap f
  | [] => rfl
  | x :: r => by
    have ih := range_fm f r
    rw [List.length_cons, List.range_succ_eq_map, List.filterMap_cons, List.filterMap_map, List.filterMap_cons]
    have e : ((fun i => (x :: r)[i]?.bind f) ∘ Nat.succ) = fun i => r[i]?.bind f := by
      funext i
      rfl
    rw [e, ih]
    rfl
/-- a comprehension over a list or a tuple: what each index gives, if it gives any -/
theorem seq_opt {K : PySem.W.Frag} {a : Addr} {xs : List V} {j : Nat} {tt : TT} {te : TE} {vs : List Nat} {σ : L2.St} {H1 : Hp} {Qd : Addr → Hp → Prop} (hq : SqA K H1 a xs) (few : xs.length ≤ 100000) (F : Nat → Option V)
    (hw : ∀ x, wipe ((wipe σ vs).set j (some x)) vs = wipe σ vs)
    (step : ∀ i x, xs[i]? = some x → ∀ H, Same H1 H → (∀ R : Bool → Hp → Prop, (∀ H', Same H H' → R (F i).isSome H') → tt ((wipe σ vs).set j (some x)) H R) ∧ (∀ y, F i = some y → ∀ H', Same H H' → ∀ R : VK, (∀ H'', Same H' H'' → R y H'') → te ((wipe σ vs).set j (some x)) H' R))
    (fin : ∀ D H', H1 D = none → H' D = some (.lst ((List.range xs.length).filterMap F)) → Same H1 H' → Qd D H') :
    ∃ a', V.ref a = V.ref a' ∧ (((∃ ys, SqL K H1 a' ys) ∧ ∀ D, H1 D = none → LcGoal (Itl K a') (gName j) tt te vs σ H1 D (Qd D)) ∨ ((∃ ys, SqT K H1 a' ys) ∧ ∀ D, H1 D = none → LcGoal (Itt K a') (gName j) tt te vs σ H1 D (Qd D))) := by
  have key : ∀ D, H1 D = none → ∀ i x H, xs[i]? = some x → (Same H1 H ∧ H D = some (.lst ((List.range i).filterMap F))) → gName j x (wipe σ vs) H fun σ2 H2 => wipe σ2 vs = wipe σ vs ∧ tt σ2 H2 fun b H3 =>
        if b = true then te σ2 H3 fun y H4 => ∃ acc, H4 D = some (.lst acc) ∧ acc.length < sizeLine ∧ (Same H1 (upd H4 D (.lst (acc ++ [y]))) ∧ (upd H4 D (.lst (acc ++ [y]))) D = some (.lst ((List.range (i + 1)).filterMap F))) else (Same H1 H3 ∧ H3 D = some (.lst ((List.range (i + 1)).filterMap F))) := by
    rintro D nD i x H hx ⟨s1, hD⟩
    obtain ⟨t1, t2⟩ := step i x hx H s1
    refine ⟨hw x, t1 _ fun H' s2 => ?_⟩
    have hD2 := s2 _ _ hD
    have hi : i < xs.length := by
      rcases Nat.lt_or_ge i xs.length with h | h
      · exact h
      · rw [List.getElem?_eq_none h] at hx; cases hx
    rw [List.range_succ, List.filterMap_append]
    cases e : F i with
    | none =>
      refine iteF ⟨s1.trans s2, ?_⟩
      rw [show [i].filterMap F = [] by simp [e], List.append_nil]
      exact hD2
    | some y =>
      refine iteT (t2 y e H' s2 _ fun H'' s3 => ⟨_, s3 _ _ hD2, ?_, fun b o z => ?_, ?_⟩)
      · refine size_lt (Nat.le_trans (List.length_filterMap_le _ _) ?_)
        rw [List.length_range]
        omega
      · rw [upd_ne (ne_of_none z nD)]
        exact s3 _ _ (s2 _ _ (s1 _ _ z))
      · rw [upd_same, show [i].filterMap F = [y] by simp [e]]
  refine ⟨a, rfl, ?_⟩
  rcases hq with hq | hq
  · exact .inl ⟨⟨xs, hq⟩, fun D nD => lc_list (K := K) (a := a) (xs := xs) (fun i H => Same H1 H ∧ H D = some (.lst ((List.range i).filterMap F))) ⟨same_new nD, upd_same⟩ (fun i H _ z => z.1.seq hq) (key D nD) (fun H z => fin D H nD z.2 z.1)⟩
  · exact .inr ⟨⟨xs, hq⟩, fun D nD => lc_tup (K := K) (a := a) (xs := xs) (fun i H => Same H1 H ∧ H D = some (.lst ((List.range i).filterMap F))) ⟨same_new nD, upd_same⟩ (fun i H _ z => same_seqT z.1 hq) (key D nD) (fun H z => fin D H nD z.2 z.1)⟩
/-- a statement that is never reached -/
theorem ps_dead {X : Cx} {st : Stmt} : PS X st (fun _ _ _ => False) := ⟨fun _ _ _ _ _ _ h => h.elim⟩
section
variable {X : Cx} {CX : CXT} {i k : Nat} {C f : Addr} {sp : Sp} {E : XK} {x : Str} {np p pos : Pos} {e : Expr} {te : TE}
/-- x(*e), x a local name that holds the class at C -/
def tMakeLS (K : PySem.W.Frag) (i : Nat) (C : Addr) (sp : Sp) (E : XK) (te : TE) : TE := fun σ H Q => σ[i]? = some (some (.ref C)) ∧ te σ H fun y H1 => ∃ a xs, y = V.ref a ∧ (SqT K H1 a xs ∨ SqL K H1 a xs) ∧
  ∀ o dx, H1 o = none → H1 dx = none → dx ≠ o → sp (V.ref o :: xs) (upd (upd H1 dx (.own o)) o (.ins C dx [])) (fun v H2 => v = .non ∧ Q (.ref o) H2) E
theorem pe_makeLS (M : Mk X.K C f) (F : FnR X.prog X.w X.K X.mg X.base CX k f sp) (hr : Room (k + 1) X.A) (at_ : X.N[i]? = some x) (vis : Vis X.env.scope x) (hx : Passes CX X E) (he : PE X e te) (d1 : (x == ("__debug__" : Str)) = false := by decide) (d2 : (x == ("__classdict__" : Str)) = false := by decide)
    (hst : starEach [.Starred e p] X.env = [(true, eval e X.env)] := by rfl) : PE X (.Call (.Name x np) [.Starred e p] [] pos) (tMakeLS X.K i C sp E te) := by
  refine ⟨fun pins s σ H Q I h => ?_⟩
  refine wpAny_Call_Name_kw (thn ((pe_var (pos := np) at_ vis d1 d2).run pins s σ H (fun v H1 => v = .ref C ∧ H1 = H) I ⟨.ref C, h.1, rfl, rfl⟩) fun u s0 ⟨v, H0, I0, r0, ev, eH⟩ => ?_)
  subst ev eH
  cases r0
  refine PySem.W.callWith_S (h₀ := X.base) I0.ok.mod.kin M.kp (thn (he.run pins s0 σ _ _ I0 h.2) fun v s1 ⟨y, H1, I1, ry, a, xs, ey, hxs, q⟩ => ?_) hst
  subst ey
  obtain rfl : v = Value.ref a := ry
  exact star_any I1 hxs fun us s2 I2 rv => ⟨I2.kIn, run_makeR M F hr hx I2 rv q⟩
/-- x(*e), x a class of the module -/
def tMakeGS (K : PySem.W.Frag) (C : Addr) (sp : Sp) (E : XK) (te : TE) : TE := fun σ H Q => te σ H fun y H1 => ∃ a xs, y = V.ref a ∧ (SqT K H1 a xs ∨ SqL K H1 a xs) ∧
  ∀ o dx, H1 o = none → H1 dx = none → dx ≠ o → sp (V.ref o :: xs) (upd (upd H1 dx (.own o)) o (.ins C dx [])) (fun v H2 => v = .non ∧ Q (.ref o) H2) E
theorem pe_makeGS (M : Mk X.K C f) (F : FnR X.prog X.w X.K X.mg X.base CX k f sp) (hr : Room (k + 1) X.A) (hg : Gl X x) (hm : X.mg x = some (.ref C)) (hx : Passes CX X E) (he : PE X e te) (hd : (x == ("__debug__" : Str)) = false := by decide)
    (hst : starEach [.Starred e p] X.env = [(true, eval e X.env)] := by rfl) : PE X (.Call (.Name x np) [.Starred e p] [] pos) (tMakeGS X.K C sp E te) := by
  refine ⟨fun pins s σ H Q I h => ?_⟩
  refine wpAny_Call_Name_kw (ld_glob I hg hm ?_ hd)
  refine PySem.W.callWith_S (h₀ := X.base) I.ok.mod.kin M.kp (thn (he.run pins s σ H _ I h) fun v s1 ⟨y, H1, I1, ry, a, xs, ey, hxs, q⟩ => ?_) hst
  subst ey
  obtain rfl : v = Value.ref a := ry
  exact star_any I1 hxs fun us s2 I2 rv => ⟨I2.kIn, run_makeR M F hr hx I2 rv q⟩
/-- x(), x a class of the module -/
def tMakeR0 (C : Addr) (sp : Sp) (E : XK) : TE := fun σ H Q => ∀ o dx, H o = none → H dx = none → dx ≠ o → sp [V.ref o] (upd (upd H dx (.own o)) o (.ins C dx [])) (fun v H2 => v = .non ∧ Q (.ref o) H2) E
theorem pe_makeR0 (M : Mk X.K C f) (F : FnR X.prog X.w X.K X.mg X.base CX k f sp) (hr : Room (k + 1) X.A) (hg : Gl X x) (hm : X.mg x = some (.ref C)) (hx : Passes CX X E) (hd : (x == ("__debug__" : Str)) = false := by decide) : PE X (.Call (.Name x np) [] [] pos) (tMakeR0 C sp E) := by
  refine ⟨fun pins s σ H Q I h => ?_⟩
  refine wpAny_Call_Name_kw (ld_glob I hg hm ?_ hd)
  exact PySem.W.callWith_K0 I.kIn M.kp (run_makeR (us := []) (vs := []) M F hr hx I .nil h)
end
end VA

-- NOMAP
namespace RL
open PySem L2 SX AddrMath VA PySem.W GR TxSet
theorem ix_tupK {X : Cx} {K : Frag} (h : X.K = K) : IxR X (rIxT K) := by
  subst h
  exact ix_tup
theorem pi_seqK {X : Cx} {K : Frag} (h : X.K = K) {tg e : Expr} {te : TE} (pe : PE X e te) : PI X tg e (iSeq K te) := by
  subst h
  exact pi_seq pe
/-! ## rules, as they are said -/
def RuleS (K : Frag) (C : Addr) (H : Hp) (p : Addr) (s : Said) : Prop := RuleAt K C H p s.1 (.tuple s.2.1) (goalSD s.2.2.1) s.2.2.2
def okS (s : Said) : Prop := okRule s.1 s.2.1 (goalSD s.2.2.1)
def RulesAt (K : Frag) (C : Addr) (H : Hp) (ps : List Addr) (ss : List Said) : Prop := ps.length = ss.length ∧ ∀ (i : Nat) (p : Addr) (s : Said), ps[i]? = some p → ss[i]? = some s → RuleS K C H p s ∧ okS s
theorem RuleS.same {K : Frag} {C : Addr} {H H' : Hp} {p : Addr} {s : Said} (h : RuleS K C H p s) (e : Same H H') : RuleS K C H' p s := RuleAt.same h e
theorem RulesAt.same {K : Frag} {C : Addr} {H H' : Hp} {ps : List Addr} {ss : List Said} (h : RulesAt K C H ps ss) (e : Same H H') : RulesAt K C H' ps ss := ⟨h.1, fun i p s a b => ⟨(h.2 i p s a b).1.same e, (h.2 i p s a b).2⟩⟩
theorem RulesAt.get {K : Frag} {C : Addr} {H : Hp} {ps : List Addr} {ss : List Said} (h : RulesAt K C H ps ss) {i : Nat} {v : V} (e : (ps.map V.ref)[i]? = some v) : ∃ p s, v = .ref p ∧ ps[i]? = some p ∧ ss[i]? = some s ∧ RuleS K C H p s ∧ okS s := by
  rw [List.getElem?_map] at e
  cases hp : ps[i]? with
  | none => rw [hp] at e; cases e
  | some p =>
    rw [hp] at e
    have e' : some (V.ref p) = some v := e
    have hi : i < ps.length := by
      rcases Nat.lt_or_ge i ps.length with h | h
      · exact h
      · rw [List.getElem?_eq_none h] at hp; cases hp
    have hi' : i < ss.length := by rw [← h.1]; exact hi
    have hs : ss[i]? = some ss[i] := List.getElem?_eq_getElem hi'
    exact ⟨p, _, (Option.some.inj e').symm, rfl, hs, h.2 i p _ hp hs⟩
theorem wrong_ok {s : Said} (h : wrongS s = none) : okS s := by
  obtain ⟨z, es, g, x⟩ := s
  unfold wrongS wrongD at h
  by_cases a : isWordD (.str z) = false
  · rw [if_pos a] at h; cases h
  · rw [if_neg a] at h
    by_cases b : areEntD 2 (.tuple es) = false
    · rw [if_pos b] at h; cases h
    · rw [if_neg b] at h
      by_cases c : isGoalD (goalSD g) (.tuple es) = false
      · rw [if_pos c] at h; cases h
      · have b' : (true && (decide ((es.length : Int) ≤ 2) && es.all isEntD)) = true := by
          have : areEntD 2 (.tuple es) = true := by cases e : areEntD 2 (.tuple es) with | true => rfl | false => exact absurd e b
          exact this
        rw [Bool.true_and, Bool.and_eq_true, decide_eq_true_eq] at b'
        refine ⟨?_, b'.2, by show es.length ≤ 2; omega, ?_⟩
        · cases e : isWordD (.str z) with
          | true => exact e
          | false => exact absurd e a
        · cases e : isGoalD (goalSD g) (.tuple es) with
          | true => rfl
          | false => exact absurd e c
theorem rules_fm {K : Frag} {C : Addr} {H : Hp} {β : Type} {ps : List Addr} {ss : List Said} (h : RulesAt K C H ps ss) (f : Said → Option β) : (List.range (ps.map V.ref).length).filterMap (fun i => ss[i]?.bind f) = ss.filterMap f := by
  rw [List.length_map, h.1, range_fm]
theorem nd_le : ∀ {l m : List Str}, l.Nodup → (∀ z ∈ l, z ∈ m) → l.length ≤ m.length
  | [], _, _, _ => Nat.zero_le _
  | x :: l, m, n, h => by
    rw [List.nodup_cons] at n
    have hx : x ∈ m := h x (List.mem_cons_self ..)
    have ih := nd_le (l := l) (m := m.erase x) n.2 fun z hz => (List.mem_erase_of_ne fun e => n.1 (by rw [← e]; exact hz)).mpr (h z (List.mem_cons_of_mem _ hz))
    rw [List.length_erase_of_mem hx] at ih
    have := List.length_pos_of_mem hx
    rw [List.length_cons]
    omega
theorem beg_few {s : Said} (ok : okS s) : (s.2.1 ++ begD (goalSD s.2.2.1)).length ≤ 6 := by
  obtain ⟨z, es, g, x⟩ := s
  have l2 : es.length ≤ 2 := ok.2.2.1
  match g, ok.2.2.2 with
  | none, _ =>
    show (es ++ []).length ≤ 6
    rw [List.append_nil]
    omega
  | some (d, bs), h =>
    have h' : (isW d.cps.toList && (areEntD 4 (.tuple bs) && bs.all fun e => isWordD e || inD e es)) = true := h
    rw [Bool.and_eq_true, Bool.and_eq_true] at h'
    have h4 : (true && (decide ((bs.length : Int) ≤ 4) && bs.all isEntD)) = true := h'.2.1
    rw [Bool.true_and, Bool.and_eq_true, decide_eq_true_eq] at h4
    show (es ++ bs).length ≤ 6
    rw [List.length_append]
    omega
def statesL (ss : List Said) : List Str := ss.map (·.1) ++ ss.filterMap fun s => s.2.2.1.map (·.1)
/-- the words of a rule: its texts -/
def wordsS (s : Said) : List Str := strsD (s.2.1 ++ begD (goalSD s.2.2.1))
def wordsL (ss : List Said) : List Str := ss.flatMap wordsS
section
variable {P : Program} {w : World} {K : Frag} {mg : Str → Option Value} {base : Heap}
/-! ### states_of: slots rules 0, rule 1, states 2, goals 3 -/
abbrev sStatesOf : Stmt := top 52
theorem scStatesOf : FnScope ["rules", "rule", "states", "goals"] ["rules"] (defScope sStatesOf) := ⟨rfl, rfl, rfl, by decide +kernel, rfl, by decide +kernel, by decide +kernel⟩
def spStatesOf (K : Frag) (C : Addr) : Sp := fun vs H Q _ => ∃ (t : Addr) (ps : List Addr) (ss : List Said), vs = [.ref t] ∧ SqT K H t (ps.map V.ref) ∧ RulesAt K C H ps ss ∧ ss.length ≤ 400 ∧
  ∀ (ys : List Str) (r : Addr) (H' : Hp), PyProof.Rows.sortedS ys = true → ys.Nodup → (∀ z, z ∈ ys ↔ z ∈ statesL ss) → SqT K H' r (ys.map V.str) → Same H H' → Q (.ref r) H'
theorem ok_statesof {f C : Addr} {fd : FuncData} (F : Fun K "states_of" "states_of" sStatesOf f fd) (B : Blt mg) (T : RTxt K mg C) (rstate : OwnP P w K mg base C "state" (spGet C nState)) (rgoal : OwnP P w K mg base C "goal" (spGet C nGoal)) :
    FnOk P w K mg base CX0 3 f fd ["rules"] (spStatesOf K C) := by
  refine F.ok scStatesOf (fun vs H Q E h => ?_) (fun cdv A outer s0 H vs Q E hr h => ?_)
  · obtain ⟨t, ps, ss, rfl, _⟩ := h
    rfl
  · obtain ⟨t, ps, ss, rfl, ht, hA, few, q⟩ := h
    have hr2 : Room 2 _ := hr.mono (by decide)
    refine ⟨_, (pss_cons (ps_setLc (i := 2) (own := [("rule", 1)]) (g := gName 1) (tt := tYes) rfl scStatesOf.nd rfl rfl (sw_true rfl rfl rfl (by decide +kernel)) (pi_seq (pv 0))
          (blkOk_by (own := [("rule", 1)]) (N := ["rules", "rule", "states", "goals"]) (sc := defScope sStatesOf) (by decide +kernel))
          (fun _ _ _ _ _ => (pg_name (i := 1) scStatesOf.nd rfl (Or.inl rfl))) (fun _ _ _ _ _ => pts_nil)
          (fun _ _ _ _ _ => (pe_prop (pv 1) T.cl rstate.prop rstate.ok hr2 rstate.b .nil pass0 (by rfl))))
      (pss_cons (ps_setLc (i := 3) (own := [("rule", 1)]) (g := gName 1) rfl scStatesOf.nd rfl rfl (sw_true rfl rfl rfl (by decide +kernel)) (pi_seq (pv 0))
          (blkOk_by (own := [("rule", 1)]) (N := ["rules", "rule", "states", "goals"]) (sc := defScope sStatesOf) (by decide +kernel))
          (fun _ _ _ _ _ => (pg_name (i := 1) scStatesOf.nd rfl (Or.inl rfl))) (fun _ _ _ _ _ => pts_one (pt_cmpR op_notN (pe_prop (pv 1) T.cl rgoal.prop rgoal.ok hr2 rgoal.b .nil pass0 (by rfl)) pe_non (nomark _)))
          (fun _ _ _ _ _ => (pe_ix (ix_tupK (K := K) rfl) (pe_prop (pv 1) T.cl rgoal.prop rgoal.ok hr2 rgoal.b .nil pass0 (by rfl)) pe_int (fun _ _ => rfl))))
      (pss_one (ps_ret (pe_callTy call_tuple_of (by rfl) B.tuple_ (by decide +kernel) (pa_cons (pe_srtSet rfl (by rfl) B.sorted_ (by rfl) B.set_ (pe_op op_cat (pv 2) (pv 3))) pa_nil)))))), ?_⟩
    refine ⟨_, rfl, ?_⟩
    refine seq_opt (.inr ht) (by rw [List.length_map, hA.1]; omega) (fun i => ss[i]?.bind fun s => some (V.str s.1)) ?hw (fun i x hx G sG => ?_) fun D H1 nD hD s1 => ?_
    case hw => intro _; rfl
    · obtain ⟨p, s, rfl, hp, hs, hS, _⟩ := (hA.same sG).get hx
      refine ⟨fun R hR => no_test fun H' s' => by have := hR H' s'; rw [hs] at this; exact this, fun y hy G2 s2 R hR => ?_⟩
      rw [hs] at hy
      cases hy
      obtain ⟨dx, tP, tW, tK, gV, ws, hp', _⟩ := (hS.same s2).ex
      exact ⟨_, rfl, p, dx, _, rfl, hp', p, dx, _, _, rfl, hp', rfl, hR G2 (Same.refl G2)⟩
    rw [rules_fm hA] at hD
    have hA1 := hA.same s1
    refine ⟨_, rfl, ?_⟩
    refine seq_opt (.inr (same_seqT s1 ht)) (by rw [List.length_map, hA.1]; omega) (fun i => ss[i]?.bind fun s => s.2.2.1.map fun g => V.str g.1) ?hw2 (fun i x hx G sG => ?_) fun D2 H2 nD2 hD2 s2 => ?_
    case hw2 => intro _; rfl
    · obtain ⟨p, s, rfl, hp, hs, hS, _⟩ := (hA1.same sG).get hx
      refine ⟨fun R hR => ?_, fun y hy G2 s2 R hR => ?_⟩
      · obtain ⟨dx, tP, tW, tK, gV, ws, hp', _, hG, _⟩ := hS.ex
        have hR' := hR G (Same.refl G)
        rw [hs] at hR'
        refine ⟨_, rfl, p, dx, _, rfl, hp', p, dx, _, _, rfl, hp', rfl, rfl, _, rfl, ?_⟩
        obtain ⟨z, es, g, b⟩ := s
        match g, hG, hR' with
        | none, hG, hR' =>
          cases (show gV = .non from hG)
          exact hR'
        | some (d, bs), hG, hR' =>
          obtain ⟨g', tb, rfl, _⟩ := hG
          exact hR'
      · obtain ⟨dx, tP, tW, tK, gV, ws, hp', _, hG, _⟩ := (hS.same s2).ex
        rw [hs] at hy
        obtain ⟨z, es, g, b⟩ := s
        match g, hG, hy with
        | some (d, bs), hG, hy =>
          cases hy
          obtain ⟨g', tb, rfl, hg, _⟩ := hG
          exact ⟨_, rfl, p, dx, _, rfl, hp', p, dx, _, _, rfl, hp', rfl, g', _, 0, _, rfl, rfl, .inl (.inl hg), rfl, hR G2 (Same.refl G2)⟩
    rw [rules_fm hA] at hD2
    have e1 : ss.filterMap (fun s => some (V.str s.1)) = (ss.map (·.1)).map V.str := by
      rw [List.filterMap_eq_map', List.map_map]
      rfl
    have e2 : ss.filterMap (fun s => s.2.2.1.map fun g => V.str g.1) = (ss.filterMap fun s => s.2.2.1.map (·.1)).map V.str := by
      rw [List.map_filterMap]
      congr 1
      funext s
      cases s.2.2.1 <;> rfl
    rw [e1] at hD
    rw [e2] at hD2
    have l1 : (ss.map (·.1)).length = ss.length := List.length_map ..
    have l2 : (ss.filterMap fun s : Said => s.2.2.1.map (·.1)).length ≤ ss.length := List.length_filterMap_le ..
    refine ⟨_, rfl, _, rfl, D, D2, _, _, rfl, rfl, s2 _ _ hD, hD2, size_ok (by simp only [List.length_map]; omega), fun D3 n3 => ?_⟩
    rw [← List.map_append]
    refine ⟨D3, statesL ss, rfl, .inl (.inl upd_same), by unfold statesL; rw [List.length_append]; omega, fun ys p hs hn hm np => ?_⟩
    refine ⟨p, _, rfl, .inl ⟨.inl (.inl upd_same), fun l nl => ?_⟩⟩
    exact q ys l _ hs hn hm (.inl (.inl upd_same)) ((((s1.trans s2).trans (same_new n3)).trans (same_new np)).trans (same_new nl))
/-! ### words_of: slots rules 0, rule 1, word 2 -/
abbrev sWordsOf : Stmt := top 53
theorem scWordsOf : FnScope ["rules", "rule", "word"] ["rules"] (defScope sWordsOf) := ⟨rfl, rfl, rfl, by decide +kernel, rfl, by decide +kernel, by decide +kernel⟩
def spWordsOf (K : Frag) (C : Addr) : Sp := fun vs H Q _ => ∃ (t : Addr) (ps : List Addr) (ss : List Said), vs = [.ref t] ∧ SqT K H t (ps.map V.ref) ∧ RulesAt K C H ps ss ∧ ss.length ≤ 100 ∧
  ∀ (ys : List Str) (r : Addr) (H' : Hp), PyProof.Rows.sortedS ys = true → ys.Nodup → (∀ z, z ∈ ys ↔ z ∈ wordsL ss) → SqT K H' r (ys.map V.str) → Same H H' → Q (.ref r) H'
theorem ok_wordsof {f C : Addr} {fd : FuncData} (F : Fun K "words_of" "words_of" sWordsOf f fd) (B : Blt mg) (T : RTxt K mg C) (rwords : OwnP P w K mg base C "words" (spGet C nWords)) :
    FnOk P w K mg base CX0 3 f fd ["rules"] (spWordsOf K C) := by
  refine F.ok scWordsOf (fun vs H Q E h => ?_) (fun cdv A outer s0 H vs Q E hr h => ?_)
  · obtain ⟨t, ps, ss, rfl, _⟩ := h
    rfl
  · obtain ⟨t, ps, ss, rfl, ht, hA, few, q⟩ := h
    have hr2 : Room 2 _ := hr.mono (by decide)
    refine ⟨_, (pss_one (ps_ret (pe_callTy call_tuple_of (by rfl) B.tuple_ (by decide +kernel) (pa_cons (pe_srtSet rfl (by rfl) B.sorted_ (by rfl) B.set_ (pe_lc2 (own := [("rule", 1), ("word", 2)]) (vs1 := [2]) (g := gName 1) (g1 := gName 2) (tt := tYes) (tt1 := tYes) rfl scWordsOf.nd (pi_seq (pv 0))
          (blkOk_by (own := [("rule", 1), ("word", 2)]) (N := ["rules", "rule", "word"]) (sc := defScope sWordsOf) (by decide +kernel)) (by decide)
          (fun _ _ _ _ _ => (pg_name (i := 1) scWordsOf.nd rfl (Or.inl rfl))) (fun _ _ _ _ _ => pts_nil)
          (fun _ _ _ _ _ => pi_seqK (K := K) rfl (pe_prop (pv 1) T.cl rwords.prop rwords.ok hr2 rwords.b .nil pass0 (by rfl)))
          (fun _ _ _ _ _ => (pg_name (i := 2) scWordsOf.nd rfl (Or.inl rfl))) (fun _ _ _ _ _ => pts_nil)
          (fun _ _ _ _ _ => (pv 2)))) pa_nil)))), ?_⟩
    refine ⟨_, rfl, t, rfl, .inr ⟨⟨_, ht⟩, fun D nD => ?_⟩⟩
    have wk := walk_tup (K := K) (a := t) (xs := ps.map V.ref)
    refine ⟨fun i m G => m = ps.length - i ∧ i ≤ ps.length ∧ Same H G ∧ ∃ acc : List Str, G D = some (.lst (acc.map V.str)) ∧ acc.length ≤ 6 * i ∧ ∀ z, z ∈ acc ↔ z ∈ wordsL (ss.take i), ⟨ps.length, rfl, Nat.zero_le _, same_new nD, [], upd_same, Nat.le_refl _, fun z => by simp [wordsL]⟩, ?_⟩
    rintro i m G ⟨rfl, hi, sG, acc, hD, hl, hm⟩
    have htG := same_seqT sG ht
    have hlen := hA.1
    rcases Nat.eq_or_lt_of_le hi with e | hlt
    · have st := wk.stops G htG
      rw [List.length_map, ← e] at st
      refine .inl ⟨st, D, acc, rfl, .inl (.inl hD), by omega, fun ys p hs hn hm' np => ⟨p, _, rfl, .inl ⟨.inl (.inl upd_same), fun l nl => q ys l _ hs hn (fun z => ?_) (.inl (.inl upd_same)) ((sG.trans (same_new np)).trans (same_new nl))⟩⟩⟩
      rw [hm' z, hm z, List.take_of_length_le (by omega)]
    · refine .inr ⟨wk.goes i G (by rw [List.length_map]; exact hlt) htG, fun G' => i + 1 ≤ ps.length ∧ Same H G' ∧ ∃ acc : List Str, G' D = some (.lst (acc.map V.str)) ∧ acc.length ≤ 6 * (i + 1) ∧ ∀ z, z ∈ acc ↔ z ∈ wordsL (ss.take (i + 1)), fun G' z => ⟨ps.length - (i + 1), by omega, rfl, z⟩, fun x G' hy => ?_⟩
      obtain ⟨rfl, hx⟩ := wk.yields i G x G' (by rw [List.length_map]; exact hlt) htG hy
      obtain ⟨p, s, rfl, hp, hs, hS, hok⟩ := (hA.same sG).get hx
      refine ⟨rfl, no_test fun G2 s2 => iteT ?_⟩
      obtain ⟨dx, tP, tW, tK, gV, ws, hp', _, _, hW, a1, a2, a3, _⟩ := (hS.same s2).ex
      have hWT : SqT K G2 tW (ws.map V.str) := .inl (.inl hW)
      have hD2 := s2 _ _ hD
      have sG2 := sG.trans s2
      have few6 : ws.length ≤ 6 := by
        refine Nat.le_trans (nd_le (m := wordsS s) a2 fun z hz => ?_) ?_
        · exact mem_strsD.mpr ((a3 z).mp hz)
        · exact Nat.le_trans (List.length_filterMap_le _ _) (beg_few hok)
      refine ⟨_, rfl, p, dx, _, rfl, hp', p, dx, _, _, rfl, hp', rfl, tW, rfl, .inr ⟨⟨_, hWT⟩, ?_⟩⟩
      have wj := walk_tup (K := K) (a := tW) (xs := ws.map V.str)
      have neD : tW ≠ D := fun e => by rw [e, hD2] at hW; cases hW
      have hne : ∀ {b : Addr} {o : HO}, H b = some o → b ≠ D := fun z e => by rw [e, nD] at z; cases z
      refine ⟨fun j k G3 => k = ws.length - j ∧ j ≤ ws.length ∧ But D G2 G3 ∧ G3 D = some (.lst ((acc ++ ws.take j).map V.str)), ⟨ws.length, rfl, Nat.zero_le _, fun b o z _ => z, by rw [List.take_zero, List.append_nil]; exact hD2⟩, ?_⟩
      rintro j k G3 ⟨rfl, hj, b3, hD3⟩
      have hW3 : SqT K G3 tW (ws.map V.str) := .inl (.inl (b3 _ _ hW neD))
      rcases Nat.eq_or_lt_of_le hj with e | hjl
      · have st := wj.stops G3 hW3
        rw [List.length_map, ← e] at st
        refine .inl ⟨st, by omega, fun b o z => b3 b o (sG2 b o z) (hne z), acc ++ ws, ?_, by rw [List.length_append]; omega, fun z => ?_⟩
        · rw [e, List.take_length] at hD3
          exact hD3
        · rw [take_snoc hs]
          unfold wordsL at hm ⊢
          rw [List.mem_append, List.flatMap_append, List.mem_append, hm z, List.flatMap_singleton, a3 z]
          unfold wordsS
          rw [mem_strsD]
          rfl
      · refine .inr ⟨wj.goes j G3 (by rw [List.length_map]; exact hjl) hW3, fun G' => j + 1 ≤ ws.length ∧ But D G2 G' ∧ G' D = some (.lst ((acc ++ ws.take (j + 1)).map V.str)), fun G' z => ⟨ws.length - (j + 1), by omega, rfl, z⟩, fun x G' hy => ?_⟩
        obtain ⟨rfl, hx2⟩ := wj.yields j G3 x G' (by rw [List.length_map]; exact hjl) hW3 hy
        rw [List.getElem?_map] at hx2
        cases hw : ws[j]? with
        | none => rw [hw] at hx2; cases hx2
        | some y =>
          rw [hw] at hx2
          cases hx2
          refine ⟨rfl, no_test fun G4 s4 => iteT ⟨_, rfl, _, s4 _ _ hD3, ?_, by omega, fun b o z n => ?_, ?_⟩⟩
          · refine size_lt ?_
            rw [List.length_map, List.length_append, List.length_take]
            omega
          · rw [upd_ne n]
            exact s4 _ _ (b3 b o z n)
          · rw [upd_same, take_snoc hw, List.map_append, List.map_append, List.map_append, List.append_assoc]
            rfl
end
end RL

/-! enumerate over a tuple. -/
namespace PySem
open AutoSeq1 (wpAny_loadPart')
theorem meets_enumerate_newT (l : Addr) (items : Array Value) :
    Meets (Builtin.«enumerate.__new__» ⟨[.type "enumerate", .ref l], []⟩) (fun _ R s => s.heap.IsTuple l items ∧
      R (.ok (.ret (.ref (s.heap.push { cls := .type "tuple_iterator", data := .fields #[.ref l, .int 0 0] }).objs.size)))
        { s with heap := (s.heap.push { cls := .type "tuple_iterator", data := .fields #[.ref l, .int 0 0] }).push { cls := .type "enumerate", data := .fields #[.none, .bool false, .ref s.heap.objs.size, rawInt 0, .none, .none] } }) :=
  .of_wp fun prog w A R s h => by
    obtain ⟨hp, g, d, tk, os⟩ := s; obtain ⟨hL, h⟩ := h
    have hsub := sub_enumerate
    obtain ⟨⟨cls, dct, dt, sl⟩, hl, hc, n, hd⟩ := id hL
    simp only at hc hd
    subst hc hd
    have hL : Heap.IsTuple (Shared.heap ⟨hp, g, d, tk, os⟩) l items := ⟨_, hl, rfl, n, rfl⟩
    wp_walk using wpAny_loadPart' hl
    refine wpAny_stack_any fun st => wpAny_pure ?_
    split
    · rename_i c _ _ _ _ _
      cases (c == Value.type "enumerate")
      · wp_walk using wpAny_loadPart' hl, wpAny_pyIter_tuple hL
        exact ⟨_, rfl, h⟩
      · wp_walk using wpAny_loadPart' hl, wpAny_pyIter_tuple hL
        exact ⟨_, rfl, h⟩
    · wp_walk using wpAny_loadPart' hl, wpAny_pyIter_tuple hL
      exact ⟨_, rfl, h⟩
theorem call_enumerate_tuple {prog : Program} {w : World} {A : Around} {E : Value → Shared → Prop} {s : Shared} {l : Addr} {items : Array Value} {Q : Value → Shared → Prop} (hL : s.heap.IsTuple l items)
    (h : ∀ h', IsEnum h' (s.heap.objs.size + 1) s.heap.objs.size 0 .none → h'.IsTupleIter s.heap.objs.size l 0 → h'.objs.size = s.heap.objs.size + 2 →
      (∀ b o, s.heap.get? b = some o → h'.get? b = some o) → Q (.ref (s.heap.objs.size + 1)) { s with heap := h' }) :
    wpAny (model prog w) A (call (.type "enumerate") [.ref l]) Q E s := by
  refine callType_new F.called_enumerate (by decide) (F.typeCall_enumerate_1 _) (F.newCall_enumerate_1 _) (fun obj => F.args_object_init_2 obj _) F.entry_enumerate_new
    (meets_enumerate_newT l items) ⟨hL, ?_⟩
  have hz : (s.heap.push { cls := .type "tuple_iterator", data := .fields #[.ref l, .int 0 0] }).objs.size = s.heap.objs.size + 1 := Heap.size_push ..
  show _ ∧ _
  rw [hz]
  have he : IsEnum ((s.heap.push { cls := .type "tuple_iterator", data := .fields #[.ref l, .int 0 0] }).push
      { cls := .type "enumerate", data := .fields #[.none, .bool false, .ref s.heap.objs.size, rawInt 0, .none, .none] }) (s.heap.objs.size + 1) s.heap.objs.size 0 .none := by
    have := Heap.get?_push_size (s.heap.push { cls := .type "tuple_iterator", data := .fields #[.ref l, .int 0 0] })
      (o := { cls := .type "enumerate", data := .fields #[.none, .bool false, .ref s.heap.objs.size, rawInt 0, .none, .none] }) rfl
    rw [hz] at this; exact this
  refine ⟨⟨_, he, rfl⟩, h _ he ⟨_, Heap.get?_push_of_some _ (Heap.get?_push_size _ rfl), rfl, rfl⟩ (by rw [Heap.size_push, hz]) fun b o x => Heap.get?_push_of_some _ (Heap.get?_push_of_some _ x)⟩
end PySem
namespace L2
open PySem PySem.Spec PyProof.Rows
/-- the tuple at a, each item in a new pair -/
def IteT (K : PySem.W.Frag) (a : Addr) : It :=
  ⟨fun i H => ∃ (xs : List V) (x : V), SqT K H a xs ∧ xs[i]? = some x, fun i H v H' => ∃ T x, v = .ref T ∧ H T = none ∧ H' = upd H T (.tup [.int (i : Nat), x]) ∧ ∀ xs, SqT K H a xs → xs[i]? = some x, fun i H => ∃ xs : List V, SqT K H a xs ∧ xs.length ≤ i⟩
theorem turn_enumT {P : Program} {w : World} {K : PySem.W.Frag} {elts : List Expr} {kk : Nat} {tpos : Pos} (a e it : Addr) (hat : a ≠ it) (hae : a ≠ e) :
    Turn P w K (.Tuple elts kk tpos) (IteT K a) [e, it] e (fun i h => (∃ old, IsEnum h e it ((i : Nat) : Int) old) ∧ h.IsTupleIter it a i ∧ e ≠ it) where
  mem := by simp
  obj := fun i h st b hb => by
    obtain ⟨⟨old, he⟩, ⟨o, ho, hc, hd⟩, _⟩ := st
    have e' : b = e ∨ b = it := by simpa using hb
    rcases e' with z | z
    · rw [z]; exact ⟨_, he, fun v q => nomatch q⟩
    · rw [z]; exact ⟨o, ho, fun v q => by rw [hd] at q; cases q⟩
  keep := fun i h h' st k => let ⟨⟨old, he⟩, hi, hne⟩ := st; ⟨⟨old, k e (by simp) _ he⟩, hi.at fun o q => k it (by simp) o q, hne⟩
  item := by
    intro X hP hw hK hc i pins s σ H E I hf st hg
    subst hP hw hK
    obtain ⟨⟨old, he⟩, hit, hne⟩ := st
    obtain ⟨xs, x, hq, hx⟩ := hg
    obtain ⟨its, rv, p, hz⟩ := I.tuple hq
    obtain ⟨u, hu, ru⟩ := rv.get hx
    have hel : e < s.heap.objs.size := Heap.lt_size he
    have hil : it < s.heap.objs.size := by obtain ⟨_, q, _⟩ := hit; exact Heap.lt_size q
    have hcm : X.A.in1.handled = none := I.ok.hd hc
    have hlt : i < its.toArray.size := by
      have := rv.length
      have h2 : i < xs.length := by
        rcases Nat.lt_or_ge i xs.length with h | h
        · exact h
        · rw [List.getElem?_eq_none h] at hx; cases hx
      simpa using (show i < its.length by omega)
    refine wpAny_pyNext_enum_itemD (Draws.tuple hcm it a hat its.toArray) he ⟨hit, p⟩ hlt hne (by simp [hne, Ne.symm hae]) fun x' h' tk hP ho hst' hT hsz hk => ?_
    obtain rfl : x' = u := by
      have e1 : its.toArray[i]? = some x' := hP
      have e2 : its.toArray[i]? = some u := by simpa using hu
      exact Option.some.inj (e1.symm.trans e2)
    refine ⟨_, rfl, wpAny_letOwnedTupleGo_enum (s := { s with heap := h', toks := tk + 1 }) ho fun h'' he' sb => ?_⟩
    have hT2 : h''.get? s.heap.objs.size = some { cls := .type "tuple", data := .seq #[.int i tk, x'] } := (sb.2 _ (Nat.ne_of_gt hel)).trans hT
    have new : ObjOk X.prog X.w (upd H s.heap.objs.size (.tup [.int (i : Nat), x])) h'' s.heap.objs.size (.tup [.int (i : Nat), x]) :=
      ⟨by show 2 ≤ sizeLine; decide, [.int i tk, x'], .cons ⟨_, rfl⟩ (.cons ru .nil), ⟨_, hT2, rfl, _, rfl⟩⟩
    have I1 : Inv X pins σ (upd H s.heap.objs.size (.tup [.int (i : Nat), x])) { s with heap := h'', toks := tk + 1 } :=
      I.turnedNew (ch := [e, it]) (fun b ob hb q => (sb.2 b (fun z => hb (by simp [z]))).trans (hk b ob (fun z => hb (by simp [z])) (fun z => hb (by simp [z])) q)) hf (Nat.le_refl _) new
    refine ⟨.ref s.heap.objs.size, _, I1, rfl, ⟨_, x, rfl, I.hok.fresh (Nat.le_refl _), rfl, fun ys hy => by rw [I.tuple_inj hy hq]; exact hx⟩, ⟨⟨x', ?_⟩, hst'.1.at fun o q => (sb.2 it (Ne.symm hne)).trans q, hne⟩, fun b hb => ?_⟩
    · have e1 : ((i + 1 : Nat) : Int) = (i : Int) + 1 := by omega
      rw [e1]; exact he'
    · have hb' : b < s.heap.objs.size := by
        have e' : b = e ∨ b = it := by simpa using hb
        rcases e' with z | z
        · rw [z]; exact hel
        · rw [z]; exact hil
      rw [upd_ne (Nat.ne_of_lt hb')]
      exact (hf b hb).1
  done := by
    intro X hP hw hK hc i pins s σ H E I hf st hg
    subst hP hw hK
    obtain ⟨⟨old, he⟩, hit, hne⟩ := st
    obtain ⟨xs, hq, hx⟩ := hg
    obtain ⟨its, rv, p, hz⟩ := I.tuple hq
    obtain ⟨f0, f1, f2, f3, f4, f5⟩ := hf it (by simp)
    have hl := rv.length
    have hT : s.TypeIs (.ref e) "enumerate" := ⟨_, he, rfl⟩
    have hcm : X.A.in1.handled = none := I.ok.hd hc
    unfold pyNext
    refine wpAny_bind (wpAny_attempt (wpAny_callSpecial?_slot (name := Str.ofString "__next__") hT F.slot_enumerate_next
      (wpAny_call_entry F.slot_enumerate_next hT F.entry_enumerate_next ?_ (F.args_enumerate_next_1 _))))
    show wpAny _ _ (field (.ref e) 2 >>= _) _ _ _
    refine wpAny_bind (wpAny_field he rfl (x := .ref it) rfl ?_)
    refine wpAny_bind (wpAny_nextOf_tuple_end hcm hit p (by simp; omega) fun h' x he' hx' => ?_)
    obtain ⟨o, ho, hc'⟩ := hx'
    refine wpAny_bind (wpAny_isInstance (T := "StopIteration") (b := true) ⟨o, ho, hc'⟩ isSubtype_stop ?_)
    exact wpAny_pure ⟨rfl, I.turned (t' := s.toks) (fun b o hb q => he' b o hb q) f0 f1 f3 f4 f5⟩
  self := fun A i s Q E st h => let ⟨⟨_, he⟩, _⟩ := st; wpAny_pyIter_enum he h
def iEnumT (K : PySem.W.Frag) (ta : TA) : TI := fun σ H R => ta σ H fun vs H1 => ∃ a xs, vs = [.ref a] ∧ SqT K H1 a xs ∧ R (IteT K a) H1
theorem pi_enumT {X : Cx} {e : Expr} {ta : TA} {p pos tpos : Pos} {elts : List Expr} {kk : Nat} (hg : Gl X "enumerate") (hm : X.mg "enumerate" = none) (ha : PA X [e] ta) (hs : starEach [e] X.env = [(false, eval e X.env)] := by rfl) :
    PI X (.Tuple elts kk tpos) (.Call (.Name "enumerate" p) [e] [] pos) (iEnumT X.K ta) := by
  refine ⟨fun pins s σ H R I h => ?_⟩
  refine Call_ (ld_blt I hg hm boot_enumerate (PyProof.Rows.callWith_type1 (thn (ha.run pos pins s σ H _ I h) fun us s1 ⟨vs, H1, I1, r1, q1⟩ => ?_) hs rfl))
  obtain ⟨a, xs, ex, hq, q⟩ := q1
  subst ex
  cases r1 with
  | cons r rr =>
    cases rr
    cases r
    obtain ⟨its, rv, p', hz⟩ := I1.tuple hq
    have hlt : a < s1.heap.objs.size := by obtain ⟨_, q, _⟩ := p'; exact Heap.lt_size q
    refine call_enumerate_tuple (items := its.toArray) p' fun h' he hit hsz hk => wpAny_pyIter_enum he ?_
    have I2 : Inv X pins σ H1 { s1 with heap := h' } := I1.kept (t' := s1.toks) hk
    refine ⟨s1.heap.objs.size + 1, [s1.heap.objs.size + 1, s1.heap.objs.size], _, _, H1, rfl, I2, turn_enumT a (s1.heap.objs.size + 1) s1.heap.objs.size (Nat.ne_of_lt hlt) (Nat.ne_of_lt (Nat.lt_succ_of_lt hlt)), ⟨⟨.none, he⟩, hit, Nat.succ_ne_self _⟩, fun b hb => ?_, q⟩
    have e' : b = s1.heap.objs.size + 1 ∨ b = s1.heap.objs.size := by simpa using hb
    have hle : s1.heap.objs.size ≤ b := by
      rcases e' with z | z
      · rw [z]; exact Nat.le_add_right _ _
      · rw [z]; exact Nat.le_refl _
    exact I1.fpOk hle (I1.hok.fresh hle)
theorem walk_enumT {K : PySem.W.Frag} {a : Addr} {xs : List V} : Walk (IteT K a) xs.length (fun H => SqT K H a xs) (YPair (fun i => some (.int (i : Nat))) (fun i => xs[i]?)) := by
  refine ⟨fun i _ hi q => ⟨xs, xs[i], q, by simp [hi]⟩, fun _ q => ⟨xs, q, Nat.le_refl _⟩, fun i H v H' _ q y => ?_⟩
  obtain ⟨T, x, h1, h2, h3, h4⟩ := y
  exact ⟨T, .int (i : Nat), x, h1, h2, h3, rfl, h4 xs q⟩
end L2

/-! An own error right over OverflowError whose __init__ is walked as a def (the library's rules speak of ValueError alone). -/
namespace OV
open PySem PySem.W PySem.Spec PySem.Calls PyProof.Rows
abbrev leMro : List Value := [.type "OverflowError", .type "ArithmeticError", .type "Exception", .type "BaseException", .type "object"]
section
open Builtin Builtin.ObjectAttr
variable {pr : Program} {wo : World} {Ar : Around} {Rs : Result → Shared → Prop} {G : Heap} {gs : Array GenState} {dr : Drawn} {tk : Nat} {ost : OsState}
/-- the first field of such an error -/
theorem first_field {K0 : Frag} {fn : Str} {ft : Tok} {u : Value} {x D : Addr} {fv : Array Value} {cd : ClassData}
    (inF : K0.In G) (at_ : G.get? x = some { cls := .ref D, data := .fields fv }) (isD : W.clsIn K0 D = some cd) (mro : cd.mro = .ref D :: leMro) (own : cd.hasDict = true) (no : W.findIn K0 (.ref D) fn = some none)
    (fin : ∀ G' t2 dx, (∀ b o, b ≠ x → G.get? b = some o → G'.get? b = some o) → G.objs.size ≤ dx → dx ≠ x → G'.get? x = some { cls := .ref D, dict := some dx, data := .fields fv } →
      G'.Ns1 dx (fun y => if y = fn then some u else none) → Rs (.ok (.ret .none)) ⟨G', gs, dr, t2, ost⟩) :
    codeAny (model pr wo) Ar (.call (.builtin "object.__setattr__") ⟨[.ref x, .str fn ft, u], []⟩) Rs ⟨G, gs, dr, tk, ost⟩ := by
  have inst : W.InstAt G x { cls := .ref D, data := .fields fv } D none := ⟨at_, rfl, rfl, trivial⟩
  have SO := PySem.F.store_object
  have obj : cd.mro.contains (.type "object") = true := by rw [mro, List.contains_cons]; exact (congrArg _ (by decide +kernel : leMro.contains (.type "object") = true)).trans (Bool.or_true _)
  have apart : x ≠ G.objs.size := Nat.ne_of_lt (Heap.lt_size at_)
  have isObj : W.Looks (model pr wo) G (isInstance (.ref x) (.type "object")) true := inst.type.andThen (W.looks_mroIn inF (by unfold W.mroIn; rw [isD, Option.bind_some, if_neg (by rw [mro]; exact Bool.false_ne_true), obj]))
  refine codeAny_call_builtin SO.slot.plain SO.entry (@W.check_slot (model pr wo) _ _ ⟨G, gs, dr, tk, ost⟩ "object.__setattr__" "object" "__setattr__" (.ref x) [.str fn ft, u] [] _ SO.kind SO.split isObj (SO.args (.ref x) (.str fn ft) u) ?_)
  have line : W.Looks (model pr wo) G (mroOf (.ref D)) cd.mro := (W.looks_clsIn inF isD).andThen .now
  have noTaker : W.Looks (model pr wo) G (storeTaker? none) none := .now
  have cls : W.Looks (model pr wo) G (classData D) cd := W.looks_clsIn inF isD
  rw [W.osa_eq, refuse_eq]
  refine wpAny_bind (wpAny_bind (inst.type.at (wpAny_bind (line.at ?_))))
  rw [mro, refuseLoop_ref, F.store_OverflowError.passes]
  refine wpAny_pure (wpAny_bind (inst.type.at (wpAny_bind ((W.looks_findIn inF no).at (wpAny_bind (noTaker.at ?_))))))
  show wpAny _ _ (storeInOwnDict (.ref x) (.ref D) (.str fn ft) fn u false) _ _ _
  obtain ⟨_, _, _, _, _, hd, _, _, _, _, _⟩ := cd
  dsimp only at own
  subst own
  unfold storeInOwnDict ownDictForStores
  repeat (first | with_reducible refine HandSPX.store_in_new ?_ ?_ | with_reducible refine wpAny_loadPart_at at_ ?_ | with_reducible refine cls.at ?_ | wp_step)
  · exact ⟨_, #[], _, (Heap.get?_update_ne _ _ _ _ apart.symm).trans (Heap.get?_push_at rfl rfl), rfl, fun e mem => absurd mem (by simp), fun _ => rfl⟩
  · intro G' t2 ns same
    have at1 : (G.push { cls := .type "dict", data := .dict #[] }).get? x = some { cls := .ref D, data := .fields fv } := Heap.get?_push_of_some _ at_
    refine fin G' t2 G.objs.size (fun b o nb ob => ?_) (Nat.le_refl _) apart.symm ?_ ns
    · exact (same.2 b (Nat.ne_of_lt (Heap.lt_size ob))).trans ((Heap.get?_update_ne _ _ _ _ nb).trans (Heap.get?_push_of_some _ ob))
    · exact (same.2 x apart).trans (Heap.get?_update_self _ at1 rfl)
end
end OV
namespace L2
open PySem PySem.Spec PyProof.Rows
/-- what the text says of an own error right over OverflowError -/
structure OexV (F : PySem.W.Frag) (D : Addr) : Prop where
  cls : ∃ nm q N bs sn sub ab col dd m0 m1 m2 m3 m5, F.lookup D = some (excClassObj nm q D N bs OV.leMro true sn sub ab col dd m0 m1 m2 m3 m5 "OverflowError.__new__")
  sa : PySem.W.findIn F (.ref D) "__setattr__" = some (some (.builtin "object.__setattr__"))
  exC : PySem.W.subIn F (.ref D) (.type "BaseException") = some true
  tyC : PySem.W.typeIn F (.ref D) = some (.type "type")
  kC : PySem.W.keepIn F (.ref D) = true
/-- like ErrC, over OverflowError -/
structure ErrV (F : PySem.W.Frag) (gl : Str → Option Value) (x n : Str) (D fI : Addr) : Prop where
  ox : OexV F D
  iC : PySem.W.findIn F (.ref D) "__init__" = some (some (.ref fI))
  tI : PySem.W.typeIn F (.ref fI) = some (.type "function")
  no : PySem.W.findIn F (.ref D) n = some none
  mgC : gl x = some (.ref D)
section
variable {X : Cx} {pins : List (Addr × Obj)} {σ : St} {H : Hp} {s : Shared} {a D : Addr} {fn : Str} {y : V} {u : Value} {G : Unit → Shared → Prop} {Er : Value → Shared → Prop} {Ar : Around}
theorem osV_new (T : OexV X.K D) (inv : Inv X pins σ H s) (at_ : H a = some (exo a D none)) (no : PySem.W.findIn X.K (.ref D) fn = some none) (rel : RelV y u)
    (fin : ∀ dx s', H dx = none → dx ≠ a → Inv X pins σ (upd (upd H dx (exd dx [(fn, y)])) a (exo a D (some dx))) s' → G () s') : wpAny (model X.prog X.w) Ar (setAttr (.ref a) fn u) G Er s := by
  obtain ⟨nm, q, N, bs, sn, sub, ab, col, dd, m0, m1, m2, m3, m5, lk⟩ := T.cls
  have isD : PySem.W.clsIn X.K D = some { name := nm, bases := bs, mro := .ref D :: OV.leMro, ns := N, qualname := q, hasDict := true, slotNames := sn, subclasses := sub, abstract := ab, collection := col, hasDel := false } := by
    unfold PySem.W.clsIn
    rw [lk] <;> rfl
  obtain ⟨t1, here⟩ := exo_at inv.hok at_
  obtain ⟨hp, gs, dr, tk, ost⟩ := s
  refine PySem.W.set_plain inv.kIn (ox := { cls := .ref D, dict := none, data := .fields #[.ref t1, .none, .none, .none, .bool false, .none] }) (od := none) ⟨here, rfl, rfl, trivial⟩ T.sa ?_
  refine OV.first_field inv.kIn here isD rfl rfl no (fun hp' tk' dx keeps big off here' ns => ?_)
  have freshD : H dx = none := inv.hok.fresh big
  have offD : ∀ {b : Addr} {o : Obj}, hp.get? b = some o → b ≠ dx := fun {b o} z => Nat.ne_of_lt (Nat.lt_of_lt_of_le (Heap.lt_size z) big)
  have offA : ∀ {b : Addr}, H b = none → b ≠ a := fun {b} n z => by
    rw [z, at_] at n
    cases n
  have un : Un X.fs [] H (upd (upd H dx (exd dx [(fn, y)])) a (exo a D (some dx))) hp hp' := {
    keep := fun b o z n _ _ => keeps b o (offA n) z
    slot := fun b o z n _ _ => ⟨o.slots, keeps b o (offA n) z⟩
    free := fun b o z n _ => (upd_ne (offA n)).trans ((upd_ne (offD z)).trans n)
    there := fun b o z _ => if eb : b = a then ⟨_, eb ▸ here'⟩ else ⟨o, keeps b o eb z⟩
    tups := fun b xs z => (upd_ne (at_ne at_ z exo_tup)).trans ((upd_ne (ne_of_none z freshD)).trans z)
    frzs := fun b o v z => (upd_ne (at_ne at_ z exo_frz)).trans ((upd_ne (ne_of_none z freshD)).trans z)
    tbls := fun b ps z => ⟨#[], ((upd_ne (at_ne at_ z exo_tbl)).trans ((upd_ne (ne_of_none z freshD)).trans z)).trans (by simp)⟩ }
  refine fin dx _ freshD off (inv.un (t' := tk') un fun b o z => ?_)
  by_cases eb : b = a
  · subst eb
    cases upd_same.symm.trans z
    exact exo_ok here'
  by_cases ed : b = dx
  · subst ed
    cases (upd_same.symm.trans (upd_ne eb).symm).trans z
    exact exd_ok ns (relO_put (fs := []) rel fun _ => True.intro)
  have old : H b = some o := (upd_ne ed).symm.trans ((upd_ne eb).symm.trans z)
  refine (inv.hok b o old).stay (fun c v hc lk => keeps c v ?_ lk) (fun c hc => (upd_ne (at_ne at_ hc exo_own)).trans ((upd_ne (ne_of_none hc freshD)).trans hc)) (fun c xs hc => (upd_ne (at_ne at_ hc exo_tup)).trans ((upd_ne (ne_of_none hc freshD)).trans hc))
  rcases hc with rfl | hc
  · exact eb
  · exact at_ne at_ hc exo_own
end
/-- self.f = e, the first field of such an error -/
def tOsV (F : PySem.W.Frag) (fn : Str) (to te : TE) : TS := fun D σ H => te σ H fun y H1 => to σ H1 fun x H2 => ∃ a C : Addr, x = .ref a ∧ OexV F C ∧ PySem.W.findIn F (.ref C) fn = some none ∧
  H2 a = some (exo a C none) ∧ ∀ dx, H2 dx = none → dx ≠ a → D.nx σ (upd (upd H2 dx (exd dx [(fn, y)])) a (exo a C (some dx)))
section
variable {X : Cx} {o e : Expr} {es : List Expr} {to te : TE} {ta : TA} {fn : Str} {p p' pos : Pos}
theorem ps_osV (ho : PE X o to) (he : PE X e te) (sw : swapsWith e (some (.Attribute o fn p')) pos.line X.env = pure false := by rfl) : PS X (.Assign [.Attribute o fn p'] e pos) (tOsV X.K fn to te) := by
  refine ⟨fun pins s σ H D inv want => ?_⟩
  refine plainObj_wpAny_Assign_Attribute (thn (he.run pins s σ H _ inv want) fun v s1 ⟨y, H1, inv1, rel1, q1⟩ => thn (ho.run pins s1 σ H1 _ inv1 q1) fun u s2 ⟨x, H2, inv2, rel2, a, C, ex, T, no, at_, q⟩ => ?_) sw
  subst ex
  obtain rfl : u = Value.ref a := rel2
  exact osV_new T inv2 at_ no rel1 fun dx s' n ne J => ⟨σ, _, J, q dx n ne⟩
theorem pmk_oeV {CX : CXT} {x : Str} {D fI : Addr} {k : Nat} {fd : FuncData} {ps : List Str} {sp : Sp} {ds : List Value} {dvs : List V} (T : OexV X.K D) (iC : PySem.W.findIn X.K (.ref D) "__init__" = some (some (.ref fI))) (tI : PySem.W.typeIn X.K (.ref fI) = some (.type "function"))
    (GI : FnOk X.prog X.w X.K X.mg X.base CX k fI fd ps sp) (room : Room (k + 1) X.A) (bd : Binds X.K fd ps ds) (vd : Vals dvs ds) (pass : Passes CX X (fun _ _ _ => False)) (gl : Gl X x) (hm : X.mg x = some (.ref D)) (pa : PA X (e :: es) ta)
    (nb : (x == ("__debug__" : Str)) = false := by decide) (first : starEach (e :: es) X.env = (false, eval e X.env) :: starEach es X.env := by rfl) (plain : (backTo pos (starEach es X.env)).any (·.1) = false := by rfl) :
    PMk X (.Call (.Name x p) (e :: es) [] pos) (tMkO D sp dvs ta) := by
  intro pins s σ H Q inv want
  obtain ⟨nm, q, N, bs, sn, sub, ab, col, dd, m0, m1, m2, m3, m5, lk⟩ := T.cls
  refine wpAny_Call_Name_kw (ld_glob inv gl hm ?_ nb)
  refine PySem.W.callWith_K (h₀ := X.base) inv.ok.mod.kin T.kC (thn (pa.run pos pins s σ H _ inv want) fun us s1 ⟨vs, H1, inv1, rel1, few, q1⟩ => ⟨inv1.kIn, ?_⟩) first plain
  show wpAny _ _ (call (.ref D) us) _ _ _
  obtain ⟨hp, gs, dr, tk, ost⟩ := s1
  have up : hp.objs.size ≤ hp.objs.size + 1 := Nat.le_succ _
  have fresh : H1 (hp.objs.size + 1) = none := inv1.hok.fresh up
  have ask := q1 (hp.objs.size + 1) fresh
  have keeps : ∀ b o, hp.get? b = some o → ((hp.push (PySem.W.kdv_tup us)).push (PySem.HandSPX.excO D hp.objs.size)).get? b = some o := fun b o z => Heap.get?_push_of_some _ (Heap.get?_push_of_some _ z)
  have made : ((hp.push (PySem.W.kdv_tup us)).push (PySem.HandSPX.excO D hp.objs.size)).get? (hp.objs.size + 1) = some (PySem.HandSPX.excO D hp.objs.size) := by heap_get
  have inv2 : Inv X pins σ (upd H1 (hp.objs.size + 1) (exo (hp.objs.size + 1) D none)) ⟨(hp.push (PySem.W.kdv_tup us)).push (PySem.HandSPX.excO D hp.objs.size), gs, dr, tk, ost⟩ :=
    inv1.laid (t' := tk) (a := hp.objs.size + 1) (o := exo (hp.objs.size + 1) D none) (h' := (hp.push (PySem.W.kdv_tup us)).push (PySem.HandSPX.excO D hp.objs.size)) keeps up (exo_ok made)
  have rel2 : Vals (V.ref (hp.objs.size + 1) :: (vs ++ dvs)) (Value.ref (hp.objs.size + 1) :: (us ++ ds)) := .cons rfl (rel1.append vd)
  have lens : (Value.ref (hp.objs.size + 1) :: us ++ ds).length = ps.length := (rel2.length.symm.trans (GI.len _ _ _ _ ask))
  have short : us.length ≤ sizeLine := by
    rw [← Paired.length rel1, sizeLine_eq]
    omega
  refine wpAny_call (PySem.HandSPX.call_own F.excBase_OverflowError (fun _ => rfl) (inv1.kIn _ _ lk) (PySem.W.looks_findIn inv1.kIn iC) (fun me => PySem.W.bind_fn inv1.kIn me tI) short
    (codeAny_mono (GI.run _ X.stack _ _ ⟨Value.ref (hp.objs.size + 1) :: us, []⟩ (Value.ref (hp.objs.size + 1) :: (us ++ ds)) _ _ (fun _ _ _ => False) (room.make D us []) (inv2.env0.make D us []) (bd _ (Value.ref (hp.objs.size + 1) :: us) inv2.kIn lens) rel2 ask) fun r s' after => ?_))
  cases r with
  | error er => exact pass pins σ _ _ er s' inv2 after
  | ok fl =>
    cases fl with
    | ret u =>
      obtain ⟨v, H2, os2, bare2, un2, ok2, rv, ev, d, fs, atA, atD, freshD, q2⟩ := after
      subst ev
      obtain ⟨h2, g2, d2, t2, os'⟩ := s'
      exact ⟨rv, mk_end (raises_own T.exC T.tyC) inv1 up keeps un2 ok2 os2 bare2 atA atD freshD q2⟩
    | next => exact False.elim after
    | brk => exact False.elim after
    | cont => exact False.elim after
end
end L2

-- NOMAP
namespace RL
open PySem L2 SX AddrMath VA PySem.W GR TxSet
/-- each text once -/
def dd : List Str → List Str
  | [] => []
  | x :: r => if x ∈ dd r then dd r else x :: dd r
theorem dd_mem {z : Str} : ∀ {xs : List Str}, z ∈ dd xs ↔ z ∈ xs
  | [] => Iff.rfl
  | x :: r => by
    unfold dd
    by_cases h : x ∈ dd r
    · rw [if_pos h, dd_mem, List.mem_cons]
      constructor
      · exact fun k => .inr k
      · rintro (rfl | k)
        · exact dd_mem.mp h
        · exact k
    · rw [if_neg h, List.mem_cons, List.mem_cons, dd_mem]
theorem dd_nd : ∀ xs : List Str, (dd xs).Nodup
  | [] => List.nodup_nil
  | x :: r => by
    unfold dd
    by_cases h : x ∈ dd r
    · rw [if_pos h]
      exact dd_nd r
    · rw [if_neg h]
      exact List.nodup_cons.mpr ⟨h, dd_nd r⟩
theorem dd_len {ys xs : List Str} (n : ys.Nodup) (h : ∀ z, z ∈ ys ↔ z ∈ xs) : ys.length = (dd xs).length :=
  Nat.le_antisymm (nd_le n fun z hz => dd_mem.mpr ((h z).mp hz)) (nd_le (dd_nd xs) fun z hz => (h z).mpr (dd_mem.mp hz))
/-- the limit that these rules pass, if any -/
def limS (ss : List Said) : Option Int := if 12 < ss.length then some 12 else if 6 < (dd (statesL ss)).length then some 6 else if 6 < (dd (wordsL ss)).length then some 6 else none
abbrev nLimit : Str := "limit"
section
variable {P : Program} {w : World} {K : Frag} {mg : Str → Option Value} {base : Heap}
/-! ### TooMany.__init__ -/
abbrev sErrM : Stmt := inClass (top 8) 0
theorem scErrM : FnScope ["self", "limit"] ["self", "limit"] (defScope sErrM) := ⟨rfl, rfl, rfl, by decide +kernel, rfl, by decide +kernel, by decide +kernel⟩
theorem ok_errm {f C fI : Addr} {fd : FuncData} (F : Fun K "__init__" "TooMany.__init__" sErrM f fd) (T : ErrV K mg "TooMany" nLimit C fI) : FnOk P w K mg base CX0 1 f fd ["self", "limit"] (spErr nLimit C) := by
  refine F.ok scErrM (fun vs H Q E h => ?_) (fun cdv A outer s0 H vs Q E hr h => ?_)
  · obtain ⟨a, v, rfl, _⟩ := h
    rfl
  · obtain ⟨a, v, rfl, ha, q⟩ := h
    exact ⟨_, pss_one (ps_osV (pv 0) (pv 1)), _, rfl, _, rfl, a, C, rfl, T.ox, T.no, ha, q⟩
/-! ### checked: slots rules 0, index 1, rule 2 -/
abbrev sChecked : Stmt := top 54
theorem scChecked : FnScope ["rules", "index", "rule"] ["rules"] (defScope sChecked) := ⟨rfl, rfl, rfl, by decide +kernel, rfl, by decide +kernel, by decide +kernel⟩
/-- the end of a check: refused with a limit, or not -/
def LimOf (CM : Addr) (H : Hp) (ss : List Said) (Q : Hp → Prop) (E : XK) : Prop :=
  (∀ n, limS ss = some n → ∀ d H', Same H H' → H' d = some (.xd (ixF nLimit (.int n))) → H d = none → E (.ref CM) (some d) H') ∧ (limS ss = none → ∀ H', Same H H' → Q H')
def spChecked (K : Frag) (C CM : Addr) : Sp := fun vs H Q E => ∃ (t : Addr) (ps : List Addr) (ss : List Said), vs = [.ref t] ∧ SqT K H t (ps.map V.ref) ∧ RulesAt K C H ps ss ∧ ss.length ≤ 100000 ∧ LimOf CM H ss (Q (.ref t)) E
theorem ok_checked {f C CM fM : Addr} {fd fdM : FuncData} {u1 u2 u3 : Tok} (F : Fun K "checked" "checked" sChecked f fd) (B : Blt mg) (me : mg "enumerate" = none) (T : RTxt K mg C) (W : AOwn K C)
    (TM : ErrV K mg "TooMany" nLimit CM fM) (GM : FnOk P w K mg base CX0 1 fM fdM ["self", "limit"] (spErr nLimit CM)) (bM : Binds K fdM ["self", "limit"] [])
    (m1 : mg "RULES" = some (.int 12 u1)) (m2 : mg "STATES" = some (.int 6 u2)) (m3 : mg "WORDS" = some (.int 6 u3))
    (states_of : Own P w K mg base CX0 3 "states_of" ["rules"] (spStatesOf K C)) (words_of : Own P w K mg base CX0 3 "words_of" ["rules"] (spWordsOf K C)) :
    FnOk P w K mg base (L2.CX P w) 4 f fd ["rules"] (spChecked K C CM) := by
  refine F.okX scChecked (fun vs H Q E h => ?_) (fun cdv A outer s0 H vs Q E hr h => ?_)
  · obtain ⟨t, ps, ss, rfl, _⟩ := h
    rfl
  · obtain ⟨t, ps, ss, rfl, ht, hA, few, qE, qN⟩ := h
    have hr2 : Room 2 _ := hr.mono (by decide)
    refine ⟨_, (pss_cons (ps_for (L2.passes_of rfl) rfl (pi_enumT (by rfl) me (pa_cons (pv 0) pa_nil)) (pg_tup (n := 2) rfl (pgs_cons (pg_name (i := 1) scChecked.nd rfl (Or.inl rfl)) (pgs_cons (pg_name (i := 2) scChecked.nd rfl (Or.inl rfl)) pgs_nil)))
        (pss_one (ps_if (pt_not (pt_val (pe_callB (call_isI W) (by rfl) B.isinstance_ (by decide +kernel) (pa_cons (pv 2) (pa_cons (pe_glob (v := .ref C) (by rfl) T.mgC rfl) pa_nil))))) (pss_one ps_dead) pss_nil)))
      (pss_cons (ps_if (pt_cmpR op_gt (pe_callB call_len_seq (by rfl) B.len_ (by decide +kernel) (pa_cons (pv 0) pa_nil)) (pe_glob (v := .int 12) (by rfl) m1 ⟨_, rfl⟩) (nomark _)) (pss_one (ps_raise rfl (takes_of rfl rfl rfl rfl) (pmk_oeV TM.ox TM.iC TM.tI GM hr2 bM .nil pass0 (by rfl) TM.mgC (by exact (pa_cons (pe_glob (v := .int 12) (by rfl) m1 ⟨_, rfl⟩) pa_nil))))) pss_nil)
      (pss_cons (ps_if (pt_cmpR op_gt (pe_callB call_len_seq (by rfl) B.len_ (by decide +kernel) (pa_cons (pe_call states_of.g hr rfl states_of.mg states_of.kp states_of.b .nil pass0 (pa_cons (pv 0) pa_nil)) pa_nil)) (pe_glob (v := .int 6) (by rfl) m2 ⟨_, rfl⟩) (nomark _)) (pss_one (ps_raise rfl (takes_of rfl rfl rfl rfl) (pmk_oeV TM.ox TM.iC TM.tI GM hr2 bM .nil pass0 (by rfl) TM.mgC (by exact (pa_cons (pe_glob (v := .int 6) (by rfl) m2 ⟨_, rfl⟩) pa_nil))))) pss_nil)
      (pss_cons (ps_if (pt_cmpR op_gt (pe_callB call_len_seq (by rfl) B.len_ (by decide +kernel) (pa_cons (pe_call words_of.g hr rfl words_of.mg words_of.kp words_of.b .nil pass0 (pa_cons (pv 0) pa_nil)) pa_nil)) (pe_glob (v := .int 6) (by rfl) m3 ⟨_, rfl⟩) (nomark _)) (pss_one (ps_raise rfl (takes_of rfl rfl rfl rfl) (pmk_oeV TM.ox TM.iC TM.tI GM hr2 bM .nil pass0 (by rfl) TM.mgC (by exact (pa_cons (pe_glob (v := .int 6) (by rfl) m3 ⟨_, rfl⟩) pa_nil))))) pss_nil)
      (pss_one (ps_ret (pe_callTy call_tuple_of (by rfl) B.tuple_ (by decide +kernel) (pa_cons (pv 0) pa_nil)))))))), ?_⟩
    have sz : ∀ n, n ≤ 100000 → n ≤ sizeLine := fun n h => Nat.le_trans h (by show 100000 ≤ sizeLine; decide)
    have hl := hA.1
    refine ⟨_, rfl, t, _, rfl, ht, for_it (walk_enumT (xs := ps.map V.ref)) (fun i σ G => ∃ o1 o2 : Option V, σ = [some (.ref t), o1, o2] ∧ Same H G) ⟨none, none, rfl, Same.refl H⟩ (fun i σ G _ h => by
      obtain ⟨_, _, _, s⟩ := h
      exact same_seqT s ht) ?_ ?_⟩
    · rintro i x σ G G' hi ⟨o1, o2, rfl, sG⟩ ⟨pr, u, v, rfl, np, rfl, ei, ev⟩
      cases ei
      obtain ⟨p, s, rfl, hp, hs, hS, hok⟩ := (hA.same sG).get ev
      have s2 := same_new (o := .tup [.int (i : Nat), .ref p]) np
      obtain ⟨dx, _, _, _, _, _, hp', _⟩ := (hS.same s2).ex
      exact ⟨pr, _, rfl, .inl (.inl upd_same), rfl, _, _, rfl, _, _, rfl, rfl, _, rfl, p, dx, _, rfl, hp', _, rfl, iteF ⟨_, _, rfl, sG.trans s2⟩⟩
    · rintro σ G ⟨o1, o2, rfl, sG⟩
      have htG := same_seqT sG ht
      have hAG := hA.same sG
      refine ⟨_, rfl, t, _, rfl, .inr htG, _, _, rfl, rfl, _, rfl, if_is (fun e => ?_) (fun e => ?_)⟩
      · have lim : limS ss = some 12 := by
          unfold limS
          rw [if_pos (by have := of_decide_eq_true e; rw [List.length_map] at this; omega)]
        refine ⟨by show 1 ≤ 1000; decide, fun a na => err_use na fun d nd => ?_⟩
        exact qE 12 lim d _ (sG.trans (same_new nd)) upd_same (sG.free nd)
      have few12 : ss.length ≤ 12 := by
        have := of_decide_eq_false e
        rw [List.length_map] at this
        omega
      refine ⟨_, rfl, t, ps, ss, rfl, htG, hAG, by omega, fun ys r G2 hs hn hm hr s2 => ⟨r, _, rfl, .inr hr, _, _, rfl, rfl, _, rfl, if_is (fun e => ?_) (fun e => ?_)⟩⟩
      · have lim : limS ss = some 6 := by
          unfold limS
          have := of_decide_eq_true e
          rw [List.length_map, dd_len hn hm] at this
          rw [if_neg (by omega), if_pos (by omega)]
        refine ⟨by show 1 ≤ 1000; decide, fun a na => err_use na fun d nd => ?_⟩
        have sA := sG.trans s2
        exact qE 6 lim d _ (sA.trans (same_new nd)) upd_same (sA.free nd)
      have few6 : (dd (statesL ss)).length ≤ 6 := by
        have := of_decide_eq_false e
        rw [List.length_map, dd_len hn hm] at this
        omega
      have sA := sG.trans s2
      refine ⟨_, rfl, t, ps, ss, rfl, same_seqT s2 htG, hAG.same s2, by omega, fun ys r G3 hs hn hm hr s3 => ⟨r, _, rfl, .inr hr, _, _, rfl, rfl, _, rfl, if_is (fun e => ?_) (fun e => ?_)⟩⟩
      · have lim : limS ss = some 6 := by
          unfold limS
          have := of_decide_eq_true e
          rw [List.length_map, dd_len hn hm] at this
          rw [if_neg (by omega), if_neg (by omega), if_pos (by omega)]
        refine ⟨by show 1 ≤ 1000; decide, fun a na => err_use na fun d nd => ?_⟩
        have sB := sA.trans s3
        exact qE 6 lim d _ (sB.trans (same_new nd)) upd_same (sB.free nd)
      have lim : limS ss = none := by
        unfold limS
        have := of_decide_eq_false e
        rw [List.length_map, dd_len hn hm] at this
        rw [if_neg (by omega), if_neg (by omega), if_neg (by omega)]
      exact ⟨_, rfl, t, _, rfl, .inr ⟨same_seqT s3 (same_seqT s2 htG), qN lim G3 (sA.trans s3)⟩⟩
end
end RL

/-! == of tuples whose items are instances with their own ==; what the items' == leaves is kept. -/
namespace PySem.SeqAt
open AutoSeq1 (wpAny_loadPart')
open MeetsSeq MeetsSeq2 MeetsSeq3 SeqRoads2
/-- y == x answers b and keeps J -/
def EqJ (prog : Program) (w : World) (A : Around) (J : Shared → Prop) (y x : Value) (b : Bool) : Prop := ∀ (E : Value → Shared → Prop) (Q : Bool → Shared → Prop) (s : Shared), J s → (∀ s', J s' → Q b s') → wpAny (model prog w) A (eqBool y x) Q E s
section
variable {prog : Program} {w : World}
theorem tuple_eqJ (J : Shared → Prop) (l b : Addr) (items items2 : Array Value) (n n2 : Nat) (dd dd2 : Option Addr) (sl sl2 : Array (Option Value)) (e : Nat → Bool) :
    MeetsIn prog w (Builtin.«tuple.__eq__» ⟨[.ref l, .ref b], []⟩)
      (fun A R s => s.heap.get? l = some { cls := .type "tuple", dict := dd, data := .seq items n, slots := sl } ∧ s.heap.get? b = some { cls := .type "tuple", dict := dd2, data := .seq items2 n2, slots := sl2 } ∧
        J s ∧ (∀ j (h1 : j < items.size) (h2 : j < items2.size), EqJ prog w A.in1 J items[j] items2[j] (e j)) ∧
        ∀ s', J s' → R (.ok (.ret (.bool ((List.range (min items.size items2.size)).all e && items.size == items2.size)))) s') :=
  .of_wp fun A R s h => by
    obtain ⟨hp, g, d, tk, os⟩ := s; obtain ⟨hl, hb, hJ, he, h⟩ := h
    have f2 := AutoSeq1.sub_tuple_tuple
    have hZ : (items.toList.zip items2.toList).length = min items.size items2.size := by simp
    wp_walk using wpAny_loadPart' hl, wpAny_loadPart' hb, wpAny_forIn_list _ (fun rest b s' => b.1 = none ∧ J s' ∧ ∃ i, rest = (items.toList.zip items2.toList).drop i ∧
      ∀ s'', J s'' → R (.ok (.ret (.bool (((List.range (min items.size items2.size)).drop i).all e && items.size == items2.size)))) s'') _
    case turn =>
      rintro ⟨y, x⟩ rest b s' ⟨hb', hJ', i, hz, hR⟩
      have hlt : i < (items.toList.zip items2.toList).length := by
        rcases Nat.lt_or_ge i (items.toList.zip items2.toList).length with h' | h'
        · exact h'
        · rw [List.drop_of_length_le h'] at hz; cases hz
      have hm : i < min items.size items2.size := hZ ▸ hlt
      have h1 : i < items.size := Nat.lt_of_lt_of_le hm (Nat.min_le_left _ _)
      have h2 : i < items2.size := Nat.lt_of_lt_of_le hm (Nat.min_le_right _ _)
      rw [List.drop_eq_getElem_cons hlt] at hz
      injection hz with hyx hrest
      have hy : y = items[i] := by have := congrArg Prod.fst hyx; simpa using this
      have hx : x = items2[i] := by have := congrArg Prod.snd hyx; simpa using this
      subst hy hx
      have hd : (List.range (min items.size items2.size)).drop i = i :: (List.range (min items.size items2.size)).drop (i + 1) := by simp [List.drop_eq_getElem_cons, hm]
      rw [hd, List.all_cons] at hR
      refine wpAny_bind (he i h1 h2 _ _ s' hJ' fun s2 hJ2 => ?_)
      cases hy : e i with
      | true =>
        rw [hy] at hR
        wp_walk
        exact ⟨rfl, hJ2, i + 1, hrest, by simpa using hR⟩
      | false =>
        rw [hy] at hR
        wp_walk
        exact ⟨_, rfl, by simpa using hR s2 hJ2⟩
    case fin =>
      rintro ⟨b1, b2⟩ s' ⟨hb', hJ', i, hz, hR⟩
      simp only at hb'
      subst hb'
      have hge : min items.size items2.size ≤ i := by
        rcases Nat.lt_or_ge i (items.toList.zip items2.toList).length with h' | h'
        · rw [List.drop_eq_getElem_cons h'] at hz; cases hz
        · exact hZ ▸ h'
      rw [List.drop_of_length_le (by simpa using hge)] at hR
      wp_walk
      exact ⟨_, rfl, by simpa [Builtin.Tuple.tupleCompareSizes] using hR s' hJ'⟩
    case h =>
      exact ⟨rfl, hJ, 0, by simp, by simpa using h⟩
theorem rcJ_tuples {J : Shared → Prop} {A : Around} {s : Shared} {l b : Addr} {items items2 : Array Value} {n n2 : Nat} {dd dd2 : Option Addr} {sl sl2 : Array (Option Value)} {e : Nat → Bool} (hl : s.heap.get? l = some { cls := .type "tuple", dict := dd, data := .seq items n, slots := sl }) (hb : s.heap.get? b = some { cls := .type "tuple", dict := dd2, data := .seq items2 n2, slots := sl2 }) (hJ : J s) (hu : A.units < cLine)
    (he : ∀ j (h1 : j < items.size) (h2 : j < items2.size), EqJ prog w A.in1 J items[j] items2[j] (e j)) (E Q : Value → Shared → Prop) (h : ∀ s', J s' → Q (.bool ((List.range (min items.size items2.size)).all e && items.size == items2.size)) s') : wpAny (model prog w) A (richCompare .Eq (.ref l) (.ref b)) Q E s := by
  have ta : s.TypeIs (.ref l) "tuple" := ⟨_, hl, rfl⟩
  have tb : s.TypeIs (.ref b) "tuple" := ⟨_, hb, rfl⟩
  exact wpAny_richCompare_same_room (op := .Eq) ta tb F.slot_tuple_eq (call_meetsIn F.slot_tuple_eq ta F.entry_tuple_eq (F.args_tuple_eq_2 _ _) (tuple_eqJ J l b items items2 n n2 dd dd2 sl sl2 e)
    ⟨hl, hb, hJ, he, fun s' q => show Value.bool _ ≠ Value.notImplemented ∧ Q _ s' from ⟨(fun x => nomatch x), h s' q⟩⟩) hu
end
end PySem.SeqAt
namespace GR
open PySem PySem.W PySem.Spec PySem.Calls PyProof.Rows L2 SX
section
variable {X : Cx} {C f : Addr} {fd : FuncData} {ps : List Str} {n : Nat} {sp : Sp}
theorem vals_ref : ∀ {xs : List Addr} {us : List Value}, Vals (xs.map V.ref) us → ∀ j (h : j < us.length) (hx : j < xs.length), us[j] = Value.ref xs[j]
  | [], _, _, _, _, hx => absurd hx (Nat.not_lt_zero _)
  | x :: xs, _, .cons r rs, 0, _, _ => r
  | x :: xs, _, .cons r rs, j + 1, h, hx => vals_ref rs j (Nat.lt_of_succ_lt_succ h) (Nat.lt_of_succ_lt_succ hx)
/-- the items' own ==, kept -/
theorem eqJ_own {pins : List (Addr × Obj)} {σ : L2.St} {H : Hp} {a b dx dy : Addr} {fs gs : List (Str × V)} {t : Bool} (at_ : findIn X.K (.ref C) "__eq__" = some (some (.ref f))) (isF : isFn X.K (.ref f) = true)
    (F : FnOk X.prog X.w X.K X.mg X.base CX0 n f fd ps sp) (hb : Binds X.K fd ps []) (room : Room (n + 1) X.A) (ha : H a = some (.ins C dx fs)) (hb' : H b = some (.ins C dy gs))
    (q : sp [.ref a, .ref b] H (fun z H' => H' = H ∧ z = .bl t) E0) : SeqAt.EqJ X.prog X.w X.A.in1 (fun s => L2.Inv X pins σ H s) (.ref a) (.ref b) (decide (a = b) || t) := by
  intro E Q s I fin
  unfold eqBool
  refine wpAny_holding ?_
  refine wpAny_ite_split (fun hab => ?_) (fun hab => ?_)
  · have e : a = b := by have := eq_of_beq hab; injection this
    rw [decide_eq_true e, Bool.true_or] at fin
    wp_walk
    exact fin s I
  · have e : a ≠ b := fun e => hab (by rw [e]; simp)
    rw [decide_eq_false e, Bool.false_or] at fin
    obtain ⟨_, J, _⟩ := ins_get I.hok ha
    obtain ⟨_, J', _⟩ := ins_get I.hok hb'
    obtain ⟨od, J, _⟩ := J.look
    obtain ⟨od', J', _⟩ := J'.look
    obtain ⟨m, hF⟩ := I.fr
    have room1 : Room n X.A.in1 := room.in1
    refine wpAny_bind (cmp_K (op := .Eq) (tb := .ref C) room1.units0 hF I.ok.mod.kin J J'.type (by simp [notFirst]) at_ isF ?_)
    have bs := hb s [.ref a, .ref b] I.kIn (by rw [List.append_nil]; exact F.len _ _ _ _ q)
    refine wpAny_call (codeAny_mono (F.run X.A.in1 X.stack s H ⟨[.ref a, .ref b], []⟩ [.ref a, .ref b] [.ref a, .ref b] _ E0 room1 I.env0.in1 bs (.cons rfl (.cons rfl .nil)) q) ?_)
    rintro (e | fl) s' h
    · exact (show False from h).elim
    cases fl with
    | next => exact (show False from h).elim
    | brk => exact (show False from h).elim
    | cont => exact (show False from h).elim
    | ret r =>
      obtain ⟨z, H', I', rz, eH, ez⟩ := I.after h
      subst eH ez
      cases (show r = Value.bool t from rz)
      exact wpAny_truthy_bool (fin s' I')
/-- == of two tuples of such instances -/
def rEqIs (K : Frag) (C : Addr) (sp : Sp) : R2 := fun x y H Q => ∃ (a b : Addr) (xs ys : List Addr) (e : Nat → Bool), x = .ref a ∧ y = .ref b ∧ SqT K H a (xs.map V.ref) ∧ SqT K H b (ys.map V.ref) ∧
  (∀ p ∈ xs, ∃ dx fs, H p = some (.ins C dx fs)) ∧ (∀ p ∈ ys, ∃ dx fs, H p = some (.ins C dx fs)) ∧ (∀ j p q, xs[j]? = some p → ys[j]? = some q → sp [.ref p, .ref q] H (fun z H' => H' = H ∧ z = .bl (e j)) E0) ∧
  Q (.bl ((List.range (min xs.length ys.length)).all (fun j => decide (xs[j]? = ys[j]?) || e j) && decide (xs.length = ys.length))) H
theorem op_eqIs (at_ : findIn X.K (.ref C) "__eq__" = some (some (.ref f))) (isF : isFn X.K (.ref f) = true) (F : FnOk X.prog X.w X.K X.mg X.base CX0 n f fd ps sp) (hb : Binds X.K fd ps []) (room : Room (n + 1) X.A) : OpR X (compareOp .Eq) (rEqIs X.K C sp) := by
  intro pins s σ H x y v u Q I rx ry ⟨a, b, xs, ys, e, ex, ey, ha, hb2, iX, iY, q, fin⟩
  subst ex; subst ey
  cases (show v = Value.ref a from rx); cases (show u = Value.ref b from ry)
  obtain ⟨i1, r1, t1, _⟩ := I.tuple ha
  obtain ⟨i2, r2, t2, _⟩ := I.tuple hb2
  obtain ⟨⟨cls, dd, data, sl⟩, ho, hc, m, hd⟩ := t1
  obtain ⟨⟨cls2, dd2, data2, sl2⟩, ho2, hc2, m2, hd2⟩ := t2
  simp only at hc hd hc2 hd2
  subst hc hd hc2 hd2
  have l1 : i1.length = xs.length := by rw [← r1.length, List.length_map]
  have l2 : i2.length = ys.length := by rw [← r2.length, List.length_map]
  have g1 : ∀ j (h : j < i1.length), ∃ hx : j < xs.length, i1[j] = Value.ref xs[j] := fun j h => by
    have hx : j < xs.length := by omega
    exact ⟨hx, vals_ref r1 j h hx⟩
  have g2 : ∀ j (h : j < i2.length), ∃ hx : j < ys.length, i2[j] = Value.ref ys[j] := fun j h => by
    have hx : j < ys.length := by omega
    exact ⟨hx, vals_ref r2 j h hx⟩
  show wpAny _ _ (richCompare .Eq (.ref a) (.ref b)) _ _ _
  refine SeqAt.rcJ_tuples (J := fun s => L2.Inv X pins σ H s) (e := fun j => decide (xs[j]? = ys[j]?) || e j) ho ho2 I room.units0 (fun j h1 h2 => ?_) _ _ fun s' I' => ?_
  · have h1' : j < i1.length := by simpa using h1
    have h2' : j < i2.length := by simpa using h2
    obtain ⟨hx, e1⟩ := g1 j h1'
    obtain ⟨hy, e2⟩ := g2 j h2'
    have f1 : i1.toArray[j] = Value.ref xs[j] := by simpa using e1
    have f2 : i2.toArray[j] = Value.ref ys[j] := by simpa using e2
    have x1 := List.getElem?_eq_getElem hx
    have x2 := List.getElem?_eq_getElem hy
    rw [f1, f2, x1, x2]
    have de : decide (some xs[j] = some ys[j]) = decide (xs[j] = ys[j]) := by
      by_cases h : xs[j] = ys[j] <;> simp [h]
    rw [de]
    obtain ⟨dx, fs, p1⟩ := iX _ (List.getElem_mem hx)
    obtain ⟨dy, gs, p2⟩ := iY _ (List.getElem_mem hy)
    exact eqJ_own at_ isF F hb room p1 p2 (q j _ _ x1 x2)
  · refine ⟨.bl _, H, I', rfl, ?_⟩
    rw [List.size_toArray, List.size_toArray, l1, l2]
    have : (xs.length == ys.length) = decide (xs.length = ys.length) := by
      by_cases h : xs.length = ys.length <;> simp [h]
    rw [this]
    exact fin
end
end GR

-- NOMAP
namespace RL
open PySem L2 SX AddrMath VA PySem.W GR TxSet
/-- the text of a rule, as it is said -/
def textS (s : Said) : Str := ruleS s.1 (.tuple s.2.1) (goalSD s.2.2.1) s.2.2.2
def eqS : Option Said → Option Said → Bool
  | some a, some b => PyData.eqv (keyD a.1 (.tuple a.2.1) (goalSD a.2.2.1) a.2.2.2) (keyD b.1 (.tuple b.2.1) (goalSD b.2.2.1) b.2.2.2)
  | _, _ => true
structure BTxt (K : Frag) (mg : Str → Option Value) (CB : Addr) : Prop where
  cl : Cls K CB
  nR : NoAttr K CB "_rules"
  nD : NoAttr K CB "_reader"
  mgC : mg "Book" = some (.ref CB)
abbrev nRules : Str := "_rules"
abbrev nReader : Str := "_reader"
def bF (t : Addr) : List (Str × V) := [(nRules, .ref t), (nReader, .non)]
/-- a book of these rules stands at b -/
def BookAt (K : Frag) (C CB : Addr) (H : Hp) (b t : Addr) (ps : List Addr) (ss : List Said) : Prop := (∃ dx, H b = some (.ins CB dx (bF t))) ∧ SqT K H t (ps.map V.ref) ∧ RulesAt K C H ps ss
theorem BookAt.same {K : Frag} {C CB : Addr} {H H' : Hp} {b t : Addr} {ps : List Addr} {ss : List Said} (h : BookAt K C CB H b t ps ss) (s : Same H H') : BookAt K C CB H' b t ps ss := by
  obtain ⟨⟨dx, h1⟩, h2, h3⟩ := h
  exact ⟨⟨dx, s _ _ h1⟩, same_seqT s h2, h3.same s⟩
section
variable {P : Program} {w : World} {K : Frag} {mg : Str → Option Value} {base : Heap}
/-- a rule stays where another instance changes -/
theorem rule_put {C CB b dx p : Addr} {H : Hp} {fs gs : List (Str × V)} {z : Str} {pd gd : PyData} {x : Bool} (hb : H b = some (.ins CB dx fs)) (hf : fs.lookup nState = none) (h : RuleAt K C H p z pd gd x) : RuleAt K C (upd H b (.ins CB dx gs)) p z pd gd x := by
  obtain ⟨dx', tP, tW, tK, gV, ws, hp, hP, hG, hW, a1, a2, a3, hK⟩ := h.ex
  have ne : p ≠ b := fun e => by
    rw [e, hb] at hp
    cases hp
    cases hf
  have k : Kp H (upd H b (.ins CB dx gs)) := kp_put hb rfl
  have nt : ∀ {t : Addr} {xs : List V}, H t = some (.tup xs) → (upd H b (.ins CB dx gs)) t = some (.tup xs) := fun {t xs} e => by
    rw [upd_ne (fun z => by rw [z, hb] at e; cases e)]
    exact e
  exact ⟨dx', tP, tW, tK, gV, ws, (upd_ne ne).trans hp, k.sqT hP, goal_at_kp hG k, nt hW, a1, a2, a3, nt hK⟩
theorem rules_put {C CB b dx : Addr} {H : Hp} {fs gs : List (Str × V)} {ps : List Addr} {ss : List Said} (hb : H b = some (.ins CB dx fs)) (hf : fs.lookup nState = none) (h : RulesAt K C H ps ss) : RulesAt K C (upd H b (.ins CB dx gs)) ps ss :=
  ⟨h.1, fun i p s a e => ⟨rule_put hb hf (h.2 i p s a e).1, (h.2 i p s a e).2⟩⟩
/-! ### Book.__init__: slots self 0, rules 1 -/
abbrev sBookInit : Stmt := inClass (top 55) 0
theorem scBookInit : FnScope ["self", "rules"] ["self", "rules"] (defScope sBookInit) := ⟨rfl, rfl, rfl, by decide +kernel, rfl, by decide +kernel, by decide +kernel⟩
/-- what the constructor is promised: self and the tuple of the rules -/
def spBInit0 (K : Frag) (C CB CM : Addr) : Sp := fun vs H Q E => ∃ (b t dx : Addr) (ps : List Addr) (ss : List Said), vs = [.ref b, .ref t] ∧ H b = some (.ins CB dx []) ∧ SqT K H t (ps.map V.ref) ∧ RulesAt K C H ps ss ∧ ss.length ≤ 100000 ∧
  (∀ n, limS ss = some n → ∀ d H', Same H H' → H' d = some (.xd (ixF nLimit (.int n))) → H d = none → E (.ref CM) (some d) H') ∧
  (limS ss = none → ∀ H', BookAt K C CB H' b t ps ss → (∀ x o, H x = some o → x ≠ b → H' x = some o) → Q .non H')
def spBInit (K : Frag) (C CB CM : Addr) : Sp := fun vs H Q E => ∃ ws rest, vs = ws ++ rest ∧ ws.length = ["self"].length ∧ rest.length ≤ sizeLine ∧ ∀ p, H p = Option.none → spBInit0 K C CB CM (ws ++ [V.ref p]) (upd H p (.tup rest)) Q E
theorem ok_binit {f C CB CM : Addr} {fd : FuncData} (F : Fun K "__init__" "Book.__init__" sBookInit f fd) (TB : BTxt K mg CB) (checked : Own P w K mg base (L2.CX P w) 4 "checked" ["rules"] (spChecked K C CM)) : FnR P w K mg base (L2.CX P w) 5 f (spBInit K C CB CM) := by
  obtain ⟨oc, od, kV, doc, pm, an, cdv, ct, osl, rfl, lk, hcd⟩ := F.ex
  refine StX.fn_star (ps := ["self"]) (pv := "rules") lk hcd scBookInit StX.cxUp (StX.bind_star1 (B := fun us => bindArgs _ ⟨us, []⟩) (fun a => by rfl) (fun a r rs => by rfl)) fun A outer s0 H vs Q E hr h => ?_
  obtain ⟨b, t, dx, ps, ss, rfl, hb, ht, hA, few, qE, qN⟩ := h
  refine ⟨_, (pss_cons (ps_fld (pv 0) (pe_callS checked.g hr rfl checked.mg checked.kp checked.b (fun σ => passAt (takes_of rfl rfl rfl rfl) σ) (pa_cons (pv 1) pa_nil)) rfl)
      (pss_one (ps_fld (pv 0) pe_non rfl))), ?_⟩
  refine ⟨_, rfl, t, ps, ss, rfl, ht, hA, few, qE, fun hn H2 s2 => ?_⟩
  have hb2 := s2 _ _ hb
  refine ⟨_, rfl, b, CB, dx, _, rfl, hb2, TB.cl, TB.nR, (by show 0 < 1000; decide), ?_⟩
  refine hp_is (H' := upd H2 b (.ins CB dx [(nRules, .ref t)])) rfl ?_
  have g1 : (upd H2 b (.ins CB dx [(nRules, .ref t)])) b = some (.ins CB dx [(nRules, .ref t)]) := upd_same
  have A1 : RulesAt K C (upd H2 b (.ins CB dx [(nRules, .ref t)])) ps ss := rules_put hb2 rfl (hA.same s2)
  have k1 : Kp H2 (upd H2 b (.ins CB dx [(nRules, .ref t)])) := kp_put hb2 rfl
  have t1 := k1.sqT (same_seqT s2 ht)
  have b1 : ∀ x o, H x = some o → x ≠ b → (upd H2 b (.ins CB dx [(nRules, .ref t)])) x = some o := fun x o e n => by rw [upd_ne n]; exact s2 _ _ e
  generalize upd H2 b (.ins CB dx [(nRules, .ref t)]) = G1 at g1 A1 t1 b1 ⊢
  refine ⟨_, rfl, b, CB, dx, _, rfl, g1, TB.cl, TB.nD, (by show 1 < 1000; decide), ?_⟩
  refine hp_is (H' := upd G1 b (.ins CB dx (bF t))) rfl ?_
  have k2 : Kp G1 (upd G1 b (.ins CB dx (bF t))) := kp_put g1 rfl
  exact qN hn _ ⟨⟨dx, upd_same⟩, k2.sqT t1, rules_put g1 rfl A1⟩ fun x o e n => by rw [upd_ne n]; exact b1 x o e n
end
end RL

namespace RL
open PySem L2 SX AddrMath VA
section
variable {P : Program} {w : World} {K : PySem.W.Frag} {mg : Str → Option Value} {base : Heap}
/-! ### _law_made_rule: slots one 0, state 1, pattern 2, goal 3, exact 4, begin 5 -/
theorem ent_okn {d : PyData} (e : isEntD d = true) {n : Nat} : okD n d = true := by
  have := ent_ok7 e
  rcases ent_cases e with ⟨k, rfl⟩ | ⟨x', rfl, _⟩
  · rw [okD]
  · rw [okD] at this ⊢
    exact this
theorem ents_lst {H : Hp} {l : Addr} {es : List PyData} (h : SqL K H l (es.map entV)) (e : es.all isEntD = true) (few : es.length ≤ 1000) {n : Nat} : Dp K H (.ref l) (.list es) ∧ okD (n + 1) (.list es) = true :=
  ⟨.lst h (ents_dp e), (ok_seq few fun d hd => ent_okn (List.all_eq_true.mp e d hd)).1⟩
theorem are_lst {m : Int} {b : PyData} (h : areEntD m b = true) : areEntD m (.list (itemsD b)) = true := by
  obtain ⟨_, h2, h3⟩ := areEnt_parts h
  show (true && (decide (((itemsD b).length : Int) ≤ m) && (itemsD b).all isEntD)) = true
  rw [h3, decide_eq_true h2]
  rfl
theorem rule_tup {C p : Addr} {H : Hp} {z y : Str} {es : List PyData} {b : PyData} {x : Bool} (h : RuleAt K C H p z (.list es) (.tuple [.str y, .list (itemsD b)]) x) : RuleAt K C H p z (.tuple es) (.tuple [.str y, b]) x := ⟨h.ex⟩
theorem rule_tup0 {C p : Addr} {H : Hp} {z : Str} {es : List PyData} {x : Bool} (h : RuleAt K C H p z (.list es) .none x) : RuleAt K C H p z (.tuple es) .none x := ⟨h.ex⟩
theorem pass_none {X : Cx} : Passes (L2.CX P w) X E0 := fun _ _ _ _ _ _ _ h => by
  obtain ⟨_, _, _, _, _, _, _, _, _, _, _, _, h⟩ := h
  exact h.elim
theorem wrong_none {s p g : PyData} {x : Bool} (h1 : isWordD s = true) (h2 : areEntD 2 p = true) (h3 : isGoalD g p = true) : wrongD s p g (.bool x) = none := by
  unfold wrongD
  rw [h1, h2, h3]
  rfl
theorem same_ins {H : Hp} {y dy C : Addr} (ny : H y = none) (nd : H dy = none) : Same H (upd (upd H dy (.own y)) y (.ins C dy [])) := fun b o e => by
  rw [upd_ne (ne_of_none e ny), upd_ne (ne_of_none e nd)]
  exact e
end
end RL


/-! f(k = v, ..): a def of the text, by keywords alone. -/
namespace VA
open PySem L2 SX AddrMath
def tCallK0 (m : Nat) (sp : Sp) (gV : List V → List V → List V) (E : XK) (tk : TA) : TE := fun σ H Q => tk σ H fun zs H1 => zs.length = m ∧ sp (gV [] zs) H1 Q E
section
variable {X : Cx} {CX : CXT} {k : Nat} {f : Addr} {fd : FuncData} {ps ks : List Str} {sp : Sp} {E : XK} {x : Str} {p pos : Pos} {kws : List Keyword} {tk : TA} {g : List Value → List Value → List Value} {gV : List V → List V → List V}
theorem call_k0 {pn : List (Addr × Obj)} {σ : L2.St} {H : Hp} {s : Shared} {Q : VK} {ws : List Value} {zs : List V} (F : FnOk X.prog X.w X.K X.mg X.base CX k f fd ps sp) (room : Room k X.A) (bn : KBn X.K fd ps 0 ks g gV) (pa : Passes CX X E) (J : Inv X pn σ H s) (rz : Vals zs ws) (l2 : zs.length = ks.length)
    (want : sp (gV [] zs) H Q E) : wpAny (model X.prog X.w) X.A (call (.ref f) [] (ks.zip ws)) (EP X pn σ Q) X.xe s := by
  refine wpAny_call (codeAny_mono (F.run X.A X.stack s H ⟨[], ks.zip ws⟩ (g [] ws) _ Q E room J.env0 (bn.to s [] ws J.kIn rfl (rz.length.symm.trans l2)) (bn.rel .nil rz) want) ?_)
  rintro (e | fl) s' h
  · exact pa _ _ _ _ _ _ J h
  cases fl with
  | next => exact (show False from h).elim
  | brk => exact (show False from h).elim
  | cont => exact (show False from h).elim
  | ret u => exact J.after h
theorem pe_callK0 (F : FnOk X.prog X.w X.K X.mg X.base CX k f fd ps sp) (room : Room k X.A) (hg : Gl X x) (hm : X.mg x = some (.ref f)) (hk : PySem.W.keepIn X.K (.ref f) = true) (bn : KBn X.K fd ps 0 ks g gV) (pa : Passes CX X E)
    (hkw : PK X kws tk) (hall : (backToKw pos (keywordEach kws X.env)).all (·.1.isSome) = true := by rfl) (hks : (backToKw pos (keywordEach kws X.env)).filterMap (·.1) = ks := by rfl)
    (hdb : (x == ("__debug__" : Str)) = false := by decide)
    (hpl : ((backTo pos (starEach [] X.env)).any (·.1) || (backToKw pos (keywordEach kws X.env)).any (·.1.isNone)) = false := by rfl) :
    PE X (.Call (.Name x p) [] kws pos) (tCallK0 ks.length sp gV E tk) := by
  refine ⟨fun pn s σ H Q J want => ?_⟩
  refine wpAny_Call_Name_kw (ld_glob J hg hm ?_ hdb)
  refine PySem.W.callWith_KW0 J.ok.mod.kin hk hall (thn (hkw.run pos pn s σ H _ J want) fun ws s2 ⟨zs, H2, J2, rz, l2, q2⟩ => ⟨J2.kIn, ?_⟩) hpl
  rw [hks]
  exact call_k0 F room bn pa J2 rz l2 q2
end
theorem passes_of {X : Cx} {E : XK} (t : Takes X fun cls d _ H => E cls d H) : Passes (L2.CX X.prog X.w) X E := fun pins σ H s e s' I h => passAt t σ pins H s e s' I h
end VA

-- NOMAP
namespace RL
open PySem L2 SX AddrMath VA PySem.W GR TxSet
abbrev nl : Str := "\n"
theorem text_len {s : Said} (ok : okS s) : (textS s).length ≤ 82 := (rule_read (x := s.2.2.2) ok).2.1
theorem sum_le {α : Type} {f : α → Nat} {m : Nat} : ∀ {l : List α}, (∀ x ∈ l, f x ≤ m) → (l.map f).sum ≤ m * l.length
  | [], _ => Nat.zero_le _
  | x :: l, h => by
    have := h x (List.mem_cons_self ..)
    have ih := sum_le (l := l) fun z hz => h z (List.mem_cons_of_mem _ hz)
    rw [List.map_cons, List.sum_cons, List.length_cons, Nat.mul_add, Nat.mul_one]
    omega
theorem RulesAt.oks {K : Frag} {C : Addr} {H : Hp} {ps : List Addr} {ss : List Said} (h : RulesAt K C H ps ss) : ∀ s ∈ ss, okS s := fun s hs => by
  obtain ⟨i, hi, e⟩ := List.getElem_of_mem hs
  have hp : i < ps.length := by rw [h.1]; exact hi
  exact (h.2 i ps[i] s (List.getElem?_eq_getElem hp) (by rw [← e]; exact List.getElem?_eq_getElem hi)).2
section
variable {P : Program} {w : World} {K : Frag} {mg : Str → Option Value} {base : Heap}
/-! ### Book.of: slots cls 0, rules 1 -/
abbrev sBookOf : Stmt := inClass (top 55) 1
theorem scBookOf : FnScope ["cls", "rules"] ["cls", "rules"] (defScope sBookOf) := ⟨rfl, rfl, rfl, by decide +kernel, rfl, by decide +kernel, by decide +kernel⟩
/-- the end of a book made of these rules -/
def BookOf (K : Frag) (C CB CM : Addr) (H : Hp) (ps : List Addr) (ss : List Said) (Q : VK) (E : XK) : Prop :=
  (∀ n, limS ss = some n → ∀ d H', Same H H' → H' d = some (.xd (ixF nLimit (.int n))) → H d = none → E (.ref CM) (some d) H') ∧
  (limS ss = none → ∀ b t H', BookAt K C CB H' b t ps ss → Same H H' → H b = none → Q (.ref b) H')
def spBOf (K : Frag) (C CB CM : Addr) : Sp := fun vs H Q E => ∃ (l : Addr) (ps : List Addr) (ss : List Said), vs = [.ref CB, .ref l] ∧ SqA K H l (ps.map V.ref) ∧ RulesAt K C H ps ss ∧ ss.length ≤ 100000 ∧ BookOf K C CB CM H ps ss Q E
/-- Book's constructor on these rules -/
theorem binit_of {C CB CM o dx : Addr} {H : Hp} {ps : List Addr} {ss : List Said} {Q : VK} {E : XK} (no : H o = none) (nd : H dx = none) (ne : dx ≠ o) (hA : RulesAt K C H ps ss) (few : ss.length ≤ 100000) (h : BookOf K C CB CM H ps ss Q E) :
    spBInit K C CB CM (V.ref o :: ps.map V.ref) (upd (upd H dx (.own o)) o (.ins CB dx [])) (fun v H2 => v = .non ∧ Q (.ref o) H2) E := by
  obtain ⟨qE, qN⟩ := h
  have sI : Same H (upd (upd H dx (.own o)) o (.ins CB dx [])) := same_ins no nd
  refine ⟨[.ref o], ps.map V.ref, rfl, rfl, size_ok (by rw [List.length_map, hA.1]; omega), fun p hp => ?_⟩
  have sT := sI.trans (same_new (o := .tup (ps.map V.ref)) hp)
  have op : (upd (upd (upd H dx (.own o)) o (.ins CB dx [])) p (.tup (ps.map V.ref))) o = some (.ins CB dx []) := by
    have e : p ≠ o := fun e => by rw [e, upd_same] at hp; cases hp
    rw [upd_ne (Ne.symm e), upd_same]
  refine ⟨o, p, dx, ps, ss, rfl, op, .inl (.inl upd_same), hA.same sT, few, fun n hn d H' s' hd nd' => ?_, fun hn H' hB keep => ⟨rfl, ?_⟩⟩
  · refine qE n hn d H' (sT.trans s') hd ?_
    exact sT.free nd'
  · refine qN hn o p H' hB (fun x u hx => keep x u (sT _ _ hx) (ne_of_none hx no)) no
theorem ok_bof {f fB C CB CM : Addr} {fd : FuncData} (F : Fun K "of" "Book.of" sBookOf f fd) (MB : Mk K CB fB) (FB : FnR P w K mg base (L2.CX P w) 5 fB (spBInit K C CB CM)) : FnOk P w K mg base (L2.CX P w) 7 f fd ["cls", "rules"] (spBOf K C CB CM) := by
  refine F.okX scBookOf (fun vs H Q E h => ?_) (fun cdv A outer s0 H vs Q E hr h => ?_)
  · obtain ⟨l, ps, ss, rfl, _⟩ := h
    rfl
  · obtain ⟨l, ps, ss, rfl, hl, hA, few, h⟩ := h
    refine ⟨_, (pss_one (ps_ret (pe_makeLS (i := 0) MB FB hr rfl (.inl rfl) (passes_of (takes_of rfl rfl rfl rfl)) (pv 1)))), ?_⟩
    exact ⟨rfl, _, rfl, l, _, rfl, hl.symm, fun o dx no nd ne => binit_of no nd ne hA few h⟩
/-! ### Book.rules -/
abbrev sBookRules : Stmt := inClass (top 55) 2
theorem scBookRules : FnScope ["self"] ["self"] (defScope sBookRules) := ⟨rfl, rfl, rfl, by decide +kernel, rfl, by decide +kernel, by decide +kernel⟩
theorem ok_brules {f CB : Addr} {fd : FuncData} (F : Fun K "rules" "Book.rules" sBookRules f fd) (TB : BTxt K mg CB) : FnOk P w K mg base CX0 1 f fd ["self"] (spGet CB nRules) := by
  refine F.ok scBookRules (fun vs H Q E h => ?_) (fun cdv A outer s0 H vs Q E hr h => ?_)
  · obtain ⟨p, dx, fs, v, rfl, _⟩ := h
    rfl
  · obtain ⟨p, dx, fs, v, rfl, hp, l, q⟩ := h
    exact ⟨_, pss_one (ps_ret (pe_fld (pv 0) rfl)), _, rfl, p, CB, dx, fs, v, rfl, hp, TB.cl, TB.nR, l, q⟩
/-! ### Book.text: slots self 0, rule 1 -/
abbrev sBookText : Stmt := inClass (top 55) 25
theorem scBookText : FnScope ["self", "rule"] ["self"] (defScope sBookText) := ⟨rfl, rfl, rfl, by decide +kernel, rfl, by decide +kernel, by decide +kernel⟩
def spBText (K : Frag) (C CB : Addr) : Sp := fun vs H Q _ => ∃ (b t : Addr) (ps : List Addr) (ss : List Said), vs = [.ref b] ∧ BookAt K C CB H b t ps ss ∧ ss.length ≤ 1000 ∧ ∀ H', Same H H' → Q (.str (Txt.join nl (ss.map textS))) H'
theorem ok_btext {f fT C CB : Addr} {fd fdT : FuncData} (F : Fun K "text" "Book.text" sBookText f fd) (T : RTxt K mg C) (TB : BTxt K mg CB) (mT : Meth K C "text" fT) (gT : FnOk P w K mg base CX0 4 fT fdT ["self"] (spRTextX K C)) (bT : Binds K fdT ["self"] []) : FnOk P w K mg base CX0 5 f fd ["self"] (spBText K C CB) := by
  refine F.ok scBookText (fun vs H Q E h => ?_) (fun cdv A outer s0 H vs Q E hr h => ?_)
  · obtain ⟨b, t, ps, ss, rfl, _⟩ := h
    rfl
  · obtain ⟨b, t, ps, ss, rfl, ⟨⟨dx, hb⟩, ht, hA⟩, few, q⟩ := h
    refine ⟨_, (pss_one (ps_ret (pe_join pe_str (pe_lc (own := [("rule", 1)]) (g := gName 1) (tt := tYes) rfl scBookText.nd (pi_seq (pe_fld (pv 0) rfl))
          (blkOk_by (own := [("rule", 1)]) (N := ["self", "rule"]) (sc := defScope sBookText) (by decide +kernel))
          (fun _ _ _ _ _ => (pg_name (i := 1) scBookText.nd rfl (Or.inl rfl))) (fun _ _ _ _ _ => pts_nil)
          (fun _ _ _ _ _ => (pe_meth0 (pv 1) T.cl mT gT hr bT .nil pass0)))))), ?_⟩
    refine ⟨⟨_, rfl⟩, _, rfl, b, CB, dx, _, _, rfl, hb, TB.cl, TB.nR, rfl, ?_⟩
    refine seq_opt (.inr ht) (by rw [List.length_map, hA.1]; omega) (fun i => ss[i]?.bind fun s => some (V.str (textS s))) ?hw (fun i x hx G sG => ?_) fun D H1 nD hD s1 => ?_
    case hw => intro _; rfl
    · obtain ⟨p, s, rfl, hp, hs, hS, hok⟩ := (hA.same sG).get hx
      refine ⟨fun R hR => no_test fun H' s' => by have := hR H' s'; rw [hs] at this; exact this, fun y hy G2 s2 R hR => ?_⟩
      rw [hs] at hy
      cases hy
      have hS2 := hS.same s2
      obtain ⟨dx', tP, tW, tK, gV, ws, hp', _⟩ := hS2.ex
      exact ⟨_, rfl, p, dx', _, rfl, hp', rfl, p, s.1, .tuple s.2.1, goalSD s.2.2.1, s.2.2.2, rfl, hS2, hok.1, hok.2.1, by show s.2.1.length ≤ 4; have := hok.2.2.1; omega, hok.2.2.2, fun H' s' => hR H' s'⟩
    rw [rules_fm hA] at hD
    have e1 : ss.filterMap (fun s => some (V.str (textS s))) = (ss.map textS).map V.str := by
      rw [List.filterMap_eq_map', List.map_map]
      rfl
    rw [e1] at hD
    refine ⟨_, D, ss.map textS, rfl, rfl, .inl (.inl (.inl hD)), ?_, q H1 s1⟩
    have sm : ((ss.map textS).map (fun x => x.length)).sum ≤ 82 * ss.length := by
      rw [List.map_map]
      exact sum_le fun s hs => text_len (hA.oks s hs)
    have l1 : nl.length = 1 := by decide +kernel
    show _ + _ * nl.length ≤ _
    rw [l1]
    refine Nat.le_trans (m := 100000) ?_ (by show 100000 ≤ sizeLine; decide)
    rw [List.length_map]
    omega
/-! ### Book.__eq__: slots self 0, other 1 -/
abbrev sBookEq : Stmt := inClass (top 55) 17
theorem scBookEq : FnScope ["self", "other"] ["self", "other"] (defScope sBookEq) := ⟨rfl, rfl, rfl, by decide +kernel, rfl, by decide +kernel, by decide +kernel⟩
/-- whether two lists of rules are equal, item by item -/
def eqB (ps qs : List Addr) (ss rs : List Said) : Bool := (List.range (min ps.length qs.length)).all (fun j => decide (ps[j]? = qs[j]?) || eqS ss[j]? rs[j]?) && decide (ps.length = qs.length)
def spBEq (K : Frag) (C CB : Addr) : Sp := fun vs H Q _ => ∃ (b c t u : Addr) (ps qs : List Addr) (ss rs : List Said), vs = [.ref b, .ref c] ∧ BookAt K C CB H b t ps ss ∧ BookAt K C CB H c u qs rs ∧ Q (.bl (eqB ps qs ss rs)) H
theorem RuleS.ins {C p : Addr} {H : Hp} {s : Said} (h : RuleS K C H p s) : ∃ dx fs, H p = some (.ins C dx fs) := by
  obtain ⟨dx, _, _, _, _, _, hp, _⟩ := h.ex
  exact ⟨dx, _, hp⟩
theorem keyS_ok {s : Said} (ok : okS s) : okD 9 (keyD s.1 (.tuple s.2.1) (goalSD s.2.2.1) s.2.2.2) = true := by
  refine (ok_seq (n := 8) (by show 4 ≤ 1000; decide) fun e he => ?_).2
  simp only [List.mem_cons, List.not_mem_nil, or_false] at he
  rcases he with rfl | rfl | rfl | rfl
  · exact word_okN ok.1
  · exact ok_long (n := 7) (by show s.2.1.length ≤ 4002; have := ok.2.2.1; omega) ok.2.1
  · rcases goal_parts ok.2.2.2 with e | ⟨y, b, e, gy, gb⟩
    · rw [e]
      show okD 8 .none = true
      rw [okD]
    · obtain ⟨_, b2, b3⟩ := areEnt_parts gb
      rw [e]
      refine (ok_seq (n := 7) (by show 2 ≤ 1000; decide) fun e he => ?_).2
      simp only [List.mem_cons, List.not_mem_nil, or_false] at he
      rcases he with rfl | rfl
      · exact word_okN gy
      · exact ok_long (n := 6) (by omega) b3
  · rw [okD]
theorem keyS_sh {s : Said} (ok : okS s) : SeqAt.shaped (keyD s.1 (.tuple s.2.1) (goalSD s.2.2.1) s.2.2.2) = true := ok_shaped (keyS_ok ok) (by decide)
theorem begS_all {s : Said} (ok : okS s) : (begD (goalSD s.2.2.1)).all isEntD = true := by
  rcases goal_parts ok.2.2.2 with e | ⟨y, b, e, gy, gb⟩
  · rw [e]
    rfl
  · rw [e]
    exact (areEnt_parts gb).2.2
theorem eqB_same {C : Addr} {H : Hp} {ps qs : List Addr} {ss : List Said} (h1 : RulesAt K C H ps ss) (h2 : RulesAt K C H qs ss) : eqB ps qs ss ss = true := by
  unfold eqB
  rw [Bool.and_eq_true]
  refine ⟨List.all_eq_true.mpr fun j hj => ?_, decide_eq_true (h1.1.trans h2.1.symm)⟩
  have hj' : j < ss.length := by
    have := List.mem_range.mp hj
    have := h1.1
    omega
  rw [List.getElem?_eq_getElem hj']
  have : eqS (some ss[j]) (some ss[j]) = true := SeqAt.eqv_refl _ (ok_lay (keyS_ok (h1.oks _ (List.getElem_mem hj')))).1
  rw [this, Bool.or_true]
theorem ok_beq {f fE C CB : Addr} {fd fdE : FuncData} (F : Fun K "__eq__" "Book.__eq__" sBookEq f fd) (TB : BTxt K mg CB) (WB : AOwn K CB) (B : Blt mg) (gE : FnOk P w K mg base CX0 1 fE fdE ["self", "other"] (spREq K C)) (bE : Binds K fdE ["self", "other"] [])
    (aE : PySem.W.findIn K (.ref C) "__eq__" = some (some (.ref fE))) (iE : PySem.W.isFn K (.ref fE) = true) : FnOk P w K mg base CX0 3 f fd ["self", "other"] (spBEq K C CB) := by
  refine F.ok scBookEq (fun vs H Q E h => ?_) (fun cdv A outer s0 H vs Q E hr h => ?_)
  · obtain ⟨b, c, t, u, ps, qs, ss, rs, rfl, _⟩ := h
    rfl
  · obtain ⟨b, c, t, u, ps, qs, ss, rs, rfl, ⟨⟨dx, hb⟩, ht, hA⟩, ⟨⟨dy, hc⟩, hu, hA2⟩, q⟩ := h
    refine ⟨_, pss_cons (ps_if (pt_not (pt_val (pe_callB (call_isI WB) (by rfl) B.isinstance_ (by decide +kernel) (pa_cons (pv 1) (pa_cons (pe_glob (v := .ref CB) (by rfl) TB.mgC rfl) pa_nil))))) (pss_one ps_dead) pss_nil)
      (pss_one (ps_ret (pe_cmpR (op_eqIs aE iE gE bE (hr.mono (by decide))) (pe_fld (pv 0) rfl) (pe_fld (pv 1) rfl) (nomark _)))), ?_⟩
    refine ⟨_, rfl, c, dy, _, rfl, hc, _, rfl, iteF ⟨_, rfl, b, CB, dx, _, _, rfl, hb, TB.cl, TB.nR, rfl, _, rfl, c, CB, dy, _, _, rfl, hc, TB.cl, TB.nR, rfl, t, u, ps, qs, fun j => eqS ss[j]? rs[j]?, rfl, rfl, ht, hu, fun p hp => ?_, fun p hp => ?_, fun j p p2 e1 e2 => ?_, q⟩⟩
    · obtain ⟨i, hi, rfl⟩ := List.getElem_of_mem hp
      have hs : i < ss.length := by rw [← hA.1]; exact hi
      exact (hA.2 i _ _ (List.getElem?_eq_getElem hi) (List.getElem?_eq_getElem hs)).1.ins
    · obtain ⟨i, hi, rfl⟩ := List.getElem_of_mem hp
      have hs : i < rs.length := by rw [← hA2.1]; exact hi
      exact (hA2.2 i _ _ (List.getElem?_eq_getElem hi) (List.getElem?_eq_getElem hs)).1.ins
    · have i1 : j < ps.length := by
        rcases Nat.lt_or_ge j ps.length with h | h
        · exact h
        · rw [List.getElem?_eq_none h] at e1; cases e1
      have i2 : j < qs.length := by
        rcases Nat.lt_or_ge j qs.length with h | h
        · exact h
        · rw [List.getElem?_eq_none h] at e2; cases e2
      have j1 : j < ss.length := by rw [← hA.1]; exact i1
      have j2 : j < rs.length := by rw [← hA2.1]; exact i2
      have s1 := List.getElem?_eq_getElem j1
      have s2 := List.getElem?_eq_getElem j2
      obtain ⟨r1, o1⟩ := hA.2 j p _ e1 s1
      obtain ⟨r2, o2⟩ := hA2.2 j p2 _ e2 s2
      refine ⟨p, p2, _, _, _, _, _, _, _, _, rfl, r1, r2, o1.2.1, begS_all o1, o2.2.1, begS_all o2, keyS_sh o1, keyS_sh o2, rfl, ?_⟩
      show V.bl _ = V.bl (eqS ss[j]? rs[j]?)
      rw [s1, s2]
      rfl
end
end RL

-- NOMAP
namespace RL
open PySem L2 SX AddrMath VA PySem.W GR TxSet StX
theorem lim_six {ss : List Said} (h : limS ss = none) : (dd (statesL ss)).length ≤ 6 ∧ (dd (wordsL ss)).length ≤ 6 := by
  unfold limS at h
  by_cases a : 12 < ss.length
  · rw [if_pos a] at h; cases h
  · rw [if_neg a] at h
    by_cases b : 6 < (dd (statesL ss)).length
    · rw [if_pos b] at h; cases h
    · rw [if_neg b] at h
      by_cases c : 6 < (dd (wordsL ss)).length
      · rw [if_pos c] at h; cases h
      · exact ⟨by omega, by omega⟩
/-- a tuple stays where a list changes -/
theorem sqT_but {K : Frag} {D t : Addr} {H H' : Hp} {xs ys : List V} (hD : H D = some (.lst xs)) (k : But D H H') (h : SqT K H t ys) : SqT K H' t ys := by
  rcases h with (h | ⟨u, h⟩) | h
  · exact .inl (.inl (k _ _ h fun e => by rw [e, hD] at h; cases h))
  · exact .inl (.inr ⟨u, k _ _ h fun e => by rw [e, hD] at h; cases h⟩)
  · exact .inr h
section
variable {P : Program} {w : World} {K : Frag} {mg : Str → Option Value} {base : Heap}
/-! ### Book.states, Book.words -/
abbrev sBStates : Stmt := inClass (top 55) 5
abbrev sBWords : Stmt := inClass (top 55) 6
theorem scBStates : FnScope ["self"] ["self"] (defScope sBStates) := ⟨rfl, rfl, rfl, by decide +kernel, rfl, by decide +kernel, by decide +kernel⟩
theorem scBWords : FnScope ["self"] ["self"] (defScope sBWords) := ⟨rfl, rfl, rfl, by decide +kernel, rfl, by decide +kernel, by decide +kernel⟩
def spBNames (K : Frag) (C CB : Addr) (f : List Said → List Str) : Sp := fun vs H Q _ => ∃ (b t : Addr) (ps : List Addr) (ss : List Said), vs = [.ref b] ∧ BookAt K C CB H b t ps ss ∧ ss.length ≤ 100 ∧
  ∀ (ys : List Str) (r : Addr) (H' : Hp), PyProof.Rows.sortedS ys = true → ys.Nodup → (∀ z, z ∈ ys ↔ z ∈ f ss) → SqT K H' r (ys.map V.str) → Same H H' → Q (.ref r) H'
theorem ok_bstates {f C CB : Addr} {fd : FuncData} (F : Fun K "states" "Book.states" sBStates f fd) (TB : BTxt K mg CB) (states_of : Own P w K mg base CX0 3 "states_of" ["rules"] (spStatesOf K C)) : FnOk P w K mg base CX0 4 f fd ["self"] (spBNames K C CB statesL) := by
  refine F.ok scBStates (fun vs H Q E h => ?_) (fun cdv A outer s0 H vs Q E hr h => ?_)
  · obtain ⟨b, t, ps, ss, rfl, _⟩ := h
    rfl
  · obtain ⟨b, t, ps, ss, rfl, ⟨⟨dx, hb⟩, ht, hR⟩, few, q⟩ := h
    exact ⟨_, pss_one (ps_ret (pe_call states_of.g hr rfl states_of.mg states_of.kp states_of.b .nil pass0 (pa_cons (pe_fld (pv 0) rfl) pa_nil))), _, rfl, b, CB, dx, _, _, rfl, hb, TB.cl, TB.nR, rfl, t, ps, ss, rfl, ht, hR, by omega, q⟩
theorem ok_bwords {f C CB : Addr} {fd : FuncData} (F : Fun K "words" "Book.words" sBWords f fd) (TB : BTxt K mg CB) (words_of : Own P w K mg base CX0 3 "words_of" ["rules"] (spWordsOf K C)) : FnOk P w K mg base CX0 4 f fd ["self"] (spBNames K C CB wordsL) := by
  refine F.ok scBWords (fun vs H Q E h => ?_) (fun cdv A outer s0 H vs Q E hr h => ?_)
  · obtain ⟨b, t, ps, ss, rfl, _⟩ := h
    rfl
  · obtain ⟨b, t, ps, ss, rfl, ⟨⟨dx, hb⟩, ht, hR⟩, few, q⟩ := h
    exact ⟨_, pss_one (ps_ret (pe_call words_of.g hr rfl words_of.mg words_of.kp words_of.b .nil pass0 (pa_cons (pe_fld (pv 0) rfl) pa_nil))), _, rfl, b, CB, dx, _, _, rfl, hb, TB.cl, TB.nR, rfl, t, ps, ss, rfl, ht, hR, few, q⟩
end
end RL

/-! C(a, b, ..), a class of the module whose __init__ takes *args; xs[i] under a binder. -/
namespace VA
open PySem L2 SX AddrMath StX
section
variable {X : Cx} {C f : Addr} {k : Nat} {sp : Sp} {CX : CXT} {E : XK} {x : Str} {np pos : Pos}
def tMakeRA (C : Addr) (sp : Sp) (E : XK) (t : TA) : TE := fun σ H Q => t σ H fun vs H1 => ∀ o dx, H1 o = none → H1 dx = none → dx ≠ o → sp (V.ref o :: vs) (upd (upd H1 dx (.own o)) o (.ins C dx [])) (fun v H2 => v = .non ∧ Q (.ref o) H2) E
theorem pe_makeRA {e : Expr} {es : List Expr} {t : TA} (M : Mk X.K C f) (F : FnR X.prog X.w X.K X.mg X.base CX k f sp) (hr : Room (k + 1) X.A) (hg : Gl X x) (hm : X.mg x = some (.ref C)) (hx : Passes CX X E) (ha : PA X (e :: es) t) (hd : (x == ("__debug__" : Str)) = false := by decide)
    (he : starEach (e :: es) X.env = (false, eval e X.env) :: starEach es X.env := by rfl) (hpl : (backTo pos (starEach es X.env)).any (·.1) = false := by rfl) : PE X (.Call (.Name x np) (e :: es) [] pos) (tMakeRA C sp E t) := by
  refine ⟨fun pins s σ H Q I h => ?_⟩
  refine wpAny_Call_Name_kw (ld_glob I hg hm ?_ hd)
  exact PySem.W.callWith_K (h₀ := X.base) I.ok.mod.kin M.kp (thn (ha.run pos pins s σ H _ I h) fun us s1 ⟨vs, H1, I1, r, q⟩ => ⟨I1.kIn, run_makeR M F hr hx I1 r q⟩) he hpl
end
theorem ix_listK {X : Cx} {K : PySem.W.Frag} (e : X.K = K) : IxR X (rIxL K) := by
  subst e
  exact ix_list
end VA

/-! C(a, *xs), a class of the module whose __init__ takes *args. -/
namespace VA
open PySem L2 SX AddrMath StX
section
variable {X : Cx} {C f : Addr} {k : Nat} {sp : Sp} {CX : CXT} {E : XK} {x : Str} {np pos : Pos}
theorem pe_makeRS {e : Expr} {es : List Expr} {t : TA} (M : Mk X.K C f) (F : FnR X.prog X.w X.K X.mg X.base CX k f sp) (hr : Room (k + 1) X.A) (hg : Gl X x) (hm : X.mg x = some (.ref C)) (hx : Passes CX X E) (ha : PA X (e :: es) t) (hd : (x == ("__debug__" : Str)) = false := by decide)
    (he : starEach (e :: es) X.env = (false, eval e X.env) :: starEach es X.env := by rfl) (hpl : (backTo pos (starEach es X.env)).any (·.1) = true := by rfl) : PE X (.Call (.Name x np) (e :: es) [] pos) (tMakeRA C sp E t) := by
  refine ⟨fun pins s σ H Q I h => ?_⟩
  refine wpAny_Call_Name_kw (ld_glob I hg hm ?_ hd)
  exact PySem.W.callWith_S2 (h₀ := X.base) I.ok.mod.kin M.kp (thn (ha.run pos pins s σ H _ I h) fun us s1 ⟨vs, H1, I1, r, q⟩ => ⟨I1.kIn, run_makeR M F hr hx I1 r q⟩) he hpl
end
theorem pg_tupK {X : Cx} {K : PySem.W.Frag} {pos : Pos} {es : List Expr} {k : Nat} {t : TGs} {n : Nat} (e : X.K = K) (c : X.calm = true) (h : PGs X es t) (l : (assignEach es X.env).length = n := by rfl) (f : List.findIdx? (fun x => x.fst) (assignEach es X.env) = none := by rfl) : PG X (Expr.Tuple es k pos) (gTup K n t) := by
  subst e
  exact pg_tup c h l f
/-- x in d, d a dict that was made here -/
theorem op_inDg {X : Cx} (hu : X.A.units + 1 < cLine) : OpR X (compareOp .In) (fun x y H Q => ∃ (a : Addr) (o : Option V), y = .ref a ∧ DGet H a x o ∧ Q (.bl o.isSome) H) := by
  intro pins s σ H x y v u Q I rx ry ⟨a, o, ey, hd, q⟩
  subst ey
  cases (show u = Value.ref a from ry)
  exact d_in hu I hd rx fun s' I' => ⟨.bl _, H, I', rfl, q⟩
theorem op_notInDg {X : Cx} (hu : X.A.units + 1 < cLine) : OpR X (compareOp .NotIn) (fun x y H Q => ∃ (a : Addr) (o : Option V), y = .ref a ∧ DGet H a x o ∧ Q (.bl (!o.isSome)) H) := by
  intro pins s σ H x y v u Q I rx ry ⟨a, o, ey, hd, q⟩
  subst ey
  cases (show u = Value.ref a from ry)
  exact d_notIn hu I hd rx fun s' I' => ⟨.bl _, H, I', rfl, q⟩
end VA

-- FROM law_k18_rows_listed
namespace RL
open PySem L2 SX AddrMath VA PySem.W GR TxSet StX
/-! ## signs, hands, rows -/
def kD : Key → PyData
  | .inl i => .int i
  | .inr z => .str z
def okN (n : Int) : Key → Bool
  | .inl i => decide (1 ≤ i) && decide (i ≤ n)
  | .inr z => wrd z
abbrev okK : Key → Bool := okN 10
theorem okN_mono {n m : Int} (h : n ≤ m) {k : Key} (e : okN n k = true) : okN m k = true := by
  cases k with
  | inl i =>
    have e : (decide (1 ≤ i) && decide (i ≤ n)) = true := e
    rw [Bool.and_eq_true, decide_eq_true_eq, decide_eq_true_eq] at e
    show (decide (1 ≤ i) && decide (i ≤ m)) = true
    rw [decide_eq_true e.1, decide_eq_true (by omega)]
    rfl
  | inr z => exact e
theorem key_vx {K : Frag} {H : Hp} {k : Key} (h : okK k = true) : Vx K H (L2.kV k) (kD k) := by
  cases k with
  | inl i => exact .inl ⟨.int i, by show okD 8 (.int i) = true; rw [okD]⟩
  | inr z => exact str_vx h
/-- the greatest integer, a at least -/
def lastK : Int → List Key → Int
  | a, [] => a
  | a, .inl i :: r => lastK (if a < i then i else a) r
  | a, .inr _ :: r => lastK a r
theorem lastK_snoc : ∀ (a : Int) (l : List Key) (k : Key), lastK a (l ++ [k]) = match k with | .inl i => if lastK a l < i then i else lastK a l | .inr _ => lastK a l
  | a, [], .inl i => rfl
  | a, [], .inr z => rfl
  | a, .inl i :: r, k => lastK_snoc _ r k
  | a, .inr z :: r, k => lastK_snoc a r k
theorem lastK_le {n : Int} (hn : 0 ≤ n) : ∀ (a : Int) (l : List Key), (∀ k ∈ l, okN n k = true) → 0 ≤ a → a ≤ n → 0 ≤ lastK a l ∧ lastK a l ≤ n
  | a, [], _, h0, h1 => ⟨h0, h1⟩
  | a, .inl i :: r, h, h0, h1 => by
    have hi : (decide (1 ≤ i) && decide (i ≤ n)) = true := h (.inl i) (List.mem_cons_self ..)
    rw [Bool.and_eq_true, decide_eq_true_eq, decide_eq_true_eq] at hi
    show 0 ≤ lastK (if a < i then i else a) r ∧ lastK (if a < i then i else a) r ≤ n
    refine lastK_le hn _ r (fun k hk => h k (List.mem_cons_of_mem _ hk)) ?_ ?_ <;> split <;> omega
  | a, .inr z :: r, h, h0, h1 => lastK_le hn a r (fun k hk => h k (List.mem_cons_of_mem _ hk)) h0 h1
/-- what may stand behind signs -/
def nextS (ws : List Str) (ks : List Key) : List Key := ws.map Sum.inr ++ (List.range ((lastK 0 ks).toNat + 1)).map fun i : Nat => Sum.inl ((i : Int) + 1)
theorem nextS_ok {ws : List Str} {ks : List Key} {n : Int} (hn : 0 ≤ n) (ok : ∀ z ∈ ws, wrd z = true) (h : ∀ k ∈ ks, okN n k = true) : ∀ k ∈ nextS ws ks, okN (n + 1) k = true := fun k hk => by
  obtain ⟨b0, b1⟩ := lastK_le hn 0 ks h (Int.le_refl 0) hn
  rcases List.mem_append.mp hk with hk | hk
  · obtain ⟨z, hz, rfl⟩ := List.mem_map.mp hk
    exact ok z hz
  · obtain ⟨i, hi, rfl⟩ := List.mem_map.mp hk
    have hi := List.mem_range.mp hi
    show (decide (1 ≤ (i : Int) + 1) && decide ((i : Int) + 1 ≤ n + 1)) = true
    rw [decide_eq_true (by omega), decide_eq_true (by omega)]
    rfl
theorem nextS_len {ws : List Str} {ks : List Key} {n : Nat} (h : ∀ k ∈ ks, okN n k = true) : (nextS ws ks).length ≤ ws.length + n + 1 := by
  obtain ⟨b0, b1⟩ := lastK_le (by omega) 0 ks h (Int.le_refl 0) (by omega)
  unfold nextS
  rw [List.length_append, List.length_map, List.length_map, List.length_range]
  omega
def rTup (K : Frag) : List Key → V → Hp → Prop := fun h v H => ∃ a, v = .ref a ∧ SqT K H a (h.map L2.kV)
/-- all tuples of at most two signs -/
def shortL (ws : List Str) : List (List Key) := (nextS ws []).map fun k => [k]
def longL (ws : List Str) : List (List Key) := (shortL ws).flatMap fun h => (nextS ws h).map fun k => h ++ [k]
def handsL (ws : List Str) : List (List Key) := [[]] ++ (shortL ws ++ longL ws)
theorem pa_starK {X : Cx} {K : Frag} (hK : X.K = K) {e : Expr} {es : List Expr} {te : TE} {t : TA} {p : Pos} (he : PE X e te) (hr : PA X es t) (hs : starEach (.Starred e p :: es) X.env = (true, eval e X.env) :: starEach es X.env := by rfl) : PA X (.Starred e p :: es) (tStar K te t) := by
  subst hK
  exact pa_star he hr hs
theorem short_ok {ws : List Str} (ok : ∀ z ∈ ws, wrd z = true) : ∀ h ∈ shortL ws, ∀ k ∈ h, okN 1 k = true := fun h hh k hk => by
  obtain ⟨k', hk', rfl⟩ := List.mem_map.mp hh
  rw [List.mem_singleton.mp hk]
  exact nextS_ok (n := 0) (by decide) ok (fun _ z => by cases z) _ hk'
theorem short_len (ws : List Str) : (shortL ws).length ≤ ws.length + 1 := by
  unfold shortL
  rw [List.length_map]
  exact nextS_len (n := 0) fun _ z => by cases z
def sgV : Option Key → V
  | none => .non
  | some k => L2.kV k
abbrev Pr := List Key × Option Key
abbrev Row := Str × Pr
def rPair (K : Frag) : Pr → V → Hp → Prop := fun p v H => ∃ a t, v = .ref a ∧ SqT K H a [.ref t, sgV p.2] ∧ SqT K H t (p.1.map L2.kV)
def rRow (K : Frag) : Row → V → Hp → Prop := fun r v H => ∃ a t, v = .ref a ∧ SqT K H a [.str r.1, .ref t, sgV r.2.2] ∧ SqT K H t (r.2.1.map L2.kV)
def endsL (ws : List Str) : List Pr := (handsL ws).filterMap fun h => if (h.length : Int) < 2 then some (h, none) else none
def wholeL (ws : List Str) : List (List Key) := (handsL ws).filterMap fun h => if (h.length : Int) = 2 then some h else none
def behindL (ws : List Str) (h : List Key) : List Pr := ((nextS ws h).map some ++ [none]).map fun s => (h, s)
def pairsL (ws : List Str) : List Pr := endsL ws ++ (wholeL ws).flatMap (behindL ws)
def rowsL (ws sts : List Str) : List Row := sts.flatMap fun z => (pairsL ws).map fun p => (z, p)
theorem hands_ok {ws : List Str} (ok : ∀ z ∈ ws, wrd z = true) : ∀ h ∈ handsL ws, (∀ k ∈ h, okN 2 k = true) ∧ h.length ≤ 2 := fun h hh => by
  rcases List.mem_append.mp hh with hh | hh
  · rw [List.mem_singleton.mp hh]
    exact ⟨fun _ z => (by cases z), Nat.zero_le _⟩
  rcases List.mem_append.mp hh with hh | hh
  · refine ⟨fun k hk => okN_mono (by decide) (short_ok ok h hh k hk), ?_⟩
    obtain ⟨k', _, rfl⟩ := List.mem_map.mp hh
    show 1 ≤ 2
    decide
  · obtain ⟨h1, hh1, hh2⟩ := List.mem_flatMap.mp hh
    obtain ⟨k2, hk2, rfl⟩ := List.mem_map.mp hh2
    have o1 := short_ok ok h1 hh1
    refine ⟨fun k hk => ?_, ?_⟩
    · rcases List.mem_append.mp hk with hk | hk
      · exact okN_mono (by decide) (o1 k hk)
      · rw [List.mem_singleton.mp hk]
        exact nextS_ok (n := 1) (by decide) ok o1 _ hk2
    · obtain ⟨k', _, rfl⟩ := List.mem_map.mp hh1
      show 2 ≤ 2
      decide
theorem hands_len {ws : List Str} (ok : ∀ z ∈ ws, wrd z = true) (lw : ws.length ≤ 20) : (handsL ws).length ≤ 1 + (21 + (ws.length + 1) * (ws.length + 2)) := by
  have h1 := short_len ws
  have h2 := flat_len (shortL ws) (fun h => (nextS ws h).map fun k => h ++ [k]) (ws.length + 2) fun h hh => by
    rw [List.length_map]
    exact nextS_len (n := 1) (short_ok ok h hh)
  have h3 : (shortL ws).length * (ws.length + 2) ≤ (ws.length + 1) * (ws.length + 2) := Nat.mul_le_mul_right _ h1
  unfold handsL longL
  rw [List.length_append, List.length_append]
  show 1 + _ ≤ _
  omega
section
variable {K : Frag} {H H' : Hp} {D : Addr} {zs : List V}
theorem rTup_same {b : List Key} {y : V} (s : Same H H') (h : rTup K b y H) : rTup K b y H' := by
  obtain ⟨a, e, h⟩ := h
  exact ⟨a, e, same_seqT s h⟩
theorem rTup_but {b : List Key} {y : V} (hD : H D = some (.lst zs)) (k : But D H H') (h : rTup K b y H) : rTup K b y H' := by
  obtain ⟨a, e, h⟩ := h
  exact ⟨a, e, sqT_but hD k h⟩
theorem rPair_same {b : Pr} {y : V} (s : Same H H') (h : rPair K b y H) : rPair K b y H' := by
  obtain ⟨a, t, e, h1, h2⟩ := h
  exact ⟨a, t, e, same_seqT s h1, same_seqT s h2⟩
theorem rPair_but {b : Pr} {y : V} (hD : H D = some (.lst zs)) (k : But D H H') (h : rPair K b y H) : rPair K b y H' := by
  obtain ⟨a, t, e, h1, h2⟩ := h
  exact ⟨a, t, e, sqT_but hD k h1, sqT_but hD k h2⟩
theorem rRow_same {b : Row} {y : V} (s : Same H H') (h : rRow K b y H) : rRow K b y H' := by
  obtain ⟨a, t, e, h1, h2⟩ := h
  exact ⟨a, t, e, same_seqT s h1, same_seqT s h2⟩
theorem rRow_but {b : Row} {y : V} (hD : H D = some (.lst zs)) (k : But D H H') (h : rRow K b y H) : rRow K b y H' := by
  obtain ⟨a, t, e, h1, h2⟩ := h
  exact ⟨a, t, e, sqT_but hD k h1, sqT_but hD k h2⟩
end
theorem wd_wrd {s : Said} (ok : okS s) : ∀ z ∈ wordsL [s], wrd z = true := fun z hz => by
  unfold wordsL at hz
  rw [List.flatMap_singleton] at hz
  have hm := mem_strsD.mp hz
  have : isEntD (.str z) = true := by
    rcases List.mem_append.mp hm with h | h
    · exact List.all_eq_true.mp ok.2.1 _ h
    · exact List.all_eq_true.mp (begS_all ok) _ h
  unfold isEntD at this
  rw [Bool.or_eq_true] at this
  rcases this with h | h
  · exact h
  · cases h
theorem mem_wd {L : List Said} {z : Str} : z ∈ wordsL L ↔ ∃ s ∈ L, z ∈ wordsL [s] := by
  unfold wordsL
  simp only [List.mem_flatMap, List.mem_singleton, exists_eq_left]
theorem lim_few {ss : List Said} (h : limS ss = none) : ss.length ≤ 12 := by
  unfold limS at h
  by_cases c : 12 < ss.length
  · rw [if_pos c] at h
    cases h
  · omega
theorem call_lenK {X : Cx} {K : Frag} (h : X.K = K) : CallR X (.builtin "len") (fun xs H Q => ∃ (p : Addr) (ys : List V), xs = [.ref p] ∧ (SqL K H p ys ∨ SqT K H p ys) ∧ Q (.int ys.length) H) := by
  subst h
  exact call_len_seq
section
variable {P : Program} {w : World} {K : Frag} {mg : Str → Option Value} {base : Heap}
/-! ### next_signs: slots words 0, signs 1, last 2, sign 3 -/
abbrev sNextSigns : Stmt := top 46
theorem scNextSigns : FnScope ["words", "signs", "last", "sign"] ["words", "signs"] (defScope sNextSigns) := ⟨rfl, rfl, rfl, by decide +kernel, rfl, by decide +kernel, by decide +kernel⟩
def spNextS (K : Frag) : Sp := fun vs H Q _ => ∃ (wt st : Addr) (ws : List Str) (ks : List Key), vs = [.ref wt, .ref st] ∧ SqT K H wt (ws.map V.str) ∧ SqT K H st (ks.map L2.kV) ∧ (∀ k ∈ ks, okK k = true) ∧ ks.length ≤ 100 ∧ ws.length ≤ 100 ∧
  ∀ l H', H' l = some (.lst ((nextS ws ks).map L2.kV)) → H l = none → Same H H' → Q (.ref l) H'
theorem ok_next {f : Addr} {fd : FuncData} (F : Fun K "next_signs" "next_signs" sNextSigns f fd) (B : Blt mg) (is_integer : Own P w K mg base CX0 1 "is_integer" ["value"] (spIsInt K)) : FnOk P w K mg base CX0 2 f fd ["words", "signs"] (spNextS K) := by
  refine F.ok scNextSigns (fun vs H Q E h => ?_) (fun cdv A outer s0 H vs Q E hr h => ?_)
  · obtain ⟨wt, st, ws, ks, rfl, _⟩ := h
    rfl
  · obtain ⟨wt, st, ws, ks, rfl, hw, hs, ok, lk, lw, q⟩ := h
    refine ⟨_, (pss_cons (ps_set (i := 2) scNextSigns.nd rfl (Or.inl rfl) pe_int)
      (pss_cons (ps_for PassesOwn.never rfl (pi_seq (pv 1)) (pg_name (i := 3) scNextSigns.nd rfl (Or.inl rfl))
        (pss_one (ps_if (PW.pt (pw_and (pt_val (pe_call is_integer.g (hr.mono (by decide)) rfl is_integer.mg is_integer.kp is_integer.b .nil pass0 (pa_cons (pv 3) pa_nil))) (pw_and1 (pt_cmpR op_gt (pv 3) (pv 2) (nomark _))))) (pss_one (ps_set (i := 2) scNextSigns.nd rfl (Or.inl rfl) (pv 3))) pss_nil)))
      (pss_one (ps_ret (pe_op op_cat (pe_callTy call_lstA (by rfl) B.list_ (by decide +kernel) (pa_cons (pv 0) pa_nil)) (pe_listRg rfl (by rfl) B.list_ (prg_2 (by rfl) B.range_ pe_int (pe_op op_add (pv 2) pe_int)))))))), ?_⟩
    refine ⟨_, rfl, st, rfl, .inr ⟨⟨_, hs⟩, for_it (walk_tup (xs := ks.map L2.kV)) (fun i σ G => ∃ o3 : Option V, σ = [some (.ref wt), some (.ref st), some (.int (lastK 0 (ks.take i))), o3] ∧ G = H) ⟨none, rfl, rfl⟩ (fun i σ G _ h => by obtain ⟨_, _, rfl⟩ := h; exact hs) ?_ ?_⟩⟩
    · rintro i x σ G G' hi ⟨o3, rfl, rfl⟩ ⟨rfl, hx⟩
      rw [List.length_map] at hi
      have ek := List.getElem?_eq_getElem hi
      rw [List.getElem?_map, ek] at hx
      cases hx
      have hok := ok _ (List.getElem_mem hi)
      have etk : ks.take (i + 1) = ks.take i ++ [ks[i]] := by rw [List.take_add_one, ek]; rfl
      refine ⟨_, rfl, _, _, rfl, key_vx hok, _, rfl, ?_⟩
      rw [etk, lastK_snoc]
      cases e : ks[i] with
      | inr z => exact ⟨_, rfl, rfl⟩
      | inl j =>
        refine ⟨_, rfl, _, rfl, _, _, rfl, rfl, _, rfl, if_is (fun c => ?_) (fun c => ?_)⟩
        · refine ⟨_, rfl, some (.int j), ?_, rfl⟩
          show _ = [some (V.ref wt), some (V.ref st), some (V.int (if lastK 0 (ks.take i) < j then j else lastK 0 (ks.take i))), _]
          rw [if_pos (of_decide_eq_true c)]
          rfl
        · refine ⟨some (.int j), ?_, rfl⟩
          show _ = [some (V.ref wt), some (V.ref st), some (V.int (if lastK 0 (ks.take i) < j then j else lastK 0 (ks.take i))), _]
          rw [if_neg (of_decide_eq_false c)]
          rfl
    · rintro σ G ⟨o3, rfl, rfl⟩
      rw [List.length_map, List.take_length]
      obtain ⟨b0, b1⟩ := lastK_le (n := 10) (by decide) 0 ks ok (by decide) (by decide)
      refine ⟨_, rfl, wt, _, rfl, .inr hw, fun l1 n1 => ?_⟩
      have s1 := same_new (o := .lst (ws.map V.str)) n1
      have u1 : (upd G l1 (.lst (ws.map V.str))) l1 = some (.lst (ws.map V.str)) := upd_same
      generalize upd G l1 (.lst (ws.map V.str)) = H1 at s1 u1 ⊢
      refine ⟨_, rfl, _, _, rfl, rfl, 1, _, rfl, rfl, .of_le (by decide) (by omega) (by decide) (by omega), fun l2 n2 => ?_⟩
      have s2 := s1.trans (same_new (o := .lst (rgV 1 (lastK 0 ks + 2))) n2)
      have u2 : (upd H1 l2 (.lst (rgV 1 (lastK 0 ks + 2)))) l2 = some (.lst (rgV 1 (lastK 0 ks + 2))) := upd_same
      have u12 := same_new (o := .lst (rgV 1 (lastK 0 ks + 2))) n2 _ _ u1
      generalize upd H1 l2 (.lst (rgV 1 (lastK 0 ks + 2))) = H2 at s2 u2 u12 ⊢
      have el : ws.map V.str ++ rgV 1 (lastK 0 ks + 2) = (nextS ws ks).map L2.kV := by
        unfold nextS rgV
        rw [List.map_append, List.map_map, List.map_map, show (lastK 0 ks + 2 - 1).toNat = (lastK 0 ks).toNat + 1 by omega]
        congr 1
        refine List.map_congr_left fun i _ => ?_
        show V.int (1 + (i : Int)) = V.int ((i : Int) + 1)
        rw [Int.add_comm]
      refine ⟨l1, l2, _, _, rfl, rfl, u12, u2, ?_, fun l3 n3 => ?_⟩
      · refine size_ok ?_
        rw [List.length_map, rgV_length]
        omega
      rw [el]
      exact q l3 _ upd_same (s2.free n3) (s2.trans (same_new n3))
/-! ### hands: slots words 0, sign 1, short 2, hand 3, long 4 -/
abbrev sHands : Stmt := top 47
abbrev NHa : List Str := ["words", "sign", "short", "hand", "long"]
theorem scHands : FnScope NHa ["words"] (defScope sHands) := ⟨rfl, rfl, rfl, by decide +kernel, rfl, by decide +kernel, by decide +kernel⟩
def spHands (K : Frag) : Sp := fun vs H Q _ => ∃ (wt : Addr) (ws : List Str), vs = [.ref wt] ∧ SqT K H wt (ws.map V.str) ∧ (∀ z ∈ ws, wrd z = true) ∧ ws.length ≤ 20 ∧
  ∀ l xs H', H' l = some (.lst xs) → AllR (rTup K) (handsL ws) xs H' → Same H H' → Q (.ref l) H'
theorem ok_hands {f : Addr} {fd : FuncData} (F : Fun K "hands" "hands" sHands f fd) (B : Blt mg) (next_signs : Own P w K mg base CX0 2 "next_signs" ["words", "signs"] (spNextS K)) : FnOk P w K mg base CX0 4 f fd ["words"] (spHands K) := by
  refine F.ok scHands (fun vs H Q E h => ?_) (fun cdv A outer s0 H vs Q E hr h => ?_)
  · obtain ⟨wt, ws, rfl, _⟩ := h
    rfl
  · obtain ⟨wt, ws, rfl, hw, ok, lw, q⟩ := h
    refine ⟨_, (pss_cons (ps_setLc (i := 2) (own := [("sign", 1)]) (g := gName 1) (tt := tYes) rfl scHands.nd rfl rfl (sw_true rfl rfl rfl (by decide +kernel)) (pi_seq (pe_call next_signs.g (hr.mono (by decide)) rfl next_signs.mg next_signs.kp next_signs.b .nil pass0 (pa_cons (pv 0) (pa_cons (pe_tup pa_nil) pa_nil))))
          (blkOk_by (own := [("sign", 1)]) (N := NHa) (sc := defScope sHands) (by decide +kernel))
          (fun _ _ _ _ _ => (pg_name (i := 1) scHands.nd rfl (Or.inl rfl))) (fun _ _ _ _ _ => pts_nil)
          (fun _ _ _ _ _ => (pe_tup (pa_cons (pv 1) pa_nil))))
      (pss_cons (ps_setLc2 (i := 4) (own := [("hand", 3), ("sign", 1)]) (vs1 := [1]) (g := gName 3) (tt := tYes) (g1 := gName 1) (tt1 := tYes) rfl scHands.nd rfl rfl (sw_true rfl rfl rfl (by decide +kernel)) (pi_seq (pv 2))
          (blkOk_by (own := [("hand", 3), ("sign", 1)]) (N := NHa) (sc := defScope sHands) (by decide +kernel)) (by decide)
          (fun _ _ _ _ _ => (pg_name (i := 3) scHands.nd rfl (Or.inl rfl))) (fun _ _ _ _ _ => pts_nil)
          (fun _ _ _ _ _ => (pi_seqK (K := K) rfl (pe_call next_signs.g (hr.mono (by decide)) rfl next_signs.mg next_signs.kp next_signs.b .nil pass0 (pa_cons (pv 0) (pa_cons (pv 3) pa_nil)))))
          (fun _ _ _ _ _ => (pg_name (i := 1) scHands.nd rfl (Or.inl rfl))) (fun _ _ _ _ _ => pts_nil)
          (fun _ _ _ _ _ => (pe_tup (pa_starK (K := K) rfl (pv 3) (pa_cons (pv 1) pa_nil)))))
      (pss_one (ps_ret (pe_lst (pa_cons (pe_tup pa_nil) (pa_star (pv 2) (pa_star (pv 4) pa_nil)))))))), ?_⟩
    have st : ∀ (b : List Key) (y : V) (H H' : Hp), Same H H' → rTup K b y H → rTup K b y H' := fun b y H H' s h => by
      obtain ⟨a, e, h⟩ := h
      exact ⟨a, e, same_seqT s h⟩
    have sb : ∀ (D : Addr) (b : List Key) (y : V) (H H' : Hp) (zs : List V), H D = some (.lst zs) → But D H H' → rTup K b y H → rTup K b y H' := fun D b y H H' zs hD k h => by
      obtain ⟨a, e, h⟩ := h
      exact ⟨a, e, sqT_but hD k h⟩
    refine ⟨_, rfl, Nat.zero_le _, fun p0 n0 => ?_⟩
    have s0' := same_new (o := .tup []) n0
    have u0 : (upd H p0 (.tup [])) p0 = some (.tup []) := upd_same
    generalize upd H p0 (.tup []) = H0 at s0' u0 ⊢
    have hw0 := same_seqT s0' hw
    refine ⟨wt, p0, ws, [], rfl, hw0, .inl (.inl u0), fun k hk => (by cases hk), by decide, by omega, fun l1 H1 h1 n1 s1 => ?_⟩
    refine seq_flt (.inl (.inl (.inl h1))) (by rw [List.length_map]; have := nextS_len (ws := ws) (ks := []) (n := 0) (fun k hk => (by cases hk)); omega) (fun i => (nextS ws [])[i]?.map fun k => [k]) (rTup K) st (fun D _ => sb D) ?hw1 (fun i x hx G sG => ?_) fun D1 H2 ys nD1 hD1 hr1 s2 => ?_
    case hw1 => intro _; rfl
    · rw [List.getElem?_map] at hx
      cases ek : (nextS ws [])[i]? with
      | none =>
        rw [ek] at hx
        cases hx
      | some k =>
        rw [ek] at hx
        cases hx
        refine ⟨fun R hR => ?_, fun e he G2 s2 R hR => ?_⟩
        · exact hR G (Same.refl G)
        · cases he
          exact ⟨_, rfl, by show 1 ≤ sizeLine; decide, fun t nt => hR _ _ (same_new nt) ⟨t, rfl, .inl (.inl upd_same)⟩⟩
    rw [List.length_map, range_mapO] at hr1
    have hw2 := same_seqT (s1.trans s2) hw0
    have few1 : ys.length = (shortL ws).length := hr1.1
    refine ⟨_, rfl, ?_⟩
    have sl := short_len ws
    refine seq2_rel (.inl (.inl (.inl hD1))) (by omega) (fun i => ((shortL ws)[i]?.map fun h => (nextS ws h).map fun k => h ++ [k]).getD []) (fun i => ?_) (rTup K) st (fun D _ => sb D) ?hw2 (fun D2 nD2 i x hx G sG nG R hR => ?_) fun D2 H3 zs nD2 hD2 hr2 s3 => ?_
    case hw2 => intro _; rfl
    · cases e : (shortL ws)[i]? with
      | none => exact Nat.zero_le _
      | some h =>
        show ((nextS ws h).map fun k => h ++ [k]).length ≤ 1000
        rw [List.length_map]
        have := nextS_len (ws := ws) (ks := h) (n := 1) (short_ok ok h (List.mem_of_getElem? e))
        omega
    · have hi : i < (shortL ws).length := by rw [← few1]; exact idx_lt hx
      have eh := List.getElem?_eq_getElem hi
      have okh := short_ok ok _ (List.getElem_mem hi)
      obtain ⟨ha, rfl, hT⟩ := hr1.2 i _ _ eh hx
      have lh : (shortL ws)[i].length = 1 := by
        obtain ⟨k', _, e⟩ := List.mem_map.mp (List.getElem_mem hi)
        rw [← e]
        rfl
      generalize (shortL ws)[i] = h at eh okh hT lh
      refine ⟨_, rfl, _, rfl, wt, ha, ws, h, rfl, same_seqT sG hw2, same_seqT sG hT, fun k hk => okN_mono (by decide) (okh k hk), by omega, by omega, fun l2 G2 h2 n2 s2' => ?_⟩
      refine hR l2 _ G2 (.inl (.inl (.inl h2))) (fun z => nG (by rw [← z]; exact n2)) ?_ s2' fun G3 s13 b23 k y hy R' hR' => ?_
      · rw [eh]
        show _ = ((nextS ws h).map fun k => h ++ [k]).length
        rw [List.length_map, List.length_map]
      · rw [List.getElem?_map] at hy
        cases ek : (nextS ws h)[k]? with
        | none =>
          rw [ek] at hy
          cases hy
        | some kk =>
          rw [ek] at hy
          cases hy
          refine ⟨rfl, _, rfl, ha, _, rfl, .inl (same_seqT s13 hT), _, rfl, ?_, fun t nt => hR' _ _ (same_new nt) fun e he => ?_⟩
          · refine size_ok ?_
            rw [List.length_append, List.length_map, lh]
            show 1 + 1 ≤ 1000000
            decide
          · rw [eh] at he
            have he : ((nextS ws h).map fun k => h ++ [k])[k]? = some e := he
            rw [List.getElem?_map, ek] at he
            cases he
            refine ⟨t, rfl, .inl (.inl ?_)⟩
            rw [List.map_append]
            exact upd_same
    have e2 := range_flat (fun h => (nextS ws h).map fun k => h ++ [k]) (shortL ws)
    rw [few1, e2] at hr2
    refine ⟨Nat.zero_le _, fun p4 n4 => ?_⟩
    have s4 := same_new (o := .tup []) n4
    have u4 : (upd H3 p4 (.tup [])) p4 = some (.tup []) := upd_same
    generalize upd H3 p4 (.tup []) = H4 at s4 u4 ⊢
    have r1 := (hr1.imp fun b y => st b y _ _ s3).imp fun b y => st b y _ _ s4
    have r2 := hr2.imp fun b y => st b y _ _ s4
    have r0 : AllR (rTup K) [[]] [.ref p4] H4 := AllR.one ⟨p4, rfl, .inl (.inl u4)⟩
    have ra := r0.app (r1.app r2)
    refine ⟨_, rfl, D1, ys, rfl, .inr (.inl (.inl (s4 _ _ (s3 _ _ hD1)))), _, rfl, D2, zs, rfl, .inr (.inl (.inl (s4 _ _ hD2))), ?_⟩
    simp only [tNil]
    refine ⟨?_, fun l nl => ?_⟩
    · have l2 := hr2.1
      have fl2 : ((shortL ws).flatMap fun h => (nextS ws h).map fun k => h ++ [k]).length ≤ 1000 := by
        refine Nat.le_trans (flat_len _ _ 25 fun h hh => ?_) ?_
        · rw [List.length_map]
          have := nextS_len (ws := ws) (ks := h) (n := 1) (short_ok ok h hh)
          omega
        · have : (shortL ws).length ≤ 21 := by omega
          omega
      refine size_ok ?_
      rw [List.length_cons, List.length_append, List.append_nil]
      omega
    · rw [List.append_nil]
      have s5 := same_new (o := .lst (.ref p4 :: (ys ++ zs))) nl
      exact q l _ _ upd_same (ra.imp fun b y => st b y _ _ s5) (((((s0'.trans s1).trans s2).trans s3).trans s4).trans s5)
/-! ### rows: slots book 0, words 1, hand 2, ends 3, whole 4, sign 5, pairs 6, rule 7, starts 8, state 9 -/
abbrev sRows : Stmt := top 48
abbrev NRo : List Str := ["book", "words", "hand", "ends", "whole", "sign", "pairs", "rule", "starts", "state"]
theorem scRows : FnScope NRo ["book"] (defScope sRows) := ⟨rfl, rfl, rfl, by decide +kernel, rfl, by decide +kernel, by decide +kernel⟩
def spRows (K : Frag) (C CB : Addr) : Sp := fun vs H Q _ => ∃ (b t : Addr) (ps : List Addr) (ss : List Said), vs = [.ref b] ∧ BookAt K C CB H b t ps ss ∧ limS ss = none ∧
  ∀ (ws sts : List Str) (l : Addr) (xs : List V) (H' : Hp), PyProof.Rows.sortedS ws = true → ws.Nodup → (∀ z, z ∈ ws ↔ z ∈ wordsL ss) → PyProof.Rows.sortedS sts = true → sts.Nodup → (∀ z, z ∈ sts ↔ z ∈ ss.map (·.1)) →
    H' l = some (.lst xs) → AllR (rRow K) (rowsL ws sts) xs H' → Same H H' → H l = none → Q (.ref l) H'
theorem ok_rows {f C CB pW fW pB gB : Addr} {fd fdW fdB : FuncData} {u2 : Tok} (F : Fun K "rows" "rows" sRows f fd) (B : Blt mg) (T : RTxt K mg C) (TB : BTxt K mg CB) (mH : mg "HAND" = some (.int 2 u2)) (hands : Own P w K mg base CX0 4 "hands" ["words"] (spHands K)) (next_signs : Own P w K mg base CX0 2 "next_signs" ["words", "signs"] (spNextS K))
    (qW : PropOf K CB "words" pW fW) (GW : FnOk P w K mg base CX0 4 fW fdW ["self"] (spBNames K C CB wordsL)) (bW : Binds K fdW ["self"] [])
    (qB : PropOf K CB "rules" pB gB) (GB : FnOk P w K mg base CX0 1 gB fdB ["self"] (spGet CB nRules)) (bB : Binds K fdB ["self"] [])
    (rstate : OwnP P w K mg base C "state" (spGet C nState)) : FnOk P w K mg base CX0 6 f fd ["book"] (spRows K C CB) := by
  refine F.ok scRows (fun vs H Q E h => ?_) (fun cdv A outer s0 H vs Q E hr h => ?_)
  · obtain ⟨b, t, ps, ss, rfl, _⟩ := h
    rfl
  · obtain ⟨b, t, ps, ss, rfl, hb, lim, q⟩ := h
    refine ⟨_, (pss_cons (ps_set (i := 1) scRows.nd rfl (Or.inr rfl) (pe_prop (pv 0) TB.cl qW GW (hr.mono (by decide)) bW .nil pass0 (by rfl)))
      (pss_cons (ps_setLc (i := 3) (own := [("hand", 2)]) (g := gName 2) rfl scRows.nd rfl rfl (sw_true rfl rfl rfl (by decide +kernel)) (pi_seq (pe_call hands.g (hr.mono (by decide)) rfl hands.mg hands.kp hands.b .nil pass0 (pa_cons (pv 1) pa_nil)))
          (blkOk_by (own := [("hand", 2)]) (N := NRo) (sc := defScope sRows) (by decide +kernel))
          (fun _ _ _ _ _ => (pg_name (i := 2) scRows.nd rfl (Or.inl rfl))) (fun _ _ _ _ _ => pts_one (pt_cmpR op_lt (pe_callB (call_lenK (K := K) rfl) (by rfl) B.len_ (by decide +kernel) (pa_cons (pv 2) pa_nil)) (pe_glob (v := .int 2) (by rfl) mH ⟨_, rfl⟩) (nomark _)))
          (fun _ _ _ _ _ => (pe_tup (pa_cons (pv 2) (pa_cons pe_non pa_nil)))))
      (pss_cons (ps_setLc (i := 4) (own := [("hand", 2)]) (g := gName 2) rfl scRows.nd rfl rfl (sw_true rfl rfl rfl (by decide +kernel)) (pi_seq (pe_call hands.g (hr.mono (by decide)) rfl hands.mg hands.kp hands.b .nil pass0 (pa_cons (pv 1) pa_nil)))
          (blkOk_by (own := [("hand", 2)]) (N := NRo) (sc := defScope sRows) (by decide +kernel))
          (fun _ _ _ _ _ => (pg_name (i := 2) scRows.nd rfl (Or.inl rfl))) (fun _ _ _ _ _ => pts_one (pt_cmpR op_eq (pe_callB (call_lenK (K := K) rfl) (by rfl) B.len_ (by decide +kernel) (pa_cons (pv 2) pa_nil)) (pe_glob (v := .int 2) (by rfl) mH ⟨_, rfl⟩) (nomark _)))
          (fun _ _ _ _ _ => (pv 2)))
      (pss_cons (ps_set (i := 6) scRows.nd rfl (Or.inr rfl) (pe_op op_cat (pv 3) (pe_lc2 (own := [("hand", 2), ("sign", 5)]) (vs1 := [5]) (g := gName 2) (tt := tYes) (g1 := gName 5) (tt1 := tYes) rfl scRows.nd (pi_seq (pv 4))
          (blkOk_by (own := [("hand", 2), ("sign", 5)]) (N := NRo) (sc := defScope sRows) (by decide +kernel)) (by decide)
          (fun _ _ _ _ _ => (pg_name (i := 2) scRows.nd rfl (Or.inl rfl))) (fun _ _ _ _ _ => pts_nil)
          (fun _ _ _ _ _ => (pi_seqK (K := K) rfl (pe_lst (pa_starK (K := K) rfl (pe_call next_signs.g (hr.mono (by decide)) rfl next_signs.mg next_signs.kp next_signs.b .nil pass0 (pa_cons (pv 1) (pa_cons (pv 2) pa_nil))) (pa_cons pe_non pa_nil)))))
          (fun _ _ _ _ _ => (pg_name (i := 5) scRows.nd rfl (Or.inl rfl))) (fun _ _ _ _ _ => pts_nil)
          (fun _ _ _ _ _ => (pe_tup (pa_cons (pv 2) (pa_cons (pv 5) pa_nil)))))))
      (pss_cons (ps_set (i := 8) scRows.nd rfl (Or.inl rfl) (pe_srtSet rfl (by rfl) B.sorted_ (by rfl) B.set_ (pe_lc (own := [("rule", 7)]) (g := gName 7) (tt := tYes) rfl scRows.nd (pi_seq (pe_prop (pv 0) TB.cl qB GB (hr.mono (by decide)) bB .nil pass0 (by rfl)))
          (blkOk_by (own := [("rule", 7)]) (N := NRo) (sc := defScope sRows) (by decide +kernel))
          (fun _ _ _ _ _ => (pg_name (i := 7) scRows.nd rfl (Or.inl rfl))) (fun _ _ _ _ _ => pts_nil)
          (fun _ _ _ _ _ => (pe_prop (pv 7) T.cl rstate.prop rstate.ok (hr.mono (by decide)) rstate.b .nil pass0 (by rfl))))))
      (pss_one (ps_ret (pe_lc2 (own := [("state", 9), ("hand", 2), ("sign", 5)]) (vs1 := [2, 5]) (g := gName 9) (tt := tYes) (tt1 := tYes) rfl scRows.nd (pi_seq (pv 8))
          (blkOk_by (own := [("state", 9), ("hand", 2), ("sign", 5)]) (N := NRo) (sc := defScope sRows) (by decide +kernel)) (by decide)
          (fun _ _ _ _ _ => (pg_name (i := 9) scRows.nd rfl (Or.inl rfl))) (fun _ _ _ _ _ => pts_nil)
          (fun _ _ _ _ _ => (pi_seqK (K := K) rfl (pv 6)))
          (fun _ _ _ _ _ => (pg_tupK (K := K) rfl (n := 2) rfl (pgs_cons (pg_name (i := 2) scRows.nd rfl (Or.inl rfl)) (pgs_cons (pg_name (i := 5) scRows.nd rfl (Or.inl rfl)) pgs_nil)))) (fun _ _ _ _ _ => pts_nil)
          (fun _ _ _ _ _ => (pe_tup (pa_cons (pv 9) (pa_cons (pv 2) (pa_cons (pv 5) pa_nil))))))))))))), ?_⟩
    have few12 := lim_few lim
    obtain ⟨lim1, lim2⟩ := lim_six lim
    obtain ⟨⟨dx, hbi⟩, ht, hR⟩ := id hb
    refine ⟨_, rfl, b, dx, _, rfl, hbi, b, t, ps, ss, rfl, hb, by omega, fun ws wt H1 w1 w2 w3 hwt s1 => ?_⟩
    have lws : ws.length ≤ 6 := by rw [dd_len w2 w3]; exact lim2
    have okW : ∀ z ∈ ws, wrd z = true := fun z hz => by
      obtain ⟨s, hs, h⟩ := mem_wd.mp ((w3 z).mp hz)
      exact wd_wrd (hR.oks s hs) z h
    have lh := hands_len okW (by omega)
    have lh' : (handsL ws).length ≤ 78 := by
      have : (ws.length + 1) * (ws.length + 2) ≤ 7 * 8 := Nat.mul_le_mul (by omega) (by omega)
      omega
    refine ⟨_, rfl, wt, ws, rfl, hwt, okW, by omega, fun l1 xs1 H2 h1 r1 s2 => ?_⟩
    have lx1 := r1.1
    -- ends
    refine seq_flt (.inl (.inl (.inl h1))) (by omega) (fun i => (handsL ws)[i]?.bind fun h => if (h.length : Int) < 2 then some (h, none) else none) (rPair K) (fun b y H H' => rPair_same) (fun D _ b y H H' zs => rPair_but) ?hw1 (fun i x hx G sG => ?_) fun D1 H3 ys1 nD1 hD1 hr1 s3 => ?_
    case hw1 => intro _; rfl
    · have hi : i < (handsL ws).length := by rw [← lx1]; exact idx_lt hx
      have eh := List.getElem?_eq_getElem hi
      obtain ⟨ha, rfl, hT⟩ := r1.2 i _ _ eh hx
      generalize (handsL ws)[i] = h at eh hT
      refine ⟨fun R hR' => ?_, fun e he G2 s2' R hR' => ?_⟩
      · have hR2 := hR' G (Same.refl G)
        rw [eh] at hR2
        refine ⟨_, rfl, ha, _, rfl, .inr (same_seqT sG hT), _, _, rfl, rfl, _, rfl, ?_⟩
        rw [List.length_map]
        have e9 : ((some h).bind fun h : List Key => if (h.length : Int) < 2 then some ((h, none) : Pr) else none).isSome = decide ((h.length : Int) < 2) := by
          show (if (h.length : Int) < 2 then some ((h, none) : Pr) else none).isSome = _
          by_cases c : (h.length : Int) < 2
          · rw [if_pos c, decide_eq_true c]
            rfl
          · rw [if_neg c, decide_eq_false c]
            rfl
        rw [e9] at hR2
        exact hR2
      · rw [eh] at he
        have he : (if (h.length : Int) < 2 then some ((h, none) : Pr) else none) = some e := he
        by_cases c : (h.length : Int) < 2
        · rw [if_pos c] at he
          cases he
          refine ⟨_, rfl, by show 2 ≤ sizeLine; decide, fun t nt => hR' _ _ (same_new nt) ⟨t, ha, rfl, .inl (.inl upd_same), same_seqT ((sG.trans s2').trans (same_new nt)) hT⟩⟩
        · rw [if_neg c] at he
          cases he
    rw [lx1, range_fm] at hr1
    have hr1 : AllR (rPair K) (endsL ws) ys1 H3 := hr1
    have hwt3 := same_seqT (s2.trans s3) hwt
    -- whole
    refine ⟨_, rfl, wt, ws, rfl, hwt3, okW, by omega, fun l2 xs2 H4 h2 r2 s4 => ?_⟩
    have lx2 := r2.1
    refine seq_flt (.inl (.inl (.inl h2))) (by omega) (fun i => (handsL ws)[i]?.bind fun h => if (h.length : Int) = 2 then some h else none) (rTup K) (fun b y H H' => rTup_same) (fun D _ b y H H' zs => rTup_but) ?hw2 (fun i x hx G sG => ?_) fun D2 H5 ys2 nD2 hD2 hr2 s5 => ?_
    case hw2 => intro _; rfl
    · have hi : i < (handsL ws).length := by rw [← lx2]; exact idx_lt hx
      have eh := List.getElem?_eq_getElem hi
      obtain ⟨ha, rfl, hT⟩ := r2.2 i _ _ eh hx
      generalize (handsL ws)[i] = h at eh hT
      refine ⟨fun R hR' => ?_, fun e he G2 s2' R hR' => ?_⟩
      · have hR2 := hR' G (Same.refl G)
        rw [eh] at hR2
        refine ⟨_, rfl, ha, _, rfl, .inr (same_seqT sG hT), rfl, _, rfl, ?_⟩
        rw [List.length_map]
        have e9 : ((some h).bind fun h : List Key => if (h.length : Int) = 2 then some h else none).isSome = decide (V.int (h.length : Int) = V.int 2) := by
          show (if (h.length : Int) = 2 then some h else none).isSome = _
          by_cases c : (h.length : Int) = 2
          · rw [if_pos c, c, decide_eq_true rfl]
            rfl
          · rw [if_neg c, decide_eq_false fun z => c (by injection z)]
            rfl
        rw [e9] at hR2
        exact hR2
      · rw [eh] at he
        have he : (if (h.length : Int) = 2 then some h else none) = some e := he
        by_cases c : (h.length : Int) = 2
        · rw [if_pos c] at he
          cases he
          exact ⟨_, rfl, hR' _ _ (Same.refl _) ⟨ha, rfl, same_seqT (sG.trans s2') hT⟩⟩
        · rw [if_neg c] at he
          cases he
    rw [lx2, range_fm] at hr2
    have hr2 : AllR (rTup K) (wholeL ws) ys2 H5 := hr2
    have lx2' := hr2.1
    have lwh : (wholeL ws).length ≤ (handsL ws).length := List.length_filterMap_le _ _
    have hwt5 := same_seqT (s4.trans s5) hwt3
    have okH : ∀ h ∈ wholeL ws, (∀ k ∈ h, okN 2 k = true) ∧ h.length ≤ 2 := fun h hh => by
      obtain ⟨h', hm, e⟩ := List.mem_filterMap.mp hh
      by_cases c : (h'.length : Int) = 2
      · rw [if_pos c] at e
        cases e
        exact hands_ok okW _ hm
      · rw [if_neg c] at e
        cases e
    -- pairs
    refine ⟨_, rfl, _, rfl, ?_⟩
    refine seq2_rel (.inl (.inl (.inl hD2))) (by omega) (fun i => ((wholeL ws)[i]?.map (behindL ws)).getD []) (fun i => ?_) (rPair K) (fun b y H H' => rPair_same) (fun D _ b y H H' zs => rPair_but) ?hw3 (fun D3 nD3 i x hx G sG nG R hR' => ?_) fun D3 H6 ys3 nD3 hD3 hr3 s6 => ?_
    case hw3 => intro _; rfl
    · cases e : (wholeL ws)[i]? with
      | none => exact Nat.zero_le _
      | some h =>
        show (((nextS ws h).map some ++ [none]).map fun s => ((h, s) : Pr)).length ≤ 1000
        rw [List.length_map, List.length_append, List.length_map]
        have := nextS_len (ws := ws) (ks := h) (n := 2) (okH h (List.mem_of_getElem? e)).1
        show _ + 1 ≤ 1000
        omega
    · have hi : i < (wholeL ws).length := by rw [← lx2']; exact idx_lt hx
      have eh := List.getElem?_eq_getElem hi
      have okh := okH _ (List.getElem_mem hi)
      obtain ⟨ha, rfl, hT⟩ := hr2.2 i _ _ eh hx
      generalize (wholeL ws)[i] = h at eh hT okh
      have ln := nextS_len (ws := ws) (ks := h) (n := 2) okh.1
      refine ⟨_, rfl, _, rfl, wt, ha, ws, h, rfl, same_seqT sG hwt5, same_seqT sG hT, fun k hk => okN_mono (by decide) (okh.1 k hk), by have := okh.2; omega, by omega, fun l3 G2 h3 n3 s3' => ?_⟩
      refine ⟨l3, _, rfl, .inr (.inl (.inl h3)), ?_⟩
      have ey : (nextS ws h).map L2.kV ++ [V.non] = ((nextS ws h).map some ++ [none]).map sgV := by
        rw [List.map_append, List.map_map]
        rfl
      show ((nextS ws h).map L2.kV ++ [V.non]).length ≤ sizeLine ∧ _
      refine ⟨?_, fun l4 n4 => ?_⟩
      · refine size_ok ?_
        rw [List.length_append, List.length_map]
        show _ + 1 ≤ 1000000
        omega
      rw [ey]
      have s4' := same_new (o := .lst (((nextS ws h).map some ++ [none]).map sgV)) n4
      refine hR' l4 _ _ (.inl (.inl (.inl upd_same))) (fun z => nG (by rw [← z]; exact s3'.free n4)) ?_ (s3'.trans s4') fun G3 s13 b23 k y hy R' hR2 => ?_
      · rw [eh]
        show _ = (((nextS ws h).map some ++ [none]).map fun s => ((h, s) : Pr)).length
        rw [List.length_map, List.length_map]
      · rw [List.getElem?_map] at hy
        cases ek : ((nextS ws h).map some ++ [none])[k]? with
        | none =>
          rw [ek] at hy
          cases hy
        | some kk =>
          rw [ek] at hy
          cases hy
          refine ⟨rfl, _, rfl, _, rfl, by show 2 ≤ sizeLine; decide, fun t nt => hR2 _ _ (same_new nt) fun e he => ?_⟩
          rw [eh] at he
          have he : (((nextS ws h).map some ++ [none]).map fun s => ((h, s) : Pr))[k]? = some e := he
          rw [List.getElem?_map, ek] at he
          cases he
          exact ⟨t, ha, rfl, .inl (.inl upd_same), same_seqT (s13.trans (same_new nt)) hT⟩
    rw [lx2', range_flat] at hr3
    have lp1 := hr1.1
    have lp3 := hr3.1
    have le1 : (endsL ws).length ≤ (handsL ws).length := List.length_filterMap_le _ _
    have le3 := flat_len (wholeL ws) (behindL ws) 10 fun h hh => by
      unfold behindL
      rw [List.length_map, List.length_append, List.length_map]
      have := nextS_len (ws := ws) (ks := h) (n := 2) (okH h hh).1
      show _ + 1 ≤ 10
      omega
    have s36 := (s4.trans s5).trans s6
    have D1_6 := s36 _ _ hD1
    have hrP : AllR (rPair K) (pairsL ws) (ys1 ++ ys3) H6 := (hr1.imp fun b y => rPair_same s36).app hr3
    refine ⟨D1, D3, _, _, rfl, rfl, D1_6, hD3, ?_, fun lp np => ?_⟩
    · refine size_ok ?_
      omega
    have s7 := same_new (o := .lst (ys1 ++ ys3)) np
    have u7 : (upd H6 lp (.lst (ys1 ++ ys3))) lp = some (.lst (ys1 ++ ys3)) := upd_same
    generalize upd H6 lp (.lst (ys1 ++ ys3)) = H7 at s7 u7 ⊢
    have hrP7 := hrP.imp fun b y => rPair_same s7
    have s17 := ((s2.trans s3).trans s36).trans s7
    have sA := s1.trans s17
    have lenP : (pairsL ws).length ≤ 1000 := by
      unfold pairsL
      rw [List.length_append]
      omega
    have lyP : (ys1 ++ ys3).length = (pairsL ws).length := hrP.1
    clear hr1 hr2 hr3 r1 r2 h1 h2 hD1 hD2 hD3 D1_6 s36 s6 s5 s4 s3 s2 s17 np hrP hwt5 hwt3 lp1 lp3 le1 le3 nD1 nD2 nD3
    -- starts
    have hR7 := hR.same sA
    have ht7 := same_seqT sA ht
    refine ⟨_, rfl, b, dx, _, rfl, sA _ _ hbi, b, dx, _, _, rfl, sA _ _ hbi, rfl, ?_⟩
    refine seq_opt (.inr ht7) (by rw [List.length_map, hR.1]; omega) (fun i => ss[i]?.bind fun s => some (V.str s.1)) ?hw4 (fun i x hx G sG => ?_) fun D4 H8 nD4 hD4 s8 => ?_
    case hw4 => intro _; rfl
    · obtain ⟨p, s, rfl, hp, hs, hS, _⟩ := (hR7.same sG).get hx
      refine ⟨fun R hR => no_test fun H' s' => by have := hR H' s'; rw [hs] at this; exact this, fun y hy G2 s2 R hR => ?_⟩
      rw [hs] at hy
      cases hy
      obtain ⟨dx, tP, tW, tK, gV, ws, hp', _⟩ := (hS.same s2).ex
      exact ⟨_, rfl, p, dx, _, rfl, hp', p, dx, _, _, rfl, hp', rfl, hR G2 (Same.refl G2)⟩
    rw [rules_fm hR7] at hD4
    have e1 : ss.filterMap (fun s => some (V.str s.1)) = (ss.map (·.1)).map V.str := by
      rw [List.filterMap_eq_map', List.map_map]
      rfl
    rw [e1] at hD4
    refine ⟨D4, ss.map (·.1), rfl, .inl (.inl hD4), by rw [List.length_map]; omega, fun sts l9 hs1 hs2 hs3 n9 => ?_⟩
    have s9 := s8.trans (same_new (o := .lst (sts.map V.str)) n9)
    have u9 : (upd H8 l9 (.lst (sts.map V.str))) l9 = some (.lst (sts.map V.str)) := upd_same
    generalize upd H8 l9 (.lst (sts.map V.str)) = H9 at s9 u9 ⊢
    have hrP9 := hrP7.imp fun b y => rPair_same s9
    have u79 := s9 _ _ u7
    have lst6 : sts.length ≤ 12 := by
      have : sts.length ≤ (ss.map (·.1)).length := nd_le hs2 fun z hz => (hs3 z).mp hz
      rw [List.length_map] at this
      omega
    clear hrP7 u7 hD4 nD4 s8 hR7 ht7
    refine ⟨_, rfl, ?_⟩
    refine seq2_rel (.inl (.inl (.inl u9))) (by rw [List.length_map]; omega) (fun i => (sts[i]?.map fun z => (pairsL ws).map fun p => ((z, p) : Row)).getD []) (fun i => ?_) (rRow K) (fun b y H H' => rRow_same) (fun D _ b y H H' zs => rRow_but) ?hw5 (fun D5 nD5 i x hx G sG nG R hR' => ?_) fun D5 H10 ys5 nD5 hD5 hr5 s10 => ?_
    case hw5 => intro _; rfl
    · cases e : sts[i]? with
      | none => exact Nat.zero_le _
      | some z =>
        show ((pairsL ws).map fun p => ((z, p) : Row)).length ≤ 1000
        rw [List.length_map]
        exact lenP
    · rw [List.getElem?_map] at hx
      cases ez : sts[i]? with
      | none =>
        rw [ez] at hx
        cases hx
      | some z =>
        rw [ez] at hx
        cases hx
        refine ⟨_, rfl, ?_⟩
        refine hR' lp _ G (.inl (.inl (.inl (sG _ _ u79)))) (fun e => by rw [e, nD5] at u79; cases u79) ?_ (Same.refl G) fun G3 s13 b23 k y hy R' hR2 => ?_
        · rw [ez]
          show _ = ((pairsL ws).map fun p => ((z, p) : Row)).length
          rw [List.length_map, lyP]
        · have hk : k < (pairsL ws).length := by rw [← lyP]; exact idx_lt hy
          have ek := List.getElem?_eq_getElem hk
          obtain ⟨pa, pt, rfl, hp1, hp2⟩ := hrP9.2 k _ _ ek hy
          refine ⟨pa, _, rfl, same_seqT s13 hp1, rfl, _, _, rfl, _, _, rfl, rfl, ?_⟩
          refine ⟨rfl, _, rfl, _, rfl, _, rfl, by show 3 ≤ sizeLine; decide, fun t nt => hR2 _ _ (same_new nt) fun e he => ?_⟩
          rw [ez] at he
          have he : ((pairsL ws).map fun p => ((z, p) : Row))[k]? = some e := he
          rw [List.getElem?_map, ek] at he
          cases he
          exact ⟨t, pt, rfl, .inl (.inl upd_same), same_seqT (s13.trans (same_new nt)) hp2⟩
    rw [List.length_map, range_flat] at hr5
    exact q ws sts D5 ys5 H10 w1 w2 w3 hs1 hs2 hs3 hD5 hr5 ((sA.trans s9).trans s10) ((sA.trans s9).free nD5)
end
end RL

-- FROM law_k18_rows_listed
namespace RL
open PySem L2 SX AddrMath VA PySem.W GR TxSet StX
/-! ## the law's own signs -/
def isInr : Key → Bool
  | .inl _ => false
  | .inr _ => true
theorem isStr_key (k : Key) : isStrD (kD k) = isInr k := by cases k <;> rfl
theorem key_flat (k : Key) : flatV (L2.kV k) = true := by cases k <;> rfl
/-- the integers in the order of their first places, behind those that were there -/
def holdK : List Int → List Key → List Int
  | acc, [] => acc
  | acc, .inl i :: r => holdK (if i ∈ acc then acc else acc ++ [i]) r
  | acc, .inr _ :: r => holdK acc r
theorem holdK_snoc : ∀ (acc : List Int) (l : List Key) (k : Key), holdK acc (l ++ [k]) = match k with | .inl i => if i ∈ holdK acc l then holdK acc l else holdK acc l ++ [i] | .inr _ => holdK acc l
  | acc, [], .inl i => rfl
  | acc, [], .inr z => rfl
  | acc, .inl i :: r, k => holdK_snoc _ r k
  | acc, .inr z :: r, k => holdK_snoc acc r k
theorem holdK_len : ∀ (acc : List Int) (l : List Key), (holdK acc l).length ≤ acc.length + l.length
  | acc, [] => Nat.le_refl _
  | acc, .inl i :: r => by
    have h := holdK_len (if i ∈ acc then acc else acc ++ [i]) r
    show (holdK (if i ∈ acc then acc else acc ++ [i]) r).length ≤ _
    rw [List.length_cons]
    split at h <;> split <;> first | omega | (rw [List.length_append] at h; have : ([i] : List Int).length = 1 := rfl; omega) | contradiction
  | acc, .inr z :: r => by
    have h := holdK_len acc r
    show (holdK acc r).length ≤ _
    rw [List.length_cons]
    omega
theorem holdK_sub : ∀ (acc : List Int) (l : List Key) (i : Int), i ∈ acc → i ∈ holdK acc l
  | acc, [], i, h => h
  | acc, .inl j :: r, i, h => holdK_sub _ r i (by
    split
    · exact h
    · exact List.mem_append_left _ h)
  | acc, .inr z :: r, i, h => holdK_sub acc r i h
theorem holdK_mem : ∀ (acc : List Int) (l : List Key) (i : Int), Sum.inl i ∈ l → i ∈ holdK acc l
  | acc, .inl j :: r, i, h => by
    rcases List.mem_cons.mp h with e | h
    · cases e
      refine holdK_sub _ r _ ?_
      split
      · assumption
      · exact List.mem_append_right _ (List.mem_singleton.mpr rfl)
    · exact holdK_mem _ r i h
  | acc, .inr z :: r, i, h => by
    rcases List.mem_cons.mp h with e | h
    · cases e
    · exact holdK_mem acc r i h
/-- a sign's number -/
def numK (held : List Int) : Key → Key
  | .inr z => .inr z
  | .inl i => .inl ((held.idxOf i : Nat) + 1)
theorem inV_ints (i : Int) (l : List Int) : inV (.int i) (l.map V.int) = decide (i ∈ l) := by
  induction l with
  | nil => rfl
  | cons j l ih =>
    show (eqV (.int j) (.int i) || inV (.int i) (l.map V.int)) = _
    rw [ih]
    show ((j == i) || decide (i ∈ l)) = decide (i ∈ j :: l)
    by_cases h : i = j
    · rw [h, decide_eq_true (List.mem_cons_self ..)]
      simp
    · rw [show (j == i) = false from beq_eq_false_iff_ne.mpr (Ne.symm h), Bool.false_or, Bool.eq_iff_iff, decide_eq_true_eq, decide_eq_true_eq, List.mem_cons]
      simp [h]
theorem idx_facts : ∀ (l : List Int) (j : Int), j ∈ l → l[l.idxOf j]? = some j ∧ ∀ (m : Nat) (z : Int), m < l.idxOf j → l[m]? = some z → z ≠ j
  | x :: r, j, h => by
    by_cases e : x = j
    · subst e
      rw [List.idxOf_cons_self]
      exact ⟨rfl, fun m z h => absurd h (Nat.not_lt_zero _)⟩
    · have h' : j ∈ r := (List.mem_cons.mp h).resolve_left fun z => e z.symm
      obtain ⟨h1, h2⟩ := idx_facts r j h'
      have e2 : (x :: r).idxOf j = r.idxOf j + 1 := by
        rw [List.idxOf_cons, show (x == j) = false from beq_eq_false_iff_ne.mpr e]
        rfl
      rw [e2]
      refine ⟨h1, fun m z hm hz => ?_⟩
      match m, hm, hz with
      | 0, _, hz =>
        cases hz
        exact e
      | m + 1, hm, hz => exact h2 m z (Nat.lt_of_succ_lt_succ hm) hz
theorem pe_bmK {X : Cx} {K : Frag} (hK : X.K = K) {o e : Expr} {es : List Expr} {to : TE} {t : TA} {name : Str} {apos cpos : Pos} {T id : String} {r : V → List V → Hp → VK → Prop} (pa : PlainAttrs T) (slot : Slot T name id) (hty : typeOf (.builtin id) = pure (.type "method_descriptor")) (hm : MtR X id r) (ho : PE X o to) (ha : PA X (e :: es) t)
    (hbase : attributeBase o name X.env (eval o X.env) = eval o X.env := by rfl)
    (hfew : ((backTo cpos (starEach (e :: es) X.env)).all (fun x => !x.1) && (backToKw cpos (keywordEach [] X.env)).all (fun x => x.1.isSome)
      && decide ((e :: es).length + ([] : List Keyword).length + (if ([] : List Keyword).isEmpty then 0 else 1) < 30)) = true := by rfl)
    (hline : (apos.endLine == cpos.line) = true := by rfl) (hs : starEach (e :: es) X.env = (false, eval e X.env) :: starEach es X.env := by rfl) (hplain : (backTo cpos (starEach es X.env)).any (·.1) = false := by rfl) :
    PE X (.Call (.Attribute o name apos) (e :: es) [] cpos) (tBM K T r to t) := by
  subst hK
  exact pe_bm pa slot hty hm ho ha hbase hfew hline hs hplain
theorem mt_indexK {X : Cx} {K : Frag} (hK : X.K = K) : MtR X "list.index" (rIndex K) := by
  subst hK
  exact mt_index
section
variable {P : Program} {w : World} {K : Frag} {mg : Str → Option Value} {base : Heap}
/-! ### _law_numbered: slots _law_signs 0, _law_names 1, _law_sign 2 cells _law_names -/
abbrev sNumbered : Stmt := top 69
theorem scNumbered : FnScope ["_law_signs", "_law_names", "_law_sign"] ["_law_signs"] (defScope sNumbered) := ⟨rfl, rfl, rfl, by decide +kernel, rfl, by decide +kernel, by decide +kernel⟩
def spNumbered (K : Frag) : Sp := fun vs H Q _ => ∃ (a : Addr) (ks : List Key), vs = [.ref a] ∧ SqT K H a (ks.map L2.kV) ∧ (∀ k ∈ ks, okK k = true) ∧ ks.length ≤ 1000 ∧
  ∀ t tn ln H', SqT K H' t [.ref tn, .ref ln] → SqT K H' tn ((ks.map (numK (holdK [] ks))).map L2.kV) → H' ln = some (.lst ((holdK [] ks).map V.int)) → Same H H' → Q (.ref t) H'
theorem ok_numbered {f : Addr} {fd : FuncData} (F : Fun K "_law_numbered" "_law_numbered" sNumbered f fd) (B : Blt mg) : FnOk P w K mg base CX0 2 f fd ["_law_signs"] (spNumbered K) := by
  refine F.ok scNumbered (fun vs H Q E h => ?_) (fun cdv A outer s0 H vs Q E hr h => ?_)
  · obtain ⟨a, ks, rfl, _⟩ := h
    rfl
  · obtain ⟨a, ks, rfl, ha, ok, lk, q⟩ := h
    refine ⟨_, (pss_cons (ps_set (i := 1) scNumbered.nd rfl (Or.inr rfl) (pe_lst pa_nil))
      (pss_cons (ps_for PassesOwn.never rfl (pi_seq (pv 0)) (pg_name (i := 2) scNumbered.nd rfl (Or.inl rfl))
        (pss_one (ps_if (PW.pt (pw_and (pt_not (pt_val (pe_callB call_isi (by rfl) B.isinstance_ (by decide +kernel) (pa_cons (pv 2) (pa_cons (pe_bltn (v := .ty "str") (by rfl) B.str_ (by decide +kernel) rfl) pa_nil))))) (pw_and1 (pt_cmpR op_notIn_seq (pv 2) (pv 1) (by with_unfolding_all rfl))))) (pss_one (ps_expr (pe_bm PySem.F.plainAttrs_list PySem.F.slot_list_append PySem.F.type_list_append mt_append (pv 1) (pa_cons (pv 2) pa_nil)))) pss_nil)))
      (pss_one (ps_ret (pe_tup (pa_cons (pe_callTy call_tupA (by rfl) B.tuple_ (by decide +kernel) (pa_cons (pe_lc (own := [("_law_sign", 2)]) (g := gName 2) (tt := tYes) rfl scNumbered.nd (pi_seq (pv 0))
          (blkOk_by (own := [("_law_sign", 2)]) (N := ["_law_signs", "_law_names", "_law_sign"]) (sc := defScope sNumbered) (by decide +kernel))
          (fun _ _ _ _ _ => (pg_name (i := 2) scNumbered.nd rfl (Or.inl rfl))) (fun _ _ _ _ _ => pts_nil)
          (fun _ _ _ _ _ => (pe_ifExp (pt_val (pe_callB (call_isiK (K := K) rfl) (by rfl) B.isinstance_ (by decide +kernel) (pa_cons (pv 2) (pa_cons (pe_bltn (v := .ty "str") (by rfl) B.str_ (by decide +kernel) rfl) pa_nil)))) (pv 2) (pe_op op_add (pe_bmK (K := K) rfl PySem.F.plainAttrs_list PySem.F.slot_list_index PySem.F.type_list_index (mt_indexK (K := K) rfl) (pv 1) (pa_cons (pv 2) pa_nil)) pe_int)))) pa_nil)) (pa_cons (pv 1) pa_nil))))))), ?_⟩
    refine ⟨Nat.zero_le _, fun ln nl => ?_⟩
    have s1 := same_new (o := .lst []) nl
    have u1 : (upd H ln (.lst [])) ln = some (.lst []) := upd_same
    have hal : ∀ o, H a = some o → a ≠ ln := fun o e z => by rw [z, nl] at e; cases e
    generalize upd H ln (.lst []) = H1 at s1 u1 ⊢
    have hal1 : ∀ {G : Hp}, But ln H1 G → SqT K G a (ks.map L2.kV) := fun {G} k => by
      rcases ha with (h | ⟨o, h⟩) | h
      · exact .inl (.inl (k _ _ (s1 _ _ h) (hal _ h)))
      · exact .inl (.inr ⟨o, k _ _ (s1 _ _ h) (hal _ h)⟩)
      · exact .inr h
    refine ⟨_, rfl, a, rfl, .inr ⟨⟨_, same_seqT s1 ha⟩, for_it (walk_tup (xs := ks.map L2.kV)) (fun i σ G => ∃ o2 : Option V, σ = [some (.ref a), some (.ref ln), o2] ∧ G ln = some (.lst ((holdK [] (ks.take i)).map V.int)) ∧ But ln H1 G) ⟨none, rfl, u1, fun _ _ e _ => e⟩ (fun i σ G' _ h => by obtain ⟨_, _, _, k⟩ := h; exact hal1 k) ?_ ?_⟩⟩
    · rintro i x σ G1 G2 hi ⟨o2, rfl, hl, k⟩ ⟨rfl, hx⟩
      rw [List.length_map] at hi
      have ek := List.getElem?_eq_getElem hi
      rw [List.getElem?_map, ek] at hx
      cases hx
      have hok := ok _ (List.getElem_mem hi)
      have etk : ks.take (i + 1) = ks.take i ++ [ks[i]] := by rw [List.take_add_one, ek]; rfl
      rw [etk, holdK_snoc]
      refine ⟨_, rfl, _, _, _, _, isStrD (kD ks[i]), rfl, .ty "str", (key_vx (K := K) (H := G2) hok).ty, kitStr (kD ks[i]), _, rfl, ?_⟩
      rw [isStr_key]
      cases e : ks[i] with
      | inr z => exact iteF ⟨_, rfl, hl, k⟩
      | inl j =>
        refine iteT ⟨_, rfl, _, rfl, ln, _, rfl, .inl (.inl (.inl hl)), rfl, List.all_eq_true.mpr fun y hy => ?_, ?_⟩
        · obtain ⟨u, _, rfl⟩ := List.mem_map.mp hy
          rfl
        · show (∃ b, V.bl (!inV (V.int j) ((holdK [] (ks.take i)).map V.int)) = .bl b ∧ _)
          rw [inV_ints]
          by_cases m : j ∈ holdK [] (ks.take i)
          · rw [decide_eq_true m]
            refine ⟨_, rfl, iteF ⟨some (.int j), rfl, ?_, k⟩⟩
            show _ = some (HO.lst ((if j ∈ holdK [] (ks.take i) then holdK [] (ks.take i) else holdK [] (ks.take i) ++ [j]).map V.int))
            rw [if_pos m]
            exact hl
          · rw [decide_eq_false m]
            have hk := holdK_len [] (ks.take i)
            rw [List.length_take] at hk
            refine ⟨_, rfl, iteT ⟨_, rfl, .inl ⟨rfl, _, .inl (.inl hl)⟩, _, rfl, ln, _, _, rfl, rfl, hl, size_lt (by rw [List.length_map]; have : ([] : List Int).length = 0 := rfl; omega), some (.int j), rfl, ?_, fun b o e n => ?_⟩⟩
            · show _ = some (HO.lst ((if j ∈ holdK [] (ks.take i) then holdK [] (ks.take i) else holdK [] (ks.take i) ++ [j]).map V.int))
              rw [if_neg m, upd_same, List.map_append]
              rfl
            · rw [upd_ne n]
              exact k _ _ e n
    · rintro σ G1 ⟨o2, rfl, hl, k⟩
      rw [List.length_map, List.take_length] at hl
      have hT := hal1 k
      have sB : Same H G1 := fun b o e => k _ _ (s1 _ _ e) (ne_of_none e nl)
      refine ⟨_, rfl, ?_⟩
      refine seq_opt (.inr hT) (by rw [List.length_map]; omega) (fun i => ks[i]?.bind fun k => some (L2.kV (numK (holdK [] ks) k))) ?hw (fun i x hx G sG => ?_) fun D H2 nD hD s2 => ?_
      case hw => intro _; rfl
      · rw [List.getElem?_map] at hx
        cases ek : ks[i]? with
        | none =>
          rw [ek] at hx
          cases hx
        | some kk =>
          rw [ek] at hx
          cases hx
          have hok := ok _ (List.mem_of_getElem? ek)
          refine ⟨fun R hR => hR G (Same.refl G), fun y hy G2 s2 R hR => ?_⟩
          cases hy
          refine ⟨_, rfl, _, _, _, _, isStrD (kD kk), rfl, .ty "str", (key_vx (K := K) (H := G2) hok).ty, kitStr (kD kk), _, rfl, ?_⟩
          rw [isStr_key]
          cases kk with
          | inr z => exact iteT ⟨_, rfl, hR G2 (Same.refl G2)⟩
          | inl j =>
            have hl2 := s2 _ _ (sG _ _ hl)
            have hj := holdK_mem [] ks j (List.mem_of_getElem? ek)
            obtain ⟨f1, f2⟩ := idx_facts _ _ hj
            refine iteF ⟨_, rfl, .inl ⟨rfl, _, .inl (.inl hl2)⟩, _, rfl, ln, _, .int j, (holdK [] ks).idxOf j, .int j, rfl, rfl, .inl (.inl hl2), rfl, List.all_eq_true.mpr fun y hy => ?_, by rw [List.getElem?_map, f1]; rfl, ?_, fun m z' hm hz => ?_, _, _, rfl, rfl, hR G2 (Same.refl G2)⟩
            · obtain ⟨u, _, rfl⟩ := List.mem_map.mp hy
              rfl
            · show (j == j) = true
              exact beq_self_eq_true j
            · rw [List.getElem?_map] at hz
              cases eu : (holdK [] ks)[m]? with
              | none =>
                rw [eu] at hz
                cases hz
              | some u =>
                rw [eu] at hz
                cases hz
                show (u == j) = false
                exact beq_eq_false_iff_ne.mpr (f2 m u hm eu)
      rw [List.length_map, range_fm] at hD
      have e1 : ks.filterMap (fun k => some (L2.kV (numK (holdK [] ks) k))) = (ks.map (numK (holdK [] ks))).map L2.kV := by
        rw [List.filterMap_eq_map', List.map_map]
        rfl
      rw [e1] at hD
      refine ⟨D, _, rfl, .inl (.inl (.inl hD)), fun tn H3 htn s3 => ⟨_, rfl, by show 2 ≤ sizeLine; decide, fun t nt => ?_⟩⟩
      have s4 := same_new (o := .tup [.ref tn, .ref ln]) nt
      exact q t tn ln _ (.inl (.inl upd_same)) (same_seqT s4 htn) (s4 _ _ (s3 _ _ (s2 _ _ hl))) (((sB.trans s2).trans s3).trans s4)
/-! ### _law_integers: slots _law_signs 0 -/
abbrev sIntegers : Stmt := top 70
theorem scIntegers : FnScope ["_law_signs"] ["_law_signs"] (defScope sIntegers) := ⟨rfl, rfl, rfl, by decide +kernel, rfl, by decide +kernel, by decide +kernel⟩
def spIntegers (K : Frag) : Sp := fun vs H Q _ => ∃ (a : Addr) (ks : List Key), vs = [.ref a] ∧ SqT K H a (ks.map L2.kV) ∧ (∀ k ∈ ks, okK k = true) ∧ ks.length ≤ 1000 ∧
  ∀ ln H', H' ln = some (.lst ((holdK [] ks).map V.int)) → Same H H' → Q (.ref ln) H'
theorem ok_integers {f : Addr} {fd : FuncData} (F : Fun K "_law_integers" "_law_integers" sIntegers f fd) (numbered : Own P w K mg base CX0 2 "_law_numbered" ["_law_signs"] (spNumbered K)) : FnOk P w K mg base CX0 3 f fd ["_law_signs"] (spIntegers K) := by
  refine F.ok scIntegers (fun vs H Q E h => ?_) (fun cdv A outer s0 H vs Q E hr h => ?_)
  · obtain ⟨a, ks, rfl, _⟩ := h
    rfl
  · obtain ⟨a, ks, rfl, ha, ok, lk, q⟩ := h
    refine ⟨_, (pss_one (ps_ret (pe_ix ix_tup (pe_call numbered.g hr rfl numbered.mg numbered.kp numbered.b .nil pass0 (pa_cons (pv 0) pa_nil)) pe_int (fun _ _ => rfl)))), ?_⟩
    refine ⟨_, rfl, a, ks, rfl, ha, ok, lk, fun t tn ln H1 ht hn hl s1 => ?_⟩
    exact ⟨t, _, 1, .ref ln, rfl, rfl, ht, rfl, q ln H1 hl s1⟩
end
/-- the law's hands -/
abbrev kI (i : Int) : Key := Sum.inl i
abbrev kW (z : Str) : Key := Sum.inr z
def oneS (ws : List Str) (one : Key) : List Key := (ws.map kW ++ [kI 1]) ++ (if one = kI 1 then [kI 2] else [])
def lHandsL (ws : List Str) : List (List Key) := (([[]] ++ ws.map fun z => [kW z]) ++ [[kI 1]]) ++ (ws.map kW ++ [kI 1]).flatMap fun one => (oneS ws one).map fun s => [one, s]
theorem lastK_words : ∀ (ws : List Str) (a : Int), lastK a (ws.map Sum.inr) = a
  | [], _ => rfl
  | _ :: r, a => lastK_words r a
theorem nextS_nil (ws : List Str) : nextS ws [] = ws.map Sum.inr ++ [Sum.inl 1] := rfl
theorem nextS_word (ws : List Str) (z : Str) : nextS ws [kW z] = ws.map kW ++ [kI 1] := rfl
theorem nextS_one (ws : List Str) : nextS ws [kI 1] = ws.map kW ++ [kI 1, kI 2] := rfl
theorem flatMap_cg {α β : Type} {f g : α → List β} : ∀ {l : List α}, (∀ x ∈ l, f x = g x) → l.flatMap f = l.flatMap g
  | [], _ => rfl
  | x :: r, h => by
    rw [List.flatMap_cons, List.flatMap_cons, h x (List.mem_cons_self ..), flatMap_cg fun y hy => h y (List.mem_cons_of_mem _ hy)]
theorem hands_eq (ws : List Str) : lHandsL ws = handsL ws := by
  have e1 : shortL ws = ws.map (fun z => [kW z]) ++ [[kI 1]] := by
    unfold shortL
    rw [nextS_nil, List.map_append, List.map_map]
    rfl
  have e2 : longL ws = (ws.map kW ++ [kI 1]).flatMap fun one => (oneS ws one).map fun s => [one, s] := by
    unfold longL
    rw [e1, List.flatMap_append, List.flatMap_append, List.flatMap_map, List.flatMap_map]
    have h1 : ws.flatMap (fun a => (nextS ws [kW a]).map fun k => [kW a] ++ [k]) = ws.flatMap (fun a => (oneS ws (kW a)).map fun s => [kW a, s]) := by
      refine flatMap_cg fun z _ => ?_
      unfold oneS
      rw [nextS_word, if_neg (by intro h; cases h), List.append_nil]
      try rfl
    have h2 : [[kI 1]].flatMap (fun h => (nextS ws h).map fun k => h ++ [k]) = [kI 1].flatMap (fun one => (oneS ws one).map fun s => [one, s]) := by
      rw [List.flatMap_singleton, List.flatMap_singleton, nextS_one]
      unfold oneS
      rw [if_pos rfl, List.append_assoc]
      rfl
    rw [h1, h2]
  unfold lHandsL handsL
  rw [e1, e2, List.append_assoc, List.append_assoc, List.append_assoc]
/-- what is read at a hand -/
def lSignsAt (ws : List Str) (h : List Key) (ns : List Int) : List (Option Key) := if (h.length : Int) < 2 then [none] else
  ((ws.map fun z => some (kW z)) ++ ns.map (fun i => some (kI i))) ++ [some (kI (((holdK [] h).length : Nat) + 1)), none]
theorem pw_sorted (l : List Int) : (l.mergeSort (· ≤ ·)).Pairwise (· ≤ ·) := by
  have := List.pairwise_mergeSort (le := fun a b : Int => decide (a ≤ b)) (fun a b c h1 h2 => by simp at *; omega) (fun a b => by simp; omega) l
  exact this.imp fun h => by simpa using h
section
variable {P : Program} {w : World} {K : Frag} {mg : Str → Option Value} {base : Heap}
/-! ### _law_hands: slots _law_words 0, _law_word 1, _law_found 2, _law_one 3, _law_signs 4, _law_sign 5 cells _law_one -/
abbrev sLHands : Stmt := top 71
abbrev NLH : List Str := ["_law_words", "_law_word", "_law_found", "_law_one", "_law_signs", "_law_sign"]
theorem scLHands : FnScope NLH ["_law_words"] (defScope sLHands) := ⟨rfl, rfl, rfl, by decide +kernel, rfl, by decide +kernel, by decide +kernel⟩
def spLHands (K : Frag) : Sp := fun vs H Q _ => ∃ (wa : Addr) (ws : List Str), vs = [.ref wa] ∧ H wa = some (.lst (ws.map V.str)) ∧ ws.length ≤ 20 ∧
  ∀ l xs H', H' l = some (.lst xs) → AllR (rTup K) (lHandsL ws) xs H' → Same H H' → Q (.ref l) H'
theorem ok_lhands {f : Addr} {fd : FuncData} (F : Fun K "_law_hands" "_law_hands" sLHands f fd) (B : Blt mg) : FnOk P w K mg base CX0 2 f fd ["_law_words"] (spLHands K) := by
  refine F.ok scLHands (fun vs H Q E h => ?_) (fun cdv A outer s0 H vs Q E hr h => ?_)
  · obtain ⟨wa, ws, rfl, _⟩ := h
    rfl
  · obtain ⟨wa, ws, rfl, hw, lw, q⟩ := h
    refine ⟨_, (pss_cons (ps_set (i := 2) scLHands.nd rfl (Or.inl rfl) (pe_op op_cat (pe_op op_cat (pe_lst (pa_cons (pe_tup pa_nil) pa_nil)) (pe_lc (own := [("_law_word", 1)]) (g := gName 1) (tt := tYes) rfl scLHands.nd (pi_seq (pv 0))
          (blkOk_by (own := [("_law_word", 1)]) (N := NLH) (sc := defScope sLHands) (by decide +kernel))
          (fun _ _ _ _ _ => (pg_name (i := 1) scLHands.nd rfl (Or.inl rfl))) (fun _ _ _ _ _ => pts_nil)
          (fun _ _ _ _ _ => (pe_tup (pa_cons (pv 1) pa_nil))))) (pe_lst (pa_cons (pe_tup (pa_cons pe_int pa_nil)) pa_nil))))
      (pss_cons (ps_for PassesOwn.never rfl (pi_seq (pe_op op_cat (pv 0) (pe_lst (pa_cons pe_int pa_nil)))) (pg_name (i := 3) scLHands.nd rfl (Or.inr rfl))
        (pss_cons (ps_set (i := 4) scLHands.nd rfl (Or.inl rfl) (pe_op op_cat (pe_op op_cat (pv 0) (pe_lst (pa_cons pe_int pa_nil))) (pe_op op_rep (pe_lst (pa_cons pe_int pa_nil)) (pe_callTy call_int1 (by rfl) B.int_ (by decide +kernel) (pa_cons (pe_cmpR op_eq (pv 3) pe_int (nomark _)) pa_nil)))))
        (pss_one (ps_set (i := 2) scLHands.nd rfl (Or.inl rfl) (pe_op op_cat (pv 2) (pe_lc (own := [("_law_sign", 5)]) (g := gName 5) (tt := tYes) rfl scLHands.nd (pi_seq (pv 4))
          (blkOk_by (own := [("_law_sign", 5)]) (N := NLH) (sc := defScope sLHands) (by decide +kernel))
          (fun _ _ _ _ _ => (pg_name (i := 5) scLHands.nd rfl (Or.inl rfl))) (fun _ _ _ _ _ => pts_nil)
          (fun _ _ _ _ _ => (pe_tup (pa_cons (pv 3) (pa_cons (pv 5) pa_nil))))))))))
      (pss_one (ps_ret (pv 2))))), ?_⟩
    -- [()] + [(word,) ..] + [(1,)]
    refine ⟨Nat.zero_le _, fun p1 n1 => ?_⟩
    have s1 := same_new (o := .tup []) n1
    have u1 : (upd H p1 (.tup [])) p1 = some (.tup []) := upd_same
    generalize upd H p1 (.tup []) = H1 at s1 u1 ⊢
    refine ⟨by show 1 ≤ sizeLine; decide, fun l1 nl1 => ?_⟩
    have s2 := s1.trans (same_new (o := .lst [.ref p1]) nl1)
    have u1' := same_new (o := .lst [.ref p1]) nl1 _ _ u1
    have u2 : (upd H1 l1 (.lst [.ref p1])) l1 = some (.lst [.ref p1]) := upd_same
    generalize upd H1 l1 (.lst [.ref p1]) = H2 at s2 u2 u1' ⊢
    refine ⟨_, rfl, ?_⟩
    refine seq_flt (.inl (.inl (.inl (s2 _ _ hw)))) (by rw [List.length_map]; omega) (fun i => ws[i]?.map fun z => [kW z]) (rTup K) (fun b y H H' => rTup_same) (fun D _ b y H H' zs => rTup_but) ?hw1 (fun i x hx G sG => ?_) fun D1 H3 ys1 nD1 hD1 hr1 s3 => ?_
    case hw1 => intro _; rfl
    · rw [List.getElem?_map] at hx
      cases ek : ws[i]? with
      | none =>
        rw [ek] at hx
        cases hx
      | some k =>
        rw [ek] at hx
        cases hx
        refine ⟨fun R hR => hR G (Same.refl G), fun e he G2 s2 R hR => ?_⟩
        cases he
        exact ⟨_, rfl, by show 1 ≤ sizeLine; decide, fun t nt => hR _ _ (same_new nt) ⟨t, rfl, .inl (.inl upd_same)⟩⟩
    rw [List.length_map, range_mapO] at hr1
    have lr1 := hr1.1
    rw [List.length_map] at lr1
    refine ⟨l1, D1, _, _, rfl, rfl, s3 _ _ u2, hD1, size_ok (by show 1 + _ ≤ _; omega), fun l2 nl2 => ?_⟩
    have s4 := same_new (o := .lst ([V.ref p1] ++ ys1)) nl2
    have u4 : (upd H3 l2 (.lst ([V.ref p1] ++ ys1))) l2 = some (.lst ([V.ref p1] ++ ys1)) := upd_same
    generalize upd H3 l2 (.lst ([V.ref p1] ++ ys1)) = H4 at s4 u4 ⊢
    refine ⟨by show 1 ≤ sizeLine; decide, fun p5 n5 => ?_⟩
    have s5 := same_new (o := .tup [.int 1]) n5
    have u5 : (upd H4 p5 (.tup [.int 1])) p5 = some (.tup [.int 1]) := upd_same
    generalize upd H4 p5 (.tup [.int 1]) = H5 at s5 u5 ⊢
    refine ⟨by show 1 ≤ sizeLine; decide, fun l6 nl6 => ?_⟩
    have s6 := same_new (o := .lst [.ref p5]) nl6
    have u6 : (upd H5 l6 (.lst [.ref p5])) l6 = some (.lst [.ref p5]) := upd_same
    generalize upd H5 l6 (.lst [.ref p5]) = H6 at s6 u6 ⊢
    refine ⟨l2, l6, _, _, rfl, rfl, s6 _ _ (s5 _ _ u4), u6, size_ok (by rw [List.length_append]; show 1 + ys1.length + 1 ≤ 1000000; omega), fun l7 nl7 => ?_⟩
    have s7 := same_new (o := .lst (([V.ref p1] ++ ys1) ++ [.ref p5])) nl7
    have u7 : (upd H6 l7 (.lst (([V.ref p1] ++ ys1) ++ [.ref p5]))) l7 = some (.lst (([V.ref p1] ++ ys1) ++ [.ref p5])) := upd_same
    generalize upd H6 l7 (.lst (([V.ref p1] ++ ys1) ++ [.ref p5])) = H7 at s7 u7 ⊢
    have r0 : AllR (rTup K) (([[]] ++ ws.map fun z => [kW z]) ++ [[kI 1]]) (([V.ref p1] ++ ys1) ++ [.ref p5]) H7 := by
      have s37 := ((s4.trans s5).trans s6).trans s7
      have a1 : AllR (rTup K) [[]] [.ref p1] H7 := AllR.one ⟨p1, rfl, .inl (.inl (s37 _ _ (s3 _ _ u1')))⟩
      have a2 := hr1.imp fun b y => rTup_same s37
      have a3 : AllR (rTup K) [[kI 1]] [.ref p5] H7 := AllR.one ⟨p5, rfl, .inl (.inl (s7 _ _ (s6 _ _ u5)))⟩
      exact (a1.app a2).app a3
    have sA := ((((s2.trans s3).trans s4).trans s5).trans s6).trans s7
    have hw7 := sA _ _ hw
    clear u6 u5 u4 u2 u1' hr1 hD1 s3 s4 s5 s6 s7 s2 nl7 nl6 n5 nl2 nl1 nD1
    generalize ([V.ref p1] ++ ys1) ++ [V.ref p5] = xs0 at u7 r0
    -- words + [1]
    refine ⟨_, rfl, by show 1 ≤ sizeLine; decide, fun l8 nl8 => ?_⟩
    have s8 := same_new (o := .lst [.int 1]) nl8
    have u8 : (upd H7 l8 (.lst [.int 1])) l8 = some (.lst [.int 1]) := upd_same
    generalize upd H7 l8 (.lst [.int 1]) = H8 at s8 u8 ⊢
    refine ⟨wa, l8, _, _, rfl, rfl, s8 _ _ hw7, u8, size_ok (by rw [List.length_map]; show ws.length + 1 ≤ 1000000; omega), fun l9 nl9 => ?_⟩
    have e9 : ws.map V.str ++ [V.int 1] = (ws.map kW ++ [kI 1]).map L2.kV := by
      rw [List.map_append, List.map_map]
      rfl
    rw [e9]
    have s9 := s8.trans (same_new (o := .lst ((ws.map kW ++ [kI 1]).map L2.kV)) nl9)
    have u9 : (upd H8 l9 (.lst ((ws.map kW ++ [kI 1]).map L2.kV))) l9 = some (.lst ((ws.map kW ++ [kI 1]).map L2.kV)) := upd_same
    generalize upd H8 l9 (.lst ((ws.map kW ++ [kI 1]).map L2.kV)) = H9 at s9 u9 ⊢
    have l1 : (ws.map kW ++ [kI 1]).length = ws.length + 1 := by
      rw [List.length_append, List.length_map]
      rfl
    have lone : ∀ one, (oneS ws one).length ≤ ws.length + 2 := fun one => by
      unfold oneS
      rw [List.length_append, l1]
      split
      · show _ + 1 ≤ _
        omega
      · show _ + 0 ≤ _
        omega
    refine ⟨l9, rfl, .inl ⟨⟨_, .inl (.inl u9)⟩, for_it (walk_list (xs := (ws.map kW ++ [kI 1]).map L2.kV)) (fun i σ G => Same H9 G ∧ ∃ (lf : Addr) (xs : List V) (o1 o3 o4 o5 : Option V), σ = [some (.ref wa), o1, some (.ref lf), o3, o4, o5] ∧ G lf = some (.lst xs) ∧
        AllR (rTup K) ((([[]] ++ ws.map fun z => [kW z]) ++ [[kI 1]]) ++ ((ws.map kW ++ [kI 1]).take i).flatMap fun one => (oneS ws one).map fun s => [one, s]) xs G) ⟨Same.refl _, l7, xs0, none, none, none, none, rfl, s9 _ _ u7, ?_⟩ (fun i σ G _ h => .inl (.inl (h.1 _ _ u9))) ?_ ?_⟩⟩
    · rw [List.take_zero]
      show AllR _ (_ ++ []) _ _
      rw [List.append_nil]
      exact r0.imp fun b y => rTup_same s9
    · rintro i x σ G1 G2 hi ⟨sG, lf, xs, o1, o3, o4, o5, rfl, hlf, hr⟩ ⟨rfl, hx⟩
      rw [List.length_map] at hi
      have ek := List.getElem?_eq_getElem hi
      rw [List.getElem?_map, ek] at hx
      cases hx
      have etk : (ws.map kW ++ [kI 1]).take (i + 1) = (ws.map kW ++ [kI 1]).take i ++ [(ws.map kW ++ [kI 1])[i]] := by rw [List.take_add_one, ek]; rfl
      generalize (ws.map kW ++ [kI 1])[i] = one at etk ek
      obtain ⟨n, hn1, en, eo⟩ : ∃ n : Nat, n ≤ 1 ∧ (if decide (L2.kV one = V.int 1) = true then (1 : Int) else 0) = (n : Int) ∧ oneS ws one = (ws.map kW ++ [kI 1]) ++ List.replicate n (kI 2) := by
        by_cases c : one = kI 1
        · subst c
          exact ⟨1, Nat.le_refl _, rfl, rfl⟩
        · refine ⟨0, Nat.zero_le _, ?_, ?_⟩
          · rw [decide_eq_false]
            · rfl
            · intro z
              cases one with
              | inl j =>
                injection z with z
                exact c (by rw [z])
              | inr u => cases z
          · unfold oneS
            rw [if_neg c]
            rfl
      have lxs : xs.length ≤ 1000 := by
        have h1 := hr.1
        have h2 := flat_len ((ws.map kW ++ [kI 1]).take i) (fun one => (oneS ws one).map fun s => [one, s]) 22 fun x _ => by
          rw [List.length_map]
          have := lone x
          omega
        have h3 : ((ws.map kW ++ [kI 1]).take i).length ≤ 21 := by
          rw [List.length_take, l1]
          omega
        rw [List.length_append, List.length_append, List.length_append, List.length_map] at h1
        have e1 : ([[]] : List (List Key)).length = 1 := rfl
        have e2 : ([[kI 1]] : List (List Key)).length = 1 := rfl
        omega
      have hwG := sG _ _ (s9 _ _ hw7)
      refine ⟨_, rfl, by show 1 ≤ sizeLine; decide, fun la nla => ?_⟩
      have t1 := same_new (o := .lst [.int 1]) nla
      have v1 : (upd G2 la (.lst [.int 1])) la = some (.lst [.int 1]) := upd_same
      generalize upd G2 la (.lst [.int 1]) = G3 at t1 v1 ⊢
      refine ⟨wa, la, _, _, rfl, rfl, t1 _ _ hwG, v1, size_ok (by rw [List.length_map]; show ws.length + 1 ≤ 1000000; omega), fun lb nlb => ?_⟩
      rw [e9]
      have t2 := t1.trans (same_new (o := .lst ((ws.map kW ++ [kI 1]).map L2.kV)) nlb)
      have v2 : (upd G3 lb (.lst ((ws.map kW ++ [kI 1]).map L2.kV))) lb = some (.lst ((ws.map kW ++ [kI 1]).map L2.kV)) := upd_same
      generalize upd G3 lb (.lst ((ws.map kW ++ [kI 1]).map L2.kV)) = G4 at t2 v2 ⊢
      refine ⟨by show 1 ≤ sizeLine; decide, fun lc nlc => ?_⟩
      have t3' := same_new (o := .lst [.int 2]) nlc
      have t3 := t2.trans t3'
      have v3 : (upd G4 lc (.lst [.int 2])) lc = some (.lst [.int 2]) := upd_same
      generalize upd G4 lc (.lst [.int 2]) = G5 at t3 t3' v3 ⊢
      refine ⟨_, rfl, by cases one <;> rfl, .inr ⟨_, rfl, ?_⟩⟩
      rw [en]
      refine ⟨lc, _, _, rfl, rfl, v3, by omega, by omega, ?_, fun ld nld => ?_⟩
      · refine size_ok ?_
        rw [Int.toNat_natCast]
        show 1 * n ≤ 1000000
        omega
      have e8 : (List.replicate ((n : Int)).toNat [V.int 2]).flatten = (List.replicate n (kI 2)).map L2.kV := by
        rw [Int.toNat_natCast, List.map_replicate]
        clear en eo
        rcases (show n = 0 ∨ n = 1 by omega) with rfl | rfl <;> rfl
      rw [e8]
      have t4' := same_new (o := .lst ((List.replicate n (kI 2)).map L2.kV)) nld
      have v4 : (upd G5 ld (.lst ((List.replicate n (kI 2)).map L2.kV))) ld = some (.lst ((List.replicate n (kI 2)).map L2.kV)) := upd_same
      generalize upd G5 ld (.lst ((List.replicate n (kI 2)).map L2.kV)) = G6 at t4' v4 ⊢
      refine ⟨lb, ld, _, _, rfl, rfl, t4' _ _ (t3' _ _ v2), v4, ?_, fun le nle => ?_⟩
      · refine size_ok ?_
        rw [List.length_map, List.length_map, l1, List.length_replicate]
        omega
      rw [← List.map_append, ← eo]
      have t5' := same_new (o := .lst ((oneS ws one).map L2.kV)) nle
      have v5 : (upd G6 le (.lst ((oneS ws one).map L2.kV))) le = some (.lst ((oneS ws one).map L2.kV)) := upd_same
      generalize upd G6 le (.lst ((oneS ws one).map L2.kV)) = G7 at t5' v5 ⊢
      have t7 := (t3.trans t4').trans t5'
      clear v1 v2 v3 v4 t1 t2 t3 t3' t4' t5' nla nlb nlc nld nle
      refine ⟨_, rfl, _, rfl, ?_⟩
      refine seq_flt (.inl (.inl (.inl v5))) (by rw [List.length_map]; have := lone one; omega) (fun i => (oneS ws one)[i]?.map fun s => [one, s]) (rTup K) (fun b y H H' => rTup_same) (fun D _ b y H H' zs => rTup_but) ?hw2 (fun i x hx G sG => ?_) fun D2 G8 ys2 nD2 hD2 hr2 t8 => ?_
      case hw2 => intro _; rfl
      · rw [List.getElem?_map] at hx
        cases ek : (oneS ws one)[i]? with
        | none =>
          rw [ek] at hx
          cases hx
        | some k =>
          rw [ek] at hx
          cases hx
          refine ⟨fun R hR => hR G (Same.refl G), fun e he G2 s2 R hR => ?_⟩
          cases he
          exact ⟨_, rfl, _, rfl, by show 2 ≤ sizeLine; decide, fun t nt => hR _ _ (same_new nt) ⟨t, rfl, .inl (.inl upd_same)⟩⟩
      rw [List.length_map, range_mapO] at hr2
      have l2 := hr2.1
      rw [List.length_map] at l2
      have lo := lone one
      have t9 := t7.trans t8
      refine ⟨lf, D2, _, _, rfl, rfl, t9 _ _ hlf, hD2, size_ok (by omega), fun lg nlg => ?_⟩
      have t10 := t9.trans (same_new (o := .lst (xs ++ ys2)) nlg)
      refine ⟨sG.trans t10, lg, xs ++ ys2, _, _, _, _, rfl, upd_same, ?_⟩
      rw [etk, List.flatMap_append, List.flatMap_singleton, ← List.append_assoc]
      exact (hr.imp fun b y => rTup_same t10).app (hr2.imp fun b y => rTup_same (same_new nlg))
    · rintro σ G1 ⟨sG, lf, xs, o1, o3, o4, o5, rfl, hlf, hr⟩
      rw [List.length_map, List.take_length] at hr
      exact ⟨_, rfl, q lf xs G1 hlf hr ((sA.trans s9).trans sG)⟩
/-! ### _law_signs_at: slots _law_words 0, _law_hand 1, _law_known 2, _law_k 3 -/
abbrev sSignsAt : Stmt := top 72
theorem scSignsAt : FnScope ["_law_words", "_law_hand", "_law_known", "_law_k"] ["_law_words", "_law_hand"] (defScope sSignsAt) := ⟨rfl, rfl, rfl, by decide +kernel, rfl, by decide +kernel, by decide +kernel⟩
def spSignsAt (K : Frag) : Sp := fun vs H Q _ => ∃ (wa a : Addr) (ws : List Str) (h : List Key), vs = [.ref wa, .ref a] ∧ H wa = some (.lst (ws.map V.str)) ∧ ws.length ≤ 20 ∧ SqT K H a (h.map L2.kV) ∧ (∀ k ∈ h, okK k = true) ∧ h.length ≤ 20 ∧
  ∀ l ns H', ns.Perm (holdK [] h) → ns.Pairwise (· ≤ ·) → H' l = some (.lst ((lSignsAt ws h ns).map sgV)) → Same H H' → Q (.ref l) H'
theorem ok_signsat {f : Addr} {fd : FuncData} (F : Fun K "_law_signs_at" "_law_signs_at" sSignsAt f fd) (B : Blt mg) (integers : Own P w K mg base CX0 3 "_law_integers" ["_law_signs"] (spIntegers K)) : FnOk P w K mg base CX0 4 f fd ["_law_words", "_law_hand"] (spSignsAt K) := by
  refine F.ok scSignsAt (fun vs H Q E h => ?_) (fun cdv A outer s0 H vs Q E hr h => ?_)
  · obtain ⟨wa, a, ws, hd, rfl, _⟩ := h
    rfl
  · obtain ⟨wa, a, ws, hd, rfl, hw, lw, ha, ok, lh, q⟩ := h
    refine ⟨_, (pss_cons (ps_if (pt_cmpR op_lt (pe_callB call_len_seq (by rfl) B.len_ (by decide +kernel) (pa_cons (pv 1) pa_nil)) pe_int (nomark _)) (pss_one (ps_ret (pe_lst (pa_cons pe_non pa_nil)))) pss_nil)
      (pss_cons (ps_set (i := 2) scSignsAt.nd rfl (Or.inl rfl) (pe_call integers.g hr rfl integers.mg integers.kp integers.b .nil pass0 (pa_cons (pv 1) pa_nil)))
      (pss_one (ps_ret (pe_op op_cat (pe_op op_cat (pv 0) (pe_callB cr_sorted (by rfl) B.sorted_ (by decide +kernel) (pa_cons (pe_lc (own := [("_law_k", 3)]) (g := gName 3) (tt := tYes) rfl scSignsAt.nd (pi_seq (pv 2))
          (blkOk_by (own := [("_law_k", 3)]) (N := ["_law_words", "_law_hand", "_law_known", "_law_k"]) (sc := defScope sSignsAt) (by decide +kernel))
          (fun _ _ _ _ _ => (pg_name (i := 3) scSignsAt.nd rfl (Or.inl rfl))) (fun _ _ _ _ _ => pts_nil)
          (fun _ _ _ _ _ => (pe_callTy call_int1 (by rfl) B.int_ (by decide +kernel) (pa_cons (pv 3) pa_nil)))) pa_nil))) (pe_lst (pa_cons (pe_op op_add (pe_callB call_len_seq (by rfl) B.len_ (by decide +kernel) (pa_cons (pv 2) pa_nil)) pe_int) (pa_cons pe_non pa_nil)))))))), ?_⟩
    refine ⟨_, rfl, a, _, rfl, .inr ha, _, _, rfl, rfl, _, rfl, if_is (fun e => ?_) (fun e => ?_)⟩
    · refine ⟨by show 1 ≤ sizeLine; decide, fun l nl => ?_⟩
      have e' := of_decide_eq_true e
      rw [List.length_map] at e'
      refine q l ((holdK [] hd).mergeSort (· ≤ ·)) _ (List.mergeSort_perm _ _) ?_ ?_ (same_new nl)
      · exact pw_sorted _
      · unfold lSignsAt
        rw [if_pos e']
        exact upd_same
    · have e' := of_decide_eq_false e
      rw [List.length_map] at e'
      have hk := holdK_len [] hd
      have hk : (holdK [] hd).length ≤ 20 := by
        have : ([] : List Int).length = 0 := rfl
        omega
      refine ⟨_, rfl, a, hd, rfl, ha, ok, by omega, fun ln H1 h1 s1 => ?_⟩
      refine ⟨_, rfl, _, rfl, ?_⟩
      refine seq_opt (.inl (.inl (.inl h1))) (by rw [List.length_map]; omega) (fun i => (holdK [] hd)[i]?.bind fun k => some (V.int k)) ?hw (fun i x hx G sG => ?_) fun D H2 nD hD s2 => ?_
      case hw => intro _; rfl
      · rw [List.getElem?_map] at hx
        cases ek : (holdK [] hd)[i]? with
        | none =>
          rw [ek] at hx
          cases hx
        | some kk =>
          rw [ek] at hx
          cases hx
          refine ⟨fun R hR => hR G (Same.refl G), fun y hy G2 s2 R hR => ?_⟩
          cases hy
          exact ⟨_, rfl, .inl ⟨_, rfl, hR G2 (Same.refl G2)⟩⟩
      rw [List.length_map, range_fm] at hD
      have e1 : (holdK [] hd).filterMap (fun k => some (V.int k)) = (holdK [] hd).map V.int := by
        rw [List.filterMap_eq_map']
      rw [e1] at hD
      refine ⟨D, holdK [] hd, rfl, .inl (.inl hD), by omega, fun ns p hp hs np => ?_⟩
      have s3 := s2.trans (same_new (o := .lst (ns.map V.int)) np)
      have u3 : (upd H2 p (.lst (ns.map V.int))) p = some (.lst (ns.map V.int)) := upd_same
      generalize upd H2 p (.lst (ns.map V.int)) = H3 at s3 u3 ⊢
      have ln1 := hp.length_eq
      refine ⟨wa, p, _, _, rfl, rfl, s3 _ _ (s1 _ _ hw), u3, size_ok (by rw [List.length_map, List.length_map]; omega), fun l4 n4 => ?_⟩
      have s4 := s3.trans (same_new (o := .lst (ws.map V.str ++ ns.map V.int)) n4)
      have u4 : (upd H3 l4 (.lst (ws.map V.str ++ ns.map V.int))) l4 = some (.lst (ws.map V.str ++ ns.map V.int)) := upd_same
      generalize upd H3 l4 (.lst (ws.map V.str ++ ns.map V.int)) = H4 at s4 u4 ⊢
      refine ⟨_, rfl, ln, _, rfl, .inl (.inl (.inl (s4 _ _ h1))), _, _, rfl, rfl, by show 2 ≤ sizeLine; decide, fun l5 n5 => ?_⟩
      rw [List.length_map]
      have s5 := s4.trans (same_new (o := .lst [.int (((holdK [] hd).length : Int) + 1), .non]) n5)
      have u45 := same_new (o := .lst [.int (((holdK [] hd).length : Int) + 1), .non]) n5 _ _ u4
      have u5 : (upd H4 l5 (.lst [.int (((holdK [] hd).length : Int) + 1), .non])) l5 = some (.lst [.int (((holdK [] hd).length : Int) + 1), .non]) := upd_same
      generalize upd H4 l5 (.lst [.int (((holdK [] hd).length : Int) + 1), .non]) = H5 at s5 u5 u45 ⊢
      refine ⟨l4, l5, _, _, rfl, rfl, u45, u5, ?_, fun l6 n6 => ?_⟩
      · refine size_ok ?_
        rw [List.length_append, List.length_map, List.length_map]
        show _ + 2 ≤ 1000000
        omega
      refine q l6 ns _ hp hs ?_ ((s1.trans s5).trans (same_new n6))
      rw [upd_same]
      unfold lSignsAt
      rw [if_neg e', List.map_append, List.map_append, List.map_map, List.map_map]
      rfl
end
end RL

-- FROM law_k18_rows_listed
namespace RL
open PySem L2 SX AddrMath VA PySem.W GR TxSet StX
theorem two_ints {ns : List Int} (hp : ns.Perm [1, 2]) (hs : ns.Pairwise (· ≤ ·)) : ns = [1, 2] := by
  have hl := hp.length_eq
  match ns, hl, hp, hs with
  | [x, y], _, hp, hs =>
    have hx : x ∈ [1, 2] := hp.mem_iff.mp (List.mem_cons_self ..)
    have hy : y ∈ [1, 2] := hp.mem_iff.mp (List.mem_cons_of_mem _ (List.mem_cons_self ..))
    have h1 : (1 : Int) ∈ [x, y] := hp.mem_iff.mpr (by decide)
    have h2 : (2 : Int) ∈ [x, y] := hp.mem_iff.mpr (by decide)
    have hxy : x ≤ y := (List.pairwise_cons.mp hs).1 y (List.mem_singleton.mpr rfl)
    simp only [List.mem_cons, List.not_mem_nil, or_false] at hx hy h1 h2
    have e1 : x = 1 := by omega
    have e2 : y = 2 := by omega
    rw [e1, e2]
theorem signs_eq {ws : List Str} {h : List Key} {ns : List Int} (hh : h ∈ handsL ws) (hp : ns.Perm (holdK [] h)) (hs : ns.Pairwise (· ≤ ·)) : lSignsAt ws h ns = if (h.length : Int) < 2 then [none] else (nextS ws h).map some ++ [none] := by
  unfold lSignsAt
  by_cases c : (h.length : Int) < 2
  · rw [if_pos c, if_pos c]
  · rw [if_neg c, if_neg c]
    rcases List.mem_append.mp hh with hh | hh
    · rw [List.mem_singleton.mp hh] at c
      exact absurd (by decide) c
    rcases List.mem_append.mp hh with hh | hh
    · obtain ⟨k', _, rfl⟩ := List.mem_map.mp hh
      exact absurd (show ((1 : Nat) : Int) < 2 by decide) c
    · obtain ⟨h1, hh1, hh2⟩ := List.mem_flatMap.mp hh
      obtain ⟨k2, hk2, rfl⟩ := List.mem_map.mp hh2
      obtain ⟨k1, hk1, rfl⟩ := List.mem_map.mp hh1
      have none_ : ∀ {m : List Key}, holdK [] ([k1] ++ [k2]) = [] → nextS ws ([k1] ++ [k2]) = ws.map kW ++ [kI 1] → ((ws.map fun z => some (kW z)) ++ ns.map (fun i => some (kI i))) ++ [some (kI (((holdK [] ([k1] ++ [k2])).length : Nat) + 1)), none] = (nextS ws ([k1] ++ [k2])).map some ++ [none] := fun {m} e1 e2 => by
        rw [e1] at hp ⊢
        rw [List.perm_nil.mp hp, e2, List.map_append, List.map_map]
        simp only [List.map_nil, List.append_nil, List.append_assoc]
        rfl
      have one_ : holdK [] ([k1] ++ [k2]) = [1] → nextS ws ([k1] ++ [k2]) = ws.map kW ++ [kI 1, kI 2] → ((ws.map fun z => some (kW z)) ++ ns.map (fun i => some (kI i))) ++ [some (kI (((holdK [] ([k1] ++ [k2])).length : Nat) + 1)), none] = (nextS ws ([k1] ++ [k2])).map some ++ [none] := fun e1 e2 => by
        rw [e1] at hp ⊢
        rw [List.perm_singleton.mp hp, e2, List.map_append, List.map_map]
        simp only [List.append_assoc]
        rfl
      rcases List.mem_append.mp hk1 with m1 | m1
      · obtain ⟨z, _, rfl⟩ := List.mem_map.mp m1
        rcases List.mem_append.mp hk2 with m2 | m2
        · obtain ⟨y, _, rfl⟩ := List.mem_map.mp m2
          exact none_ (m := []) rfl rfl
        · obtain ⟨i, hi, rfl⟩ := List.mem_map.mp m2
          have hi : i < 1 := List.mem_range.mp hi
          obtain rfl : i = 0 := by omega
          exact one_ rfl rfl
      · obtain ⟨i, hi, rfl⟩ := List.mem_map.mp m1
        have hi : i < 1 := List.mem_range.mp hi
        obtain rfl : i = 0 := by omega
        rcases List.mem_append.mp hk2 with m2 | m2
        · obtain ⟨y, _, rfl⟩ := List.mem_map.mp m2
          exact one_ rfl rfl
        · obtain ⟨i, hi, rfl⟩ := List.mem_map.mp m2
          have hi : i < 2 := List.mem_range.mp hi
          rcases (show i = 0 ∨ i = 1 by omega) with rfl | rfl
          · exact one_ rfl rfl
          · have e1 : holdK [] ([Sum.inl (((0 : Nat) : Int) + 1)] ++ [Sum.inl (((1 : Nat) : Int) + 1)]) = [1, 2] := rfl
            rw [e1] at hp ⊢
            rw [two_ints hp hs]
            have e2 : nextS ws ([Sum.inl (((0 : Nat) : Int) + 1)] ++ [Sum.inl (((1 : Nat) : Int) + 1)]) = ws.map kW ++ [kI 1, kI 2, kI 3] := rfl
            rw [e2, List.map_append, List.map_map]
            simp only [List.append_assoc]
            rfl
/-- the rows of a hand -/
def atHand (ws : List Str) (h : List Key) : List Pr := (if (h.length : Int) < 2 then [none] else (nextS ws h).map some ++ [none]).map fun s => (h, s)
theorem pairs_eq (ws : List Str) : (handsL ws).flatMap (atHand ws) = pairsL ws := by
  have len2 : ∀ h ∈ longL ws, (h.length : Int) = 2 := fun h hh => by
    obtain ⟨h1, hh1, hh2⟩ := List.mem_flatMap.mp hh
    obtain ⟨k2, hk2, rfl⟩ := List.mem_map.mp hh2
    obtain ⟨k1, hk1, rfl⟩ := List.mem_map.mp hh1
    rfl
  have len1 : ∀ h ∈ shortL ws, (h.length : Int) = 1 := fun h hh => by
    obtain ⟨k1, hk1, rfl⟩ := List.mem_map.mp hh
    rfl
  have fm1 : ∀ l : List (List Key), (∀ h ∈ l, (h.length : Int) < 2) → l.flatMap (atHand ws) = l.filterMap (fun h => if (h.length : Int) < 2 then some ((h, none) : Pr) else none) ∧ l.filterMap (fun h => if (h.length : Int) = 2 then some h else none) = [] := by
    intro l
    induction l with
    | nil => exact fun _ => ⟨rfl, rfl⟩
    | cons x r ih =>
      intro hl
      have hx := hl x (List.mem_cons_self ..)
      obtain ⟨i1, i2⟩ := ih fun y hy => hl y (List.mem_cons_of_mem _ hy)
      rw [List.flatMap_cons, List.filterMap_cons, List.filterMap_cons, i1, i2, if_pos hx, if_neg (by omega)]
      unfold atHand
      rw [if_pos hx]
      exact ⟨rfl, rfl⟩
  have fm2 : ∀ l : List (List Key), (∀ h ∈ l, (h.length : Int) = 2) → l.flatMap (atHand ws) = l.flatMap (behindL ws) ∧ l.filterMap (fun h => if (h.length : Int) < 2 then some ((h, none) : Pr) else none) = [] ∧ l.filterMap (fun h => if (h.length : Int) = 2 then some h else none) = l := by
    intro l
    induction l with
    | nil => exact fun _ => ⟨rfl, rfl, rfl⟩
    | cons x r ih =>
      intro hl
      have hx := hl x (List.mem_cons_self ..)
      obtain ⟨i1, i2, i3⟩ := ih fun y hy => hl y (List.mem_cons_of_mem _ hy)
      rw [List.flatMap_cons, List.flatMap_cons, List.filterMap_cons, List.filterMap_cons, i1, i2, i3, if_pos hx, if_neg (by omega)]
      unfold atHand behindL
      rw [if_neg (by omega)]
      exact ⟨rfl, rfl, rfl⟩
  have h1 : ∀ h ∈ [[]] ++ shortL ws, (h.length : Int) < 2 := fun h hh => by
    rcases List.mem_append.mp hh with hh | hh
    · rw [List.mem_singleton.mp hh]
      decide
    · have := len1 h hh
      omega
  obtain ⟨a1, a2⟩ := fm1 _ h1
  obtain ⟨b1, b2, b3⟩ := fm2 _ len2
  unfold pairsL endsL wholeL handsL
  rw [← List.append_assoc]
  clear h1 fm1 fm2
  generalize [[]] ++ shortL ws = A at a1 a2 ⊢
  rw [List.flatMap_append, List.filterMap_append, List.filterMap_append, a1, a2, b1, b2, b3, List.append_nil, List.nil_append]
def lRowsL (ws sts : List Str) : List Row := sts.flatMap fun z => ((handsL ws).flatMap (atHand ws)).map fun p => (z, p)
theorem rows_eq (ws sts : List Str) : lRowsL ws sts = rowsL ws sts := by
  unfold lRowsL rowsL
  rw [pairs_eq]
theorem seqT_keep {K : Frag} {a : Addr} {H H' : Hp} {xs : List V} (s : Same H H') (h : SqT K H a xs) : SqT K H' a xs := same_seqT s h
section
variable {P : Program} {w : World} {K : Frag} {mg : Str → Option Value} {base : Heap}
/-! ### _law_rows: slots _law_words 0, _law_states 1, _law_found 2, _law_state 3, _law_hand 4, _law_sign 5 cells _law_hand,_law_state -/
abbrev sLRows : Stmt := top 73
abbrev NLR : List Str := ["_law_words", "_law_states", "_law_found", "_law_state", "_law_hand", "_law_sign"]
theorem scLRows : FnScope NLR ["_law_words", "_law_states"] (defScope sLRows) := ⟨rfl, rfl, rfl, by decide +kernel, rfl, by decide +kernel, by decide +kernel⟩
def spLRows (K : Frag) : Sp := fun vs H Q _ => ∃ (wa sa : Addr) (ws sts : List Str), vs = [.ref wa, .ref sa] ∧ H wa = some (.lst (ws.map V.str)) ∧ H sa = some (.lst (sts.map V.str)) ∧ (∀ z ∈ ws, wrd z = true) ∧ ws.length ≤ 6 ∧ sts.length ≤ 12 ∧
  ∀ l xs H', H' l = some (.lst xs) → AllR (rRow K) (rowsL ws sts) xs H' → Same H H' → Q (.ref l) H'
theorem ok_lrows {f : Addr} {fd : FuncData} (F : Fun K "_law_rows" "_law_rows" sLRows f fd) (lhands : Own P w K mg base CX0 2 "_law_hands" ["_law_words"] (spLHands K)) (signs_at : Own P w K mg base CX0 4 "_law_signs_at" ["_law_words", "_law_hand"] (spSignsAt K)) : FnOk P w K mg base CX0 5 f fd ["_law_words", "_law_states"] (spLRows K) := by
  refine F.ok scLRows (fun vs H Q E h => ?_) (fun cdv A outer s0 H vs Q E hr h => ?_)
  · obtain ⟨wa, sa, ws, sts, rfl, _⟩ := h
    rfl
  · obtain ⟨wa, sa, ws, sts, rfl, hw, hs, ok, lw, ls, q⟩ := h
    refine ⟨_, (pss_cons (ps_set (i := 2) scLRows.nd rfl (Or.inl rfl) (pe_lst pa_nil))
      (pss_cons (ps_for PassesOwn.never rfl (pi_seq (pv 1)) (pg_name (i := 3) scLRows.nd rfl (Or.inr rfl))
        (pss_one (ps_for PassesOwn.never rfl (pi_seq (pe_call lhands.g (hr.mono (by decide)) rfl lhands.mg lhands.kp lhands.b .nil pass0 (pa_cons (pv 0) pa_nil))) (pg_name (i := 4) scLRows.nd rfl (Or.inr rfl))
          (pss_one (ps_set (i := 2) scLRows.nd rfl (Or.inl rfl) (pe_op op_cat (pv 2) (pe_lc (own := [("_law_sign", 5)]) (g := gName 5) (tt := tYes) rfl scLRows.nd (pi_seq (pe_call signs_at.g hr rfl signs_at.mg signs_at.kp signs_at.b .nil pass0 (pa_cons (pv 0) (pa_cons (pv 4) pa_nil))))
          (blkOk_by (own := [("_law_sign", 5)]) (N := NLR) (sc := defScope sLRows) (by decide +kernel))
          (fun _ _ _ _ _ => (pg_name (i := 5) scLRows.nd rfl (Or.inl rfl))) (fun _ _ _ _ _ => pts_nil)
          (fun _ _ _ _ _ => (pe_tup (pa_cons (pv 3) (pa_cons (pv 4) (pa_cons (pv 5) pa_nil))))))))))))
      (pss_one (ps_ret (pv 2))))), ?_⟩
    have lenA : ∀ h ∈ handsL ws, (atHand ws h).length ≤ 12 := fun h hh => by
      unfold atHand
      rw [List.length_map]
      have := nextS_len (ws := ws) (ks := h) (n := 2) (hands_ok ok h hh).1
      split
      · show 1 ≤ 12
        decide
      · rw [List.length_append, List.length_map]
        show _ + 1 ≤ 12
        omega
    have lh := hands_len ok (by omega)
    have lh' : (handsL ws).length ≤ 78 := by
      have : (ws.length + 1) * (ws.length + 2) ≤ 7 * 8 := Nat.mul_le_mul (by omega) (by omega)
      omega
    have lenP : ((handsL ws).flatMap (atHand ws)).length ≤ 1000 := by
      have := flat_len (handsL ws) (atHand ws) 12 lenA
      omega
    refine ⟨Nat.zero_le _, fun l1 n1 => ?_⟩
    have s1 := same_new (o := .lst []) n1
    have u1 : (upd H l1 (.lst [])) l1 = some (.lst []) := upd_same
    generalize upd H l1 (.lst []) = H1 at s1 u1 ⊢
    have hs1 := s1 _ _ hs
    refine ⟨_, rfl, sa, rfl, .inl ⟨⟨_, .inl (.inl hs1)⟩, for_it (walk_list (xs := sts.map V.str)) (fun i σ G => Same H1 G ∧ ∃ (lf : Addr) (xs : List V) (o3 o4 o5 : Option V), σ = [some (.ref wa), some (.ref sa), some (.ref lf), o3, o4, o5] ∧ G lf = some (.lst xs) ∧ AllR (rRow K) (lRowsL ws (sts.take i)) xs G) ⟨Same.refl _, l1, [], none, none, none, rfl, u1, rfl, fun k b y e _ => by rw [List.take_zero] at e; cases e⟩ (fun i σ G _ h => .inl (.inl (h.1 _ _ hs1))) ?_ ?_⟩⟩
    · rintro i x σ G1 G2 hi ⟨sG, lf, xs, o3, o4, o5, rfl, hlf, hr1⟩ ⟨rfl, hx⟩
      rw [List.length_map] at hi
      have ek := List.getElem?_eq_getElem hi
      rw [List.getElem?_map, ek] at hx
      cases hx
      have etk : sts.take (i + 1) = sts.take i ++ [sts[i]] := by rw [List.take_add_one, ek]; rfl
      generalize sts[i] = z at etk ek
      have hwG := sG _ _ (s1 _ _ hw)
      refine ⟨_, rfl, wa, ws, rfl, hwG, by omega, fun lh0 hx0 G3 hh0 rh0 s3 => ?_⟩
      rw [hands_eq] at rh0
      have lx0 := rh0.1
      refine ⟨lh0, rfl, .inl ⟨⟨_, .inl (.inl hh0)⟩, for_it (walk_list (xs := hx0)) (fun j σ G => Same G3 G ∧ ∃ (lf : Addr) (xs : List V) (o4 o5 : Option V), σ = [some (.ref wa), some (.ref sa), some (.ref lf), some (.str z), o4, o5] ∧ G lf = some (.lst xs) ∧ AllR (rRow K) (lRowsL ws (sts.take i) ++ (((handsL ws).take j).flatMap (atHand ws)).map fun p => (z, p)) xs G) ⟨Same.refl _, lf, xs, o4, o5, rfl, s3 _ _ hlf, ?_⟩ (fun i σ G _ h => .inl (.inl (h.1 _ _ hh0))) ?_ ?_⟩⟩
      · rw [List.take_zero]
        show AllR _ (_ ++ []) _ _
        rw [List.append_nil]
        exact hr1.imp fun b y => rRow_same s3
      · rintro j y σ G4 G5 hj ⟨sG4, lf2, xs2, o4, o5, rfl, hlf2, hr2⟩ ⟨rfl, hy⟩
        have hj' : j < (handsL ws).length := by rw [← lx0]; exact hj
        have eh := List.getElem?_eq_getElem hj'
        have mem := List.getElem_mem hj'
        obtain ⟨ha, rfl, hT⟩ := rh0.2 j _ _ eh hy
        have etj : (handsL ws).take (j + 1) = (handsL ws).take j ++ [(handsL ws)[j]] := by rw [List.take_add_one, eh]; rfl
        generalize (handsL ws)[j] = h at eh hT etj mem
        obtain ⟨okh, len2⟩ := hands_ok ok h mem
        have hT5 := same_seqT sG4 hT
        refine ⟨_, rfl, _, rfl, _, rfl, wa, ha, ws, h, rfl, sG4 _ _ (s3 _ _ hwG), by omega, hT5, fun k hk => okN_mono (by decide) (okh k hk), by omega, fun ls ns G6 hp hso hls s6 => ?_⟩
        rw [signs_eq mem hp hso] at hls
        have la := lenA h mem
        generalize hsg : (if (h.length : Int) < 2 then [none] else (nextS ws h).map some ++ [none]) = sg at hls
        have esg : atHand ws h = sg.map fun s => (h, s) := by
          unfold atHand
          rw [hsg]
        have lsg : sg.length ≤ 12 := by
          rw [esg, List.length_map] at la
          exact la
        refine seq_flt (.inl (.inl (.inl hls))) (by rw [List.length_map]; omega) (fun i => sg[i]?.map fun s => ((z, h, s) : Row)) (rRow K) (fun b y H H' => rRow_same) (fun D _ b y H H' zs => rRow_but) ?hw1 (fun i x hx G sG => ?_) fun D G7 ys nD hD hr3 s7 => ?_
        case hw1 => intro _; rfl
        · rw [List.getElem?_map] at hx
          cases ek : sg[i]? with
          | none =>
            rw [ek] at hx
            cases hx
          | some k =>
            rw [ek] at hx
            cases hx
            refine ⟨fun R hR => hR G (Same.refl G), fun e he G2 s2 R hR => ?_⟩
            cases he
            exact ⟨_, rfl, _, rfl, _, rfl, by show 3 ≤ sizeLine; decide, fun t nt => hR _ _ (same_new nt) ⟨t, ha, rfl, .inl (.inl upd_same), same_seqT (((s6.trans sG).trans s2).trans (same_new nt)) hT5⟩⟩
        rw [List.length_map, range_mapO] at hr3
        have l3 := hr3.1
        rw [List.length_map] at l3
        have l2 := hr2.1
        have b1 := flat_len (sts.take i) (fun z => ((handsL ws).flatMap (atHand ws)).map fun p => ((z, p) : Row)) 1000 fun x _ => by
          rw [List.length_map]
          exact lenP
        have b2 := flat_len ((handsL ws).take j) (atHand ws) 12 fun x hx => lenA x (List.mem_of_mem_take hx)
        have b3 : (sts.take i).length ≤ 12 := by
          rw [List.length_take]
          omega
        have b4 : ((handsL ws).take j).length ≤ 78 := by
          rw [List.length_take]
          omega
        have lxs : xs2.length ≤ 20000 := by
          rw [List.length_append, List.length_map] at l2
          unfold lRowsL at l2
          omega
        have s67 := s6.trans s7
        refine ⟨lf2, D, _, _, rfl, rfl, s67 _ _ hlf2, hD, size_ok (by omega), fun lg nlg => ?_⟩
        have s8 := same_new (o := .lst (xs2 ++ ys)) nlg
        refine ⟨(sG4.trans s67).trans s8, lg, xs2 ++ ys, _, _, rfl, upd_same, ?_⟩
        rw [etj, List.flatMap_append, List.flatMap_singleton, List.map_append, ← List.append_assoc, esg, List.map_map]
        exact (hr2.imp fun b y => rRow_same (s67.trans s8)).app (hr3.imp fun b y => rRow_same s8)
      · rintro σ G4 ⟨sG4, lf2, xs2, o4, o5, rfl, hlf2, hr2⟩
        refine ⟨(sG.trans s3).trans sG4, lf2, xs2, _, _, _, rfl, hlf2, ?_⟩
        rw [etk]
        unfold lRowsL at hr2 ⊢
        rw [List.flatMap_append, List.flatMap_singleton]
        rw [lx0, List.take_length] at hr2
        exact hr2
    · rintro σ G1 ⟨sG, lf, xs, o3, o4, o5, rfl, hlf, hr1⟩
      rw [List.length_map, List.take_length, rows_eq] at hr1
      exact ⟨_, rfl, q lf xs G1 hlf hr1 (s1.trans sG)⟩
end
end RL

namespace RL
open PySem L2 SX AddrMath VA PySem.W GR TxSet
/-! ## rules that the law draws -/
def PlainS (K : Frag) (H : Hp) (a : Addr) (s : Said) : Prop := PlainAt K H a s.1 s.2.1 (goalSD s.2.2.1) s.2.2.2
/-- a rule of these states and these words -/
def ofS (ss ws : List Str) (s : Said) : Prop := s.1 ∈ ss ∧ (∀ g, s.2.2.1 = some g → g.1 ∈ ss) ∧ ∀ u ∈ wordsS s, u ∈ ws
def PlainsAt (K : Frag) (H : Hp) (ss ws : List Str) (as : List Addr) (L : List Said) : Prop := as.length = L.length ∧ ∀ (i : Nat) (a : Addr) (s : Said), as[i]? = some a → L[i]? = some s → PlainS K H a s ∧ okS s ∧ ofS ss ws s
theorem goal_at_D {K : Frag} {H : Hp} {gV : V} {gd : PyData} (h : GoalAt K H gV gd) : GoalAt K H gV (goalSD (goalP gd)) := by
  rw [goalS_P]
  match gd, h with
  | .none, h => exact h
  | .tuple [.str y, b], ⟨g, tb, e, h1, h2⟩ => exact ⟨g, tb, e, h1, h2⟩
theorem plain_S {K : Frag} {H : Hp} {a : Addr} {z : Str} {es : List PyData} {gd : PyData} {x : Bool} (h : PlainAt K H a z es gd x) : PlainS K H a (z, es, goalP gd, x) := by
  obtain ⟨tP, gV, h1, h2, h3⟩ := h
  exact ⟨tP, gV, h1, h2, goal_at_D h3⟩
theorem ok_S {z : Str} {es : List PyData} {gd : PyData} {x : Bool} (ok : okRule z es gd) : okS (z, es, goalP gd, x) := by
  obtain ⟨o1, o2, o3, o4⟩ := ok
  refine ⟨o1, o2, o3, ?_⟩
  show isGoalD (goalSD (goalP gd)) (.tuple es) = true
  rcases goal_parts o4 with rfl | ⟨y, b, rfl, gy, gb⟩
  · rfl
  · obtain ⟨b1, b2, b3⟩ := areEnt_parts gb
    have o4' : (isW y.cps.toList && (areEntD 4 b && (itemsD b).all fun e => isWordD e || inD e es)) = true := o4
    rw [Bool.and_eq_true, Bool.and_eq_true] at o4'
    show (isW y.cps.toList && (areEntD 4 (.tuple (itemsD b)) && (itemsD b).all fun e => isWordD e || inD e es)) = true
    have ar : areEntD 4 (.tuple (itemsD b)) = true := by
      show (true && (decide (((itemsD b).length : Int) ≤ 4) && (itemsD b).all isEntD)) = true
      rw [b3, decide_eq_true (by omega)]
      rfl
    rw [o4'.1, ar, o4'.2.2]
    rfl
theorem beg_D {z : Str} {es : List PyData} {gd : PyData} (ok : okRule z es gd) : begD (goalSD (goalP gd)) = begD gd := by
  rcases goal_parts ok.2.2.2 with rfl | ⟨y, b, rfl, _, _⟩ <;> rfl
theorem of_S {ss ws : List Str} {z : Str} {es : List PyData} {gd : PyData} {x : Bool} (ok : okRule z es gd) (h1 : z ∈ ss) (h2 : ∀ y b, gd = .tuple [.str y, b] → y ∈ ss) (h3 : ∀ u, PyData.str u ∈ es ++ begD gd → u ∈ ws) : ofS ss ws (z, es, goalP gd, x) := by
  refine ⟨h1, fun g e => ?_, fun u hu => ?_⟩
  · rcases goal_parts ok.2.2.2 with rfl | ⟨y, b, rfl, _, _⟩
    · cases e
    · cases e
      exact h2 y b rfl
  · have hu' := mem_strsD.mp hu
    rw [show begD (goalSD (z, es, goalP gd, x).2.2.1) = begD gd from beg_D ok] at hu'
    exact h3 u hu'
theorem lim_none {ss ws : List Str} {L : List Said} (h : ∀ s ∈ L, ofS ss ws s) (l12 : L.length ≤ 12) (l1 : ss.length ≤ 6) (l2 : ws.length ≤ 6) : limS L = none := by
  have h1 : (dd (statesL L)).length ≤ ss.length := nd_le (dd_nd _) fun z hz => by
    have hz := dd_mem.mp hz
    unfold statesL at hz
    rcases List.mem_append.mp hz with hz | hz
    · obtain ⟨s, hs, rfl⟩ := List.mem_map.mp hz
      exact (h s hs).1
    · obtain ⟨s, hs, e⟩ := List.mem_filterMap.mp hz
      cases e2 : s.2.2.1 with
      | none => rw [e2] at e; cases e
      | some g =>
        rw [e2] at e
        cases e
        exact (h s hs).2.1 g e2
  have h2 : (dd (wordsL L)).length ≤ ws.length := nd_le (dd_nd _) fun z hz => by
    have hz := dd_mem.mp hz
    obtain ⟨s, hs, hu⟩ := List.mem_flatMap.mp hz
    exact (h s hs).2.2 z hu
  unfold limS
  rw [if_neg (by omega), if_neg (by omega), if_neg (by omega)]
theorem plainS_kp {K : Frag} {H H' : Hp} {a : Addr} {s : Said} (h : PlainS K H a s) (k : Kp H H') : PlainS K H' a s := by
  obtain ⟨tP, gV, h1, h2, h3⟩ := h
  exact ⟨tP, gV, k.sqT h1, k.sqT h2, goal_at_kp h3 k⟩
theorem plainsAt_kp {K : Frag} {H H' : Hp} {ss ws : List Str} {as : List Addr} {L : List Said} (h : PlainsAt K H ss ws as L) (k : Kp H H') : PlainsAt K H' ss ws as L := ⟨h.1, fun i a s e1 e2 => ⟨plainS_kp (h.2 i a s e1 e2).1 k, (h.2 i a s e1 e2).2⟩⟩
theorem plainS_but {K : Frag} {D a : Addr} {H H' : Hp} {xs : List V} {s : Said} (hD : H D = some (.lst xs)) (b : But D H H') (h : PlainS K H a s) : PlainS K H' a s := by
  obtain ⟨tP, gV, h1, h2, hG⟩ := h
  have ne : ∀ {a : Addr} {o : HO}, H a = some o → (∀ ys, o ≠ .lst ys) → a ≠ D := fun e n z => by
    rw [z, hD] at e
    exact n xs (Option.some.inj e).symm
  have kt : ∀ {t : Addr} {ys : List V}, SqT K H t ys → SqT K H' t ys := fun {t ys} h => by
    rcases h with (h | ⟨u, h⟩) | h
    · exact .inl (.inl (b _ _ h (ne h fun _ q => by cases q)))
    · exact .inl (.inr ⟨u, b _ _ h (ne h fun _ q => by cases q)⟩)
    · exact .inr h
  have kg : GoalAt K H' gV (goalSD s.2.2.1) := by
    obtain ⟨z, es, g, x⟩ := s
    match g, hG with
    | none, h => exact h
    | some (y, c), h =>
      obtain ⟨g, tb, e, h1, h2⟩ := h
      exact ⟨g, tb, e, b _ _ h1 (ne h1 fun _ q => by cases q), kt h2⟩
  exact ⟨tP, gV, kt h1, kt h2, kg⟩
theorem plains_snoc {K : Frag} {a : Addr} {H : Hp} {ss ws : List Str} {as : List Addr} {L : List Said} {s : Said} (h : PlainsAt K H ss ws as L) (k : PlainS K H a s ∧ okS s ∧ ofS ss ws s) : PlainsAt K H ss ws (as ++ [a]) (L ++ [s]) := by
  refine ⟨by rw [List.length_append, List.length_append, h.1]; rfl, fun i q r hq hr => ?_⟩
  rcases Nat.lt_or_ge i as.length with c | c
  · rw [List.getElem?_append_left c] at hq
    rw [List.getElem?_append_left (by rw [← h.1]; exact c)] at hr
    exact h.2 i q r hq hr
  · rw [List.getElem?_append_right c] at hq
    rw [List.getElem?_append_right (by rw [← h.1]; exact c)] at hr
    have e0 : i - as.length = 0 := by
      rcases Nat.eq_zero_or_pos (i - as.length) with e | e
      · exact e
      · rw [List.getElem?_eq_none (by show 1 ≤ i - as.length; exact e)] at hq
        cases hq
    rw [e0] at hq
    rw [← h.1, e0] at hr
    cases hq
    cases hr
    exact k
theorem plainsAt_but {K : Frag} {D : Addr} {H H' : Hp} {xs : List V} {ss ws : List Str} {as : List Addr} {L : List Said} (hD : H D = some (.lst xs)) (b : But D H H') (h : PlainsAt K H ss ws as L) : PlainsAt K H' ss ws as L := ⟨h.1, fun i a s e1 e2 => ⟨plainS_but hD b (h.2 i a s e1 e2).1, (h.2 i a s e1 e2).2⟩⟩
theorem rule_S {K : Frag} {C p : Addr} {H : Hp} {s : Said} (h : RuleAt K C H p s.1 (.tuple s.2.1) (goalSD s.2.2.1) s.2.2.2) : RuleS K C H p s := h
end RL

-- FROM law_k18_rows_listed
namespace RL
open PySem L2 SX AddrMath VA PySem.W GR TxSet StX
theorem strsD_app (a b : List PyData) : strsD (a ++ b) = strsD a ++ strsD b := List.filterMap_append
theorem ent_vx {K : Frag} {H : Hp} {d : PyData} (h : isEntD d = true) : Vx K H (entV d) d := by
  cases d with
  | int i => exact .inl ⟨.int i, by rw [okD]⟩
  | str z =>
    refine str_vx ?_
    unfold isEntD at h
    rw [Bool.or_eq_true] at h
    rcases h with h | h
    · exact h
    · cases h
  | _ => cases h
theorem strsD_of (ds : List PyData) (h : ds.all isEntD = true) : (ds.filterMap fun d => if isStrD d then some (entV d) else none) = (strsD ds).map V.str := by
  induction ds with
  | nil => rfl
  | cons d r ih =>
    rw [List.all_cons, Bool.and_eq_true] at h
    unfold strsD at ih ⊢
    rw [List.filterMap_cons, List.filterMap_cons, ih h.2]
    cases d <;> first | rfl | cases h.1
/-- [one for one in entries if isinstance(one, str)] -/
theorem lc_strs {K : Frag} {G : Hp} {t : Addr} {ds : List PyData} {σ : L2.St} {vs : List Nat} {Qd : Addr → Hp → Prop} (hT : SqT K G t (ds.map entV)) (hE : ds.all isEntD = true) (few : ds.length ≤ 100) (hw : ∀ x, wipe ((wipe σ vs).set 3 (some x)) vs = wipe σ vs) (h3 : ∀ x, ((wipe σ vs).set 3 (some x))[3]? = some (some x))
    (fin : ∀ D H', G D = none → H' D = some (.lst ((strsD ds).map V.str)) → Same G H' → Qd D H') :
    ∃ a', V.ref t = V.ref a' ∧ (((∃ ys, SqL K G a' ys) ∧ ∀ D, G D = none → LcGoal (Itl K a') (gName 3) (tB (tCB (rIsi K) (tCons (tVar 3) (tCons (tC (.ty "str")) tNil)))) (tVar 3) vs σ G D (Qd D)) ∨ ((∃ ys, SqT K G a' ys) ∧ ∀ D, G D = none → LcGoal (Itt K a') (gName 3) (tB (tCB (rIsi K) (tCons (tVar 3) (tCons (tC (.ty "str")) tNil)))) (tVar 3) vs σ G D (Qd D))) := by
  refine seq_opt (.inr hT) (by rw [List.length_map]; omega) (fun i => ds[i]?.bind fun d => if isStrD d then some (entV d) else none) hw (fun i x hx G2 sG => ?_) fun D H1 nD hD s1 => ?_
  · rw [List.getElem?_map] at hx
    cases ed : ds[i]? with
    | none =>
      rw [ed] at hx
      cases hx
    | some d =>
      rw [ed] at hx
      cases hx
      have he := List.all_eq_true.mp hE d (List.mem_of_getElem? ed)
      refine ⟨fun R hR => ?_, fun y hy G3 s2 R hR => ?_⟩
      · have hR2 := hR G2 (Same.refl G2)
        refine ⟨_, h3 _, _, _, _, _, isStrD d, rfl, .ty "str", (ent_vx (K := K) (H := G2) he).ty, kitStr d, _, rfl, ?_⟩
        have e9 : ((some d).bind fun d => if isStrD d = true then some (entV d) else none).isSome = isStrD d := by
          show (if isStrD d = true then some (entV d) else none).isSome = _
          cases isStrD d <;> rfl
        rw [e9] at hR2
        exact hR2
      · have hy : (if isStrD d = true then some (entV d) else none) = some y := hy
        cases e : isStrD d with
        | false =>
          rw [e] at hy
          cases hy
        | true =>
          rw [e] at hy
          cases hy
          exact ⟨_, h3 _, hR G3 (Same.refl G3)⟩
  · rw [List.length_map, range_fm, strsD_of ds hE] at hD
    exact fin D H1 nD hD s1
theorem strsD_len (ds : List PyData) : (strsD ds).length ≤ ds.length := List.length_filterMap_le _ _
/-- () if the goal is None, else its beginning -/
def tBegS (K : Frag) : TE := fun σ H Q => ∃ (a tP : Addr) (z : Str) (gV : V) (g : Option (Str × List PyData)) (x : Bool), σ[2]? = some (some (.ref a)) ∧ SqT K H a [.str z, .ref tP, gV, .bl x] ∧ GoalAt K H gV (goalSD g) ∧
  ∀ t H', SqT K H' t ((begD (goalSD g)).map entV) → Same H H' → Q (.ref t) H'
section
variable {P : Program} {w : World} {K : Frag} {mg : Str → Option Value} {base : Heap}
/-! ### _law_ruled: slots _law_rules 0, _law_rule 1 -/
abbrev sRuled : Stmt := top 74
theorem scRuled : FnScope ["_law_rules", "_law_rule"] ["_law_rules"] (defScope sRuled) := ⟨rfl, rfl, rfl, by decide +kernel, rfl, by decide +kernel, by decide +kernel⟩
def spRuled (K : Frag) : Sp := fun vs H Q _ => ∃ (l : Addr) (ss ws : List Str) (as : List Addr) (L : List Said), vs = [.ref l] ∧ H l = some (.lst (as.map V.ref)) ∧ PlainsAt K H ss ws as L ∧ L.length ≤ 100 ∧
  ∀ (sts : List Str) (r : Addr) H', PyProof.Rows.sortedS sts = true → sts.Nodup → (∀ z, z ∈ sts ↔ z ∈ L.map (·.1)) → H' r = some (.lst (sts.map V.str)) → Same H H' → Q (.ref r) H'
theorem ok_ruled {f : Addr} {fd : FuncData} (F : Fun K "_law_ruled" "_law_ruled" sRuled f fd) (B : Blt mg) : FnOk P w K mg base CX0 1 f fd ["_law_rules"] (spRuled K) := by
  refine F.ok scRuled (fun vs H Q E h => ?_) (fun cdv A outer s0 H vs Q E hr h => ?_)
  · obtain ⟨l, ss, ws, as, L, rfl, _⟩ := h
    rfl
  · obtain ⟨l, ss, ws, as, L, rfl, hl, hA, lL, q⟩ := h
    refine ⟨_, (pss_one (ps_ret (pe_srtSet rfl (by rfl) B.sorted_ (by rfl) B.set_ (pe_lc (own := [("_law_rule", 1)]) (g := gName 1) (tt := tYes) rfl scRuled.nd (pi_seq (pv 0))
          (blkOk_by (own := [("_law_rule", 1)]) (N := ["_law_rules", "_law_rule"]) (sc := defScope sRuled) (by decide +kernel))
          (fun _ _ _ _ _ => (pg_name (i := 1) scRuled.nd rfl (Or.inl rfl))) (fun _ _ _ _ _ => pts_nil)
          (fun _ _ _ _ _ => (pe_callTy SkE.call_str_str (by rfl) B.str_ (by decide +kernel) (pa_cons (pe_ix (ix_tupK (K := K) rfl) (pv 1) pe_int (fun _ _ => rfl)) pa_nil))))))), ?_⟩
    refine ⟨_, rfl, ?_⟩
    refine seq_opt (.inl (.inl (.inl hl))) (by rw [List.length_map, hA.1]; omega) (fun i => L[i]?.bind fun s => some (V.str s.1)) ?hw (fun i x hx G sG => ?_) fun D H1 nD hD s1 => ?_
    case hw => intro _; rfl
    · rw [List.getElem?_map] at hx
      cases ea : as[i]? with
      | none =>
        rw [ea] at hx
        cases hx
      | some a =>
        rw [ea] at hx
        cases hx
        have hi : i < L.length := by rw [← hA.1]; exact idx_lt ea
        have es := List.getElem?_eq_getElem hi
        obtain ⟨hP, _, _⟩ := hA.2 i a _ ea es
        rw [es]
        refine ⟨fun R hR => hR G (Same.refl G), fun y hy G2 s2 R hR => ?_⟩
        cases hy
        obtain ⟨tP, gV, h1, _, _⟩ := hP
        exact ⟨_, rfl, a, _, 0, _, rfl, rfl, same_seqT (sG.trans s2) h1, rfl, _, rfl, hR G2 (Same.refl G2)⟩
    rw [List.length_map, hA.1, range_fm] at hD
    have e1 : L.filterMap (fun s => some (V.str s.1)) = (L.map (·.1)).map V.str := by
      rw [List.filterMap_eq_map', List.map_map]
      rfl
    rw [e1] at hD
    exact ⟨D, L.map (·.1), rfl, .inl (.inl hD), by rw [List.length_map]; omega, fun sts p h1 h2 h3 np => q sts p _ h1 h2 h3 upd_same (s1.trans (same_new np))⟩
/-! ### _law_named: slots _law_rules 0, _law_found 1, _law_rule 2, _law_one 3 -/
abbrev sLNamed : Stmt := top 75
abbrev NNm : List Str := ["_law_rules", "_law_found", "_law_rule", "_law_one"]
theorem scLNamed : FnScope NNm ["_law_rules"] (defScope sLNamed) := ⟨rfl, rfl, rfl, by decide +kernel, rfl, by decide +kernel, by decide +kernel⟩
def spLNamed (K : Frag) : Sp := fun vs H Q _ => ∃ (l : Addr) (ss ws : List Str) (as : List Addr) (L : List Said), vs = [.ref l] ∧ H l = some (.lst (as.map V.ref)) ∧ PlainsAt K H ss ws as L ∧ L.length ≤ 100 ∧
  ∀ (us : List Str) (r : Addr) H', PyProof.Rows.sortedS us = true → us.Nodup → (∀ z, z ∈ us ↔ z ∈ wordsL L) → H' r = some (.lst (us.map V.str)) → Same H H' → Q (.ref r) H'
theorem ok_named18 {f : Addr} {fd : FuncData} (F : Fun K "_law_named" "_law_named" sLNamed f fd) (B : Blt mg) : FnOk P w K mg base CX0 1 f fd ["_law_rules"] (spLNamed K) := by
  refine F.ok scLNamed (fun vs H Q E h => ?_) (fun cdv A outer s0 H vs Q E hr h => ?_)
  · obtain ⟨l, ss, ws, as, L, rfl, _⟩ := h
    rfl
  · obtain ⟨l, ss, ws, as, L, rfl, hl, hA, lL, q⟩ := h
    refine ⟨_, (pss_cons (ps_set (i := 1) scLNamed.nd rfl (Or.inl rfl) (pe_lst pa_nil))
      (pss_cons (ps_for PassesOwn.never rfl (pi_seq (pv 0)) (pg_name (i := 2) scLNamed.nd rfl (Or.inl rfl))
        (pss_cons (ps_set (i := 1) scLNamed.nd rfl (Or.inl rfl) (pe_op op_cat (pv 1) (pe_lc (own := [("_law_one", 3)]) (g := gName 3) rfl scLNamed.nd (pi_seq (pe_ix ix_tup (pv 2) pe_int (fun _ _ => rfl)))
          (blkOk_by (own := [("_law_one", 3)]) (N := NNm) (sc := defScope sLNamed) (by decide +kernel))
          (fun _ _ _ _ _ => (pg_name (i := 3) scLNamed.nd rfl (Or.inl rfl))) (fun _ _ _ _ _ => pts_one (pt_val (pe_callB (call_isiK (K := K) rfl) (by rfl) B.isinstance_ (by decide +kernel) (pa_cons (pv 3) (pa_cons (pe_bltn (v := .ty "str") (by rfl) B.str_ (by decide +kernel) rfl) pa_nil)))))
          (fun _ _ _ _ _ => (pv 3)))))
        (pss_one (ps_set (i := 1) scLNamed.nd rfl (Or.inl rfl) (pe_op op_cat (pv 1) (pe_lc (own := [("_law_one", 3)]) (g := gName 3) rfl scLNamed.nd (pi_seq (pe_by (tBegS K) (pe_ifExp (pt_cmpR op_isN (pe_ix ix_tup (pv 2) pe_int (fun _ _ => rfl)) pe_non (nomark _)) (pe_tup pa_nil) (pe_ix ix_tup (pe_ix ix_tup (pv 2) pe_int (fun _ _ => rfl)) pe_int (fun _ _ => rfl))) (fun σ H Q h => ?bg)))
          (blkOk_by (own := [("_law_one", 3)]) (N := NNm) (sc := defScope sLNamed) (by decide +kernel))
          (fun _ _ _ _ _ => (pg_name (i := 3) scLNamed.nd rfl (Or.inl rfl))) (fun _ _ _ _ _ => pts_one (pt_val (pe_callB (call_isiK (K := K) rfl) (by rfl) B.isinstance_ (by decide +kernel) (pa_cons (pv 3) (pa_cons (pe_bltn (v := .ty "str") (by rfl) B.str_ (by decide +kernel) rfl) pa_nil)))))
          (fun _ _ _ _ _ => (pv 3))))))))
      (pss_one (ps_ret (pe_srtSet rfl (by rfl) B.sorted_ (by rfl) B.set_ (pe_lc (own := [("_law_one", 3)]) (g := gName 3) (tt := tYes) rfl scLNamed.nd (pi_seq (pv 1))
          (blkOk_by (own := [("_law_one", 3)]) (N := NNm) (sc := defScope sLNamed) (by decide +kernel))
          (fun _ _ _ _ _ => (pg_name (i := 3) scLNamed.nd rfl (Or.inl rfl))) (fun _ _ _ _ _ => pts_nil)
          (fun _ _ _ _ _ => (pe_callTy SkE.call_str_str (by rfl) B.str_ (by decide +kernel) (pa_cons (pv 3) pa_nil))))))))), ?_⟩
    case bg =>
      obtain ⟨a, tP, z, gV, g, x, e2, h1, hG, fin⟩ := h
      refine ⟨_, e2, a, _, 2, gV, rfl, rfl, h1, rfl, rfl, _, rfl, ?_⟩
      match g, hG, fin with
      | none, hG, fin =>
        cases (show gV = .non from hG)
        exact if_is (fun _ => ⟨Nat.zero_le _, fun t nt => fin t _ (.inl (.inl upd_same)) (same_new nt)⟩) fun e => absurd rfl (of_decide_eq_false e)
      | some (d, bs), hG, fin =>
        obtain ⟨g', tb, rfl, hg, hb⟩ := hG
        refine if_is (fun e => by have := of_decide_eq_true e; cases this) fun _ => ?_
        exact ⟨_, e2, a, _, 2, _, rfl, rfl, h1, rfl, g', _, 1, .ref tb, rfl, rfl, .inl (.inl hg), rfl, fin tb H hb (Same.refl H)⟩
    refine ⟨Nat.zero_le _, fun l1 n1 => ?_⟩
    have s1 := same_new (o := .lst []) n1
    have u1 : (upd H l1 (.lst [])) l1 = some (.lst []) := upd_same
    generalize upd H l1 (.lst []) = H1 at s1 u1 ⊢
    have hl1 := s1 _ _ hl
    refine ⟨_, rfl, l, rfl, .inl ⟨⟨_, .inl (.inl hl1)⟩, for_it (walk_list (xs := as.map V.ref)) (fun i σ G => Same H1 G ∧ ∃ (lf : Addr) (o2 o3 : Option V), σ = [some (.ref l), some (.ref lf), o2, o3] ∧ G lf = some (.lst ((wordsL (L.take i)).map V.str))) ⟨Same.refl _, l1, none, none, rfl, u1⟩ (fun i σ G _ h => .inl (.inl (h.1 _ _ hl1))) ?_ ?_⟩⟩
    · rintro i x σ G1 G2 hi ⟨sG, lf, o2, o3, rfl, hlf⟩ ⟨rfl, hx⟩
      rw [List.length_map] at hi
      have ea := List.getElem?_eq_getElem hi
      rw [List.getElem?_map, ea] at hx
      cases hx
      have hiL : i < L.length := by rw [← hA.1]; exact hi
      have es := List.getElem?_eq_getElem hiL
      obtain ⟨hP, ok, hof⟩ := hA.2 i _ _ ea es
      have etk : L.take (i + 1) = L.take i ++ [L[i]] := by rw [List.take_add_one, es]; rfl
      rw [etk]
      generalize L[i] = s at hP ok hof etk es
      generalize as[i] = a at ea hP
      obtain ⟨tP, gV, h1, h2, h3⟩ := hP
      have sA := s1.trans sG
      have sA := s1.trans sG
      have hb := begS_all ok
      have lb := beg_few ok
      have l2 := ok.2.2.1
      have lw : (wordsL (L.take i)).length ≤ 1000 := by
        have h := flat_len (L.take i) wordsS 6 fun x hx => by
          have okx : okS x := by
            obtain ⟨j, hj, e⟩ := List.getElem_of_mem (List.mem_of_mem_take hx)
            have hja : j < as.length := by rw [hA.1]; exact hj
            rw [← e]
            exact (hA.2 j as[j] L[j] (List.getElem?_eq_getElem hja) (List.getElem?_eq_getElem hj)).2.1
          have := beg_few okx
          exact Nat.le_trans (strsD_len _) this
        have h3 : (L.take i).length ≤ 100 := by
          rw [List.length_take]
          omega
        unfold wordsL
        omega
      refine ⟨_, rfl, _, rfl, a, _, 1, .ref tP, rfl, rfl, same_seqT sA h1, rfl, ?_⟩
      refine lc_strs (same_seqT sA h2) ok.2.1 (by omega) ?hw1 ?hw2 fun D H2 nD hD s2 => ?_
      case hw1 => intro _; rfl
      case hw2 => intro _; rfl
      have e1 := strsD_len s.2.1
      refine ⟨lf, D, _, _, rfl, rfl, s2 _ _ hlf, hD, size_ok (by rw [List.length_map, List.length_map]; omega), fun l3 n3 => ?_⟩
      rw [← List.map_append]
      have s3 := s2.trans (same_new (o := .lst ((wordsL (L.take i) ++ strsD s.2.1).map V.str)) n3)
      have u3 : (upd H2 l3 (.lst ((wordsL (L.take i) ++ strsD s.2.1).map V.str))) l3 = some (.lst ((wordsL (L.take i) ++ strsD s.2.1).map V.str)) := upd_same
      generalize upd H2 l3 (.lst ((wordsL (L.take i) ++ strsD s.2.1).map V.str)) = H3 at s3 u3 ⊢
      have sB := sA.trans s3
      have hG3 : GoalAt K H3 gV (goalSD s.2.2.1) := goal_at_kp h3 (kp_same sB)
      refine ⟨_, rfl, a, tP, s.1, gV, s.2.2.1, s.2.2.2, rfl, same_seqT sB h1, hG3, fun tb H4 hb4 s4 => ?_⟩
      refine lc_strs hb4 hb (by rw [List.length_append] at lb; omega) ?hw3 ?hw4 fun D2 H5 nD2 hD2 s5 => ?_
      case hw3 => intro _; rfl
      case hw4 => intro _; rfl
      have e2 := strsD_len (begD (goalSD s.2.2.1))
      rw [List.length_append] at lb
      refine ⟨l3, D2, _, _, rfl, rfl, s5 _ _ (s4 _ _ u3), hD2, size_ok (by rw [List.length_map, List.length_map, List.length_append]; omega), fun l6 n6 => ?_⟩
      rw [← List.map_append]
      have s6 := same_new (o := .lst (((wordsL (L.take i) ++ strsD s.2.1) ++ strsD (begD (goalSD s.2.2.1))).map V.str)) n6
      refine ⟨((((sG.trans s3).trans s4).trans s5).trans s6), l6, _, _, rfl, ?_⟩
      rw [upd_same]
      congr 3
      unfold wordsL wordsS
      rw [List.flatMap_append, List.flatMap_singleton, strsD_app, List.append_assoc]
    · rintro σ G1 ⟨sG, lf, o2, o3, rfl, hlf⟩
      rw [List.length_map, hA.1, List.take_length] at hlf
      have lw : (wordsL L).length ≤ 1000 := by
        have h := flat_len L wordsS 6 fun x hx => by
          obtain ⟨j, hj, e⟩ := List.getElem_of_mem hx
          have hja : j < as.length := by rw [hA.1]; exact hj
          have okx : okS x := by
            rw [← e]
            exact (hA.2 j as[j] L[j] (List.getElem?_eq_getElem hja) (List.getElem?_eq_getElem hj)).2.1
          exact Nat.le_trans (strsD_len _) (beg_few okx)
        unfold wordsL
        omega
      refine ⟨_, rfl, ?_⟩
      refine seq_opt (.inl (.inl (.inl hlf))) (by rw [List.length_map]; omega) (fun i => (wordsL L)[i]?.bind fun z => some (V.str z)) ?hw5 (fun i x hx G sG => ?_) fun D H9 nD hD s9 => ?_
      case hw5 => intro _; rfl
      · rw [List.getElem?_map] at hx
        cases ez : (wordsL L)[i]? with
        | none =>
          rw [ez] at hx
          cases hx
        | some z =>
          rw [ez] at hx
          cases hx
          refine ⟨fun R hR => hR G (Same.refl G), fun y hy G2 s2 R hR => ?_⟩
          cases hy
          exact ⟨_, rfl, _, rfl, hR G2 (Same.refl G2)⟩
      rw [List.length_map, range_fm] at hD
      have e1 : (wordsL L).filterMap (fun z => some (V.str z)) = (wordsL L).map V.str := by
        rw [List.filterMap_eq_map']
      rw [e1] at hD
      exact ⟨D, wordsL L, rfl, .inl (.inl hD), by omega, fun us p h1 h2 h3 np => q us p _ h1 h2 h3 upd_same (((s1.trans sG).trans s9).trans (same_new np))⟩
end
end RL

-- FROM law_k18_rows_listed
namespace RL
open PySem L2 SX AddrMath VA PySem.W GR TxSet StX
theorem rule_butB {K : Frag} {C D p : Addr} {H H' : Hp} {xs : List V} {z : Str} {pd gd : PyData} {x : Bool} (hD : H D = some (.lst xs)) (b : But D H H') (h : RuleAt K C H p z pd gd x) : RuleAt K C H' p z pd gd x := by
  obtain ⟨dx', tP, tW, tK, gV, ws, hp, hP, hG, hW, a1, a2, a3, hK⟩ := h.ex
  have ne : ∀ {a : Addr} {o : HO}, H a = some o → (∀ ys, o ≠ .lst ys) → a ≠ D := fun e n z => by
    rw [z, hD] at e
    exact n xs (Option.some.inj e).symm
  have kt : ∀ {t : Addr} {ys : List V}, SqT K H t ys → SqT K H' t ys := fun {t ys} h => by
    rcases h with (h | ⟨u, h⟩) | h
    · exact .inl (.inl (b _ _ h (ne h fun _ q => by cases q)))
    · exact .inl (.inr ⟨u, b _ _ h (ne h fun _ q => by cases q)⟩)
    · exact .inr h
  have kg : GoalAt K H' gV gd := by
    match gd, hG with
    | .none, h => exact h
    | .tuple [.str y, c], h =>
      obtain ⟨g, tb, e, h1, h2⟩ := h
      exact ⟨g, tb, e, b _ _ h1 (ne h1 fun _ q => by cases q), kt h2⟩
  exact ⟨dx', tP, tW, tK, gV, ws, b _ _ hp (ne hp fun _ q => by cases q), kt hP, kg, b _ _ hW (ne hW fun _ q => by cases q), a1, a2, a3, b _ _ hK (ne hK fun _ q => by cases q)⟩
theorem refs_list {R : Nat → Addr → Prop} : ∀ (ys : List V), (∀ i y, ys[i]? = some y → ∃ b, y = .ref b ∧ R i b) → ∃ cs : List Addr, ys = cs.map V.ref ∧ ∀ i b, cs[i]? = some b → R i b
  | [], _ => ⟨[], rfl, fun i b e => by cases e⟩
  | y :: ys, h => by
    obtain ⟨b, e, r⟩ := h 0 y rfl
    obtain ⟨cs, e2, r2⟩ := refs_list (R := fun i b => R (i + 1) b) ys fun i y hy => h (i + 1) y hy
    refine ⟨b :: cs, by rw [e, e2]; rfl, fun i c hc => ?_⟩
    match i, hc with
    | 0, hc =>
      cases hc
      exact r
    | i + 1, hc => exact r2 i c hc
abbrev nParts : Str := "_parts"
structure CTxt (K : Frag) (mg : Str → Option Value) (CC : Addr) : Prop where
  cl : Cls K CC
  nP : NoAttr K CC "_parts"
  mgC : mg "Chain" = some (.ref CC)
section
variable {P : Program} {w : World} {K : Frag} {mg : Str → Option Value} {base : Heap}
/-! ### _law_made_rule: slots _law_rule 0 -/
abbrev sMadeR : Stmt := top 64
theorem scMadeR : FnScope ["_law_rule"] ["_law_rule"] (defScope sMadeR) := ⟨rfl, rfl, rfl, by decide +kernel, rfl, by decide +kernel, by decide +kernel⟩
def spMadeR (K : Frag) (C : Addr) : Sp := fun vs H Q _ => ∃ (a : Addr) (s : Said), vs = [.ref a] ∧ PlainS K H a s ∧ okS s ∧ ∀ p H', RuleS K C H' p s → Same H H' → Q (.ref p) H'
theorem ok_mader {f fI C CE : Addr} {fd fdI : FuncData} {gI : List Value → List Value → List Value} (F : Fun K "_law_made_rule" "_law_made_rule" sMadeR f fd) (T : RTxt K mg C)
    (MI : Mk K C fI) (GI : FnOk P w K mg base (L2.CX P w) 6 fI fdI ["self", "state", "pattern", "goal", "is_exact"] (spRInit K C CE)) (bn : KBn K fdI ["self", "state", "pattern", "goal", "is_exact"] 4 ["is_exact"] gI (fun vs zs => vs ++ zs)) :
    FnOk P w K mg base CX0 8 f fd ["_law_rule"] (spMadeR K C) := by
  refine F.ok scMadeR (fun vs H Q E h => ?_) (fun cdv A outer s0 H vs Q E hr h => ?_)
  · obtain ⟨a, s, rfl, _⟩ := h
    rfl
  · obtain ⟨a, s, rfl, hA, ok, q⟩ := h
    refine ⟨_, (pss_one (ps_ret (pe_makeN (n := 3) MI GI hr (by rfl) T.mgC bn pass_none (pa_cons (pe_ix ix_tup (pv 0) pe_int (fun _ _ => rfl)) (pa_cons (pe_ix ix_tup (pv 0) pe_int (fun _ _ => rfl)) (pa_cons (pe_ix ix_tup (pv 0) pe_int (fun _ _ => rfl)) pa_nil))) (pk_cons (pe_ix ix_tup (pv 0) pe_int (fun _ _ => rfl)) pk_nil)))), ?_⟩
    obtain ⟨tP, gV, h1, h2, h3⟩ := hA
    obtain ⟨o1, o2, o3, o4⟩ := id ok
    have w1 : isWordD (.str s.1) = true := o1
    have w2 : areEntD 2 (.tuple s.2.1) = true := by
      show (true && (decide ((s.2.1.length : Int) ≤ 2) && s.2.1.all isEntD)) = true
      rw [o2, decide_eq_true (by omega)]
      rfl
    refine ⟨_, rfl, a, _, 0, _, rfl, rfl, h1, rfl, _, rfl, a, _, 1, _, rfl, rfl, h1, rfl, _, rfl, a, _, 2, _, rfl, rfl, h1, rfl, _, rfl, a, _, 3, _, rfl, rfl, h1, rfl, rfl, rfl, fun p dx np nd ne => ?_⟩
    have sI : Same H (upd (upd H dx (.own p)) p (.ins C dx [])) := same_ins np nd
    have dP : Dp K (upd (upd H dx (.own p)) p (.ins C dx [])) (.ref tP) (.tuple s.2.1) := .tup (same_seqT sI h2) (ents_dp o2)
    have kP : okD 8 (.tuple s.2.1) = true := (ok_seq (n := 7) (by omega) fun d hd => ent_okn (List.all_eq_true.mp o2 d hd)).2
    obtain ⟨dG, kG⟩ : Dp K (upd (upd H dx (.own p)) p (.ins C dx [])) gV (goalSD s.2.2.1) ∧ okD 8 (goalSD s.2.2.1) = true := by
      cases eg : s.2.2.1 with
      | none =>
        rw [eg] at h3
        cases (show gV = .non from h3)
        exact ⟨.non, by show okD 8 .none = true; rw [okD]⟩
      | some g =>
        rw [eg] at h3
        obtain ⟨d, bs⟩ := g
        obtain ⟨g', tb, rfl, hg, hb⟩ := h3
        have o4' := o4
        rw [eg] at o4'
        have o4' : (isW d.cps.toList && (areEntD 4 (.tuple bs) && bs.all fun e => isWordD e || inD e s.2.1)) = true := o4'
        rw [Bool.and_eq_true, Bool.and_eq_true] at o4'
        obtain ⟨_, b2, b3⟩ := areEnt_parts o4'.2.1
        have b2 : (bs.length : Int) ≤ 4 := b2
        refine ⟨.tup (.inl (.inl (sI _ _ hg))) (.cons (.str d) (.cons (.tup (same_seqT sI hb) (ents_dp b3)) .nil)), (ok_seq (n := 7) (by show 2 ≤ 1000; decide) fun e he => ?_).2⟩
        simp only [List.mem_cons, List.not_mem_nil, or_false] at he
        rcases he with rfl | rfl
        · exact ent_okn (wrd_ent o4'.1)
        · exact (ok_seq (n := 6) (by omega) fun e he => ent_okn (List.all_eq_true.mp b3 e he)).2
    refine ⟨p, dx, .str s.1, .ref tP, gV, .bl s.2.2.2, .str s.1, .tuple s.2.1, goalSD s.2.2.1, .bool s.2.2.2, rfl, upd_same, str_vx o1, .inl ⟨dP, kP⟩, .inl ⟨dG, kG⟩, .inl ⟨.bl s.2.2.2, by rw [okD]⟩, fun f hf => ?_, fun z' x' _ ez ex H' fr hR => ?_⟩
    · rw [wrong_none w1 w2 o4] at hf
      cases hf
    · cases ez
      cases ex
      exact ⟨rfl, q p H' hR fun b o e => fr b o (sI _ _ e) (ne_of_none e np)⟩
/-! ### _law_made: slots _law_rules 0, _law_rule 1 -/
abbrev sMadeB : Stmt := top 65
theorem scMadeB : FnScope ["_law_rules", "_law_rule"] ["_law_rules"] (defScope sMadeB) := ⟨rfl, rfl, rfl, by decide +kernel, rfl, by decide +kernel, by decide +kernel⟩
def spMadeB (K : Frag) (C CB : Addr) : Sp := fun vs H Q _ => ∃ (l : Addr) (ss ws : List Str) (as : List Addr) (L : List Said), vs = [.ref l] ∧ H l = some (.lst (as.map V.ref)) ∧ PlainsAt K H ss ws as L ∧ limS L = none ∧
  ∀ b t ps H', BookAt K C CB H' b t ps L → Same H H' → H b = none → Q (.ref b) H'
theorem ok_madeb {f C CB CM pO fOf : Addr} {fd fdOf : FuncData} {mcB : Value} (F : Fun K "_law_made" "_law_made" sMadeB f fd) (TB : BTxt K mg CB) (mader : Own P w K mg base CX0 8 "_law_made_rule" ["_law_rule"] (spMadeR K C))
    (rdc : ClX.CRead K CB mcB) (cmo : ClX.CMet K CB mcB "of" pO fOf) (GO : FnOk P w K mg base (L2.CX P w) 7 fOf fdOf ["cls", "rules"] (spBOf K C CB CM)) (bO : Binds K fdOf ["cls", "rules"] []) : FnOk P w K mg base CX0 9 f fd ["_law_rules"] (spMadeB K C CB) := by
  refine F.ok scMadeB (fun vs H Q E h => ?_) (fun cdv A outer s0 H vs Q E hr h => ?_)
  · obtain ⟨l, ss, ws, as, L, rfl, _⟩ := h
    rfl
  · obtain ⟨l, ss, ws, as, L, rfl, hl, hA, lim, q⟩ := h
    have few := lim_few lim
    refine ⟨_, (pss_one (ps_ret (pe_cmethS (E := fun _ => E0) (pe_glob (v := .ref CB) (by rfl) TB.mgC rfl) rdc cmo GO (hr.mono (by decide)) bO (fun σ pins H s e s' I c => pass_none pins σ H s e s' I c) (pa_cons (pe_lc (own := [("_law_rule", 1)]) (g := gName 1) (tt := tYes) rfl scMadeB.nd (pi_seq (pv 0))
          (blkOk_by (own := [("_law_rule", 1)]) (N := ["_law_rules", "_law_rule"]) (sc := defScope sMadeB) (by decide +kernel))
          (fun _ _ _ _ _ => (pg_name (i := 1) scMadeB.nd rfl (Or.inl rfl))) (fun _ _ _ _ _ => pts_nil)
          (fun _ _ _ _ _ => (pe_call mader.g hr rfl mader.mg mader.kp mader.b .nil pass0 (pa_cons (pv 1) pa_nil)))) pa_nil)))), ?_⟩
    refine ⟨rfl, _, rfl, ?_⟩
    have st : ∀ (s : Said) (y : V) (G G' : Hp), Same G G' → (∃ p, y = .ref p ∧ RuleS K C G p s ∧ okS s) → ∃ p, y = .ref p ∧ RuleS K C G' p s ∧ okS s := fun s y G G' k h => by
      obtain ⟨p, e, h, o⟩ := h
      exact ⟨p, e, h.same k, o⟩
    refine seq_flt (.inl (.inl (.inl hl))) (by rw [List.length_map, hA.1]; omega) (fun i => L[i]?.map id) (fun s y G => ∃ p, y = .ref p ∧ RuleS K C G p s ∧ okS s) st (fun D _ s y G G' zs hD k h => ?_) ?hw (fun i x hx G sG => ?_) fun D H2 ys nD hD hr1 s2 => ?_
    case hw => intro _; rfl
    · obtain ⟨p, e, h, o⟩ := h
      exact ⟨p, e, rule_butB hD k h, o⟩
    · rw [List.getElem?_map] at hx
      cases ea : as[i]? with
      | none =>
        rw [ea] at hx
        cases hx
      | some a =>
        rw [ea] at hx
        cases hx
        have hi : i < L.length := by rw [← hA.1]; exact idx_lt ea
        have es := List.getElem?_eq_getElem hi
        obtain ⟨hP, ok, _⟩ := hA.2 i a _ ea es
        rw [es]
        refine ⟨fun R hR => hR G (Same.refl G), fun e he G2 s2 R hR => ?_⟩
        cases he
        exact ⟨_, rfl, a, _, rfl, plainS_kp hP (kp_same (sG.trans s2)), ok, fun p G3 hRu s3 => hR _ G3 s3 ⟨p, rfl, hRu, ok⟩⟩
    rw [List.length_map, hA.1, range_mapO, List.map_id] at hr1
    have lr := hr1.1
    obtain ⟨ps, rfl, hb⟩ := refs_list (R := fun i p => ∃ s, L[i]? = some s ∧ RuleS K C H2 p s ∧ okS s) ys fun i y hy => by
      have hi : i < L.length := by rw [← lr]; exact idx_lt hy
      obtain ⟨p, e, h⟩ := hr1.2 i _ y (List.getElem?_eq_getElem hi) hy
      exact ⟨p, e, _, List.getElem?_eq_getElem hi, h⟩
    have hR : RulesAt K C H2 ps L := by
      refine ⟨by rw [← lr, List.length_map], fun i p s e1 e2 => ?_⟩
      obtain ⟨s', e3, h⟩ := hb i p e1
      rw [e2] at e3
      cases e3
      exact h
    refine ⟨D, ps, L, rfl, .inl (.inl (.inl hD)), hR, by omega, fun n e => absurd (e.symm.trans lim) (by intro z; cases z), fun _ b t H3 hB s3 nb => q b t ps H3 hB (s2.trans s3) (s2.free nb)⟩
end
end RL

-- FROM law_k18_rows_listed
namespace RL
open PySem L2 SX AddrMath VA PySem.W GR TxSet StX
theorem perm_erase1 {α : Type} : ∀ (l : List α) (k : Nat) (h : k < l.length), (l[k] :: l.eraseIdx k).Perm l
  | x :: r, 0, _ => .refl _
  | x :: r, k + 1, h => (List.Perm.swap x (r[k]'(Nat.lt_of_succ_lt_succ h)) (r.eraseIdx k)).trans (.cons x (perm_erase1 r k (Nat.lt_of_succ_lt_succ h)))
theorem ite_tt {c : Bool} {A B : Prop} (h : c = true) (a : A) : if c = true then A else B := by
  rw [if_pos h]
  exact a
theorem TapeAt.none_d {H : Hp} {a d c : Addr} {n : Nat} (p : TapeAt H d c n) (h : H a = none) : a ≠ d := by
  obtain ⟨ns, s, r, h1, _⟩ := p
  intro z
  rw [z, h1] at h
  cases h
theorem TapeAt.none_c {H : Hp} {a d c : Addr} {n : Nat} (p : TapeAt H d c n) (h : H a = none) : a ≠ c := by
  obtain ⟨ns, s, r, h1, h2, _⟩ := p
  intro z
  rw [z, h2] at h
  cases h
theorem TapeAt.put {H : Hp} {a d c : Addr} {n : Nat} {o : HO} (p : TapeAt H d c n) (h1 : a ≠ d) (h2 : a ≠ c) : TapeAt (upd H a o) d c n := by
  obtain ⟨ns, s, r, e1, e2, e3⟩ := p
  exact ⟨ns, s, r, by rw [upd_ne h1.symm]; exact e1, by rw [upd_ne h2.symm]; exact e2, e3⟩
theorem But.put_new {d a : Addr} {H H' : Hp} {o : HO} (b : But d H H') (h : H a = none) : But d H (upd H' a o) := fun x o' e ne => by
  rw [upd_ne (ne_of_none e h)]
  exact b _ _ e ne
section
variable {P : Program} {w : World} {K : Frag} {mg : Str → Option Value} {base : Heap}
/-! ### _law_shuffled: slots _law_tape 0, _law_some 1, _law_rest 2, _law_found 3 -/
abbrev sShuffled : Stmt := top 63
theorem scShuffled : FnScope ["_law_tape", "_law_some", "_law_rest", "_law_found"] ["_law_tape", "_law_some"] (defScope sShuffled) := ⟨rfl, rfl, rfl, by decide +kernel, rfl, by decide +kernel, by decide +kernel⟩
def spShuffled : Sp := fun vs H Q _ => ∃ (d c m : Addr) (n : Nat) (xs : List V), vs = [.ref d, .ref m] ∧ TapeAt H d c n ∧ H m = some (.lst xs) ∧ xs.length ≤ 20 ∧ n ≤ 900000 ∧
  ∀ (o : Addr) (ys : List V) (H' : Hp), ys.Perm xs → H' o = some (.lst ys) → H o = none → TapeAt H' d c (n + 20) → But d H H' → Q (.ref o) H'
theorem ok_shuffled {f : Addr} {fd : FuncData} (F : Fun K "_law_shuffled" "_law_shuffled" sShuffled f fd) (B : Blt mg) (draw : Own P w K mg base CX0 1 "_law_draw" ["_law_tape", "_law_many"] spDraw) : FnOk P w K mg base CX0 2 f fd ["_law_tape", "_law_some"] spShuffled := by
  refine F.ok scShuffled (fun vs H Q E h => ?_) (fun cdv A outer s H vs Q E hr h => ?_)
  · obtain ⟨d, c, m, n, xs, rfl, _⟩ := h
    rfl
  · obtain ⟨d, c, m, n, xs, rfl, p, hm, hx, hn, q⟩ := h
    have hu := hr.units0
    refine ⟨_, pss_cons (ps_par (by rfl) scShuffled.nd (i := 2) (j := 3) rfl rfl (by decide) rfl rfl (pa_cons (pe_callTy call_list_of (by rfl) B.list_ (by decide +kernel) (pa_cons (pv 1) pa_nil)) (pa_cons (pe_lst pa_nil) pa_nil)) (by rfl))
      (pss_cons (ps_while PassesOwn.never (pt_cmpR (op_neNil hu) (pv 2) (pe_lst pa_nil) (nomark _))
        (pss_one (ps_expr (pe_bm PySem.F.plainAttrs_list PySem.F.slot_list_append PySem.F.type_list_append mt_append (pv 3)
          (pa_cons (pe_bm PySem.F.plainAttrs_list PySem.F.slot_list_pop PySem.F.type_list_pop mt_popAt (pv 2)
            (pa_cons (pe_call draw.g hr rfl draw.mg draw.kp draw.b .nil pass0 (pa_cons (pv 0) (pa_cons (pe_callB call_len_seq (by rfl) B.len_ (by decide +kernel) (pa_cons (pv 2) pa_nil)) pa_nil))) pa_nil)) pa_nil)))))
      (pss_one (ps_ret (pv 3)))), ?_⟩
    refine ⟨_, rfl, m, xs, rfl, .inl (.inl (.inl hm)), fun l nl => ⟨by show 0 ≤ sizeLine; exact Nat.zero_le _, fun o no => ⟨_, _, rfl, ?_⟩⟩⟩
    obtain ⟨nol, no1⟩ := upd_none no
    have p0 : TapeAt (upd (upd H l (.lst xs)) o (.lst [])) d c n := (p.keep (same_new nl)).keep (same_new no)
    have b0 : But d H (upd (upd H l (.lst xs)) o (.lst [])) := but_of ((same_new nl).trans (same_new no))
    have hld : l ≠ d := p.none_d nl
    have hlc : l ≠ c := p.none_c nl
    have hod : o ≠ d := p.none_d no1
    have hoc : o ≠ c := p.none_c no1
    refine ⟨fun k σ H' => ∃ ls fs : List V, σ = [some (.ref d), some (.ref m), some (.ref l), some (.ref o)] ∧ k = ls.length ∧ H' l = some (.lst ls) ∧ H' o = some (.lst fs) ∧ (fs ++ ls).Perm xs ∧ TapeAt H' d c (n + fs.length) ∧ But d H H',
      ⟨xs.length, xs, [], rfl, rfl, by rw [upd_ne nol.symm, upd_same], upd_same, .refl _, p0, b0⟩, ?_⟩
    rintro k σ H' ⟨ls, fs, rfl, rfl, hl, ho, pm, p1, b1⟩
    have hlen : fs.length + ls.length = xs.length := by rw [← List.length_append]; exact pm.length_eq
    refine ⟨_, rfl, by show 0 ≤ sizeLine; exact Nat.zero_le _, fun e ne => ⟨l, e, ls, rfl, rfl, by rw [upd_ne (ne_of_none hl ne)]; exact hl, upd_same, _, rfl, ?_⟩⟩
    have hl2 : upd H' e (.lst []) l = some (.lst ls) := by rw [upd_ne (ne_of_none hl ne)]; exact hl
    have ho2 : upd H' e (.lst []) o = some (.lst fs) := by rw [upd_ne (ne_of_none ho ne)]; exact ho
    have p2 : TapeAt (upd H' e (.lst [])) d c (n + fs.length) := p1.keep (same_new ne)
    have b2 : But d H (upd H' e (.lst [])) := b1.trans (but_of (same_new ne))
    cases ls with
    | nil =>
      refine iteF ⟨_, rfl, q o fs _ ?_ ho2 no1 (p2.mono (by omega)) b2⟩
      rw [List.append_nil] at pm
      exact pm
    | cons y0 ys =>
      have len1 : (y0 :: ys).length = ys.length + 1 := rfl
      have ne0 : (!(y0 :: ys).isEmpty) = true := rfl
      generalize hls : y0 :: ys = ls at *
      refine ite_tt ne0 ⟨fun σ' H'' => ∃ (j : Nat) (y : V), ls[j]? = some y ∧ σ' = [some (.ref d), some (.ref m), some (.ref l), some (.ref o)] ∧ H'' l = some (.lst (ls.eraseIdx j)) ∧ H'' o = some (.lst (fs ++ [y])) ∧ TapeAt H'' d c (n + fs.length + 1) ∧ But d H H'', ?_, ?_⟩
      · rintro σ' H'' ⟨j, y, hy, rfl, h1, h2, h3, h4⟩
        have hj : j < ls.length := (List.getElem?_eq_some_iff.mp hy).1
        refine ⟨(ls.eraseIdx j).length, by rw [List.length_eraseIdx_of_lt hj]; omega, _, _, rfl, rfl, h1, h2, ?_, by rw [List.length_append]; exact h3, h4⟩
        refine .trans ?_ pm
        rw [List.append_assoc]
        refine List.Perm.append_left _ ?_
        obtain ⟨_, rfl⟩ := List.getElem?_eq_some_iff.mp hy
        exact perm_erase1 ls j hj
      · refine ⟨_, rfl, .inl ⟨rfl, _, .inl (.inl ho2)⟩, _, rfl, .inl ⟨rfl, _, .inl (.inl hl2)⟩, _, rfl, _, rfl, l, ls, rfl, .inl (.inl (.inl hl2)), d, c, n + fs.length, _, rfl, p2, by omega, by omega, by omega, fun j H3 hj0 hj1 p3 b3 => ?_⟩
        obtain ⟨k, rfl⟩ : ∃ k : Nat, j = (k : Int) := ⟨j.toNat, by omega⟩
        have hk : k < ls.length := by omega
        have hl3 : H3 l = some (.lst ls) := b3 _ _ hl2 hld
        have ho3 : H3 o = some (.lst fs) := b3 _ _ ho2 hod
        refine ⟨l, ls, (k : Int), k, ls[k], rfl, rfl, hl3, by omega, by omega, ?_, List.getElem?_eq_getElem hk, ?_⟩
        · exact PySem.seqIndex_of (by omega) (by omega)
        · refine ⟨o, fs, ls[k], rfl, rfl, by rw [upd_ne nol]; exact ho3, size_ok (by omega), ?_⟩
          refine ⟨k, ls[k], List.getElem?_eq_getElem hk, rfl, by rw [upd_ne nol.symm, upd_same], upd_same, ?_, ?_⟩
          · exact (p3.put hld hlc).put hod hoc
          · exact (But.put_new (But.put_new (b2.trans b3) nl) no1)
end
end RL

-- FROM law_k18_rows_listed
namespace RL
open PySem L2 SX AddrMath VA PySem.W GR TxSet StX
/-- values of a kind, drawn one by one from the tape -/
theorem lc_tape {rel : V → Hp → Prop} {d c D : Addr} {n N j m : Nat} {te : TE} {σ : L2.St} {vs : List Nat} {H1 : Hp} {Qd : Hp → Prop} (p : TapeAt H1 d c n) (nD : H1 D = none) (few : N ≤ 100)
    (st : ∀ y G G' k, TapeAt G d c k → But d G G' → rel y G → rel y G') (sb : ∀ y G G' zs, G D = some (.lst zs) → But D G G' → rel y G → rel y G')
    (hw : ∀ x, wipe ((wipe σ vs).set j (some x)) vs = wipe σ vs)
    (step : ∀ i H', i < N → But d H1 H' → TapeAt H' d c (n + i * m) → ∀ R : VK, (∀ y H'', rel y H'' → TapeAt H'' d c (n + i * m + m) → But d H' H'' → R y H'') → te ((wipe σ vs).set j (some (.int (0 + (i : Int))))) H' R)
    (fin : ∀ (ys : List V) H', ys.length = N → (∀ y ∈ ys, rel y H') → H' D = some (.lst ys) → TapeAt H' d c (n + N * m) → But d H1 H' → Qd H') :
    ∃ W : Nat → Nat → Hp → Prop, (∃ m, W 0 m (upd H1 D (.lst []))) ∧ ∀ i m H, W i m H → ((Itr 0 N).stop i H ∧ Qd H) ∨ ((Itr 0 N).go i H ∧ ∃ Nx : Hp → Prop, (∀ H', Nx H' → ∃ m', m' < m ∧ W (i + 1) m' H') ∧ ∀ x H', (Itr 0 N).yld i H x H' → gName j x (wipe σ vs) H' fun σ2 H2 => wipe σ2 vs = wipe σ vs ∧ tYes σ2 H2 fun b H3 =>
        if b = true then te σ2 H3 fun y H4 => ∃ acc, H4 D = some (.lst acc) ∧ acc.length < sizeLine ∧ Nx (upd H4 D (.lst (acc ++ [y]))) else Nx H3) := by
  have hDd : D ≠ d := p.none_d nD
  have hDc : D ≠ c := p.none_c nD
  refine lc_range (lo := 0) (n := N) (fun i H' => TapeAt H' d c (n + i * m) ∧ But d H1 H' ∧ ∃ ys : List V, H' D = some (.lst ys) ∧ ys.length = i ∧ ∀ y ∈ ys, rel y H')
    ⟨(p.keep (same_new nD)).mono (by omega), but_of (same_new nD), [], upd_same, rfl, fun e he => by cases he⟩ ?_ ?_
  · rintro i H' hi ⟨p2, b2, ys, hys, hl, ho⟩
    refine ⟨hw _, no_test fun H2 s2 => ?_⟩
    rw [if_pos rfl]
    refine step i H2 hi (b2.trans (but_of s2)) (p2.keep s2) _ fun y H3 hk p3 b3 => ?_
    have h3 := b3 D _ (s2 _ _ hys) hDd
    refine ⟨_, h3, size_ok (by omega), ?_, ?_, ys ++ [y], upd_same, ?_, ?_⟩
    · rw [Nat.add_mul, Nat.one_mul, ← Nat.add_assoc]
      exact p3.put hDd hDc
    · exact But.put_new ((b2.trans (but_of s2)).trans b3) nD
    · rw [List.length_append, hl]
      rfl
    · intro u hu
      refine sb u H3 _ ys h3 But.upd ?_
      rcases List.mem_append.mp hu with h | h
      · exact st u H2 H3 _ (p2.keep s2) b3 (st u H' H2 _ p2 (but_of s2) (ho u h))
      · rw [List.mem_singleton.mp h]
        exact hk
  · rintro H' ⟨p2, b2, ys, hys, hl, ho⟩
    exact fin ys H' hl ho hys p2 b2
/-- a value that is an entry with a property -/
def EntW (ok : PyData → Prop) (v : V) : Prop := ∃ e, v = entV e ∧ isEntD e = true ∧ ok e
theorem entw_list {ok : PyData → Prop} : ∀ (ys : List V), (∀ y ∈ ys, EntW ok y) → ∃ es : List PyData, ys = es.map entV ∧ es.all isEntD = true ∧ (∀ e ∈ es, ok e)
  | [], _ => ⟨[], rfl, rfl, fun e h => by cases h⟩
  | y :: ys, h => by
    obtain ⟨e, e1, e2, e3⟩ := h y (.head _)
    obtain ⟨es, f1, f2, f3⟩ := entw_list ys fun z hz => h z (.tail _ hz)
    refine ⟨e :: es, by rw [e1, f1]; rfl, by rw [List.all_cons, e2, f2]; rfl, fun x hx => ?_⟩
    rcases List.mem_cons.mp hx with r | r
    · rw [r]
      exact e3
    · exact f3 x r
/-- [one for one in entries if not isinstance(one, str)] -/
theorem lc_notStr {K : Frag} {G : Hp} {t : Addr} {ds : List PyData} {j : Nat} {σ : L2.St} {vs : List Nat} {Qd : Addr → Hp → Prop} (hT : SqA K G t (ds.map entV)) (hE : ds.all isEntD = true) (few : ds.length ≤ 100) (hw : ∀ x, wipe ((wipe σ vs).set j (some x)) vs = wipe σ vs) (h3 : ∀ x, ((wipe σ vs).set j (some x))[j]? = some (some x))
    (fin : ∀ D H', G D = none → H' D = some (.lst ((ds.filter fun d => !isStrD d).map entV)) → Same G H' → Qd D H') :
    ∃ a', V.ref t = V.ref a' ∧ (((∃ ys, SqL K G a' ys) ∧ ∀ D, G D = none → LcGoal (Itl K a') (gName j) (tNot (tB (tCB (rIsi K) (tCons (tVar j) (tCons (tC (.ty "str")) tNil))))) (tVar j) vs σ G D (Qd D)) ∨ ((∃ ys, SqT K G a' ys) ∧ ∀ D, G D = none → LcGoal (Itt K a') (gName j) (tNot (tB (tCB (rIsi K) (tCons (tVar j) (tCons (tC (.ty "str")) tNil))))) (tVar j) vs σ G D (Qd D))) := by
  refine seq_opt hT (by rw [List.length_map]; omega) (fun i => ds[i]?.bind fun d => if isStrD d then none else some (entV d)) hw (fun i x hx G2 sG => ?_) fun D H1 nD hD s1 => ?_
  · rw [List.getElem?_map] at hx
    cases ed : ds[i]? with
    | none =>
      rw [ed] at hx
      cases hx
    | some d =>
      rw [ed] at hx
      cases hx
      have he := List.all_eq_true.mp hE d (List.mem_of_getElem? ed)
      refine ⟨fun R hR => ?_, fun y hy G3 s2 R hR => ?_⟩
      · have hR2 := hR G2 (Same.refl G2)
        refine ⟨_, h3 _, _, _, _, _, isStrD d, rfl, .ty "str", (ent_vx (K := K) (H := G2) he).ty, kitStr d, _, rfl, ?_⟩
        have e9 : ((some d).bind fun d => if isStrD d = true then none else some (entV d)).isSome = !isStrD d := by
          show (if isStrD d = true then none else some (entV d)).isSome = _
          cases isStrD d <;> rfl
        rw [e9] at hR2
        exact hR2
      · have hy : (if isStrD d = true then none else some (entV d)) = some y := hy
        cases e : isStrD d with
        | true =>
          rw [e] at hy
          cases hy
        | false =>
          rw [e] at hy
          cases hy
          exact ⟨_, h3 _, hR G3 (Same.refl G3)⟩
  · rw [List.length_map, range_fm] at hD
    refine fin D H1 nD ?_ s1
    rw [hD]
    congr 2
    clear hD hE few hT fin
    induction ds with
    | nil => rfl
    | cons d r ih =>
      rw [List.filterMap_cons, ih]
      cases e : isStrD d with
      | true => rw [List.filter_cons_of_neg (by rw [e]; decide)]; rfl
      | false => rw [List.filter_cons_of_pos (by rw [e]; rfl)]; rfl
end RL

-- FROM law_k18_rows_listed
namespace RL
open PySem L2 SX AddrMath VA PySem.W GR TxSet StX
section
variable {P : Program} {w : World} {K : Frag} {mg : Str → Option Value} {base : Heap}
/-! ### _law_some_rule: slots _law_tape 0, _law_words 1, _law_states 2, _law_k 3, _law_pattern 4, _law_one 5, _law_entries 6, _law_begin_here 7, _law_there 8, _law_goal 9 cells _law_entries,_law_tape,_law_words -/
abbrev sSomeRule : Stmt := top 66
abbrev NSo : List Str := ["_law_tape", "_law_words", "_law_states", "_law_k", "_law_pattern", "_law_one", "_law_entries", "_law_begin_here", "_law_there", "_law_goal"]
theorem scSomeRule : FnScope NSo ["_law_tape", "_law_words", "_law_states"] (defScope sSomeRule) := ⟨rfl, rfl, rfl, by decide +kernel, rfl, by decide +kernel, by decide +kernel⟩
abbrev sOut : Str := "out"
def spSome (K : Frag) : Sp := fun vs H Q _ => ∃ (d c wl sl : Addr) (n : Nat) (ws ss : List Str), vs = [.ref d, .ref wl, .ref sl] ∧ TapeAt H d c n ∧ n ≤ 800000 ∧ LW H wl ws ∧ LW H sl ss ∧ 0 < ss.length ∧ 0 < ws.length ∧ ws.length ≤ 6 ∧ ss.length ≤ 6 ∧
  ∀ a s H', PlainS K H' a s → okS s → ofS (ss ++ [sOut]) ws s → TapeAt H' d c (n + 20) → But d H H' → Q (.ref a) H'
/-- the goal, drawn -/
def tGoalS (K : Frag) : TE := fun σ H Q => ∃ (d c b : Addr) (n : Nat) (y : Str) (bs : List PyData), σ[0]? = some (some (.ref d)) ∧ TapeAt H d c n ∧ n ≤ 900000 ∧ σ[8]? = some (some (.str y)) ∧ σ[7]? = some (some (.ref b)) ∧ H b = some (.lst (bs.map entV)) ∧
  ∀ gV g H', GoalAt K H' gV (goalSD g) → (g = none ∨ g = some (y, bs)) → TapeAt H' d c (n + 1) → But d H H' → Q gV H'
theorem ok_some {f : Addr} {fd : FuncData} (F : Fun K "_law_some_rule" "_law_some_rule" sSomeRule f fd) (B : Blt mg) (draw : Own P w K mg base CX0 1 "_law_draw" ["_law_tape", "_law_many"] spDraw) (pick : Own P w K mg base CX0 2 "_law_pick" ["_law_tape", "_law_some"] spPick) :
    FnOk P w K mg base CX0 3 f fd ["_law_tape", "_law_words", "_law_states"] (spSome K) := by
  refine F.ok scSomeRule (fun vs H Q E h => ?_) (fun cdv A outer s0 H vs Q E hr h => ?_)
  · obtain ⟨d, c, wl, sl, n, ws, ss, rfl, _⟩ := h
    rfl
  · obtain ⟨d, c, wl, sl, n, ws, ss, rfl, p, hn, hw, hs, ls0, lw0, lw, ls, q⟩ := h
    refine ⟨_, (pss_cons (ps_setLc (i := 4) (own := [("_law_k", 3)]) (g := gName 3) (tt := tYes) rfl scSomeRule.nd rfl rfl (sw_true rfl rfl rfl (by decide +kernel)) (pi_range1 (by rfl) B.range_ (pa_cons (pe_call pick.g (hr.mono (by decide)) rfl pick.mg pick.kp pick.b .nil pass0 (pa_cons (pv 0) (pa_cons (pe_lst (pa_cons pe_int (pa_cons pe_int (pa_cons pe_int (pa_cons pe_int (pa_cons pe_int (pa_cons pe_int pa_nil))))))) pa_nil))) pa_nil))
          (blkOk_by (own := [("_law_k", 3)]) (N := NSo) (sc := defScope sSomeRule) (by decide +kernel))
          (fun _ _ _ _ _ => (pg_name (i := 3) scSomeRule.nd rfl (Or.inl rfl))) (fun _ _ _ _ _ => pts_nil)
          (fun _ _ _ _ _ => (pe_call pick.g (hr.mono (by decide)) rfl pick.mg pick.kp pick.b .nil pass0 (pa_cons (pv 0) (pa_cons (pe_op op_cat (pv 1) (pe_lst (pa_cons pe_int (pa_cons pe_int (pa_cons pe_int pa_nil))))) pa_nil)))))
      (pss_cons (ps_set (i := 6) scSomeRule.nd rfl (Or.inr rfl) (pe_op op_cat (pv 1) (pe_op op_rep (pe_lc (own := [("_law_one", 5)]) (g := gName 5) rfl scSomeRule.nd (pi_seq (pv 4))
          (blkOk_by (own := [("_law_one", 5)]) (N := NSo) (sc := defScope sSomeRule) (by decide +kernel))
          (fun _ _ _ _ _ => (pg_name (i := 5) scSomeRule.nd rfl (Or.inl rfl))) (fun _ _ _ _ _ => pts_one (pt_not (pt_val (pe_callB (call_isiK (K := K) rfl) (by rfl) B.isinstance_ (by decide +kernel) (pa_cons (pv 5) (pa_cons (pe_bltn (v := .ty "str") (by rfl) B.str_ (by decide +kernel) rfl) pa_nil))))))
          (fun _ _ _ _ _ => (pv 5))) pe_int)))
      (pss_cons (ps_setLc (i := 7) (own := [("_law_k", 3)]) (g := gName 3) (tt := tYes) rfl scSomeRule.nd rfl rfl (sw_true rfl rfl rfl (by decide +kernel)) (pi_range1 (by rfl) B.range_ (pa_cons (pe_call pick.g (hr.mono (by decide)) rfl pick.mg pick.kp pick.b .nil pass0 (pa_cons (pv 0) (pa_cons (pe_lst (pa_cons pe_int (pa_cons pe_int (pa_cons pe_int (pa_cons pe_int (pa_cons pe_int (pa_cons pe_int (pa_cons pe_int (pa_cons pe_int (pa_cons pe_int pa_nil)))))))))) pa_nil))) pa_nil))
          (blkOk_by (own := [("_law_k", 3)]) (N := NSo) (sc := defScope sSomeRule) (by decide +kernel))
          (fun _ _ _ _ _ => (pg_name (i := 3) scSomeRule.nd rfl (Or.inl rfl))) (fun _ _ _ _ _ => pts_nil)
          (fun _ _ _ _ _ => (pe_call pick.g (hr.mono (by decide)) rfl pick.mg pick.kp pick.b .nil pass0 (pa_cons (pv 0) (pa_cons (pv 6) pa_nil)))))
      (pss_cons (ps_set (i := 8) scSomeRule.nd rfl (Or.inl rfl) (pe_call pick.g (hr.mono (by decide)) rfl pick.mg pick.kp pick.b .nil pass0 (pa_cons (pv 0) (pa_cons (pe_op op_cat (pv 2) (pe_op op_rep (pe_lst (pa_cons pe_str pa_nil)) (pe_callTy call_int1 (by rfl) B.int_ (by decide +kernel) (pa_cons (pe_cmpR op_eq (pe_call draw.g (hr.mono (by decide)) rfl draw.mg draw.kp draw.b .nil pass0 (pa_cons (pv 0) (pa_cons pe_int pa_nil))) pe_int (nomark _)) pa_nil)))) pa_nil))))
      (pss_cons (ps_set (i := 9) scSomeRule.nd rfl (Or.inl rfl) (pe_by (tGoalS K) (pe_ifExp (pt_cmpR op_eq (pe_call draw.g (hr.mono (by decide)) rfl draw.mg draw.kp draw.b .nil pass0 (pa_cons (pv 0) (pa_cons pe_int pa_nil))) pe_int (nomark _)) pe_non (pe_tup (pa_cons (pv 8) (pa_cons (pe_callTy call_tupA (by rfl) B.tuple_ (by decide +kernel) (pa_cons (pv 7) pa_nil)) pa_nil)))) (fun σ H Q h => ?goal)))
      (pss_one (ps_ret (pe_tup (pa_cons (pe_call pick.g (hr.mono (by decide)) rfl pick.mg pick.kp pick.b .nil pass0 (pa_cons (pv 0) (pa_cons (pv 2) pa_nil))) (pa_cons (pe_callTy call_tupA (by rfl) B.tuple_ (by decide +kernel) (pa_cons (pv 4) pa_nil)) (pa_cons (pv 9) (pa_cons (pe_cmpR op_eq (pe_call draw.g (hr.mono (by decide)) rfl draw.mg draw.kp draw.b .nil pass0 (pa_cons (pv 0) (pa_cons pe_int pa_nil))) pe_int (nomark _)) pa_nil)))))))))))), ?_⟩
    case goal =>
      obtain ⟨d, c, b, n, y, bs, e0, p, hn, e8, e7, hb, q⟩ := h
      refine ⟨_, e0, d, c, n, 6, rfl, p, by omega, by decide, by decide, fun j H1 j0 j1 p1 b1 => ⟨rfl, _, rfl, ?_⟩⟩
      refine if_is (fun e => q .non none H1 rfl (.inl rfl) p1 b1) fun e => ?_
      have hb1 := b1 _ _ hb (tape_ne hb p)
      refine ⟨_, e8, _, e7, b, _, rfl, .inl (.inl (.inl hb1)), fun tb H2 hT s2 => ⟨by show 2 ≤ sizeLine; decide, fun g ng => ?_⟩⟩
      exact q (.ref g) (some (y, bs)) _ ⟨g, tb, rfl, upd_same, same_seqT (same_new ng) hT⟩ (.inr rfl) ((p1.keep s2).keep (same_new ng)) ((b1.trans (but_of s2)).trans (but_of (same_new ng)))
    refine ⟨_, rfl, by show 6 ≤ sizeLine; decide, fun l1 n1 => ?_⟩
    have s1 := same_new (o := .lst [.int 0, .int 1, .int 1, .int 2, .int 2, .int 2]) n1
    refine ⟨d, c, l1, n, _, rfl, p.keep s1, by omega, upd_same, by decide, by decide, fun v H1 hv p1 b1 => ?_⟩
    have b01 : But d H H1 := (but_of s1).trans b1
    obtain ⟨N1, rfl, lN1⟩ : ∃ k : Nat, v = .int k ∧ k ≤ 2 := by
      simp only [List.mem_cons, List.not_mem_nil, or_false] at hv
      rcases hv with rfl | rfl | rfl | rfl | rfl | rfl
      · exact ⟨0, rfl, by decide⟩
      · exact ⟨1, rfl, by decide⟩
      · exact ⟨1, rfl, by decide⟩
      · exact ⟨2, rfl, by decide⟩
      · exact ⟨2, rfl, by decide⟩
      · exact ⟨2, rfl, by decide⟩
    clear hv
    have hw1 := hw.but p.pen b01
    have hs1 := hs.but p.pen b01
    clear s1 n1 b1
    refine ⟨(N1 : Int), rfl, by omega, by omega, fun D nD => ?_⟩
    refine lc_tape (N := N1) (m := 1) (rel := fun y _ => EntW (fun e => ∀ u, e = .str u → u ∈ ws) y) p1 nD (by omega) (fun _ _ _ _ _ _ h => h) (fun _ _ _ _ _ _ h => h) (fun _ => rfl) (fun i G hi bG pG R hR => ?_) fun ys H2 lys hys hD p2 b2 => ?_
    · have hwG := hw1.but p1.pen bG
      refine ⟨_, rfl, _, rfl, by show 3 ≤ sizeLine; decide, fun t nt => ⟨wl, t, _, _, rfl, rfl, (same_new nt) _ _ hwG.1, upd_same, size_ok (by rw [List.length_map]; show ws.length + 3 ≤ 1000000; omega), fun l nl => ?_⟩⟩
      refine ⟨d, c, l, _, _, rfl, (pG.keep (same_new nt)).keep (same_new nl), by omega, upd_same, by rw [List.length_append]; show 0 < _ + 3; omega, by rw [List.length_append, List.length_map]; show _ + 3 < _; omega, fun v G' hv p' b' => hR v G' ?_ p' (((but_of (same_new nt)).trans (but_of (same_new nl))).trans b')⟩
      rcases List.mem_append.mp hv with hv | hv
      · obtain ⟨z, hz, rfl⟩ := List.mem_map.mp hv
        exact ⟨.str z, rfl, wrd_ent (List.all_eq_true.mp hwG.2 z hz), fun u e => by cases e; exact hz⟩
      · simp only [List.mem_cons, List.not_mem_nil, or_false] at hv
        rcases hv with rfl | rfl | rfl
        · exact ⟨.int 1, rfl, rfl, fun u e => by cases e⟩
        · exact ⟨.int 1, rfl, rfl, fun u e => by cases e⟩
        · exact ⟨.int 2, rfl, rfl, fun u e => by cases e⟩
    obtain ⟨es, rfl, he, hem⟩ := entw_list ys hys
    have le2 : es.length ≤ 2 := by rw [List.length_map] at lys; omega
    have hw2 := hw1.but p1.pen b2
    have hs2 := hs1.but p1.pen b2
    have b02 := b01.trans b2
    have p2' : TapeAt H2 d c (n + 3) := p2.mono (by omega)
    clear b01 hw1 hs1 p1 nD b2 p2 hys lys lN1
    -- the entries
    refine ⟨_, rfl, _, rfl, ?_⟩
    refine lc_notStr (.inl (.inl (.inl hD))) he (by omega) ?hw1 ?hw2 fun D2 H3 nD2 hD2 s3 => ?_
    case hw1 => intro _; rfl
    case hw2 => intro _; rfl
    have l2 : ((es.filter fun d => !isStrD d).map entV).length ≤ 2 := by
      rw [List.length_map]
      exact Nat.le_trans (List.length_filter_le _ _) le2
    refine ⟨D2, 2, _, rfl, rfl, hD2, by decide, by decide, size_ok (by show _ * 2 ≤ 1000000; omega), fun l4 n4 => ?_⟩
    have s4 := same_new (o := .lst (List.replicate (2 : Int).toNat ((es.filter fun d => !isStrD d).map entV)).flatten) n4
    refine ⟨wl, l4, _, _, rfl, rfl, (s3.trans s4) _ _ hw2.1, upd_same, size_ok ?_, fun l5 n5 => ?_⟩
    · rw [List.length_map, show (2 : Int).toNat = 2 from rfl]
      simp only [List.replicate, List.flatten_cons, List.flatten_nil, List.append_nil, List.length_append]
      omega
    have e5 : (List.replicate (2 : Int).toNat ((es.filter fun d => !isStrD d).map entV)).flatten = (es.filter fun d => !isStrD d).map entV ++ (es.filter fun d => !isStrD d).map entV := by
      rw [show (2 : Int).toNat = 2 from rfl]
      simp only [List.replicate, List.flatten_cons, List.flatten_nil, List.append_nil]
    have hE : ∀ v ∈ tV ws ++ (List.replicate (2 : Int).toNat ((es.filter fun d => !isStrD d).map entV)).flatten, EntW (fun e => (∀ u, e = .str u → u ∈ ws) ∧ ∀ i, e = .int i → e ∈ es) v := by
      intro v hv
      rw [e5] at hv
      have hI : v ∈ (es.filter fun d => !isStrD d).map entV → EntW (fun e => (∀ u, e = .str u → u ∈ ws) ∧ ∀ i, e = .int i → e ∈ es) v := fun hv => by
        obtain ⟨e, h1, rfl⟩ := List.mem_map.mp hv
        have h2 := (List.mem_filter.mp h1).1
        exact ⟨e, rfl, List.all_eq_true.mp he e h2, hem e h2, fun i _ => h2⟩
      rcases List.mem_append.mp hv with hv | hv
      · obtain ⟨z, hz, rfl⟩ := List.mem_map.mp hv
        exact ⟨.str z, rfl, wrd_ent (List.all_eq_true.mp hw2.2 z hz), fun u e => by cases e; exact hz, fun i e => by cases e⟩
      · rcases List.mem_append.mp hv with hv | hv
        · exact hI hv
        · exact hI hv
    have lE : (tV ws ++ (List.replicate (2 : Int).toNat ((es.filter fun d => !isStrD d).map entV)).flatten).length ≤ 10 := by
      rw [e5, List.length_append, List.length_append, List.length_map ]
      omega
    have lE0 : 0 < (tV ws ++ (List.replicate (2 : Int).toNat ((es.filter fun d => !isStrD d).map entV)).flatten).length := by
      rw [List.length_append, List.length_map]
      omega
    generalize tV ws ++ (List.replicate (2 : Int).toNat ((es.filter fun d => !isStrD d).map entV)).flatten = en at hE lE lE0 n5 ⊢
    have s5 := same_new (o := .lst en) n5
    generalize hG5 : upd (upd H3 l4 (.lst (List.replicate (2 : Int).toNat ((es.filter fun d => !isStrD d).map entV)).flatten)) l5 (.lst en) = H5 at s5 ⊢
    have u5 : H5 l5 = some (.lst en) := by rw [← hG5]; exact upd_same
    have s25 : Same H2 H5 := (s3.trans s4).trans s5
    clear hG5 s3 s4 s5 e5 l2 hD2 nD2 n4 n5
    have p5 := p2'.keep s25
    have hs5 := hs2.same s25
    have hD5 := s25 _ _ hD
    have b05 := b02.trans (but_of s25)
    clear hw2 hs2 hD p2' b02 s25
    -- the beginning
    refine ⟨_, rfl, by show 9 ≤ sizeLine; decide, fun l6 n6 => ?_⟩
    have s6 := same_new (o := .lst [.int 0, .int 0, .int 1, .int 1, .int 1, .int 2, .int 2, .int 3, .int 4]) n6
    refine ⟨d, c, l6, _, _, rfl, p5.keep s6, by omega, upd_same, by decide, by decide, fun v H7 hv p7 b7 => ?_⟩
    obtain ⟨N2, rfl, lN2⟩ : ∃ k : Nat, v = .int k ∧ k ≤ 4 := by
      simp only [List.mem_cons, List.not_mem_nil, or_false] at hv
      rcases hv with rfl | rfl | rfl | rfl | rfl | rfl | rfl | rfl | rfl
      · exact ⟨0, rfl, by decide⟩
      · exact ⟨0, rfl, by decide⟩
      · exact ⟨1, rfl, by decide⟩
      · exact ⟨1, rfl, by decide⟩
      · exact ⟨1, rfl, by decide⟩
      · exact ⟨2, rfl, by decide⟩
      · exact ⟨2, rfl, by decide⟩
      · exact ⟨3, rfl, by decide⟩
      · exact ⟨4, rfl, by decide⟩
    clear hv
    have b57 : But d H5 H7 := (but_of s6).trans b7
    have hs7 := hs5.but p5.pen b57
    have hD7 := b57 _ _ hD5 (tape_ne hD5 p5)
    have u7 := b57 _ _ u5 (tape_ne u5 p5)
    have b07 := b05.trans b57
    clear hs5 hD5 u5 b05 s6 b7 b57 n6 p5
    refine ⟨(N2 : Int), rfl, by omega, by omega, fun D3 nD3 => ?_⟩
    refine lc_tape (N := N2) (m := 1) (rel := fun y _ => EntW (fun e => (∀ u, e = .str u → u ∈ ws) ∧ ∀ i, e = .int i → e ∈ es) y) p7 nD3 (by omega) (fun _ _ _ _ _ _ h => h) (fun _ _ _ _ _ _ h => h) (fun _ => rfl) (fun i G hi bG pG R hR => ?_) fun zs H8 lzs hzs hD3 p8 b8 => ?_
    · have uG := bG _ _ u7 (tape_ne u7 p7)
      exact ⟨_, rfl, _, rfl, d, c, l5, _, en, rfl, pG, by omega, uG, lE0, by omega, fun v G' hv p' b' => hR v G' (hE v hv) p' b'⟩
    obtain ⟨bs, rfl, hbe, hbm⟩ := entw_list zs hzs
    have le4 : bs.length ≤ 4 := by rw [List.length_map] at lzs; omega
    have hs8 := hs7.but p7.pen b8
    have hD8 := b8 _ _ hD7 (tape_ne hD7 p7)
    have b08 := b07.trans b8
    have p8' : TapeAt H8 d c (n + 8) := p8.mono (by omega)
    clear hs7 hD7 b07 b8 p8 lzs hzs nD3 p7 u7 lE lE0 hE lN2
    -- there
    refine ⟨_, rfl, _, rfl, by show 1 ≤ sizeLine; decide, fun l9 n9 => ?_⟩
    have s9 := same_new (o := .lst [.str sOut]) n9
    have u9 : (upd H8 l9 (.lst [.str sOut])) l9 = some (.lst [.str sOut]) := upd_same
    generalize upd H8 l9 (.lst [.str sOut]) = H9 at s9 u9 ⊢
    refine ⟨_, rfl, d, c, _, 5, rfl, p8'.keep s9, by omega, by decide, by decide, fun j HA j0 j1 pA bA => ⟨rfl, .inr ⟨_, rfl, ?_⟩⟩⟩
    have u9A := bA _ _ u9 (tape_ne u9 (p8'.keep s9))
    have bA8 : But d H8 HA := (but_of s9).trans bA
    have hsA := hs8.but p8'.pen bA8
    generalize decide (V.int j = V.int 0) = bo
    obtain ⟨ko, eko, lko⟩ : ∃ k : Int, (if bo = true then (1 : Int) else 0) = k ∧ (k = 0 ∨ k = 1) := ⟨_, rfl, by cases bo; exact .inl rfl; exact .inr rfl⟩
    rw [eko]
    have ek : (List.replicate ko.toNat [V.str sOut]).flatten.length ≤ 1 ∧ ∀ v ∈ (List.replicate ko.toNat [V.str sOut]).flatten, v = .str sOut := by
      rcases lko with rfl | rfl
      · exact ⟨by decide, fun v hv => by cases hv⟩
      · refine ⟨by decide, fun v hv => ?_⟩
        have hv : v ∈ [V.str sOut] := hv
        exact List.mem_singleton.mp hv
    refine ⟨l9, ko, _, rfl, rfl, u9A, by omega, by omega, size_ok (by show 1 * ko.toNat ≤ 1000000; omega), fun lB nB => ?_⟩
    have sB := same_new (o := .lst (List.replicate ko.toNat [V.str sOut]).flatten) nB
    refine ⟨sl, lB, _, _, rfl, rfl, sB _ _ hsA.1, upd_same, size_ok (by rw [List.length_map]; omega), fun lC nC => ?_⟩
    have sC := same_new (o := .lst (tV ss ++ (List.replicate ko.toNat [V.str sOut]).flatten)) nC
    refine ⟨d, c, lC, _, _, rfl, (pA.keep sB).keep sC, by omega, upd_same, by rw [List.length_append, List.length_map]; omega, by rw [List.length_append, List.length_map]; omega, fun v HD hv pD bD => ?_⟩
    obtain ⟨y, rfl, hy⟩ : ∃ y : Str, v = .str y ∧ y ∈ ss ++ [sOut] := by
      rcases List.mem_append.mp hv with hv | hv
      · obtain ⟨z, hz, rfl⟩ := List.mem_map.mp hv
        exact ⟨z, rfl, List.mem_append_left _ hz⟩
      · exact ⟨sOut, ek.2 v hv, List.mem_append_right _ (.head _)⟩
    have wy : wrd y = true := by
      rcases List.mem_append.mp hy with h | h
      · exact List.all_eq_true.mp hs8.2 y h
      · rw [List.mem_singleton.mp h]
        decide
    have bD8 : But d H8 HD := (bA8.trans (but_of (sB.trans sC))).trans bD
    have hsD := hs8.but p8'.pen bD8
    have hDD := bD8 _ _ hD8 (tape_ne hD8 p8')
    have hD3D := bD8 _ _ hD3 (tape_ne hD3 p8')
    have b0D := b08.trans bD8
    have pD' : TapeAt HD d c (n + 10) := pD
    clear s9 u9 pA bA u9A bA8 hsA eko lko ek sB nB sC nC pD bD bD8 hv hs8 hD8 hD3 b08 p8' n9 j0 j1
    -- the goal
    refine ⟨d, c, D3, _, y, bs, rfl, pD', by omega, rfl, rfl, hD3D, fun gV g HE hG hg pE bE => ?_⟩
    have hsE := hsD.but pD'.pen bE
    have hDE := bE _ _ hDD (tape_ne hDD pD')
    have b0E := b0D.trans bE
    clear hsD hDD hD3D b0D pD' bE
    -- the rule
    refine ⟨_, rfl, _, rfl, d, c, sl, _, _, rfl, pE, by omega, hsE.1, by rw [List.length_map]; exact ls0, by rw [List.length_map]; omega, fun v HF hv pF bF => ?_⟩
    obtain ⟨z, hz, rfl⟩ := List.mem_map.mp hv
    have wz := List.all_eq_true.mp hsE.2 z hz
    have hDF := bF _ _ hDE (tape_ne hDE pE)
    obtain ⟨nsE, spE, rE, hdE, _⟩ := id pE
    have hGF : GoalAt K HF gV (goalSD g) := goal_at_kp hG (kp_but hdE rfl bF)
    refine ⟨_, rfl, D, _, rfl, .inl (.inl (.inl hDF)), fun tP HG hP sG => ?_⟩
    have hGG := goal_at_kp hGF (kp_same sG)
    refine ⟨_, rfl, _, rfl, d, c, _, 6, rfl, pF.keep sG, by omega, by decide, by decide, fun j HI j0 j1 pI bI => ⟨rfl, by show 4 ≤ sizeLine; decide, fun a na => ?_⟩⟩
    obtain ⟨nsG, spG, rG, hdG, _⟩ := id (pF.keep sG)
    have kI := kp_but hdG rfl bI
    have kA := kI.trans (kp_same (same_new (o := .tup [.str z, .ref tP, gV, .bl (decide (V.int j = V.int 0))]) na))
    have okA : okS (z, es, g, decide (V.int j = V.int 0)) := by
      refine ⟨wz, he, le2, ?_⟩
      rcases hg with rfl | rfl
      · rfl
      · refine goal_ok wy hbe le4 fun i hi => (hbm _ hi).2 i rfl
    refine q a (z, es, g, decide (V.int j = V.int 0)) _ ⟨tP, gV, .inl (.inl upd_same), kA.sqT hP, goal_at_kp hGG kA⟩ okA ⟨List.mem_append_left _ hz, fun g' eg => ?_, fun u hu => ?_⟩ ((pI.keep (same_new na)).mono (by omega)) ((((b0E.trans bF).trans (but_of sG)).trans bI).trans (but_of (same_new na)))
    · rcases hg with rfl | rfl
      · cases eg
      · cases eg
        exact hy
    · have hu' := mem_strsD.mp hu
      rcases List.mem_append.mp hu' with h | h
      · exact hem _ h u rfl
      · rcases hg with rfl | rfl
        · cases h
        · exact (hbm _ h).1 u rfl
end
end RL

-- FROM law_k18_rows_listed
namespace RL
open PySem L2 SX AddrMath VA PySem.W GR TxSet StX
/-! ## rules written over four texts -/
structure EnvW (σ : L2.St) (ws ss : List Str) (a b s t : Str) : Prop where
  e3 : σ[3]? = some (some (.str a))
  e4 : σ[4]? = some (some (.str b))
  e5 : σ[5]? = some (some (.str s))
  e6 : σ[6]? = some (some (.str t))
  wa : wrd a = true
  wb : wrd b = true
  wS : wrd s = true
  wt : wrd t = true
  ma : a ∈ ws
  mb : b ∈ ws
  ms : s ∈ ss
  mt : t ∈ ss
/-- an entry: 1, 2, or one of two words -/
inductive En where
  | i
  | j
  | a
  | b
  deriving DecidableEq
def En.d (a b : Str) : En → PyData
  | .i => .int 1
  | .j => .int 2
  | .a => .str a
  | .b => .str b
def En.isN (e : En) (p : List En) : Bool := e = .a || e = .b || decide (e ∈ p)
structure Ru where
  st : Bool
  pat : List En
  go : Option (Bool × List En)
  ex : Bool
def Ru.goal (r : Ru) (a b s t : Str) : Option (Str × List PyData) := r.go.map fun g => (if g.1 then s else t, g.2.map (En.d a b))
def Ru.said (r : Ru) (a b s t : Str) : Said := (if r.st then s else t, r.pat.map (En.d a b), r.goal a b s t, r.ex)
def Ru.ok (r : Ru) : Bool := decide (r.pat.length ≤ 2) && match r.go with
  | none => true
  | some g => decide (g.2.length ≤ 4) && g.2.all fun e => e.isN r.pat
theorem en_all {a b : Str} (wa : wrd a = true) (wb : wrd b = true) (es : List En) : (es.map (En.d a b)).all isEntD = true := by
  rw [List.all_eq_true]
  intro d hd
  obtain ⟨e, _, rfl⟩ := List.mem_map.mp hd
  cases e with
  | i => rfl
  | j => rfl
  | a => exact wrd_ent wa
  | b => exact wrd_ent wb
theorem en_str {a b u : Str} {es : List En} (h : PyData.str u ∈ es.map (En.d a b)) : u = a ∨ u = b := by
  obtain ⟨e, _, q⟩ := List.mem_map.mp h
  cases e with
  | i => cases q
  | j => cases q
  | a => cases q; exact .inl rfl
  | b => cases q; exact .inr rfl
theorem ru_ok {r : Ru} (h : r.ok = true) {a b s t : Str} (wa : wrd a = true) (wb : wrd b = true) (wS : wrd s = true) (wt : wrd t = true) : okS (r.said a b s t) := by
  unfold Ru.ok at h
  rw [Bool.and_eq_true] at h
  obtain ⟨h1, h2⟩ := h
  have h1 := of_decide_eq_true h1
  refine ⟨?_, en_all wa wb _, by show (r.pat.map _).length ≤ 2; rw [List.length_map]; exact h1, ?_⟩
  · show wrd (if r.st then s else t) = true
    cases r.st
    · exact wt
    · exact wS
  · show isGoalD (goalSD (r.goal a b s t)) (.tuple (r.pat.map (En.d a b))) = true
    unfold Ru.goal
    cases hg : r.go with
    | none => rfl
    | some g =>
      rw [hg] at h2
      have h2 : (decide (g.2.length ≤ 4) && g.2.all fun e => e.isN r.pat) = true := h2
      rw [Bool.and_eq_true] at h2
      refine goal_ok ?_ (en_all wa wb _) (by rw [List.length_map]; exact of_decide_eq_true h2.1) fun i hi => ?_
      · show wrd (if g.1 then s else t) = true
        cases g.1
        · exact wt
        · exact wS
      · obtain ⟨e, he, q⟩ := List.mem_map.mp hi
        have k := List.all_eq_true.mp h2.2 e he
        refine List.mem_map.mpr ⟨e, ?_, q⟩
        cases e with
        | a => cases q
        | b => cases q
        | i => exact of_decide_eq_true k
        | j => exact of_decide_eq_true k
theorem ru_of {r : Ru} (h : r.ok = true) {a b s t : Str} {ws ss : List Str} (ma : a ∈ ws) (mb : b ∈ ws) (ms : s ∈ ss) (mt : t ∈ ss) : ofS ss ws (r.said a b s t) := by
  have ab : ∀ {u : Str}, u = a ∨ u = b → u ∈ ws := fun {u} h => by
    rcases h with rfl | rfl
    · exact ma
    · exact mb
  refine ⟨?_, fun g e => ?_, fun u hu => ?_⟩
  · show (if r.st then s else t) ∈ ss
    cases r.st
    · exact mt
    · exact ms
  · have e : r.goal a b s t = some g := e
    unfold Ru.goal at e
    cases hg : r.go with
    | none => rw [hg] at e; cases e
    | some q =>
      rw [hg] at e
      cases e
      show (if q.1 then s else t) ∈ ss
      cases q.1
      · exact mt
      · exact ms
  · have hu' := mem_strsD.mp hu
    rcases List.mem_append.mp hu' with k | k
    · exact ab (en_str k)
    · have k : PyData.str u ∈ begD (goalSD (r.goal a b s t)) := k
      unfold Ru.goal at k
      cases hg : r.go with
      | none => rw [hg] at k; cases k
      | some q =>
        rw [hg] at k
        exact ab (en_str (es := q.2) k)
/-! ## their readings -/
def tLE (K : Frag) (g : Str → Str → Str → Str → PyData) : TE := fun σ H Q => ∃ ws ss a b s t, EnvW σ ws ss a b s t ∧ ∀ v H', Dp K H' v (g a b s t) → Same H H' → Q v H'
def tLEs (K : Frag) (g : Str → Str → Str → Str → List PyData) : TA := fun σ H Q => ∃ ws ss a b s t, EnvW σ ws ss a b s t ∧ ∀ vs H', DpAll K H' vs (g a b s t) → Same H H' → Q vs H'
def tGE (K : Frag) (go : Str → Str → Str → Str → Option (Str × List PyData)) : TE := fun σ H Q => ∃ ws ss a b s t, EnvW σ ws ss a b s t ∧ ∀ v H', GoalAt K H' v (goalSD (go a b s t)) → Same H H' → Q v H'
def tRE (K : Frag) (r : Ru) : TE := fun σ H Q => ∃ ws ss a b s t, EnvW σ ws ss a b s t ∧ ∀ p H', PlainS K H' p (r.said a b s t) → Same H H' → H p = none → Q (.ref p) H'
def tREs (K : Frag) (rs : List Ru) : TA := fun σ H Q => ∃ ws ss a b s t, EnvW σ ws ss a b s t ∧ ∀ (as : List Addr) H', PlainsAt K H' ss ws as (rs.map fun r => r.said a b s t) → Same H H' → Q (as.map V.ref) H'
def tRL (K : Frag) (rs : List Ru) : TE := fun σ H Q => ∃ ws ss a b s t, EnvW σ ws ss a b s t ∧ ∀ l (as : List Addr) H', H' l = some (.lst (as.map V.ref)) → PlainsAt K H' ss ws as (rs.map fun r => r.said a b s t) → Same H H' → H l = none → Q (.ref l) H'
section
variable {X : Cx} {K : Frag}
theorem le_c {e : Expr} {v : V} {d : PyData} (h : PE X e (tC v)) (k : ∀ H, Dp K H v d) : PE X e (tLE K fun _ _ _ _ => d) :=
  pe_by _ h fun σ H Q ⟨_, _, _, _, _, _, _, w⟩ => w v H (k H) (Same.refl H)
theorem le_bl {x : Bool} {j : Nat} {pos : Pos} : PE X (.Constant (.bool x) j pos) (tLE K fun _ _ _ _ => .bool x) := le_c pe_bl fun _ => .bl x
theorem le_int {i : Int} {j : Nat} {pos : Pos} : PE X (.Constant (.int i) j pos) (tLE K fun _ _ _ _ => .int i) := le_c pe_int fun _ => .int i
theorem le_a {e : Expr} (h : PE X e (tVar 3)) : PE X e (tLE K fun a _ _ _ => .str a) := pe_by _ h fun σ H Q ⟨_, _, a, b, s, t, en, w⟩ => ⟨_, en.e3, w _ H (.str _) (Same.refl H)⟩
theorem le_b {e : Expr} (h : PE X e (tVar 4)) : PE X e (tLE K fun _ b _ _ => .str b) := pe_by _ h fun σ H Q ⟨_, _, a, b, s, t, en, w⟩ => ⟨_, en.e4, w _ H (.str _) (Same.refl H)⟩
theorem le_s {e : Expr} (h : PE X e (tVar 5)) : PE X e (tLE K fun _ _ s _ => .str s) := pe_by _ h fun σ H Q ⟨_, _, a, b, s, t, en, w⟩ => ⟨_, en.e5, w _ H (.str _) (Same.refl H)⟩
theorem le_t {e : Expr} (h : PE X e (tVar 6)) : PE X e (tLE K fun _ _ _ t => .str t) := pe_by _ h fun σ H Q ⟨_, _, a, b, s, t, en, w⟩ => ⟨_, en.e6, w _ H (.str _) (Same.refl H)⟩
theorem les_nil : PA X [] (tLEs K fun _ _ _ _ => []) := pa_by _ pa_nil fun σ H Q ⟨_, _, _, _, _, _, _, w⟩ => w [] H .nil (Same.refl H)
theorem les_cons {e : Expr} {es : List Expr} {d : Str → Str → Str → Str → PyData} {ds : Str → Str → Str → Str → List PyData} (h : PE X e (tLE K d)) (t : PA X es (tLEs K ds)) (hs : starEach (e :: es) X.env = (false, eval e X.env) :: starEach es X.env := by rfl) : PA X (e :: es) (tLEs K fun a b s t => d a b s t :: ds a b s t) :=
  pa_by _ (pa_cons h t hs) fun σ H Q ⟨ws, ss, a, b, s, t, en, w⟩ => ⟨ws, ss, a, b, s, t, en, fun v H1 hv s1 => ⟨ws, ss, a, b, s, t, en, fun vs H2 hvs s2 => w (v :: vs) H2 (.cons (dp_same s2 hv) hvs) (s1.trans s2)⟩⟩
theorem le_tup {x1} {es : List Expr} {ds : Str → Str → Str → Str → List PyData} {pos : Pos} (h : PA X es (tLEs K ds)) (few : ∀ a b s t, Nat.ble (ds a b s t).length 1000 = true) : PE X (.Tuple es x1 pos) (tLE K fun a b s t => .tuple (ds a b s t)) :=
  pe_by _ (pe_tup h) fun σ H Q ⟨ws, ss, a, b, s, t, en, w⟩ => ⟨ws, ss, a, b, s, t, en, fun vs H1 hv s1 => ⟨Nat.le_of_lt (small1000 (by rw [dps_len hv]; exact Nat.le_of_ble_eq_true (few a b s t))), fun p np => w (.ref p) _ (.tup (.inl (.inl upd_same)) (dps_same (same_new np) hv)) (s1.trans (same_new np))⟩⟩
theorem ge_non {j : Nat} {pos : Pos} : PE X (.Constant .none j pos) (tGE K fun _ _ _ _ => none) := pe_by _ pe_non fun σ H Q ⟨_, _, _, _, _, _, _, w⟩ => w .non H rfl (Same.refl H)
theorem ge_tup {x1} {e1 e2 : Expr} {y : Str → Str → Str → Str → Str} {bs : Str → Str → Str → Str → List PyData} {pos : Pos} (h1 : PE X e1 (tLE K fun a b s t => .str (y a b s t))) (h2 : PE X e2 (tLE K fun a b s t => .tuple (bs a b s t)))
    (ha : ∀ a b s t, ∃ es : List En, bs a b s t = es.map (En.d a b))
    (hs1 : starEach [e1, e2] X.env = (false, eval e1 X.env) :: starEach [e2] X.env := by rfl) (hs2 : starEach [e2] X.env = (false, eval e2 X.env) :: starEach [] X.env := by rfl) : PE X (.Tuple [e1, e2] x1 pos) (tGE K fun a b s t => some (y a b s t, bs a b s t)) :=
  pe_by _ (pe_tup (pa_cons h1 (pa_cons h2 pa_nil hs2) hs1)) fun σ H Q ⟨ws, ss, a, b, s, t, en, w⟩ => ⟨ws, ss, a, b, s, t, en, fun v H1 hv s1 => by
    cases hv
    refine ⟨ws, ss, a, b, s, t, en, fun v2 H2 hv2 s2 => ⟨Nat.le_of_lt (small1000 (by show 2 ≤ 1000; decide)), fun p np => ?_⟩⟩
    obtain ⟨es, ee⟩ := ha a b s t
    obtain ⟨tb, rfl, hT⟩ := dp_ents hv2 (by rw [ee]; exact en_all en.wa en.wb es)
    exact w (.ref p) _ ⟨p, tb, rfl, upd_same, same_seqT (same_new np) hT⟩ ((s1.trans s2).trans (same_new np))⟩
theorem re_tup {x1} {e1 e2 e3 e4 : Expr} {z : Str → Str → Str → Str → Str} {es : Str → Str → Str → Str → List PyData} {go : Str → Str → Str → Str → Option (Str × List PyData)} {x : Bool} {pos : Pos} (r : Ru)
    (h1 : PE X e1 (tLE K fun a b s t => .str (z a b s t))) (h2 : PE X e2 (tLE K fun a b s t => .tuple (es a b s t))) (h3 : PE X e3 (tGE K go)) (h4 : PE X e4 (tLE K fun _ _ _ _ => .bool x))
    (hz : ∀ a b s t, z a b s t = if r.st then s else t) (he : ∀ a b s t, es a b s t = r.pat.map (En.d a b)) (hg : ∀ a b s t, go a b s t = r.goal a b s t) (hx : x = r.ex)
    (s1 : starEach [e1, e2, e3, e4] X.env = (false, eval e1 X.env) :: starEach [e2, e3, e4] X.env := by rfl) (s2 : starEach [e2, e3, e4] X.env = (false, eval e2 X.env) :: starEach [e3, e4] X.env := by rfl)
    (s3 : starEach [e3, e4] X.env = (false, eval e3 X.env) :: starEach [e4] X.env := by rfl) (s4 : starEach [e4] X.env = (false, eval e4 X.env) :: starEach [] X.env := by rfl) : PE X (.Tuple [e1, e2, e3, e4] x1 pos) (tRE K r) :=
  pe_by _ (pe_tup (pa_cons h1 (pa_cons h2 (pa_cons h3 (pa_cons h4 pa_nil s4) s3) s2) s1)) fun σ H Q ⟨ws, ss, a, b, s, t, en, w⟩ => ⟨ws, ss, a, b, s, t, en, fun v H1 hv s1 => by
    cases hv
    refine ⟨ws, ss, a, b, s, t, en, fun v2 H2 hv2 s2 => ⟨ws, ss, a, b, s, t, en, fun v3 H3 hv3 s3 => ⟨ws, ss, a, b, s, t, en, fun v4 H4 hv4 s4 => ⟨Nat.le_of_lt (small1000 (by show 4 ≤ 1000; decide)), fun p np => ?_⟩⟩⟩⟩
    cases hv4
    have hv2 : Dp K H2 v2 (.tuple (r.pat.map (En.d a b))) := by
      rw [← he a b s t]
      exact hv2
    rw [hg] at hv3
    obtain ⟨tP, rfl, hT⟩ := dp_ents hv2 (en_all en.wa en.wb r.pat)
    have k : Same H2 (upd H4 p (.tup [.str (z a b s t), .ref tP, v3, .bl x])) := (s3.trans s4).trans (same_new np)
    refine w p _ ⟨tP, v3, .inl (.inl ?_), same_seqT k hT, goal_at_kp hv3 (kp_same (s4.trans (same_new np)))⟩ (((s1.trans s2).trans (s3.trans s4)).trans (same_new np)) (((s1.trans s2).trans (s3.trans s4)).free np)
    rw [upd_same, hz, hx]
    rfl⟩
theorem res_nil : PA X [] (tREs K []) := pa_by _ pa_nil fun σ H Q ⟨_, _, _, _, _, _, _, w⟩ => w [] H ⟨rfl, fun i a s e => by cases e⟩ (Same.refl H)
theorem plains_cons {a : Addr} {H : Hp} {ss ws : List Str} {as : List Addr} {L : List Said} {s : Said} (k : PlainS K H a s ∧ okS s ∧ ofS ss ws s) (h : PlainsAt K H ss ws as L) : PlainsAt K H ss ws (a :: as) (s :: L) := by
  refine ⟨by rw [List.length_cons, List.length_cons, h.1], fun i q r hq hr => ?_⟩
  cases i with
  | zero =>
    cases hq
    cases hr
    exact k
  | succ i => exact h.2 i q r hq hr
theorem res_cons {e : Expr} {es : List Expr} {r : Ru} {rs : List Ru} (ok : r.ok = true) (h : PE X e (tRE K r)) (t : PA X es (tREs K rs)) (hs : starEach (e :: es) X.env = (false, eval e X.env) :: starEach es X.env := by rfl) : PA X (e :: es) (tREs K (r :: rs)) :=
  pa_by _ (pa_cons h t hs) fun σ H Q ⟨ws, ss, a, b, s, t, en, w⟩ => ⟨ws, ss, a, b, s, t, en, fun p H1 hv s1 np => ⟨ws, ss, a, b, s, t, en, fun as H2 hvs s2 => w (p :: as) H2 (plains_cons ⟨plainS_kp hv (kp_same s2), ru_ok ok en.wa en.wb en.wS en.wt, ru_of ok en.ma en.mb en.ms en.mt⟩ hvs) (s1.trans s2)⟩⟩
theorem rl_lst {es : List Expr} {rs : List Ru} {pos : Pos} (h : PA X es (tREs K rs)) (few : rs.length ≤ 100) : PE X (.List es pos) (tRL K rs) :=
  pe_by _ (pe_lst h) fun σ H Q ⟨ws, ss, a, b, s, t, en, w⟩ => ⟨ws, ss, a, b, s, t, en, fun as H1 hv s1 => ⟨size_ok (by rw [List.length_map, hv.1, List.length_map]; omega), fun p np => w p as _ upd_same (plainsAt_kp hv (kp_same (same_new np))) (s1.trans (same_new np)) (s1.free np)⟩⟩
end
/-! ## the outer list -/
/-- the lists of rules written so far -/
def PlI (K : Frag) (H0 : Hp) (d c : Addr) (n m r : Nat) (ws ss : List Str) (σ : L2.St) (H : Hp) : Prop := ∃ a b s t O ls, EnvW σ ws ss a b s t ∧ σ[0]? = some (some (.ref d)) ∧ σ[7]? = some (some (.ref O)) ∧ H O = some (.lst (ls.map V.ref)) ∧ (O :: ls).Nodup ∧ 0 < ls.length ∧ ls.length ≤ m ∧
  (∀ l ∈ ls, ∃ as L, H l = some (.lst (as.map V.ref)) ∧ PlainsAt K H ss ws as L ∧ L.length ≤ 2 + r) ∧ (∀ x ∈ O :: ls, H0 x = none) ∧ But d H0 H ∧ TapeAt H0 d c n ∧ TapeAt H d c n
def tPl (K : Frag) (da dr : Nat) : TS := fun D σ H => ∃ H0 d c n m r ws ss, m ≤ 50 ∧ r ≤ 50 ∧ PlI K H0 d c n m r ws ss σ H ∧ ∀ H', PlI K H0 d c n (m + da) (r + dr) ws ss σ H' → D.nx σ H'
theorem stA {K : Frag} {rs : List Ru} (l2 : rs.length ≤ 2) : ∀ D σ H, tPl K 1 0 D σ H → tDrop (tBM K "list" rAppend (tVar 7) (tCons (tRL K rs) tNil)) D σ H := by
  rintro D σ H ⟨H0, d, c, n, m, r, ws, ss, hm, hr, ⟨a, b, s, t, O, ls, en, e0, e7, hO, nd, l0, lm, hls, hn, bt, p0, p⟩, q⟩
  refine ⟨_, e7, .inl ⟨rfl, _, .inl (.inl hO)⟩, ws, ss, a, b, s, t, en, fun l as H1 hl hp s1 nl => ⟨O, _, _, rfl, rfl, s1 _ _ hO, size_lt (by rw [List.length_map]; omega), ?_⟩⟩
  have hO1 := s1 _ _ hO
  have lO : l ≠ O := fun z => by rw [z, hO] at nl; cases nl
  have lls : l ∉ ls := fun z => by
    obtain ⟨as, L, h, _⟩ := hls l z
    rw [h] at nl
    cases nl
  have nO : H0 O = none := hn O (.head _)
  have nl0 : H0 l = none := by
    cases e : H0 l with
    | none => rfl
    | some o =>
      have hld : l ≠ d := p.none_d nl
      rw [bt _ _ e hld] at nl
      cases nl
  rw [List.nodup_cons] at nd
  refine q _ ⟨a, b, s, t, O, ls ++ [l], en, e0, e7, by rw [upd_same, List.map_append]; rfl, ?_, by rw [List.length_append]; omega, by rw [List.length_append]; show _ + 1 ≤ m + 1; omega, fun x hx => ?_, fun x hx => ?_, But.put_new (bt.trans (but_of s1)) nO, p0, (p.keep s1).put (p0.none_d nO) (p0.none_c nO)⟩
  · rw [List.nodup_cons]
    refine ⟨fun z => ?_, ?_⟩
    · rcases List.mem_append.mp z with z | z
      · exact nd.1 z
      · exact lO (List.mem_singleton.mp z).symm
    · rw [List.nodup_append]
      refine ⟨nd.2, by simp, fun x hx y hy => ?_⟩
      rw [List.mem_singleton.mp hy]
      intro z
      rw [z] at hx
      exact lls hx
  · rcases List.mem_append.mp hx with hx | hx
    · obtain ⟨as', L, h1, h2, h3⟩ := hls x hx
      exact ⟨as', L, by rw [upd_ne (fun z => nd.1 (by rw [← z]; exact hx))]; exact s1 _ _ h1, plainsAt_but hO1 But.upd (plainsAt_kp h2 (kp_same s1)), by omega⟩
    · rw [List.mem_singleton.mp hx]
      exact ⟨as, _, by rw [upd_ne lO]; exact hl, plainsAt_but hO1 But.upd hp, by rw [List.length_map]; omega⟩
  · rcases List.mem_cons.mp hx with rfl | hx
    · exact nO
    · rcases List.mem_append.mp hx with hx | hx
      · exact hn x (.tail _ hx)
      · rw [List.mem_singleton.mp hx]
        exact nl0
theorem stB {K : Frag} {ru : Ru} (ok : ru.ok = true) : ∀ D σ H, tPl K 0 1 D σ H → tDrop (tBM K "list" rAppend (tOp (rIxL K) (tVar 7) (tUn (rU fun i => .int (-i)) (tC (.int 1)))) (tCons (tRE K ru) tNil)) D σ H := by
  rintro D σ H ⟨H0, d, c, n, m, r, ws, ss, hm, hr, ⟨a, b, s, t, O, ls, en, e0, e7, hO, nd, l0, lm, hls, hn, bt, p0, p⟩, q⟩
  obtain ⟨l, hl⟩ : ∃ l, ls.getLast? = some l := by
    cases ls with
    | nil => cases l0
    | cons x y => exact ⟨_, List.getLast?_eq_some_getLast (by simp)⟩
  have ml : l ∈ ls := List.mem_of_getLast? hl
  obtain ⟨as, L, h1, h2, h3⟩ := hls l ml
  refine ⟨_, e7, 1, rfl, O, _, -1, .ref l, rfl, rfl, .inl (.inl hO), at_last (by rw [List.getLast?_map, hl]; rfl), .inl ⟨rfl, _, .inl (.inl h1)⟩, ws, ss, a, b, s, t, en, fun x H1 hp s1 nx => ⟨l, _, _, rfl, rfl, s1 _ _ h1, size_lt (by rw [List.length_map, h2.1]; omega), ?_⟩⟩
  have h1' := s1 _ _ h1
  rw [List.nodup_cons] at nd
  have lO : l ≠ O := fun z => nd.1 (by rw [← z]; exact ml)
  have nl : H0 l = none := hn l (.tail _ ml)
  refine q _ ⟨a, b, s, t, O, ls, en, e0, e7, by rw [upd_ne lO.symm]; exact s1 _ _ hO, List.nodup_cons.mpr nd, l0, by omega, fun y hy => ?_, hn, But.put_new (bt.trans (but_of s1)) nl, p0, (p.keep s1).put (p0.none_d nl) (p0.none_c nl)⟩
  by_cases e : y = l
  · subst e
    refine ⟨as ++ [x], L ++ [ru.said a b s t], by rw [upd_same, List.map_append]; rfl, plains_snoc (plainsAt_but h1' But.upd (plainsAt_kp h2 (kp_same s1))) ⟨plainS_but h1' But.upd hp, ru_ok ok en.wa en.wb en.wS en.wt, ru_of ok en.ma en.mb en.ms en.mt⟩, by rw [List.length_append]; show _ + 1 ≤ _; omega⟩
  · obtain ⟨as', L', g1, g2, g3⟩ := hls y hy
    exact ⟨as', L', by rw [upd_ne e]; exact s1 _ _ g1, plainsAt_but h1' But.upd (plainsAt_kp g2 (kp_same s1)), by omega⟩
end RL

-- FROM law_k18_rows_listed
namespace RL
open PySem L2 SX AddrMath VA PySem.W GR TxSet StX
section
variable {P : Program} {w : World} {K : Frag} {mg : Str → Option Value} {base : Heap}
/-! ### _law_planted: slots _law_tape 0, _law_words 1, _law_states 2, _law_a 3, _law_b 4, _law_s 5, _law_t 6, _law_some 7 -/
abbrev sPlanted : Stmt := top 67
theorem scPlanted : FnScope ["_law_tape", "_law_words", "_law_states", "_law_a", "_law_b", "_law_s", "_law_t", "_law_some"] ["_law_tape", "_law_words", "_law_states"] (defScope sPlanted) := ⟨rfl, rfl, rfl, by decide +kernel, rfl, by decide +kernel, by decide +kernel⟩
def spPlanted (K : Frag) : Sp := fun vs H Q _ => ∃ (d c wl sl : Addr) (n : Nat) (ws ss : List Str), vs = [.ref d, .ref wl, .ref sl] ∧ TapeAt H d c n ∧ n ≤ 800000 ∧ LW H wl ws ∧ LW H sl ss ∧ 2 ≤ ss.length ∧ 2 ≤ ws.length ∧ ws.length ≤ 6 ∧ ss.length ≤ 6 ∧
  ∀ (l : Addr) (as : List Addr) (L : List Said) H', H' l = some (.lst (as.map V.ref)) → PlainsAt K H' ss ws as L → L.length ≤ 5 → H l = none → TapeAt H' d c (n + 50) → But d H H' → Q (.ref l) H'
/-- the first two of a list of texts put into another order -/
theorem two_of {ws : List Str} {ys : List V} (h : ys.Perm (tV ws)) (l : 2 ≤ ws.length) : ∃ a b r, ys = .str a :: .str b :: r ∧ a ∈ ws ∧ b ∈ ws := by
  have e := h.length_eq
  rw [List.length_map] at e
  have mem : ∀ y ∈ ys, ∃ z, y = .str z ∧ z ∈ ws := fun y hy => by
    obtain ⟨z, hz, e⟩ := List.mem_map.mp (h.mem_iff.mp hy)
    exact ⟨z, e.symm, hz⟩
  match ys, e, mem with
  | [], e, _ => simp at e; omega
  | [_], e, _ => simp at e; omega
  | x :: y :: r, _, mem =>
    obtain ⟨a, rfl, ha⟩ := mem x (.head _)
    obtain ⟨b, rfl, hb⟩ := mem y (.tail _ (.head _))
    exact ⟨a, b, r, rfl, ha, hb⟩
theorem ok_planted {f : Addr} {fd : FuncData} (F : Fun K "_law_planted" "_law_planted" sPlanted f fd) (shuffled : Own P w K mg base CX0 2 "_law_shuffled" ["_law_tape", "_law_some"] spShuffled) (pick : Own P w K mg base CX0 2 "_law_pick" ["_law_tape", "_law_some"] spPick) :
    FnOk P w K mg base CX0 3 f fd ["_law_tape", "_law_words", "_law_states"] (spPlanted K) := by
  refine F.ok scPlanted (fun vs H Q E h => ?_) (fun cdv A outer s0 H vs Q E hr h => ?_)
  · obtain ⟨d, c, wl, sl, n, ws, ss, rfl, _⟩ := h
    rfl
  · obtain ⟨d, c, wl, sl, n, ws, ss, rfl, p, hn, hw, hs, ls2, lw2, lw, ls, q⟩ := h
    refine ⟨_, (pss_cons (ps_asg (pe_slice sl_list (pe_call shuffled.g (hr.mono (by decide)) rfl shuffled.mg shuffled.kp shuffled.b .nil pass0 (pa_cons (pv 0) (pa_cons (pv 1) pa_nil))) po_none (po_some pe_int)) (pg_lst (n := 2) rfl (pgs_cons (pg_name (i := 3) scPlanted.nd rfl (Or.inl rfl)) (pgs_cons (pg_name (i := 4) scPlanted.nd rfl (Or.inl rfl)) pgs_nil))))
      (pss_cons (ps_asg (pe_slice sl_list (pe_call shuffled.g (hr.mono (by decide)) rfl shuffled.mg shuffled.kp shuffled.b .nil pass0 (pa_cons (pv 0) (pa_cons (pv 2) pa_nil))) po_none (po_some pe_int)) (pg_lst (n := 2) rfl (pgs_cons (pg_name (i := 5) scPlanted.nd rfl (Or.inl rfl)) (pgs_cons (pg_name (i := 6) scPlanted.nd rfl (Or.inl rfl)) pgs_nil))))
      (pss_cons (ps_set (i := 7) scPlanted.nd rfl (Or.inl rfl) (pe_lst (pa_cons (rl_lst (K := K) (res_cons rfl (re_tup ⟨true, [.i, .i], some (false, [.i]), false⟩ (le_s (pv 5)) (le_tup (les_cons le_int (les_cons le_int les_nil)) (fun _ _ _ _ => rfl)) (ge_tup (le_t (pv 6)) (le_tup (les_cons le_int les_nil) (fun _ _ _ _ => rfl)) (fun _ _ _ _ => ⟨[.i], rfl⟩)) le_bl (fun _ _ _ _ => rfl) (fun _ _ _ _ => rfl) (fun _ _ _ _ => rfl) rfl) (res_cons rfl (re_tup ⟨true, [.i, .j], some (true, [.i]), false⟩ (le_s (pv 5)) (le_tup (les_cons le_int (les_cons le_int les_nil)) (fun _ _ _ _ => rfl)) (ge_tup (le_s (pv 5)) (le_tup (les_cons le_int les_nil) (fun _ _ _ _ => rfl)) (fun _ _ _ _ => ⟨[.i], rfl⟩)) le_bl (fun _ _ _ _ => rfl) (fun _ _ _ _ => rfl) (fun _ _ _ _ => rfl) rfl) res_nil)) (by decide)) pa_nil)))
      (pss_cons (ps_by (tPl K 1 0) (ps_expr (pe_bm PySem.F.plainAttrs_list PySem.F.slot_list_append PySem.F.type_list_append mt_append (pv 7) (pa_cons (rl_lst (K := K) (res_cons rfl (re_tup ⟨true, [.a], some (false, [.a, .a]), false⟩ (le_s (pv 5)) (le_tup (les_cons (le_a (pv 3)) les_nil) (fun _ _ _ _ => rfl)) (ge_tup (le_t (pv 6)) (le_tup (les_cons (le_a (pv 3)) (les_cons (le_a (pv 3)) les_nil)) (fun _ _ _ _ => rfl)) (fun _ _ _ _ => ⟨[.a, .a], rfl⟩)) le_bl (fun _ _ _ _ => rfl) (fun _ _ _ _ => rfl) (fun _ _ _ _ => rfl) rfl) (res_cons rfl (re_tup ⟨false, [.a], some (false, []), false⟩ (le_t (pv 6)) (le_tup (les_cons (le_a (pv 3)) les_nil) (fun _ _ _ _ => rfl)) (ge_tup (le_t (pv 6)) (le_tup les_nil (fun _ _ _ _ => rfl)) (fun _ _ _ _ => ⟨[], rfl⟩)) le_bl (fun _ _ _ _ => rfl) (fun _ _ _ _ => rfl) (fun _ _ _ _ => rfl) rfl) res_nil)) (by decide)) pa_nil))) (stA (by decide)))
      (pss_cons (ps_by (tPl K 1 0) (ps_expr (pe_bm PySem.F.plainAttrs_list PySem.F.slot_list_append PySem.F.type_list_append mt_append (pv 7) (pa_cons (rl_lst (K := K) (res_cons rfl (re_tup ⟨true, [.i, .a], some (false, [.i, .i]), false⟩ (le_s (pv 5)) (le_tup (les_cons le_int (les_cons (le_a (pv 3)) les_nil)) (fun _ _ _ _ => rfl)) (ge_tup (le_t (pv 6)) (le_tup (les_cons le_int (les_cons le_int les_nil)) (fun _ _ _ _ => rfl)) (fun _ _ _ _ => ⟨[.i, .i], rfl⟩)) le_bl (fun _ _ _ _ => rfl) (fun _ _ _ _ => rfl) (fun _ _ _ _ => rfl) rfl) (res_cons rfl (re_tup ⟨true, [.i, .j], some (true, [.i]), false⟩ (le_s (pv 5)) (le_tup (les_cons le_int (les_cons le_int les_nil)) (fun _ _ _ _ => rfl)) (ge_tup (le_s (pv 5)) (le_tup (les_cons le_int les_nil) (fun _ _ _ _ => rfl)) (fun _ _ _ _ => ⟨[.i], rfl⟩)) le_bl (fun _ _ _ _ => rfl) (fun _ _ _ _ => rfl) (fun _ _ _ _ => rfl) rfl) res_nil)) (by decide)) pa_nil))) (stA (by decide)))
      (pss_cons (ps_by (tPl K 0 1) (ps_expr (pe_bm PySem.F.plainAttrs_list PySem.F.slot_list_append PySem.F.type_list_append mt_append (pe_ix ix_list (pv 7) (pe_un un_neg pe_int) (fun _ _ => rfl)) (pa_cons (re_tup ⟨false, [.i, .b], some (true, [.b, .a, .i]), false⟩ (le_t (pv 6)) (le_tup (les_cons le_int (les_cons (le_b (pv 4)) les_nil)) (fun _ _ _ _ => rfl)) (ge_tup (le_s (pv 5)) (le_tup (les_cons (le_b (pv 4)) (les_cons (le_a (pv 3)) (les_cons le_int les_nil))) (fun _ _ _ _ => rfl)) (fun _ _ _ _ => ⟨[.b, .a, .i], rfl⟩)) le_bl (fun _ _ _ _ => rfl) (fun _ _ _ _ => rfl) (fun _ _ _ _ => rfl) rfl) pa_nil))) (stB (by rfl)))
      (pss_cons (ps_by (tPl K 1 0) (ps_expr (pe_bm PySem.F.plainAttrs_list PySem.F.slot_list_append PySem.F.type_list_append mt_append (pv 7) (pa_cons (rl_lst (K := K) (res_cons rfl (re_tup ⟨true, [.i], some (false, [.i, .b]), false⟩ (le_s (pv 5)) (le_tup (les_cons le_int les_nil) (fun _ _ _ _ => rfl)) (ge_tup (le_t (pv 6)) (le_tup (les_cons le_int (les_cons (le_b (pv 4)) les_nil)) (fun _ _ _ _ => rfl)) (fun _ _ _ _ => ⟨[.i, .b], rfl⟩)) le_bl (fun _ _ _ _ => rfl) (fun _ _ _ _ => rfl) (fun _ _ _ _ => rfl) rfl) (res_cons rfl (re_tup ⟨false, [.i, .b], some (true, []), false⟩ (le_t (pv 6)) (le_tup (les_cons le_int (les_cons (le_b (pv 4)) les_nil)) (fun _ _ _ _ => rfl)) (ge_tup (le_s (pv 5)) (le_tup les_nil (fun _ _ _ _ => rfl)) (fun _ _ _ _ => ⟨[], rfl⟩)) le_bl (fun _ _ _ _ => rfl) (fun _ _ _ _ => rfl) (fun _ _ _ _ => rfl) rfl) res_nil)) (by decide)) pa_nil))) (stA (by decide)))
      (pss_cons (ps_by (tPl K 1 0) (ps_expr (pe_bm PySem.F.plainAttrs_list PySem.F.slot_list_append PySem.F.type_list_append mt_append (pv 7) (pa_cons (rl_lst (K := K) (res_cons rfl (re_tup ⟨true, [.a], some (true, [.b, .b, .b, .b]), false⟩ (le_s (pv 5)) (le_tup (les_cons (le_a (pv 3)) les_nil) (fun _ _ _ _ => rfl)) (ge_tup (le_s (pv 5)) (le_tup (les_cons (le_b (pv 4)) (les_cons (le_b (pv 4)) (les_cons (le_b (pv 4)) (les_cons (le_b (pv 4)) les_nil)))) (fun _ _ _ _ => rfl)) (fun _ _ _ _ => ⟨[.b, .b, .b, .b], rfl⟩)) le_bl (fun _ _ _ _ => rfl) (fun _ _ _ _ => rfl) (fun _ _ _ _ => rfl) rfl) (res_cons rfl (re_tup ⟨true, [.b], some (true, []), false⟩ (le_s (pv 5)) (le_tup (les_cons (le_b (pv 4)) les_nil) (fun _ _ _ _ => rfl)) (ge_tup (le_s (pv 5)) (le_tup les_nil (fun _ _ _ _ => rfl)) (fun _ _ _ _ => ⟨[], rfl⟩)) le_bl (fun _ _ _ _ => rfl) (fun _ _ _ _ => rfl) (fun _ _ _ _ => rfl) rfl) res_nil)) (by decide)) pa_nil))) (stA (by decide)))
      (pss_cons (ps_by (tPl K 1 0) (ps_expr (pe_bm PySem.F.plainAttrs_list PySem.F.slot_list_append PySem.F.type_list_append mt_append (pv 7) (pa_cons (rl_lst (K := K) (res_cons rfl (re_tup ⟨true, [.i], some (false, [.i, .i]), true⟩ (le_s (pv 5)) (le_tup (les_cons le_int les_nil) (fun _ _ _ _ => rfl)) (ge_tup (le_t (pv 6)) (le_tup (les_cons le_int (les_cons le_int les_nil)) (fun _ _ _ _ => rfl)) (fun _ _ _ _ => ⟨[.i, .i], rfl⟩)) le_bl (fun _ _ _ _ => rfl) (fun _ _ _ _ => rfl) (fun _ _ _ _ => rfl) rfl) (res_cons rfl (re_tup ⟨true, [.i, .j], some (true, [.j]), false⟩ (le_s (pv 5)) (le_tup (les_cons le_int (les_cons le_int les_nil)) (fun _ _ _ _ => rfl)) (ge_tup (le_s (pv 5)) (le_tup (les_cons le_int les_nil) (fun _ _ _ _ => rfl)) (fun _ _ _ _ => ⟨[.j], rfl⟩)) le_bl (fun _ _ _ _ => rfl) (fun _ _ _ _ => rfl) (fun _ _ _ _ => rfl) rfl) res_nil)) (by decide)) pa_nil))) (stA (by decide)))
      (pss_cons (ps_by (tPl K 1 0) (ps_expr (pe_bm PySem.F.plainAttrs_list PySem.F.slot_list_append PySem.F.type_list_append mt_append (pv 7) (pa_cons (rl_lst (K := K) (res_cons rfl (re_tup ⟨true, [.a], none, false⟩ (le_s (pv 5)) (le_tup (les_cons (le_a (pv 3)) les_nil) (fun _ _ _ _ => rfl)) ge_non le_bl (fun _ _ _ _ => rfl) (fun _ _ _ _ => rfl) (fun _ _ _ _ => rfl) rfl) (res_cons rfl (re_tup ⟨true, [.i], some (true, [.a, .i]), false⟩ (le_s (pv 5)) (le_tup (les_cons le_int les_nil) (fun _ _ _ _ => rfl)) (ge_tup (le_s (pv 5)) (le_tup (les_cons (le_a (pv 3)) (les_cons le_int les_nil)) (fun _ _ _ _ => rfl)) (fun _ _ _ _ => ⟨[.a, .i], rfl⟩)) le_bl (fun _ _ _ _ => rfl) (fun _ _ _ _ => rfl) (fun _ _ _ _ => rfl) rfl) res_nil)) (by decide)) pa_nil))) (stA (by decide)))
      (pss_cons (ps_by (tPl K 1 0) (ps_expr (pe_bm PySem.F.plainAttrs_list PySem.F.slot_list_append PySem.F.type_list_append mt_append (pv 7) (pa_cons (rl_lst (K := K) (res_cons rfl (re_tup ⟨true, [.i, .j], some (true, [.j, .i]), false⟩ (le_s (pv 5)) (le_tup (les_cons le_int (les_cons le_int les_nil)) (fun _ _ _ _ => rfl)) (ge_tup (le_s (pv 5)) (le_tup (les_cons le_int (les_cons le_int les_nil)) (fun _ _ _ _ => rfl)) (fun _ _ _ _ => ⟨[.j, .i], rfl⟩)) le_bl (fun _ _ _ _ => rfl) (fun _ _ _ _ => rfl) (fun _ _ _ _ => rfl) rfl) (res_cons rfl (re_tup ⟨true, [.a], some (false, []), true⟩ (le_s (pv 5)) (le_tup (les_cons (le_a (pv 3)) les_nil) (fun _ _ _ _ => rfl)) (ge_tup (le_t (pv 6)) (le_tup les_nil (fun _ _ _ _ => rfl)) (fun _ _ _ _ => ⟨[], rfl⟩)) le_bl (fun _ _ _ _ => rfl) (fun _ _ _ _ => rfl) (fun _ _ _ _ => rfl) rfl) res_nil)) (by decide)) pa_nil))) (stA (by decide)))
      (pss_cons (ps_by (tPl K 1 0) (ps_expr (pe_bm PySem.F.plainAttrs_list PySem.F.slot_list_append PySem.F.type_list_append mt_append (pv 7) (pa_cons (rl_lst (K := K) (res_cons rfl (re_tup ⟨true, [.a], some (false, [.a, .b]), false⟩ (le_s (pv 5)) (le_tup (les_cons (le_a (pv 3)) les_nil) (fun _ _ _ _ => rfl)) (ge_tup (le_t (pv 6)) (le_tup (les_cons (le_a (pv 3)) (les_cons (le_b (pv 4)) les_nil)) (fun _ _ _ _ => rfl)) (fun _ _ _ _ => ⟨[.a, .b], rfl⟩)) le_bl (fun _ _ _ _ => rfl) (fun _ _ _ _ => rfl) (fun _ _ _ _ => rfl) rfl) (res_cons rfl (re_tup ⟨false, [.i, .j], some (true, [.i, .j, .b]), false⟩ (le_t (pv 6)) (le_tup (les_cons le_int (les_cons le_int les_nil)) (fun _ _ _ _ => rfl)) (ge_tup (le_s (pv 5)) (le_tup (les_cons le_int (les_cons le_int (les_cons (le_b (pv 4)) les_nil))) (fun _ _ _ _ => rfl)) (fun _ _ _ _ => ⟨[.i, .j, .b], rfl⟩)) le_bl (fun _ _ _ _ => rfl) (fun _ _ _ _ => rfl) (fun _ _ _ _ => rfl) rfl) res_nil)) (by decide)) pa_nil))) (stA (by decide)))
      (pss_cons (ps_by (tPl K 1 0) (ps_expr (pe_bm PySem.F.plainAttrs_list PySem.F.slot_list_append PySem.F.type_list_append mt_append (pv 7) (pa_cons (rl_lst (K := K) (res_cons rfl (re_tup ⟨true, [.i, .i], some (true, [.a]), false⟩ (le_s (pv 5)) (le_tup (les_cons le_int (les_cons le_int les_nil)) (fun _ _ _ _ => rfl)) (ge_tup (le_s (pv 5)) (le_tup (les_cons (le_a (pv 3)) les_nil) (fun _ _ _ _ => rfl)) (fun _ _ _ _ => ⟨[.a], rfl⟩)) le_bl (fun _ _ _ _ => rfl) (fun _ _ _ _ => rfl) (fun _ _ _ _ => rfl) rfl) (res_cons rfl (re_tup ⟨true, [.b, .i], some (true, [.i, .i]), false⟩ (le_s (pv 5)) (le_tup (les_cons (le_b (pv 4)) (les_cons le_int les_nil)) (fun _ _ _ _ => rfl)) (ge_tup (le_s (pv 5)) (le_tup (les_cons le_int (les_cons le_int les_nil)) (fun _ _ _ _ => rfl)) (fun _ _ _ _ => ⟨[.i, .i], rfl⟩)) le_bl (fun _ _ _ _ => rfl) (fun _ _ _ _ => rfl) (fun _ _ _ _ => rfl) rfl) res_nil)) (by decide)) pa_nil))) (stA (by decide)))
      (pss_cons (ps_by (tPl K 1 0) (ps_expr (pe_bm PySem.F.plainAttrs_list PySem.F.slot_list_append PySem.F.type_list_append mt_append (pv 7) (pa_cons (rl_lst (K := K) (res_cons rfl (re_tup ⟨true, [], some (false, [.a]), false⟩ (le_s (pv 5)) (le_tup les_nil (fun _ _ _ _ => rfl)) (ge_tup (le_t (pv 6)) (le_tup (les_cons (le_a (pv 3)) les_nil) (fun _ _ _ _ => rfl)) (fun _ _ _ _ => ⟨[.a], rfl⟩)) le_bl (fun _ _ _ _ => rfl) (fun _ _ _ _ => rfl) (fun _ _ _ _ => rfl) rfl) (res_cons rfl (re_tup ⟨false, [.a, .i], some (true, []), false⟩ (le_t (pv 6)) (le_tup (les_cons (le_a (pv 3)) (les_cons le_int les_nil)) (fun _ _ _ _ => rfl)) (ge_tup (le_s (pv 5)) (le_tup les_nil (fun _ _ _ _ => rfl)) (fun _ _ _ _ => ⟨[], rfl⟩)) le_bl (fun _ _ _ _ => rfl) (fun _ _ _ _ => rfl) (fun _ _ _ _ => rfl) rfl) res_nil)) (by decide)) pa_nil))) (stA (by decide)))
      (pss_cons (ps_by (tPl K 1 0) (ps_expr (pe_bm PySem.F.plainAttrs_list PySem.F.slot_list_append PySem.F.type_list_append mt_append (pv 7) (pa_cons (rl_lst (K := K) (res_cons rfl (re_tup ⟨true, [.a], some (true, []), false⟩ (le_s (pv 5)) (le_tup (les_cons (le_a (pv 3)) les_nil) (fun _ _ _ _ => rfl)) (ge_tup (le_s (pv 5)) (le_tup les_nil (fun _ _ _ _ => rfl)) (fun _ _ _ _ => ⟨[], rfl⟩)) le_bl (fun _ _ _ _ => rfl) (fun _ _ _ _ => rfl) (fun _ _ _ _ => rfl) rfl) (res_cons rfl (re_tup ⟨true, [.b], some (false, [.b, .a]), false⟩ (le_s (pv 5)) (le_tup (les_cons (le_b (pv 4)) les_nil) (fun _ _ _ _ => rfl)) (ge_tup (le_t (pv 6)) (le_tup (les_cons (le_b (pv 4)) (les_cons (le_a (pv 3)) les_nil)) (fun _ _ _ _ => rfl)) (fun _ _ _ _ => ⟨[.b, .a], rfl⟩)) le_bl (fun _ _ _ _ => rfl) (fun _ _ _ _ => rfl) (fun _ _ _ _ => rfl) rfl) res_nil)) (by decide)) pa_nil))) (stA (by decide)))
      (pss_cons (ps_by (tPl K 0 1) (ps_expr (pe_bm PySem.F.plainAttrs_list PySem.F.slot_list_append PySem.F.type_list_append mt_append (pe_ix ix_list (pv 7) (pe_un un_neg pe_int) (fun _ _ => rfl)) (pa_cons (re_tup ⟨false, [.i, .j], some (false, [.j]), false⟩ (le_t (pv 6)) (le_tup (les_cons le_int (les_cons le_int les_nil)) (fun _ _ _ _ => rfl)) (ge_tup (le_t (pv 6)) (le_tup (les_cons le_int les_nil) (fun _ _ _ _ => rfl)) (fun _ _ _ _ => ⟨[.j], rfl⟩)) le_bl (fun _ _ _ _ => rfl) (fun _ _ _ _ => rfl) (fun _ _ _ _ => rfl) rfl) pa_nil))) (stB (by rfl)))
      (pss_cons (ps_by (tPl K 1 0) (ps_expr (pe_bm PySem.F.plainAttrs_list PySem.F.slot_list_append PySem.F.type_list_append mt_append (pv 7) (pa_cons (rl_lst (K := K) (res_cons rfl (re_tup ⟨true, [.i, .b], some (false, [.b]), true⟩ (le_s (pv 5)) (le_tup (les_cons le_int (les_cons (le_b (pv 4)) les_nil)) (fun _ _ _ _ => rfl)) (ge_tup (le_t (pv 6)) (le_tup (les_cons (le_b (pv 4)) les_nil) (fun _ _ _ _ => rfl)) (fun _ _ _ _ => ⟨[.b], rfl⟩)) le_bl (fun _ _ _ _ => rfl) (fun _ _ _ _ => rfl) (fun _ _ _ _ => rfl) rfl) (res_cons rfl (re_tup ⟨true, [.i, .j], some (true, [.j, .i, .i]), true⟩ (le_s (pv 5)) (le_tup (les_cons le_int (les_cons le_int les_nil)) (fun _ _ _ _ => rfl)) (ge_tup (le_s (pv 5)) (le_tup (les_cons le_int (les_cons le_int (les_cons le_int les_nil))) (fun _ _ _ _ => rfl)) (fun _ _ _ _ => ⟨[.j, .i, .i], rfl⟩)) le_bl (fun _ _ _ _ => rfl) (fun _ _ _ _ => rfl) (fun _ _ _ _ => rfl) rfl) res_nil)) (by decide)) pa_nil))) (stA (by decide)))
      (pss_cons (ps_by (tPl K 0 1) (ps_expr (pe_bm PySem.F.plainAttrs_list PySem.F.slot_list_append PySem.F.type_list_append mt_append (pe_ix ix_list (pv 7) (pe_un un_neg pe_int) (fun _ _ => rfl)) (pa_cons (re_tup ⟨true, [.j], some (true, []), false⟩ (le_s (pv 5)) (le_tup (les_cons le_int les_nil) (fun _ _ _ _ => rfl)) (ge_tup (le_s (pv 5)) (le_tup les_nil (fun _ _ _ _ => rfl)) (fun _ _ _ _ => ⟨[], rfl⟩)) le_bl (fun _ _ _ _ => rfl) (fun _ _ _ _ => rfl) (fun _ _ _ _ => rfl) rfl) pa_nil))) (stB (by rfl)))
      (pss_one (ps_ret (pe_call pick.g (hr.mono (by decide)) rfl pick.mg pick.kp pick.b .nil pass0 (pa_cons (pv 0) (pa_cons (pv 7) pa_nil))))))))))))))))))))))), ?_⟩
    refine ⟨_, rfl, _, rfl, d, c, wl, n, _, rfl, p, hw.1, by rw [List.length_map]; omega, by omega, fun o1 ys1 H1 pm1 ho1 _ p1 b1 => ?_⟩
    obtain ⟨a, b, r1, rfl, ma, mb⟩ := two_of pm1 lw2
    have hw1 := hw.but p.pen b1
    have hs1 := hs.but p.pen b1
    refine ⟨2, rfl, o1, _, rfl, .inl (.inl ho1), fun t1 n1 => ?_⟩
    have ec1 : cutV (V.str a :: V.str b :: r1) none (some 2) = [V.str a, V.str b] := by
      rw [show (2 : Int) = ((2 : Nat) : Int) from rfl, cut_to]
      rfl
    rw [ec1]
    have s1 := same_new (o := .lst [V.str a, V.str b]) n1
    refine ⟨t1, _, rfl, .inl (.inl upd_same), rfl, _, _, rfl, _, _, rfl, rfl, ?_⟩
    have p1' := p1.keep s1
    have b1' : But d H _ := b1.trans (but_of s1)
    have hs1' := hs1.same s1
    generalize upd H1 t1 (.lst [V.str a, V.str b]) = H2 at p1' b1' hs1' ⊢
    refine ⟨_, rfl, _, rfl, d, c, sl, _, _, rfl, p1', hs1'.1, by rw [List.length_map]; omega, by omega, fun o2 ys2 H3 pm2 ho2 _ p3 b3 => ?_⟩
    obtain ⟨s, t, r2, rfl, ms, mt⟩ := two_of pm2 ls2
    refine ⟨2, rfl, o2, _, rfl, .inl (.inl ho2), fun t2 n2 => ?_⟩
    have ec2 : cutV (V.str s :: V.str t :: r2) none (some 2) = [V.str s, V.str t] := by
      rw [show (2 : Int) = ((2 : Nat) : Int) from rfl, cut_to]
      rfl
    rw [ec2]
    have s2 := same_new (o := .lst [V.str s, V.str t]) n2
    refine ⟨t2, _, rfl, .inl (.inl upd_same), rfl, _, _, rfl, _, _, rfl, rfl, ?_⟩
    have p4 := p3.keep s2
    have b4 : But d H _ := (b1'.trans b3).trans (but_of s2)
    generalize upd H3 t2 (.lst [V.str s, V.str t]) = H4 at p4 b4 ⊢
    have en : ∀ x : Option V, EnvW [some (.ref d), some (.ref wl), some (.ref sl), some (.str a), some (.str b), some (.str s), some (.str t), x] ws ss a b s t := fun x =>
      ⟨rfl, rfl, rfl, rfl, List.all_eq_true.mp hw.2 a ma, List.all_eq_true.mp hw.2 b mb, List.all_eq_true.mp hs.2 s ms, List.all_eq_true.mp hs.2 t mt, ma, mb, ms, mt⟩
    refine ⟨ws, ss, a, b, s, t, en none, fun l as H5 hl hp s5 nl => ⟨by show 1 ≤ sizeLine; decide, fun O nO => ?_⟩⟩
    have s6 := same_new (o := .lst [V.ref l]) nO
    have lO : l ≠ O := ne_of_none hl nO
    have back : ∀ x, H4 x = none → H x = none := fun x nx => by
      cases e : H x with
      | none => rfl
      | some o =>
        have xd : x ≠ d := p4.none_d nx
        rw [b4 _ _ e xd] at nx
        cases nx
    have pI : PlI K H4 d c _ 1 0 ws ss [some (.ref d), some (.ref wl), some (.ref sl), some (.str a), some (.str b), some (.str s), some (.str t), some (.ref O)] (upd H5 O (.lst [V.ref l])) :=
      ⟨a, b, s, t, O, [l], en _, rfl, rfl, upd_same, by simp [lO.symm], Nat.one_pos, Nat.le_refl 1, fun x hx => ⟨as, _, by rw [List.mem_singleton.mp hx]; exact s6 _ _ hl, plainsAt_kp hp (kp_same s6), by rw [List.length_map]; decide⟩, fun x hx => by
        rcases List.mem_cons.mp hx with rfl | hx
        · exact s5.free nO
        · rw [List.mem_singleton.mp hx]
          exact nl, but_of (s5.trans s6), p4, p4.keep (s5.trans s6)⟩
    have hn2 : n + 20 + 20 ≤ 900000 := by omega
    clear s6 s5 hl hp nl nO lO
    generalize upd H5 O (.lst [V.ref l]) = HA at pI
    refine ⟨H4, d, c, _, 1, 0, ws, ss, by decide, by decide, pI, fun HA pI => ?_⟩
    refine ⟨H4, d, c, _, 2, 0, ws, ss, by decide, by decide, pI, fun HA pI => ?_⟩
    refine ⟨H4, d, c, _, 3, 0, ws, ss, by decide, by decide, pI, fun HA pI => ?_⟩
    refine ⟨H4, d, c, _, 3, 1, ws, ss, by decide, by decide, pI, fun HA pI => ?_⟩
    refine ⟨H4, d, c, _, 4, 1, ws, ss, by decide, by decide, pI, fun HA pI => ?_⟩
    refine ⟨H4, d, c, _, 5, 1, ws, ss, by decide, by decide, pI, fun HA pI => ?_⟩
    refine ⟨H4, d, c, _, 6, 1, ws, ss, by decide, by decide, pI, fun HA pI => ?_⟩
    refine ⟨H4, d, c, _, 7, 1, ws, ss, by decide, by decide, pI, fun HA pI => ?_⟩
    refine ⟨H4, d, c, _, 8, 1, ws, ss, by decide, by decide, pI, fun HA pI => ?_⟩
    refine ⟨H4, d, c, _, 9, 1, ws, ss, by decide, by decide, pI, fun HA pI => ?_⟩
    refine ⟨H4, d, c, _, 10, 1, ws, ss, by decide, by decide, pI, fun HA pI => ?_⟩
    refine ⟨H4, d, c, _, 11, 1, ws, ss, by decide, by decide, pI, fun HA pI => ?_⟩
    refine ⟨H4, d, c, _, 12, 1, ws, ss, by decide, by decide, pI, fun HA pI => ?_⟩
    refine ⟨H4, d, c, _, 12, 2, ws, ss, by decide, by decide, pI, fun HA pI => ?_⟩
    refine ⟨H4, d, c, _, 13, 2, ws, ss, by decide, by decide, pI, fun HA pI => ?_⟩
    obtain ⟨a', b', s', t', O', lsT, _, e0, e7, hO, nd, l0, lm, hls, hn', bt, _, pT⟩ := pI
    refine ⟨_, e0, _, e7, d, c, O', _, _, rfl, pT, by omega, hO, by rw [List.length_map]; exact l0, by rw [List.length_map]; omega, fun v HZ hv pZ bZ => ?_⟩
    obtain ⟨l', hl', rfl⟩ := List.mem_map.mp hv
    obtain ⟨as', L, h1, h2, h3⟩ := hls l' hl'
    obtain ⟨nsT, spT, rT, hdT, _⟩ := id pT
    have nl' := hn' l' (.tail _ hl')
    exact q l' as' L HZ (bZ _ _ h1 (tape_ne h1 pT)) (plainsAt_kp h2 (kp_but hdT rfl bZ)) (by omega) (back l' nl') (pZ.mono (by omega)) ((b4.trans bt).trans bZ)
end
end RL

-- FROM law_k18_rows_listed
namespace RL
open PySem L2 SX AddrMath VA PySem.W GR TxSet StX
theorem perm_texts {l : List Str} {ys : List V} (h : ys.Perm (tV l)) : ∃ l', ys = tV l' ∧ l'.Perm l := by
  have mem : ∀ y ∈ ys, ∃ z, y = V.str z := fun y hy => by
    obtain ⟨z, hz, e⟩ := List.mem_map.mp (h.mem_iff.mp hy)
    exact ⟨z, e.symm⟩
  obtain ⟨l', rfl⟩ : ∃ l', ys = tV l' := by
    clear h
    induction ys with
    | nil => exact ⟨[], rfl⟩
    | cons y r ih =>
      obtain ⟨z, rfl⟩ := mem y (.head _)
      obtain ⟨l', e⟩ := ih fun x hx => mem x (.tail _ hx)
      exact ⟨z :: l', by rw [e]; rfl⟩
  refine ⟨l', rfl, ?_⟩
  have g := h.map (fun v => match v with | V.str z => z | _ => (⟨#[]⟩ : Str))
  have id : ∀ l : List Str, (tV l).map (fun v => match v with | V.str z => z | _ => (⟨#[]⟩ : Str)) = l := fun l => by
    induction l with
    | nil => rfl
    | cons x r ih =>
      show x :: _ = _
      rw [ih]
  rwa [id, id] at g
theorem plains_more {K : Frag} {H : Hp} {ss ss' ws : List Str} {as : List Addr} {L : List Said} (h : PlainsAt K H ss ws as L) (m : ∀ z ∈ ss, z ∈ ss') : PlainsAt K H ss' ws as L := ⟨h.1, fun i a s e1 e2 => by
  obtain ⟨x, y, z⟩ := h.2 i a s e1 e2
  exact ⟨x, y, m _ z.1, fun g e => m _ (z.2.1 g e), z.2.2⟩⟩
theorem plains_app {K : Frag} {H : Hp} {ss ws : List Str} : ∀ {as as2 : List Addr} {L L2 : List Said}, PlainsAt K H ss ws as L → PlainsAt K H ss ws as2 L2 → PlainsAt K H ss ws (as ++ as2) (L ++ L2) := by
  intro as as2 L L2 h h2
  refine ⟨by rw [List.length_append, List.length_append, h.1, h2.1], fun i a s e1 e2 => ?_⟩
  rcases Nat.lt_or_ge i as.length with c | c
  · rw [List.getElem?_append_left c] at e1
    rw [List.getElem?_append_left (by rw [← h.1]; exact c)] at e2
    exact h.2 i a s e1 e2
  · rw [List.getElem?_append_right c] at e1
    rw [List.getElem?_append_right (by rw [← h.1]; exact c), ← h.1] at e2
    exact h2.2 _ a s e1 e2
/-- a value that is a plain rule of these -/
def PlW (K : Frag) (ss ws : List Str) (v : V) (H : Hp) : Prop := ∃ a s, v = .ref a ∧ PlainS K H a s ∧ okS s ∧ ofS ss ws s
theorem plw_list {K : Frag} {H : Hp} {ss ws : List Str} : ∀ (ys : List V), (∀ y ∈ ys, PlW K ss ws y H) → ∃ as L, ys = as.map V.ref ∧ PlainsAt K H ss ws as L
  | [], _ => ⟨[], [], rfl, rfl, fun i a s e => by cases e⟩
  | y :: ys, h => by
    obtain ⟨a, s, rfl, h1⟩ := h y (.head _)
    obtain ⟨as, L, e, h2⟩ := plw_list ys fun z hz => h z (.tail _ hz)
    exact ⟨a :: as, s :: L, by rw [e]; rfl, plains_cons h1 h2⟩
theorem plw_st {K : Frag} {ss ws : List Str} {d c : Addr} : ∀ y G G' k, TapeAt G d c k → But d G G' → PlW K ss ws y G → PlW K ss ws y G' := fun y G G' k p b ⟨a, s, e, h, o⟩ => by
  obtain ⟨ns, sp, r, hd, _⟩ := p
  exact ⟨a, s, e, plainS_kp h (kp_but hd rfl b), o⟩
theorem plw_sb {K : Frag} {ss ws : List Str} {D : Addr} : ∀ y G G' zs, G D = some (.lst zs) → But D G G' → PlW K ss ws y G → PlW K ss ws y G' := fun y G G' zs hD b ⟨a, s, e, h, o⟩ => ⟨a, s, e, plainS_but hD b h, o⟩
/-- what stands beside: the words, the states, the tape -/
structure Side (H : Hp) (d c wl sl : Addr) (n : Nat) (ws ss : List Str) : Prop where
  p : TapeAt H d c n
  hw : LW H wl ws
  hs : LW H sl ss
  w2 : 2 ≤ ws.length
  w3 : ws.length ≤ 3
  s2 : 2 ≤ ss.length
  s3 : ss.length ≤ 3
theorem Side.same {H H' : Hp} {d c wl sl : Addr} {n : Nat} {ws ss : List Str} (h : Side H d c wl sl n ws ss) (s : Same H H') : Side H' d c wl sl n ws ss := ⟨h.p.keep s, h.hw.same s, h.hs.same s, h.w2, h.w3, h.s2, h.s3⟩
theorem Side.but {H H' : Hp} {d c wl sl : Addr} {n m : Nat} {ws ss : List Str} (h : Side H d c wl sl n ws ss) (b : But d H H') (p : TapeAt H' d c m) : Side H' d c wl sl m ws ss := ⟨p, h.hw.but h.p.pen b, h.hs.but h.p.pen b, h.w2, h.w3, h.s2, h.s3⟩
theorem Side.kp {H H' : Hp} {d c wl sl : Addr} {n : Nat} {ws ss : List Str} (h : Side H d c wl sl n ws ss) (b : But d H H') : Kp H H' := by
  obtain ⟨ns, sp, r, hd, _⟩ := h.p
  exact kp_but hd rfl b
/-- the planted rules, or none -/
def tPlH (K : Frag) : TE := fun σ H Q => ∃ d c wl sl n ws ss, σ[0]? = some (some (.ref d)) ∧ σ[1]? = some (some (.ref wl)) ∧ σ[2]? = some (some (.ref sl)) ∧ Side H d c wl sl n ws ss ∧ n ≤ 700000 ∧
  ∀ l (as : List Addr) L H', H' l = some (.lst (as.map V.ref)) → PlainsAt K H' (ss ++ [sOut]) ws as L → L.length ≤ 5 → H l = none → TapeAt H' d c (n + 60) → But d H H' → Q (.ref l) H'
/-- two rules more where none is planted -/
def tMoreIf (K : Frag) : TS := fun D σ H => ∃ (d c wl sl : Addr) (n : Nat) (ws ss : List Str) (M : Addr) (as : List Addr) (L : List Said) (Pl : Addr) (xs : List V) (o3 o6 o7 : Option V), σ = [some (.ref d), some (.ref wl), some (.ref sl), o3, some (.ref M), some (.ref Pl), o6, o7] ∧ Side H d c wl sl n ws ss ∧ n ≤ 700000 ∧
  H M = some (.lst (as.map V.ref)) ∧ PlainsAt K H (ss ++ [sOut]) ws as L ∧ L.length ≤ 2 ∧ H Pl = some (.lst xs) ∧
  ∀ M' (as' : List Addr) L' H' o3, H' M' = some (.lst (as'.map V.ref)) → PlainsAt K H' (ss ++ [sOut]) ws as' L' → L'.length ≤ 4 → TapeAt H' d c (n + 50) → But d H H' → D.nx [some (.ref d), some (.ref wl), some (.ref sl), o3, some (.ref M'), some (.ref Pl), o6, o7] H'
/-- both, in one of two orders -/
def tBoth (K : Frag) : TE := fun σ H Q => ∃ (d c : Addr) (n : Nat) (M Pl : Addr) (as as2 : List Addr) (L L2 : List Said) (ss ws : List Str), σ[0]? = some (some (.ref d)) ∧ σ[4]? = some (some (.ref M)) ∧ σ[5]? = some (some (.ref Pl)) ∧ TapeAt H d c n ∧ n ≤ 900000 ∧
  H M = some (.lst (as.map V.ref)) ∧ PlainsAt K H ss ws as L ∧ L.length ≤ 4 ∧ H Pl = some (.lst (as2.map V.ref)) ∧ PlainsAt K H ss ws as2 L2 ∧ L2.length ≤ 5 ∧
  ∀ l (as : List Addr) L H', H' l = some (.lst (as.map V.ref)) → PlainsAt K H' ss ws as L → L.length ≤ 9 → TapeAt H' d c (n + 1) → But d H H' → Q (.ref l) H'
abbrev sixW : List Str := ["a", "b", "aa", "ab", "z", "abcdefgh"]
abbrev fourS : List Str := ["s", "t", "a", "to"]
abbrev kRules : Key := .inr "rules"
abbrev kWords : Key := .inr "words"
abbrev kStates : Key := .inr "states"
abbrev bookKV (l wl sl : Addr) : List (Key × V) := [(kRules, .ref l), (kWords, .ref wl), (kStates, .ref sl)]
section
variable {P : Program} {w : World} {K : Frag} {mg : Str → Option Value} {base : Heap}
/-! ### _law_book: slots _law_tape 0, _law_words 1, _law_states 2, _law_k 3, _law_more 4, _law_planted_here 5, _law_rules 6, _law_one 7 cells _law_states,_law_tape,_law_words -/
abbrev sBook : Stmt := top 68
abbrev NBk : List Str := ["_law_tape", "_law_words", "_law_states", "_law_k", "_law_more", "_law_planted_here", "_law_rules", "_law_one"]
theorem scBook : FnScope NBk ["_law_tape"] (defScope sBook) := ⟨rfl, rfl, rfl, by decide +kernel, rfl, by decide +kernel, by decide +kernel⟩
def spBook (K : Frag) : Sp := fun vs H Q _ => ∃ (d c : Addr) (n : Nat), vs = [.ref d] ∧ TapeAt H d c n ∧ n ≤ 600000 ∧
  ∀ (D l wl sl : Addr) (as : List Addr) (L : List Said) (ws ss wz sz : List Str) H', H' D = some (.dK (bookKV l wl sl)) → H' l = some (.lst (as.map V.ref)) → PlainsAt K H' (ss ++ [sOut]) ws as L → L.length ≤ 9 →
    ws.Nodup → ws.all wrd = true → 2 ≤ ws.length → ws.length ≤ 3 → (∀ z ∈ ws, z ∈ sixW) → ss.Nodup → ss.all wrd = true → 2 ≤ ss.length → ss.length ≤ 3 → (∀ z ∈ ss, z ∈ fourS) →
    wz.Perm ws → PyProof.Rows.sortedS wz = true → H' wl = some (.lst (tV wz)) → sz.Perm ss → PyProof.Rows.sortedS sz = true → H' sl = some (.lst (tV sz)) →
    TapeAt H' d c (n + 300) → But d H H' → Q (.ref D) H'
theorem ok_book {f : Addr} {fd : FuncData} (F : Fun K "_law_book" "_law_book" sBook f fd) (B : Blt mg) (draw : Own P w K mg base CX0 1 "_law_draw" ["_law_tape", "_law_many"] spDraw) (pick : Own P w K mg base CX0 2 "_law_pick" ["_law_tape", "_law_some"] spPick)
    (shuffled : Own P w K mg base CX0 2 "_law_shuffled" ["_law_tape", "_law_some"] spShuffled) (some_rule : Own P w K mg base CX0 3 "_law_some_rule" ["_law_tape", "_law_words", "_law_states"] (spSome K)) (planted : Own P w K mg base CX0 3 "_law_planted" ["_law_tape", "_law_words", "_law_states"] (spPlanted K)) :
    FnOk P w K mg base CX0 4 f fd ["_law_tape"] (spBook K) := by
  refine F.ok scBook (fun vs H Q E h => ?_) (fun cdv A outer s0 H vs Q E hr h => ?_)
  · obtain ⟨d, c, n, rfl, _⟩ := h
    rfl
  · obtain ⟨d, c, n, rfl, p, hn, q⟩ := h
    have hu := hr.units0
    refine ⟨_, (pss_cons (ps_set (i := 1) scBook.nd rfl (Or.inr rfl) (pe_slice sl_list (pe_call shuffled.g (hr.mono (by decide)) rfl shuffled.mg shuffled.kp shuffled.b .nil pass0 (pa_cons (pv 0) (pa_cons (pe_lst (pa_cons pe_str (pa_cons pe_str (pa_cons pe_str (pa_cons pe_str (pa_cons pe_str (pa_cons pe_str pa_nil))))))) pa_nil))) po_none (po_some (pe_op op_add pe_int (pe_call draw.g (hr.mono (by decide)) rfl draw.mg draw.kp draw.b .nil pass0 (pa_cons (pv 0) (pa_cons pe_int pa_nil)))))))
      (pss_cons (ps_set (i := 2) scBook.nd rfl (Or.inr rfl) (pe_slice sl_list (pe_call shuffled.g (hr.mono (by decide)) rfl shuffled.mg shuffled.kp shuffled.b .nil pass0 (pa_cons (pv 0) (pa_cons (pe_lst (pa_cons pe_str (pa_cons pe_str (pa_cons pe_str (pa_cons pe_str pa_nil))))) pa_nil))) po_none (po_some (pe_op op_add pe_int (pe_call draw.g (hr.mono (by decide)) rfl draw.mg draw.kp draw.b .nil pass0 (pa_cons (pv 0) (pa_cons pe_int pa_nil)))))))
      (pss_cons (ps_setLc (i := 4) (own := [("_law_k", 3)]) (g := gName 3) (tt := tYes) rfl scBook.nd rfl rfl (sw_true rfl rfl rfl (by decide +kernel)) (pi_range1 (by rfl) B.range_ (pa_cons (pe_call pick.g (hr.mono (by decide)) rfl pick.mg pick.kp pick.b .nil pass0 (pa_cons (pv 0) (pa_cons (pe_lst (pa_cons pe_int (pa_cons pe_int (pa_cons pe_int pa_nil)))) pa_nil))) pa_nil))
          (blkOk_by (own := [("_law_k", 3)]) (N := NBk) (sc := defScope sBook) (by decide +kernel))
          (fun _ _ _ _ _ => (pg_name (i := 3) scBook.nd rfl (Or.inl rfl))) (fun _ _ _ _ _ => pts_nil)
          (fun _ _ _ _ _ => (pe_call some_rule.g (hr.mono (by decide)) rfl some_rule.mg some_rule.kp some_rule.b .nil pass0 (pa_cons (pv 0) (pa_cons (pv 1) (pa_cons (pv 2) pa_nil))))))
      (pss_cons (ps_set (i := 5) scBook.nd rfl (Or.inl rfl) (pe_by (tPlH K) (pe_ifExp (pt_cmpR op_gt (pe_call draw.g (hr.mono (by decide)) rfl draw.mg draw.kp draw.b .nil pass0 (pa_cons (pv 0) (pa_cons pe_int pa_nil))) pe_int (nomark _)) (pe_call planted.g (hr.mono (by decide)) rfl planted.mg planted.kp planted.b .nil pass0 (pa_cons (pv 0) (pa_cons (pv 1) (pa_cons (pv 2) pa_nil)))) (pe_lst pa_nil)) (fun σ H Q h => ?pl)))
      (pss_cons (ps_by (tMoreIf K) (ps_if (pt_cmpR (op_eqNil hu) (pv 5) (pe_lst pa_nil) (nomark _)) (pss_one (ps_set (i := 4) scBook.nd rfl (Or.inl rfl) (pe_op op_cat (pv 4) (pe_lc (own := [("_law_k", 3)]) (g := gName 3) (tt := tYes) rfl scBook.nd (pi_range1 (by rfl) B.range_ (pa_cons pe_int pa_nil))
          (blkOk_by (own := [("_law_k", 3)]) (N := NBk) (sc := defScope sBook) (by decide +kernel))
          (fun _ _ _ _ _ => (pg_name (i := 3) scBook.nd rfl (Or.inl rfl))) (fun _ _ _ _ _ => pts_nil)
          (fun _ _ _ _ _ => (pe_call some_rule.g (hr.mono (by decide)) rfl some_rule.mg some_rule.kp some_rule.b .nil pass0 (pa_cons (pv 0) (pa_cons (pv 1) (pa_cons (pv 2) pa_nil))))))))) pss_nil) (fun D σ H h => ?mi))
      (pss_cons (ps_set (i := 6) scBook.nd rfl (Or.inl rfl) (pe_by (tBoth K) (pe_ifExp (pt_cmpR op_eq (pe_call draw.g (hr.mono (by decide)) rfl draw.mg draw.kp draw.b .nil pass0 (pa_cons (pv 0) (pa_cons pe_int pa_nil))) pe_int (nomark _)) (pe_op op_cat (pv 4) (pv 5)) (pe_op op_cat (pv 5) (pv 4))) (fun σ H Q h => ?bo)))
      (pss_one (ps_ret (pe_disp (pps_cons pe_str (pv 6) (pps_cons pe_str (pe_callB cr_sortedS (by rfl) B.sorted_ (by decide +kernel) (pa_cons (pe_lc (own := [("_law_one", 7)]) (g := gName 7) (tt := tYes) rfl scBook.nd (pi_seq (pv 1))
          (blkOk_by (own := [("_law_one", 7)]) (N := NBk) (sc := defScope sBook) (by decide +kernel))
          (fun _ _ _ _ _ => (pg_name (i := 7) scBook.nd rfl (Or.inl rfl))) (fun _ _ _ _ _ => pts_nil)
          (fun _ _ _ _ _ => (pe_callTy SkE.call_str_str (by rfl) B.str_ (by decide +kernel) (pa_cons (pv 7) pa_nil)))) pa_nil)) (pps_cons pe_str (pe_callB cr_sortedS (by rfl) B.sorted_ (by decide +kernel) (pa_cons (pe_lc (own := [("_law_one", 7)]) (g := gName 7) (tt := tYes) rfl scBook.nd (pi_seq (pv 2))
          (blkOk_by (own := [("_law_one", 7)]) (N := NBk) (sc := defScope sBook) (by decide +kernel))
          (fun _ _ _ _ _ => (pg_name (i := 7) scBook.nd rfl (Or.inl rfl))) (fun _ _ _ _ _ => pts_nil)
          (fun _ _ _ _ _ => (pe_callTy SkE.call_str_str (by rfl) B.str_ (by decide +kernel) (pa_cons (pv 7) pa_nil)))) pa_nil)) pps_nil))) (by rfl) (by rfl) (fun z => by cases z) (by decide)))))))))), ?_⟩
    case pl =>
      obtain ⟨d, c, wl, sl, n, ws, ss, e0, e1, e2, sd, hn, q⟩ := h
      refine ⟨_, e0, d, c, n, 4, rfl, sd.p, by omega, by decide, by decide, fun j H1 j0 j1 p1 b1 => ⟨_, _, rfl, rfl, _, rfl, ?_⟩⟩
      have sd1 := sd.but b1 p1
      refine if_is (fun _ => ?_) fun _ => ?_
      · have := sd.w2; have := sd.w3; have := sd.s2; have := sd.s3
        refine ⟨_, e0, _, e1, _, e2, d, c, wl, sl, _, ws, ss, rfl, p1, by omega, sd1.hw, sd1.hs, by omega, by omega, by omega, by omega, fun l as L H2 hl hP hL nl p2 b2 => ?_⟩
        refine q l as L H2 hl (plains_more hP fun z hz => List.mem_append_left _ hz) hL ?_ (p2.mono (by omega)) (b1.trans b2)
        cases e : H l with
        | none => rfl
        | some o =>
          rw [b1 _ _ e (p1.none_d nl)] at nl
          cases nl
      · exact ⟨Nat.zero_le _, fun l nl => q l [] [] _ upd_same ⟨rfl, fun i a s e => by cases e⟩ (Nat.zero_le _) (by
          cases e : H l with
          | none => rfl
          | some o =>
            rw [b1 _ _ e (p1.none_d nl)] at nl
            cases nl) ((p1.keep (same_new nl)).mono (by omega)) (b1.trans (but_of (same_new nl)))⟩
    case mi =>
      obtain ⟨d, c, wl, sl, n, ws, ss, M, as, L, Pl, xs, o3, o6, o7, rfl, sd, hn, hM, hA, hL, hP, q⟩ := h
      refine ⟨_, rfl, Nat.zero_le _, fun e ne => ⟨Pl, e, xs, rfl, rfl, same_new ne _ _ hP, upd_same, _, rfl, ?_⟩⟩
      have s1 := same_new (o := .lst []) ne
      have sd1 := sd.same s1
      have hM1 := s1 _ _ hM
      have hA1 := plainsAt_kp hA (kp_same s1)
      generalize upd H e (.lst []) = H1 at s1 sd1 hM1 hA1 ⊢
      refine if_is (fun _ => ?_) fun _ => ?_
      · refine ⟨_, rfl, 2, rfl, by omega, by omega, fun D nD => ?_⟩
        refine lc_tape (N := 2) (m := 20) (rel := PlW K (ss ++ [sOut]) ws) sd1.p nD (by omega) plw_st plw_sb (fun _ => rfl) (fun i G hi bG pG R hR => ?_) fun ys H2 lys hys hD p2 b2 => ?_
        · have sdG := sd1.but bG pG
          have := sd.w2; have := sd.w3; have := sd.s2; have := sd.s3
          refine ⟨_, rfl, _, rfl, _, rfl, d, c, wl, sl, _, ws, ss, rfl, pG, by omega, sdG.hw, sdG.hs, by omega, by omega, by omega, by omega, fun a s G' h1 h2 h3 p' b' => hR _ G' ⟨a, s, rfl, h1, h2, h3⟩ p' b'⟩
        · obtain ⟨as2, L2, rfl, hA2⟩ := plw_list ys hys
          have hM2 := b2 _ _ hM1 (tape_ne hM1 sd1.p)
          have hA3 := plainsAt_kp hA1 (sd1.kp b2)
          have l2 : L2.length = 2 := by rw [← hA2.1, ← lys, List.length_map]
          refine ⟨M, D, _, _, rfl, rfl, hM2, hD, size_ok (by rw [List.length_map, List.length_map, hA.1, hA2.1]; omega), fun l nl => ?_⟩
          have s4 := same_new (o := .lst (as.map V.ref ++ as2.map V.ref)) nl
          exact q l (as ++ as2) (L ++ L2) _ _ (by rw [upd_same, List.map_append]) (plainsAt_kp (plains_app hA3 hA2) (kp_same s4)) (by rw [List.length_append]; omega) ((p2.keep s4).mono (by omega)) (((but_of s1).trans b2).trans (but_of s4))
      · exact q M as L H1 _ hM1 hA1 (by omega) (sd1.p.mono (by omega)) (but_of s1)
    case bo =>
      obtain ⟨d, c, n, M, Pl, as, as2, L, L2, ss, ws, e0, e4, e5, p, hn, hM, hA, hL, hP, hA2, hL2, q⟩ := h
      refine ⟨_, e0, d, c, n, 2, rfl, p, by omega, by decide, by decide, fun j H1 j0 j1 p1 b1 => ⟨rfl, _, rfl, ?_⟩⟩
      have hM1 := b1 _ _ hM (tape_ne hM p)
      have hP1 := b1 _ _ hP (tape_ne hP p)
      obtain ⟨nsT, spT, rT, hdT, _⟩ := id p
      have k := kp_but hdT rfl b1
      have hA1 := plainsAt_kp hA k
      have hA3 := plainsAt_kp hA2 k
      refine if_is (fun _ => ?_) fun _ => ?_
      · refine ⟨_, e4, _, e5, M, Pl, _, _, rfl, rfl, hM1, hP1, size_ok (by rw [List.length_map, List.length_map, hA.1, hA2.1]; omega), fun l nl => ?_⟩
        have s4 := same_new (o := .lst (as.map V.ref ++ as2.map V.ref)) nl
        exact q l (as ++ as2) (L ++ L2) _ (by rw [upd_same, List.map_append]) (plainsAt_kp (plains_app hA1 hA3) (kp_same s4)) (by rw [List.length_append]; omega) (p1.keep s4) (b1.trans (but_of s4))
      · refine ⟨_, e5, _, e4, Pl, M, _, _, rfl, rfl, hP1, hM1, size_ok (by rw [List.length_map, List.length_map, hA.1, hA2.1]; omega), fun l nl => ?_⟩
        have s4 := same_new (o := .lst (as2.map V.ref ++ as.map V.ref)) nl
        exact q l (as2 ++ as) (L2 ++ L) _ (by rw [upd_same, List.map_append]) (plainsAt_kp (plains_app hA3 hA1) (kp_same s4)) (by rw [List.length_append]; omega) (p1.keep s4) (b1.trans (but_of s4))
    -- the words
    refine ⟨_, rfl, by show 6 ≤ sizeLine; decide, fun l1 n1 => ?_⟩
    have s1 := same_new (o := .lst (tV sixW)) n1
    refine ⟨d, c, l1, n, tV sixW, rfl, p.keep s1, upd_same, by decide, by omega, fun o1 ys1 H1 pm1 ho1 _ p1 b1 => ?_⟩
    obtain ⟨w6, rfl, pw⟩ := perm_texts pm1
    have b01 : But d H H1 := (but_of s1).trans b1
    refine ⟨_, rfl, d, c, _, 2, rfl, p1, by omega, by decide, by decide, fun j1 H2 j10 j11 p2 b2 => ⟨_, _, rfl, rfl, _, rfl, ?_⟩⟩
    obtain ⟨k1, ek1, lk1, hk1⟩ : ∃ k : Nat, 2 + j1 = (k : Int) ∧ 2 ≤ k ∧ k ≤ 3 := ⟨(2 + j1).toNat, by omega, by omega, by omega⟩
    have ho2 := b2 _ _ ho1 (tape_ne ho1 p1)
    refine ⟨o1, _, rfl, .inl (.inl ho2), fun t1 nt1 => ?_⟩
    rw [ek1, cut_to, ← List.map_take]
    have sA := same_new (o := .lst (tV (w6.take k1))) nt1
    have hwA : LW (upd H2 t1 (.lst (tV (w6.take k1)))) t1 (w6.take k1) := ⟨upd_same, by
      rw [List.all_eq_true]
      intro z hz
      exact List.all_eq_true.mp (show sixW.all wrd = true by decide) z (pw.mem_iff.mp (List.mem_of_mem_take hz))⟩
    have lw6 : w6.length = 6 := pw.length_eq
    have l_w : (w6.take k1).length = k1 := by rw [List.length_take]; omega
    have nd_w : (w6.take k1).Nodup := (List.take_sublist _ _).nodup (pw.nodup_iff.mpr (by decide))
    have in_w : ∀ z ∈ w6.take k1, z ∈ sixW := fun z hz => pw.mem_iff.mp (List.mem_of_mem_take hz)
    generalize w6.take k1 = ws at sA hwA l_w nd_w in_w ⊢
    have p3 := p2.keep sA
    have b03 := (b01.trans b2).trans (but_of sA)
    generalize upd H2 t1 (.lst (tV ws)) = H3 at hwA p3 b03 ⊢
    clear s1 n1 pm1 ho1 pw b01 b1 p1 p2 b2 j10 j11 ek1 ho2 sA nt1 lw6
    -- the states
    refine ⟨_, rfl, by show 4 ≤ sizeLine; decide, fun l2 n2 => ?_⟩
    have s2 := same_new (o := .lst (tV fourS)) n2
    refine ⟨d, c, l2, _, tV fourS, rfl, p3.keep s2, upd_same, by decide, by omega, fun o2 ys2 H4 pm2 ho4 _ p4 b4 => ?_⟩
    obtain ⟨s6, rfl, ps⟩ := perm_texts pm2
    have b04 : But d H3 H4 := (but_of s2).trans b4
    refine ⟨_, rfl, d, c, _, 2, rfl, p4, by omega, by decide, by decide, fun j2 H5 j20 j21 p5 b5 => ⟨_, _, rfl, rfl, _, rfl, ?_⟩⟩
    obtain ⟨k2, ek2, lk2, hk2⟩ : ∃ k : Nat, 2 + j2 = (k : Int) ∧ 2 ≤ k ∧ k ≤ 3 := ⟨(2 + j2).toNat, by omega, by omega, by omega⟩
    have ho5 := b5 _ _ ho4 (tape_ne ho4 p4)
    refine ⟨o2, _, rfl, .inl (.inl ho5), fun t2 nt2 => ?_⟩
    rw [ek2, cut_to, ← List.map_take]
    have sB := same_new (o := .lst (tV (s6.take k2))) nt2
    have hsB : LW (upd H5 t2 (.lst (tV (s6.take k2)))) t2 (s6.take k2) := ⟨upd_same, by
      rw [List.all_eq_true]
      intro z hz
      exact List.all_eq_true.mp (show fourS.all wrd = true by decide) z (ps.mem_iff.mp (List.mem_of_mem_take hz))⟩
    have ls6 : s6.length = 4 := ps.length_eq
    have l_s : (s6.take k2).length = k2 := by rw [List.length_take]; omega
    have nd_s : (s6.take k2).Nodup := (List.take_sublist _ _).nodup (ps.nodup_iff.mpr (by decide))
    have in_s : ∀ z ∈ s6.take k2, z ∈ fourS := fun z hz => ps.mem_iff.mp (List.mem_of_mem_take hz)
    generalize s6.take k2 = ss at sB hsB l_s nd_s in_s ⊢
    have p6 := p5.keep sB
    have b36 : But d H3 _ := (b04.trans b5).trans (but_of sB)
    generalize upd H5 t2 (.lst (tV ss)) = H6 at hsB p6 b36 ⊢
    have sd : Side H6 d c t1 t2 _ ws ss := ⟨p6, hwA.but p3.pen b36, hsB, by omega, by omega, by omega, by omega⟩
    have b06 := b03.trans b36
    clear s2 n2 pm2 ho4 ps b04 b4 p4 p5 b5 j20 j21 ek2 ho5 sB nt2 ls6 b03 p3 hwA hsB p6 b36
    -- more rules
    refine ⟨_, rfl, by show 3 ≤ sizeLine; decide, fun l7 n7 => ?_⟩
    have s7 := same_new (o := .lst [.int 0, .int 1, .int 2]) n7
    refine ⟨d, c, l7, _, _, rfl, sd.p.keep s7, by omega, upd_same, by decide, by decide, fun v H7 hv p7 b7 => ?_⟩
    obtain ⟨N1, rfl, lN1⟩ : ∃ k : Nat, v = .int k ∧ k ≤ 2 := by
      simp only [List.mem_cons, List.not_mem_nil, or_false] at hv
      rcases hv with rfl | rfl | rfl
      · exact ⟨0, rfl, by decide⟩
      · exact ⟨1, rfl, by decide⟩
      · exact ⟨2, rfl, by decide⟩
    have b67 : But d H6 H7 := (but_of s7).trans b7
    have sd7 := sd.but b67 p7
    have b07 := b06.trans b67
    clear hv s7 n7 b7 b67 b06 sd
    refine ⟨(N1 : Int), rfl, by omega, by omega, fun D nD => ?_⟩
    refine lc_tape (N := N1) (m := 20) (rel := PlW K (ss ++ [sOut]) ws) sd7.p nD (by omega) plw_st plw_sb (fun _ => rfl) (fun i G hi bG pG R hR => ?_) fun ys H8 lys hys hD p8 b8 => ?_
    · have sdG := sd7.but bG pG
      have : i * 20 ≤ 40 := by omega
      refine ⟨_, rfl, _, rfl, _, rfl, d, c, t1, t2, _, ws, ss, rfl, pG, by omega, sdG.hw, sdG.hs, by omega, by omega, by omega, by omega, fun a s G' h1 h2 h3 p' b' => hR _ G' ⟨a, s, rfl, h1, h2, h3⟩ p' b'⟩
    obtain ⟨as1, L1, rfl, hA1⟩ := plw_list ys hys
    have l1 : L1.length ≤ 2 := by rw [← hA1.1]; rw [List.length_map] at lys; omega
    have b08 := b07.trans b8
    have p8' : TapeAt H8 d c (n + 100) := p8.mono (by omega)
    have sd8 := sd7.but b8 p8'
    clear sd7 b07 b8 p8 p8' lys hys nD lN1
    -- planted
    refine ⟨d, c, t1, t2, _, ws, ss, rfl, rfl, rfl, sd8, by omega, fun l9 as2 L2 H9 hl9 hA2 l2 nl9 p9 b9 => ?_⟩
    have hD9 := b9 _ _ hD (tape_ne hD sd8.p)
    have hA9 := plainsAt_kp hA1 (sd8.kp b9)
    have sd9 := sd8.but b9 p9
    refine ⟨d, c, t1, t2, _, ws, ss, D, as1, L1, l9, _, _, _, _, rfl, sd9, by omega, hD9, hA9, l1, hl9, fun M as3 L3 HA o3 hM hA3 l3 pA bA => ?_⟩
    have hlA := bA _ _ hl9 (tape_ne hl9 p9)
    have hA2A := plainsAt_kp hA2 (sd9.kp bA)
    have sdA := sd9.but bA pA
    have b0A := (b08.trans b9).trans bA
    clear hD hA1 l1 b08 sd8 hl9 hA2 nl9 b9 hD9 hA9 p9 sd9 bA
    refine ⟨d, c, _, M, l9, as3, as2, L3, L2, ss ++ [sOut], ws, rfl, rfl, rfl, pA, by omega, hM, hA3, l3, hlA, hA2A, l2, fun lR asR LR HB hR hAR lLR pB bB => ?_⟩
    have sdB := sdA.but bB pB
    have b0B := b0A.trans bB
    clear hM hA3 l3 pA hlA hA2A l2 sdA b0A bB
    -- the dict
    intro DD nDD
    have sC := same_new (o := .dK []) nDD
    have uC : (upd HB DD (.dK [])) DD = some (.dK []) := upd_same
    have sdC := sdB.same sC
    have hRC := sC _ _ hR
    have hARC := plainsAt_kp hAR (kp_same sC)
    generalize upd HB DD (.dK []) = HC at sC uC sdC hRC hARC ⊢
    refine ⟨_, rfl, _, rfl, ?_⟩
    refine seq_opt (.inl (.inl (.inl sdC.hw.1))) (by rw [List.length_map]; omega) (fun i => ws[i]?.bind fun z => some (V.str z)) ?hw1 (fun i x hx G sG => ?_) fun D5 HD nD5 hD5 sD => ?_
    case hw1 => intro _; rfl
    · rw [List.getElem?_map] at hx
      cases ez : ws[i]? with
      | none =>
        rw [ez] at hx
        cases hx
      | some z =>
        rw [ez] at hx
        cases hx
        refine ⟨fun R hR => hR G (Same.refl G), fun y hy G2 s2 R hR => ?_⟩
        cases hy
        exact ⟨_, rfl, _, rfl, hR G2 (Same.refl G2)⟩
    rw [List.length_map, range_fm, show ws.filterMap (fun z => some (V.str z)) = ws.map V.str by rw [List.filterMap_eq_map']] at hD5
    refine ⟨D5, ws, rfl, .inl (.inl hD5), by omega, fun wz wl pwz swz nwl => ?_⟩
    have sE := sD.trans (same_new (o := .lst (tV wz)) nwl)
    have uwl : (upd HD wl (.lst (tV wz))) wl = some (.lst (tV wz)) := upd_same
    generalize hHE : upd HD wl (.lst (wz.map V.str)) = HE at sE uwl ⊢
    have sdE := sdC.same sE
    refine ⟨_, rfl, ?_⟩
    refine seq_opt (.inl (.inl (.inl sdE.hs.1))) (by rw [List.length_map]; omega) (fun i => ss[i]?.bind fun z => some (V.str z)) ?hw2 (fun i x hx G sG => ?_) fun D6 HF nD6 hD6 sF => ?_
    case hw2 => intro _; rfl
    · rw [List.getElem?_map] at hx
      cases ez : ss[i]? with
      | none =>
        rw [ez] at hx
        cases hx
      | some z =>
        rw [ez] at hx
        cases hx
        refine ⟨fun R hR => hR G (Same.refl G), fun y hy G2 s2 R hR => ?_⟩
        cases hy
        exact ⟨_, rfl, _, rfl, hR G2 (Same.refl G2)⟩
    rw [List.length_map, range_fm, show ss.filterMap (fun z => some (V.str z)) = ss.map V.str by rw [List.filterMap_eq_map']] at hD6
    refine ⟨D6, ss, rfl, .inl (.inl hD6), by omega, fun sz sl psz ssz nsl => ?_⟩
    have sG := sF.trans (same_new (o := .lst (tV sz)) nsl)
    have usl : (upd HF sl (.lst (tV sz))) sl = some (.lst (tV sz)) := upd_same
    generalize hHG : upd HF sl (.lst (sz.map V.str)) = HG at sG usl ⊢
    have sCG := sE.trans sG
    refine ⟨sCG _ _ uC, bookKV lR wl sl, rfl, by show 3 ≤ 15; decide, ?_⟩
    have em : mergeK [] (bookKV lR wl sl) = bookKV lR wl sl := rfl
    rw [em]
    have bD : But DD HB (upd HG DD (.dK (bookKV lR wl sl))) := fun x o e ne => by
      rw [upd_ne ne]
      exact sCG _ _ (sC _ _ e)
    have kD : Same HB (upd HG DD (.dK (bookKV lR wl sl))) := fun x o e => bD x o e (ne_of_none e nDD)
    have wlD : wl ≠ DD := fun z => by
      have h := sG _ _ uwl
      rw [z, sCG _ _ uC] at h
      cases h
    have slD : sl ≠ DD := fun z => by
      have h := usl
      rw [z, sCG _ _ uC] at h
      cases h
    exact q DD lR wl sl asR LR ws ss wz sz _ upd_same (kD _ _ hR) (plainsAt_kp hAR (kp_same kD)) lLR nd_w sdB.hw.2 (by omega) (by omega) in_w nd_s sdB.hs.2 (by omega) (by omega) in_s pwz swz (by rw [upd_ne wlD]; exact sG _ _ uwl) psz ssz (by rw [upd_ne slD]; exact usl) ((sdB.p.keep kD).mono (by omega)) (b0B.trans (but_of kD))
end
end RL

/-! repr of any value: None, truths, numbers, texts, lists and tuples of such, the empty dict. -/
namespace RV
open PySem PySem.W PySem.Spec PySem.Calls PyProof.Rows L2 SX GR
inductive ShowV (K : PySem.W.Frag) (H : Hp) : V → Str → Prop
  | non : ShowV K H .non (Str.ofString "None")
  | bl (b : Bool) : ShowV K H (.bl b) (if b = true then Str.ofString "True" else Str.ofString "False")
  | int (i : Int) (h : i.natAbs.log2 < 1920) : ShowV K H (.int i) (Str.ofString (toString i))
  | str (z : Str) (h : (reprText z).length ≤ sizeLine) : ShowV K H (.str z) (reprText z)
  | data {a : Addr} {d : PyData} (dp : Dp K H (.ref a) d) (sh : d.showable = true) (nd : d.hasDict = false) (dep : d.depth ≤ 40) (len : d.shown.length ≤ sizeLine) : ShowV K H (.ref a) d.shown
  | edict {a : Addr} (e : H a = some (.dK [])) : ShowV K H (.ref a) (PyData.dict []).shown
theorem ShowV.same {K : PySem.W.Frag} {H H' : Hp} {v : V} {r : Str} (h : ShowV K H v r) (s : ∀ b o, H b = some o → H' b = some o) : ShowV K H' v r := by
  cases h with
  | non => exact .non
  | bl b => exact .bl b
  | int i h => exact .int i h
  | str z h => exact .str z h
  | data dp a b c d => exact .data (VA.dp_same s dp) a b c d
  | edict e => exact .edict (s _ _ e)
theorem call_reprV {X : Cx} (quiet : Quiet X.A) (hu : X.A.units + 64 < cLine) : CallR X (.builtin "repr") (fun xs H Q => ∃ v r, xs = [v] ∧ ShowV X.K H v r ∧ Q (.str r) H) := by
  intro pins s σ H xs us Q I rel ⟨v, r, ex, sv, q⟩
  subst ex
  obtain ⟨u, rfl, ru⟩ := rel.one
  cases sv with
  | non =>
    cases (show u = Value.none from ru)
    exact P.repr_of_none ⟨.str _, H, I.tok _, ⟨_, rfl⟩, q⟩
  | bl b =>
    cases (show u = Value.bool b from ru)
    exact P.repr_of_bool ⟨.str (if b = true then Str.ofString "True" else Str.ofString "False"), H, I.tok _, ⟨_, rfl⟩, q⟩
  | int i h =>
    obtain ⟨t, rfl⟩ : ∃ t, u = Value.int i t := ru
    exact P.repr_of_int h ⟨.str _, H, I.tok _, ⟨_, rfl⟩, q⟩
  | str z h =>
    obtain ⟨t, rfl⟩ : ∃ t, u = Value.str z t := ru
    exact P.repr_of_str ⟨.str _, H, I.tok _, ⟨_, rfl⟩, q⟩ h
  | @data a d dp sh nd dep len =>
    cases (show u = Value.ref a from ru)
    obtain ⟨as, rd⟩ := dp.reads I d _ _ rfl
    exact repr_of_reads' rd sh (PyData.noDict_hsm nd) quiet (by omega) (fun _ _ e => e) (fun h' u tk hk => ⟨.str d.shown, H, I.kept hk, ⟨_, rfl⟩, q⟩) len
  | @edict a e =>
    cases (show u = Value.ref a from ru)
    obtain ⟨_, nsys, vs, kv, o, es, ep, g1, g2, g3, _, g5, _⟩ := I.hok a _ e
    have ev : vs = [] := by cases kv; rfl
    subst ev
    have rd : Reads s.heap (.ref a) (.dict []) (a :: [] ++ []) := by
      have el : es.toList = [] := by
        revert g5
        generalize es.toList = l
        intro g5
        cases l with
        | nil => rfl
        | cons x r => cases g5
      exact .dict g1 g2.1 g3 (by rw [el]; exact .nil) (by rw [el]; exact .nil)
    refine repr_of_reads' rd rfl (fun _ m => ?_) quiet (by show X.A.units + _ < cLine; have : (PyData.dict []).depth ≤ 40 := by decide
                                                           omega) (fun _ _ e => e) (fun h' u tk hk => ⟨.str _, H, I.kept hk, ⟨_, rfl⟩, q⟩) (by decide +kernel)
    rw [List.append_nil, List.mem_singleton] at m
    rw [← m] at nsys
    simp at nsys
theorem call_reprVK {X : Cx} {K : PySem.W.Frag} (e : X.K = K) (quiet : Quiet X.A) (hu : X.A.units + 64 < cLine) : CallR X (.builtin "repr") (fun xs H Q => ∃ v r, xs = [v] ∧ ShowV K H v r ∧ Q (.str r) H) := by
  subst e
  exact call_reprV quiet hu
end RV

namespace RL
open PySem L2 SX AddrMath VA PySem.Spec PyProof.Rows
structure FineL (ds : List PyData) (k n : Nat) : Prop where
  sh : PyData.showableAll ds = true
  nd : PyData.hasDictAll ds = false
  lf : PyData.leavesShortAll 8 ds = true
  wt : PyData.weightAll ds ≤ n
  dp : PyData.depthAll ds ≤ k
structure Fine (d : PyData) (k n : Nat) : Prop where
  sh : d.showable = true
  nd : d.hasDict = false
  lf : PyData.leavesShort 8 d = true
  wt : d.weight ≤ n
  dp : d.depth ≤ k
theorem fine_nil : FineL [] 0 0 := ⟨by simp [PyData.showableAll], by simp [PyData.hasDictAll], by simp [PyData.leavesShortAll], by simp [PyData.weightAll], by simp [PyData.depthAll]⟩
theorem fine_cons {d : PyData} {ds : List PyData} {k n m : Nat} (h : Fine d k n) (t : FineL ds k m) : FineL (d :: ds) k (n + m + 1) := by
  refine ⟨by simp [PyData.showableAll, h.sh, t.sh], by simp [PyData.hasDictAll, h.nd, t.nd], by simp [PyData.leavesShortAll, h.lf, t.lf], ?_, ?_⟩
  · have := h.wt
    have := t.wt
    simp only [PyData.weightAll]
    omega
  · have := h.dp
    have := t.dp
    simp only [PyData.depthAll]
    omega
theorem fine_tup {ds : List PyData} {k n : Nat} (h : FineL ds k n) : Fine (.tuple ds) (k + 1) (n + 1) := by
  refine ⟨by simp [PyData.showable, h.sh], by simp [PyData.hasDict, h.nd], by simp [PyData.leavesShort, h.lf], ?_, ?_⟩
  · have := h.wt
    simp only [PyData.weight]
    omega
  · have := h.dp
    simp only [PyData.depth]
    omega
theorem Fine.mono {d : PyData} {k n k' n' : Nat} (h : Fine d k n) (e : k ≤ k') (f : n ≤ n') : Fine d k' n' := ⟨h.sh, h.nd, h.lf, Nat.le_trans h.wt f, Nat.le_trans h.dp e⟩
theorem FineL.mono {d : List PyData} {k n k' n' : Nat} (h : FineL d k n) (e : k ≤ k') (f : n ≤ n') : FineL d k' n' := ⟨h.sh, h.nd, h.lf, Nat.le_trans h.wt f, Nat.le_trans h.dp e⟩
theorem fine_none {k : Nat} : Fine .none k 10 := ⟨by simp [PyData.showable], by simp [PyData.hasDict], by simp [PyData.leavesShort], by simp [PyData.weight], by simp [PyData.depth]⟩
theorem fine_bool {b : Bool} {k : Nat} : Fine (.bool b) k 10 := ⟨by simp [PyData.showable], by simp [PyData.hasDict], by simp [PyData.leavesShort], by simp [PyData.weight], by simp [PyData.depth]⟩
theorem fine_wrd {z : Str} {k : Nat} (h : wrd z = true) : Fine (.str z) k 10 := by
  have l := word_len h
  refine ⟨by simp [PyData.showable], by simp [PyData.hasDict], ?_, ?_, by simp [PyData.depth]⟩
  · simp only [PyData.leavesShort]
    rw [List.all_eq_true]
    intro c hc
    have hl := (isW_iff.mp (show isW z.cps.toList = true from h)).2.2 c hc
    have h' : (decide (97 ≤ c) && decide (c ≤ 122)) = true := hl
    rw [Bool.and_eq_true, decide_eq_true_eq, decide_eq_true_eq] at h'
    exact decide_eq_true (Nat.lt_of_le_of_lt h'.2 (by decide))
  · have : z.cps.size ≤ 8 := l.2
    simp only [PyData.weight]
    omega
/-- what repr asks -/
theorem Fine.repr {d : PyData} {k n : Nat} (h : Fine d k n) (f : n ≤ 2 ^ 20) : d.showable = true ∧ d.hasDict = false ∧ d.depth ≤ k ∧ d.shown.length ≤ sizeLine := ⟨h.sh, h.nd, h.dp, PyData.shown_fits (B := 8) (by decide) (by decide) h.lf (Nat.le_trans h.wt f)⟩
end RL
namespace RL
open PySem L2 SX AddrMath VA PySem.Spec PyProof.Rows
theorem fine_lst {ds : List PyData} {k n : Nat} (h : FineL ds k n) : Fine (.list ds) (k + 1) (n + 1) := by
  refine ⟨by simp [PyData.showable, h.sh], by simp [PyData.hasDict, h.nd], by simp [PyData.leavesShort, h.lf], ?_, ?_⟩
  · have := h.wt
    simp only [PyData.weight]
    omega
  · have := h.dp
    simp only [PyData.depth]
    omega
theorem fine_small {n : Nat} {k : Nat} (h : n ≤ 9) : Fine (.int (n : Int)) k 10 := by
  have : n = 0 ∨ n = 1 ∨ n = 2 ∨ n = 3 ∨ n = 4 ∨ n = 5 ∨ n = 6 ∨ n = 7 ∨ n = 8 ∨ n = 9 := by omega
  rcases this with rfl | rfl | rfl | rfl | rfl | rfl | rfl | rfl | rfl | rfl <;> exact ⟨by decide +kernel, by decide +kernel, by decide +kernel, by decide +kernel, by simp [PyData.depth]⟩
theorem fine_wrds {k : Nat} : ∀ {ss : List Str}, ss.all wrd = true → FineL (ss.map PyData.str) k (11 * ss.length)
  | [], _ => fine_nil.mono (Nat.zero_le _) (Nat.zero_le _)
  | d :: r, h => by
    rw [List.all_cons, Bool.and_eq_true] at h
    exact (fine_cons (fine_wrd h.1) (fine_wrds h.2)).mono (Nat.le_refl _) (by rw [List.length_cons]; omega)
end RL

-- FROM law_k18_rows_listed
namespace RL
open PySem L2 SX AddrMath VA PySem.Spec PyProof.Rows
/-! ## sorted texts without doubles are told by their members -/
theorem rising_leX : ∀ {p : Str} {l : List Str}, risingS p l = true → ∀ y ∈ l, ¬ y.cps.toList < p.cps.toList
  | _, [], _, y, h => by cases h
  | p, x :: r, h, y, hy => by
    have h' : (!PySem.Spec.ltCps x.cps.toList p.cps.toList && risingS x r) = true := h
    rw [Bool.and_eq_true, Bool.not_eq_true', ltCps_eq, decide_eq_false_iff_not] at h'
    rcases List.mem_cons.mp hy with rfl | hy
    · exact h'.1
    · exact List.not_lt.mpr (List.le_trans (List.not_lt.mp h'.1) (List.not_lt.mp (rising_leX h'.2 y hy)))
theorem sorted_leX {x : Str} {l : List Str} (h : sortedS (x :: l) = true) : ∀ y ∈ l, ¬ y.cps.toList < x.cps.toList := rising_leX h
theorem sorted_tailX {x : Str} {l : List Str} (h : sortedS (x :: l) = true) : sortedS l = true := by
  cases l with
  | nil => rfl
  | cons y r =>
    have h' : (!PySem.Spec.ltCps y.cps.toList x.cps.toList && risingS y r) = true := h
    rw [Bool.and_eq_true] at h'
    exact h'.2
theorem str_anti {x y : Str} (h1 : ¬ x.cps.toList < y.cps.toList) (h2 : ¬ y.cps.toList < x.cps.toList) : x = y := by
  have e : x.cps.toList = y.cps.toList := List.le_antisymm (List.not_lt.mp h2) (List.not_lt.mp h1)
  cases x; cases y
  congr
  exact Array.toList_inj.mp e
theorem sorted_eqX : ∀ {xs ys : List Str}, sortedS xs = true → sortedS ys = true → xs.Nodup → ys.Nodup → (∀ z, z ∈ xs ↔ z ∈ ys) → xs = ys
  | [], [], _, _, _, _, _ => rfl
  | [], y :: r, _, _, _, _, h => by
    have := (h y).mpr (List.mem_cons_self ..)
    cases this
  | x :: r, [], _, _, _, _, h => by
    have := (h x).mp (List.mem_cons_self ..)
    cases this
  | x :: xs, y :: ys, h1, h2, n1, n2, h => by
    have e : x = y := by
      rcases List.mem_cons.mp ((h x).mp (List.mem_cons_self ..)) with e | m1
      · exact e
      · rcases List.mem_cons.mp ((h y).mpr (List.mem_cons_self ..)) with e | m2
        · exact e.symm
        · exact str_anti (sorted_leX h2 x m1) (sorted_leX h1 y m2)
    subst e
    rw [List.nodup_cons] at n1 n2
    rw [sorted_eqX (sorted_tailX h1) (sorted_tailX h2) n1.2 n2.2 fun z => ⟨fun m => ?_, fun m => ?_⟩]
    · rcases List.mem_cons.mp ((h z).mp (List.mem_cons_of_mem _ m)) with e | m'
      · rw [e] at m
        exact absurd m n1.1
      · exact m'
    · rcases List.mem_cons.mp ((h z).mpr (List.mem_cons_of_mem _ m)) with e | m'
      · rw [e] at m
        exact absurd m n2.1
      · exact m'

theorem fine_lstX {ds : List PyData} {k n : Nat} (h : FineL ds k n) : Fine (.list ds) (k + 1) (n + 1) := by
  refine ⟨by simp [PyData.showable, h.sh], by simp [PyData.hasDict, h.nd], by simp [PyData.leavesShort, h.lf], ?_, ?_⟩
  · have := h.wt
    simp only [PyData.weight]
    omega
  · have := h.dp
    simp only [PyData.depth]
    omega
theorem fine_smallX {i : Int} {k : Nat} (h0 : 1 ≤ i) (h : i ≤ 9) : Fine (.int i) k 10 := by
  have : i = 1 ∨ i = 2 ∨ i = 3 ∨ i = 4 ∨ i = 5 ∨ i = 6 ∨ i = 7 ∨ i = 8 ∨ i = 9 := by omega
  rcases this with rfl | rfl | rfl | rfl | rfl | rfl | rfl | rfl | rfl <;> exact ⟨by decide +kernel, by decide +kernel, by decide +kernel, by decide +kernel, by simp [PyData.depth]⟩
end RL
namespace RL
open PySem L2 SX AddrMath VA PySem.W GR TxSet StX
/-! ## the rows as data -/
def sgD : Option Key → PyData
  | none => .none
  | some k => kD k
def rowD (r : Row) : PyData := .tuple [.str r.1, .tuple (r.2.1.map kD), sgD r.2.2]
theorem key_dpX {K : Frag} {H : Hp} (k : Key) : Dp K H (L2.kV k) (kD k) := by
  cases k with
  | inl i => exact .int i
  | inr z => exact .str z
theorem keys_dpX {K : Frag} {H : Hp} : ∀ ks : List Key, DpAll K H (ks.map L2.kV) (ks.map kD)
  | [] => .nil
  | k :: r => .cons (key_dpX k) (keys_dpX r)
theorem row_dp {K : Frag} {H : Hp} {r : Row} {v : V} (h : rRow K r v H) : Dp K H v (rowD r) := by
  obtain ⟨a, t, rfl, h1, h2⟩ := h
  refine .tup h1 (.cons (.str _) (.cons (.tup h2 (keys_dpX _)) (.cons ?_ .nil)))
  cases r.2.2 with
  | none => exact .non
  | some k => exact key_dpX k
theorem rows_dp {K : Frag} {H : Hp} : ∀ {rs : List Row} {xs : List V}, AllR (rRow K) rs xs H → DpAll K H xs (rs.map rowD)
  | [], [], _ => .nil
  | [], _ :: _, h => by cases h.1
  | _ :: _, [], h => by cases h.1
  | r :: rs, x :: xs, h => .cons (row_dp (h.2 0 r x rfl rfl)) (rows_dp ⟨Nat.succ.inj h.1, fun k b y e1 e2 => h.2 (k + 1) b y e1 e2⟩)
theorem key_fine {k : Key} {n : Int} {m : Nat} (h : okN n k = true) (hn : n ≤ 9) : Fine (kD k) m 10 := by
  cases k with
  | inr z => exact fine_wrd h
  | inl i =>
    have h : (decide (1 ≤ i) && decide (i ≤ n)) = true := h
    rw [Bool.and_eq_true, decide_eq_true_eq, decide_eq_true_eq] at h
    exact fine_smallX h.1 (by omega)
theorem keys_fine {n : Int} {m : Nat} (hn : n ≤ 9) : ∀ {ks : List Key}, (∀ k ∈ ks, okN n k = true) → FineL (ks.map kD) m (11 * ks.length)
  | [], _ => fine_nil.mono (Nat.zero_le _) (Nat.zero_le _)
  | k :: r, h => (fine_cons (key_fine (h k (.head _)) hn) (keys_fine hn fun x hx => h x (.tail _ hx))).mono (Nat.le_refl _) (by rw [List.length_cons]; omega)
/-- what a row is made of -/
def rowOk (r : Row) : Prop := wrd r.1 = true ∧ (∀ k ∈ r.2.1, okN 2 k = true) ∧ r.2.1.length ≤ 2 ∧ ∀ k, r.2.2 = some k → okN 3 k = true
theorem row_fine {r : Row} (h : rowOk r) : Fine (rowD r) 2 60 := by
  obtain ⟨h1, h2, h3, h4⟩ := h
  have f3 : Fine (sgD r.2.2) 1 10 := by
    cases e : r.2.2 with
    | none => exact fine_none
    | some k => exact key_fine (h4 k e) (by decide)
  exact (fine_tup (fine_cons (fine_wrd h1) (fine_cons (fine_tup (keys_fine (m := 0) (by decide) h2)) (fine_cons f3 (fine_nil.mono (Nat.zero_le 1) (Nat.le_refl 0)))))).mono (Nat.le_refl _) (by omega)
theorem rows_fine : ∀ {rs : List Row}, (∀ r ∈ rs, rowOk r) → FineL (rs.map rowD) 2 (61 * rs.length)
  | [], _ => fine_nil.mono (Nat.zero_le _) (Nat.zero_le _)
  | r :: rs, h => (fine_cons (row_fine (h r (.head _))) (rows_fine fun x hx => h x (.tail _ hx))).mono (Nat.le_refl _) (by rw [List.length_cons]; omega)
theorem pairs_ok {ws : List Str} (ok : ∀ z ∈ ws, wrd z = true) {p : Pr} (hp : p ∈ pairsL ws) : (∀ k ∈ p.1, okN 2 k = true) ∧ p.1.length ≤ 2 ∧ ∀ k, p.2 = some k → okN 3 k = true := by
  rcases List.mem_append.mp hp with hp | hp
  · obtain ⟨h, hh, e⟩ := List.mem_filterMap.mp hp
    by_cases c : (h.length : Int) < 2
    · rw [if_pos c] at e
      cases e
      obtain ⟨a, b⟩ := hands_ok ok h hh
      exact ⟨a, b, fun k e => by cases e⟩
    · rw [if_neg c] at e
      cases e
  · obtain ⟨h, hh, e⟩ := List.mem_flatMap.mp hp
    obtain ⟨g, hg, e2⟩ := List.mem_filterMap.mp hh
    by_cases c : (g.length : Int) = 2
    · rw [if_pos c] at e2
      cases e2
      obtain ⟨a, b⟩ := hands_ok ok _ hg
      obtain ⟨s, hs, rfl⟩ := List.mem_map.mp e
      refine ⟨a, b, fun k e => ?_⟩
      have e : s = some k := e
      subst e
      rcases List.mem_append.mp hs with hs | hs
      · obtain ⟨k', hk', e⟩ := List.mem_map.mp hs
        cases e
        exact nextS_ok (n := 2) (by decide) ok a _ hk'
      · simp at hs
    · rw [if_neg c] at e2
      cases e2
theorem rows_ok {ws sts : List Str} (ok : ∀ z ∈ ws, wrd z = true) (ok2 : ∀ z ∈ sts, wrd z = true) : ∀ r ∈ rowsL ws sts, rowOk r := fun r hr => by
  obtain ⟨z, hz, e⟩ := List.mem_flatMap.mp hr
  obtain ⟨p, hp, rfl⟩ := List.mem_map.mp e
  obtain ⟨a, b, c⟩ := pairs_ok ok hp
  exact ⟨ok2 z hz, a, b, c⟩
theorem rows_few {ws sts : List Str} (ok : ∀ z ∈ ws, wrd z = true) (lw : ws.length ≤ 6) (ls : sts.length ≤ 12) : (rowsL ws sts).length ≤ 12000 := by
  have hm : (ws.length + 1) * (ws.length + 2) ≤ 7 * 8 := Nat.mul_le_mul (by omega) (by omega)
  have h0 : (handsL ws).length ≤ 78 := Nat.le_trans (hands_len ok (by omega)) (by omega)
  have h1 : (endsL ws).length ≤ 78 := Nat.le_trans (List.length_filterMap_le _ _) h0
  have h2 : (wholeL ws).length ≤ 78 := Nat.le_trans (List.length_filterMap_le _ _) h0
  have h3 := flat_len (wholeL ws) (behindL ws) 10 fun h hh => by
    obtain ⟨g, hg, e2⟩ := List.mem_filterMap.mp hh
    by_cases c : (g.length : Int) = 2
    · rw [if_pos c] at e2
      cases e2
      have := nextS_len (ws := ws) (n := 2) (hands_ok ok _ hg).1
      unfold behindL
      rw [List.length_map, List.length_append, List.length_map]
      show _ + 1 ≤ _
      omega
    · rw [if_neg c] at e2
      cases e2
  have h4 : (wholeL ws).length * 10 ≤ 78 * 10 := Nat.mul_le_mul_right _ h2
  have h5 : (pairsL ws).length ≤ 1000 := by
    unfold pairsL
    rw [List.length_append]
    omega
  have h6 := flat_len sts (fun z => (pairsL ws).map fun p => ((z, p) : Row)) 1000 fun z hz => by
    rw [List.length_map]
    exact h5
  have h7 : sts.length * 1000 ≤ 12 * 1000 := Nat.mul_le_mul_right _ ls
  unfold rowsL
  omega
theorem rows_show {K : Frag} {H : Hp} {l : Addr} {xs : List V} {ws sts : List Str} (ok : ∀ z ∈ ws, wrd z = true) (ok2 : ∀ z ∈ sts, wrd z = true) (lw : ws.length ≤ 6) (ls : sts.length ≤ 12) (hl : H l = some (.lst xs)) (h : AllR (rRow K) (rowsL ws sts) xs H) :
    Dp K H (.ref l) (.list ((rowsL ws sts).map rowD)) ∧ RV.ShowV K H (.ref l) (PyData.list ((rowsL ws sts).map rowD)).shown := by
  have dp : Dp K H (.ref l) (.list ((rowsL ws sts).map rowD)) := .lst (.inl (.inl hl)) (rows_dp h)
  have few := rows_few ok lw ls
  have f := (fine_lstX (rows_fine (rows_ok ok ok2))).repr (Nat.le_trans (m := 61 * 12000 + 1) (by omega) (by decide))
  exact ⟨dp, .data dp f.1 f.2.1 (Nat.le_trans f.2.2.1 (by decide)) f.2.2.2⟩
/-- == of two lists of different length -/
def rEqLen : R2 := fun x y H Q => ∃ a b xs ys, x = .ref a ∧ y = .ref b ∧ H a = some (.lst xs) ∧ H b = some (.lst ys) ∧ xs.length ≠ ys.length ∧ Q (.bl false) H
theorem op_eqLen {X : Cx} (hu : X.A.units < cLine) : OpR X (compareOp .Eq) rEqLen := by
  intro pins s σ H x y v u Q I rx ry ⟨a, b, xs, ys, ex, ey, ha, hb, ne, q⟩
  subst ex ey
  cases (show v = Value.ref a from rx)
  cases (show u = Value.ref b from ry)
  obtain ⟨i1, p1, l1⟩ := lst_is I ha
  obtain ⟨i2, p2, l2⟩ := lst_is I hb
  exact SeqAt.RcAt.lists_lengths p1 p2 (by simpa [l1, l2] using ne) hu _ _ _ _ ⟨.bl false, H, I, rfl, q⟩
/-- Book() -/
def tNewBook (K : Frag) (C CB : Addr) : TE := fun _ H Q => ∀ b t H', BookAt K C CB H' b t [] [] → Same H H' → H b = none → Q (.ref b) H'
theorem new_book {K : Frag} {C CB CM : Addr} {E : XK} {σ : L2.St} {H : Hp} {Q : VK} (h : tNewBook K C CB σ H Q) : tMakeR0 CB (spBInit K C CB CM) E σ H Q := fun o dx no nd ne =>
  binit_of (Q := Q) (ps := []) (ss := []) no nd ne ⟨rfl, fun i p s e => by cases e⟩ (Nat.zero_le _) ⟨fun n hn => (by cases hn), fun _ b t H' hB s nb => h b t H' hB s nb⟩
section
variable {P : Program} {w : World} {K : Frag} {mg : Str → Option Value} {base : Heap}
/-! ### law: slots _law_script 0, _law_tape 1, _law_turn 2, _law_plain 3, _law_told 4 -/
abbrev sLaw18 : Stmt := top 76
abbrev NL18 : List Str := ["_law_script", "_law_tape", "_law_turn", "_law_plain", "_law_told"]
theorem scLaw18 : FnScope NL18 ["_law_script"] (defScope sLaw18) := ⟨rfl, rfl, rfl, by decide +kernel, rfl, by decide +kernel, by decide +kernel⟩
def spLaw18 (K : Frag) : Sp := fun vs H Q _ => ∃ (a : Addr) (ns : List Int), vs = [.ref a] ∧ SqL K H a (ns.map V.int) ∧ ns.length ≤ 63 ∧ ∀ H', Q (.bl true) H'
theorem q_law18 {f C CB CM fB : Addr} {fd : FuncData} {gZ : List Value → List Value → List Value} (F : Fun K "law" "law" sLaw18 f fd) (B : Blt mg) (TB : BTxt K mg CB)
    (begin_ : Own P w K mg base CX0 1 "_law_begin" ["_law_script"] (spBegin K)) (book : Own P w K mg base CX0 4 "_law_book" ["_law_tape"] (spBook K)) (rows : Own P w K mg base CX0 6 "rows" ["book"] (spRows K C CB)) (bz : KBn K rows.fd ["book"] 0 ["book"] gZ (fun vs zs => vs ++ zs))
    (made : Own P w K mg base CX0 9 "_law_made" ["_law_rules"] (spMadeB K C CB)) (ruled : Own P w K mg base CX0 1 "_law_ruled" ["_law_rules"] (spRuled K)) (named : Own P w K mg base CX0 1 "_law_named" ["_law_rules"] (spLNamed K))
    (lrows : Own P w K mg base CX0 5 "_law_rows" ["_law_words", "_law_states"] (spLRows K)) (MB : Mk K CB fB) (FB : FnR P w K mg base (L2.CX P w) 5 fB (spBInit K C CB CM)) :
    FnQ P w K mg base 11 f fd ["_law_script"] (spLaw18 K) := by
  refine quiet_fn F scLaw18 (fun vs H Q E h => ?_) (fun cd Ar fs s0 H vs Q E quiet hr h => ?_)
  · obtain ⟨a, ns, rfl, _⟩ := h
    rfl
  · obtain ⟨a, ns, rfl, hS, hl, q⟩ := h
    have hq := quiet_deeper (e := PyProof.Rows.envOfC "law" (defScope sLaw18) s0.heap.objs.size f cd) quiet
    have hu := hu_of hr
    have hun := hr.units0
    refine ⟨_, (pss_cons (ps_set (i := 1) scLaw18.nd rfl (Or.inl rfl) (pe_call begin_.g (hr.mono (by decide)) rfl begin_.mg begin_.kp begin_.b .nil pass0 (pa_cons (pv 0) pa_nil)))
      (pss_cons (ps_for PassesOwn.never rfl (pi_range1 (by rfl) B.range_ (pa_cons pe_int pa_nil)) (pg_name (i := 2) scLaw18.nd rfl (Or.inl rfl))
        (pss_cons (ps_set (i := 3) scLaw18.nd rfl (Or.inl rfl) (pe_dget hu (pe_call book.g (hr.mono (by decide)) rfl book.mg book.kp book.b .nil pass0 (pa_cons (pv 1) pa_nil)) pe_str (fun _ _ => rfl)))
        (pss_cons (ps_set (i := 4) scLaw18.nd rfl (Or.inl rfl) (pe_callK0 rows.g (hr.mono (by decide)) rfl rows.mg rows.kp bz pass0 (pk_cons (pe_call made.g (hr.mono (by decide)) rfl made.mg made.kp made.b .nil pass0 (pa_cons (pv 3) pa_nil)) pk_nil)))
        (pss_cons (ps_if (PW.pt (pw_or (pt_not (pt_val (pe_callB call_isi (by rfl) B.isinstance_ (by decide +kernel) (pa_cons (pv 4) (pa_cons (pe_bltn (v := .ty "list") (by rfl) B.list_ (by decide +kernel) rfl) pa_nil))))) (pw_or1 (pt_cmpR op_ne (pe_callB (RV.call_reprVK (K := K) rfl hq hr.units) (by rfl) B.repr_ (by decide +kernel) (pa_cons (pv 4) pa_nil)) (pe_callB (RV.call_reprVK (K := K) rfl hq hr.units) (by rfl) B.repr_ (by decide +kernel) (pa_cons (pe_call lrows.g (hr.mono (by decide)) rfl lrows.mg lrows.kp lrows.b .nil pass0 (pa_cons (pe_call named.g (hr.mono (by decide)) rfl named.mg named.kp named.b .nil pass0 (pa_cons (pv 3) pa_nil)) (pa_cons (pe_call ruled.g (hr.mono (by decide)) rfl ruled.mg ruled.kp ruled.b .nil pass0 (pa_cons (pv 3) pa_nil)) pa_nil))) pa_nil)) (nomark _))))) (pss_one (ps_ret pe_bl)) pss_nil)
        (pss_cons (ps_expr (pe_bm PySem.F.plainAttrs_list PySem.F.slot_list_append PySem.F.type_list_append mt_append (pv 4) (pa_cons pe_non pa_nil)))
        (pss_one (ps_if (pt_cmpR (op_eqLen hun) (pe_call rows.g (hr.mono (by decide)) rfl rows.mg rows.kp rows.b .nil pass0 (pa_cons (pe_call made.g (hr.mono (by decide)) rfl made.mg made.kp made.b .nil pass0 (pa_cons (pv 3) pa_nil)) pa_nil)) (pv 4) (nomark _)) (pss_one (ps_ret pe_bl)) pss_nil)))))))
      (pss_one (ps_ret (pe_cmpR (op_eqNil hun) (pe_call rows.g (hr.mono (by decide)) rfl rows.mg rows.kp rows.b .nil pass0 (pa_cons (pe_by (tNewBook K C CB) (pe_makeR0 (E := E0) MB FB (hr.mono (by decide)) (by rfl) TB.mgC pass_none) (fun _ _ _ h => new_book h)) pa_nil)) (pe_lst pa_nil) (nomark _)))))), ?_⟩
    refine ⟨_, rfl, a, ns, rfl, hS, hl, fun d c H0 p0 s0' nd => ?_⟩
    refine ⟨5, rfl, by omega, by omega, for_range (n := (5 : Int).toNat) (fun i σ H' => ∃ o2 o3 o4 : Option V, σ = [some (.ref a), some (.ref d), o2, o3, o4] ∧ TapeAt H' d c (i * 300)) ⟨none, none, none, rfl, p0⟩ ?_ ?_⟩
    · rintro i σ G hi ⟨o2, o3, o4, rfl, p⟩
      have hi' : i < 5 := hi
      refine ⟨_, rfl, d, c, i * 300, rfl, p, by omega, fun D l wl sl as L ws ss wz sz H1 hD hl hA lL nw okw w2 w3 inw ns' oks s2 s3 ins _ _ _ _ _ _ p1 b1 => ?_⟩
      have g : DGet H1 D (.str "rules") (some (.ref l)) := by
        have z := DGet.k (k := kRules) hD
        exact z
      refine ⟨D, _, rfl, g, ?_⟩
      have lim : limS L = none := lim_none (ss := ss ++ [sOut]) (ws := ws) (fun s hs => by
        obtain ⟨j, hj, e⟩ := List.getElem_of_mem hs
        have hja : j < as.length := by rw [hA.1]; exact hj
        rw [← e]
        exact (hA.2 j as[j] L[j] (List.getElem?_eq_getElem hja) (List.getElem?_eq_getElem hj)).2.2) (by omega) (by rw [List.length_append]; show _ + 1 ≤ 6; omega) (by omega)
      have own : ∀ s ∈ L, okS s ∧ ofS (ss ++ [sOut]) ws s := fun s hs => by
        obtain ⟨j, hj, e⟩ := List.getElem_of_mem hs
        have hja : j < as.length := by rw [hA.1]; exact hj
        rw [← e]
        exact (hA.2 j as[j] L[j] (List.getElem?_eq_getElem hja) (List.getElem?_eq_getElem hj)).2
      clear g hD
      refine ⟨_, rfl, l, _, ws, as, L, rfl, hl, hA, lim, fun b t ps H2 hB s2' nb => ⟨rfl, b, t, ps, L, rfl, hB, lim, fun us sts lt xs H3 u1 u2 u3 t1 t2 t3 hlt hR s3' nlt => ?_⟩⟩
      have okU : ∀ z ∈ us, wrd z = true := fun z hz => by
        obtain ⟨s, hs, hu⟩ := List.mem_flatMap.mp ((u3 z).mp hz)
        exact List.all_eq_true.mp okw z ((own s hs).2.2.2 z hu)
      have okT : ∀ z ∈ sts, wrd z = true := fun z hz => by
        obtain ⟨s, hs, e⟩ := List.mem_map.mp ((t3 z).mp hz)
        rw [← e]
        exact (own s hs).1.1
      have lU : us.length ≤ 6 := Nat.le_trans (nd_le u2 fun z hz => by
        obtain ⟨s, hs, hu⟩ := List.mem_flatMap.mp ((u3 z).mp hz)
        exact (own s hs).2.2.2 z hu) (by omega)
      have lT : sts.length ≤ 12 := Nat.le_trans (nd_le t2 fun z hz => (t3 z).mp hz) (by rw [List.length_map]; omega)
      have s13 := s2'.trans s3'
      have hl3 := s13 _ _ hl
      have hA3 := plainsAt_kp hA (kp_same s13)
      have p3 := p1.keep s13
      obtain ⟨dp3, sh3⟩ := rows_show okU okT lU lT hlt hR
      have few := rows_few okU lU lT
      have lt_l : lt ≠ l := fun z => by
        rw [z, s2' _ _ hl] at nlt
        cases nlt
      have lt_d : lt ≠ d := (p1.keep s2').none_d nlt
      have lt_c : lt ≠ c := (p1.keep s2').none_c nlt
      clear hl hA p1 b1 hB nb s2' s3' s13 nlt
      refine ⟨_, rfl, _, _, _, _, true, rfl, .ty "list", dp_ty dp3, kit_ty rfl, _, rfl, ?_⟩
      refine iteF ⟨_, rfl, _, _, rfl, sh3, ?_⟩
      refine ⟨_, rfl, l, _, ws, as, L, rfl, hl3, hA3, by omega, fun us' r1 H4 v1 v2 v3 hr1 s4 => ?_⟩
      refine ⟨_, rfl, l, _, ws, as, L, rfl, s4 _ _ hl3, plainsAt_kp hA3 (kp_same s4), by omega, fun sts' r2 H5 x1 x2 x3 hr2 s5 => ?_⟩
      obtain rfl : us' = us := sorted_eqX v1 u1 v2 u2 fun z => (v3 z).trans (u3 z).symm
      obtain rfl : sts' = sts := sorted_eqX x1 t1 x2 t2 fun z => (x3 z).trans (t3 z).symm
      refine ⟨r1, r2, us', sts', rfl, s5 _ _ hr1, hr2, okU, lU, lT, fun l2 xs2 H6 hl2 hR2 s6 => ?_⟩
      obtain ⟨dp6, sh6⟩ := rows_show okU okT lU lT hl2 hR2
      refine ⟨_, _, rfl, sh6, rfl, _, rfl, ?_⟩
      have s46 := (s4.trans s5).trans s6
      have hlt6 := s46 _ _ hlt
      rw [decide_eq_true rfl]
      refine iteF ?_
      refine ⟨_, rfl, .inl ⟨rfl, _, .inl (.inl hlt6)⟩, lt, _, _, rfl, rfl, hlt6, size_lt (by rw [hR.1]; omega), ?_⟩
      have p6 := (p3.keep s46).put (o := .lst (xs ++ [.non])) lt_d lt_c
      have hl6 : (upd H6 lt (.lst (xs ++ [.non]))) l = some (.lst (as.map V.ref)) := by
        rw [upd_ne lt_l.symm]
        exact s46 _ _ hl3
      have hA6 : PlainsAt K (upd H6 lt (.lst (xs ++ [.non]))) (ss ++ [sOut]) ws as L := plainsAt_but hlt6 But.upd (plainsAt_kp hA3 (kp_same s46))
      have u6 : (upd H6 lt (.lst (xs ++ [.non]))) lt = some (.lst (xs ++ [.non])) := upd_same
      generalize upd H6 lt (.lst (xs ++ [.non])) = H7 at p6 hl6 hA6 u6 ⊢
      refine ⟨_, rfl, l, _, ws, as, L, rfl, hl6, hA6, lim, fun b t ps H8 hB s8 nb => ⟨b, t, ps, L, rfl, hB, lim, fun us2 sts2 lt2 xs3 H9 y1 y2 y3 z1 z2 z3 hlt9 hR9 s9 _ => ?_⟩⟩
      obtain rfl : us2 = us' := sorted_eqX y1 u1 y2 u2 fun z => (y3 z).trans (u3 z).symm
      obtain rfl : sts2 = sts' := sorted_eqX z1 t1 z2 t2 fun z => (z3 z).trans (t3 z).symm
      have e9 : xs3.length = xs.length := hR9.1.trans hR.1.symm
      refine ⟨_, rfl, lt2, lt, _, _, rfl, rfl, hlt9, (s8.trans s9) _ _ u6, by rw [List.length_append, e9]; show _ ≠ _ + 1; omega, _, rfl, iteF ?_⟩
      exact ⟨_, _, _, rfl, ((p6.keep (s8.trans s9)).mono (by omega))⟩
    · rintro σ G ⟨o2, o3, o4, rfl, p⟩
      intro b t H1 hB s1 nb
      refine ⟨b, t, [], [], rfl, hB, rfl, fun us sts lt xs H2 u1 u2 u3 t1 t2 t3 hlt hR s2 _ => ?_⟩
      obtain rfl : us = [] := List.eq_nil_iff_forall_not_mem.mpr fun z hz => by
        have := (u3 z).mp hz
        cases this
      obtain rfl : sts = [] := List.eq_nil_iff_forall_not_mem.mpr fun z hz => by
        have := (t3 z).mp hz
        cases this
      have ex : xs = [] := List.eq_nil_of_length_eq_zero hR.1
      subst ex
      exact ⟨Nat.zero_le _, fun e ne => ⟨lt, e, [], rfl, rfl, (same_new ne) _ _ hlt, upd_same, q _⟩⟩
end
end RL

-- NOMAP
namespace RL
open PySem L2 SX AddrMath VA GR TxSet StX
theorem kit_me {K : PySem.W.Frag} {S : Addr} : PySem.W.kitOne K (.ref S) (.ref S) = some true := by
  unfold PySem.W.kitOne
  rw [if_pos (by simp)]
theorem vals_app {a b : List V} {x y : List Value} (h1 : Vals a x) (h2 : Vals b y) : Vals (a ++ b) (x ++ y) := by
  induction h1 with
  | nil => exact h2
  | cons h _ ih => exact .cons h ih
theorem exm_own {K : PySem.W.Frag} {S : Addr} (h1 : PySem.W.subIn K (.ref S) (.type "BaseException") = some true) (h2 : PySem.W.hasDictIn K S = true) (h3 : PySem.W.typeIn K (.ref S) = some (.type "type")) (h4 : PySem.W.subIn K (.ref S) (.ref S) = some true) :
    PySem.W.exmOne K (.ref S) (.ref S) = some true := PySem.W.exm_ref h1 h2 h3 h4
theorem kit_own {K : PySem.W.Frag} {S : Addr} (h : PySem.W.subIn K (.ref S) (.type "ValueError") = some true) : PySem.W.kitOne K (.ref S) (.type "ValueError") = some true := by
  unfold PySem.W.kitOne
  rw [if_neg (by intro z; cases (beq_iff_eq.mp z))]
  show (if PySem.W.kitMeta "ValueError" = true then PySem.W.subIn K (.ref S) (.type "ValueError") else none) = some true
  rw [if_pos (by decide +kernel)]
  exact h
def own_mk {P : Program} {w : World} {K : PySem.W.Frag} {mg : Str → Option Value} {base : Heap} {CX : CXT} {n : Nat} {x : Str} {ps : List Str} {sp : Sp} {f : Addr} {fd : FuncData} (g : FnOk P w K mg base CX n f fd ps sp) (m : mg x = some (.ref f)) (k : PySem.W.keepIn K (.ref f) = true) (b : Binds K fd ps []) : Own P w K mg base CX n x ps sp := ⟨f, fd, g, m, k, b⟩
def prop_mk {P : Program} {w : World} {K : PySem.W.Frag} {mg : Str → Option Value} {base : Heap} {C p g : Addr} {n : Str} {sp : Sp} {fd : FuncData} (a : PySem.W.findIn K (.ref C) n = some (some (.ref p))) (gt : PySem.W.specialIn K (.ref p) "__get__" = some (some (.builtin "property.__get__"))) (t : PySem.W.takesIn K (.ref p) = some true) {r : List Value} (rc : PySem.W.recIn K p "property" = some (.ref g :: r))
    (ok : FnOk P w K mg base CX0 1 g fd ["self"] sp) (b : Binds K fd ["self"] []) : OwnP P w K mg base C n sp := ⟨p, g, fd, ⟨a, gt, t, ⟨r, rc⟩⟩, ok, b⟩
section
variable {P : Program} {w : World} {K : PySem.W.Frag} {mg : Str → Option Value} {base : Heap}
abbrev sRWords : Stmt := inClass (top 43) 5
theorem scRWords : FnScope ["self"] ["self"] (defScope sRWords) := ⟨rfl, rfl, rfl, by decide +kernel, rfl, by decide +kernel, by decide +kernel⟩
theorem ok_rwords {f C : Addr} {fd : FuncData} (F : Fun K "words" "Rule.words" sRWords f fd) (T : RTxt K mg C) : FnOk P w K mg base CX0 1 f fd ["self"] (spGet C nWords) := by
  refine F.ok scRWords (fun vs H Q E h => ?_) (fun cdv A outer s0 H vs Q E hr h => ?_)
  · obtain ⟨p, dx, fs, v, rfl, _⟩ := h
    rfl
  · obtain ⟨p, dx, fs, v, rfl, hp, l, q⟩ := h
    exact ⟨_, pss_one (ps_ret (pe_fld (pv 0) rfl)), _, rfl, p, C, dx, fs, v, rfl, hp, T.cl, T.nW, l, q⟩
end

theorem all_mk {l : PySem.W.OpenLaw} {w : World} {K : PySem.W.Frag} {h : Heap} {mg : Str → Option Value} {fa : Addr} (X : K.In h) (G : h.Ns mainGlobals mg) (hfa : mg "law" = some (.ref fa))
    {hd C CB fis_word fis_integer fis_hole fare_entries fis_goal CE fErr CM fMn fcheck_parts fcopied_goal fwords_named fInit TD KD prState frState prPattern frPattern prGoal frGoal prExact frExact prWords frWords fstates_of fwords_of fchecked fBin pbOf fbOf pbRu fbRu pbWo fbWo fnext_signs fhands frows fbegin fdraw fpick fshuf fmrule fmade fsrule fplan fbook fnumb fints flhands fsat flrows fruled fnamed flaw : Addr} {odis_word anis_word odis_integer anis_integer odis_hole anis_hole odare_entries anare_entries odis_goal anis_goal odErr anErr odMn anMn odcheck_parts ancheck_parts odcopied_goal ancopied_goal odwords_named anwords_named odInit anInit odT odrState anrState odrPattern anrPattern odrGoal anrGoal odrExact anrExact odrWords anrWords odstates_of anstates_of odwords_of anwords_of odchecked anchecked odBin anBin odbOf anbOf odbRu anbRu odbWo anbWo odnext_signs annext_signs odhands anhands odrows anrows odbegin anbegin oddraw andraw odpick anpick odshuf anshuf odmrule anmrule odmade anmade odsrule ansrule odplan anplan odbook anbook odnumb annumb odints anints odlhands anlhands odsat ansat odlrows anlrows odruled anruled odnamed annamed odlaw anlaw : Option Addr} {slis_word slis_integer slis_hole slare_entries slis_goal slErr slMn slcheck_parts slcopied_goal slwords_named slInit slT slrState slrPattern slrGoal slrExact slrWords slstates_of slwords_of slchecked slBin slbOf slbRu slbWo slnext_signs slhands slrows slbegin sldraw slpick slshuf slmrule slmade slsrule slplan slbook slnumb slints sllhands slsat sllrows slruled slnamed sllaw : Array (Option Value)} {ocis_word dcis_word pmis_word cdis_word ctis_word kVis_word ocis_integer dcis_integer pmis_integer cdis_integer ctis_integer kVis_integer ocis_hole dcis_hole pmis_hole cdis_hole ctis_hole kVis_hole ocare_entries dcare_entries pmare_entries cdare_entries ctare_entries kVare_entries ocis_goal dcis_goal pmis_goal cdis_goal ctis_goal kVis_goal ocErr dcErr pmErr cdErr ctErr kVErr ocMn dcMn pmMn cdMn ctMn kVMn occheck_parts dccheck_parts pmcheck_parts cdcheck_parts ctcheck_parts kVcheck_parts occopied_goal dccopied_goal pmcopied_goal cdcopied_goal ctcopied_goal kVcopied_goal ocwords_named dcwords_named pmwords_named cdwords_named ctwords_named kVwords_named ocInit dcInit pmInit cdInit ctInit ocT ocrState dcrState pmrState cdrState ctrState kVrState ocrPattern dcrPattern pmrPattern cdrPattern ctrPattern kVrPattern ocrGoal dcrGoal pmrGoal cdrGoal ctrGoal kVrGoal ocrExact dcrExact pmrExact cdrExact ctrExact kVrExact ocrWords dcrWords pmrWords cdrWords ctrWords kVrWords ocstates_of dcstates_of pmstates_of cdstates_of ctstates_of kVstates_of ocwords_of dcwords_of pmwords_of cdwords_of ctwords_of kVwords_of occhecked dcchecked pmchecked cdchecked ctchecked kVchecked ocBin dcBin pmBin cdBin ctBin kVBin ocbOf dcbOf pmbOf cdbOf ctbOf kVbOf ocbRu dcbRu pmbRu cdbRu ctbRu kVbRu ocbWo dcbWo pmbWo cdbWo ctbWo kVbWo ocnext_signs dcnext_signs pmnext_signs cdnext_signs ctnext_signs kVnext_signs ochands dchands pmhands cdhands cthands kVhands ocrows dcrows pmrows cdrows ctrows kVrows ocbegin dcbegin pmbegin cdbegin ctbegin kVbegin ocdraw dcdraw pmdraw cddraw ctdraw kVdraw ocpick dcpick pmpick cdpick ctpick kVpick ocshuf dcshuf pmshuf cdshuf ctshuf kVshuf ocmrule dcmrule pmmrule cdmrule ctmrule kVmrule ocmade dcmade pmmade cdmade ctmade kVmade ocsrule dcsrule pmsrule cdsrule ctsrule kVsrule ocplan dcplan pmplan cdplan ctplan kVplan ocbook dcbook pmbook cdbook ctbook kVbook ocnumb dcnumb pmnumb cdnumb ctnumb kVnumb ocints dcints pmints cdints ctints kVints oclhands dclhands pmlhands cdlhands ctlhands kVlhands ocsat dcsat pmsat cdsat ctsat kVsat oclrows dclrows pmlrows cdlrows ctlrows kVlrows ocruled dcruled pmruled cdruled ctruled kVruled ocnamed dcnamed pmnamed cdnamed ctnamed kVnamed oclaw dclaw pmlaw cdlaw ctlaw kVlaw : Value} {nH nT : Nat} {tk8 tk2 tk4 tk100 tkR tkS tkW tkH : Tok} {es : Array DictEntry} {rrState rrPattern rrGoal rrExact rrWords rbOf rbRu rbWo : List Value}  {nmErr qErr : Str} {NNErr : Addr} {bsErr : List Value} {snErr : List Str} {subErr : List Value} {abErr : Bool} {colErr : Option Bool} {ddErr : Option Addr} {m0Err m1Err m2Err m3Err m5Err : Option Value} {nmMn qMn : Str} {NNMn : Addr} {bsMn : List Value} {snMn : List Str} {subMn : List Value} {abMn : Bool} {colMn : Option Bool} {ddMn : Option Addr} {m0Mn m1Mn m2Mn m3Mn m5Mn : Option Value}
    (zisinstance : PySem.W.nsIn K mainGlobals "isinstance" = some none)
    (zstr : PySem.W.nsIn K mainGlobals "str" = some none)
    (zint : PySem.W.nsIn K mainGlobals "int" = some none)
    (zbool : PySem.W.nsIn K mainGlobals "bool" = some none)
    (zlist : PySem.W.nsIn K mainGlobals "list" = some none)
    (ztuple : PySem.W.nsIn K mainGlobals "tuple" = some none)
    (zlen : PySem.W.nsIn K mainGlobals "len" = some none)
    (zall : PySem.W.nsIn K mainGlobals "all" = some none)
    (zsorted : PySem.W.nsIn K mainGlobals "sorted" = some none)
    (zset : PySem.W.nsIn K mainGlobals "set" = some none)
    (zrange : PySem.W.nsIn K mainGlobals "range" = some none)
    (zmin : PySem.W.nsIn K mainGlobals "min" = some none)
    (zrepr : PySem.W.nsIn K mainGlobals "repr" = some none)
    (zzip : PySem.W.nsIn K mainGlobals "zip" = some none)
    (zenumerate : PySem.W.nsIn K mainGlobals "enumerate" = some none)
    (aLETTERS : PySem.W.nsIn K mainGlobals "LETTERS" = some (some (.int 8 tk8)))
    (aPATTERN : PySem.W.nsIn K mainGlobals "PATTERN" = some (some (.int 2 tk2)))
    (aBEGINNING : PySem.W.nsIn K mainGlobals "BEGINNING" = some (some (.int 4 tk4)))
    (aHOLE_DIGITS : PySem.W.nsIn K mainGlobals "HOLE_DIGITS" = some (some (.int 100 tk100)))
    (aRULES : PySem.W.nsIn K mainGlobals "RULES" = some (some (.int 12 tkR)))
    (aSTATES : PySem.W.nsIn K mainGlobals "STATES" = some (some (.int 6 tkS)))
    (aWORDS : PySem.W.nsIn K mainGlobals "WORDS" = some (some (.int 6 tkW)))
    (aH : PySem.W.nsIn K mainGlobals "HOLES" = some (some (.ref hd)))
    (lH : K.lookup hd = some ⟨.type "dict", none, .dict es nH, #[]⟩)
    (nH0 : (hd == sysModules) = false)
    (zH : es.size = 2)
    (litH : PySem.W.KeysLit w.params es.toList)
    (rowH : TxRows holeRows es.toList)
    (mC : PySem.W.nsIn K mainGlobals "Rule" = some (some (.ref C)))
    (pgC : PySem.W.plainGet K C Str.empty = true)
    (hdC : PySem.W.hasDictIn K C = true)
    (poC : PySem.W.plainOver K C = true)
    (saC : PySem.W.findIn K (.ref C) "__setattr__" = some (some (.builtin "object.__setattr__")))
    (mkC : PySem.W.makesIn K C = true)
    (kcC : PySem.W.keepIn K (.ref C) = true)
    (nC_state : PySem.W.findIn K (.ref C) "_state" = some none)
    (nC_pattern : PySem.W.findIn K (.ref C) "_pattern" = some none)
    (nC_goal : PySem.W.findIn K (.ref C) "_goal" = some none)
    (nC_is_exact : PySem.W.findIn K (.ref C) "_is_exact" = some none)
    (nC_words : PySem.W.findIn K (.ref C) "_words" = some none)
    (nC_key : PySem.W.findIn K (.ref C) "_key" = some none)
    (icC : PySem.W.isClsIn K C = true)
    (pcC : PySem.W.plainGet K C "__class__" = true)
    (clC : PySem.W.findIn K (.ref C) "__class__" = some (some (.builtin "object.__class__")))
    (moC : PySem.W.mroIn K C (.type "object") = some true)
    (clg : PySem.W.specialIn K (.builtin "object.__class__") "__get__" = some (some (.builtin "getset_descriptor.__get__")))
    (clt : PySem.W.takesIn K (.builtin "object.__class__") = some true)
    (mCB : PySem.W.nsIn K mainGlobals "Book" = some (some (.ref CB)))
    (pgCB : PySem.W.plainGet K CB Str.empty = true)
    (hdCB : PySem.W.hasDictIn K CB = true)
    (poCB : PySem.W.plainOver K CB = true)
    (saCB : PySem.W.findIn K (.ref CB) "__setattr__" = some (some (.builtin "object.__setattr__")))
    (mkCB : PySem.W.makesIn K CB = true)
    (kcCB : PySem.W.keepIn K (.ref CB) = true)
    (nCB_rules : PySem.W.findIn K (.ref CB) "_rules" = some none)
    (nCB_reader : PySem.W.findIn K (.ref CB) "_reader" = some none)
    (ais_word : PySem.W.nsIn K mainGlobals "is_word" = some (some (.ref fis_word)))
    (lis_word : K.lookup fis_word = some ⟨ocis_word, odis_word, .func (PySem.W.fnOf "is_word" "is_word" (defArgs sIsWord) (defBody sIsWord) (defScope sIsWord) .none kVis_word dcis_word pmis_word anis_word cdis_word ctis_word), slis_word⟩) (cis_word : PySem.W.codeIn K cdis_word "is_word" = true) (kis_word : PySem.W.keepIn K (.ref fis_word) = true)
    (ais_integer : PySem.W.nsIn K mainGlobals "is_integer" = some (some (.ref fis_integer)))
    (lis_integer : K.lookup fis_integer = some ⟨ocis_integer, odis_integer, .func (PySem.W.fnOf "is_integer" "is_integer" (defArgs sIsInteger) (defBody sIsInteger) (defScope sIsInteger) .none kVis_integer dcis_integer pmis_integer anis_integer cdis_integer ctis_integer), slis_integer⟩) (cis_integer : PySem.W.codeIn K cdis_integer "is_integer" = true) (kis_integer : PySem.W.keepIn K (.ref fis_integer) = true)
    (ais_hole : PySem.W.nsIn K mainGlobals "is_hole" = some (some (.ref fis_hole)))
    (lis_hole : K.lookup fis_hole = some ⟨ocis_hole, odis_hole, .func (PySem.W.fnOf "is_hole" "is_hole" (defArgs sIsHole) (defBody sIsHole) (defScope sIsHole) .none kVis_hole dcis_hole pmis_hole anis_hole cdis_hole ctis_hole), slis_hole⟩) (cis_hole : PySem.W.codeIn K cdis_hole "is_hole" = true) (kis_hole : PySem.W.keepIn K (.ref fis_hole) = true)
    (aare_entries : PySem.W.nsIn K mainGlobals "are_entries" = some (some (.ref fare_entries)))
    (lare_entries : K.lookup fare_entries = some ⟨ocare_entries, odare_entries, .func (PySem.W.fnOf "are_entries" "are_entries" (defArgs sAreEntries) (defBody sAreEntries) (defScope sAreEntries) .none kVare_entries dcare_entries pmare_entries anare_entries cdare_entries ctare_entries), slare_entries⟩) (care_entries : PySem.W.codeIn K cdare_entries "are_entries" = true) (kare_entries : PySem.W.keepIn K (.ref fare_entries) = true)
    (ais_goal : PySem.W.nsIn K mainGlobals "is_goal" = some (some (.ref fis_goal)))
    (lis_goal : K.lookup fis_goal = some ⟨ocis_goal, odis_goal, .func (PySem.W.fnOf "is_goal" "is_goal" (defArgs sIsGoal) (defBody sIsGoal) (defScope sIsGoal) .none kVis_goal dcis_goal pmis_goal anis_goal cdis_goal ctis_goal), slis_goal⟩) (cis_goal : PySem.W.codeIn K cdis_goal "is_goal" = true) (kis_goal : PySem.W.keepIn K (.ref fis_goal) = true)
    (mCE : PySem.W.nsIn K mainGlobals "InvalidRule" = some (some (.ref CE)))
    (xErr : K.lookup CE = some (excClassObj nmErr qErr CE NNErr bsErr [.type "ValueError", .type "Exception", .type "BaseException", .type "object"] true snErr subErr abErr colErr ddErr m0Err m1Err m2Err m3Err m5Err "ValueError.__new__"))
    (saErr : PySem.W.findIn K (.ref CE) "__setattr__" = some (some (.builtin "object.__setattr__")))
    (exErr : PySem.W.subIn K (.ref CE) (.type "BaseException") = some true)
    (tyErr : PySem.W.typeIn K (.ref CE) = some (.type "type"))
    (kcErr : PySem.W.keepIn K (.ref CE) = true)
    (aErr : PySem.W.findIn K (.ref CE) "__init__" = some (some (.ref fErr)))
    (tErr : PySem.W.typeIn K (.ref fErr) = some (.type "function"))
    (lErr : K.lookup fErr = some ⟨ocErr, odErr, .func (PySem.W.fnOf "__init__" "InvalidRule.__init__" (defArgs sErr) (defBody sErr) (defScope sErr) .none kVErr dcErr pmErr anErr cdErr ctErr), slErr⟩) (cErr : PySem.W.codeIn K cdErr "InvalidRule.__init__" = true) (kErr : PySem.W.keepIn K (.ref fErr) = true)
    (noErr : PySem.W.findIn K (.ref CE) "field" = some none)
    (gaErr : PySem.W.findIn K (.ref CE) "__getattribute__" = some (some (.builtin "BaseException.__getattribute__")))
    (ggErr : PySem.W.findIn K (.ref CE) "__getattr__" = some none)
    (hdErr : PySem.W.hasDictIn K CE = true)
    (clErr : PySem.W.findIn K (.ref CE) "__class__" = some (some (.builtin "object.__class__")))
    (moErr : PySem.W.mroIn K CE (.type "object") = some true)
    (sVErr : PySem.W.subIn K (.ref CE) (.type "ValueError") = some true)
    (sEErr : PySem.W.subIn K (.ref CE) (.ref CE) = some true)
    (mCM : PySem.W.nsIn K mainGlobals "TooMany" = some (some (.ref CM)))
    (xMn : K.lookup CM = some (excClassObj nmMn qMn CM NNMn bsMn [.type "OverflowError", .type "ArithmeticError", .type "Exception", .type "BaseException", .type "object"] true snMn subMn abMn colMn ddMn m0Mn m1Mn m2Mn m3Mn m5Mn "OverflowError.__new__"))
    (saMn : PySem.W.findIn K (.ref CM) "__setattr__" = some (some (.builtin "object.__setattr__")))
    (exMn : PySem.W.subIn K (.ref CM) (.type "BaseException") = some true)
    (tyMn : PySem.W.typeIn K (.ref CM) = some (.type "type"))
    (kcMn : PySem.W.keepIn K (.ref CM) = true)
    (aMn : PySem.W.findIn K (.ref CM) "__init__" = some (some (.ref fMn)))
    (tMn : PySem.W.typeIn K (.ref fMn) = some (.type "function"))
    (lMn : K.lookup fMn = some ⟨ocMn, odMn, .func (PySem.W.fnOf "__init__" "TooMany.__init__" (defArgs sErrM) (defBody sErrM) (defScope sErrM) .none kVMn dcMn pmMn anMn cdMn ctMn), slMn⟩) (cMn : PySem.W.codeIn K cdMn "TooMany.__init__" = true) (kMn : PySem.W.keepIn K (.ref fMn) = true)
    (noMn : PySem.W.findIn K (.ref CM) "limit" = some none)
    (gaMn : PySem.W.findIn K (.ref CM) "__getattribute__" = some (some (.builtin "BaseException.__getattribute__")))
    (ggMn : PySem.W.findIn K (.ref CM) "__getattr__" = some none)
    (hdMn : PySem.W.hasDictIn K CM = true)
    (clMn : PySem.W.findIn K (.ref CM) "__class__" = some (some (.builtin "object.__class__")))
    (moMn : PySem.W.mroIn K CM (.type "object") = some true)
    (sVMn : PySem.W.subIn K (.ref CM) (.type "OverflowError") = some true)
    (sEMn : PySem.W.subIn K (.ref CM) (.ref CM) = some true)
    (acheck_parts : PySem.W.nsIn K mainGlobals "check_parts" = some (some (.ref fcheck_parts)))
    (lcheck_parts : K.lookup fcheck_parts = some ⟨occheck_parts, odcheck_parts, .func (PySem.W.fnOf "check_parts" "check_parts" (defArgs sCheckParts) (defBody sCheckParts) (defScope sCheckParts) .none kVcheck_parts dccheck_parts pmcheck_parts ancheck_parts cdcheck_parts ctcheck_parts), slcheck_parts⟩) (ccheck_parts : PySem.W.codeIn K cdcheck_parts "check_parts" = true) (kcheck_parts : PySem.W.keepIn K (.ref fcheck_parts) = true)
    (acopied_goal : PySem.W.nsIn K mainGlobals "copied_goal" = some (some (.ref fcopied_goal)))
    (lcopied_goal : K.lookup fcopied_goal = some ⟨occopied_goal, odcopied_goal, .func (PySem.W.fnOf "copied_goal" "copied_goal" (defArgs sCopiedGoal) (defBody sCopiedGoal) (defScope sCopiedGoal) .none kVcopied_goal dccopied_goal pmcopied_goal ancopied_goal cdcopied_goal ctcopied_goal), slcopied_goal⟩) (ccopied_goal : PySem.W.codeIn K cdcopied_goal "copied_goal" = true) (kcopied_goal : PySem.W.keepIn K (.ref fcopied_goal) = true)
    (awords_named : PySem.W.nsIn K mainGlobals "words_named" = some (some (.ref fwords_named)))
    (lwords_named : K.lookup fwords_named = some ⟨ocwords_named, odwords_named, .func (PySem.W.fnOf "words_named" "words_named" (defArgs sWordsNamed) (defBody sWordsNamed) (defScope sWordsNamed) .none kVwords_named dcwords_named pmwords_named anwords_named cdwords_named ctwords_named), slwords_named⟩) (cwords_named : PySem.W.codeIn K cdwords_named "words_named" = true) (kwords_named : PySem.W.keepIn K (.ref fwords_named) = true)
    (bInit : PySem.W.findIn K (.ref C) "__init__" = some (some (.ref fInit)))
    (iInit : PySem.W.isFn K (.ref fInit) = true)
    (lInit : K.lookup fInit = some ⟨ocInit, odInit, .func (PySem.W.fnOf "__init__" "Rule.__init__" (defArgs sRuleInit) (defBody sRuleInit) (defScope sRuleInit) (.ref TD) (.ref KD) dcInit pmInit anInit cdInit ctInit), slInit⟩) (cInit : PySem.W.codeIn K cdInit "Rule.__init__" = true) (kInit : PySem.W.keepIn K (.ref fInit) = true)
    (lTD : K.lookup TD = some ⟨ocT, odT, .seq [Value.none].toArray nT, slT⟩)
    (lKD : PySem.W.nsIn K KD "is_exact" = some (some (.bool false)))
    (arState : PySem.W.findIn K (.ref C) "state" = some (some (.ref prState)))
    (grState : PySem.W.specialIn K (.ref prState) "__get__" = some (some (.builtin "property.__get__")))
    (trState : PySem.W.takesIn K (.ref prState) = some true)
    (r_rState : PySem.W.recIn K prState "property" = some (.ref frState :: rrState))
    (lrState : K.lookup frState = some ⟨ocrState, odrState, .func (PySem.W.fnOf "state" "Rule.state" (defArgs sRState) (defBody sRState) (defScope sRState) .none kVrState dcrState pmrState anrState cdrState ctrState), slrState⟩) (crState : PySem.W.codeIn K cdrState "Rule.state" = true) (krState : PySem.W.keepIn K (.ref frState) = true)
    (arPattern : PySem.W.findIn K (.ref C) "pattern" = some (some (.ref prPattern)))
    (grPattern : PySem.W.specialIn K (.ref prPattern) "__get__" = some (some (.builtin "property.__get__")))
    (trPattern : PySem.W.takesIn K (.ref prPattern) = some true)
    (r_rPattern : PySem.W.recIn K prPattern "property" = some (.ref frPattern :: rrPattern))
    (lrPattern : K.lookup frPattern = some ⟨ocrPattern, odrPattern, .func (PySem.W.fnOf "pattern" "Rule.pattern" (defArgs sRPattern) (defBody sRPattern) (defScope sRPattern) .none kVrPattern dcrPattern pmrPattern anrPattern cdrPattern ctrPattern), slrPattern⟩) (crPattern : PySem.W.codeIn K cdrPattern "Rule.pattern" = true) (krPattern : PySem.W.keepIn K (.ref frPattern) = true)
    (arGoal : PySem.W.findIn K (.ref C) "goal" = some (some (.ref prGoal)))
    (grGoal : PySem.W.specialIn K (.ref prGoal) "__get__" = some (some (.builtin "property.__get__")))
    (trGoal : PySem.W.takesIn K (.ref prGoal) = some true)
    (r_rGoal : PySem.W.recIn K prGoal "property" = some (.ref frGoal :: rrGoal))
    (lrGoal : K.lookup frGoal = some ⟨ocrGoal, odrGoal, .func (PySem.W.fnOf "goal" "Rule.goal" (defArgs sRGoal) (defBody sRGoal) (defScope sRGoal) .none kVrGoal dcrGoal pmrGoal anrGoal cdrGoal ctrGoal), slrGoal⟩) (crGoal : PySem.W.codeIn K cdrGoal "Rule.goal" = true) (krGoal : PySem.W.keepIn K (.ref frGoal) = true)
    (arExact : PySem.W.findIn K (.ref C) "is_exact" = some (some (.ref prExact)))
    (grExact : PySem.W.specialIn K (.ref prExact) "__get__" = some (some (.builtin "property.__get__")))
    (trExact : PySem.W.takesIn K (.ref prExact) = some true)
    (r_rExact : PySem.W.recIn K prExact "property" = some (.ref frExact :: rrExact))
    (lrExact : K.lookup frExact = some ⟨ocrExact, odrExact, .func (PySem.W.fnOf "is_exact" "Rule.is_exact" (defArgs sRExact) (defBody sRExact) (defScope sRExact) .none kVrExact dcrExact pmrExact anrExact cdrExact ctrExact), slrExact⟩) (crExact : PySem.W.codeIn K cdrExact "Rule.is_exact" = true) (krExact : PySem.W.keepIn K (.ref frExact) = true)
    (arWords : PySem.W.findIn K (.ref C) "words" = some (some (.ref prWords)))
    (grWords : PySem.W.specialIn K (.ref prWords) "__get__" = some (some (.builtin "property.__get__")))
    (trWords : PySem.W.takesIn K (.ref prWords) = some true)
    (r_rWords : PySem.W.recIn K prWords "property" = some (.ref frWords :: rrWords))
    (lrWords : K.lookup frWords = some ⟨ocrWords, odrWords, .func (PySem.W.fnOf "words" "Rule.words" (defArgs sRWords) (defBody sRWords) (defScope sRWords) .none kVrWords dcrWords pmrWords anrWords cdrWords ctrWords), slrWords⟩) (crWords : PySem.W.codeIn K cdrWords "Rule.words" = true) (krWords : PySem.W.keepIn K (.ref frWords) = true)
    (rdCB : PySem.W.readsIn K CB (.type "type") = true)
    (gaCB : PySem.W.specialIn K (.ref CB) "__getattribute__" = some (some (.builtin "type.__getattribute__")))
    (astates_of : PySem.W.nsIn K mainGlobals "states_of" = some (some (.ref fstates_of)))
    (lstates_of : K.lookup fstates_of = some ⟨ocstates_of, odstates_of, .func (PySem.W.fnOf "states_of" "states_of" (defArgs sStatesOf) (defBody sStatesOf) (defScope sStatesOf) .none kVstates_of dcstates_of pmstates_of anstates_of cdstates_of ctstates_of), slstates_of⟩) (cstates_of : PySem.W.codeIn K cdstates_of "states_of" = true) (kstates_of : PySem.W.keepIn K (.ref fstates_of) = true)
    (awords_of : PySem.W.nsIn K mainGlobals "words_of" = some (some (.ref fwords_of)))
    (lwords_of : K.lookup fwords_of = some ⟨ocwords_of, odwords_of, .func (PySem.W.fnOf "words_of" "words_of" (defArgs sWordsOf) (defBody sWordsOf) (defScope sWordsOf) .none kVwords_of dcwords_of pmwords_of anwords_of cdwords_of ctwords_of), slwords_of⟩) (cwords_of : PySem.W.codeIn K cdwords_of "words_of" = true) (kwords_of : PySem.W.keepIn K (.ref fwords_of) = true)
    (achecked : PySem.W.nsIn K mainGlobals "checked" = some (some (.ref fchecked)))
    (lchecked : K.lookup fchecked = some ⟨occhecked, odchecked, .func (PySem.W.fnOf "checked" "checked" (defArgs sChecked) (defBody sChecked) (defScope sChecked) .none kVchecked dcchecked pmchecked anchecked cdchecked ctchecked), slchecked⟩) (cchecked : PySem.W.codeIn K cdchecked "checked" = true) (kchecked : PySem.W.keepIn K (.ref fchecked) = true)
    (bBin : PySem.W.findIn K (.ref CB) "__init__" = some (some (.ref fBin)))
    (iBin : PySem.W.isFn K (.ref fBin) = true)
    (lBin : K.lookup fBin = some ⟨ocBin, odBin, .func (PySem.W.fnOf "__init__" "Book.__init__" (defArgs sBookInit) (defBody sBookInit) (defScope sBookInit) .none kVBin dcBin pmBin anBin cdBin ctBin), slBin⟩) (cBin : PySem.W.codeIn K cdBin "Book.__init__" = true) (kBin : PySem.W.keepIn K (.ref fBin) = true)
    (abOf : PySem.W.findCls K (.ref CB) (.type "type") "of" = some (.get (.builtin "classmethod.__get__") (.ref pbOf) .none (.ref CB)))
    (r_bOf : PySem.W.recIn K pbOf "classmethod" = some (.ref fbOf :: rbOf))
    (fibOf : PySem.W.fnIn K fbOf = true)
    (lbOf : K.lookup fbOf = some ⟨ocbOf, odbOf, .func (PySem.W.fnOf "of" "Book.of" (defArgs sBookOf) (defBody sBookOf) (defScope sBookOf) .none kVbOf dcbOf pmbOf anbOf cdbOf ctbOf), slbOf⟩) (cbOf : PySem.W.codeIn K cdbOf "Book.of" = true) (kbOf : PySem.W.keepIn K (.ref fbOf) = true)
    (abRu : PySem.W.findIn K (.ref CB) "rules" = some (some (.ref pbRu)))
    (gbRu : PySem.W.specialIn K (.ref pbRu) "__get__" = some (some (.builtin "property.__get__")))
    (tbRu : PySem.W.takesIn K (.ref pbRu) = some true)
    (r_bRu : PySem.W.recIn K pbRu "property" = some (.ref fbRu :: rbRu))
    (lbRu : K.lookup fbRu = some ⟨ocbRu, odbRu, .func (PySem.W.fnOf "rules" "Book.rules" (defArgs sBookRules) (defBody sBookRules) (defScope sBookRules) .none kVbRu dcbRu pmbRu anbRu cdbRu ctbRu), slbRu⟩) (cbRu : PySem.W.codeIn K cdbRu "Book.rules" = true) (kbRu : PySem.W.keepIn K (.ref fbRu) = true)
    (abWo : PySem.W.findIn K (.ref CB) "words" = some (some (.ref pbWo)))
    (gbWo : PySem.W.specialIn K (.ref pbWo) "__get__" = some (some (.builtin "property.__get__")))
    (tbWo : PySem.W.takesIn K (.ref pbWo) = some true)
    (r_bWo : PySem.W.recIn K pbWo "property" = some (.ref fbWo :: rbWo))
    (lbWo : K.lookup fbWo = some ⟨ocbWo, odbWo, .func (PySem.W.fnOf "words" "Book.words" (defArgs sBWords) (defBody sBWords) (defScope sBWords) .none kVbWo dcbWo pmbWo anbWo cdbWo ctbWo), slbWo⟩) (cbWo : PySem.W.codeIn K cdbWo "Book.words" = true) (kbWo : PySem.W.keepIn K (.ref fbWo) = true)
    (aHAND : PySem.W.nsIn K mainGlobals "HAND" = some (some (.int 2 tkH)))
    (anext_signs : PySem.W.nsIn K mainGlobals "next_signs" = some (some (.ref fnext_signs)))
    (lnext_signs : K.lookup fnext_signs = some ⟨ocnext_signs, odnext_signs, .func (PySem.W.fnOf "next_signs" "next_signs" (defArgs sNextSigns) (defBody sNextSigns) (defScope sNextSigns) .none kVnext_signs dcnext_signs pmnext_signs annext_signs cdnext_signs ctnext_signs), slnext_signs⟩) (cnext_signs : PySem.W.codeIn K cdnext_signs "next_signs" = true) (knext_signs : PySem.W.keepIn K (.ref fnext_signs) = true)
    (ahands : PySem.W.nsIn K mainGlobals "hands" = some (some (.ref fhands)))
    (lhands : K.lookup fhands = some ⟨ochands, odhands, .func (PySem.W.fnOf "hands" "hands" (defArgs sHands) (defBody sHands) (defScope sHands) .none kVhands dchands pmhands anhands cdhands cthands), slhands⟩) (chands : PySem.W.codeIn K cdhands "hands" = true) (khands : PySem.W.keepIn K (.ref fhands) = true)
    (arows : PySem.W.nsIn K mainGlobals "rows" = some (some (.ref frows)))
    (lrows : K.lookup frows = some ⟨ocrows, odrows, .func (PySem.W.fnOf "rows" "rows" (defArgs sRows) (defBody sRows) (defScope sRows) .none kVrows dcrows pmrows anrows cdrows ctrows), slrows⟩) (crows : PySem.W.codeIn K cdrows "rows" = true) (krows : PySem.W.keepIn K (.ref frows) = true)
    (abegin : PySem.W.nsIn K mainGlobals "_law_begin" = some (some (.ref fbegin)))
    (lbegin : K.lookup fbegin = some ⟨ocbegin, odbegin, .func (PySem.W.fnOf "_law_begin" "_law_begin" (defArgs sBegin) (defBody sBegin) (defScope sBegin) .none kVbegin dcbegin pmbegin anbegin cdbegin ctbegin), slbegin⟩) (cbegin : PySem.W.codeIn K cdbegin "_law_begin" = true) (kbegin : PySem.W.keepIn K (.ref fbegin) = true)
    (adraw : PySem.W.nsIn K mainGlobals "_law_draw" = some (some (.ref fdraw)))
    (ldraw : K.lookup fdraw = some ⟨ocdraw, oddraw, .func (PySem.W.fnOf "_law_draw" "_law_draw" (defArgs sDraw) (defBody sDraw) (defScope sDraw) .none kVdraw dcdraw pmdraw andraw cddraw ctdraw), sldraw⟩) (cdraw : PySem.W.codeIn K cddraw "_law_draw" = true) (kdraw : PySem.W.keepIn K (.ref fdraw) = true)
    (apick : PySem.W.nsIn K mainGlobals "_law_pick" = some (some (.ref fpick)))
    (lpick : K.lookup fpick = some ⟨ocpick, odpick, .func (PySem.W.fnOf "_law_pick" "_law_pick" (defArgs sPick) (defBody sPick) (defScope sPick) .none kVpick dcpick pmpick anpick cdpick ctpick), slpick⟩) (cpick : PySem.W.codeIn K cdpick "_law_pick" = true) (kpick : PySem.W.keepIn K (.ref fpick) = true)
    (ashuf : PySem.W.nsIn K mainGlobals "_law_shuffled" = some (some (.ref fshuf)))
    (lshuf : K.lookup fshuf = some ⟨ocshuf, odshuf, .func (PySem.W.fnOf "_law_shuffled" "_law_shuffled" (defArgs sShuffled) (defBody sShuffled) (defScope sShuffled) .none kVshuf dcshuf pmshuf anshuf cdshuf ctshuf), slshuf⟩) (cshuf : PySem.W.codeIn K cdshuf "_law_shuffled" = true) (kshuf : PySem.W.keepIn K (.ref fshuf) = true)
    (amrule : PySem.W.nsIn K mainGlobals "_law_made_rule" = some (some (.ref fmrule)))
    (lmrule : K.lookup fmrule = some ⟨ocmrule, odmrule, .func (PySem.W.fnOf "_law_made_rule" "_law_made_rule" (defArgs sMadeR) (defBody sMadeR) (defScope sMadeR) .none kVmrule dcmrule pmmrule anmrule cdmrule ctmrule), slmrule⟩) (cmrule : PySem.W.codeIn K cdmrule "_law_made_rule" = true) (kmrule : PySem.W.keepIn K (.ref fmrule) = true)
    (amade : PySem.W.nsIn K mainGlobals "_law_made" = some (some (.ref fmade)))
    (lmade : K.lookup fmade = some ⟨ocmade, odmade, .func (PySem.W.fnOf "_law_made" "_law_made" (defArgs sMadeB) (defBody sMadeB) (defScope sMadeB) .none kVmade dcmade pmmade anmade cdmade ctmade), slmade⟩) (cmade : PySem.W.codeIn K cdmade "_law_made" = true) (kmade : PySem.W.keepIn K (.ref fmade) = true)
    (asrule : PySem.W.nsIn K mainGlobals "_law_some_rule" = some (some (.ref fsrule)))
    (lsrule : K.lookup fsrule = some ⟨ocsrule, odsrule, .func (PySem.W.fnOf "_law_some_rule" "_law_some_rule" (defArgs sSomeRule) (defBody sSomeRule) (defScope sSomeRule) .none kVsrule dcsrule pmsrule ansrule cdsrule ctsrule), slsrule⟩) (csrule : PySem.W.codeIn K cdsrule "_law_some_rule" = true) (ksrule : PySem.W.keepIn K (.ref fsrule) = true)
    (aplan : PySem.W.nsIn K mainGlobals "_law_planted" = some (some (.ref fplan)))
    (lplan : K.lookup fplan = some ⟨ocplan, odplan, .func (PySem.W.fnOf "_law_planted" "_law_planted" (defArgs sPlanted) (defBody sPlanted) (defScope sPlanted) .none kVplan dcplan pmplan anplan cdplan ctplan), slplan⟩) (cplan : PySem.W.codeIn K cdplan "_law_planted" = true) (kplan : PySem.W.keepIn K (.ref fplan) = true)
    (abook : PySem.W.nsIn K mainGlobals "_law_book" = some (some (.ref fbook)))
    (lbook : K.lookup fbook = some ⟨ocbook, odbook, .func (PySem.W.fnOf "_law_book" "_law_book" (defArgs sBook) (defBody sBook) (defScope sBook) .none kVbook dcbook pmbook anbook cdbook ctbook), slbook⟩) (cbook : PySem.W.codeIn K cdbook "_law_book" = true) (kbook : PySem.W.keepIn K (.ref fbook) = true)
    (anumb : PySem.W.nsIn K mainGlobals "_law_numbered" = some (some (.ref fnumb)))
    (lnumb : K.lookup fnumb = some ⟨ocnumb, odnumb, .func (PySem.W.fnOf "_law_numbered" "_law_numbered" (defArgs sNumbered) (defBody sNumbered) (defScope sNumbered) .none kVnumb dcnumb pmnumb annumb cdnumb ctnumb), slnumb⟩) (cnumb : PySem.W.codeIn K cdnumb "_law_numbered" = true) (knumb : PySem.W.keepIn K (.ref fnumb) = true)
    (aints : PySem.W.nsIn K mainGlobals "_law_integers" = some (some (.ref fints)))
    (lints : K.lookup fints = some ⟨ocints, odints, .func (PySem.W.fnOf "_law_integers" "_law_integers" (defArgs sIntegers) (defBody sIntegers) (defScope sIntegers) .none kVints dcints pmints anints cdints ctints), slints⟩) (cints : PySem.W.codeIn K cdints "_law_integers" = true) (kints : PySem.W.keepIn K (.ref fints) = true)
    (alhands : PySem.W.nsIn K mainGlobals "_law_hands" = some (some (.ref flhands)))
    (llhands : K.lookup flhands = some ⟨oclhands, odlhands, .func (PySem.W.fnOf "_law_hands" "_law_hands" (defArgs sLHands) (defBody sLHands) (defScope sLHands) .none kVlhands dclhands pmlhands anlhands cdlhands ctlhands), sllhands⟩) (clhands : PySem.W.codeIn K cdlhands "_law_hands" = true) (klhands : PySem.W.keepIn K (.ref flhands) = true)
    (asat : PySem.W.nsIn K mainGlobals "_law_signs_at" = some (some (.ref fsat)))
    (lsat : K.lookup fsat = some ⟨ocsat, odsat, .func (PySem.W.fnOf "_law_signs_at" "_law_signs_at" (defArgs sSignsAt) (defBody sSignsAt) (defScope sSignsAt) .none kVsat dcsat pmsat ansat cdsat ctsat), slsat⟩) (csat : PySem.W.codeIn K cdsat "_law_signs_at" = true) (ksat : PySem.W.keepIn K (.ref fsat) = true)
    (alrows : PySem.W.nsIn K mainGlobals "_law_rows" = some (some (.ref flrows)))
    (llrows : K.lookup flrows = some ⟨oclrows, odlrows, .func (PySem.W.fnOf "_law_rows" "_law_rows" (defArgs sLRows) (defBody sLRows) (defScope sLRows) .none kVlrows dclrows pmlrows anlrows cdlrows ctlrows), sllrows⟩) (clrows : PySem.W.codeIn K cdlrows "_law_rows" = true) (klrows : PySem.W.keepIn K (.ref flrows) = true)
    (aruled : PySem.W.nsIn K mainGlobals "_law_ruled" = some (some (.ref fruled)))
    (lruled : K.lookup fruled = some ⟨ocruled, odruled, .func (PySem.W.fnOf "_law_ruled" "_law_ruled" (defArgs sRuled) (defBody sRuled) (defScope sRuled) .none kVruled dcruled pmruled anruled cdruled ctruled), slruled⟩) (cruled : PySem.W.codeIn K cdruled "_law_ruled" = true) (kruled : PySem.W.keepIn K (.ref fruled) = true)
    (anamed : PySem.W.nsIn K mainGlobals "_law_named" = some (some (.ref fnamed)))
    (lnamed : K.lookup fnamed = some ⟨ocnamed, odnamed, .func (PySem.W.fnOf "_law_named" "_law_named" (defArgs sLNamed) (defBody sLNamed) (defScope sLNamed) .none kVnamed dcnamed pmnamed annamed cdnamed ctnamed), slnamed⟩) (cnamed : PySem.W.codeIn K cdnamed "_law_named" = true) (knamed : PySem.W.keepIn K (.ref fnamed) = true)
    (alaw : PySem.W.nsIn K mainGlobals "law" = some (some (.ref flaw)))
    (llaw : K.lookup flaw = some ⟨oclaw, odlaw, .func (PySem.W.fnOf "law" "law" (defArgs sLaw18) (defBody sLaw18) (defScope sLaw18) .none kVlaw dclaw pmlaw anlaw cdlaw ctlaw), sllaw⟩) (claw : PySem.W.codeIn K cdlaw "law" = true) (klaw : PySem.W.keepIn K (.ref flaw) = true) :
    ∃ fd : FuncData, (∀ (s : Shared) (v : Value), BindsTo s fd ⟨[v], []⟩ [("_law_script", v)]) ∧ ∀ base : Heap, K.In base → base.Ns mainGlobals mg → FnQ l.prog w K mg base 11 fa fd ["_law_script"] (spLaw18 K) := by
  have e := hfa.symm.trans (PySem.W.mg_of X G alaw)
  cases e
  have B : Blt mg := ⟨PySem.W.mg_none_of X G zisinstance, PySem.W.mg_none_of X G zstr, PySem.W.mg_none_of X G zint, PySem.W.mg_none_of X G zbool, PySem.W.mg_none_of X G zlist, PySem.W.mg_none_of X G ztuple, PySem.W.mg_none_of X G zlen, PySem.W.mg_none_of X G zall, PySem.W.mg_none_of X G zsorted, PySem.W.mg_none_of X G zset, PySem.W.mg_none_of X G zrange, PySem.W.mg_none_of X G zmin, PySem.W.mg_none_of X G zrepr, PySem.W.mg_none_of X G zzip⟩
  have meE : mg "enumerate" = none := PySem.W.mg_none_of X G zenumerate
  have Z : Holes K mg hd es nH := ⟨PySem.W.mg_of X G aH, lH, nH0, zH⟩
  have TDh : TxDict K w hd holeRows := ⟨nH0, es, nH, lH, litH, rowH⟩
  have T : RTxt K mg C := ⟨⟨pgC, hdC, poC, saC⟩, nC_state, nC_pattern, nC_goal, nC_is_exact, nC_words, nC_key, PySem.W.mg_of X G mC⟩
  have WC : AOwn K C := ⟨icC, pcC, clC, clg, clt, moC, kit_me⟩
  have TB : BTxt K mg CB := ⟨⟨pgCB, hdCB, poCB, saCB⟩, nCB_rules, nCB_reader, PySem.W.mg_of X G mCB⟩
  have Fis_word := fun_mk (st := sIsWord) lis_word cis_word kis_word
  have bis_word := Fis_word.binds (ps := ["value"]) fun _ _ _ _ _ _ us hl => match us, hl with | [_], _ => rfl
  have Fis_integer := fun_mk (st := sIsInteger) lis_integer cis_integer kis_integer
  have bis_integer := Fis_integer.binds (ps := ["value"]) fun _ _ _ _ _ _ us hl => match us, hl with | [_], _ => rfl
  have Fis_hole := fun_mk (st := sIsHole) lis_hole cis_hole kis_hole
  have bis_hole := Fis_hole.binds (ps := ["value", "is_free"]) fun _ _ _ _ _ _ us hl => match us, hl with | [_, _], _ => rfl
  have Fare_entries := fun_mk (st := sAreEntries) lare_entries care_entries kare_entries
  have bare_entries := Fare_entries.binds (ps := ["value", "most", "is_free"]) fun _ _ _ _ _ _ us hl => match us, hl with | [_, _, _], _ => rfl
  have Fis_goal := fun_mk (st := sIsGoal) lis_goal cis_goal kis_goal
  have bis_goal := Fis_goal.binds (ps := ["value", "pattern", "is_free"]) fun _ _ _ _ _ _ us hl => match us, hl with | [_, _, _], _ => rfl
  have FErr := fun_mk (st := sErr) lErr cErr kErr
  have bErr := FErr.binds (ps := ["self", "field"]) fun _ _ _ _ _ _ us hl => match us, hl with | [_, _], _ => rfl
  have TErr : ErrC K mg "InvalidRule" nField CE fErr := ⟨⟨⟨nmErr, qErr, NNErr, bsErr, _, snErr, subErr, abErr, colErr, ddErr, m0Err, m1Err, m2Err, m3Err, m5Err, xErr, by decide +kernel⟩, saErr, exErr, tyErr, kcErr⟩, aErr, tErr, noErr, PySem.W.mg_of X G mCE⟩
  have FMn := fun_mk (st := sErrM) lMn cMn kMn
  have bMn := FMn.binds (ps := ["self", "limit"]) fun _ _ _ _ _ _ us hl => match us, hl with | [_, _], _ => rfl
  have TMn : ErrV K mg "TooMany" nLimit CM fMn := ⟨⟨⟨nmMn, qMn, NNMn, bsMn, snMn, subMn, abMn, colMn, ddMn, m0Mn, m1Mn, m2Mn, m3Mn, m5Mn, xMn⟩, saMn, exMn, tyMn, kcMn⟩, aMn, tMn, noMn, PySem.W.mg_of X G mCM⟩
  have Fcheck_parts := fun_mk (st := sCheckParts) lcheck_parts ccheck_parts kcheck_parts
  have bcheck_parts := Fcheck_parts.binds (ps := ["state", "pattern", "goal", "is_exact", "is_free"]) fun _ _ _ _ _ _ us hl => match us, hl with | [_, _, _, _, _], _ => rfl
  have Fcopied_goal := fun_mk (st := sCopiedGoal) lcopied_goal ccopied_goal kcopied_goal
  have bcopied_goal := Fcopied_goal.binds (ps := ["goal"]) fun _ _ _ _ _ _ us hl => match us, hl with | [_], _ => rfl
  have Fwords_named := fun_mk (st := sWordsNamed) lwords_named cwords_named kwords_named
  have bwords_named := Fwords_named.binds (ps := ["pattern", "goal"]) fun _ _ _ _ _ _ us hl => match us, hl with | [_, _], _ => rfl
  have FInit : FunD K "__init__" "Rule.__init__" (defArgs sRuleInit) (defBody sRuleInit) (defScope sRuleInit) [.non] [("is_exact", .bl false)] fInit (PySem.W.fnOf "__init__" "Rule.__init__" (defArgs sRuleInit) (defBody sRuleInit) (defScope sRuleInit) (.ref TD) (.ref KD) dcInit pmInit anInit cdInit ctInit) :=
    ⟨⟨ocInit, odInit, _, _, dcInit, pmInit, anInit, cdInit, ctInit, slInit, rfl, lInit, cInit, .inr ⟨by simp, TD, _, [Value.none], nT, rfl, lTD, rfl, .cons rfl .nil⟩, .inr ⟨KD, rfl, fun z hz => by
      cases List.mem_singleton.mp hz
      exact ⟨_, lKD, rfl⟩⟩⟩, kInit⟩
  obtain ⟨itsI, mvI, bnInit⟩ := FInit.kbinds (ps := ["self", "state", "pattern", "goal", "is_exact"]) 4 ["is_exact"] [] (fun us its mv ws => us ++ ws) (by simp) (by simp) (fun _ hz => nomatch hz) (fun h1 _ _ h4 => vals_app h1 h4)
    (fun TT DD doc pm an cdv ct us its mv ws h1 h2 h3 h4 => match us, h1, its, h2, mv, h3, ws, h4 with | [_, _, _, _], _, [_], _, [], _, [_], _ => ⟨_, rfl, rfl⟩)
  have MI : Mk K C fInit := ⟨mkC, bInit, iInit, kcC⟩
  have FrState := fun_mk (st := sRState) lrState crState krState
  have brState := FrState.binds (ps := ["self"]) fun _ _ _ _ _ _ us hl => match us, hl with | [_], _ => rfl
  have FrPattern := fun_mk (st := sRPattern) lrPattern crPattern krPattern
  have brPattern := FrPattern.binds (ps := ["self"]) fun _ _ _ _ _ _ us hl => match us, hl with | [_], _ => rfl
  have FrGoal := fun_mk (st := sRGoal) lrGoal crGoal krGoal
  have brGoal := FrGoal.binds (ps := ["self"]) fun _ _ _ _ _ _ us hl => match us, hl with | [_], _ => rfl
  have FrExact := fun_mk (st := sRExact) lrExact crExact krExact
  have brExact := FrExact.binds (ps := ["self"]) fun _ _ _ _ _ _ us hl => match us, hl with | [_], _ => rfl
  have FrWords := fun_mk (st := sRWords) lrWords crWords krWords
  have brWords := FrWords.binds (ps := ["self"]) fun _ _ _ _ _ _ us hl => match us, hl with | [_], _ => rfl
  have Fstates_of := fun_mk (st := sStatesOf) lstates_of cstates_of kstates_of
  have bstates_of := Fstates_of.binds (ps := ["rules"]) fun _ _ _ _ _ _ us hl => match us, hl with | [_], _ => rfl
  have Fwords_of := fun_mk (st := sWordsOf) lwords_of cwords_of kwords_of
  have bwords_of := Fwords_of.binds (ps := ["rules"]) fun _ _ _ _ _ _ us hl => match us, hl with | [_], _ => rfl
  have Fchecked := fun_mk (st := sChecked) lchecked cchecked kchecked
  have bchecked := Fchecked.binds (ps := ["rules"]) fun _ _ _ _ _ _ us hl => match us, hl with | [_], _ => rfl
  have FBin := fun_mk (st := sBookInit) lBin cBin kBin
  have MB : Mk K CB fBin := ⟨mkCB, bBin, iBin, kcCB⟩
  have FbOf := fun_mk (st := sBookOf) lbOf cbOf kbOf
  have bbOf := FbOf.binds (ps := ["cls", "rules"]) fun _ _ _ _ _ _ us hl => match us, hl with | [_, _], _ => rfl
  have FbRu := fun_mk (st := sBookRules) lbRu cbRu kbRu
  have bbRu := FbRu.binds (ps := ["self"]) fun _ _ _ _ _ _ us hl => match us, hl with | [_], _ => rfl
  have qbRu : PropOf K CB "rules" pbRu fbRu := ⟨abRu, gbRu, tbRu, ⟨_, r_bRu⟩⟩
  have FbWo := fun_mk (st := sBWords) lbWo cbWo kbWo
  have bbWo := FbWo.binds (ps := ["self"]) fun _ _ _ _ _ _ us hl => match us, hl with | [_], _ => rfl
  have qbWo : PropOf K CB "words" pbWo fbWo := ⟨abWo, gbWo, tbWo, ⟨_, r_bWo⟩⟩
  have Fnext_signs := fun_mk (st := sNextSigns) lnext_signs cnext_signs knext_signs
  have bnext_signs := Fnext_signs.binds (ps := ["words", "signs"]) fun _ _ _ _ _ _ us hl => match us, hl with | [_, _], _ => rfl
  have Fhands := fun_mk (st := sHands) lhands chands khands
  have bhands := Fhands.binds (ps := ["words"]) fun _ _ _ _ _ _ us hl => match us, hl with | [_], _ => rfl
  have Frows := fun_mk (st := sRows) lrows crows krows
  have brows := Frows.binds (ps := ["book"]) fun _ _ _ _ _ _ us hl => match us, hl with | [_], _ => rfl
  have bzrows : KBn K (PySem.W.fnOf "rows" "rows" (defArgs sRows) (defBody sRows) (defScope sRows) .none kVrows dcrows pmrows anrows cdrows ctrows) ["book"] 0 ["book"] (fun us ws => us ++ ws) (fun vs zs => vs ++ zs) :=
    ⟨fun s us ws _ h1 h2 => match us, h1, ws, h2 with | [], _, [_], _ => .of_eq rfl, fun h1 h2 => vals_app h1 h2⟩
  have Fbegin := fun_mk (st := sBegin) lbegin cbegin kbegin
  have bbegin := Fbegin.binds (ps := ["_law_script"]) fun _ _ _ _ _ _ us hl => match us, hl with | [_], _ => rfl
  have Fdraw := fun_mk (st := sDraw) ldraw cdraw kdraw
  have bdraw := Fdraw.binds (ps := ["_law_tape", "_law_many"]) fun _ _ _ _ _ _ us hl => match us, hl with | [_, _], _ => rfl
  have Fpick := fun_mk (st := sPick) lpick cpick kpick
  have bpick := Fpick.binds (ps := ["_law_tape", "_law_some"]) fun _ _ _ _ _ _ us hl => match us, hl with | [_, _], _ => rfl
  have Fshuf := fun_mk (st := sShuffled) lshuf cshuf kshuf
  have bshuf := Fshuf.binds (ps := ["_law_tape", "_law_some"]) fun _ _ _ _ _ _ us hl => match us, hl with | [_, _], _ => rfl
  have Fmrule := fun_mk (st := sMadeR) lmrule cmrule kmrule
  have bmrule := Fmrule.binds (ps := ["_law_rule"]) fun _ _ _ _ _ _ us hl => match us, hl with | [_], _ => rfl
  have Fmade := fun_mk (st := sMadeB) lmade cmade kmade
  have bmade := Fmade.binds (ps := ["_law_rules"]) fun _ _ _ _ _ _ us hl => match us, hl with | [_], _ => rfl
  have Fsrule := fun_mk (st := sSomeRule) lsrule csrule ksrule
  have bsrule := Fsrule.binds (ps := ["_law_tape", "_law_words", "_law_states"]) fun _ _ _ _ _ _ us hl => match us, hl with | [_, _, _], _ => rfl
  have Fplan := fun_mk (st := sPlanted) lplan cplan kplan
  have bplan := Fplan.binds (ps := ["_law_tape", "_law_words", "_law_states"]) fun _ _ _ _ _ _ us hl => match us, hl with | [_, _, _], _ => rfl
  have Fbook := fun_mk (st := sBook) lbook cbook kbook
  have bbook := Fbook.binds (ps := ["_law_tape"]) fun _ _ _ _ _ _ us hl => match us, hl with | [_], _ => rfl
  have Fnumb := fun_mk (st := sNumbered) lnumb cnumb knumb
  have bnumb := Fnumb.binds (ps := ["_law_signs"]) fun _ _ _ _ _ _ us hl => match us, hl with | [_], _ => rfl
  have Fints := fun_mk (st := sIntegers) lints cints kints
  have bints := Fints.binds (ps := ["_law_signs"]) fun _ _ _ _ _ _ us hl => match us, hl with | [_], _ => rfl
  have Flhands := fun_mk (st := sLHands) llhands clhands klhands
  have blhands := Flhands.binds (ps := ["_law_words"]) fun _ _ _ _ _ _ us hl => match us, hl with | [_], _ => rfl
  have Fsat := fun_mk (st := sSignsAt) lsat csat ksat
  have bsat := Fsat.binds (ps := ["_law_words", "_law_hand"]) fun _ _ _ _ _ _ us hl => match us, hl with | [_, _], _ => rfl
  have Flrows := fun_mk (st := sLRows) llrows clrows klrows
  have blrows := Flrows.binds (ps := ["_law_words", "_law_states"]) fun _ _ _ _ _ _ us hl => match us, hl with | [_, _], _ => rfl
  have Fruled := fun_mk (st := sRuled) lruled cruled kruled
  have bruled := Fruled.binds (ps := ["_law_rules"]) fun _ _ _ _ _ _ us hl => match us, hl with | [_], _ => rfl
  have Fnamed := fun_mk (st := sLNamed) lnamed cnamed knamed
  have bnamed := Fnamed.binds (ps := ["_law_rules"]) fun _ _ _ _ _ _ us hl => match us, hl with | [_], _ => rfl
  have Flaw := fun_mk (st := sLaw18) llaw claw klaw
  refine ⟨PySem.W.fnOf "law" "law" (defArgs sLaw18) (defBody sLaw18) (defScope sLaw18) .none kVlaw dclaw pmlaw anlaw cdlaw ctlaw, fun s v => .of_eq rfl, fun base _ _ => ?_⟩
  have gis_word := ok_isword (P := l.prog) (w := w) (base := base) Fis_word B (PySem.W.mg_of X G aLETTERS)
  let ois_word := own_mk gis_word (PySem.W.mg_of X G ais_word) kis_word bis_word
  have gis_integer := ok_isint (P := l.prog) (w := w) (base := base) Fis_integer B
  let ois_integer := own_mk gis_integer (PySem.W.mg_of X G ais_integer) kis_integer bis_integer
  have gis_hole := ok_ishole Fis_hole B ois_integer Z
  let ois_hole := own_mk gis_hole (PySem.W.mg_of X G ais_hole) kis_hole bis_hole
  have gare_entries := ok_areent Fare_entries B ois_word ois_hole
  let oare_entries := own_mk gare_entries (PySem.W.mg_of X G aare_entries) kare_entries bare_entries
  have gis_goal := ok_isgoal Fis_goal B (PySem.W.mg_of X G aBEGINNING) ois_word oare_entries
  let ois_goal := own_mk gis_goal (PySem.W.mg_of X G ais_goal) kis_goal bis_goal
  have gErr := ok_err (P := l.prog) (w := w) (base := base) FErr TErr
  have gMn := ok_errm (P := l.prog) (w := w) (base := base) FMn TMn
  have gcheck_parts := ok_check Fcheck_parts B TErr gErr bErr (PySem.W.mg_of X G aPATTERN) ois_word oare_entries ois_goal
  let ocheck_parts := own_mk gcheck_parts (PySem.W.mg_of X G acheck_parts) kcheck_parts bcheck_parts
  have gcopied_goal := ok_copied (P := l.prog) (w := w) (base := base) Fcopied_goal B
  let ocopied_goal := own_mk gcopied_goal (PySem.W.mg_of X G acopied_goal) kcopied_goal bcopied_goal
  have gwords_named := ok_named Fwords_named B ois_word
  let owords_named := own_mk gwords_named (PySem.W.mg_of X G awords_named) kwords_named bwords_named
  have gInit := ok_rinit (fI := fInit) FInit T B ocheck_parts ocopied_goal owords_named
  have urState := ok_rstate (P := l.prog) (w := w) (base := base) FrState T
  let orState := prop_mk arState grState trState r_rState urState brState
  have urPattern := ok_rpattern (P := l.prog) (w := w) (base := base) FrPattern T
  let orPattern := prop_mk arPattern grPattern trPattern r_rPattern urPattern brPattern
  have urGoal := ok_rgoal (P := l.prog) (w := w) (base := base) FrGoal T
  let orGoal := prop_mk arGoal grGoal trGoal r_rGoal urGoal brGoal
  have urExact := ok_rexact (P := l.prog) (w := w) (base := base) FrExact T
  let orExact := prop_mk arExact grExact trExact r_rExact urExact brExact
  have urWords := ok_rwords (P := l.prog) (w := w) (base := base) FrWords T
  let orWords := prop_mk arWords grWords trWords r_rWords urWords brWords
  have gstates_of := ok_statesof Fstates_of B T orState orGoal
  let ostates_of := own_mk gstates_of (PySem.W.mg_of X G astates_of) kstates_of bstates_of
  have gwords_of := ok_wordsof Fwords_of B T orWords
  let owords_of := own_mk gwords_of (PySem.W.mg_of X G awords_of) kwords_of bwords_of
  have gchecked := ok_checked Fchecked B meE T WC TMn gMn bMn (PySem.W.mg_of X G aRULES) (PySem.W.mg_of X G aSTATES) (PySem.W.mg_of X G aWORDS) ostates_of owords_of
  let ochecked := own_mk gchecked (PySem.W.mg_of X G achecked) kchecked bchecked
  have gBin := ok_binit FBin TB ochecked
  have gbOf := ok_bof FbOf MB gBin
  have gbRuF := ok_brules (P := l.prog) (w := w) (base := base) FbRu TB
  have gbWoF := ok_bwords FbWo TB owords_of
  have gnext_signs := ok_next Fnext_signs B ois_integer
  let onext_signs := own_mk gnext_signs (PySem.W.mg_of X G anext_signs) knext_signs bnext_signs
  have ghands := ok_hands Fhands B onext_signs
  let ohands := own_mk ghands (PySem.W.mg_of X G ahands) khands bhands
  have grows := ok_rows Frows B T TB (PySem.W.mg_of X G aHAND) ohands onext_signs qbWo gbWoF bbWo qbRu gbRuF bbRu orState
  let orows := own_mk grows (PySem.W.mg_of X G arows) krows brows
  have gbegin := ok_begin (mg := mg) (P := l.prog) (w := w) (base := base) Fbegin
  let obegin := own_mk gbegin (PySem.W.mg_of X G abegin) kbegin bbegin
  have gdraw := ok_draw (P := l.prog) (w := w) (base := base) Fdraw B.int_ B.len_
  let odraw := own_mk gdraw (PySem.W.mg_of X G adraw) kdraw bdraw
  have gpick := ok_pick Fpick odraw B.len_
  let opick := own_mk gpick (PySem.W.mg_of X G apick) kpick bpick
  have gshuf := ok_shuffled Fshuf B odraw
  let oshuf := own_mk gshuf (PySem.W.mg_of X G ashuf) kshuf bshuf
  have gmrule := ok_mader Fmrule T MI gInit bnInit
  let omrule := own_mk gmrule (PySem.W.mg_of X G amrule) kmrule bmrule
  have gmade := ok_madeb Fmade TB omrule ⟨rdCB, gaCB⟩ ⟨abOf, ⟨_, r_bOf⟩, fibOf⟩ gbOf bbOf
  let omade := own_mk gmade (PySem.W.mg_of X G amade) kmade bmade
  have gsrule := ok_some Fsrule B odraw opick
  let osrule := own_mk gsrule (PySem.W.mg_of X G asrule) ksrule bsrule
  have gplan := ok_planted Fplan oshuf opick
  let oplan := own_mk gplan (PySem.W.mg_of X G aplan) kplan bplan
  have gbook := ok_book Fbook B odraw opick oshuf osrule oplan
  let obook := own_mk gbook (PySem.W.mg_of X G abook) kbook bbook
  have gnumb := ok_numbered (P := l.prog) (w := w) (base := base) Fnumb B
  let onumb := own_mk gnumb (PySem.W.mg_of X G anumb) knumb bnumb
  have gints := ok_integers Fints onumb
  let oints := own_mk gints (PySem.W.mg_of X G aints) kints bints
  have glhands := ok_lhands (P := l.prog) (w := w) (base := base) Flhands B
  let olhands := own_mk glhands (PySem.W.mg_of X G alhands) klhands blhands
  have gsat := ok_signsat Fsat B oints
  let osat := own_mk gsat (PySem.W.mg_of X G asat) ksat bsat
  have glrows := ok_lrows Flrows olhands osat
  let olrows := own_mk glrows (PySem.W.mg_of X G alrows) klrows blrows
  have gruled := ok_ruled (P := l.prog) (w := w) (base := base) Fruled B
  let oruled := own_mk gruled (PySem.W.mg_of X G aruled) kruled bruled
  have gnamed := ok_named18 (P := l.prog) (w := w) (base := base) Fnamed B
  let onamed := own_mk gnamed (PySem.W.mg_of X G anamed) knamed bnamed
  exact q_law18 Flaw B TB obegin obook orows bzrows omade oruled onamed olrows MB gBin
theorem walk {l : PySem.W.OpenLaw} {q : Program} {loose : List Str} {XP : (Str → Option Value) → Heap → Prop} {YP : World → Heap → Prop} {d : DefRec} {K : Params → PySem.W.Frag} (hn : l.most = some 63) (hdf : d.params.defaults = [])
    (hY : ∀ (w : World) (h : Heap), YP w h → (K w.params).In h)
    (F : ∀ (w : World) (mg : Str → Option Value) (fa : Addr) (h : Heap), (K w.params).In h → h.Ns mainGlobals mg → mg d.name = some (.ref fa) →
      ∃ fd : FuncData, (∀ (s : Shared) (u : Value), BindsTo s fd ⟨[u], []⟩ [("_law_script", u)]) ∧ ∀ base : Heap, (K w.params).In base → base.Ns mainGlobals mg → FnQ l.prog w (K w.params) mg base 11 fa fd ["_law_script"] (spLaw18 (K w.params))) :
    PySem.W.WalkO q loose XP YP l.row.toRowW d [] (fun f vs => PySem.call f vs) :=
  walk_quiet (most := 63) (n := 11) (x := "_law_script") (sp := fun w => spLaw18 (K w.params)) hn (by decide) hdf ⟨rfl, by decide, by decide⟩ hY F fun _ _ a ns hl _ hS => ⟨a, ns, rfl, hS, hl, fun _ => rfl⟩
end RL

/-! Names that are taken: the head makes no twins of its largest trees then (its compiled file stays below the size that is kept). -/
def PySem.W.Fast.tw17296051513174908408 : Unit := ()
def PySem.W.Fast.tw3371353285568655138 : Unit := ()
def PySem.W.Fast.tw16363363257152458413 : Unit := ()
def PySem.W.Fast.tw11069907257663082534 : Unit := ()
def PySem.W.Fast.tw11129634882367598670 : Unit := ()
def PySem.W.Fast.tw6214835295803560593 : Unit := ()
def PySem.W.Fast.tw14924676270327065749 : Unit := ()
def PySem.W.Fast.tw13475440551769231247 : Unit := ()
def PySem.W.Fast.tw6418358769208539619 : Unit := ()

-- NOMAP
open PySem PySem.W PyProof.Rows
set_option maxRecDepth 100000 in
set_option maxHeartbeats 0 in
theorem PySem.Challenge.cw_sentonward_k18_rows_listed_holds : PySem.Challenge.rw_sentonward_k18_rows_listed.Holds := by
  w_on; o_law; k_head; (case hw => w_witness2)
  k_fill
  refine RL.walk (l := PySem.Challenge.rw_sentonward_k18_rows_listed) rfl rfl (fun w h Y => PySem.W.kIn_of Y) ?F
  case F =>
    intro w mg fa h KX G hmg
    refine' RL.all_mk KX G hmg ?zisinstance ?zstr ?zint ?zbool ?zlist ?ztuple ?zlen ?zall ?zsorted ?zset ?zrange ?zmin ?zrepr ?zzip ?zenumerate ?aLETTERS ?aPATTERN ?aBEGINNING ?aHOLE_DIGITS ?aRULES ?aSTATES ?aWORDS ?aH ?lH ?nH0 ?zH ?litH ?rowH ?mC ?pgC ?hdC ?poC ?saC ?mkC ?kcC ?nC_state ?nC_pattern ?nC_goal ?nC_is_exact ?nC_words ?nC_key ?icC ?pcC ?clC ?moC ?clg ?clt ?mCB ?pgCB ?hdCB ?poCB ?saCB ?mkCB ?kcCB ?nCB_rules ?nCB_reader ?ais_word ?lis_word ?cis_word ?kis_word ?ais_integer ?lis_integer ?cis_integer ?kis_integer ?ais_hole ?lis_hole ?cis_hole ?kis_hole ?aare_entries ?lare_entries ?care_entries ?kare_entries ?ais_goal ?lis_goal ?cis_goal ?kis_goal ?mCE ?xErr ?saErr ?exErr ?tyErr ?kcErr ?aErr ?tErr ?lErr ?cErr ?kErr ?noErr ?gaErr ?ggErr ?hdErr ?clErr ?moErr ?sVErr ?sEErr ?mCM ?xMn ?saMn ?exMn ?tyMn ?kcMn ?aMn ?tMn ?lMn ?cMn ?kMn ?noMn ?gaMn ?ggMn ?hdMn ?clMn ?moMn ?sVMn ?sEMn ?acheck_parts ?lcheck_parts ?ccheck_parts ?kcheck_parts ?acopied_goal ?lcopied_goal ?ccopied_goal ?kcopied_goal ?awords_named ?lwords_named ?cwords_named ?kwords_named ?bInit ?iInit ?lInit ?cInit ?kInit ?lTD ?lKD ?arState ?grState ?trState ?r_rState ?lrState ?crState ?krState ?arPattern ?grPattern ?trPattern ?r_rPattern ?lrPattern ?crPattern ?krPattern ?arGoal ?grGoal ?trGoal ?r_rGoal ?lrGoal ?crGoal ?krGoal ?arExact ?grExact ?trExact ?r_rExact ?lrExact ?crExact ?krExact ?arWords ?grWords ?trWords ?r_rWords ?lrWords ?crWords ?krWords ?rdCB ?gaCB ?astates_of ?lstates_of ?cstates_of ?kstates_of ?awords_of ?lwords_of ?cwords_of ?kwords_of ?achecked ?lchecked ?cchecked ?kchecked ?bBin ?iBin ?lBin ?cBin ?kBin ?abOf ?r_bOf ?fibOf ?lbOf ?cbOf ?kbOf ?abRu ?gbRu ?tbRu ?r_bRu ?lbRu ?cbRu ?kbRu ?abWo ?gbWo ?tbWo ?r_bWo ?lbWo ?cbWo ?kbWo ?aHAND ?anext_signs ?lnext_signs ?cnext_signs ?knext_signs ?ahands ?lhands ?chands ?khands ?arows ?lrows ?crows ?krows ?abegin ?lbegin ?cbegin ?kbegin ?adraw ?ldraw ?cdraw ?kdraw ?apick ?lpick ?cpick ?kpick ?ashuf ?lshuf ?cshuf ?kshuf ?amrule ?lmrule ?cmrule ?kmrule ?amade ?lmade ?cmade ?kmade ?asrule ?lsrule ?csrule ?ksrule ?aplan ?lplan ?cplan ?kplan ?abook ?lbook ?cbook ?kbook ?anumb ?lnumb ?cnumb ?knumb ?aints ?lints ?cints ?kints ?alhands ?llhands ?clhands ?klhands ?asat ?lsat ?csat ?ksat ?alrows ?llrows ?clrows ?klrows ?aruled ?lruled ?cruled ?kruled ?anamed ?lnamed ?cnamed ?knamed ?alaw ?llaw ?claw ?klaw
    (case zisinstance => k_is)
    (case zstr => k_is)
    (case zint => k_is)
    (case zbool => k_is)
    (case zlist => k_is)
    (case ztuple => k_is)
    (case zlen => k_is)
    (case zall => k_is)
    (case zsorted => k_is)
    (case zset => k_is)
    (case zrange => k_is)
    (case zmin => k_is)
    (case zrepr => k_is)
    (case zzip => k_is)
    (case zenumerate => k_is)
    (case aLETTERS => k_is)
    (case aPATTERN => k_is)
    (case aBEGINNING => k_is)
    (case aHOLE_DIGITS => k_is)
    (case aRULES => k_is)
    (case aSTATES => k_is)
    (case aWORDS => k_is)
    (case aH => k_is)
    (case lH => k_is)
    (case nH0 => first | rfl | decide +kernel)
    (case zH => first | rfl | decide +kernel)
    (case litH => exact ⟨⟨_, _, rfl, rfl⟩, ⟨_, _, rfl, rfl⟩, True.intro⟩)
    (case rowH => exact ⟨⟨_, rfl⟩, ⟨_, rfl⟩, ⟨_, rfl⟩, ⟨_, rfl⟩, True.intro⟩)
    (case mC => k_is)
    (case pgC => k_is)
    (case hdC => k_is)
    (case poC => k_is)
    (case saC => k_is)
    (case mkC => k_is)
    (case kcC => k_is)
    (case nC_state => k_is)
    (case nC_pattern => k_is)
    (case nC_goal => k_is)
    (case nC_is_exact => k_is)
    (case nC_words => k_is)
    (case nC_key => k_is)
    (case icC => k_is)
    (case pcC => k_is)
    (case clC => k_is)
    (case moC => k_is)
    (case clg => k_is)
    (case clt => k_is)
    (case mCB => k_is)
    (case pgCB => k_is)
    (case hdCB => k_is)
    (case poCB => k_is)
    (case saCB => k_is)
    (case mkCB => k_is)
    (case kcCB => k_is)
    (case nCB_rules => k_is)
    (case nCB_reader => k_is)
    (case ais_word => k_is)
    (case lis_word => k_is)
    (case cis_word => k_is)
    (case kis_word => k_is)
    (case ais_integer => k_is)
    (case lis_integer => k_is)
    (case cis_integer => k_is)
    (case kis_integer => k_is)
    (case ais_hole => k_is)
    (case lis_hole => k_is)
    (case cis_hole => k_is)
    (case kis_hole => k_is)
    (case aare_entries => k_is)
    (case lare_entries => k_is)
    (case care_entries => k_is)
    (case kare_entries => k_is)
    (case ais_goal => k_is)
    (case lis_goal => k_is)
    (case cis_goal => k_is)
    (case kis_goal => k_is)
    (case mCE => k_is)
    (case xErr => k_is)
    (case saErr => k_is)
    (case exErr => k_is)
    (case tyErr => k_is)
    (case kcErr => k_is)
    (case aErr => k_is)
    (case tErr => k_is)
    (case lErr => k_is)
    (case cErr => k_is)
    (case kErr => k_is)
    (case noErr => k_is)
    (case gaErr => k_is)
    (case ggErr => k_is)
    (case hdErr => k_is)
    (case clErr => k_is)
    (case moErr => k_is)
    (case sVErr => k_is)
    (case sEErr => k_is)
    (case mCM => k_is)
    (case xMn => k_is)
    (case saMn => k_is)
    (case exMn => k_is)
    (case tyMn => k_is)
    (case kcMn => k_is)
    (case aMn => k_is)
    (case tMn => k_is)
    (case lMn => k_is)
    (case cMn => k_is)
    (case kMn => k_is)
    (case noMn => k_is)
    (case gaMn => k_is)
    (case ggMn => k_is)
    (case hdMn => k_is)
    (case clMn => k_is)
    (case moMn => k_is)
    (case sVMn => k_is)
    (case sEMn => k_is)
    (case acheck_parts => k_is)
    (case lcheck_parts => k_is)
    (case ccheck_parts => k_is)
    (case kcheck_parts => k_is)
    (case acopied_goal => k_is)
    (case lcopied_goal => k_is)
    (case ccopied_goal => k_is)
    (case kcopied_goal => k_is)
    (case awords_named => k_is)
    (case lwords_named => k_is)
    (case cwords_named => k_is)
    (case kwords_named => k_is)
    (case bInit => k_is)
    (case iInit => k_is)
    (case lInit => k_is)
    (case cInit => k_is)
    (case kInit => k_is)
    (case lTD => k_is)
    (case lKD => k_is)
    (case arState => k_is)
    (case grState => k_is)
    (case trState => k_is)
    (case r_rState => k_is)
    (case lrState => k_is)
    (case crState => k_is)
    (case krState => k_is)
    (case arPattern => k_is)
    (case grPattern => k_is)
    (case trPattern => k_is)
    (case r_rPattern => k_is)
    (case lrPattern => k_is)
    (case crPattern => k_is)
    (case krPattern => k_is)
    (case arGoal => k_is)
    (case grGoal => k_is)
    (case trGoal => k_is)
    (case r_rGoal => k_is)
    (case lrGoal => k_is)
    (case crGoal => k_is)
    (case krGoal => k_is)
    (case arExact => k_is)
    (case grExact => k_is)
    (case trExact => k_is)
    (case r_rExact => k_is)
    (case lrExact => k_is)
    (case crExact => k_is)
    (case krExact => k_is)
    (case arWords => k_is)
    (case grWords => k_is)
    (case trWords => k_is)
    (case r_rWords => k_is)
    (case lrWords => k_is)
    (case crWords => k_is)
    (case krWords => k_is)
    (case rdCB => k_is)
    (case gaCB => k_is)
    (case astates_of => k_is)
    (case lstates_of => k_is)
    (case cstates_of => k_is)
    (case kstates_of => k_is)
    (case awords_of => k_is)
    (case lwords_of => k_is)
    (case cwords_of => k_is)
    (case kwords_of => k_is)
    (case achecked => k_is)
    (case lchecked => k_is)
    (case cchecked => k_is)
    (case kchecked => k_is)
    (case bBin => k_is)
    (case iBin => k_is)
    (case lBin => k_is)
    (case cBin => k_is)
    (case kBin => k_is)
    (case abOf => k_is)
    (case r_bOf => k_is)
    (case fibOf => k_is)
    (case lbOf => k_is)
    (case cbOf => k_is)
    (case kbOf => k_is)
    (case abRu => k_is)
    (case gbRu => k_is)
    (case tbRu => k_is)
    (case r_bRu => k_is)
    (case lbRu => k_is)
    (case cbRu => k_is)
    (case kbRu => k_is)
    (case abWo => k_is)
    (case gbWo => k_is)
    (case tbWo => k_is)
    (case r_bWo => k_is)
    (case lbWo => k_is)
    (case cbWo => k_is)
    (case kbWo => k_is)
    (case aHAND => k_is)
    (case anext_signs => k_is)
    (case lnext_signs => k_is)
    (case cnext_signs => k_is)
    (case knext_signs => k_is)
    (case ahands => k_is)
    (case lhands => k_is)
    (case chands => k_is)
    (case khands => k_is)
    (case arows => k_is)
    (case lrows => k_is)
    (case crows => k_is)
    (case krows => k_is)
    (case abegin => k_is)
    (case lbegin => k_is)
    (case cbegin => k_is)
    (case kbegin => k_is)
    (case adraw => k_is)
    (case ldraw => k_is)
    (case cdraw => k_is)
    (case kdraw => k_is)
    (case apick => k_is)
    (case lpick => k_is)
    (case cpick => k_is)
    (case kpick => k_is)
    (case ashuf => k_is)
    (case lshuf => k_is)
    (case cshuf => k_is)
    (case kshuf => k_is)
    (case amrule => k_is)
    (case lmrule => k_is)
    (case cmrule => k_is)
    (case kmrule => k_is)
    (case amade => k_is)
    (case lmade => k_is)
    (case cmade => k_is)
    (case kmade => k_is)
    (case asrule => k_is)
    (case lsrule => k_is)
    (case csrule => k_is)
    (case ksrule => k_is)
    (case aplan => k_is)
    (case lplan => k_is)
    (case cplan => k_is)
    (case kplan => k_is)
    (case abook => k_is)
    (case lbook => k_is)
    (case cbook => k_is)
    (case kbook => k_is)
    (case anumb => k_is)
    (case lnumb => k_is)
    (case cnumb => k_is)
    (case knumb => k_is)
    (case aints => k_is)
    (case lints => k_is)
    (case cints => k_is)
    (case kints => k_is)
    (case alhands => k_is)
    (case llhands => k_is)
    (case clhands => k_is)
    (case klhands => k_is)
    (case asat => k_is)
    (case lsat => k_is)
    (case csat => k_is)
    (case ksat => k_is)
    (case alrows => k_is)
    (case llrows => k_is)
    (case clrows => k_is)
    (case klrows => k_is)
    (case aruled => k_is)
    (case lruled => k_is)
    (case cruled => k_is)
    (case kruled => k_is)
    (case anamed => k_is)
    (case lnamed => k_is)
    (case cnamed => k_is)
    (case knamed => k_is)
    (case alaw => k_is)
    (case llaw => k_is)
    (case claw => k_is)
    (case klaw => k_is)

