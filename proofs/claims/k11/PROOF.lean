import PyProof.Rows.All
import Wide.All
import OpenK.AllK
import Wide.FinOn
import HandS.ForMost
import HandS.ForExc
import HandS.ExcInit
import HandS.ExcField
import HandS.ClsMeth
import HandS.Property
import HandS.Defaults
import HandS.IsInst
import HandS.ExcIs
import HandS.StrMore
import HandS.Codes
import HandS.OwnEq
import HandS.Ends
import HandS.Words
import KE.DatumMoreOrd
import HandS.SlotsOwn
import PyProof.EqAt
import PyProof.EqKinds
import PyProof.TupleCall
import PyProof.Rows.SortShellAny
import HandS.Base
import HandS.Call
import HandS.List
import HandS.Set
import HandS.SetFor
import HandS.TupAny
import HandS.TupLen
import KE.KDictCopyH
import HandS.MakeKw
import HandS.MakeKwOnly
import HandS.Walk
import HandS.DictComp
import HandS.Star
import HandS.Zip
import HandS.SetKeys
import HandS.FStr
import HandS.WrittenGet
import PyProof.NeKinds
import HandS.Style
import HandS.RaiseMore
import HandS.Iter
import KE.GoesEnum
import KE.KExcInit
import PyProof.ExcBaseAll.OverflowError
import PyProof.P3Eq
import HandS.ListEq
import HandS.Comp
import HandS.Exc
import HandS.Lambda
import HandS.EndTab
import HandS.EndOwn
import HandS.TryMany
import PySem.Challenge.RW_sentonward_k11_whole_book_texts
set_option Elab.async false
set_option linter.all false
set_option maxRecDepth 100000
set_option maxHeartbeats 8000000
namespace AddrMath
/-- a letter from a to z -/
def isL (c : Nat) : Bool := decide (97 ≤ c) && decide (c ≤ 122)
/-- a word -/
def isW (l : List Nat) : Bool := decide (1 ≤ l.length) && (decide (l.length ≤ 8) && l.all isL)
theorem isW_iff {l : List Nat} : isW l = true ↔ 1 ≤ l.length ∧ l.length ≤ 8 ∧ ∀ c ∈ l, isL c = true := by
  unfold isW
  rw [Bool.and_eq_true, Bool.and_eq_true, decide_eq_true_eq, decide_eq_true_eq, List.all_eq_true]
theorem isL_ne {c d : Nat} (h : isL c = true) (hd : d < 97) : c ≠ d := by
  unfold isL at h
  rw [Bool.and_eq_true, decide_eq_true_eq, decide_eq_true_eq] at h
  omega
/-- cut at each d -/
def sp (d : Nat) : List Nat → List (List Nat)
  | [] => [[]]
  | c :: r => if c = d then [] :: sp d r else match sp d r with
    | [] => [[c]]
    | p :: q => (c :: p) :: q
theorem sp_ne (d : Nat) : ∀ l, sp d l ≠ []
  | [] => by simp [sp]
  | c :: r => by
    unfold sp
    split
    · simp
    · split <;> simp
theorem sp_hit (d : Nat) (r : List Nat) : sp d (d :: r) = [] :: sp d r := by
  show (if d = d then [] :: sp d r else _) = _
  rw [if_pos rfl]
/-- the first piece and the others -/
theorem sp_cons (d : Nat) (l : List Nat) : ∃ p q, sp d l = p :: q := by
  cases h : sp d l with
  | nil => exact absurd h (sp_ne d l)
  | cons p q => exact ⟨p, q, rfl⟩
theorem sp_miss {d c : Nat} {r p : List Nat} {q : List (List Nat)} (hc : c ≠ d) (h : sp d r = p :: q) : sp d (c :: r) = (c :: p) :: q := by
  show (if c = d then [] :: sp d r else match sp d r with | [] => [[c]] | p :: q => (c :: p) :: q) = _
  rw [if_neg hc, h]
theorem sp_pre {d : Nat} : ∀ {a r p : List Nat} {q : List (List Nat)}, d ∉ a → sp d r = p :: q → sp d (a ++ r) = (a ++ p) :: q
  | [], _, _, _, _, h => h
  | c :: a, r, p, q, ha, h => by
    have h1 : c ≠ d := fun e => ha (by rw [e]; exact List.mem_cons_self ..)
    have h2 : d ∉ a := fun e => ha (List.mem_cons_of_mem _ e)
    exact sp_miss h1 (sp_pre h2 h)
theorem sp_free {d : Nat} {a : List Nat} (h : d ∉ a) : sp d a = [a] := by
  have e := sp_pre (r := []) (p := []) (q := []) h (by rfl)
  rw [List.append_nil] at e
  exact e
theorem sp_at {d : Nat} {a r : List Nat} (h : d ∉ a) : sp d (a ++ d :: r) = a :: sp d r := by
  have e := sp_pre (r := d :: r) (p := []) (q := sp d r) h (sp_hit d r)
  rw [List.append_nil] at e
  exact e
/-! ### the law's own look -/
/-- the pieces behind the first one: words, the last one may be empty -/
def segs : List (List Nat) → Bool
  | [] => false
  | [p] => decide (p = []) || isW p
  | p :: q :: r => isW p && segs (q :: r)
def tailOk (b : List Nat) : Bool := match sp 47 b with
  | [] => false
  | p :: q => decide (p = []) && segs q
def cb (l : List Nat) : Bool := match sp 58 l with
  | [a] => decide (a = []) || isW a
  | [a, b] => isW a && (decide (b = []) || tailOk b)
  | _ => false
/-! ### sign by sign -/
def cC : Nat → List Nat → Bool
  | _, [] => true
  | k, c :: r => if isL c = true then decide (k < 8) && cC (k + 1) r else if c = 47 then decide (1 ≤ k) && cC 0 r else false
def cB : List Nat → Bool
  | [] => true
  | c :: r => if c = 47 then cC 0 r else false
def cA : Nat → List Nat → Bool
  | _, [] => true
  | k, c :: r => if isL c = true then decide (k < 8) && cA (k + 1) r else if c = 58 then decide (1 ≤ k) && cB r else false
theorem isW_long {p : List Nat} (h : 8 < p.length) : isW p = false := by
  cases e : isW p with
  | false => rfl
  | true =>
    have := isW_iff.mp e
    omega
theorem isW_bad {p : List Nat} {c : Nat} (h : c ∈ p) (hc : isL c = false) : isW p = false := by
  cases e : isW p with
  | false => rfl
  | true =>
    have := (isW_iff.mp e).2.2 c h
    rw [hc] at this
    cases this
theorem segs_bad {p : List Nat} {q : List (List Nat)} (h : isW p = false) (hp : p ≠ []) : segs (p :: q) = false := by
  cases q with
  | nil => simp [segs, h, hp]
  | cons a q => simp [segs, h]
theorem isW_mk {a : List Nat} (h8 : a.length ≤ 8) (hl : ∀ c ∈ a, isL c = true) : isW a = decide (1 ≤ a.length) := by
  by_cases h : 1 ≤ a.length
  · rw [decide_eq_true h]
    exact isW_iff.mpr ⟨h, h8, hl⟩
  · rw [decide_eq_false h]
    cases e : isW a with
    | false => rfl
    | true => exact absurd (isW_iff.mp e).1 h
theorem all_snoc {a : List Nat} {c : Nat} (hl : ∀ x ∈ a, isL x = true) (hc : isL c = true) : ∀ x ∈ a ++ [c], isL x = true := by
  intro x hx
  rcases List.mem_append.mp hx with h | h
  · exact hl x h
  · rw [List.mem_singleton.mp h]
    exact hc
theorem no_of {a : List Nat} {d : Nat} (hd : d < 97) (hl : ∀ x ∈ a, isL x = true) : d ∉ a := fun h => isL_ne (hl d h) hd rfl
theorem cC_segs : ∀ (l a : List Nat), a.length ≤ 8 → (∀ c ∈ a, isL c = true) → segs (sp 47 (a ++ l)) = cC a.length l
  | [], a, h8, hl => by
    rw [List.append_nil, sp_free (no_of (by decide) hl)]
    show (decide (a = []) || isW a) = true
    rw [isW_mk h8 hl]
    cases a <;> simp
  | c :: r, a, h8, hl => by
    have h47 := no_of (d := 47) (by decide) hl
    show _ = (if isL c = true then decide (a.length < 8) && cC (a.length + 1) r else if c = 47 then decide (1 ≤ a.length) && cC 0 r else false)
    by_cases hc : isL c = true
    · rw [if_pos hc]
      have hne : c ≠ 47 := isL_ne hc (by decide)
      by_cases hk : a.length < 8
      · have ih := cC_segs r (a ++ [c]) (by rw [List.length_append]; exact hk) (all_snoc hl hc)
        rw [List.append_assoc] at ih
        rw [decide_eq_true hk, Bool.true_and]
        have e : (a ++ [c]).length = a.length + 1 := by simp
        rw [e] at ih
        exact ih
      · rw [decide_eq_false hk, Bool.false_and]
        obtain ⟨p, q, hp⟩ := sp_cons 47 r
        rw [sp_pre h47 (sp_miss hne hp)]
        refine segs_bad (isW_long ?_) (by simp)
        rw [List.length_append, List.length_cons]
        omega
    · rw [if_neg hc]
      by_cases he : c = 47
      · rw [if_pos he, he, sp_at h47]
        obtain ⟨p, q, hp⟩ := sp_cons 47 r
        have ih := cC_segs r [] (by simp) (fun x hx => by cases hx)
        rw [List.nil_append] at ih
        rw [show cC 0 r = cC ([] : List Nat).length r from rfl, ← ih, hp, ← isW_mk h8 hl]
        rfl
      · rw [if_neg he]
        obtain ⟨p, q, hp⟩ := sp_cons 47 r
        rw [sp_pre h47 (sp_miss he hp)]
        exact segs_bad (isW_bad (c := c) (by simp) (by simpa using hc)) (by simp)
/-- behind the colon -/
theorem cB_tail (b : List Nat) : (decide (b = []) || tailOk b) = cB b := by
  cases b with
  | nil => rfl
  | cons c r =>
    show (decide (c :: r = []) || tailOk (c :: r)) = (if c = 47 then cC 0 r else false)
    rw [decide_eq_false (by simp), Bool.false_or]
    by_cases hc : c = 47
    · rw [if_pos hc, hc]
      unfold tailOk
      rw [sp_hit]
      show (decide (([] : List Nat) = []) && segs (sp 47 r)) = _
      rw [decide_eq_true rfl, Bool.true_and]
      exact cC_segs r [] (by simp) (fun x hx => by cases hx)
    · rw [if_neg hc]
      unfold tailOk
      obtain ⟨p, q, hp⟩ := sp_cons 47 r
      rw [sp_miss hc hp]
      show (decide (c :: p = []) && segs q) = false
      rw [decide_eq_false (by simp), Bool.false_and]
theorem cC_58 : ∀ (k : Nat) (r : List Nat), 58 ∈ r → cC k r = false
  | _, [], h => by cases h
  | k, c :: r, h => by
    show (if isL c = true then decide (k < 8) && cC (k + 1) r else if c = 47 then decide (1 ≤ k) && cC 0 r else false) = false
    by_cases hc : isL c = true
    · rw [if_pos hc]
      have hm : 58 ∈ r := by
        rcases List.mem_cons.mp h with e | e
        · exact absurd e.symm (isL_ne hc (by decide))
        · exact e
      rw [cC_58 (k + 1) r hm, Bool.and_false]
    · rw [if_neg hc]
      by_cases he : c = 47
      · rw [if_pos he]
        have hm : 58 ∈ r := by
          rcases List.mem_cons.mp h with e | e
          · omega
          · exact e
        rw [cC_58 0 r hm, Bool.and_false]
      · rw [if_neg he]
theorem cB_58 {r : List Nat} (h : 58 ∈ r) : cB r = false := by
  cases r with
  | nil => cases h
  | cons c r =>
    show (if c = 47 then cC 0 r else false) = false
    by_cases hc : c = 47
    · rw [if_pos hc]
      refine cC_58 0 r ?_
      rcases List.mem_cons.mp h with e | e
      · omega
      · exact e
    · rw [if_neg hc]
theorem sp_two {d : Nat} : ∀ {r : List Nat}, d ∈ r → ∃ p q s, sp d r = p :: q :: s
  | [], h => by cases h
  | c :: r, h => by
    by_cases hc : c = d
    · rw [hc, sp_hit]
      obtain ⟨p, q, e⟩ := sp_cons d r
      exact ⟨[], p, q, by rw [e]⟩
    · have hm : d ∈ r := by
        rcases List.mem_cons.mp h with e | e
        · exact absurd e.symm hc
        · exact e
      obtain ⟨p, q, s, e⟩ := sp_two hm
      exact ⟨c :: p, q, s, sp_miss hc e⟩
theorem cb_bad {p : List Nat} {q : List (List Nat)} {l : List Nat} (e : sp 58 l = p :: q) (h : isW p = false) (hp : p ≠ []) : cb l = false := by
  unfold cb
  rw [e]
  match q with
  | [] => simp [h, hp]
  | [b] => simp [h]
  | _ :: _ :: _ => rfl
theorem cA_cb : ∀ (l a : List Nat), a.length ≤ 8 → (∀ c ∈ a, isL c = true) → cb (a ++ l) = cA a.length l
  | [], a, h8, hl => by
    unfold cb
    rw [List.append_nil, sp_free (no_of (by decide) hl)]
    show (decide (a = []) || isW a) = true
    rw [isW_mk h8 hl]
    cases a <;> simp
  | c :: r, a, h8, hl => by
    have h58 := no_of (d := 58) (by decide) hl
    show _ = (if isL c = true then decide (a.length < 8) && cA (a.length + 1) r else if c = 58 then decide (1 ≤ a.length) && cB r else false)
    by_cases hc : isL c = true
    · rw [if_pos hc]
      have hne : c ≠ 58 := isL_ne hc (by decide)
      by_cases hk : a.length < 8
      · have ih := cA_cb r (a ++ [c]) (by rw [List.length_append]; exact hk) (all_snoc hl hc)
        rw [List.append_assoc] at ih
        rw [decide_eq_true hk, Bool.true_and]
        have e : (a ++ [c]).length = a.length + 1 := by simp
        rw [e] at ih
        exact ih
      · rw [decide_eq_false hk, Bool.false_and]
        obtain ⟨p, q, hp⟩ := sp_cons 58 r
        refine cb_bad (sp_pre h58 (sp_miss hne hp)) (isW_long ?_) (by simp)
        rw [List.length_append, List.length_cons]
        omega
    · rw [if_neg hc]
      by_cases he : c = 58
      · rw [if_pos he, he, ← isW_mk h8 hl]
        by_cases hm : 58 ∈ r
        · obtain ⟨p, q, s, e⟩ := sp_two hm
          rw [cB_58 hm, Bool.and_false]
          unfold cb
          rw [sp_at h58, e]
        · unfold cb
          rw [sp_at h58, sp_free hm, ← cB_tail]
      · rw [if_neg he]
        obtain ⟨p, q, hp⟩ := sp_cons 58 r
        exact cb_bad (sp_pre h58 (sp_miss he hp)) (isW_bad (c := c) (by simp) (by simpa using hc)) (by simp)
theorem cb_cA (l : List Nat) : cb l = cA 0 l := by
  have e := cA_cb l [] (by simp) (fun x hx => by cases hx)
  rw [List.nil_append] at e
  exact e
/-! ### how far it goes -/
def lC : Nat → List Nat → Nat
  | _, [] => 0
  | k, c :: r => if isL c = true then (if k < 8 then lC (k + 1) r + 1 else 0) else if c = 47 then (if 1 ≤ k then lC 0 r + 1 else 0) else 0
def lB : List Nat → Nat
  | [] => 0
  | c :: r => if c = 47 then lC 0 r + 1 else 0
def lA : Nat → List Nat → Nat
  | _, [] => 0
  | k, c :: r => if isL c = true then (if k < 8 then lA (k + 1) r + 1 else 0) else if c = 58 then (if 1 ≤ k then lB r + 1 else 0) else 0
theorem lB_cons (c : Nat) (r : List Nat) : lB (c :: r) = if c = 47 then lC 0 r + 1 else 0 := rfl
theorem cB_cons (c : Nat) (r : List Nat) : cB (c :: r) = if c = 47 then cC 0 r else false := rfl
theorem cC_take : ∀ (l : List Nat) (k j : Nat), j ≤ l.length → cC k (l.take j) = decide (j ≤ lC k l)
  | [], k, j, h => by
    have e : j = 0 := by simpa using h
    subst e
    rfl
  | c :: r, k, 0, _ => by simp [cC]
  | c :: r, k, j + 1, h => by
    have hj : j ≤ r.length := by simpa using h
    rw [List.take_succ_cons]
    unfold cC lC
    by_cases hc : isL c = true
    · rw [if_pos hc, if_pos hc]
      by_cases hk : k < 8
      · rw [if_pos hk, decide_eq_true hk, Bool.true_and, cC_take r (k + 1) j hj]
        simp
      · rw [if_neg hk, decide_eq_false hk, Bool.false_and]
        simp
    · rw [if_neg hc, if_neg hc]
      by_cases he : c = 47
      · rw [if_pos he, if_pos he]
        by_cases hk : 1 ≤ k
        · rw [if_pos hk, decide_eq_true hk, Bool.true_and, cC_take r 0 j hj]
          simp
        · rw [if_neg hk, decide_eq_false hk, Bool.false_and]
          simp
      · rw [if_neg he, if_neg he]
        simp
theorem cB_take (l : List Nat) (j : Nat) (h : j ≤ l.length) : cB (l.take j) = decide (j ≤ lB l) := by
  cases l with
  | nil =>
    have e : j = 0 := by simpa using h
    subst e
    rfl
  | cons c r =>
    cases j with
    | zero => simp [cB]
    | succ j =>
      have hj : j ≤ r.length := by simpa using h
      rw [List.take_succ_cons, cB_cons, lB_cons]
      by_cases he : c = 47
      · rw [if_pos he, if_pos he, cC_take r 0 j hj]
        simp
      · rw [if_neg he, if_neg he]
        simp
theorem cA_take : ∀ (l : List Nat) (k j : Nat), j ≤ l.length → cA k (l.take j) = decide (j ≤ lA k l)
  | [], k, j, h => by
    have e : j = 0 := by simpa using h
    subst e
    rfl
  | c :: r, k, 0, _ => by simp [cA]
  | c :: r, k, j + 1, h => by
    have hj : j ≤ r.length := by simpa using h
    rw [List.take_succ_cons]
    unfold cA lA
    by_cases hc : isL c = true
    · rw [if_pos hc, if_pos hc]
      by_cases hk : k < 8
      · rw [if_pos hk, decide_eq_true hk, Bool.true_and, cA_take r (k + 1) j hj]
        simp
      · rw [if_neg hk, decide_eq_false hk, Bool.false_and]
        simp
    · rw [if_neg hc, if_neg hc]
      by_cases he : c = 58
      · rw [if_pos he, if_pos he]
        by_cases hk : 1 ≤ k
        · rw [if_pos hk, decide_eq_true hk, Bool.true_and, cB_take r j hj]
          simp
        · rw [if_neg hk, decide_eq_false hk, Bool.false_and]
          simp
      · rw [if_neg he, if_neg he]
        simp
theorem lC_le : ∀ (l : List Nat) (k : Nat), lC k l ≤ l.length
  | [], _ => Nat.le_refl _
  | c :: r, k => by
    have i1 := lC_le r (k + 1)
    have i2 := lC_le r 0
    unfold lC
    rw [List.length_cons]
    repeat' split
    all_goals omega
theorem lB_le (l : List Nat) : lB l ≤ l.length := by
  cases l with
  | nil => exact Nat.le_refl _
  | cons c r =>
    have i2 := lC_le r 0
    rw [lB_cons, List.length_cons]
    split <;> omega
theorem lA_le : ∀ (l : List Nat) (k : Nat), lA k l ≤ l.length
  | [], _ => Nat.le_refl _
  | c :: r, k => by
    have i1 := lA_le r (k + 1)
    have i2 := lB_le r
    unfold lA
    rw [List.length_cons]
    repeat' split
    all_goals omega
/-- the longest beginning with which some text begins -/
theorem cb_take (l : List Nat) (j : Nat) (h : j ≤ l.length) : cb (l.take j) = decide (j ≤ lA 0 l) := by
  rw [cb_cA]
  exact cA_take l 0 j h
/-! ### the program's reader -/
/-- letters that are read on from k ones -/
def run : Nat → List Nat → Nat
  | _, [] => 0
  | k, c :: r => if k < 8 ∧ isL c = true then run (k + 1) r + 1 else 0
theorem run_le : ∀ (l : List Nat) (k : Nat), run k l ≤ l.length
  | [], _ => Nat.le_refl _
  | c :: r, k => by
    have := run_le r (k + 1)
    unfold run
    rw [List.length_cons]
    split <;> omega
theorem run_8 : ∀ (l : List Nat) (k : Nat), k ≤ 8 → k + run k l ≤ 8
  | [], k, h => h
  | c :: r, k, h => by
    unfold run
    split
    · rename_i hh
      have := run_8 r (k + 1) (by omega)
      omega
    · omega
theorem run_all : ∀ (l : List Nat) (k : Nat), ∀ c ∈ l.take (run k l), isL c = true
  | [], k, c, h => by simp [run] at h
  | d :: r, k, c, h => by
    unfold run at h
    split at h
    · rename_i hh
      rw [List.take_succ_cons] at h
      rcases List.mem_cons.mp h with e | e
      · rw [e]
        exact hh.2
      · exact run_all r (k + 1) c e
    · simp at h
theorem lC_run : ∀ (l : List Nat) (k : Nat), k ≤ 8 → lC k l = run k l + (if 1 ≤ k + run k l then lB (l.drop (run k l)) else 0)
  | [], k, _ => by
    simp [lC, run, lB]
  | c :: r, k, hk8 => by
    unfold lC run
    by_cases hc : isL c = true
    · by_cases hk : k < 8
      · rw [if_pos hc, if_pos hk, if_pos ⟨hk, hc⟩, lC_run r (k + 1) (by omega), List.drop_succ_cons]
        have e1 : 1 ≤ k + 1 + run (k + 1) r := by omega
        have e2 : 1 ≤ k + (run (k + 1) r + 1) := by omega
        rw [if_pos e1, if_pos e2]
        omega
      · have hn : ¬ (k < 8 ∧ isL c = true) := fun h => hk h.1
        rw [if_pos hc, if_neg hk, if_neg hn, List.drop_zero]
        have e : lB (c :: r) = 0 := by
          rw [lB_cons, if_neg (isL_ne hc (by decide))]
        rw [e]
        split <;> rfl
    · have hn : ¬ (k < 8 ∧ isL c = true) := fun h => hc h.2
      rw [if_neg hc, if_neg hn, List.drop_zero, Nat.zero_add, Nat.add_zero]
      rw [lB_cons]
      by_cases he : c = 47
      · rw [if_pos he, if_pos he]
        rfl
      · rw [if_neg he, if_neg he]
        split <;> rfl
theorem lA_run : ∀ (l : List Nat) (k : Nat), k ≤ 8 → lA k l = run k l + (if 1 ≤ k + run k l ∧ (l.drop (run k l)).head? = some 58 then lB (l.drop (run k l + 1)) + 1 else 0)
  | [], k, _ => by
    simp [lA, run]
  | c :: r, k, hk8 => by
    unfold lA run
    by_cases hc : isL c = true
    · by_cases hk : k < 8
      · rw [if_pos hc, if_pos hk, if_pos ⟨hk, hc⟩, lA_run r (k + 1) (by omega), List.drop_succ_cons, List.drop_succ_cons]
        have e1 : 1 ≤ k + 1 + run (k + 1) r := by omega
        have e2 : 1 ≤ k + (run (k + 1) r + 1) := by omega
        by_cases hh : (r.drop (run (k + 1) r)).head? = some 58
        · rw [if_pos ⟨e1, hh⟩, if_pos ⟨e2, hh⟩]
          omega
        · rw [if_neg (fun z => hh z.2), if_neg (fun z => hh z.2)]
      · have hn : ¬ (k < 8 ∧ isL c = true) := fun h => hk h.1
        rw [if_pos hc, if_neg hk, if_neg hn, List.drop_zero]
        rw [if_neg]
        intro z
        have : c = 58 := by simpa using z.2
        exact isL_ne hc (by decide) this
    · have hn : ¬ (k < 8 ∧ isL c = true) := fun h => hc h.2
      rw [if_neg hc, if_neg hn, List.drop_zero, Nat.zero_add, Nat.add_zero]
      show _ = (if 1 ≤ k ∧ some c = some 58 then lB r + 1 else 0)
      by_cases he : c = 58
      · rw [if_pos he]
        by_cases h1 : 1 ≤ k
        · rw [if_pos h1, if_pos ⟨h1, by rw [he]⟩]
        · rw [if_neg h1, if_neg (fun z => h1 z.1)]
      · rw [if_neg he, if_neg (fun z => he (Option.some.inj z.2))]
theorem lB_58 : ∀ (k : Nat) (r : List Nat), lC k r = r.length → 58 ∉ r
  | _, [], _ => by simp
  | k, c :: r, h => by
    unfold lC at h
    rw [List.length_cons] at h
    by_cases hc : isL c = true
    · rw [if_pos hc] at h
      split at h
      · have := lB_58 (k + 1) r (by omega)
        intro hm
        rcases List.mem_cons.mp hm with e | e
        · exact isL_ne hc (by decide) e.symm
        · exact this e
      · omega
    · rw [if_neg hc] at h
      split at h
      · split at h
        · have := lB_58 0 r (by omega)
          intro hm
          rcases List.mem_cons.mp hm with e | e
          · omega
          · exact this e
        · omega
      · omega
theorem lB_free {b : List Nat} (h : lB b = b.length) : 58 ∉ b := by
  cases b with
  | nil => simp
  | cons c r =>
    rw [lB_cons, List.length_cons] at h
    split at h
    · have := lB_58 0 r (by omega)
      intro hm
      rcases List.mem_cons.mp hm with e | e
      · omega
      · exact this e
    · omega
/-! ### what is told -/
inductive Told where
  | bad (n : Nat)
  | good (s : List Nat) (p : List (List Nat))
/-- the loop behind the colon: what is left, the path so far; how many signs stand ahead -/
def rdB : Nat → List Nat → Nat → List (List Nat) → Nat ⊕ List (List Nat)
  | _, [], _, path => .inr path
  | 0, _ :: _, n, _ => .inl n
  | f + 1, c :: r, n, path => if c ≠ 47 then .inl n else if run 0 r = 0 then .inl (n + 1) else rdB f (r.drop (run 0 r)) (n + 1 + run 0 r) (path ++ [r.take (run 0 r)])
def lastIs (b : List Nat) (c : Nat) : Prop := b.getLast? = some c
instance (b : List Nat) (c : Nat) : Decidable (lastIs b c) := inferInstanceAs (Decidable (_ = _))
def good (b : List Nat) : Prop := lB b = b.length ∧ ¬ lastIs b 47
instance (b : List Nat) : Decidable (good b) := inferInstanceAs (Decidable (_ ∧ _))
theorem rdB_is : ∀ (f : Nat) (b : List Nat) (n : Nat) (path : List (List Nat)), b.length ≤ f → rdB f b n path = if good b then .inr (path ++ (sp 47 b).tail) else .inl (n + lB b)
  | f, [], n, path, _ => by
    have g : good [] := ⟨rfl, by simp [lastIs]⟩
    rw [if_pos g]
    cases f <;> simp [rdB, sp]
  | 0, c :: r, n, path, h => by simp at h
  | f + 1, c :: r, n, path, h => by
    have hr : r.length ≤ f := by simpa using h
    show (if c ≠ 47 then .inl n else if run 0 r = 0 then .inl (n + 1) else rdB f (r.drop (run 0 r)) (n + 1 + run 0 r) (path ++ [r.take (run 0 r)])) = _
    by_cases hc : c = 47
    · rw [if_neg (fun z => z hc)]
      subst hc
      have e1 : lB (47 :: r) = lC 0 r + 1 := by rw [lB_cons, if_pos rfl]
      have e2 := lC_run r 0 (by decide)
      rw [Nat.zero_add] at e2
      by_cases hw : run 0 r = 0
      · rw [if_pos hw]
        rw [hw] at e2
        have e3 : lB (47 :: r) = 1 := by rw [e1, e2]; rfl
        have ng : ¬ good (47 :: r) := by
          intro g
          have g1 := g.1
          rw [e3, List.length_cons] at g1
          have : r = [] := List.length_eq_zero_iff.mp (by omega)
          subst this
          exact g.2 rfl
        rw [if_neg ng, e3]
      · rw [if_neg hw]
        have hw1 : 1 ≤ run 0 r := by omega
        rw [if_pos hw1] at e2
        have hle := run_le r 0
        have ih := rdB_is f (r.drop (run 0 r)) (n + 1 + run 0 r) (path ++ [r.take (run 0 r)]) (by rw [List.length_drop]; omega)
        rw [ih]
        have hsplit : r = r.take (run 0 r) ++ r.drop (run 0 r) := (List.take_append_drop _ _).symm
        have hlet := run_all r 0
        have h47 := no_of (d := 47) (by decide) hlet
        have hlen : (r.drop (run 0 r)).length = r.length - run 0 r := List.length_drop
        have iff : good (47 :: r) ↔ good (r.drop (run 0 r)) := by
          have hl : lB (47 :: r) = (47 :: r).length ↔ lB (r.drop (run 0 r)) = (r.drop (run 0 r)).length := by
            rw [e1, e2, hlen, List.length_cons]
            omega
          have hlast : lastIs (47 :: r) 47 ↔ lastIs (r.drop (run 0 r)) 47 := by
            unfold lastIs
            cases hd : r.drop (run 0 r) with
            | nil =>
              have ht : r.take (run 0 r) = r := by
                have e := hsplit
                rw [hd, List.append_nil] at e
                exact e.symm
              have hr0 : r ≠ [] := by
                intro e
                rw [e] at hw1
                simp [run] at hw1
              constructor
              · intro z
                rw [List.getLast?_cons_of_ne_nil hr0] at z
                have hm := List.mem_of_getLast? z
                rw [← ht] at hm
                exact absurd hm h47
              · intro z
                cases z
            | cons x y =>
              have e : 47 :: r = (47 :: r.take (run 0 r)) ++ (x :: y) := by
                rw [List.cons_append, ← hd, ← hsplit]
              have z : ((47 :: r.take (run 0 r)) ++ (x :: y)).getLast? = (x :: y).getLast? := by
                rw [List.getLast?_append]
                cases hz : (x :: y).getLast? with
                | none => simp at hz
                | some v => rfl
              rw [e, z]
          unfold good
          rw [hl, hlast]
        by_cases g : good (47 :: r)
        · rw [if_pos g, if_pos (iff.mp g)]
          rw [sp_hit, List.tail_cons]
          have g2 := (iff.mp g).1
          have key : sp 47 r = r.take (run 0 r) :: (sp 47 (r.drop (run 0 r))).tail := by
            cases hd : r.drop (run 0 r) with
            | nil =>
              have ht : r.take (run 0 r) = r := by
                have e := hsplit
                rw [hd, List.append_nil] at e
                exact e.symm
              rw [ht] at h47 ⊢
              rw [sp_free h47]
              rfl
            | cons x y =>
              have hx : x = 47 := by
                rw [hd, lB_cons] at g2
                split at g2
                · assumption
                · simp at g2
              subst hx
              have e : r = r.take (run 0 r) ++ 47 :: y := by
                rw [← hd]
                exact hsplit
              rw [sp_hit, List.tail_cons]
              exact (congrArg (sp 47) e).trans (sp_at h47)
          rw [key, List.append_assoc]
          rfl
        · rw [if_neg g, if_neg (fun z => g (iff.mpr z)), e1, e2]
          congr 1
          omega
    · rw [if_pos hc]
      have e : lB (c :: r) = 0 := by rw [lB_cons, if_neg hc]
      have ng : ¬ good (c :: r) := by
        intro g
        have := g.1
        rw [e, List.length_cons] at this
        omega
      rw [if_neg ng, e]
      rfl
/-- the whole reader -/
def rd (l : List Nat) : Told :=
  if run 0 l = 0 ∨ (l.drop (run 0 l)).head? ≠ some 58 then .bad (run 0 l)
  else match rdB l.length (l.drop (run 0 l + 1)) (run 0 l + 1) [] with
    | .inl n => .bad n
    | .inr p => .good (l.take (run 0 l)) p
/-- the law's own -/
def due (l : List Nat) : Told :=
  if lA 0 l < l.length then .bad (lA 0 l) else match sp 58 l with
  | [a, b] => if lastIs b 47 then .bad (lA 0 l) else .good a (sp 47 b).tail
  | _ => .bad (lA 0 l)
theorem rd_due (l : List Nat) : rd l = due l := by
  have e := lA_run l 0 (by decide)
  rw [Nat.zero_add] at e
  have hle := run_le l 0
  have hlet := run_all l 0
  have h58 := no_of (d := 58) (by decide) hlet
  unfold rd
  by_cases hw : run 0 l = 0 ∨ (l.drop (run 0 l)).head? ≠ some 58
  · rw [if_pos hw]
    have hn : ¬ (1 ≤ run 0 l ∧ (l.drop (run 0 l)).head? = some 58) := by
      rintro ⟨h1, h2⟩
      rcases hw with h | h
      · omega
      · exact h h2
    rw [if_neg hn, Nat.add_zero] at e
    unfold due
    rw [e]
    by_cases hlt : run 0 l < l.length
    · rw [if_pos hlt]
    · rw [if_neg hlt]
      have ht : l.take (run 0 l) = l := List.take_of_length_le (by omega)
      rw [ht] at h58
      rw [sp_free h58]
  · rw [if_neg hw]
    have h1 : 1 ≤ run 0 l := by
      rcases Nat.eq_zero_or_pos (run 0 l) with h | h
      · exact absurd (.inl h) hw
      · exact h
    have h2 : (l.drop (run 0 l)).head? = some 58 := by
      by_cases h : (l.drop (run 0 l)).head? = some 58
      · exact h
      · exact absurd (.inr h) hw
    rw [if_pos ⟨h1, h2⟩] at e
    have hd : l.drop (run 0 l) = 58 :: l.drop (run 0 l + 1) := by
      cases hx : l.drop (run 0 l) with
      | nil =>
        rw [hx] at h2
        cases h2
      | cons x y =>
        rw [hx] at h2
        have ex : x = 58 := by simpa using h2
        have ey : y = l.drop (run 0 l + 1) := by
          have z := congrArg (List.drop 1) hx
          rw [List.drop_drop] at z
          simpa using z.symm
        rw [ex, ey]
    have hl : l = l.take (run 0 l) ++ 58 :: l.drop (run 0 l + 1) := by
      rw [← hd]
      exact (List.take_append_drop _ _).symm
    generalize hb : l.drop (run 0 l + 1) = b at *
    have hlen : l.length = run 0 l + (b.length + 1) := by
      have z := congrArg List.length hl
      rw [List.length_append, List.length_take, List.length_cons, Nat.min_eq_left hle] at z
      exact z
    rw [rdB_is l.length b (run 0 l + 1) [] (by omega)]
    have hsp : sp 58 l = l.take (run 0 l) :: sp 58 b := (congrArg (sp 58) hl).trans (sp_at h58)
    have hbl := lB_le b
    unfold due
    rw [e]
    by_cases hfull : lB b = b.length
    · have hnl : ¬ (run 0 l + (lB b + 1) < l.length) := by omega
      rw [if_neg hnl, hsp, sp_free (lB_free hfull)]
      by_cases hz : lastIs b 47
      · have ng : ¬ good b := fun g => g.2 hz
        rw [if_neg ng]
        show Told.bad _ = (if lastIs b 47 then Told.bad _ else _)
        rw [if_pos hz]
        congr 1
        omega
      · rw [if_pos (show good b from ⟨hfull, hz⟩)]
        show Told.good _ _ = (if lastIs b 47 then _ else Told.good _ _)
        rw [if_neg hz]
        rfl
    · have hlt : run 0 l + (lB b + 1) < l.length := by omega
      rw [if_pos hlt, if_neg (fun g : good b => hfull g.1)]
      show Told.bad _ = Told.bad _
      congr 1
      omega
end AddrMath

/-! A law whose body needs to know that no repr is under way: its def's promise where the list of running reprs is known to be empty, and the end of the row by it. -/
namespace GR
open PySem PySem.Spec PyProof.Rows L2 SX
/-- no repr runs -/
abbrev Quiet (Ar : Around) : Prop := Ar.guards = some []
theorem quiet_deeper {Ar : Around} {e : Env} (h : Quiet Ar) : Quiet (Ar.deeper e) := h
structure FnQ (pr : Program) (wo : World) (F : PySem.W.Frag) (gl : Str → Option Value) (b0 : Heap) (n : Nat) (at_ : Addr) (fd : FuncData) (names : List Str) (sp : Sp) : Prop where
  many : ∀ vs H Q E, sp vs H Q E → vs.length = names.length
  runs : ∀ (Ar : Around) (fs : List Env) (s : Shared) (H : Hp) (gs : Args) (us : List Value) (vs : List V) (Q : VK) (E : XK),
    Quiet Ar → Room n Ar → Env0 pr wo F gl b0 Ar fs s H → BindsTo s fd gs (names.zip us) → Vals vs us → sp vs H Q E →
    codeAny (model pr wo) Ar (.call (.ref at_) gs) (CR CX0 fs pr wo H s Q E) s
section
variable {pr : Program} {wo : World} {F : PySem.W.Frag} {gl : Str → Option Value} {b0 : Heap}
theorem quiet_fn {x qual : Str} {st : Stmt} {at_ : Addr} {fd : FuncData} {N names : List Str} {n : Nat} {sp : Sp} (D : Fun F x qual st at_ fd) (S : FnScope N names (defScope st))
    (many : ∀ vs H Q E, sp vs H Q E → vs.length = names.length)
    (body : ∀ (cd : Value) (Ar : Around) (fs : List Env) (s : Shared) (H : Hp) (vs : List V) (Q : VK) (E : XK), Quiet Ar →
      Room n (Ar.deeper (envOfC qual (defScope st) s.heap.objs.size at_ cd)) → sp vs H Q E →
      ∃ t, PSs (cxOf CX0 pr wo F gl b0 N qual (defScope st) at_ cd Ar fs s H E).nox (defBody st) t ∧
        t { nx := fun _ H' => Q .non H', rt := Q } (start N vs) H) :
    FnQ pr wo F gl b0 (n + 1) at_ fd names sp := by
  obtain ⟨oc, od, kV, doc, pm, an, cd, ct, osl, rfl, here, code⟩ := D.ex
  refine ⟨many, ?_⟩
  intro Ar fs s H gs us vs Q E quiet room e0 binds rel want
  have FX : F.In s.heap := e0.mod.kin.keeps (fun b o e => (e0.bs b o e).1)
  have lim : s.heap.NoLimit := e0.mod.nolimit.keeps (fun b o e => (e0.bs b o e).1)
  refine codeAny_call_function room.depth (FX _ _ here) rfl S.co S.gen rfl (PySem.W.codeRec_of FX code) (binds _ _ _ _ ?_)
  refine wpAny_newFunctionEnv_cells S.kind ?_ (fun en en_is s1 inside => ?_)
  · rintro ⟨nm, v⟩ mem
    rcases S.par nm (List.of_mem_zip mem).1 with q | q
    · exact Or.inl q
    · exact Or.inr ⟨q, PySem.W.cellsFrom_some _ _ _ (Or.inl q)⟩
  subst en_is
  refine ⟨lim.keeps inside.toInCall.keep, codeAny_func ?_⟩
  obtain ⟨t, reads, does⟩ := body cd Ar fs s H vs Q E quiet (room.deeper _) want
  have I0 := inv_start (CX := CX0) (E := E) S room.hd e0 (many _ _ _ _ want) rel inside
  refine wpAny_mono (reads.nox.run [] s1 (start N vs) H _ I0 does) ?_ (fun _ _ h => h)
  intro fl s' ends
  cases fl with
  | next =>
    obtain ⟨σ', H', J, q⟩ := ends
    exact ⟨V.non, H', J.os, J.bare, J.base, J.hok, rfl, q⟩
  | ret u =>
    obtain ⟨v, σ', H', J, rv, q⟩ := ends
    exact ⟨v, H', J.os, J.bare, J.base, J.hok, rv, q⟩
  | brk =>
    obtain ⟨_, _, _, z⟩ := ends
    exact z.elim
  | cont =>
    obtain ⟨_, _, _, z⟩ := ends
    exact z.elim
end
/-- the heap behind the top with the script alone in view -/
theorem quiet_from {pr : Program} {wo : World} {F : PySem.W.Frag} {gl gb : Str → Option Value} {n : Nat} {at_ sc : Addr} {fd : FuncData} {x : Str} {sp : Sp} {s : Shared} {ns : List Int} {ob : Obj} {H : Hp}
    (inF : F.In s.heap) (nsm : s.heap.Ns mainGlobals gl) (nsb : s.heap.Ns builtinsNs gb) (bb : ∀ y : Str, y ≠ "__name__" → gb y = bootBuiltins y) (lim : s.heap.NoLimit) (ng : s.gens = #[])
    (atS : s.heap.get? sc = some ob) (seq : ∃ its k, ob.data = .seq its k) (room : Room n callerA)
    (D : ∀ b0 : Heap, F.In b0 → b0.Ns mainGlobals gl → FnQ pr wo F gl b0 n at_ fd [x] sp) (binds : ∀ (s : Shared) (u : Value), BindsTo s fd ⟨[u], []⟩ [(x, u)])
    (want : sp [.ref sc] H (fun v _ => v = .bl true) fun _ _ _ => False)
    (only : Only H) (ok : HOk pr wo H s.heap) (isS : ∀ b, H b ≠ none → b = sc) (away : H sc ≠ none → F.lookup sc = none) :
    codeAny (model pr wo) callerA (.call (.ref at_) ⟨[.ref sc], []⟩) (fun r s' => r = .ok (.ret (.bool true)) ∧ OldK s.heap s'.heap ∧ s'.os = s.os ∧ AllBare s'.gens) s := by
  have out : ∀ {b : Addr} {o : Obj}, s.heap.get? b = some o → (b = sc → H b = none) → (hidT s.heap H).get? b = some o := fun {b o} e h => hidT_get e (by
    cases q : H b with
    | none => rfl
    | some u => exact (by rw [h (isS b (by rw [q]; exact fun z => nomatch z))] at q; cases q))
  have dict : ∀ {b : Addr} {m : Str → Option Value}, s.heap.Ns b m → (hidT s.heap H).Ns b m := by
    rintro b m ⟨o, es, ep, e, d, rest⟩
    refine ⟨o, es, ep, out e (fun z => ?_), d, rest⟩
    exfalso
    subst z
    obtain ⟨its, k, hs⟩ := seq
    rw [atS] at e
    cases e
    rw [hs] at d
    cases d
  have inB : F.In (hidT s.heap H) := fun b o e => out (inF b o e) (fun z => by
    cases q : H b with
    | none => rfl
    | some u =>
      rw [z] at q e
      rw [away (by rw [q]; exact fun z => nomatch z)] at e
      cases e)
  have e0 : Env0 pr wo F gl (hidT s.heap H) callerA [] s H := by
    refine ⟨rfl, ⟨inB, dict nsm, ⟨gb, dict nsb, bb⟩, ?_⟩, fun b o e => of_hidT e, Nat.le_of_eq (hidT_size _ _), trivial, ?_, ok, .of_eq ng⟩
    · obtain ⟨mc, h1, h2⟩ := lim
      exact ⟨mc, dict h1, h2⟩
    · intro b hb
      cases (show b ∈ ([] : List Addr) from hb)
  refine codeAny_mono ((D _ inB (dict nsm)).runs callerA [] s H ⟨[.ref sc], []⟩ [.ref sc] [.ref sc] _ _ rfl room e0 (binds s (.ref sc)) (.cons rfl .nil) want) ?_
  rintro (e | fl) s' h
  · exact (show False from h).elim
  cases fl with
  | next => exact (show False from h).elim
  | brk => exact (show False from h).elim
  | cont => exact (show False from h).elim
  | ret u =>
    obtain ⟨v, H', os, bare, un, ok', rel, q⟩ := h
    cases (show v = V.bl true from q)
    cases (show u = Value.bool true from rel)
    refine ⟨rfl, OldK.of_keep (fun b o e => ?_), os, bare⟩
    cases q : H b with
    | none => exact un.keep b o e q (fun z => by cases (show b ∈ ([] : List Addr) from z)) (by simp)
    | some u =>
      rcases only b with z | ⟨ob', xs, z⟩
      · rw [q] at z
        cases z
      · have p1 := (ok b _ z).1
        have p2 := (ok' b _ (un.frzs b ob' _ z)).1
        rw [e] at p1
        cases p1
        exact p2
/-- the end of a row whose law knows that no repr runs -/
theorem walk_quiet {l : PySem.W.OpenLaw} {most n : Nat} {q : Program} {loose : List Str} {XP : (Str → Option Value) → Heap → Prop} {YP : World → Heap → Prop} {d : DefRec} {F : Params → PySem.W.Frag} {sp : World → Sp} {x : Str}
    (hm : l.most = some most) (small : most ≤ sizeLine) (nd : d.params.defaults = []) (room : Room n callerA)
    (hY : ∀ (wo : World) (h : Heap), YP wo h → (F wo.params).In h)
    (D : ∀ (wo : World) (gl : Str → Option Value) (at_ : Addr) (h : Heap), (F wo.params).In h → h.Ns mainGlobals gl → gl d.name = some (.ref at_) →
      ∃ fd : FuncData, (∀ (s : Shared) (u : Value), BindsTo s fd ⟨[u], []⟩ [(x, u)]) ∧
        ∀ b0 : Heap, (F wo.params).In b0 → b0.Ns mainGlobals gl → FnQ l.prog wo (F wo.params) gl b0 n at_ fd [x] (sp wo))
    (want : ∀ (wo : World) (H : Hp) (sc : Addr) (ns : List Int), ns.length ≤ most → Only H → SqL (F wo.params) H sc (ns.map V.int) → sp wo [.ref sc] H (fun v _ => v = .bl true) fun _ _ _ => False) :
    PySem.W.WalkO q loose XP YP l.row.toRowW d [] (fun f vs => PySem.call f vs) := by
  refine Att.attach_call hm nd ?_
  intro wo s₀ s gl gb at_ o pm cd doc sc vs ns G Y ho hd hcd hgl atS areI len ng
  have inF := hY wo _ Y
  obtain ⟨fd, binds, D0⟩ := D wo gl at_ _ inF G.T.g hgl
  have rv := vals_ints areI
  have lenV := areI.length
  have small' : ns.length ≤ sizeLine := Nat.le_trans len small
  have go := fun (H : Hp) (only : Only H) (seen : SqL (F wo.params) H sc (ns.map V.int)) =>
    quiet_from (pr := l.prog) (wo := wo) (ns := ns) inF G.T.g G.T.b G.T.builtins G.T.nolimit ng atS ⟨vs.toArray, _, rfl⟩ room D0 binds (want wo H sc ns len only seen) only
  by_cases known : (F wo.params).lookup sc = none
  · refine go (fun b => if b = sc then some (.frz { cls := .type "list", data := .seq vs.toArray } (.lst (ns.map V.int))) else none) (fun b => ?_) (Or.inl (Or.inr ⟨{ cls := .type "list", data := .seq vs.toArray }, if_pos rfl⟩)) ?_ (fun b ne => ?_) (fun _ => known)
    · by_cases e : b = sc
      · exact Or.inr ⟨_, _, if_pos e⟩
      · exact Or.inl (if_neg e)
    · intro b u e
      by_cases eq : b = sc
      · have e' := (if_pos eq).symm.trans e
        cases e'
        subst eq
        exact ⟨atS, by rw [List.length_map]; exact small', vs, _, rv, atS⟩
      · have e' := (if_neg eq).symm.trans e
        cases e'
    · by_cases eq : b = sc
      · exact eq
      · exact absurd (if_neg eq) ne
  · obtain ⟨o', ho'⟩ := Option.ne_none_iff_exists'.mp known
    have e := (atS.symm.trans (inF sc o' ho'))
    cases e
    refine go (fun _ => none) (fun _ => Or.inl rfl) (Or.inr ⟨_, vs.toArray, _, ho', rfl, rfl, rfl, by rw [List.size_toArray, lenV]; exact small', by simpa using rv⟩) (fun b u e => by cases (show (none : Option HO) = some u from e)) (fun b ne => absurd rfl ne) (fun ne => absurd rfl ne)
end GR

/-! Operations a law needs beside the hand layer's: repr of data where no repr runs, the order of data, comparisons that a class of the text defines (instances with a dict), isinstance of such an instance. -/
namespace GR
open PySem PySem.W PySem.Spec PySem.Calls PyProof.Rows L2 SX
section
variable {X : Cx}
/-- repr(x), x a list or a tuple of plain data -/
def rRepr (K : Frag) (A : Around) : List V → Hp → VK → Prop := fun xs H Q => ∃ (a : Addr) (d : PyData), xs = [.ref a] ∧ Dp K H (.ref a) d ∧ d.showable = true ∧ d.hasDict = false ∧ A.units + (d.depth + 1) < cLine ∧ d.shown.length ≤ sizeLine ∧ Q (.str d.shown) H
theorem call_reprD (quiet : Quiet X.A) : CallR X (.builtin "repr") (rRepr X.K X.A) := by
  intro pins s σ H xs us Q I rel h
  obtain ⟨a, d, rfl, dp, sh, nd, room, len, q⟩ := h
  obtain ⟨u, rfl, ru⟩ := rel.one
  cases (show u = Value.ref a from ru)
  obtain ⟨as, rd⟩ := dp.reads I d _ _ rfl
  exact repr_of_reads' rd sh (PyData.noDict_hsm nd) quiet room (fun _ _ e => e) (fun h' u tk hk => ⟨.str d.shown, H, I.kept hk, ⟨_, rfl⟩, q⟩) len
/-- x op y of two values that read as data with an order -/
def rDat {α : Type} [DecidableEq α] [DatumOrd α] (K : Frag) (f : α → α → Bool) : R2 := fun x y H Q => ∃ p q : α, Dp K H x (Datum.toD p) ∧ Dp K H y (Datum.toD q) ∧ Q (.bl (f p q)) H
section
variable {α : Type} [DecidableEq α] [DatumOrd α]
theorem opd_lt (hu : X.A.units + Datum.depth α < cLine) : OpR X (compareOp .Lt) (rDat (α := α) X.K fun p q => DatumOrd.lt p q) := by
  intro pins s σ H x y v u Q I rx ry ⟨p, q, hp, hq, fin⟩
  exact lt_datum (Dp.reads I _ _ _ hp rx) (Dp.reads I _ _ _ hq ry) hu ⟨.bl _, H, I, rfl, fin⟩
theorem opd_gt (hu : X.A.units + Datum.depth α < cLine) : OpR X (compareOp .Gt) (rDat (α := α) X.K fun p q => DatumOrd.lt q p) := by
  intro pins s σ H x y v u Q I rx ry ⟨p, q, hp, hq, fin⟩
  exact gt_datum (Dp.reads I _ _ _ hp rx) (Dp.reads I _ _ _ hq ry) hu ⟨.bl _, H, I, rfl, fin⟩
theorem opd_le (hu : X.A.units + Datum.depth α < cLine) : OpR X (compareOp .LtE) (rDat (α := α) X.K fun p q => !DatumOrd.lt q p) := by
  intro pins s σ H x y v u Q I rx ry ⟨p, q, hp, hq, fin⟩
  exact le_datum (Dp.reads I _ _ _ hp rx) (Dp.reads I _ _ _ hq ry) hu ⟨.bl _, H, I, rfl, fin⟩
theorem opd_ge (hu : X.A.units + Datum.depth α < cLine) : OpR X (compareOp .GtE) (rDat (α := α) X.K fun p q => !DatumOrd.lt p q) := by
  intro pins s σ H x y v u Q I rx ry ⟨p, q, hp, hq, fin⟩
  exact ge_datum (Dp.reads I _ _ _ hp rx) (Dp.reads I _ _ _ hq ry) hu ⟨.bl _, H, I, rfl, fin⟩
theorem opd_eq (hu : X.A.units + Datum.depth α < cLine) : OpR X (compareOp .Eq) (rDat (α := α) X.K fun p q => decide (p = q)) := by
  intro pins s σ H x y v u Q I rx ry ⟨p, q, hp, hq, fin⟩
  exact eq_datum (Dp.reads I _ _ _ hp rx) (Dp.reads I _ _ _ hq ry) hu ⟨.bl _, H, I, rfl, fin⟩
theorem opd_ne (hu : X.A.units + Datum.depth α < cLine) : OpR X (compareOp .NotEq) (rDat (α := α) X.K fun p q => decide (p ≠ q)) := by
  intro pins s σ H x y v u Q I rx ry ⟨p, q, hp, hq, fin⟩
  exact ne_datum (Dp.reads I _ _ _ hp rx) (Dp.reads I _ _ _ hq ry) hu ⟨.bl _, H, I, rfl, fin⟩
end
/-- x op y of two instances of the class at C, by its own def -/
def rIns (C : Addr) (sp : Sp) : R2 := fun x y H Q => ∃ (a b dx dy : Addr) (fs gs : List (Str × V)), x = .ref a ∧ y = .ref b ∧ H a = some (.ins C dx fs) ∧ H b = some (.ins C dy gs) ∧ sp [x, y] H Q E0
section
variable {C f : Addr} {fd : FuncData} {ps : List Str} {n : Nat} {sp : Sp}
theorem own_cmp {op : CmpOp} (hop : ∀ a b, compareOp op a b = richCompare op a b) (at_ : findIn X.K (.ref C) (cmpInfo op).2.1 = some (some (.ref f))) (isF : isFn X.K (.ref f) = true)
    (F : FnOk X.prog X.w X.K X.mg X.base CX0 n f fd ps sp) (hb : Binds X.K fd ps []) (room : Room n X.A) : OpR X (compareOp op) (rIns C sp) := by
  intro pins s σ H x y v u Q I rx ry ⟨a, b, dx, dy, fs, gs, ex, ey, ha, hb', q⟩
  subst ex; subst ey
  cases (show v = Value.ref a from rx); cases (show u = Value.ref b from ry)
  obtain ⟨_, J, _⟩ := ins_get I.hok ha
  obtain ⟨_, J', _⟩ := ins_get I.hok hb'
  obtain ⟨od, J, _⟩ := J.look
  obtain ⟨od', J', _⟩ := J'.look
  obtain ⟨m, hF⟩ := I.fr
  rw [hop]
  refine cmp_K (op := op) (tb := .ref C) room.units0 hF I.ok.mod.kin J J'.type (by simp [notFirst]) at_ isF ?_
  refine wpAny_mono (run_fn (us := [.ref a, .ref b]) (vs := [.ref a, .ref b]) F room hb .nil pass0 I (.cons rfl (.cons rfl .nil)) q) ?_ (fun _ _ e => e)
  rintro w s' ⟨z, H', I', rz, qz⟩
  exact SlX.cmpback rz ⟨z, H', I', rz, qz⟩
/-- != where the class has == alone -/
def rNeI (C : Addr) (sp : Sp) : R2 := fun x y H Q => ∃ (a b dx dy : Addr) (fs gs : List (Str × V)), x = .ref a ∧ y = .ref b ∧ H a = some (.ins C dx fs) ∧ H b = some (.ins C dy gs) ∧ sp [x, y] H (fun z H' => ∃ t, z = .bl t ∧ Q (.bl (!t)) H') E0
theorem bindSlot {M : Model} {h : Heap} (self : Value) : Looks M h (bindSpecial (.builtin "object.__ne__") self) (.builtin "object.__ne__", [self]) := Looks.of_pure (PySem.F.slot_object_ne.bind self)
theorem ifBound_B {K : Frag} {M : Model} {A : Around} {E : Value → Shared → Prop} {s : Shared} {x C : Addr} {ox : Obj} {od : Option Obj} {id : String} {name : Str} {args : List Value} {Q : Option Value → Shared → Prop} (inK : K.In s.heap) (J : InstAt s.heap x ox C od)
    (at_ : findIn K (.ref C) name = some (some (.builtin id))) (bd : Looks M s.heap (bindSpecial (.builtin id) (.ref x)) (.builtin id, [.ref x]))
    (h : wpAny M A (call (.builtin id) (.ref x :: args)) (fun v => Q (some v)) E s) : wpAny M A (callSpecialIfBound? (.ref x) name args) Q E s := by
  simp only [callSpecialIfBound?, bindSpecialIfBound?]
  refine wpAny_holding (wpAny_bind (wpAny_bind (wpAny_bind (J.type.here ((looks_findIn inK at_).here ?_)))))
  have fin : wpAny M A (call (.builtin id) ([.ref x] ++ args) >>= fun v => pure (some v)) Q E s := wpAny_bind (wpAny_mono h (fun v s' q => wpAny_pure q) fun _ _ q => q)
  refine wpAny_bind (wpAny_askSetting (wpAny_ite ?_))
  split
  · exact wpAny_bind (bd.here (wpAny_pure (by exact fin)))
  · exact wpAny_tryCatch (wpAny_bind (bd.here (wpAny_pure (by exact fin))))
theorem own_ne (at_ : findIn X.K (.ref C) "__eq__" = some (some (.ref f))) (isF : isFn X.K (.ref f) = true) (ne_ : findIn X.K (.ref C) "__ne__" = some (some (.builtin "object.__ne__"))) (ob : subIn X.K (.ref C) (.type "object") = some true)
    (F : FnOk X.prog X.w X.K X.mg X.base CX0 n f fd ps sp) (hb : Binds X.K fd ps []) (room : Room (n + 1) X.A) : OpR X (compareOp .NotEq) (rNeI C sp) := by
  intro pins s σ H x y v u Q I rx ry ⟨a, b, dx, dy, fs, gs, ex, ey, ha, hb', q⟩
  subst ex; subst ey
  cases (show v = Value.ref a from rx); cases (show u = Value.ref b from ry)
  obtain ⟨_, J, _⟩ := ins_get I.hok ha
  obtain ⟨_, J', _⟩ := ins_get I.hok hb'
  obtain ⟨od, J, _⟩ := J.look
  obtain ⟨od', J', _⟩ := J'.look
  have inK : X.K.In s.heap := I.kIn
  have room1 : Room n X.A.in1 := room.in1
  have go : wpAny (model X.prog X.w) X.A.in1 (call (.ref f) [.ref a, .ref b]) (fun r s' => ∃ t, r = .bool t ∧ EP X pins σ Q (.bool (!t)) s') X.xe s := by
    have bs := hb s [.ref a, .ref b] inK (by rw [List.append_nil]; exact F.len _ _ _ _ q)
    refine wpAny_call (codeAny_mono (F.run X.A.in1 X.stack s H ⟨[.ref a, .ref b], []⟩ [.ref a, .ref b] [.ref a, .ref b] _ E0 room1 I.env0.in1 bs (.cons rfl (.cons rfl .nil)) q) ?_)
    rintro (e | fl) s' h
    · exact (show False from h).elim
    cases fl with
    | next => exact (show False from h).elim
    | brk => exact (show False from h).elim
    | cont => exact (show False from h).elim
    | ret r =>
      obtain ⟨z, H', I', rz, t, ez, qz⟩ := I.after h
      subst ez
      cases (show r = Value.bool t from rz)
      exact ⟨t, rfl, .bl (!t), H', I', rfl, qz⟩
  have inner : wpAny (model X.prog X.w) X.A (call (.builtin "object.__ne__") [.ref a, .ref b]) (fun r s' => ∃ t, r = .bool (!t) ∧ EP X pins σ Q (.bool (!t)) s') X.xe s := by
    refine wpAny_call (codeAny_call_builtin PySem.F.slot_object_ne.plain PySem.F.cmpEntry_ne (check_slot PySem.F.cmpKind_ne PySem.F.cmpSplit_ne (J.type.andThen (looks_subIn inK ob)) (PySem.F.cmpArgs_ne _ _) ?_))
    unfold Builtin.«object.__ne__»
    repeat (first
      | with_reducible refine wpAny_cRoomFor room1.units0 ?_
      | (refine wpAny_bind (m := callSpecialIfBound? (.ref a) (Str.ofString "__eq__") [.ref b]) (ifBound_K inK J at_ isF (wpAny_mono go (fun r s' hr => by
          obtain ⟨t, rfl, hq⟩ := hr
          repeat (first | exact ⟨t, rfl, hq⟩ | exact wpAny_pure ⟨t, rfl, hq⟩ | exact wpAny_truthy_bool ⟨t, rfl, hq⟩ | (refine wpAny_bind (m := truthy (.bool _)) (wpAny_truthy_bool ?_)) | wp_step)) fun _ _ e => e)))
      | wp_step)
  have one : wpAny (model X.prog X.w) X.A (tryCompare (.ref a) "__ne__" (.ref b)) (fun r s' => ∃ v, r = some v ∧ EP X pins σ Q v s') X.xe s := by
    unfold tryCompare
    refine wpAny_bind (ifBound_B inK J ne_ (bindSlot _) (wpAny_mono inner ?_ fun _ _ e => e))
    rintro r s' ⟨t, rfl, hq⟩
    exact wpAny_pure ⟨_, rfl, hq⟩
  show wpAny _ _ (richCompare .NotEq (.ref a) (.ref b)) _ _ _
  unfold richCompare
  simp only [oneThing_ref]
  refine wpAny_holding (wpAny_bind (wpAny_cRoomFor room.units0 ?_))
  refine wpAny_bind (J.type.here (wpAny_bind (J'.type.here ?_)))
  rw [show (Value.ref C != Value.ref C) = false from by simp]
  simp only [Bool.false_eq_true, if_false]
  refine wpAny_bind (wpAny_pure ?_)
  simp only [Bool.false_eq_true, if_false]
  refine wpAny_bind (wpAny_mono one ?_ fun _ _ e => e)
  rintro r s' ⟨v, rfl, hq⟩
  exact wpAny_pure hq
end
end
end GR

/-! sorted(set(xs)), xs a list of texts -/
namespace TxSet
open PySem PySem.Spec PyProof.Rows L2
abbrev sk (P : Program) (w : World) := PySem.strKind P w
def wd (e : Int × Value) : Str := match e.2 with | .str x _ => x | _ => Str.empty
def Tx (w : World) (e : Int × Value) : Prop := ∃ x u, e.2 = Value.str x u ∧ e.1 = hashStr w x
/-- the set of texts at a -/
def SetX (w : World) (h : Heap) (a : Addr) (M : Str → Bool) (m : Nat) : Prop :=
  ∃ ob cells ep tb, h.get? a = some ob ∧ ob.ExactSet ∧ ob.data = .set cells ep tb ∧ (∀ c ∈ cells.toList, Tx w c) ∧ (cells.toList.map wd).Nodup ∧ (∀ z, M z = true ↔ z ∈ cells.toList.map wd) ∧
    cells.size < scanBound ∧ tb.fits cells.size = true ∧ cells.size = m ∧ Ris tb.place.toList ∧ (w.params.followText "set-order" = true ∨ tb.led = true)
section
variable {P : Program} {w : World} {h h' : Heap} {a : Addr} {M : Str → Bool} {m : Nat}
theorem SetX.stay (R : SetX w h a M m) (k : ∀ ob, h.get? a = some ob → h'.get? a = some ob) : SetX w h' a M m := by
  obtain ⟨ob, cells, ep, tb, ho, r⟩ := R
  exact ⟨ob, cells, ep, tb, k ob ho, r⟩
theorem SetX.like {M' : Str → Bool} (R : SetX w h a M m) (e : ∀ z, M' z = M z) : SetX w h a M' m := by
  have q : M' = M := funext e
  rw [q]
  exact R
theorem tx_elems {l : List (Int × Value)} (g : ∀ c ∈ l, Tx w c) : ElemsOf (sk P w) l := fun c hc => by
  obtain ⟨z, u, h1, h2⟩ := g c hc
  exact ⟨⟨z, by rw [h1]; exact PySem.strKind_is P w z u, h2⟩, by rw [h1] <;> rfl⟩
theorem tx_is {c : Int × Value} (g : Tx w c) (z : Str) : (sk P w).is z c.2 = true ↔ wd c = z := by
  obtain ⟨z0, u, h1, _⟩ := g
  unfold wd
  rw [h1]
  constructor
  · intro q
    exact (sk P w).inj _ _ _ (PySem.strKind_is P w z0 u) q
  · intro q
    have q' : z0 = z := q
    rw [← q']
    exact PySem.strKind_is P w z0 u
theorem tx_mem {l : List (Int × Value)} (g : ∀ c ∈ l, Tx w c) (z : Str) : z ∈ l.map wd ↔ ∃ c ∈ l, (sk P w).is z c.2 = true := by
  rw [List.mem_map]
  constructor
  · rintro ⟨c, hc, q⟩
    exact ⟨c, hc, (tx_is (g c hc) z).2 q⟩
  · rintro ⟨c, hc, q⟩
    exact ⟨c, hc, (tx_is (g c hc) z).1 q⟩
theorem SetX.setOf (R : SetX w h a M m) : h.SetOf (sk P w) a M m := by
  obtain ⟨ob, cells, ep, tb, ho, hx, hd, g, nd, hm, hb, hf, hn, _⟩ := R
  exact ⟨ob, cells, ep, tb, ho, hx, hd, tx_elems g, fun z => (hm z).trans (tx_mem g z), hb, hf, hn⟩
end
section
variable {P : Program} {w : World} {A : Around} {E : Value → Shared → Prop} {s : Shared} {a : Addr} {M : Str → Bool} {m : Nat}
/-- behind the laying of a new entry: the table is stored, and laid anew where it is too full -/
theorem lay_tail {gv : Bool → Sem Unit} (hgv : ∀ (b : Bool) (s₁ : Shared) (Q' : Unit → Shared → Prop), Q' () s₁ → wpAny (model P w) A (gv b) Q' E s₁)
    {ob : Obj} {cells : Array (Int × Value)} {ep : Nat} {tb : SetTable} (ho : s.heap.get? a = some ob) (hex : ob.ExactSet) (hd : ob.data = .set cells ep tb)
    {c1 : Array (Int × Value)} {t2 : SetTable} {M' : Str → Bool} (g1 : ∀ c ∈ c1.toList, Tx w c) (nd1 : (c1.toList.map wd).Nodup) (m1 : ∀ z, M' z = true ↔ z ∈ c1.toList.map wd)
    (hb1 : c1.size < scanBound) (hf2 : t2.fits c1.size = true) (hr : Ris t2.place.toList) (hl : w.params.followText "set-order" = true ∨ t2.led = true) {dum : Bool} {R : Option Bool → Shared → Prop}
    (hR : ∀ h', Heap.SameBut a s.heap h' → SetX w h' a M' c1.size → R (some true) { s with heap := h' }) :
    wpAny (model P w) A (do
        storeSet a c1 t2
        if (!dum && t2.tooFull) = true then do
            gv (relayAll t2 c1 (SetTable.grown c1.size)).2.2
            storeSet a (relayAll t2 c1 (SetTable.grown c1.size)).1 (relayAll t2 c1 (SetTable.grown c1.size)).2.1
            pure (some true)
          else pure (some true)) R E s := by
  refine wpAny_bind (wpAny_storeSet_of ho hd ?_ (fits_of_scanBound hb1))
  have ho1 := store_at (es' := c1) (t' := t2) ho hd
  have sb1 := Heap.SameBut.update s.heap a (Obj.putSet c1 t2)
  split
  · have pm := relayAll_perm t2 c1 (SetTable.grown c1.size)
    have hf3 := relayAll_fits t2 c1 (SetTable.grown c1.size)
    have hr3 := relayAll_ris t2 c1 (SetTable.grown c1.size)
    have hl3 := relayAll_led t2 c1 (SetTable.grown c1.size)
    generalize relayAll t2 c1 (SetTable.grown c1.size) = Z at pm hf3 hr3 hl3 ⊢
    obtain ⟨c2, t3, gave⟩ := Z
    dsimp only at pm hf3 hr3 hl3 ⊢
    have hsz : c2.size = c1.size := by rw [← Array.length_toList, pm.length_eq, Array.length_toList]
    have hb2 : c2.size < scanBound := by rw [hsz]; exact hb1
    refine wpAny_bind (hgv _ _ _ ?_)
    refine wpAny_bind (wpAny_storeSet_of ho1 rfl ?_ (fits_of_scanBound hb2))
    have ho2 := store_at (es' := c2) (t' := t3) ho1 rfl
    refine wpAny_pure (hR _ (sb1.trans (Heap.SameBut.update _ a _)) ?_)
    exact ⟨_, c2, _, t3, ho2, hex, rfl, fun c hc => g1 c (pm.mem_iff.mp hc), (pm.map wd).nodup_iff.mpr nd1, fun z => (m1 z).trans (pm.map wd).mem_iff.symm, hb2, hf3, hsz, hr3,
      hl.imp id fun z => by rw [hl3]; exact z⟩
  · exact wpAny_pure (hR _ sb1 ⟨_, c1, _, t2, ho1, hex, rfl, g1, nd1, m1, hb1, hf2, rfl, hr, hl⟩)
theorem add_hashed {z : Str} {u : Tok} {Q : Bool → Shared → Prop} (R : SetX w s.heap a M m) (room : m + 1 < scanBound)
    (hQ : ∀ h', Heap.SameBut a s.heap h' → SetX w h' a (fun j => M j || decide (j = z)) (if M z = true then m else m + 1) → Q (!M z) { s with heap := h' }) :
    wpAny (model P w) A (setAddHashed a (.str z u) ((sk P w).hash z)) Q E s := by
  obtain ⟨ob, cells, ep, tb, ho, hex, hd, g, nd, hm, hb, hf, hn, hr, hl⟩ := R
  have hkey : (sk P w).is z (.str z u) = true := PySem.strKind_is P w z u
  have hsc : (Value.str z u).scannable = true := rfl
  have hel : ElemsOf (sk P w) cells.toList := tx_elems g
  unfold setAddHashed setAddHashedIn
  refine wpAny_holding (wpAny_bind (wpAny_setState_of ho hd hf ?_))
  dsimp only
  rw [byScan_of hsc hb hel]
  simp only [↓reduceIte]
  unfold setAddByScan
  refine wpAny_bind ?_
  refine wpAny_bind (wpAny_rule ?_)
  refine wpAny_bind (wpAny_setScan_of hkey ho hd hf hel ?_)
  cases hfi : List.findIdx? (fun c => (sk P w).is z c.2) cells.toList with
  | some j =>
    dsimp only
    obtain ⟨hj, pj, _⟩ := List.findIdx?_eq_some_iff_getElem.mp hfi
    have hMz : M z = true := (hm z).2 ((tx_mem (P := P) (w := w) g z).2 ⟨cells.toList[j], List.getElem_mem hj, pj⟩)
    refine wpAny_pure (wpAny_pure ?_)
    have q := hQ s.heap (Heap.SameBut.refl a s.heap) ⟨ob, cells, ep, tb, ho, hex, hd, g, nd, fun i => by
      rw [Bool.or_eq_true, decide_eq_true_eq, ← hm i]
      exact ⟨fun y => y.elim id (fun e => e ▸ hMz), .inl⟩, hb, hf, by rw [if_pos hMz]; exact hn, hr, hl⟩
    rw [hMz] at q
    exact q
  | none =>
    dsimp only
    have hnz : z ∉ cells.toList.map wd := fun y => by
      obtain ⟨c, hc, q⟩ := (tx_mem (P := P) (w := w) g z).1 y
      have d := List.findIdx?_eq_none_iff.mp hfi c hc
      rw [q] at d
      cases d
    have hMz : M z = false := by
      cases q : M z with
      | false => rfl
      | true => exact absurd ((hm z).1 q) hnz
    have hgw : ∀ (b : Bool) {s₁ : Shared} {Q' : Unit → Shared → Prop}, Q' () s₁ → wpAny (model P w) A (match b with | true => rule "set.scan.the-table-gave-way" | false => pure ()) Q' E s₁ :=
      fun b s₁ Q' q => by cases b <;> first | exact wpAny_pure q | exact wpAny_rule q
    have pm := layNew_perm tb cells ((sk P w).hash z) (.str z u)
    have hf1 := layNew_fits tb cells ((sk P w).hash z) (.str z u)
    have hr1 := layNew_ris tb cells ((sk P w).hash z) (.str z u) hr
    have hl1 := layNew_led tb cells ((sk P w).hash z) (.str z u)
    generalize layNew tb cells ((sk P w).hash z) (.str z u) = Z at pm hf1 hr1 hl1 ⊢
    obtain ⟨c1, t1, dum, gave⟩ := Z
    dsimp only at pm hf1 hr1 hl1 ⊢
    rw [Array.toList_push] at pm
    have pc : c1.toList.Perm (((sk P w).hash z, Value.str z u) :: cells.toList) := pm.trans (List.perm_append_singleton _ _)
    have pk : (c1.toList.map wd).Perm (z :: cells.toList.map wd) := pc.map wd
    have g1 : ∀ c ∈ c1.toList, Tx w c := fun c hc => by
      rcases List.mem_cons.mp (pc.mem_iff.mp hc) with y | y
      · rw [y]; exact ⟨z, u, rfl, rfl⟩
      · exact g c y
    have nd1 : (c1.toList.map wd).Nodup := pk.nodup_iff.mpr (List.nodup_cons.mpr ⟨hnz, nd⟩)
    have m1 : ∀ i, (M i || decide (i = z)) = true ↔ i ∈ c1.toList.map wd := fun i => by
      rw [Bool.or_eq_true, decide_eq_true_eq, hm i, pk.mem_iff, List.mem_cons]
      exact Or.comm
    have hsz : c1.size = m + 1 := by rw [← Array.length_toList, pc.length_eq, List.length_cons, Array.length_toList, hn]
    have hb1 : c1.size < scanBound := by rw [hsz]; exact room
    have hled : w.params.followText "set-order" = true ∨ t1.led = true := hl.imp id fun y => by rw [hl1]; exact y
    have fin : ∀ h', Heap.SameBut a s.heap h' → SetX w h' a (fun j => M j || decide (j = z)) c1.size → Q true { s with heap := h' } := fun h' sb r => by
      have q := hQ h' sb
      rw [hMz] at q
      rw [hsz] at r
      exact q r
    refine wpAny_bind (hgw _ ?_)
    split
    · refine wpAny_bind ?_
      rw [hashByValue_scannable 8 hsc]
      refine wpAny_pure ?_
      refine lay_tail ?_ ho hex hd g1 nd1 m1 hb1 ?_ ?_ ?_ ?_
      · intro b s₁ Q' q; cases b <;> first | exact wpAny_pure q | exact wpAny_rule q
      · first | (split <;> first | exact hf1 | exact SetTable.fits_plain_off hf1) | exact hf1
      · first | (split <;> exact hr1) | exact hr1
      · first | (split <;> exact hled) | exact hled
      · intro h' sb r; dsimp only; exact wpAny_pure (fin h' sb r)
    · refine wpAny_bind (wpAny_pure ?_)
      simp only [↓reduceIte]
      refine lay_tail ?_ ho hex hd g1 nd1 m1 hb1 hf1 hr1 hled ?_
      · intro b s₁ Q' q; cases b <;> first | exact wpAny_pure q | exact wpAny_rule q
      · intro h' sb r; dsimp only; exact wpAny_pure (fin h' sb r)
end
theorem txt_at : ∀ {us : List Value} {xs : List Str}, StrsAre us xs → ∀ (i : Nat) (v : Value), us[i]? = some v → ∃ t, v = .str (xs.getD i Str.empty) t
  | _, _, .nil, i, v, h => by simp at h
  | _, _, .cons n t hr, 0, v, h => by
    simp at h
    exact ⟨t, by rw [← h] <;> rfl⟩
  | _, _, .cons n t hr, i + 1, v, h => by
    simp only [List.getElem?_cons_succ] at h
    obtain ⟨t', e⟩ := txt_at hr i v h
    exact ⟨t', by rw [e] <;> rfl⟩
/-- what stands among the first i -/
def among (xs : List Str) (i : Nat) : Str → Bool := fun k => (xs.take i).any (· == k)
theorem among_succ (xs : List Str) {i : Nat} (h : i < xs.length) (k : Str) : among xs (i + 1) k = (among xs i k || decide (k = xs.getD i Str.empty)) := by
  unfold among
  have e : xs.getD i Str.empty = xs[i] := by rw [List.getD_eq_getElem?_getD, List.getElem?_eq_getElem h] <;> rfl
  rw [e, List.take_succ, List.getElem?_eq_getElem h, Option.toList_some, List.any_append]
  congr 1
  show ([xs[i]].any fun y => y == k) = _
  rw [List.any_cons, List.any_nil, Bool.or_false]
  by_cases q : k = xs[i]
  · rw [decide_eq_true q, q]
    exact beq_self_eq_true _
  · rw [decide_eq_false q]
    exact beq_eq_false_iff_ne.mpr fun z => q z.symm
section
variable {prog : Program} {w : World} {A : Around} {R : Result → Shared → Prop} {I : Addr} {fp wr : List Addr} {G : Array GenState → Array GenState → Prop} {n : Nat} {Pv : Nat → Value → Prop} {St : Nat → Shared → Prop}
theorem fill_loop (W : WalksS prog w A.in1 I fp wr G n Pv St) (S : Addr) (hSf : S ∉ fp) (xs : List Str) (hsz : xs.length = n) (hn1 : n + 1 < scanBound)
    (hval : ∀ i v, Pv i v → ∃ t, v = .str (xs.getD i Str.empty) t) :
    ∀ (k i m : Nat) (s : Shared), n - i = k → i ≤ n → m ≤ i → St i s → SetX w s.heap S (among xs i) m →
      (∀ s' m', m' ≤ n → Moved (S :: wr) G s s' → SetX w s'.heap S (among xs n) m' → R (.ok (.ret .none)) s') →
      codeAny (model prog w) A (.builtin "set.update.loop" ⟨[.ref S, .ref I], []⟩) R s := by
  have hSw : S ∉ wr := fun h => hSf (W.sub _ h)
  have hsub : ∀ b ∈ wr, b ∈ S :: wr := fun b hb => List.mem_cons_of_mem _ hb
  intro k
  induction k with
  | zero =>
    intro i m s hk hi hmi hst hS hR
    have hin : i = n := by omega
    subst hin
    refine codeAny_builtin PyProof.Rows.F.entry_set_update_loop ?_
    rw [Around.under_plainId PyProof.Rows.F.plain_set_update_loop _]
    show wpAny _ A.in1 (pyNext (.ref I) >>= _) _ _ s
    refine wpAny_bind (W.done s _ _ hst fun s' hm => ?_)
    show wpAny _ A.in1 (ret Value.none) _ _ s'
    exact wpAny_pure (hR s' m hmi (hm.mono hsub) (hS.stay fun ob ho => hm.heap S _ hSw ho))
  | succ k ih =>
    intro i m s hk hi hmi hst hS hR
    have hlt : i < n := by omega
    refine codeAny_builtin PyProof.Rows.F.entry_set_update_loop ?_
    rw [Around.under_plainId PyProof.Rows.F.plain_set_update_loop _]
    show wpAny _ A.in1 (pyNext (.ref I) >>= _) _ _ s
    refine wpAny_bind (W.item i s _ _ hlt hst fun v s' hP hst' hm => ?_)
    obtain ⟨t, rfl⟩ := hval i v hP
    have hS' : SetX w s'.heap S (among xs i) m := hS.stay fun ob ho => hm.heap S _ hSw ho
    show wpAny _ A.in1 (holding [Value.str (xs.getD i Str.empty) t] (setAdd S (.str (xs.getD i Str.empty) t)) >>= _) _ _ s'
    refine wpAny_bind (wpAny_holding ?_)
    unfold setAdd
    refine wpAny_holding ?_
    refine wpAny_bind ((PySem.strKind prog w).pyHash (k := xs.getD i Str.empty) (PySem.strKind_is _ _ _ _) ?_)
    refine add_hashed (s := { s' with toks := s'.toks + 1 }) hS' (by omega) fun h' hsb hS2 => ?_
    have hSi : SetX w h' S (among xs (i + 1)) (if among xs i (xs.getD i Str.empty) = true then m else m + 1) := hS2.like fun j => among_succ xs (by omega) j
    have hmi' : (if among xs i (xs.getD i Str.empty) = true then m else m + 1) ≤ i + 1 := by split <;> omega
    refine wpAny_pure ⟨plainId_quiet PyProof.Rows.F.plain_set_update_loop _, ih (i + 1) _ _ (by omega) hlt hmi' (W.frame _ s' _ _ hst' (Nat.le_succ _) fun b hb o e => ?_) hSi fun s'' m'' hm2 hm'' hS'' => ?_⟩
    · rw [hsb.2 b (fun h : b = S => hSf (by rw [← h]; exact hb))]
      exact e
    · refine hR s'' m'' hm2 (Moved.trans W.gtrans ((hm.mono hsub).then_heap (Nat.le_succ _) fun b o hb e => ?_) hm'') hS''
      rw [hsb.2 b (fun h : b = S => hb (by rw [h]; exact List.mem_cons_self))]
      exact e
end
end TxSet

namespace TxSet
open PySem PySem.Spec PyProof.Rows L2
/-- the fresh set -/
abbrev newSet (led : Bool) : Obj := { cls := .type "set", dict := none, data := .set #[] 0 (.fresh 0 0 led) }
section
variable {prog : Program} {w : World} {A : Around} {E : Value → Shared → Prop} {s : Shared}
theorem setX_fresh {h : Heap} {a : Addr} (w : World) (hg : h.get? a = some (newSet (!w.params.followText "set-order"))) : SetX w h a (fun _ => false) 0 :=
  ⟨_, #[], 0, _, hg, ⟨rfl, rfl, rfl⟩, rfl, (fun c hc => by simp at hc), (by simp), (fun z => by simp), (by decide), (by rfl), rfl, List.Pairwise.nil, by
    show _ ∨ (!w.params.followText "set-order") = true
    cases w.params.followText "set-order"
    · exact .inr rfl
    · exact .inl rfl⟩
set_option maxHeartbeats 8000000 in
theorem call_set_txt {l : Addr} {items : Array Value} {xs : List Str} {Q : Value → Shared → Prop}
    (hh : A.handled = none) (hl : s.heap.IsList l items) (hi : PyProof.Rows.StrsAre items.toList xs) (hn1 : xs.length + 1 < scanBound)
    (h : ∀ (h' : Heap) (tk m : Nat), m ≤ xs.length → SetX w h' s.heap.objs.size (fun z => decide (z ∈ xs)) m →
      (∀ b o, b < s.heap.objs.size → s.heap.get? b = some o → h'.get? b = some o) → Q (.ref s.heap.objs.size) { s with heap := h', toks := tk }) :
    wpAny (model prog w) A (call (.type "set") [.ref l]) Q E s := by
  have hsz0 : xs.length = items.size := by rw [← StrsAre.len_eq hi, Array.length_toList]
  obtain ⟨c, tl, hmro⟩ := PySem.F.called_set.mro
  have hmade := PySem.F.called_set.made
  have hsub := PySem.F.called_set.sub
  refine wpAny_call (codeAny_of_tree ?_)
  show wpAny _ _ (callAny (.type "set") _) _ _ _
  refine wpAny_pure ⟨Code.quiet_builtin _ (by decide +kernel), codeAny_builtin PySem.F.entry_type_call ?_⟩
  rw [Around.under_plain (weight_type_call_type "set" [.ref l] []) rfl]
  have h1 := PySem.F.called_set.notType
  have h2 := PySem.F.called_set.canCreate
  have hct := PySem.F.typeCall_set_1 (.ref l)
  repeat (any_goals (first | assumption | wp_step))
  refine codeAny_mono (code_set_led1 (.ref l) (E := E) (Q₁ := fun obj s₁ => obj = .ref s.heap.objs.size ∧ s₁ = { s with heap := s.heap.push (newSet (!w.params.followText "set-order")) }) ⟨rfl, rfl⟩) fun r s₁ hr => ?_
  cases r with
  | error e => exact hr
  | ok fl =>
    cases fl with
    | ret obj =>
      obtain ⟨rfl, rfl⟩ := hr
      have hS : (s.heap.push (newSet (!w.params.followText "set-order"))).get? s.heap.objs.size = some (newSet (!w.params.followText "set-order")) := Heap.get?_push_size _ rfl
      have hT : Shared.TypeIs { s with heap := s.heap.push (newSet (!w.params.followText "set-order")) } (.ref s.heap.objs.size) "set" := ⟨_, hS, rfl⟩
      have hli := PySem.F.called_set.init.lookup
      have hbi := PySem.F.called_set.init.bind (.ref s.heap.objs.size)
      repeat (any_goals (first | assumption | wp_step))
      refine codeAny_mono (codeAny_call_builtin (R := wants (fun r s₂ => r = .none ∧ ∃ h' tk m, s₂ = { s with heap := h', toks := tk } ∧ m ≤ xs.length ∧
          SetX w h' s.heap.objs.size (fun z => decide (z ∈ xs)) m ∧
          (∀ b o, b < s.heap.objs.size → s.heap.get? b = some o → h'.get? b = some o)) E) PySem.F.called_set.init.plain PySem.F.entry_set_init (check_set_init_1 hT ?_)) fun r₂ s₂ hr₂ => ?_
      · obtain ⟨ol, hol, hcl, nl, hdl⟩ := hl
        obtain ⟨ocls, odict, odata, oslots⟩ := ol
        simp only at hcl hdl
        subst hcl; subst hdl
        have hol' : (s.heap.push (newSet (!w.params.followText "set-order"))).get? l = some { cls := .type "list", dict := odict, data := .seq items nl, slots := oslots } := Heap.get?_push_of_some _ hol
        have hsls := PySem.F.sub_list_set
        have hslf := PySem.F.sub_list_frozenset
        have hne : (Value.type "list" == Value.type "dict") = false := by decide
        have hl1 : (s.heap.push (newSet (!w.params.followText "set-order"))).IsList l items := ⟨_, hol', rfl, nl, rfl⟩
        unfold Builtin.«set.__init__» noKeywords Builtin.Frozenset.updateFrom
        generalize hPI : pyIter = PI
        wp_walk
        subst hPI
        refine wpAny_pyIter_list hl1 ?_
        refine wpAny_bind (wpAny_runValue ?_)
        have hlS : l < s.heap.objs.size := Heap.lt_size hol
        have hh3 : A.in1.in1.in1.handled = none := by simp [hh]
        have hneI : l ≠ (s.heap.push (newSet (!w.params.followText "set-order"))).objs.size := by
          rw [Heap.size_push]; exact Nat.ne_of_lt (Nat.lt_succ_of_lt hlS)
        have hSf : s.heap.objs.size ∉ [(s.heap.push (newSet (!w.params.followText "set-order"))).objs.size, l] := by
          rw [Heap.size_push]; simp only [List.mem_cons, List.mem_singleton, List.not_mem_nil, or_false, not_or]
          exact ⟨Nat.ne_of_lt (Nat.lt_succ_self _), Nat.ne_of_gt hlS⟩
        have hval : ∀ (i : Nat) (v : Value), items[i]? = some v → ∃ t, v = .str (xs.getD i Str.empty) t := fun i v hv => txt_at hi i v (by rw [Array.getElem?_toList]; exact hv)
        refine fill_loop ((Walks.list hh3 _ l hneI items).toS) s.heap.objs.size
          hSf xs hsz0 (by rw [← hsz0]; exact hn1) hval (items.size - 0) 0 0 _ (by omega) (Nat.zero_le _) (Nat.le_refl _)
          ⟨⟨_, Heap.get?_push_size _ rfl, rfl, rfl⟩, (hl1.push _)⟩ ?hS0 ?hR
        case hS0 =>
          have hget : ((s.heap.push (newSet (!w.params.followText "set-order"))).push { cls := .type "list_iterator", data := .fields #[.ref l, .int 0 0] }).get? s.heap.objs.size
              = some (newSet (!w.params.followText "set-order")) := Heap.get?_push_of_some _ hS
          exact (setX_fresh w hget).like fun z => rfl
        case hR =>
          intro s' m' hm' hm hS'
          obtain ⟨h', g', d', tk', os'⟩ := s'
          have eg : g' = s.gens := hm.gens
          have ed : d' = s.drawn := hm.drawn
          have eo : os' = s.os := hm.os
          subst eg; subst ed; subst eo
          show wpAny _ _ _ _ _ _
          refine wpAny_pure ?_
          show wpAny _ _ (ret Value.none) _ _ _
          refine wpAny_pure ⟨rfl, h', tk', m', rfl, by omega, hS'.like fun z => ?_, fun b o hb e => ?_⟩
          · unfold among
            rw [← hsz0, List.take_length]
            by_cases q : z ∈ xs
            · rw [decide_eq_true q]
              exact ((List.any_eq_true (p := fun x => x == z)).mpr ⟨z, q, beq_self_eq_true z⟩).symm
            · rw [decide_eq_false q]
              refine (List.any_eq_false.mpr fun y hy e => q ?_).symm
              rw [← beq_iff_eq.mp e]
              exact hy
          · have hb1 : b ≠ s.heap.objs.size := Nat.ne_of_lt hb
            have hb2 : b ≠ (s.heap.push (newSet (!w.params.followText "set-order"))).objs.size := by
              rw [Heap.size_push]; exact Nat.ne_of_lt (Nat.lt_succ_of_lt hb)
            exact hm.heap b o (by simp only [List.mem_cons, List.mem_singleton, List.not_mem_nil, or_false, not_or]; exact ⟨hb1, hb2⟩) (Heap.get?_push_of_some _ (Heap.get?_push_of_some _ e))
      · cases r₂ with
        | error e => exact hr₂
        | ok fl₂ =>
          cases fl₂ with
          | ret r =>
            obtain ⟨rfl, h', tk, m', rfl, hm', hS', hk'⟩ := hr₂
            repeat (any_goals (first | assumption | wp_step))
            exact h _ _ m' hm' hS' hk'
          | _ => exact hr₂.elim
    | _ => exact hr.elim
theorem strs_all {w : World} {vs : List Value} {cells : List (Int × Value)} (g : ∀ c ∈ cells, Tx w c) (pm : vs.Perm (cells.map (·.2))) : ∀ v, v ∈ vs → ∃ x t, v = .str x t := fun v hv => by
  obtain ⟨c, hc, q⟩ := List.mem_map.mp (pm.mem_iff.mp hv)
  obtain ⟨x, t, h1, _⟩ := g c hc
  exact ⟨x, t, by rw [← q]; exact h1⟩
theorem wd_eq {w : World} {c : Int × Value} (g : Tx w c) : strOf c.2 = wd c := by
  obtain ⟨x, t, h1, _⟩ := g
  unfold strOf wd
  rw [h1]
theorem sorted_txt {a : Addr} {M : Str → Bool} {m : Nat} {Q : Value → Shared → Prop} (R : SetX w s.heap a M m) (hh : A.handled = none)
    (hQ : ∀ s' p (out : Array Value) (c : Nat) (ys : List Str), (∀ b o, s.heap.get? b = some o → s'.heap.get? b = some o) → s'.gens = s.gens → s'.os = s.os → s.heap.objs.size ≤ p →
      s'.heap.get? p = some (seqObj "list" out c) → StrsAre out.toList ys → sortedS ys = true → ys.Nodup → (∀ z, z ∈ ys ↔ M z = true) → ys.length = m → Q (.ref p) s') :
    wpAny (model prog w) A (call (.builtin "sorted") [.ref a]) Q E s := by
  obtain ⟨ob, cells, ep, tb, ho, hex, hd, g, nd, hm, hb, hf, hn, hr, hl⟩ := R
  refine Calls.call_function_entry kind_sorted plain_sorted entry_sorted (args_sorted1 _) ?_
  unfold Builtin.«sorted»
  refine wpAny_bind (m := checkCount "sorted" 1 1 _) (wpAny_pure ?_)
  refine wpAny_bind (collect_set (A := A.in1) hh ⟨ob, ho, hex.1, hd⟩ hf hb hr hl fun s1 vs k1 hz g1 o1 pm => ?_)
  have hvl : vs.length = m := by rw [pm.length_eq, List.length_map, Array.length_toList]; exact hn
  have hS : StrsAre vs (vs.map strOf) := strsAre_map vs (strs_all g pm)
  have pk : (vs.map strOf).Perm (cells.toList.map wd) := by
    have q := pm.map strOf
    rw [List.map_map] at q
    have e : cells.toList.map (strOf ∘ fun x => x.2) = cells.toList.map wd := List.map_congr_left fun c hc => wd_eq (g c hc)
    rw [e] at q
    exact q
  have hsl : vs.length ≤ sizeLine := by rw [hvl, ← hn]; exact fits_of_scanBound hb
  refine wpAny_bind (wpAny_newList ?_ hsl)
  have hoL : (s1.heap.push (seqObj "list" vs.toArray 0)).get? s1.heap.objs.size = some (seqObj "list" vs.toArray 0) := Heap.get?_push_size _ rfl
  refine wpAny_bind (wpAny_holding (wpAny_call_entry slot_list_sort ⟨_, hoL, rfl⟩ entry_list_sort (list_sort_treeKAny strKind_oneLt hoL hS.keysOf (fun v₁ v₂ rest e => keyKind_strs (by rw [← e]; exact hS)) hsl fun st' hp hs => ⟨_, rfl, ?_⟩) (args_list_sort _)))
  obtain ⟨ys, a1, a2, a3⟩ := sorted_out_str hS hp hs
  obtain ⟨c, hc⟩ := sortedHeap_at (vs := vs) (out := (arrOf st').map (·.2)) hoL
  have pn : ys.Perm (cells.toList.map wd) := a2.trans pk
  refine wpAny_pure ⟨_, rfl, hQ _ s1.heap.objs.size _ c ys (fun b u e => ?_) g1 o1 hz hc a1 a3 (pn.nodup_iff.mpr nd) (fun z => by rw [pn.mem_iff, ← hm z]) ?_⟩
  · have q := k1 b u e
    have hlt := Heap.lt_size q
    show (sortedHeap (s1.heap.push (seqObj "list" vs.toArray 0)) s1.heap.objs.size vs _).get? b = some u
    rw [sortedHeap_old (Nat.ne_of_lt hlt) (by rw [size_push']; exact Nat.lt_succ_of_lt hlt)]
    exact Heap.get?_push_of_some _ q
  · rw [pn.length_eq, List.length_map, Array.length_toList]; exact hn
end
section
variable {X : Cx}
theorem txts_of : ∀ {ys : List Str} {us : List Value}, Vals (ys.map V.str) us → StrsAre us ys
  | [], _, .nil => .nil
  | y :: ys, _, .cons r t => by
    obtain ⟨k, rfl⟩ := r
    exact .cons y k (txts_of t)
theorem srt_fin {pins : List (Addr × Obj)} {σ : L2.St} {H1 : Hp} {Q : VK} {s2 : Shared} (I2 : Inv X pins σ H1 s2) (hc : X.calm = true) {a0 : Addr} {M : Str → Bool} {m : Nat} (hS : SetX X.w s2.heap a0 M m) (hm : m ≤ 1000)
    (q1 : ∀ (ys : List Str) (p : Addr), sortedS ys = true → ys.Nodup → (∀ z, z ∈ ys ↔ M z = true) → H1 p = none → Q (.ref p) (upd H1 p (.lst (ys.map V.str)))) :
    wpAny (model X.prog X.w) X.A (call (.builtin "sorted") [.ref a0]) (EP X pins σ Q) X.xe s2 := by
  refine sorted_txt hS (I2.ok.hd hc) fun s' p' out c ys k g o hp hgt hi hs hnd hmem hlen => ?_
  have hle : (ys.map V.str).length ≤ sizeLine := by rw [List.length_map, sizeLine_eq]; omega
  have hn : H1 p' = none := I2.hok.fresh hp
  have J : Inv X pins σ (upd H1 p' (.lst (ys.map V.str))) { s2 with heap := s'.heap, gens := s'.gens, drawn := s'.drawn, toks := s'.toks } :=
    I2.call (ch := []) (Un.laid k hp hn) (I2.hok.laid k hp ⟨hle, out.toList, c, vals_of_strs hi, hgt⟩) (by rw [g]; exact I2.bare) (fun _ z => nomatch z)
  have e : s' = { s2 with heap := s'.heap, gens := s'.gens, drawn := s'.drawn, toks := s'.toks } := by
    cases s'
    cases s2
    cases o
    rfl
  rw [e]
  exact ⟨.ref p', _, J, rfl, q1 ys p' hs hnd hmem hn⟩
/-- sorted(set(xs)), xs a list of texts: what is among them, each once, in order -/
def tSrtSet (K : PySem.W.Frag) (ta : TE) : TE := fun σ H Q => ta σ H fun x H1 => ∃ (l : Addr) (xs : List Str), x = .ref l ∧ SqL K H1 l (xs.map V.str) ∧ xs.length ≤ 1000 ∧
  ∀ (ys : List Str) (p : Addr), sortedS ys = true → ys.Nodup → (∀ z, z ∈ ys ↔ z ∈ xs) → H1 p = none → Q (.ref p) (upd H1 p (.lst (ys.map V.str)))
theorem pe_srtSet {a : Expr} {ta : TE} {p p2 q pos : Pos} (hc : X.calm = true) (hg : Gl X "sorted") (hm : X.mg "sorted" = none) (hg2 : Gl X "set") (hm2 : X.mg "set" = none) (ha : PE X a ta)
    (na : starEach [a] X.env = (false, eval a X.env) :: starEach [] X.env := by rfl) : PE X (.Call (.Name "sorted" p) [.Call (.Name "set" p2) [a] [] q] [] pos) (tSrtSet X.K ta) := by
  refine ⟨fun pins s σ H Q I h => ?_⟩
  refine Call_ (ld_blt I hg hm (u := .builtin "sorted") (by decide +kernel) ?_)
  refine PyProof.Rows.callWith_builtin1 (PyProof.Rows.args_cons ?_ rfl) rfl rfl
  refine Call_ (ld_blt I hg2 hm2 boot_set ?_)
  refine PyProof.Rows.callWith_type1 (PyProof.Rows.args_cons (thn (ha.run pins s σ H _ I h) fun v s1 ⟨x, H1, I1, r1, q1⟩ => PyProof.Rows.args_nil ?_) na) na rfl
  obtain ⟨l, xs, rfl, hq, hfew, q1⟩ := q1
  cases r1
  obtain ⟨its, r, pl, hz⟩ := I1.list hq
  refine call_set_txt (I1.ok.hd hc) pl.isList (by simpa using txts_of r) (by unfold scanBound; omega) fun h' tk m hm' hS hk => ?_
  refine PyProof.Rows.args_nil ?_
  have I2 : Inv X pins σ H1 { s1 with heap := h', toks := tk } := I1.kept fun b o e => hk b o (Heap.lt_size e) e
  exact srt_fin I2 hc hS (by omega) fun ys p' hs hnd hmem hn => q1 ys p' hs hnd (fun z => by rw [hmem z, decide_eq_true_eq]) hn
end
end TxSet

/-! Values as data, whatever the row: what is said of a word, a hole, entries, a goal. -/
namespace VA
open PySem L2 SX AddrMath
/-- all but what stands at d is as it was -/
def But (d : Addr) (H H' : Hp) : Prop := ∀ b o, H b = some o → b ≠ d → H' b = some o
theorem same_new {p : Addr} {H : Hp} {o : HO} (h : H p = none) : Same H (upd H p o) := fun b u e => by rw [upd_ne (ne_of_none e h)]; exact e
theorem same_seqT {K : PySem.W.Frag} {H H' : Hp} {a : Addr} {xs : List V} (e : Same H H') (h : SqT K H a xs) : SqT K H' a xs := by
  rcases h with (h | ⟨o, h⟩) | h
  · exact .inl (.inl (e _ _ h))
  · exact .inl (.inr ⟨o, e _ _ h⟩)
  · exact .inr h
/-- a list or a tuple of these is to be read at a -/
def SqA (K : PySem.W.Frag) (H : Hp) (a : Addr) (xs : List V) : Prop := SqL K H a xs ∨ SqT K H a xs
theorem SqA.same {K : PySem.W.Frag} {H H' : Hp} {a : Addr} {xs : List V} (h : SqA K H a xs) (e : Same H H') : SqA K H' a xs := h.imp e.seq (same_seqT e)
/-- a list, a tuple, what is locked -/
def seqO : HO → Bool
  | .lst _ => true
  | .tup _ => true
  | .frz _ _ => true
  | _ => false
/-- lists and tuples stand as they stood -/
def Kp (H H' : Hp) : Prop := ∀ b o, H b = some o → seqO o = true → H' b = some o
theorem kp_same {H H' : Hp} (s : Same H H') : Kp H H' := fun b o e _ => s b o e
theorem Kp.trans {H H1 H2 : Hp} (a : Kp H H1) (b : Kp H1 H2) : Kp H H2 := fun c o e k => b c o (a c o e k) k
theorem kp_put {H : Hp} {p : Addr} {u o : HO} (h : H p = some u) (n : seqO u = false) : Kp H (upd H p o) := fun b v e k => by
  by_cases z : b = p
  · rw [z, h] at e
    cases e
    rw [n] at k
    cases k
  · rw [upd_ne z]
    exact e
theorem kp_but {d : Addr} {H H' : Hp} {u : HO} (h : H d = some u) (n : seqO u = false) (b : But d H H') : Kp H H' := fun c o e k => b c o e fun z => by
  rw [z, h] at e
  cases e
  rw [n] at k
  cases k
theorem Kp.sqL {K : PySem.W.Frag} {H H' : Hp} {a : Addr} {xs : List V} (e : Kp H H') (h : SqL K H a xs) : SqL K H' a xs := by
  rcases h with (h | ⟨o, h⟩) | h
  · exact .inl (.inl (e _ _ h rfl))
  · exact .inl (.inr ⟨o, e _ _ h rfl⟩)
  · exact .inr h
theorem Kp.sqT {K : PySem.W.Frag} {H H' : Hp} {a : Addr} {xs : List V} (e : Kp H H') (h : SqT K H a xs) : SqT K H' a xs := by
  rcases h with (h | ⟨o, h⟩) | h
  · exact .inl (.inl (e _ _ h rfl))
  · exact .inl (.inr ⟨o, e _ _ h rfl⟩)
  · exact .inr h
theorem Kp.sqA {K : PySem.W.Frag} {H H' : Hp} {a : Addr} {xs : List V} (e : Kp H H') (h : SqA K H a xs) : SqA K H' a xs := h.imp e.sqL e.sqT
section
variable {K : PySem.W.Frag}
mutual
theorem dp_kp {H H' : Hp} (s : Kp H H') : ∀ {d : PyData} {v : V}, Dp K H v d → Dp K H' v d
  | .none, _, h => by
    cases h
    exact .non
  | .bool b, _, h => by
    cases h
    exact .bl b
  | .int i, _, h => by
    cases h
    exact .int i
  | .str x, _, h => by
    cases h
    exact .str x
  | .list ds, _, h => by
    cases h with
    | lst h1 h2 => exact .lst (s.sqL h1) (dps_kp s h2)
  | .tuple ds, _, h => by
    cases h with
    | tup h1 h2 => exact .tup (s.sqT h1) (dps_kp s h2)
  | .dict _, _, h => by cases h
theorem dps_kp {H H' : Hp} (s : Kp H H') : ∀ {ds : List PyData} {vs : List V}, DpAll K H vs ds → DpAll K H' vs ds
  | [], _, h => by
    cases h
    exact .nil
  | d :: ds, _, h => by
    cases h with
    | cons h1 h2 => exact .cons (dp_kp s h1) (dps_kp s h2)
end
theorem dp_same {H H' : Hp} (s : Same H H') {d : PyData} {v : V} (h : Dp K H v d) : Dp K H' v d := dp_kp (kp_same s) h
theorem dps_same {H H' : Hp} (s : Same H H') {ds : List PyData} {vs : List V} (h : DpAll K H vs ds) : DpAll K H' vs ds := dps_kp (kp_same s) h
theorem dps_len {H : Hp} : ∀ {ds : List PyData} {vs : List V}, DpAll K H vs ds → vs.length = ds.length
  | [], _, h => by cases h; rfl
  | d :: ds, _, h => by
    cases h with
    | cons h1 h2 => rw [List.length_cons, List.length_cons, dps_len h2]
theorem dps_at {H : Hp} : ∀ {ds : List PyData} {vs : List V}, DpAll K H vs ds → ∀ {v}, v ∈ vs → ∃ d ∈ ds, Dp K H v d
  | [], _, h, v, hv => by cases h; cases hv
  | d :: ds, _, h, v, hv => by
    cases h with
    | cons h1 h2 =>
      rcases List.mem_cons.mp hv with e | e
      · rw [e]
        exact ⟨d, List.mem_cons_self .., h1⟩
      · obtain ⟨d', hd, h'⟩ := dps_at h2 e
        exact ⟨d', List.mem_cons_of_mem _ hd, h'⟩
theorem dps_get {H : Hp} : ∀ {ds : List PyData} {vs : List V}, DpAll K H vs ds → ∀ {i : Nat} {v : V}, vs[i]? = some v → ∃ d, ds[i]? = some d ∧ Dp K H v d
  | [], _, h, i, v, hv => by cases h; cases hv
  | d :: ds, _, h, 0, v, hv => by
    cases h with
    | cons h1 h2 =>
      cases hv
      exact ⟨d, rfl, h1⟩
  | d :: ds, _, h, i + 1, v, hv => by
    cases h with
    | cons h1 h2 => exact dps_get h2 hv
theorem dps_app {H : Hp} : ∀ {ds es : List PyData} {vs us : List V}, DpAll K H vs ds → DpAll K H us es → DpAll K H (vs ++ us) (ds ++ es)
  | [], _, _, _, h, g => by cases h; exact g
  | d :: ds, es, _, us, h, g => by
    cases h with
    | cons h1 h2 => exact .cons h1 (dps_app h2 g)
/-! ### the size of data -/
mutual
def okD : Nat → PyData → Bool
  | _, .none => true
  | _, .bool _ => true
  | _, .int _ => true
  | _, .str x => decide (x.length ≤ 1000) && PyData.strOk x
  | n, .list l => decide (1 ≤ n) && (decide (l.length ≤ 5000) && okAll (n - 1) l)
  | n, .tuple l => decide (1 ≤ n) && (decide (l.length ≤ 5000) && okAll (n - 1) l)
  | _, .dict _ => false
def okAll : Nat → List PyData → Bool
  | _, [] => true
  | n, d :: ds => okD n d && okAll n ds
end
theorem okAll_mem : ∀ {n : Nat} {ds : List PyData}, okAll n ds = true → ∀ d ∈ ds, okD n d = true
  | n, [], _, d, h => by cases h
  | n, e :: ds, h, d, hd => by
    rw [okAll, Bool.and_eq_true] at h
    rcases List.mem_cons.mp hd with z | z
    · rw [z]
      exact h.1
    · exact okAll_mem h.2 d z
theorem okAll_of : ∀ {n : Nat} {ds : List PyData}, (∀ d ∈ ds, okD n d = true) → okAll n ds = true
  | n, [], _ => by rw [okAll]
  | n, e :: ds, h => by
    rw [okAll, Bool.and_eq_true]
    exact ⟨h e (List.mem_cons_self ..), okAll_of fun d hd => h d (List.mem_cons_of_mem _ hd)⟩
mutual
theorem ok_lay : ∀ {n : Nat} {d : PyData}, okD n d = true → d.canLay0 = true ∧ d.depth ≤ n
  | n, .none, _ => ⟨rfl, by simp [PyData.depth]⟩
  | n, .bool _, _ => ⟨rfl, by simp [PyData.depth]⟩
  | n, .int _, _ => ⟨rfl, by simp [PyData.depth]⟩
  | n, .str x, h => by
    rw [okD, Bool.and_eq_true] at h
    exact ⟨by simpa [PyData.canLay0] using h.2, by simp [PyData.depth]⟩
  | n, .list l, h => by
    rw [okD, Bool.and_eq_true, Bool.and_eq_true, decide_eq_true_eq] at h
    have q := oks_lay h.2.2
    refine ⟨by rw [PyData.canLay0]; exact q.1, ?_⟩
    rw [PyData.depth]
    have := h.1
    have := q.2
    omega
  | n, .tuple l, h => by
    rw [okD, Bool.and_eq_true, Bool.and_eq_true, decide_eq_true_eq] at h
    have q := oks_lay h.2.2
    refine ⟨by rw [PyData.canLay0]; exact q.1, ?_⟩
    rw [PyData.depth]
    have := h.1
    have := q.2
    omega
  | n, .dict _, h => by rw [okD] at h; cases h
theorem oks_lay : ∀ {n : Nat} {ds : List PyData}, okAll n ds = true → PyData.canLayAll0 ds = true ∧ PyData.depthAll ds ≤ n
  | n, [], _ => ⟨by rw [PyData.canLayAll0], by rw [PyData.depthAll]; omega⟩
  | n, d :: ds, h => by
    rw [okAll, Bool.and_eq_true] at h
    have a := ok_lay h.1
    have b := oks_lay h.2
    refine ⟨by rw [PyData.canLayAll0, a.1, b.1]; rfl, ?_⟩
    rw [PyData.depthAll]
    have := a.2
    have := b.2
    omega
end
theorem ok_shaped {n : Nat} {d : PyData} (h : okD n d = true) (hn : n ≤ 60) : SeqAt.shaped d = true := by
  have q := ok_lay h
  unfold SeqAt.shaped
  rw [q.1, Bool.true_and]
  exact decide_eq_true (by have := q.2; omega)
mutual
theorem ok_mono : ∀ {n m : Nat} {d : PyData}, n ≤ m → okD n d = true → okD m d = true
  | n, m, .none, _, _ => by rw [okD]
  | n, m, .bool _, _, _ => by rw [okD]
  | n, m, .int _, _, _ => by rw [okD]
  | n, m, .str x, _, h => by rw [okD] at h ⊢; exact h
  | n, m, .list l, k, h => by
    rw [okD, Bool.and_eq_true, Bool.and_eq_true, decide_eq_true_eq] at h ⊢
    exact ⟨by omega, h.2.1, oks_mono (by omega) h.2.2⟩
  | n, m, .tuple l, k, h => by
    rw [okD, Bool.and_eq_true, Bool.and_eq_true, decide_eq_true_eq] at h ⊢
    exact ⟨by omega, h.2.1, oks_mono (by omega) h.2.2⟩
  | n, m, .dict _, _, h => by rw [okD] at h; cases h
theorem oks_mono : ∀ {n m : Nat} {ds : List PyData}, n ≤ m → okAll n ds = true → okAll m ds = true
  | n, m, [], _, _ => by rw [okAll]
  | n, m, d :: ds, k, h => by
    rw [okAll, Bool.and_eq_true] at h ⊢
    exact ⟨ok_mono k h.1, oks_mono k h.2⟩
end
theorem ok_seq {n : Nat} {ds : List PyData} (h : ds.length ≤ 1000) (k : ∀ d ∈ ds, okD n d = true) : okD (n + 1) (.list ds) = true ∧ okD (n + 1) (.tuple ds) = true := by
  constructor
  · rw [okD, Bool.and_eq_true, Bool.and_eq_true, decide_eq_true_eq, decide_eq_true_eq]
    exact ⟨by omega, by omega, okAll_of k⟩
  · rw [okD, Bool.and_eq_true, Bool.and_eq_true, decide_eq_true_eq, decide_eq_true_eq]
    exact ⟨by omega, by omega, okAll_of k⟩
/-! ### a value that is data, or a dict -/
def Vx (K : PySem.W.Frag) (H : Hp) (x : V) (d : PyData) : Prop := (Dp K H x d ∧ okD 8 d = true) ∨ ∃ a kvs, x = .ref a ∧ H a = some (.dK kvs) ∧ d = .dict []
theorem Vx.same {H H' : Hp} {x : V} {d : PyData} (h : Vx K H x d) (s : Same H H') : Vx K H' x d := by
  rcases h with ⟨h, o⟩ | ⟨a, kvs, e, h, q⟩
  · exact .inl ⟨dp_same s h, o⟩
  · exact .inr ⟨a, kvs, e, s _ _ h, q⟩
def tyN : PyData → String
  | .none => "NoneType"
  | .bool _ => "bool"
  | .int _ => "int"
  | .str _ => "str"
  | .list _ => "list"
  | .tuple _ => "tuple"
  | .dict _ => "dict"
theorem sql_ty {H : Hp} {a : Addr} {xs : List V} (h : SqL K H a xs) : TyX K H (.ref a) (.type "list") := by
  rcases h with (h | ⟨o, h⟩) | ⟨o, its, n, h1, h2, _⟩
  · exact .base (.lst h)
  · exact .base (.frz h)
  · exact .kList h1 h2
theorem sqt_ty {H : Hp} {a : Addr} {xs : List V} (h : SqT K H a xs) : TyX K H (.ref a) (.type "tuple") := by
  rcases h with (h | ⟨o, h⟩) | ⟨o, its, n, h1, h2, _⟩
  · exact .base (.tup h)
  · exact .fTuple h
  · exact .kTuple h1 h2
theorem dp_ty {H : Hp} {x : V} {d : PyData} (h : Dp K H x d) : TyX K H x (.type (tyN d)) := by
  cases h with
  | non => exact .base .non
  | bl b => exact .base (.bl b)
  | int i => exact .base (.int i)
  | str z => exact .base (.str z)
  | lst h1 h2 => exact sql_ty h1
  | tup h1 h2 => exact sqt_ty h1
theorem Vx.ty {H : Hp} {x : V} {d : PyData} (h : Vx K H x d) : TyX K H x (.type (tyN d)) := by
  rcases h with ⟨h, _⟩ | ⟨a, kvs, rfl, h, rfl⟩
  · exact dp_ty h
  · exact .base (.dK h)
/-! ### what is a word, a hole, entries, a goal -/
def isWordD : PyData → Bool
  | .str x => isW x.cps.toList
  | _ => false
def isIntD : PyData → Bool
  | .int _ => true
  | _ => false
def isHoleD : PyData → Bool
  | .int i => decide (1 ≤ i) && decide (i ≤ 2)
  | _ => false
def isEntD (d : PyData) : Bool := isWordD d || isHoleD d
def isSeqD : PyData → Bool
  | .list _ => true
  | .tuple _ => true
  | _ => false
def itemsD : PyData → List PyData
  | .list l => l
  | .tuple l => l
  | _ => []
def areEntD (most : Int) (d : PyData) : Bool := isSeqD d && (decide (((itemsD d).length : Int) ≤ most) && (itemsD d).all isEntD)
/-- an entry is among these -/
def inD (e : PyData) (ds : List PyData) : Bool := ds.any fun d => PyData.eqv d e
def isGoalD (g p : PyData) : Bool := match g with
  | .none => true
  | .tuple [s, b] => isWordD s && (areEntD 4 b && (itemsD b).all fun e => isWordD e || inD e (itemsD p))
  | _ => false
/-- the first wrong argument of a rule -/
def wrongD (s p g x : PyData) : Option Str :=
  if isWordD s = false then some (Str.ofString "state") else if areEntD 2 p = false then some (Str.ofString "pattern") else if isGoalD g p = false then some (Str.ofString "goal")
  else match x with
    | .bool _ => none
    | _ => some (Str.ofString "is_exact")
/-- an entry's value -/
def entV : PyData → V
  | .int i => .int i
  | .str x => .str x
  | _ => .non
theorem ent_val {H : Hp} {x : V} {d : PyData} (h : Dp K H x d) (e : isEntD d = true) : x = entV d := by
  cases h with
  | int i => rfl
  | str z => rfl
  | non => cases e
  | bl b => cases e
  | lst h1 h2 => cases e
  | tup h1 h2 => cases e
theorem ents_val {H : Hp} : ∀ {ds : List PyData} {vs : List V}, DpAll K H vs ds → ds.all isEntD = true → vs = ds.map entV
  | [], _, h, _ => by cases h; rfl
  | d :: ds, _, h, e => by
    cases h with
    | cons h1 h2 =>
      rw [List.all_cons, Bool.and_eq_true] at e
      rw [List.map_cons, ← ent_val h1 e.1, ← ents_val h2 e.2]
theorem ent_dp {H : Hp} {d : PyData} (e : isEntD d = true) : Dp K H (entV d) d := by
  cases d with
  | int i => exact .int i
  | str z => exact .str z
  | _ => cases e
theorem ents_dp {H : Hp} : ∀ {ds : List PyData}, ds.all isEntD = true → DpAll K H (ds.map entV) ds
  | [], _ => .nil
  | d :: ds, e => by
    rw [List.all_cons, Bool.and_eq_true] at e
    exact .cons (ent_dp e.1) (ents_dp e.2)
theorem ent_flat {d : PyData} (e : isEntD d = true) : flatV (entV d) = true := by
  cases d with
  | int i => rfl
  | str z => rfl
  | _ => cases e
theorem ents_flat : ∀ {ds : List PyData}, ds.all isEntD = true → (ds.map entV).all flatV = true
  | [], _ => rfl
  | d :: ds, e => by
    rw [List.all_cons, Bool.and_eq_true] at e
    rw [List.map_cons, List.all_cons, ent_flat e.1, ents_flat e.2]
    rfl
theorem eqv_ent {d e : PyData} (hd : isEntD d = true) (he : isEntD e = true) : eqV (entV d) (entV e) = PyData.eqv d e := by
  cases d with
  | int i =>
    cases e with
    | int j => simp [entV, eqV, PyData.eqv]
    | str z => simp [entV, eqV, PyData.eqv]
    | _ => cases he
  | str z =>
    cases e with
    | int j => simp [entV, eqV, PyData.eqv]
    | str y => simp [entV, eqV, PyData.eqv]
    | _ => cases he
  | _ => cases hd
theorem inV_ent {e : PyData} (he : isEntD e = true) : ∀ {ds : List PyData}, ds.all isEntD = true → inV (entV e) (ds.map entV) = inD e ds
  | [], _ => rfl
  | d :: ds, h => by
    rw [List.all_cons, Bool.and_eq_true] at h
    have ih := inV_ent he h.2
    unfold inV inD at ih ⊢
    rw [List.map_cons, List.any_cons, List.any_cons, eqv_ent h.1 he, ih]
/-! ### a word, by the signs -/
theorem asc_facts : ∀ c : Nat, c < 128 → (Unicode.isAlpha c && !(Unicode.isUpper c || Unicode.isTitle c)) = isL c := by decide +kernel
theorem low_facts : ∀ k : Nat, k < 26 → Unicode.isLower (97 + k) = true := by decide +kernel
theorem word_txt (x : Str) (h1 : 1 ≤ x.length) (h8 : x.length ≤ 8) : (Txt.isascii x && (Txt.isalpha x && Txt.islower x)) = isW x.cps.toList := by
  have hl : x.cps.toList.length = x.length := (TL.len_tl x).symm
  have e1 : Txt.isascii x = x.cps.toList.all (fun c => decide (c < 128)) := by
    unfold Txt.isascii
    rw [← Array.all_toList]
  have e2 : Txt.isalpha x = x.cps.toList.all (fun c => Unicode.isAlpha c) := by
    unfold Txt.isalpha
    rw [← Array.all_toList, decide_eq_true (show x.length > 0 from h1), Bool.true_and]
  have e3 : Txt.islower x = (x.cps.toList.any (fun c => Unicode.isLower c) && !(x.cps.toList.any fun c => Unicode.isUpper c || Unicode.isTitle c)) := by
    unfold Txt.islower
    rw [← Array.any_toList, ← Array.any_toList]
  rw [e1, e2, e3]
  cases hW : isW x.cps.toList with
  | true =>
    have hw := (isW_iff.mp hW).2.2
    have le : ∀ c ∈ x.cps.toList, c < 128 := fun c hc => by
      have := hw c hc
      unfold isL at this
      rw [Bool.and_eq_true, decide_eq_true_eq, decide_eq_true_eq] at this
      omega
    have f : ∀ c ∈ x.cps.toList, Unicode.isAlpha c = true ∧ (Unicode.isUpper c || Unicode.isTitle c) = false := fun c hc => by
      have q := asc_facts c (le c hc)
      rw [hw c hc, Bool.and_eq_true, Bool.not_eq_true'] at q
      exact q
    rw [List.all_eq_true.mpr fun c hc => decide_eq_true (le c hc), List.all_eq_true.mpr fun c hc => (f c hc).1]
    have e4 : (x.cps.toList.any fun c => Unicode.isUpper c || Unicode.isTitle c) = false := List.any_eq_false.mpr fun c hc => by rw [(f c hc).2]; exact Bool.false_ne_true
    rw [e4]
    obtain ⟨c, r, e⟩ : ∃ c r, x.cps.toList = c :: r := by
      cases q : x.cps.toList with
      | nil =>
        rw [q] at hl
        have : (0 : Nat) = x.length := hl
        omega
      | cons c r => exact ⟨c, r, rfl⟩
    have hc : isL c = true := hw c (by rw [e]; exact List.mem_cons_self ..)
    have lc : Unicode.isLower c = true := by
      unfold isL at hc
      rw [Bool.and_eq_true, decide_eq_true_eq, decide_eq_true_eq] at hc
      have z := low_facts (c - 97) (by omega)
      rw [show 97 + (c - 97) = c by omega] at z
      exact z
    rw [e, List.any_cons, lc]
    rfl
  | false =>
    cases h : (x.cps.toList.all (fun c => decide (c < 128)) && (x.cps.toList.all (fun c => Unicode.isAlpha c) && (x.cps.toList.any (fun c => Unicode.isLower c) && !(x.cps.toList.any fun c => Unicode.isUpper c || Unicode.isTitle c)))) with
    | false => rfl
    | true =>
      rw [Bool.and_eq_true, Bool.and_eq_true, Bool.and_eq_true, List.all_eq_true, List.all_eq_true, Bool.not_eq_true', List.any_eq_false] at h
      obtain ⟨a, b, c, d⟩ := h
      have : isW x.cps.toList = true := isW_iff.mpr ⟨by rw [hl]; exact h1, by rw [hl]; exact h8, fun z hz => by
        have q := asc_facts z (by have := a z hz; exact of_decide_eq_true this)
        rw [b z hz, Bool.eq_false_iff.mpr (d z hz)] at q
        exact q.symm⟩
      rw [this] at hW
      cases hW
theorem word_len {x : Str} (h : isW x.cps.toList = true) : 1 ≤ x.length ∧ x.length ≤ 8 := by
  have q := isW_iff.mp h
  have hl : x.cps.toList.length = x.length := (TL.len_tl x).symm
  rw [hl] at q
  exact ⟨q.1, q.2.1⟩
end
end VA

/-! Rules beside the hand layer's: what is walked may be a list or a tuple; a comprehension that maps; a def of the text with all that a call of it wants. -/
namespace VA
open PySem L2 SX AddrMath
/-- a def of the text and all that a call of it wants -/
structure Own (P : Program) (w : World) (K : PySem.W.Frag) (mg : Str → Option Value) (base : Heap) (CX : CXT) (n : Nat) (x : Str) (ps : List Str) (sp : Sp) where
  f : Addr
  fd : FuncData
  g : FnOk P w K mg base CX n f fd ps sp
  mg : mg x = some (.ref f)
  kp : PySem.W.keepIn K (.ref f) = true
  b : Binds K fd ps []
theorem st_is {A : L2.St → Hp → Prop} {σ σ' : L2.St} {H : Hp} (e : σ = σ') (h : A σ' H) : A σ H := by rw [e]; exact h
theorem hp_is {A : L2.St → Hp → Prop} {σ : L2.St} {H H' : Hp} (e : H = H') (h : A σ H') : A σ H := by rw [e]; exact h
section
variable {X : Cx} {tg : Expr}
def iSeq (K : PySem.W.Frag) (te : TE) : TI := fun σ H R => te σ H fun x H1 => ∃ a, x = .ref a ∧ (((∃ xs, SqL K H1 a xs) ∧ R (Itl K a) H1) ∨ ((∃ xs, SqT K H1 a xs) ∧ R (Itt K a) H1))
theorem pi_seq {e : Expr} {te : TE} (pe : PE X e te) : PI X tg e (iSeq X.K te) := by
  refine ⟨fun pn s σ H R J h => ?_⟩
  refine thn (pe.run pn s σ H _ J h) fun v s2 ⟨x, H2, J2, rx, q2⟩ => ?_
  obtain ⟨a, ex, q2⟩ := q2
  subst ex
  cases rx
  rcases q2 with ⟨⟨xs, hq⟩, q⟩ | ⟨⟨xs, hq⟩, q⟩
  · obtain ⟨its, rv, p, hz⟩ := J2.list hq
    refine wpAny_pyIter_list p.isList ⟨s2.heap.objs.size, [s2.heap.objs.size], _, _, H2, rfl, J2.kept (t' := s2.toks) fun b o z => Heap.get?_push_of_some _ z, turn_list a _, ⟨_, Heap.get?_push_size _ rfl, rfl, rfl⟩, fun b hb => ?_, q⟩
    obtain rfl : b = s2.heap.objs.size := by simpa using hb
    exact J2.fpOk (Nat.le_refl _) (J2.hok.fresh (Nat.le_refl _))
  · obtain ⟨its, rv, p, hz⟩ := J2.tuple hq
    refine wpAny_pyIter_tuple (show s2.heap.IsTuple a its.toArray from p) ⟨s2.heap.objs.size, [s2.heap.objs.size], _, _, H2, rfl, J2.kept (t' := s2.toks) fun b o z => Heap.get?_push_of_some _ z, turn_tuple a _, ⟨_, Heap.get?_push_size _ rfl, rfl, rfl⟩, fun b hb => ?_, q⟩
    obtain rfl : b = s2.heap.objs.size := by simpa using hb
    exact J2.fpOk (Nat.le_refl _) (J2.hok.fresh (Nat.le_refl _))
end
theorem take_snoc {α : Type} {xs : List α} {i : Nat} {x : α} (h : xs[i]? = some x) : xs.take (i + 1) = xs.take i ++ [x] := by
  rw [List.take_succ, h]
  rfl
/-- a comprehension over a list or a tuple whose test and element are known by values, and leave what stands -/
theorem seq_map {K : PySem.W.Frag} {a : Addr} {xs : List V} {j : Nat} {tt : TT} {te : TE} {vs : List Nat} {σ : L2.St} {H1 : Hp} {Qd : Addr → Hp → Prop} (hq : SqA K H1 a xs) (few : xs.length ≤ 1000) (p : V → Bool) (F : V → V)
    (hw : ∀ x, wipe ((wipe σ vs).set j (some x)) vs = wipe σ vs)
    (step : ∀ x ∈ xs, ∀ H, Same H1 H → (∀ R : Bool → Hp → Prop, (∀ H', Same H H' → R (p x) H') → tt ((wipe σ vs).set j (some x)) H R) ∧ (p x = true → ∀ H', Same H H' → ∀ R : VK, (∀ H'', Same H' H'' → R (F x) H'') → te ((wipe σ vs).set j (some x)) H' R))
    (fin : ∀ D H', H1 D = none → H' D = some (.lst ((xs.filter p).map F)) → Same H1 H' → Qd D H') :
    ∃ a', V.ref a = V.ref a' ∧ (((∃ ys, SqL K H1 a' ys) ∧ ∀ D, H1 D = none → ∃ W : Nat → Nat → Hp → Prop, (∃ m, W 0 m (upd H1 D (.lst []))) ∧ ∀ i m H, W i m H →
      ((Itl K a').stop i H ∧ Qd D H) ∨ ((Itl K a').go i H ∧ ∃ Nx : Hp → Prop, (∀ H', Nx H' → ∃ m', m' < m ∧ W (i + 1) m' H') ∧ ∀ x H', (Itl K a').yld i H x H' → gName j x (wipe σ vs) H' fun σ2 H2 => wipe σ2 vs = wipe σ vs ∧ tt σ2 H2 fun b H3 =>
        if b = true then te σ2 H3 fun y H4 => ∃ acc, H4 D = some (.lst acc) ∧ acc.length < sizeLine ∧ Nx (upd H4 D (.lst (acc ++ [y]))) else Nx H3)) ∨
     ((∃ ys, SqT K H1 a' ys) ∧ ∀ D, H1 D = none → ∃ W : Nat → Nat → Hp → Prop, (∃ m, W 0 m (upd H1 D (.lst []))) ∧ ∀ i m H, W i m H →
      ((Itt K a').stop i H ∧ Qd D H) ∨ ((Itt K a').go i H ∧ ∃ Nx : Hp → Prop, (∀ H', Nx H' → ∃ m', m' < m ∧ W (i + 1) m' H') ∧ ∀ x H', (Itt K a').yld i H x H' → gName j x (wipe σ vs) H' fun σ2 H2 => wipe σ2 vs = wipe σ vs ∧ tt σ2 H2 fun b H3 =>
        if b = true then te σ2 H3 fun y H4 => ∃ acc, H4 D = some (.lst acc) ∧ acc.length < sizeLine ∧ Nx (upd H4 D (.lst (acc ++ [y]))) else Nx H3))) := by
  have key : ∀ D, H1 D = none → ∀ i x H, xs[i]? = some x → (Same H1 H ∧ H D = some (.lst (((xs.take i).filter p).map F))) → gName j x (wipe σ vs) H fun σ2 H2 => wipe σ2 vs = wipe σ vs ∧ tt σ2 H2 fun b H3 =>
        if b = true then te σ2 H3 fun y H4 => ∃ acc, H4 D = some (.lst acc) ∧ acc.length < sizeLine ∧ (Same H1 (upd H4 D (.lst (acc ++ [y]))) ∧ (upd H4 D (.lst (acc ++ [y]))) D = some (.lst (((xs.take (i + 1)).filter p).map F))) else (Same H1 H3 ∧ H3 D = some (.lst (((xs.take (i + 1)).filter p).map F))) := by
    rintro D nD i x H hx ⟨s1, hD⟩
    have hm : x ∈ xs := List.mem_of_getElem? hx
    obtain ⟨t1, t2⟩ := step x hm H s1
    refine ⟨hw x, t1 _ fun H' s2 => ?_⟩
    have hD2 := s2 _ _ hD
    rw [take_snoc hx, List.filter_append, List.map_append]
    cases e : p x with
    | false =>
      refine iteF ⟨s1.trans s2, ?_⟩
      rw [show [x].filter p = [] by simp [e], List.map_nil, List.append_nil]
      exact hD2
    | true =>
      refine iteT (t2 e H' s2 _ fun H'' s3 => ⟨_, s3 _ _ hD2, ?_, fun b o z => ?_, ?_⟩)
      · refine small1000 (Nat.le_trans ?_ few)
        rw [List.length_map]
        exact Nat.le_trans (List.length_filter_le _ _) (by rw [List.length_take]; exact Nat.min_le_right _ _)
      · rw [upd_ne (ne_of_none z nD)]
        exact s3 _ _ (s2 _ _ (s1 _ _ z))
      · rw [upd_same, show [x].filter p = [x] by simp [e]]
        rfl
  have fin' : ∀ D, H1 D = none → ∀ H, (Same H1 H ∧ H D = some (.lst (((xs.take xs.length).filter p).map F))) → Qd D H := by
    rintro D nD H ⟨s1, hD⟩
    rw [List.take_length] at hD
    exact fin D H nD hD s1
  refine ⟨a, rfl, ?_⟩
  rcases hq with hq | hq
  · exact .inl ⟨⟨xs, hq⟩, fun D nD => lc_list (K := K) (a := a) (xs := xs) (fun i H => Same H1 H ∧ H D = some (.lst (((xs.take i).filter p).map F))) ⟨same_new nD, upd_same⟩ (fun i H _ z => z.1.seq hq) (key D nD) (fin' D nD)⟩
  · exact .inr ⟨⟨xs, hq⟩, fun D nD => lc_tup (K := K) (a := a) (xs := xs) (fun i H => Same H1 H ∧ H D = some (.lst (((xs.take i).filter p).map F))) ⟨same_new nD, upd_same⟩ (fun i H _ z => same_seqT z.1 hq) (key D nD) (fin' D nD)⟩
theorem filter_yes {α : Type} (xs : List α) : xs.filter (fun _ => true) = xs := by simp
theorem no_test {σ : L2.St} {H : Hp} {R : Bool → Hp → Prop} (h : ∀ H', Same H H' → R true H') : tYes σ H R := h H (Same.refl H)
end VA
namespace VA
open PySem L2 SX AddrMath
theorem op_inK {X : Cx} {K : PySem.W.Frag} (h : X.K = K) : OpR X (compareOp .In) (rIn K false) := by
  subst h
  exact op_in_seq
theorem op_notInK {X : Cx} {K : PySem.W.Frag} (h : X.K = K) : OpR X (compareOp .NotIn) (rIn K true) := by
  subst h
  exact op_notIn_seq
end VA
namespace VA
open PySem L2 SX AddrMath
/-- tuple(x), x a list or a tuple: a tuple of the same -/
def rTupA (K : PySem.W.Frag) : List V → Hp → VK → Prop := fun xs H Q => ∃ p ys, xs = [V.ref p] ∧ SqA K H p ys ∧ ∀ t H', SqT K H' t ys → Same H H' → Q (.ref t) H'
theorem call_tupA {X : Cx} : CallR X (.type "tuple") (rTupA X.K) := by
  intro pn s σ H xs us Q J r h
  obtain ⟨p, ys, e, hp, q⟩ := h
  refine call_tuple_of pn s σ H xs us Q J r ⟨p, ys, e, ?_⟩
  rcases hp with hp | hp
  · exact .inl ⟨hp, fun l nl => q l _ (.inl (.inl upd_same)) (same_new nl)⟩
  · exact .inr ⟨hp, q p H hp (Same.refl H)⟩
/-- t + u of tuples -/
def rCatB (K : PySem.W.Frag) : R2 := fun x y H Q => ∃ a b xs ys, x = .ref a ∧ y = .ref b ∧ SqT K H a xs ∧ SqT K H b ys ∧ xs.length + ys.length ≤ 1000 ∧ ∀ t H', SqT K H' t (xs ++ ys) → Same H H' → Q (.ref t) H'
theorem op_catB {X : Cx} : OpR X (binaryOp .Add) (rCatB X.K) := by
  intro pn s σ H x y v u Q J rx ry h
  obtain ⟨a, b, xs, ys, ex, ey, ha, hb, few, q⟩ := h
  refine op_catA pn s σ H x y v u Q J rx ry ⟨a, b, xs, ys, ex, ey, ha, hb, Nat.le_of_lt (small1000 few), fun e => ?_, fun _ e => ?_, fun _ _ t nt => q t _ (.inl (.inl upd_same)) (same_new nt)⟩
  · subst e
    exact q b H hb (Same.refl H)
  · subst e
    refine q a H ?_ (Same.refl H)
    rw [List.append_nil]
    exact ha
/-- list(x), x a list or a tuple: a new list -/
def rLstA (K : PySem.W.Frag) : List V → Hp → VK → Prop := fun xs H Q => ∃ p ys, xs = [V.ref p] ∧ SqA K H p ys ∧ ∀ l, H l = none → Q (.ref l) (upd H l (.lst ys))
theorem call_lstA {X : Cx} : CallR X (.type "list") (rLstA X.K) := by
  intro pn s σ H xs us Q J r h
  obtain ⟨p, ys, e, hp, q⟩ := h
  exact call_list_of pn s σ H xs us Q J r ⟨p, ys, e, hp, q⟩
end VA
namespace VA
open PySem L2 SX AddrMath
/-- an expression's reading, said otherwise -/
theorem pe_by {X : Cx} {e : Expr} {t : TE} (t' : TE) (h : PE X e t) (k : ∀ σ H Q, t' σ H Q → t σ H Q) : PE X e t' := ⟨fun pn s σ H Q J w => h.run pn s σ H Q J (k σ H Q w)⟩
theorem ps_by {X : Cx} {st : Stmt} {t : TS} (t' : TS) (h : PS X st t) (k : ∀ D σ H, t' D σ H → t D σ H) : PS X st t' := ⟨fun pn s σ H D J w => h.run pn s σ H D J (k D σ H w)⟩
theorem pss_by {X : Cx} {st : List Stmt} {t : TS} (t' : TS) (h : PSs X st t) (k : ∀ D σ H, t' D σ H → t D σ H) : PSs X st t' := ⟨fun pn s σ H D J w => h.run pn s σ H D J (k D σ H w)⟩
theorem pt_by {X : Cx} {e : Expr} {t : TT} (t' : TT) (h : PT X e t) (k : ∀ σ H Q, t' σ H Q → t σ H Q) : PT X e t' := ⟨fun pn s σ H Q J w => h.run pn s σ H Q J (k σ H Q w)⟩
end VA

/-! len of a written dict. -/
namespace VA
open PySem PySem.Spec PyProof.Rows L2
section
variable {prog : Program} {w : World} {A : Around} {E : Value → Shared → Prop} {s : Shared} {d : Addr} {es : Array DictEntry} {ep : Nat}
theorem len_raw {Q : Value → Shared → Prop} (hd : (d == sysModules) = false) (hm : s.heap.DictRaw d es ep) (few : (es.size : Int) < 2 ^ 63)
    (h : Q (.int es.size (s.toks + 1)) { s with toks := s.toks + 1 + 1 }) : wpAny (model prog w) A (call (.builtin "len") [.ref d]) Q E s := by
  refine Calls.call_function_entry kind_len plain_len entry_len (args_len1 _) ?_
  unfold Builtin.«len»
  refine wpAny_bind (m := oneArg "len" _) (wpAny_pure ?_)
  refine wpAny_bind (m := callSpecial? (.ref d) (Str.ofString "__len__")) (wpAny_callSpecial?_slot (name := Str.ofString "__len__") hm.typeIs F.slot_dict_len (call_len_raw hd hm ?_))
  show wpAny _ _ _ _ _ { s with toks := s.toks + 1 }
  refine wpAny_bind (wpAny_holding (wpAny_pure ?_))
  refine wpAny_bind (wpAny_letGo ?_)
  show wpAny _ _ (if ((es.size : Nat) : Int) < 0 then _ else _) _ _ _
  rw [if_neg (by omega)]
  show wpAny _ _ (if ((es.size : Nat) : Int) ≥ 2 ^ 63 then _ else _) _ _ _
  rw [if_neg (by omega)]
  exact wpAny_bind (wpAny_mkInt (wpAny_pure ⟨_, rfl, h⟩))
end
/-- len(d), d a dict of the written part -/
theorem call_lenK {X : Cx} {d : Addr} {es : Array DictEntry} {n : Nat} (at_ : X.K.lookup d = some ⟨.type "dict", none, .dict es n, #[]⟩) (low : (d == sysModules) = false) (few : (es.size : Int) < 2 ^ 63) :
    CallR X (.builtin "len") (fun xs H Q => xs = [V.ref d] ∧ Q (.int es.size) H) := by
  intro pn s σ H xs us Q J r h
  obtain ⟨rfl, q⟩ := h
  obtain ⟨u, rfl, ru⟩ := vals1 r
  cases ru
  exact len_raw low ⟨_, J.kIn _ _ at_, ⟨rfl, rfl, rfl⟩, rfl⟩ few ⟨.int es.size, H, J.tok _, ⟨_, rfl⟩, q⟩
end VA

/-! Own errors of one field: made, caught, looked at; an instance made with keywords where it may raise. -/
namespace K3X
open PySem PySem.W PySem.Spec PySem.Calls PyProof.Rows
variable {pr : Program} {wo : World} {Ar : Around} {Er : Value → Shared → Prop} {F : Frag} {x D : Addr} {ox : Obj}
/-- e.__class__ of an error that has its own dict -/
theorem cls_xd {s : Shared} {od : Obj} {G : Option Value → Shared → Prop} (C : L2.ExcC F D) (inF : F.In s.heap) (at_ : InstAt s.heap x ox D (some od)) (fin : G (some (.ref D)) { s with toks := s.toks + 1 }) :
    wpAny (model pr wo) Ar (getAttr? (.ref x) "__class__") G Er s := by
  have found : findObj F D (some od) "__class__" = some (.bind (.builtin "getset_descriptor.__get__") (.builtin "object.__class__")) :=
    findObj_data (by obtain ⟨_, hcd, _⟩ := any_some C.hd; rw [hcd]; rfl) C.ha C.hn C.ht
  obtain ⟨hh, ge, dr, tk, os⟩ := s
  have lt := at_.type (M := model pr wo); have lg := looks_findIn (M := model pr wo) inF C.hg
  have lk := looks_findIn (M := model pr wo) inF C.hk; have lf := looks_find (M := model pr wo) inF at_ found
  have isB : Looks (model pr wo) hh (isInstance (.ref x) (.type "BaseException")) true := lt.andThen (looks_subIn inF C.hs)
  have n2 : (Value.builtin "BaseException.__getattribute__" == Value.builtin "object.__getattribute__") = false := by decide +kernel
  have n1 : (onTheHeap (Value.ref D) && Value.builtin "BaseException.__getattribute__" == Value.builtin "object.__getattribute__") = false := by rw [n2]; rfl
  unfold getAttr? getAttrBy? getAttrBy; refine wpAny_bind (wpAny_mkText (wpAny_bind (wpAny_attempt (wpAny_holding (wpAny_bind (lt.at (wpAny_bind (lg.at ?_))))))))
  show wpAny _ _ (ite ((onTheHeap (Value.ref D) && Value.builtin "BaseException.__getattribute__" == Value.builtin "object.__getattribute__") = true) _ _) _ _ _
  rw [n1, if_neg Bool.false_ne_true]; unfold getAttrByItsOwn hookBefore
  refine wpAny_bind ?_; rw [if_pos (show onTheHeap (Value.ref D) = true from rfl)]; refine lk.at ?_
  refine wpAny_bind (wpAny_attempt (wpAny_holding ?_)); unfold callGetattribute
  rw [show (false && onTheHeap (Value.builtin "BaseException.__getattribute__")) = false from rfl, if_neg Bool.false_ne_true]; unfold boundAndCalled
  rw [PySem.F.excAttr_ValueError.ga.bind (.ref x)]; refine wpAny_bind (wpAny_pure ?_)
  show wpAny _ _ (call (.builtin "BaseException.__getattribute__") [.ref x, .str "__class__" tk]) _ _ _
  refine wpAny_call (codeAny_call_builtin PySem.F.excAttr_ValueError.ga.plain PySem.F.entry_bexc_ga (@check_slot (model pr wo) _ _ ⟨hh, ge, dr, tk + 1, os⟩ "BaseException.__getattribute__" "BaseException" "__getattribute__" (.ref x)
    [.str "__class__" tk] [] _ (by decide +kernel) (by decide +kernel) isB (PySem.F.args_bexc_ga (.ref x) (.str "__class__" tk)) ?_))
  unfold Builtin.«object.__getattribute__»; refine wpAny_bind (wpAny_of_eq (a := ((Value.ref x : Value), [Value.str "__class__" tk])) (by first | rfl | (simp only [slotArgs]; rfl)) ?_)
  refine wpAny_bind (wpAny_pure (wpAny_bind (lt.at (wpAny_bind (lf.at ?_)))))
  show wpAny _ _ (holding [Value.builtin "object.__class__"] (call (.builtin "getset_descriptor.__get__") [.builtin "object.__class__", .ref x, .ref D]) >>= ret) _ _ _
  refine wpAny_bind (wpAny_holding (wpAny_call (class_get (s := ⟨hh, ge, dr, tk + 1, os⟩) (ox := ox) (od := some od) inF at_ C.hm (wpAny_pure ?_))))
  show wpAny _ _ (handedOut (.ref D)) _ _ _
  rw [handedOut_of (v := .ref D) rfl]
  first
    | exact wpAny_pure (wpAny_pure fin)
    | exact wpAny_pure fin
    | exact wpAny_pure (wpAny_bind (wpAny_pure (wpAny_pure fin)))
/-- the class's own record -/
theorem rec_of {h : Heap} (C : L2.ExcC F D) (inF : F.In h) : ∃ o cd, h.get? D = some o ∧ o.data = .cls cd ∧ F.lookup D = some o := by
  obtain ⟨cd, hcd, _⟩ := any_some C.hd
  unfold clsIn at hcd
  split at hcd
  · rename_i c1 d1 cd1 sl1 ho
    exact ⟨_, cd1, inF _ _ ho, rfl, ho⟩
  · cases hcd
theorem kit_xd (C : L2.ExcC F D) : KitX F (.ref x) (.ref D) (fun h => ∃ od, InstAt h x ox D (some od)) where
  ty := fun _ _ _ ⟨_, I⟩ => I.type
  it := fun _ _ inF _ => by
    intro A1 Q1 E1 s1 kp q
    obtain ⟨o, cd, ho, hd, _⟩ := rec_of C inF
    unfold isType loadHead
    exact wpAny_bind (wpAny_loadPart (kp _ _ ho) (by rw [hd]; exact wpAny_pure q))
  ne := fun h tp dd its n sl inF htp => by
    obtain ⟨o, cd, ho, hd, _⟩ := rec_of C inF
    refine Bool.eq_false_iff.mpr fun q => ?_
    have e : D = tp := Value.ref.inj (beq_iff_eq.mp q)
    subst e
    rw [ho] at htp
    have z := Option.some.inj htp
    rw [z] at hd
    cases hd
  ca := fun inF ⟨_, I⟩ k => cls_xd C inF I k
end K3X
namespace VA
open PySem L2 SX AddrMath
/-- isinstance(e, c), e the caught error with a dict of its own -/
def rIsX (F : PySem.W.Frag) (D a : Addr) (cls : Value) (d : Option Addr) : List V → Hp → VK → Prop := fun xs H Q => ∃ (c : V) (cv : Value) (b : Bool) (dd : Addr) (fs : List (Str × V)), xs = [.ref a, c] ∧ cls = .ref D ∧ (∀ u, RelV c u → u = cv) ∧ d = some dd ∧ H dd = some (.xd fs) ∧ PySem.W.kitOne F (.ref D) cv = some b ∧ Q (.bl b) H
theorem call_isX {X : Cx} {a D : Addr} {cls : Value} {d : Option Addr} {oe : Obj} {pn : List (Addr × Obj)} (C : ExcC X.K D) (hz : Zc cls d oe) (hf : ∃ vs, oe.data = .fields vs) : CallR (X.suite a ((a, oe) :: pn)) (.builtin "isinstance") (rIsX X.K D a cls d) := by
  intro pins s σ H xs us Q I r h
  obtain ⟨c, cv, b, dd, fs, rfl, ecl, hcv, rfl, hdd, e, q⟩ := h
  subst ecl
  cases r with
  | cons rx rr =>
    cases rr with
    | cons rt rr =>
      cases rr
      cases rx
      obtain rfl := hcv _ rt
      have ha := (I.pin (a, oe) (List.mem_append_left _ List.mem_cons_self)).1
      obtain ⟨vs, hv⟩ := hf
      have hx : ObjOk X.prog X.w H s.heap dd (.xd fs) := I.hok dd _ hdd
      obtain ⟨mA, hns, _⟩ := hx
      obtain ⟨od, ho, _⟩ := lookIn_ns hns
      have J : PySem.W.InstAt s.heap a oe D (some od) := ⟨ha, hz.1, by unfold PySem.W.notCls; rw [hv] <;> rfl, by rw [hz.2]; exact ho⟩
      exact PySem.W.kia_one (K3X.kit_xd C) I.kIn ⟨od, J⟩ e (fun z => nomatch z) fun tk => ⟨.bl b, H, I.kept (t' := tk) fun _ _ z => z, rfl, q⟩
end VA
namespace VA
open PySem L2 SX AddrMath PySem.Spec PyProof.Rows
/-- what the text says of an own error with one field n, at C, and of its __init__, at fI -/
structure ErrC (K : PySem.W.Frag) (mg : Str → Option Value) (x n : Str) (C fI : Addr) : Prop where
  ox : OexC K C
  iC : PySem.W.findIn K (.ref C) "__init__" = some (some (.ref fI))
  tI : PySem.W.typeIn K (.ref fI) = some (.type "function")
  no : PySem.W.findIn K (.ref C) n = some none
  mgC : mg x = some (.ref C)
abbrev ixF (n : Str) (v : V) : List (Str × V) := [(n, v)]
def spErr (n : Str) (C : Addr) : Sp := fun vs H Q _ => ∃ (a : Addr) (v : V), vs = [.ref a, v] ∧ H a = some (exo a C none) ∧ ∀ dx, H dx = none → dx ≠ a → Q .non (upd (upd H dx (exd dx (ixF n v))) a (exo a C (some dx)))
/-- an own error of one field, made -/
theorem err_use {n : Str} {C a : Addr} {H1 : Hp} {v : V} {Q : XK} {E : XK} (na : H1 a = none) (q : ∀ d, H1 d = none → Q (.ref C) (some d) (upd H1 d (.xd (ixF n v)))) :
    spErr n C [.ref a, v] (upd H1 a (exo a C none)) (fun u H2 => u = .non ∧ ∃ (d : Addr) (fs : List (Str × V)), H2 a = some (exo a C (some d)) ∧ H2 d = some (exd d fs) ∧ H1 d = none ∧ Q (.ref C) (some d) (upd (del H2 a) d (.xd fs))) E := by
  refine ⟨a, v, rfl, upd_same, fun dx nd ne => ⟨rfl, dx, ixF n v, upd_same, ?_, ?_, ?_⟩⟩
  · rw [upd_ne ne, upd_same]
  · rw [upd_ne ne] at nd
    exact nd
  · have n1 : H1 dx = none := by
      rw [upd_ne ne] at nd
      exact nd
    have e : upd (del (upd (upd (upd H1 a (exo a C none)) dx (exd dx (ixF n v))) a (exo a C (some dx))) a) dx (.xd (ixF n v)) = upd H1 dx (.xd (ixF n v)) := by
      funext b
      by_cases h1 : b = dx
      · rw [h1, upd_same, upd_same]
      · rw [upd_ne h1, upd_ne h1]
        by_cases h2 : b = a
        · rw [h2, del_same, na]
        · rw [del_ne h2, upd_ne h2, upd_ne h1, upd_ne h2]
    rw [e]
    exact q dx n1

/-! ### C(e, .., k = v, ..) where what __init__ lets out is wished for at the caller's slots -/
def tMakeNS (C : Addr) (n m : Nat) (sp : Sp) (gV : List V → List V → List V) (E : L2.St → XK) (t tk : TA) : TE := fun σ H Q => t σ H fun vs H1 => tk σ H1 fun zs H2 => vs.length = n ∧ zs.length = m ∧
  ∀ y dy, H2 y = none → H2 dy = none → dy ≠ y → sp (gV (.ref y :: vs) zs) (upd (upd H2 dy (.own y)) y (.ins C dy [])) (fun v H3 => v = .non ∧ Q (.ref y) H3) (E σ)
section
variable {X : Cx} {CX : CXT} {k n : Nat} {f C : Addr} {fd : FuncData} {names ks : List Str} {sp : Sp} {E : L2.St → XK} {x : Str} {p pos : Pos} {e : Expr} {es : List Expr} {kws : List Keyword} {t tk : TA} {g : List Value → List Value → List Value} {gV : List V → List V → List V}
theorem make_kS {pn : List (Addr × Obj)} {σ : L2.St} {H : Hp} {s : Shared} {Q : VK} {us ws : List Value} {vs zs : List V} (M : Mk X.K C f) (D : FnOk X.prog X.w X.K X.mg X.base CX k f fd names sp) (room : Room (k + 1) X.A) (bn : KBn X.K fd names (n + 1) ks g gV)
    (pa : PassesAt CX X σ (E σ)) (J : Inv X pn σ H s) (rv : Vals vs us) (rz : Vals zs ws) (l1 : vs.length = n) (l2 : zs.length = ks.length)
    (want : ∀ y dy, H y = none → H dy = none → dy ≠ y → sp (gV (.ref y :: vs) zs) (upd (upd H dy (.own y)) y (.ins C dy [])) (fun v H2 => v = .non ∧ Q (.ref y) H2) (E σ)) :
    wpAny (model X.prog X.w) X.A (call (.ref C) us (ks.zip ws)) (EP X pn σ Q) X.xe s := by
  have w1 := want (s.heap.objs.size + 1) s.heap.objs.size (J.hok.fresh (Nat.le_succ _)) (J.hok.fresh (Nat.le_refl _)) (Nat.ne_of_lt (Nat.lt_succ_self _))
  have J2 := Inv.made (C := C) J
  have rv1 : Vals (V.ref (s.heap.objs.size + 1) :: vs) (Value.ref (s.heap.objs.size + 1) :: us) := .cons rfl rv
  have many : (Value.ref (s.heap.objs.size + 1) :: us).length = n + 1 := rv1.length.symm.trans (congrArg Nat.succ l1)
  refine wpAny_call (make_map (f := f) J.kIn M.makes M.init (beq_iff_eq.mp M.fn) (codeAny_mono (D.run _ X.stack _ _ ⟨Value.ref (s.heap.objs.size + 1) :: us, ks.zip ws⟩ (g (Value.ref (s.heap.objs.size + 1) :: us) ws) _ _ (E σ) (room.make C us (ks.zip ws))
    (J2.env0.make C us (ks.zip ws)) (bn.to _ (Value.ref (s.heap.objs.size + 1) :: us) ws J2.kIn many (rz.length.symm.trans l2)) (bn.rel rv1 rz) w1) fun r s' out => ?_))
  match r, out with
  | .error er, out => exact pa _ _ _ _ _ J2 out
  | .ok (.ret u), out =>
    obtain ⟨v, H', J3, ru, ev, q3⟩ := J2.after out
    subst ev
    exact ⟨ru, ⟨V.ref (s.heap.objs.size + 1), H', J3, rfl, q3⟩⟩
  | .ok .next, out => exact False.elim out
  | .ok .brk, out => exact False.elim out
  | .ok .cont, out => exact False.elim out
theorem pe_makeNS (M : Mk X.K C f) (D : FnOk X.prog X.w X.K X.mg X.base CX k f fd names sp) (room : Room (k + 1) X.A) (hg : Gl X x) (hm : X.mg x = some (.ref C)) (bn : KBn X.K fd names (n + 1) ks g gV) (pa : ∀ σ, PassesAt CX X σ (E σ))
    (ha : PA X (e :: es) t) (hkw : PK X kws tk) (hall : (backToKw pos (keywordEach kws X.env)).all (·.1.isSome) = true := by rfl) (hks : (backToKw pos (keywordEach kws X.env)).filterMap (·.1) = ks := by rfl)
    (hdb : (x == ("__debug__" : Str)) = false := by decide) (he : starEach (e :: es) X.env = (false, eval e X.env) :: starEach es X.env := by rfl)
    (hpl : ((backTo pos (starEach (e :: es) X.env)).any (·.1) || (backToKw pos (keywordEach kws X.env)).any (·.1.isNone)) = false := by rfl) :
    PE X (.Call (.Name x p) (e :: es) kws pos) (tMakeNS C n ks.length sp gV E t tk) := by
  refine ⟨fun pn s σ H Q J want => ?_⟩
  refine wpAny_Call_Name_kw (ld_glob J hg hm ?_ hdb)
  refine PySem.W.callWith_KW (h₀ := X.base) J.ok.mod.kin M.kp hall (thn (ha.run pos pn s σ H _ J want) fun us s1 ⟨vs, H1, J1, rv, q⟩ => ?_) hpl he
  refine thn (hkw.run pos pn s1 σ H1 _ J1 q) fun ws s2 ⟨zs, H2, J2, rz, l1, l2, q2⟩ => ⟨J2.kIn, ?_⟩
  rw [hks]
  exact make_kS M D room bn (pa σ) J2 rv rz l1 l2 q2
end
end VA

/-! The source of draws, whatever the row. -/
namespace VA
open PySem L2 SX AddrMath
theorem But.refl (d : Addr) (H : Hp) : But d H H := fun _ _ h _ => h
theorem But.trans {d : Addr} {H H1 H2 : Hp} (a : But d H H1) (b : But d H1 H2) : But d H H2 := fun c o h hc => b c o (a c o h hc) hc
theorem But.upd {d : Addr} {H : Hp} {o : HO} : But d H (upd H d o) := fun b u e hb => by rw [upd_ne hb]; exact e
theorem But.new {d p : Addr} {H : Hp} {o : HO} (h : H p = none) : But d H (L2.upd H p o) := fun b u e _ => by rw [upd_ne (ne_of_none e h)]; exact e
theorem but_of {d : Addr} {H H' : Hp} (s : Same H H') : But d H H' := fun b o e _ => s b o e
theorem But.free {d a : Addr} {H H' : Hp} {o : HO} (hd : H d = some o) (b : But d H H') (hd' : H' d ≠ none) (h : H' a = none) : H a = none := by
  cases q : H a with
  | none => rfl
  | some u =>
    by_cases e : a = d
    · rw [e] at h
      exact absurd h hd'
    · rw [b a u q e] at h
      cases h
abbrev kCells : Key := Sum.inr ("cells" : Str)
abbrev kSpot : Key := Sum.inr ("spot" : Str)
abbrev kRest : Key := Sum.inr ("rest" : Str)
theorem k_cs : ¬ (kCells = kSpot) := by decide +kernel
theorem k_cr : ¬ (kCells = kRest) := by decide +kernel
theorem k_sc : ¬ (kSpot = kCells) := by decide +kernel
theorem k_sr : ¬ (kSpot = kRest) := by decide +kernel
theorem k_rc : ¬ (kRest = kCells) := by decide +kernel
theorem k_rs : ¬ (kRest = kSpot) := by decide +kernel
def penKV (c : Addr) (spot rest : Int) : List (Key × V) := [(kCells, .ref c), (kSpot, .int spot), (kRest, .int rest)]
theorem pen_cells (c : Addr) (s r : Int) : valV (penKV c s r) kCells = some (.ref c) := valV_pos rfl
theorem pen_spot (c : Addr) (s r : Int) : valV (penKV c s r) kSpot = some (.int s) := (valV_neg k_cs).trans (valV_pos rfl)
theorem pen_rest (c : Addr) (s r : Int) : valV (penKV c s r) kRest = some (.int r) := (valV_neg k_cr).trans ((valV_neg k_sr).trans (valV_pos rfl))
theorem pen_putS (c : Addr) (s r z : Int) : putK (penKV c s r) kSpot (.int z) = penKV c z r := by
  unfold putK penKV
  rw [if_pos (by simp)]
  simp only [List.map_cons, List.map_nil, if_neg k_cs, if_neg k_rs, if_pos trivial]
theorem pen_putR (c : Addr) (s r z : Int) : putK (penKV c s r) kRest (.int z) = penKV c s z := by
  unfold putK penKV
  rw [if_pos (by simp)]
  simp only [List.map_cons, List.map_nil, if_neg k_cr, if_neg k_sr, if_pos trivial]
theorem pen_made (c : Addr) (s r : Int) : mergeK [] (penKV c s r) = penKV c s r := by
  show putK (putK (putK [] kCells (V.ref c)) kSpot (V.int s)) kRest (V.int r) = _
  have e1 : putK [] kCells (V.ref c) = [(kCells, V.ref c)] := putK_new _ rfl
  have e2 : putK [(kCells, V.ref c)] kSpot (V.int s) = [(kCells, V.ref c), (kSpot, V.int s)] := putK_new _ (valV_neg k_cs)
  rw [e1, e2]
  exact putK_new _ ((valV_neg k_cr).trans (valV_neg k_sr))
/-- a source of draws stands at d, at most n draws were begun -/
def PenAt (H : Hp) (d c : Addr) (n : Nat) : Prop := ∃ (ns : List Int) (s : Nat) (r : Int), H d = some (.dK (penKV c (s : Int) r)) ∧ H c = some (.lst (ns.map V.int)) ∧ ns.length ≤ 63 ∧ s ≤ n
theorem PenAt.keep {H H' : Hp} {d c : Addr} {n : Nat} (p : PenAt H d c n) (s : Same H H') : PenAt H' d c n := by
  obtain ⟨ns, k, r, h1, h2, h3, h4⟩ := p
  exact ⟨ns, k, r, s _ _ h1, s _ _ h2, h3, h4⟩
theorem PenAt.mono {H : Hp} {d c : Addr} {n m : Nat} (p : PenAt H d c n) (h : n ≤ m) : PenAt H d c m := by
  obtain ⟨ns, k, r, h1, h2, h3, h4⟩ := p
  exact ⟨ns, k, r, h1, h2, h3, Nat.le_trans h4 h⟩
theorem PenAt.ne {H : Hp} {d c : Addr} {n : Nat} (p : PenAt H d c n) : H d ≠ none := by
  obtain ⟨ns, k, r, h1, h2, h3, h4⟩ := p
  rw [h1]
  exact fun z => nomatch z
theorem PenAt.neC {H : Hp} {d c : Addr} {n : Nat} (p : PenAt H d c n) : H c ≠ none := by
  obtain ⟨ns, k, r, h1, h2, h3, h4⟩ := p
  rw [h2]
  exact fun z => nomatch z
theorem PenAt.free {H H' : Hp} {d c a : Addr} {n m : Nat} (p : PenAt H d c n) (p' : PenAt H' d c m) (b : But d H H') (h : H' a = none) : H a = none := by
  obtain ⟨ns, k, r, h1, h2, h3, h4⟩ := p
  exact b.free h1 p'.ne h
/-- another object is written -/
theorem PenAt.put {H : Hp} {d c a : Addr} {n : Nat} {o : HO} (p : PenAt H d c n) (h1 : a ≠ d) (h2 : a ≠ c) : PenAt (upd H a o) d c n := by
  obtain ⟨ns, k, r, e1, e2, h3, h4⟩ := p
  exact ⟨ns, k, r, by rw [upd_ne h1.symm]; exact e1, by rw [upd_ne h2.symm]; exact e2, h3, h4⟩
theorem But.put {d a : Addr} {H H' : Hp} {o : HO} (b : But d H H') (h : H a = none) : But d H (L2.upd H' a o) := fun x u e hx => by
  rw [upd_ne (ne_of_none e h)]
  exact b x u e hx
theorem dp_ints {K : PySem.W.Frag} {H : Hp} : ∀ ns : List Int, DpAll K H (ns.map V.int) (ns.map PyData.int)
  | [] => .nil
  | n :: r => .cons (.int n) (dp_ints r)
theorem cl_ints : ∀ ns : List Int, PyData.canLayAll0 (ns.map PyData.int) = true
  | [] => rfl
  | _ :: r => by simp [PyData.canLayAll0, PyData.canLay0, cl_ints r]
theorem da_ints : ∀ ns : List Int, PyData.depthAll (ns.map PyData.int) = 0
  | [] => rfl
  | _ :: r => by simp [PyData.depthAll, PyData.depth, da_ints r]
theorem sh_ints (ns : List Int) : SeqAt.shaped (.list (ns.map PyData.int)) = true := by
  simp [SeqAt.shaped, PyData.canLay0, PyData.depth, cl_ints, da_ints]
theorem fmod_in (x : Int) {m : Int} (h : 0 < m) : 0 ≤ x.fmod m ∧ x.fmod m < m := by
  rw [Int.fmod_eq_emod_of_nonneg x (by omega)]
  exact ⟨Int.emod_nonneg x (by omega), Int.emod_lt_of_pos x h⟩
theorem eqv_ints (ns : List Int) : PyData.eqv (.list (ns.map PyData.int)) (.list []) = ns.isEmpty := by
  cases ns <;> rfl
theorem nz1 : (2147483423 : Int) ≠ 0 := by decide
theorem nz2 : (2147483477 : Int) ≠ 0 := by decide
theorem nz3 : (2147483489 : Int) ≠ 0 := by decide
theorem nz4 : (2147483497 : Int) ≠ 0 := by decide
theorem cut_to (xs : List V) (k : Nat) : cutV xs none (some (k : Int)) = xs.take k := by
  unfold cutV
  rw [HT.sIx_none, HT.sIx_nat, List.drop_zero, Nat.sub_zero]
  by_cases h : k ≤ xs.length
  · rw [Nat.min_eq_left h]
  · rw [Nat.min_eq_right (by omega), List.take_of_length_le (Nat.le_refl _), List.take_of_length_le (by omega)]
theorem cut_from (xs : List V) (k : Nat) : cutV xs (some (k : Int)) none = xs.drop k := by
  unfold cutV
  rw [HT.sIx_none, HT.sIx_nat]
  by_cases h : k ≤ xs.length
  · rw [Nat.min_eq_left h, List.take_of_length_le (by rw [List.length_drop]; omega)]
  · rw [Nat.min_eq_right (by omega), List.drop_eq_nil_of_le (Nat.le_refl _), List.drop_eq_nil_of_le (by omega)]
    simp
theorem size_ok {n : Nat} (h : n ≤ 1000000) : n ≤ sizeLine := by rw [sizeLine_eq]; omega
theorem size_lt {n : Nat} (h : n ≤ 1000000) : n < sizeLine := by rw [sizeLine_eq]; omega
/-! ### texts by their signs -/
theorem len_S (l : List Nat) : (S l).length = l.length := S_len l
theorem cutS_to (l : List Nat) (k : Nat) : cutS (S l) none (some (k : Int)) = S (l.take k) := by
  unfold cutS
  rw [HT.sIx_none, HT.sIx_nat, len_S, List.drop_zero, Nat.sub_zero]
  show S (l.take (min k l.length)) = _
  by_cases h : k ≤ l.length
  · rw [Nat.min_eq_left h]
  · rw [Nat.min_eq_right (by omega), List.take_of_length_le (Nat.le_refl _), List.take_of_length_le (by omega)]
theorem cutS_from (l : List Nat) (k : Nat) : cutS (S l) (some (k : Int)) none = S (l.drop k) := by
  unfold cutS
  rw [HT.sIx_none, HT.sIx_nat, len_S]
  show S ((l.drop (min k l.length)).take (l.length - min k l.length)) = _
  by_cases h : k ≤ l.length
  · rw [Nat.min_eq_left h, List.take_of_length_le (by rw [List.length_drop]; omega)]
  · rw [Nat.min_eq_right (by omega), List.drop_eq_nil_of_le (Nat.le_refl _), List.drop_eq_nil_of_le (show l.length ≤ k by omega)]
    simp
theorem cutS_mid (l : List Nat) (i k : Nat) : cutS (S l) (some (i : Int)) (some (k : Int)) = S ((l.take k).drop i) := by
  unfold cutS
  rw [HT.sIx_nat, HT.sIx_nat, len_S]
  show S ((l.drop (min i l.length)).take (min k l.length - min i l.length)) = _
  congr 1
  apply List.ext_getElem?
  intro n
  rw [List.getElem?_take, List.getElem?_drop, List.getElem?_drop, List.getElem?_take]
  by_cases hi : i ≤ l.length
  · rw [Nat.min_eq_left hi]
    by_cases hk : k ≤ l.length
    · rw [Nat.min_eq_left hk]
      by_cases h : n < k - i
      · rw [if_pos h, if_pos (by omega)]
      · rw [if_neg h, if_neg (by omega)]
    · rw [Nat.min_eq_right (by omega)]
      by_cases h : n < l.length - i
      · rw [if_pos h, if_pos (by omega)]
      · rw [if_neg h]
        split
        · exact (List.getElem?_eq_none (by omega)).symm
        · rfl
  · rw [Nat.min_eq_right (by omega : l.length ≤ i)]
    rw [if_neg (by omega)]
    split
    · exact (List.getElem?_eq_none (by omega)).symm
    · rfl
theorem joinL_nil : ∀ ys : List (List Nat), TL.joinL [] ys = ys.flatten
  | [] => rfl
  | [p] => by simp [TL.joinL]
  | p :: q :: r => by
    show p ++ ([] ++ TL.joinL [] (q :: r)) = _
    rw [joinL_nil (q :: r)]
    rfl
theorem join_S0 (ys : List (List Nat)) : Txt.join (S []) (ys.map S) = S ys.flatten := by rw [join_S, joinL_nil]
theorem emp_S : (Str.ofString "" : Str) = S [] := by decide +kernel
theorem nz3' : (3 : Int) ≠ 0 := by decide
theorem nz26 : (26 : Int) ≠ 0 := by decide
theorem at_ofN {xs : List Nat} {z : Int} {j : Nat} {v : Nat} (e : z = (j : Int)) (h : xs[j]? = some v) : atI xs z = some v := by
  rw [e]
  exact atI_nat h
abbrev lettersL : List Nat := (Str.ofString "abcdefghijklmnopqrstuvwxyz" : Str).cps.toList
theorem letters_all : ∀ c ∈ lettersL, isL c = true := by decide +kernel
theorem letters_len : lettersL.length = 26 := by decide +kernel
theorem letters_S : (Str.ofString "abcdefghijklmnopqrstuvwxyz" : Str) = S lettersL := (S_tl _).symm
theorem flat_one (cs : List Nat) : (cs.map fun c => [c]).flatten = cs := by
  induction cs with
  | nil => rfl
  | cons c r ih =>
    rw [List.map_cons, List.flatten_cons, ih]
    rfl
theorem map_one (cs : List Nat) : (cs.map fun c => V.str (S [c])) = ((cs.map fun c => [c]).map S).map V.str := by
  rw [List.map_map, List.map_map]
  rfl
theorem sum_one (cs : List Nat) : (((cs.map fun c => [c]).map S).map (·.length)).sum = cs.length := by
  induction cs with
  | nil => rfl
  | cons c r ih =>
    rw [List.map_cons, List.map_cons, List.map_cons, List.sum_cons, ih, List.length_cons, len_S]
    exact Nat.add_comm _ _
end VA

namespace RL
open PySem L2 SX AddrMath VA
def top (i : Nat) : Stmt := PySem.Challenge.pw_sentonward_k11_whole_book_texts.main.body.getD i (.Pass ⟨0, 0, 0, 0⟩)
/-- names that are the built-in ones -/
structure Blt (mg : Str → Option Value) : Prop where
  isinstance_ : mg "isinstance" = none
  str_ : mg "str" = none
  int_ : mg "int" = none
  bool_ : mg "bool" = none
  list_ : mg "list" = none
  tuple_ : mg "tuple" = none
  len_ : mg "len" = none
  all_ : mg "all" = none
  sorted_ : mg "sorted" = none
  set_ : mg "set" = none
  range_ : mg "range" = none
  min_ : mg "min" = none
  repr_ : mg "repr" = none
  zip_ : mg "zip" = none
theorem if_dec {c A B : Prop} [Decidable c] (h : c) (a : A) : if decide c = true then A else B := by
  rw [if_pos (decide_eq_true h)]
  exact a
theorem if_not {c A B : Prop} [Decidable c] (h : ¬ c) (b : B) : if decide c = true then A else B := by
  rw [if_neg (by simpa using h)]
  exact b
theorem if_is {b : Bool} {A B : Prop} (t : b = true → A) (f : b = false → B) : if b = true then A else B := by
  cases b with
  | true => exact iteT (t rfl)
  | false => exact iteF (f rfl)
theorem kitSeq {K : PySem.W.Frag} (d : PyData) : PySem.W.kitAny K (.type (tyN d)) [.type "list", .type "tuple"] = some (isSeqD d) := by
  cases d with
  | none => exact kitAny_cons (kit_ty (show kitB "NoneType" "list" = some false by decide +kernel)) (fun _ => kitAny_cons (kit_ty (show kitB "NoneType" "tuple" = some false by decide +kernel)) (fun _ => rfl) (fun z => by cases z)) (fun z => by cases z)
  | bool b => exact kitAny_cons (kit_ty (show kitB "bool" "list" = some false by decide +kernel)) (fun _ => kitAny_cons (kit_ty (show kitB "bool" "tuple" = some false by decide +kernel)) (fun _ => rfl) (fun z => by cases z)) (fun z => by cases z)
  | int i => exact kitAny_cons (kit_ty (show kitB "int" "list" = some false by decide +kernel)) (fun _ => kitAny_cons (kit_ty (show kitB "int" "tuple" = some false by decide +kernel)) (fun _ => rfl) (fun z => by cases z)) (fun z => by cases z)
  | str x => exact kitAny_cons (kit_ty (show kitB "str" "list" = some false by decide +kernel)) (fun _ => kitAny_cons (kit_ty (show kitB "str" "tuple" = some false by decide +kernel)) (fun _ => rfl) (fun z => by cases z)) (fun z => by cases z)
  | list l => exact kitAny_cons (kit_ty (show kitB "list" "list" = some true by decide +kernel)) (fun z => by cases z) fun _ => rfl
  | tuple l => exact kitAny_cons (kit_ty (show kitB "tuple" "list" = some false by decide +kernel)) (fun _ => kitAny_cons (kit_ty (show kitB "tuple" "tuple" = some true by decide +kernel)) (fun z => by cases z) fun _ => rfl) (fun z => by cases z)
  | dict l => exact kitAny_cons (kit_ty (show kitB "dict" "list" = some false by decide +kernel)) (fun _ => kitAny_cons (kit_ty (show kitB "dict" "tuple" = some false by decide +kernel)) (fun _ => rfl) (fun z => by cases z)) (fun z => by cases z)
def isStrD : PyData → Bool
  | .str _ => true
  | _ => false
def isBoolD : PyData → Bool
  | .bool _ => true
  | _ => false
def isTupD : PyData → Bool
  | .tuple _ => true
  | _ => false
def isNumD : PyData → Bool
  | .int _ => true
  | .bool _ => true
  | _ => false
theorem kitStr {K : PySem.W.Frag} (d : PyData) : PySem.W.kitOne K (.type (tyN d)) (.type "str") = some (isStrD d) := by
  cases d with
  | none => exact (kit_ty (show kitB "NoneType" "str" = some false by decide +kernel))
  | bool b => exact (kit_ty (show kitB "bool" "str" = some false by decide +kernel))
  | int i => exact (kit_ty (show kitB "int" "str" = some false by decide +kernel))
  | str x => exact (kit_ty (show kitB "str" "str" = some true by decide +kernel))
  | list l => exact (kit_ty (show kitB "list" "str" = some false by decide +kernel))
  | tuple l => exact (kit_ty (show kitB "tuple" "str" = some false by decide +kernel))
  | dict l => exact (kit_ty (show kitB "dict" "str" = some false by decide +kernel))
theorem kitBool {K : PySem.W.Frag} (d : PyData) : PySem.W.kitOne K (.type (tyN d)) (.type "bool") = some (isBoolD d) := by
  cases d with
  | none => exact (kit_ty (show kitB "NoneType" "bool" = some false by decide +kernel))
  | bool b => exact (kit_ty (show kitB "bool" "bool" = some true by decide +kernel))
  | int i => exact (kit_ty (show kitB "int" "bool" = some false by decide +kernel))
  | str x => exact (kit_ty (show kitB "str" "bool" = some false by decide +kernel))
  | list l => exact (kit_ty (show kitB "list" "bool" = some false by decide +kernel))
  | tuple l => exact (kit_ty (show kitB "tuple" "bool" = some false by decide +kernel))
  | dict l => exact (kit_ty (show kitB "dict" "bool" = some false by decide +kernel))
theorem kitTup {K : PySem.W.Frag} (d : PyData) : PySem.W.kitOne K (.type (tyN d)) (.type "tuple") = some (isTupD d) := by
  cases d with
  | none => exact (kit_ty (show kitB "NoneType" "tuple" = some false by decide +kernel))
  | bool b => exact (kit_ty (show kitB "bool" "tuple" = some false by decide +kernel))
  | int i => exact (kit_ty (show kitB "int" "tuple" = some false by decide +kernel))
  | str x => exact (kit_ty (show kitB "str" "tuple" = some false by decide +kernel))
  | list l => exact (kit_ty (show kitB "list" "tuple" = some false by decide +kernel))
  | tuple l => exact (kit_ty (show kitB "tuple" "tuple" = some true by decide +kernel))
  | dict l => exact (kit_ty (show kitB "dict" "tuple" = some false by decide +kernel))
theorem kitInt {K : PySem.W.Frag} (d : PyData) : PySem.W.kitOne K (.type (tyN d)) (.type "int") = some (isNumD d) := by
  cases d with
  | none => exact (kit_ty (show kitB "NoneType" "int" = some false by decide +kernel))
  | bool b => exact (kit_ty (show kitB "bool" "int" = some true by decide +kernel))
  | int i => exact (kit_ty (show kitB "int" "int" = some true by decide +kernel))
  | str x => exact (kit_ty (show kitB "str" "int" = some false by decide +kernel))
  | list l => exact (kit_ty (show kitB "list" "int" = some false by decide +kernel))
  | tuple l => exact (kit_ty (show kitB "tuple" "int" = some false by decide +kernel))
  | dict l => exact (kit_ty (show kitB "dict" "int" = some false by decide +kernel))
theorem vx_str {K : PySem.W.Frag} {H : Hp} {x : V} {d : PyData} (h : Vx K H x d) (e : isStrD d = true) : ∃ z : Str, x = .str z ∧ d = .str z ∧ z.length ≤ 1000 := by
  rcases h with ⟨h, o⟩ | ⟨a, kvs, rfl, h, rfl⟩
  · cases h with
    | str z =>
      rw [okD, Bool.and_eq_true, decide_eq_true_eq] at o
      exact ⟨z, rfl, rfl, o.1⟩
    | non => cases e
    | bl b => cases e
    | int i => cases e
    | lst h1 h2 => cases e
    | tup h1 h2 => cases e
  · cases e
theorem vx_seq {K : PySem.W.Frag} {H : Hp} {x : V} {d : PyData} (h : Vx K H x d) (e : isSeqD d = true) : ∃ a xs, x = .ref a ∧ SqA K H a xs ∧ DpAll K H xs (itemsD d) ∧ (itemsD d).length ≤ 5000 ∧ ∀ e ∈ itemsD d, okD 7 e = true := by
  rcases h with ⟨h, o⟩ | ⟨a, kvs, rfl, h, rfl⟩
  · cases h with
    | str z => cases e
    | non => cases e
    | bl b => cases e
    | int i => cases e
    | lst h1 h2 =>
      rw [okD, Bool.and_eq_true, Bool.and_eq_true, decide_eq_true_eq, decide_eq_true_eq] at o
      exact ⟨_, _, rfl, .inl h1, h2, o.2.1, okAll_mem o.2.2⟩
    | tup h1 h2 =>
      rw [okD, Bool.and_eq_true, Bool.and_eq_true, decide_eq_true_eq, decide_eq_true_eq] at o
      exact ⟨_, _, rfl, .inr h1, h2, o.2.1, okAll_mem o.2.2⟩
  · cases e
section
variable {P : Program} {w : World} {K : PySem.W.Frag} {mg : Str → Option Value} {base : Heap}
/-! ### is_word: slots value 0 -/
abbrev sIsWord : Stmt := top 12
def spIsWord (K : PySem.W.Frag) : Sp := fun vs H Q _ => ∃ x d, vs = [x] ∧ Vx K H x d ∧ Q (.bl (isWordD d)) H
theorem scIsWord : FnScope ["value"] ["value"] (defScope sIsWord) := ⟨rfl, rfl, rfl, by decide +kernel, rfl, by decide +kernel, by decide +kernel⟩
theorem ok_isword {f : Addr} {fd : FuncData} {t : Tok} (F : Fun K "is_word" "is_word" sIsWord f fd) (B : Blt mg) (mL : mg "LETTERS" = some (.int 8 t)) :
    FnOk P w K mg base CX0 1 f fd ["value"] (spIsWord K) := by
  refine F.ok scIsWord (fun vs H Q E h => ?_) (fun cdv A outer s H vs Q E hr h => ?_)
  · obtain ⟨x, d, rfl, _⟩ := h
    rfl
  · obtain ⟨x, d, rfl, hx, q⟩ := h
    refine ⟨_, (pss_cons (ps_if (pt_not (pt_val (pe_callB call_isi (by rfl) B.isinstance_ (by decide +kernel) (pa_cons (pv 0) (pa_cons (pe_bltn (v := .ty "str") (by rfl) B.str_ (by decide +kernel) rfl) pa_nil))))) (pss_one (ps_ret pe_bl)) pss_nil)
      (pss_one (ps_ret (pe_and (pe_chain op_le op_le pe_int (pe_callB call_len_str (by rfl) B.len_ (by decide +kernel) (pa_cons (pv 0) pa_nil)) (pe_glob (v := .int 8) rfl mL ⟨_, rfl⟩)) (pe_and (pe_m0 PySem.F.slot_str_isascii PySem.F.type_str_isascii mt_isascii (pv 0)) (pe_and (pe_m0 PySem.F.slot_str_isalpha PySem.F.type_str_isalpha mt_isalpha (pv 0)) (pe_one (pe_m0 PySem.F.slot_str_islower PySem.F.type_str_islower mt_islower (pv 0))))))))), ?_⟩
    refine ⟨_, rfl, _, _, _, _, isStrD d, rfl, .ty "str", hx.ty, kitStr d, _, rfl, ?_⟩
    cases e : isStrD d with
    | false =>
      refine iteT ?_
      have : isWordD d = false := by cases d <;> first | rfl | cases e
      rw [this] at q
      exact q
    | true =>
      refine iteF ?_
      obtain ⟨z, rfl, rfl, hz⟩ := vx_str hx e
      have q' : Q (.bl (isW z.cps.toList)) H := q
      refine ⟨_, rfl, _, rfl, size_ok (by omega), _, _, rfl, rfl, _, rfl, if_is (fun h1 => ?_) (fun h1 => ?_)⟩
      · have h1' : (1 : Int) ≤ (z.length : Int) := of_decide_eq_true h1
        refine ⟨_, _, rfl, rfl, _, rfl, if_is (fun h8 => ?_) (fun h8 => ?_)⟩
        · have h8' : (z.length : Int) ≤ 8 := of_decide_eq_true h8
          have e2 := word_txt z (by omega) (by omega)
          refine ⟨_, rfl, ⟨_, rfl⟩, _, rfl, rfl, trivial, _, rfl, if_is (fun a1 => ?_) (fun a1 => ?_)⟩
          · refine ⟨_, rfl, ⟨_, rfl⟩, _, rfl, rfl, trivial, _, rfl, if_is (fun a2 => ?_) (fun a2 => ?_)⟩
            · refine ⟨_, rfl, ⟨_, rfl⟩, _, rfl, rfl, trivial, ?_⟩
              rw [a1, a2, Bool.true_and, Bool.true_and] at e2
              rw [e2]
              exact q'
            · rw [a1, a2, Bool.true_and, Bool.false_and] at e2
              rw [e2]
              exact q'
          · rw [a1, Bool.false_and] at e2
            rw [e2]
            exact q'
        · have : isW z.cps.toList = false := Bool.eq_false_iff.mpr fun y => by
            have := word_len y
            have := of_decide_eq_false h8
            omega
          rw [this] at q'
          exact q'
      · have : isW z.cps.toList = false := Bool.eq_false_iff.mpr fun y => by
          have := word_len y
          have := of_decide_eq_false h1
          omega
        rw [this] at q'
        exact ⟨_, rfl, iteF q'⟩
/-! ### is_integer: slots value 0 -/
abbrev sIsInteger : Stmt := top 14
def spIsInt (K : PySem.W.Frag) : Sp := fun vs H Q _ => ∃ x d, vs = [x] ∧ Vx K H x d ∧ Q (.bl (isIntD d)) H
theorem scIsInteger : FnScope ["value"] ["value"] (defScope sIsInteger) := ⟨rfl, rfl, rfl, by decide +kernel, rfl, by decide +kernel, by decide +kernel⟩
theorem ok_isint {f : Addr} {fd : FuncData} (F : Fun K "is_integer" "is_integer" sIsInteger f fd) (B : Blt mg) : FnOk P w K mg base CX0 1 f fd ["value"] (spIsInt K) := by
  refine F.ok scIsInteger (fun vs H Q E h => ?_) (fun cdv A outer s H vs Q E hr h => ?_)
  · obtain ⟨x, d, rfl, _⟩ := h
    rfl
  · obtain ⟨x, d, rfl, hx, q⟩ := h
    refine ⟨_, (pss_one (ps_ret (pe_and (pe_callB call_isi (by rfl) B.isinstance_ (by decide +kernel) (pa_cons (pv 0) (pa_cons (pe_bltn (v := .ty "int") (by rfl) B.int_ (by decide +kernel) rfl) pa_nil))) (pe_one (pe_not (pe_callB call_isi (by rfl) B.isinstance_ (by decide +kernel) (pa_cons (pv 0) (pa_cons (pe_bltn (v := .ty "bool") (by rfl) B.bool_ (by decide +kernel) rfl) pa_nil)))))))), ?_⟩
    refine ⟨_, rfl, _, _, _, _, isNumD d, rfl, .ty "int", hx.ty, kitInt d, _, rfl, if_is (fun e => ?_) (fun e => ?_)⟩
    · refine ⟨_, rfl, _, _, _, _, isBoolD d, rfl, .ty "bool", hx.ty, kitBool d, _, rfl, ?_⟩
      have : (!isBoolD d) = isIntD d := by cases d <;> first | rfl | cases e
      rw [this]
      exact q
    · have : isIntD d = false := by cases d <;> first | rfl | cases e
      rw [this] at q
      exact q
end
end RL

namespace RL
open PySem L2 SX AddrMath VA
section
variable {P : Program} {w : World} {K : PySem.W.Frag} {mg : Str → Option Value} {base : Heap}
/-! ### is_hole: slots value 0, is_free 1 -/
abbrev sIsHole : Stmt := top 28
/-- the holes' dict stands there -/
structure Holes (K : PySem.W.Frag) (mg : Str → Option Value) (d : Addr) (es : Array DictEntry) (n : Nat) : Prop where
  mg : mg "HOLES" = some (.ref d)
  at_ : K.lookup d = some ⟨.type "dict", none, .dict es n, #[]⟩
  low : (d == sysModules) = false
  two : es.size = 2
def spIsHole (K : PySem.W.Frag) : Sp := fun vs H Q _ => ∃ x d, vs = [x, .bl false] ∧ Vx K H x d ∧ Q (.bl (isHoleD d)) H
theorem scIsHole : FnScope ["value", "is_free"] ["value", "is_free"] (defScope sIsHole) := ⟨rfl, rfl, rfl, by decide +kernel, rfl, by decide +kernel, by decide +kernel⟩
theorem ok_ishole {f : Addr} {fd : FuncData} {hd : Addr} {es : Array DictEntry} {n : Nat} (F : Fun K "is_hole" "is_hole" sIsHole f fd) (B : Blt mg) (is_integer : Own P w K mg base CX0 1 "is_integer" ["value"] (spIsInt K)) (Z : Holes K mg hd es n) : FnOk P w K mg base CX0 2 f fd ["value", "is_free"] (spIsHole K) := by
  refine F.ok scIsHole (fun vs H Q E h => ?_) (fun cdv A outer s H vs Q E hr h => ?_)
  · obtain ⟨x, d, rfl, _⟩ := h
    rfl
  · obtain ⟨x, d, rfl, hx, q⟩ := h
    refine ⟨_, (pss_one (ps_ret (pe_and (pe_call is_integer.g (hr.mono (by decide)) rfl is_integer.mg is_integer.kp is_integer.b .nil pass0 (pa_cons (pv 0) pa_nil)) (pe_and (pe_cmpR op_le pe_int (pv 0) (nomark _)) (pe_one (pe_or (pv 1) (pe_one (pe_cmpR op_le (pv 0) (pe_callB (call_lenK (d := hd) (es := es) (n := n) Z.at_ Z.low (by rw [Z.two]; decide)) (by rfl) B.len_ (by decide +kernel) (pa_cons (pe_glob (v := .ref hd) rfl Z.mg rfl) pa_nil)) (nomark _))))))))), ?_⟩
    refine ⟨_, rfl, x, d, rfl, hx, _, rfl, if_is (fun e => ?_) (fun e => ?_)⟩
    · obtain ⟨i, rfl, rfl⟩ : ∃ i, x = .int i ∧ d = .int i := by
        rcases hx with ⟨h, o⟩ | ⟨a, kvs, rfl, h, rfl⟩
        · cases h with
          | int i => exact ⟨i, rfl, rfl⟩
          | str z => cases e
          | non => cases e
          | bl b => cases e
          | lst h1 h2 => cases e
          | tup h1 h2 => cases e
        · cases e
      have q' : Q (.bl (decide (1 ≤ i) && decide (i ≤ 2))) H := q
      refine ⟨_, rfl, _, _, rfl, rfl, _, rfl, if_is (fun h1 => ?_) (fun h1 => ?_)⟩
      · refine ⟨_, rfl, _, rfl, iteF ⟨_, rfl, rfl, _, _, rfl, rfl, ?_⟩⟩
        rw [h1, Bool.true_and] at q'
        have e2 : (es.size : Int) = 2 := by rw [Z.two]; rfl
        rw [e2]
        exact q'
      · rw [h1, Bool.false_and] at q'
        exact q'
    · have : isHoleD d = false := by cases d <;> first | rfl | cases e
      rw [this] at q
      exact q
end
end RL

/-! Written values: a literal's data, and lists of values of any kind. -/
namespace VA
open PySem L2 SX AddrMath
/-- what is new, or no object -/
def Fresh (H : Hp) (v : V) : Prop := ∀ a, v = .ref a → H a = none
theorem Fresh.back {H H' : Hp} {v : V} (s : Same H H') (f : Fresh H' v) : Fresh H v := fun a e => s.free (f a e)
/-- a literal: a new value of this data -/
def tLit (K : PySem.W.Frag) (d : PyData) : TE := fun σ H Q => ∀ v H', Dp K H' v d → Fresh H v → Same H H' → Q v H'
def tLits (K : PySem.W.Frag) (ds : List PyData) : TA := fun σ H Q => ∀ vs H', DpAll K H' vs ds → (∀ v ∈ vs, Fresh H v) → Same H H' → Q vs H'
/-- a new value of any kind -/
def tAny (K : PySem.W.Frag) : TE := fun σ H Q => ∀ v H' d, Vx K H' v d → Fresh H v → Same H H' → Q v H'
def tAnys (K : PySem.W.Frag) (n : Nat) : TA := fun σ H Q => ∀ vs H', (∀ v ∈ vs, Fresh H v ∧ ∃ d, Vx K H' v d) → vs.length = n → Same H H' → Q vs H'
def tAnyL (K : PySem.W.Frag) (n : Nat) : TE := fun σ H Q => ∀ p xs H', H' p = some (.lst xs) → (∀ v ∈ xs, Fresh H v ∧ ∃ d, Vx K H' v d) → xs.length = n → Same H H' → H p = none → Q (.ref p) H'
def tLitL (K : PySem.W.Frag) (ds : List PyData) : TE := fun σ H Q => ∀ p xs H', H' p = some (.lst xs) → DpAll K H' xs ds → (∀ v ∈ xs, Fresh H v) → Same H H' → H p = none → Q (.ref p) H'
section
variable {X : Cx} {K : PySem.W.Frag}
theorem lit_c {e : Expr} {v : V} {d : PyData} (h : PE X e (tC v)) (k : ∀ H, Dp K H v d) (nr : ∀ a, v ≠ .ref a) : PE X e (tLit K d) :=
  pe_by _ h fun σ H Q w => w v H (k H) (fun a e => absurd e (nr a)) (Same.refl H)
theorem lit_non {j : Nat} {pos : Pos} : PE X (.Constant .none j pos) (tLit K .none) := lit_c pe_non (fun _ => .non) (fun _ z => by cases z)
theorem lit_bl {b : Bool} {j : Nat} {pos : Pos} : PE X (.Constant (.bool b) j pos) (tLit K (.bool b)) := lit_c pe_bl (fun _ => .bl b) (fun _ z => by cases z)
theorem lit_int {i : Int} {j : Nat} {pos : Pos} : PE X (.Constant (.int i) j pos) (tLit K (.int i)) := lit_c pe_int (fun _ => .int i) (fun _ z => by cases z)
theorem lit_str {x : Str} {j : Nat} {pos : Pos} : PE X (.Constant (.str x) j pos) (tLit K (.str x)) := lit_c pe_str (fun _ => .str x) (fun _ z => by cases z)
theorem lit_neg {i : Int} {j : Nat} {pos p2 : Pos} : PE X (.UnaryOp .USub (.Constant (.int i) j p2) pos) (tLit K (.int (-i))) :=
  pe_by _ (pe_un un_neg pe_int) fun σ H Q w => ⟨i, rfl, w _ H (.int _) (fun a e => by cases e) (Same.refl H)⟩
theorem lit_pow {a b : Int} {j j2 : Nat} {pos p2 p3 : Pos} (hb : 0 ≤ b ∧ b ≤ 1000000 ∧ a.natAbs < 2 ^ 64) : PE X (.BinOp (.Constant (.int a) j p2) .Pow (.Constant (.int b) j2 p3) pos) (tLit K (.int (a ^ b.toNat))) :=
  pe_by _ (pe_op op_pow pe_int pe_int) fun σ H Q w => ⟨a, b, rfl, rfl, hb, w _ H (.int _) (fun a e => by cases e) (Same.refl H)⟩
theorem lits_nil : PA X [] (tLits K []) := ⟨fun cp pn s σ H Q J w => pa_nil.run cp pn s σ H Q J (w [] H .nil (fun v hv => by cases hv) (Same.refl H))⟩
theorem pa_by {es : List Expr} {t : TA} (t' : TA) (h : PA X es t) (k : ∀ σ H Q, t' σ H Q → t σ H Q) : PA X es t' := ⟨fun cp pn s σ H Q J w => h.run cp pn s σ H Q J (k σ H Q w)⟩
theorem lits_cons {e : Expr} {es : List Expr} {d : PyData} {ds : List PyData} (h : PE X e (tLit K d)) (t : PA X es (tLits K ds)) (hs : starEach (e :: es) X.env = (false, eval e X.env) :: starEach es X.env := by rfl) : PA X (e :: es) (tLits K (d :: ds)) :=
  pa_by _ (pa_cons h t hs) fun σ H Q w v H1 hv fv s1 vs H2 hvs fvs s2 => w (v :: vs) H2 (.cons (dp_same s2 hv) hvs) (fun u hu => by
    rcases List.mem_cons.mp hu with e | e
    · rw [e]
      exact fv
    · exact (fvs u e).back s1) (s1.trans s2)
theorem lit_tup {x1} {es : List Expr} {ds : List PyData} {pos : Pos} (t : PA X es (tLits K ds)) (few : ds.length ≤ 1000) : PE X (.Tuple es x1 pos) (tLit K (.tuple ds)) :=
  pe_by _ (pe_tup t) fun σ H Q w vs H1 hv fv s1 => ⟨Nat.le_of_lt (small1000 (by rw [dps_len hv]; exact few)), fun p np => w (.ref p) _ (.tup (.inl (.inl upd_same)) (dps_same (same_new np) hv)) (fun a e => by cases e; exact s1.free np) (s1.trans (same_new np))⟩
theorem litL {es : List Expr} {ds : List PyData} {pos : Pos} (t : PA X es (tLits K ds)) (few : ds.length ≤ 1000) : PE X (.List es pos) (tLitL K ds) :=
  pe_by _ (pe_lst t) fun σ H Q w vs H1 hv fv s1 => ⟨Nat.le_of_lt (small1000 (by rw [dps_len hv]; exact few)), fun p np => w p vs _ upd_same (dps_same (same_new np) hv) fv (s1.trans (same_new np)) (s1.free np)⟩
theorem lit_lst {es : List Expr} {ds : List PyData} {pos : Pos} (t : PA X es (tLits K ds)) (few : ds.length ≤ 1000) : PE X (.List es pos) (tLit K (.list ds)) :=
  pe_by _ (litL t few) fun σ H Q w p xs H' hp hx fx s np => w (.ref p) H' (.lst (.inl (.inl hp)) hx) (fun a e => by cases e; exact np) s
theorem any_lit {e : Expr} {d : PyData} (h : PE X e (tLit K d)) (ok : okD 8 d = true) : PE X e (tAny K) := pe_by _ h fun σ H Q w v H' hv fv s => w v H' d (.inl ⟨hv, ok⟩) fv s
theorem any_dict {e : Expr} (h : PE X e tDNewK) : PE X e (tAny K) := pe_by _ h fun σ H Q w p np => w (.ref p) _ (.dict []) (.inr ⟨p, _, rfl, upd_same, rfl⟩) (fun a e => by cases e; exact np) (same_new np)
theorem any_disp {keys : List (Option Expr)} {values : List Expr} {pos : Pos} {x : Str} {i : Int} (h : PE X (.Dict keys values pos) (tDisp [(tC (.str x), tC (.int i))])) : PE X (.Dict keys values pos) (tAny K) :=
  pe_by _ h fun σ H Q w p np => ⟨upd_same, [(Sum.inr x, .int i)], rfl, by show 1 ≤ 15; decide, w (.ref p) _ (.dict []) (.inr ⟨p, _, rfl, upd_same, rfl⟩) (fun a e => by cases e; exact np) fun b o e => by
    rw [upd_ne (ne_of_none e np), upd_ne (ne_of_none e np)]
    exact e⟩
theorem anys_nil : PA X [] (tAnys K 0) := ⟨fun cp pn s σ H Q J w => pa_nil.run cp pn s σ H Q J (w [] H (fun v hv => by cases hv) rfl (Same.refl H))⟩
theorem anys_cons {e : Expr} {es : List Expr} {n : Nat} (h : PE X e (tAny K)) (t : PA X es (tAnys K n)) (hs : starEach (e :: es) X.env = (false, eval e X.env) :: starEach es X.env := by rfl) : PA X (e :: es) (tAnys K (n + 1)) :=
  pa_by _ (pa_cons h t hs) fun σ H Q w v H1 d hv fv s1 vs H2 hvs hl s2 => w (v :: vs) H2 (fun u hu => by
    rcases List.mem_cons.mp hu with e | e
    · rw [e]
      exact ⟨fv, d, hv.same s2⟩
    · obtain ⟨a, b⟩ := hvs u e
      exact ⟨a.back s1, b⟩) (by rw [List.length_cons, hl]) (s1.trans s2)
theorem anyL {es : List Expr} {n : Nat} {pos : Pos} (t : PA X es (tAnys K n)) (few : n ≤ 1000) : PE X (.List es pos) (tAnyL K n) :=
  pe_by _ (pe_lst t) fun σ H Q w vs H1 hv hl s1 => ⟨Nat.le_of_lt (small1000 (by rw [hl]; exact few)), fun p np => w p vs _ upd_same (fun u hu => by
    obtain ⟨a, d, b⟩ := hv u hu
    exact ⟨a, d, b.same (same_new np)⟩) hl (s1.trans (same_new np)) (s1.free np)⟩
end
/-- data, or a dict that is not the pen -/
def Vy (K : PySem.W.Frag) (H : Hp) (d : Addr) (v : V) : Prop := (∃ x, Dp K H v x ∧ okD 8 x = true) ∨ ∃ a kvs, v = .ref a ∧ a ≠ d ∧ H a = some (.dK kvs)
theorem Vy.vx {K : PySem.W.Frag} {H : Hp} {d : Addr} {v : V} (h : Vy K H d v) : ∃ x, Vx K H v x := by
  rcases h with ⟨x, h⟩ | ⟨a, kvs, e, _, h⟩
  · exact ⟨x, .inl h⟩
  · exact ⟨.dict [], .inr ⟨a, kvs, e, h, rfl⟩⟩
theorem pen_kp {H H' : Hp} {d c : Addr} {n : Nat} (p : PenAt H d c n) (b : But d H H') : Kp H H' := by
  obtain ⟨ns, s, r, h1, _⟩ := p
  exact kp_but h1 rfl b
theorem Vy.but {K : PySem.W.Frag} {H H' : Hp} {d c : Addr} {n : Nat} {v : V} (h : Vy K H d v) (p : PenAt H d c n) (b : But d H H') : Vy K H' d v := by
  rcases h with ⟨x, h, o⟩ | ⟨a, kvs, e, ne, h⟩
  · exact .inl ⟨x, dp_kp (pen_kp p b) h, o⟩
  · exact .inr ⟨a, kvs, e, ne, b _ _ h ne⟩
theorem Vy.same {K : PySem.W.Frag} {H H' : Hp} {d : Addr} {v : V} (h : Vy K H d v) (s : Same H H') : Vy K H' d v := by
  rcases h with ⟨x, h, o⟩ | ⟨a, kvs, e, ne, h⟩
  · exact .inl ⟨x, dp_same s h, o⟩
  · exact .inr ⟨a, kvs, e, ne, s _ _ h⟩
theorem vy_of {K : PySem.W.Frag} {H G : Hp} {d : Addr} {v : V} (f : Fresh G v) (nd : G d ≠ none) (h : ∃ x, Vx K H v x) : Vy K H d v := by
  obtain ⟨x, h | ⟨a, kvs, e, h, _⟩⟩ := h
  · exact .inl ⟨x, h⟩
  · exact .inr ⟨a, kvs, e, fun z => nd (f d (by rw [e, z])), h⟩
end VA

/-! Comprehensions over a text; a list that is compared with the empty one. -/
namespace VA
open PySem L2 SX AddrMath
/-- a comprehension over the signs of a text -/
theorem lc_signs {l : List Nat} {g : TG} {tt : TT} {te : TE} {vs : List Nat} {σ : L2.St} {H1 : Hp} {D : Addr} {Qd : Hp → Prop} (Pv : Nat → Hp → Prop) (h0 : Pv 0 (upd H1 D (.lst [])))
    (turn : ∀ i c H, l[i]? = some c → Pv i H → g (.str (S [c])) (wipe σ vs) H fun σ2 H2 => wipe σ2 vs = wipe σ vs ∧ tt σ2 H2 fun b H3 =>
      if b = true then te σ2 H3 fun y H4 => ∃ acc, H4 D = some (.lst acc) ∧ acc.length < sizeLine ∧ Pv (i + 1) (upd H4 D (.lst (acc ++ [y]))) else Pv (i + 1) H3) (done : ∀ H, Pv l.length H → Qd H) :
    ∃ W : Nat → Nat → Hp → Prop, (∃ m, W 0 m (upd H1 D (.lst []))) ∧ ∀ i m H, W i m H →
      ((Its (S l)).stop i H ∧ Qd H) ∨ ((Its (S l)).go i H ∧ ∃ Nx : Hp → Prop, (∀ H', Nx H' → ∃ m', m' < m ∧ W (i + 1) m' H') ∧ ∀ x H', (Its (S l)).yld i H x H' → g x (wipe σ vs) H' fun σ2 H2 => wipe σ2 vs = wipe σ vs ∧ tt σ2 H2 fun b H3 =>
        if b = true then te σ2 H3 fun y H4 => ∃ acc, H4 D = some (.lst acc) ∧ acc.length < sizeLine ∧ Nx (upd H4 D (.lst (acc ++ [y]))) else Nx H3) := by
  have sz : (S l).cps.size = l.length := by simp [S]
  refine ⟨fun i m H => m = l.length - i ∧ i ≤ l.length ∧ Pv i H, ⟨_, rfl, Nat.zero_le _, h0⟩, fun i m H hW => ?_⟩
  obtain ⟨rfl, hi, p⟩ := hW
  rcases Nat.lt_or_ge i l.length with hlt | hge
  · refine .inr ⟨by show i < (S l).cps.size; rw [sz]; exact hlt, Pv (i + 1), fun H' p' => ⟨l.length - (i + 1), by omega, rfl, hlt, p'⟩, fun x H' y => ?_⟩
    obtain ⟨rfl, c, hc, rfl⟩ := y
    refine turn i c H' ?_ p
    simpa [S] using hc
  · have e : i = l.length := by omega
    subst e
    exact .inl ⟨by show (S l).cps.size ≤ _; rw [sz]; exact Nat.le_refl _, done H p⟩
theorem letters_in : ∀ k : Nat, k < 26 → 97 + k ∈ lettersL := by decide +kernel
theorem letters_iff (c : Nat) : c ∈ lettersL ↔ isL c = true := by
  constructor
  · exact letters_all c
  · intro h
    unfold isL at h
    rw [Bool.and_eq_true, decide_eq_true_eq, decide_eq_true_eq] at h
    have z := letters_in (c - 97) (by omega)
    rw [show 97 + (c - 97) = c by omega] at z
    exact z

theorem eqv_nil (ds : List PyData) : PyData.eqv (.list ds) (.list []) = ds.isEmpty := by
  cases ds <;> rfl
/-- xs == [], the list xs just made -/
theorem eq_nil {K : PySem.W.Frag} {σ : L2.St} {H : Hp} {D : Addr} {xs : List V} {ds : List PyData} {Q : VK} (hD : H D = some (.lst xs)) (hd : DpAll K H xs ds) (few : ds.length ≤ 1000) (ok : ∀ d ∈ ds, okD 7 d = true) (q : ∀ H', Same H H' → Q (.bl ds.isEmpty) H') :
    tLst tNil σ H fun y H2 => rEqD K (.ref D) y H2 Q := by
  refine ⟨Nat.zero_le _, fun e ne => ?_⟩
  have s := same_new (o := .lst []) ne
  refine ⟨.list ds, .list [], .lst (.inl (.inl (s _ _ hD))) (dps_same s hd), .lst (.inl (.inl upd_same)) .nil, ok_shaped (ok_seq few ok).1 (by decide), by decide +kernel, ?_⟩
  rw [eqv_nil]
  exact q _ s
/-- the items that pass, as data -/
theorem dps_filter {K : PySem.W.Frag} {H : Hp} (p : V → Bool) (f : PyData → Bool) : ∀ {ds : List PyData} {xs : List V}, DpAll K H xs ds → (∀ x d, x ∈ xs → d ∈ ds → Dp K H x d → p x = f d) → DpAll K H (xs.filter p) (ds.filter f)
  | [], _, h, _ => by cases h; exact .nil
  | d :: ds, _, h, hp => by
    cases h with
    | @cons x xs _ _ h1 h2 =>
      have e := hp x d (List.mem_cons_self ..) (List.mem_cons_self ..) h1
      have ih := dps_filter p f h2 fun y c hy hc => hp y c (List.mem_cons_of_mem _ hy) (List.mem_cons_of_mem _ hc)
      cases q : f d with
      | true =>
        rw [List.filter_cons_of_pos (by rw [e]; exact q), List.filter_cons_of_pos q]
        exact .cons h1 ih
      | false =>
        rw [List.filter_cons_of_neg (by rw [e, q]; exact Bool.false_ne_true), List.filter_cons_of_neg (by rw [q]; exact Bool.false_ne_true)]
        exact ih
theorem filter_empty {α : Type} (f : α → Bool) (xs : List α) : (xs.filter f).isEmpty = xs.all fun x => !f x := by
  induction xs with
  | nil => rfl
  | cons x xs ih =>
    cases h : f x with
    | true =>
      rw [List.filter_cons_of_pos h, List.all_cons, h]
      rfl
    | false =>
      rw [List.filter_cons_of_neg (by rw [h]; exact Bool.false_ne_true), List.all_cons, h, ih]
      rfl
theorem map_same {α : Type} (xs : List α) : (xs.map fun x => x) = xs := by
  induction xs with
  | nil => rfl
  | cons x xs ih => rw [List.map_cons, ih]
end VA

/-! {x: True for x in xs}, xs a list or a tuple of ints and texts. -/
namespace VA
open PySem L2 SX AddrMath
abbrev DkGoal (J : It) (vs : List Nat) (j : Nat) (σ : L2.St) (H1 : Hp) (D : Addr) (Qd : Hp → Prop) : Prop :=
  ∃ W : Nat → Nat → Hp → Prop, (∃ m, W 0 m (upd H1 D (.dK []))) ∧ ∀ i m H, W i m H →
    (J.stop i H ∧ Qd H) ∨ (J.go i H ∧ ∃ Nx : Hp → Prop, (∀ H', Nx H' → ∃ m', m' < m ∧ W (i + 1) m' H') ∧ ∀ x H', J.yld i H x H' → gName j x (wipe σ vs) H' fun σ2 H2 => wipe σ2 vs = wipe σ vs ∧ tYes σ2 H2 fun b H3 =>
      if b = true then tVar j σ2 H3 fun y H4 => tC (.bl true) σ2 H4 fun z H5 => ∃ kvs k, y = kV k ∧ H5 D = some (.dK kvs) ∧ kvs.length < sizeLine ∧ Nx (upd H5 D (.dK (putK kvs k z))) else Nx H3)
def hasK (ks : List Key) (k : Key) : Bool := ks.any fun x => decide (x = k)
theorem putK_few (kvs : List (Key × V)) (k : Key) (v : V) : (putK kvs k v).length ≤ kvs.length + 1 := by
  unfold putK
  split
  · rw [List.length_map]
    omega
  · rw [List.length_append]
    exact Nat.le_refl _
theorem dk_walk {J : It} {xs : List V} {ks : List Key} {G : Hp → Prop} (w : Walk J xs.length G (YAt xs)) (hk : xs = ks.map kV) (few : xs.length ≤ 1000) {vs : List Nat} {j : Nat} {σ : L2.St} {H1 : Hp} {D : Addr} {Qd : Hp → Prop} (nD : H1 D = none) (hG : ∀ H, Same H1 H → G H)
    (hw : ∀ x, wipe ((wipe σ vs).set j (some x)) vs = wipe σ vs) (hv : ∀ x, ((wipe σ vs).set j (some x))[j]? = some (some x))
    (fin : ∀ H' kvs, H' D = some (.dK kvs) → (∀ k, valV kvs k = if hasK ks k = true then some (V.bl true) else none) → Same H1 H' → Qd H') : DkGoal J vs j σ H1 D Qd := by
  refine ⟨fun i m H => m = xs.length - i ∧ i ≤ xs.length ∧ Same H1 H ∧ ∃ kvs, H D = some (.dK kvs) ∧ kvs.length ≤ i ∧ ∀ k, valV kvs k = if hasK (ks.take i) k = true then some (V.bl true) else none, ⟨xs.length, by simp, Nat.zero_le _, same_new nD, [], upd_same, Nat.le_refl _, fun k => rfl⟩, ?_⟩
  rintro i m H ⟨rfl, hi, s, kvs, hD, hl, hvv⟩
  have q := hG H s
  by_cases hlt : i < xs.length
  · refine .inr ⟨w.goes i H hlt q, fun H' => Same H1 H' ∧ ∃ kvs, H' D = some (.dK kvs) ∧ kvs.length ≤ i + 1 ∧ ∀ k, valV kvs k = if hasK (ks.take (i + 1)) k = true then some (V.bl true) else none, fun H' p' => ⟨xs.length - (i + 1), by omega, rfl, hlt, p'⟩, fun x H' y => ?_⟩
    obtain ⟨rfl, hx⟩ := w.yields i H x H' hlt q y
    rw [hk, List.getElem?_map, Option.map_eq_some_iff] at hx
    obtain ⟨k, hkk, rfl⟩ := hx
    refine ⟨hw _, ?_⟩
    unfold tYes
    show (if true = true then _ else _)
    rw [if_pos rfl]
    refine ⟨_, hv _, kvs, k, rfl, hD, small1000 (by omega), fun b o z => ?_, _, upd_same, ?_, fun k' => ?_⟩
    · rw [upd_ne (ne_of_none z nD)]
      exact s _ _ z
    · have := putK_few kvs k (.bl true)
      omega
    · rw [valV_put, take_snoc hkk]
      unfold hasK
      rw [List.any_append]
      by_cases e : k' = k
      · rw [if_pos e, if_pos (by simp [e])]
      · rw [if_neg e, hvv k']
        unfold hasK
        have : ([k].any fun x => decide (x = k')) = false := by rw [List.any_cons, List.any_nil, Bool.or_false]; exact decide_eq_false fun z => e z.symm
        rw [this, Bool.or_false]
  · have e : i = xs.length := by omega
    subst e
    refine .inl ⟨w.stops H q, fin H kvs hD (fun k => ?_) s⟩
    rw [hvv k, List.take_of_length_le (by rw [← List.length_map (f := kV), ← hk]; exact Nat.le_refl _)]
theorem seq_keys {K : PySem.W.Frag} {a : Addr} {xs : List V} {ks : List Key} {j : Nat} {vs : List Nat} {σ : L2.St} {H1 : Hp} {Qd : Addr → Hp → Prop} (hq : SqA K H1 a xs) (hk : xs = ks.map kV) (few : xs.length ≤ 1000)
    (hw : ∀ x, wipe ((wipe σ vs).set j (some x)) vs = wipe σ vs) (hv : ∀ x, ((wipe σ vs).set j (some x))[j]? = some (some x))
    (fin : ∀ D H' kvs, H1 D = none → H' D = some (.dK kvs) → (∀ k, valV kvs k = if hasK ks k = true then some (V.bl true) else none) → Same H1 H' → Qd D H') :
    ∃ a', V.ref a = V.ref a' ∧ (((∃ ys, SqL K H1 a' ys) ∧ ∀ D, H1 D = none → DkGoal (Itl K a') vs j σ H1 D (Qd D)) ∨ ((∃ ys, SqT K H1 a' ys) ∧ ∀ D, H1 D = none → DkGoal (Itt K a') vs j σ H1 D (Qd D))) := by
  refine ⟨a, rfl, ?_⟩
  rcases hq with hq | hq
  · exact .inl ⟨⟨xs, hq⟩, fun D nD => dk_walk walk_list hk few nD (fun H s => s.seq hq) hw hv fun H' kvs => fin D H' kvs nD⟩
  · exact .inr ⟨⟨xs, hq⟩, fun D nD => dk_walk walk_tup hk few nD (fun H s => same_seqT s hq) hw hv fun H' kvs => fin D H' kvs nD⟩
end VA

/-! Parts of texts: comprehensions over long lists, what stands at the ends of a list. -/
namespace VA
open PySem L2 SX AddrMath
/-- for long ones: a comprehension over a list or a tuple whose test and element are known by values, and leave what stands -/
theorem seq_mapL {K : PySem.W.Frag} {a : Addr} {xs : List V} {j : Nat} {tt : TT} {te : TE} {vs : List Nat} {σ : L2.St} {H1 : Hp} {Qd : Addr → Hp → Prop} (hq : SqA K H1 a xs) (few : xs.length ≤ 1000000) (p : V → Bool) (F : V → V)
    (hw : ∀ x, wipe ((wipe σ vs).set j (some x)) vs = wipe σ vs)
    (step : ∀ x ∈ xs, ∀ H, Same H1 H → (∀ R : Bool → Hp → Prop, (∀ H', Same H H' → R (p x) H') → tt ((wipe σ vs).set j (some x)) H R) ∧ (p x = true → ∀ H', Same H H' → ∀ R : VK, (∀ H'', Same H' H'' → R (F x) H'') → te ((wipe σ vs).set j (some x)) H' R))
    (fin : ∀ D H', H1 D = none → H' D = some (.lst ((xs.filter p).map F)) → Same H1 H' → Qd D H') :
    ∃ a', V.ref a = V.ref a' ∧ (((∃ ys, SqL K H1 a' ys) ∧ ∀ D, H1 D = none → ∃ W : Nat → Nat → Hp → Prop, (∃ m, W 0 m (upd H1 D (.lst []))) ∧ ∀ i m H, W i m H →
      ((Itl K a').stop i H ∧ Qd D H) ∨ ((Itl K a').go i H ∧ ∃ Nx : Hp → Prop, (∀ H', Nx H' → ∃ m', m' < m ∧ W (i + 1) m' H') ∧ ∀ x H', (Itl K a').yld i H x H' → gName j x (wipe σ vs) H' fun σ2 H2 => wipe σ2 vs = wipe σ vs ∧ tt σ2 H2 fun b H3 =>
        if b = true then te σ2 H3 fun y H4 => ∃ acc, H4 D = some (.lst acc) ∧ acc.length < sizeLine ∧ Nx (upd H4 D (.lst (acc ++ [y]))) else Nx H3)) ∨
     ((∃ ys, SqT K H1 a' ys) ∧ ∀ D, H1 D = none → ∃ W : Nat → Nat → Hp → Prop, (∃ m, W 0 m (upd H1 D (.lst []))) ∧ ∀ i m H, W i m H →
      ((Itt K a').stop i H ∧ Qd D H) ∨ ((Itt K a').go i H ∧ ∃ Nx : Hp → Prop, (∀ H', Nx H' → ∃ m', m' < m ∧ W (i + 1) m' H') ∧ ∀ x H', (Itt K a').yld i H x H' → gName j x (wipe σ vs) H' fun σ2 H2 => wipe σ2 vs = wipe σ vs ∧ tt σ2 H2 fun b H3 =>
        if b = true then te σ2 H3 fun y H4 => ∃ acc, H4 D = some (.lst acc) ∧ acc.length < sizeLine ∧ Nx (upd H4 D (.lst (acc ++ [y]))) else Nx H3))) := by
  have key : ∀ D, H1 D = none → ∀ i x H, xs[i]? = some x → (Same H1 H ∧ H D = some (.lst (((xs.take i).filter p).map F))) → gName j x (wipe σ vs) H fun σ2 H2 => wipe σ2 vs = wipe σ vs ∧ tt σ2 H2 fun b H3 =>
        if b = true then te σ2 H3 fun y H4 => ∃ acc, H4 D = some (.lst acc) ∧ acc.length < sizeLine ∧ (Same H1 (upd H4 D (.lst (acc ++ [y]))) ∧ (upd H4 D (.lst (acc ++ [y]))) D = some (.lst (((xs.take (i + 1)).filter p).map F))) else (Same H1 H3 ∧ H3 D = some (.lst (((xs.take (i + 1)).filter p).map F))) := by
    rintro D nD i x H hx ⟨s1, hD⟩
    have hm : x ∈ xs := List.mem_of_getElem? hx
    obtain ⟨t1, t2⟩ := step x hm H s1
    refine ⟨hw x, t1 _ fun H' s2 => ?_⟩
    have hD2 := s2 _ _ hD
    rw [take_snoc hx, List.filter_append, List.map_append]
    cases e : p x with
    | false =>
      refine iteF ⟨s1.trans s2, ?_⟩
      rw [show [x].filter p = [] by simp [e], List.map_nil, List.append_nil]
      exact hD2
    | true =>
      refine iteT (t2 e H' s2 _ fun H'' s3 => ⟨_, s3 _ _ hD2, ?_, fun b o z => ?_, ?_⟩)
      · refine size_lt (Nat.le_trans ?_ few)
        rw [List.length_map]
        exact Nat.le_trans (List.length_filter_le _ _) (by rw [List.length_take]; exact Nat.min_le_right _ _)
      · rw [upd_ne (ne_of_none z nD)]
        exact s3 _ _ (s2 _ _ (s1 _ _ z))
      · rw [upd_same, show [x].filter p = [x] by simp [e]]
        rfl
  have fin' : ∀ D, H1 D = none → ∀ H, (Same H1 H ∧ H D = some (.lst (((xs.take xs.length).filter p).map F))) → Qd D H := by
    rintro D nD H ⟨s1, hD⟩
    rw [List.take_length] at hD
    exact fin D H nD hD s1
  refine ⟨a, rfl, ?_⟩
  rcases hq with hq | hq
  · exact .inl ⟨⟨xs, hq⟩, fun D nD => lc_list (K := K) (a := a) (xs := xs) (fun i H => Same H1 H ∧ H D = some (.lst (((xs.take i).filter p).map F))) ⟨same_new nD, upd_same⟩ (fun i H _ z => z.1.seq hq) (key D nD) (fin' D nD)⟩
  · exact .inr ⟨⟨xs, hq⟩, fun D nD => lc_tup (K := K) (a := a) (xs := xs) (fun i H => Same H1 H ∧ H D = some (.lst (((xs.take i).filter p).map F))) ⟨same_new nD, upd_same⟩ (fun i H _ z => same_seqT z.1 hq) (key D nD) (fin' D nD)⟩

theorem cut_init {xs : List V} (h : 0 < xs.length) : cutV xs none (some (-1)) = xs.dropLast := by
  have e : HT.sIx xs.length xs.length (some (-1)) = xs.length - 1 := by
    show (if (-1 : Int) < 0 then ((-1 : Int) + (xs.length : Int)).toNat else min (-1 : Int).toNat xs.length) = xs.length - 1
    rw [if_pos (by decide)]
    omega
  unfold cutV
  rw [e, HT.sIx_none, List.drop_zero, Nat.sub_zero, List.dropLast_eq_take]
theorem at_last {α : Type} {xs : List α} {y : α} (h : xs.getLast? = some y) : atI xs (-1) = some y := by
  have l : 0 < xs.length := by
    cases xs with
    | nil => cases h
    | cons _ _ => exact Nat.succ_pos _
  have e : ixN xs.length (-1) = some (xs.length - 1) := by
    unfold ixN
    rw [if_neg (by decide)]
    first
    | (rw [if_pos (by omega)]; exact congrArg some (by omega))
    | (rw [if_pos (by omega)] <;> simp <;> omega)
  unfold atI
  rw [e, Option.bind_some, ← List.getLast?_eq_getElem?]
  exact h
end VA

namespace RL
open PySem L2 SX AddrMath VA TxSet
/-! ### the same of a value as it stands -/
def wordOk : V → Bool
  | .str z => isW z.cps.toList
  | _ => false
def entOk : V → Bool
  | .str z => isW z.cps.toList
  | .int i => decide (1 ≤ i) && decide (i ≤ 2)
  | _ => false
section
variable {K : PySem.W.Frag}
theorem word_v {H : Hp} {x : V} {d : PyData} (h : Dp K H x d) : wordOk x = isWordD d := by cases h <;> rfl
theorem ent_v {H : Hp} {x : V} {d : PyData} (h : Dp K H x d) : entOk x = isEntD d := by
  cases h with
  | str z => exact (Bool.or_false _).symm
  | int i => exact (Bool.false_or _).symm
  | _ => rfl
theorem ents_v {H : Hp} : ∀ {ds : List PyData} {xs : List V}, DpAll K H xs ds → xs.all entOk = ds.all isEntD
  | [], _, h => by cases h; rfl
  | d :: ds, _, h => by
    cases h with
    | cons h1 h2 => rw [List.all_cons, List.all_cons, ent_v h1, ents_v h2]
theorem map_bl (f : V → Bool) (xs : List V) : ((xs.filter fun _ => true).map fun x => V.bl (f x)) = (xs.map f).map V.bl := by
  rw [filter_yes, List.map_map]
  rfl
theorem all_map (f : V → Bool) (xs : List V) : (xs.map f).all id = xs.all f := by
  rw [List.all_map]
  rfl
theorem okv {H : Hp} {x : V} {d : PyData} (h : Dp K H x d) (o : okD 7 d = true) : Vx K H x d := .inl ⟨h, ok_mono (by decide) o⟩
variable {P : Program} {w : World} {mg : Str → Option Value} {base : Heap}
/-! ### are_entries: slots value 0, most 1, entry 2 -/
abbrev sAreEntries : Stmt := top 29
def spAreEnt (K : PySem.W.Frag) : Sp := fun vs H Q _ => ∃ x d m, vs = [x, .int m, .bl false] ∧ Vx K H x d ∧ ∀ H', Same H H' → Q (.bl (areEntD m d)) H'
theorem scAreEntries : FnScope ["value", "most", "is_free", "entry"] ["value", "most", "is_free"] (defScope sAreEntries) := ⟨rfl, rfl, rfl, by decide +kernel, rfl, by decide +kernel, by decide +kernel⟩
theorem ok_areent {f : Addr} {fd : FuncData} (F : Fun K "are_entries" "are_entries" sAreEntries f fd) (B : Blt mg) (is_word : Own P w K mg base CX0 1 "is_word" ["value"] (spIsWord K)) (is_hole : Own P w K mg base CX0 2 "is_hole" ["value", "is_free"] (spIsHole K)) :
    FnOk P w K mg base CX0 3 f fd ["value", "most", "is_free"] (spAreEnt K) := by
  refine F.ok scAreEntries (fun vs H Q E h => ?_) (fun cdv A outer s H vs Q E hr h => ?_)
  · obtain ⟨x, d, m, rfl, _⟩ := h
    rfl
  · obtain ⟨x, d, m, rfl, hx, q⟩ := h
    refine ⟨_, (pss_cons (ps_if (PW.pt (pw_or (pt_not (pt_val (pe_callB call_isiT (by rfl) B.isinstance_ (by decide +kernel) (pa_cons (pv 0) (pa_cons (pe_tup (pa_cons (pe_bltn (v := .ty "list") (by rfl) B.list_ (by decide +kernel) rfl) (pa_cons (pe_bltn (v := .ty "tuple") (by rfl) B.tuple_ (by decide +kernel) rfl) pa_nil))) pa_nil))))) (pw_or1 (PW.pt (pw_and (pt_not (pt_val (pv 2))) (pw_and1 (pt_cmpR op_gt (pe_callB call_len (by rfl) B.len_ (by decide +kernel) (pa_cons (pv 0) pa_nil)) (pv 1) (nomark _)))))))) (pss_one (ps_ret pe_bl)) pss_nil)
      (pss_one (ps_ret (pe_callB (cr_all rfl) (by rfl) B.all_ (by decide +kernel) (pa_cons (pe_lc (own := [("entry", 3)]) (g := gName 3) (tt := tYes) rfl scAreEntries.nd (pi_seq (pv 0))
          (blkOk_by (own := [("entry", 3)]) (N := ["value", "most", "is_free", "entry"]) (sc := defScope sAreEntries) (by decide +kernel))
          (fun _ _ _ _ _ => (pg_name (i := 3) scAreEntries.nd rfl (Or.inl rfl))) (fun _ _ _ _ _ => pts_nil)
          (fun _ _ _ _ _ => (pe_or (pe_call is_word.g (hr.mono (by decide)) rfl is_word.mg is_word.kp is_word.b .nil pass0 (pa_cons (pv 3) pa_nil)) (pe_one (pe_call is_hole.g (hr.mono (by decide)) rfl is_hole.mg is_hole.kp is_hole.b .nil pass0 (pa_cons (pv 3) (pa_cons (pv 2) pa_nil))))))) pa_nil))))), ?_⟩
    refine ⟨_, rfl, by show 2 ≤ sizeLine; decide, fun t nt => ?_⟩
    have s1 : Same H (upd H t (.tup [.ty "list", .ty "tuple"])) := same_new nt
    refine ⟨_, t, _, _, [.type "list", .type "tuple"], isSeqD d, rfl, upd_same, .cons (.ty "list") (.cons (.ty "tuple") .nil), (hx.same s1).ty, kitSeq d, _, rfl, ?_⟩
    generalize upd H t (.tup [.ty "list", .ty "tuple"]) = H1 at s1 ⊢
    have h1 := hx.same s1
    cases e : isSeqD d with
    | false =>
      refine iteT (iteT ?_)
      have : areEntD m d = false := by unfold areEntD; rw [e]; rfl
      rw [this] at q
      exact q _ s1
    | true =>
      refine iteF ?_
      obtain ⟨a, xs, rfl, ha, hd, few, ok⟩ := vx_seq h1 e
      have hl := dps_len hd
      refine ⟨_, rfl, _, rfl, iteT ⟨_, rfl, _, xs.length, rfl, ?_, _, rfl, _, _, rfl, rfl, _, rfl, if_is (fun c => ?_) (fun c => ?_)⟩⟩
      · rcases ha with ha | ha
        · exact .inl ⟨xs, ha, rfl⟩
        · exact .inr ⟨xs, ha, rfl⟩
      · have : areEntD m d = false := by
          have c' : m < (xs.length : Int) := of_decide_eq_true c
          unfold areEntD
          rw [e, decide_eq_false (by omega)]
          rfl
        rw [this] at q
        exact q _ s1
      · have c' : ¬ m < (xs.length : Int) := of_decide_eq_false c
        refine ⟨_, rfl, ?_⟩
        refine seq_mapL ha (by omega) (fun _ => true) (fun x => .bl (entOk x)) ?hw (fun x hm H2 s2 => ⟨fun R hR => no_test hR, fun _ H3 s3 R hR => ?_⟩) fun D H2 nD hD s2 => ?_
        case hw => intro _; rfl
        · obtain ⟨dx, hdx, hv⟩ := dps_at hd hm
          have hv3 : Vx K H3 x dx := okv (dp_same s3 (dp_same s2 hv)) (ok dx hdx)
          have ee := ent_v hv
          refine ⟨_, rfl, x, dx, rfl, hv3, _, rfl, if_is (fun e1 => ?_) (fun e1 => ?_)⟩
          · have q3 := hR H3 (Same.refl H3)
            rw [ee, isEntD, e1] at q3
            exact q3
          · have q3 := hR H3 (Same.refl H3)
            rw [ee, isEntD, e1, Bool.false_or] at q3
            exact ⟨_, rfl, _, rfl, x, dx, rfl, hv3, q3⟩
        · rw [map_bl] at hD
          refine ⟨D, _, rfl, .inl (.inl hD), ?_⟩
          rw [all_map, ents_v hd]
          have : areEntD m d = (itemsD d).all isEntD := by
            unfold areEntD
            rw [e, decide_eq_true (by omega)]
            rfl
          rw [this] at q
          exact q _ (s1.trans s2)
/-- an entry as a key -/
def entK : PyData → Key
  | .int i => .inl i
  | .str z => .inr z
  | _ => .inl 0
def valK : V → Key
  | .int i => .inl i
  | .str z => .inr z
  | _ => .inl 0
theorem entV_key {d : PyData} (h : isEntD d = true) : entV d = kV (entK d) := by
  cases d <;> first | rfl | cases h
theorem valK_ent {d : PyData} (h : isEntD d = true) : valK (entV d) = entK d := by
  cases d <;> first | rfl | cases h
theorem ents_keys {ds : List PyData} (h : ds.all isEntD = true) : ds.map entV = (ds.map entK).map kV := by
  rw [List.map_map]
  exact List.map_congr_left fun d hd => entV_key (List.all_eq_true.mp h d hd)
theorem inD_key {d : PyData} (hd : isEntD d = true) : ∀ {ds : List PyData}, ds.all isEntD = true → inD d ds = hasK (ds.map entK) (entK d)
  | [], _ => rfl
  | e :: ds, h => by
    rw [List.all_cons, Bool.and_eq_true] at h
    show (PyData.eqv e d || inD d ds) = (decide (entK e = entK d) || hasK (ds.map entK) (entK d))
    rw [inD_key hd h.2]
    congr 1
    cases e with
    | int i => cases d with
      | int j => by_cases c : i = j <;> simp [PyData.eqv, entK, c]
      | str z => simp [PyData.eqv, entK]
      | _ => cases hd
    | str y => cases d with
      | int j => simp [PyData.eqv, entK]
      | str z => by_cases c : y = z <;> simp [PyData.eqv, entK, c]
      | _ => cases hd
    | _ => cases h.1
/-! ### is_goal: slots value 0, pattern 1, is_free 2, state 3, beginning 4, entry 5, entries 6 cells entries -/
abbrev sIsGoal : Stmt := top 30
theorem scIsGoal : FnScope ["value", "pattern", "is_free", "state", "beginning", "entry", "entries"] ["value", "pattern", "is_free"] (defScope sIsGoal) := ⟨rfl, rfl, rfl, by decide +kernel, rfl, by decide +kernel, by decide +kernel⟩
def spIsGoal (K : PySem.W.Frag) : Sp := fun vs H Q _ => ∃ x y g p, vs = [x, y, .bl false] ∧ Vx K H x g ∧ Vx K H y p ∧ areEntD 2 p = true ∧ ∀ H', Same H H' → Q (.bl (isGoalD g p)) H'
def isNonD : PyData → Bool
  | .none => true
  | _ => false
theorem vx_non {H : Hp} {x : V} {d : PyData} (h : Vx K H x d) : decide (x = .non) = isNonD d := by
  rcases h with ⟨h, o⟩ | ⟨a, kvs, rfl, h, rfl⟩
  · cases h <;> simp [isNonD]
  · simp [isNonD]
theorem goal_no {g p : PyData} (h : isTupD g = false) (n : g ≠ .none) : isGoalD g p = false := by
  cases g with
  | none => exact absurd rfl n
  | tuple l => cases h
  | _ => rfl
theorem goal_len {l : List PyData} {p : PyData} (h : l.length ≠ 2) : isGoalD (.tuple l) p = false := by
  match l, h with
  | [], _ => rfl
  | [_], _ => rfl
  | [_, _], h => exact absurd rfl h
  | _ :: _ :: _ :: _, _ => rfl
theorem areEnt_parts {m : Int} {d : PyData} (h : areEntD m d = true) : isSeqD d = true ∧ ((itemsD d).length : Int) ≤ m ∧ (itemsD d).all isEntD = true := by
  unfold areEntD at h
  rw [Bool.and_eq_true, Bool.and_eq_true, decide_eq_true_eq] at h
  exact h
theorem ok_isgoal {f : Addr} {fd : FuncData} {tB : Tok} (F : Fun K "is_goal" "is_goal" sIsGoal f fd) (B : Blt mg) (mBEGINNING : mg "BEGINNING" = some (.int 4 tB)) (is_word : Own P w K mg base CX0 1 "is_word" ["value"] (spIsWord K)) (are_entries : Own P w K mg base CX0 3 "are_entries" ["value", "most", "is_free"] (spAreEnt K)) :
    FnOk P w K mg base CX0 4 f fd ["value", "pattern", "is_free"] (spIsGoal K) := by
  refine F.ok scIsGoal (fun vs H Q E h => ?_) (fun cdv A outer s H vs Q E hr h => ?_)
  · obtain ⟨x, y, g, p, rfl, _⟩ := h
    rfl
  · obtain ⟨x, y, g, p, rfl, hx, hy, hp, q⟩ := h
    refine ⟨_, (pss_cons (ps_if (pt_cmpR op_isN (pv 0) pe_non (nomark _)) (pss_one (ps_ret pe_bl)) pss_nil)
      (pss_cons (ps_if (PW.pt (pw_or (pt_not (pt_val (pe_callB call_isi (by rfl) B.isinstance_ (by decide +kernel) (pa_cons (pv 0) (pa_cons (pe_bltn (v := .ty "tuple") (by rfl) B.tuple_ (by decide +kernel) rfl) pa_nil))))) (pw_or1 (pt_cmpR op_ne (pe_callB call_len (by rfl) B.len_ (by decide +kernel) (pa_cons (pv 0) pa_nil)) pe_int (nomark _))))) (pss_one (ps_ret pe_bl)) pss_nil)
      (pss_cons (ps_asg (pv 0) (pg_tup rfl (pgs_cons (pg_name (i := 3) scIsGoal.nd rfl (Or.inl rfl)) (pgs_cons (pg_name (i := 4) scIsGoal.nd rfl (Or.inl rfl)) pgs_nil))))
      (pss_cons (ps_if (PW.pt (pw_or (pt_not (pt_val (pe_call is_word.g (hr.mono (by decide)) rfl is_word.mg is_word.kp is_word.b .nil pass0 (pa_cons (pv 3) pa_nil)))) (pw_or1 (pt_not (pt_val (pe_call are_entries.g (hr.mono (by decide)) rfl are_entries.mg are_entries.kp are_entries.b .nil pass0 (pa_cons (pv 4) (pa_cons (pe_glob (v := .int 4) rfl mBEGINNING ⟨_, rfl⟩) (pa_cons (pv 2) pa_nil))))))))) (pss_one (ps_ret pe_bl)) pss_nil)
      (pss_cons (ps_set (i := 6) scIsGoal.nd rfl (Or.inr rfl) (pe_dc (own := [("entry", 5)]) (g := gName 5) (tt := tYes) rfl scIsGoal.nd (pi_seq (pv 1))
          (blkOk_by (own := [("entry", 5)]) (N := ["value", "pattern", "is_free", "state", "beginning", "entry", "entries"]) (sc := defScope sIsGoal) (by decide +kernel))
          (fun _ _ _ _ _ => (pg_name (i := 5) scIsGoal.nd rfl (Or.inl rfl))) (fun _ _ _ _ _ => pts_nil)
          (fun _ _ _ _ _ => (pv 5)) (fun _ _ _ _ _ => pe_bl)))
      (pss_one (ps_ret (pe_callB (cr_all rfl) (by rfl) B.all_ (by decide +kernel) (pa_cons (pe_lc (own := [("entry", 5)]) (g := gName 5) (tt := tYes) rfl scIsGoal.nd (pi_seq (pv 4))
          (blkOk_by (own := [("entry", 5)]) (N := ["value", "pattern", "is_free", "state", "beginning", "entry", "entries"]) (sc := defScope sIsGoal) (by decide +kernel))
          (fun _ _ _ _ _ => (pg_name (i := 5) scIsGoal.nd rfl (Or.inl rfl))) (fun _ _ _ _ _ => pts_nil)
          (fun _ _ _ _ _ => (pe_or (pe_call is_word.g (hr.mono (by decide)) rfl is_word.mg is_word.kp is_word.b .nil pass0 (pa_cons (pv 5) pa_nil)) (pe_one (pe_cmp (pc_din (hu_of hr) (pv 5) (pv 6)) rfl))))) pa_nil))))))))), ?_⟩
    refine ⟨_, rfl, rfl, _, rfl, ?_⟩
    rw [vx_non hx]
    by_cases hn : g = .none
    · subst hn
      exact iteT (q _ (Same.refl H))
    have e0 : isNonD g = false := by cases g <;> first | rfl | exact absurd rfl hn
    rw [e0]
    refine iteF ⟨_, rfl, _, _, _, _, isTupD g, rfl, .ty "tuple", hx.ty, kitTup g, _, rfl, ?_⟩
    cases e1 : isTupD g with
    | false =>
      refine iteT (iteT ?_)
      rw [goal_no e1 hn] at q
      exact q _ (Same.refl H)
    | true =>
      refine iteF ?_
      have e2 : isSeqD g = true := by cases g <;> first | rfl | cases e1
      obtain ⟨l, rfl⟩ : ∃ l, g = .tuple l := by
        cases g with
        | tuple l => exact ⟨l, rfl⟩
        | _ => cases e1
      obtain ⟨hd0, ok0⟩ : Dp K H x (.tuple l) ∧ okD 8 (.tuple l) = true := by
        rcases hx with h | ⟨a, kvs, _, _, z⟩
        · exact h
        · cases z
      rw [okD, Bool.and_eq_true, Bool.and_eq_true, decide_eq_true_eq, decide_eq_true_eq] at ok0
      have ok := okAll_mem ok0.2.2
      cases hd0 with
      | @tup a xs _ ha hd =>
      have hl := dps_len hd
      refine ⟨_, rfl, _, xs.length, rfl, .inr ⟨xs, ha, rfl⟩, rfl, _, rfl, ?_⟩
      by_cases h2' : l.length ≠ 2
      · have h2 := h2'
        rw [show (!decide (V.int (xs.length : Int) = V.int 2)) = true by simp; omega]
        refine iteT ?_
        rw [goal_len h2] at q
        exact q _ (Same.refl H)
      have h2 : l.length = 2 := Decidable.not_not.mp h2'
      rw [show (!decide (V.int (xs.length : Int) = V.int 2)) = false by simp; omega]
      refine iteF ?_
      obtain ⟨sd, bd, rfl⟩ : ∃ sd bd, l = [sd, bd] := by
        match l, h2 with
        | [sd, bd], _ => exact ⟨sd, bd, rfl⟩
      cases hd with
      | @cons sv _ _ _ hs hd =>
      cases hd with
      | @cons bv _ _ _ hb hd =>
      cases hd
      have okS := ok sd (by simp)
      have okB := ok bd (by simp)
      refine ⟨_, rfl, a, _, rfl, ha, rfl, sv, _, rfl, bv, _, rfl, rfl, ?_⟩
      refine ⟨_, rfl, sv, sd, rfl, okv hs okS, _, rfl, if_is (fun c => ?_) (fun c => ?_)⟩
      · have c' : isWordD sd = false := by
          cases z : isWordD sd with
          | false => rfl
          | true => rw [z] at c; cases c
        refine iteT ?_
        have : isGoalD (.tuple [sd, bd]) p = false := by
          show (isWordD sd && _) = false
          rw [c']
          rfl
        rw [this] at q
        exact q _ (Same.refl H)
      have cS : isWordD sd = true := by
        cases z : isWordD sd with
        | true => rfl
        | false => rw [z] at c; cases c
      refine ⟨_, rfl, _, rfl, bv, bd, 4, rfl, okv hb okB, fun H1 s1 => ⟨_, rfl, ?_⟩⟩
      have goalE : isGoalD (.tuple [sd, bd]) p = (areEntD 4 bd && (itemsD bd).all fun e => isWordD e || inD e (itemsD p)) := by
        show (isWordD sd && _) = _
        rw [cS]
        rfl
      cases eB : areEntD 4 bd with
      | false =>
        refine iteT ?_
        rw [goalE, eB] at q
        exact q _ s1
      | true =>
        refine iteF ?_
        rw [goalE, eB, Bool.true_and] at q
        obtain ⟨b1, b2, b3⟩ := areEnt_parts eB
        obtain ⟨p1, p2, p3⟩ := areEnt_parts hp
        obtain ⟨ba, bs, rfl, hba, hbd, bfew, bok⟩ := vx_seq ((okv hb okB).same s1) b1
        obtain ⟨pa, ps, rfl, hpa, hpd, pfew, pok⟩ := vx_seq (hy.same s1) p1
        have eps := ents_val hpd p3
        have hbl := dps_len hbd
        refine ⟨_, rfl, ?_⟩
        refine seq_keys hpa (by rw [eps]; exact ents_keys p3) (by have := dps_len hpd; omega) (fun _ => rfl) (fun _ => rfl) fun E HE kvs nE hE hkv sE => ?_
        have hb2 : SqA K HE ba bs := hba.same sE
        refine ⟨_, rfl, ?_⟩
        refine seq_map hb2 (by omega) (fun _ => true) (fun x => .bl (wordOk x || hasK ((itemsD p).map entK) (valK x))) ?hw (fun x hm H2 s2 => ⟨fun R hR => no_test hR, fun _ H3 s3 R hR => ?_⟩) fun D H2 nD hD s2 => ?_
        case hw => intro _; rfl
        · obtain ⟨dx, hdx, hv0⟩ := dps_at hbd hm
          have hv := dp_same sE hv0
          have hv3 : Vx K H3 x dx := okv (dp_same s3 (dp_same s2 hv)) (bok dx hdx)
          have q3 := hR H3 (Same.refl H3)
          have eDx : isEntD dx = true := List.all_eq_true.mp b3 dx hdx
          refine ⟨_, rfl, x, dx, rfl, hv3, _, rfl, if_is (fun e1 => ?_) (fun e1 => ?_)⟩
          · rw [word_v hv, e1] at q3
            exact q3
          · rw [word_v hv, e1, Bool.false_or] at q3
            have ex := ent_val hv eDx
            subst ex
            have dg := DGet.k (k := entK dx) (s3 _ _ (s2 _ _ hE))
            rw [← entV_key eDx, hkv] at dg
            rw [valK_ent eDx] at q3
            refine ⟨_, rfl, _, rfl, E, _, rfl, dg, ?_⟩
            cases hh : hasK ((itemsD p).map entK) (entK dx) with
            | true =>
              rw [hh] at q3
              exact q3
            | false =>
              rw [hh] at q3
              exact q3
        · rw [map_bl] at hD
          refine ⟨D, _, rfl, .inl (.inl hD), ?_⟩
          rw [all_map]
          have : (bs.all fun x => wordOk x || hasK ((itemsD p).map entK) (valK x)) = ((itemsD bd).all fun e => isWordD e || inD e (itemsD p)) := by
            have eb := ents_val hbd b3
            rw [eb, List.all_map]
            have cong : ∀ (ds : List PyData), ds.all isEntD = true → (ds.all ((fun x => wordOk x || hasK ((itemsD p).map entK) (valK x)) ∘ entV)) = ds.all fun e => isWordD e || inD e (itemsD p) := by
              intro ds
              induction ds with
              | nil => intro _; rfl
              | cons d ds ih =>
                intro hh
                rw [List.all_cons, Bool.and_eq_true] at hh
                rw [List.all_cons, List.all_cons, ih hh.2]
                show ((wordOk (entV d) || hasK ((itemsD p).map entK) (valK (entV d))) && _) = _
                rw [valK_ent hh.1, ← inD_key hh.1 p3, word_v (ent_dp (K := K) (H := H) hh.1)]
            exact cong _ b3
          rw [this]
          exact q _ ((s1.trans sE).trans s2)
def strsD (ds : List PyData) : List Str := ds.filterMap fun d => match d with
  | .str z => some z
  | _ => none
theorem mem_strsD {ds : List PyData} {z : Str} : z ∈ strsD ds ↔ PyData.str z ∈ ds := by
  unfold strsD
  rw [List.mem_filterMap]
  constructor
  · rintro ⟨d, hd, e⟩
    cases d with
    | str y =>
      cases e
      exact hd
    | _ => cases e
  · intro h
    exact ⟨_, h, rfl⟩
theorem strs_val : ∀ {ds : List PyData}, ds.all isEntD = true → (((ds.map entV).filter wordOk).map fun x => x) = (strsD ds).map V.str
  | [], _ => rfl
  | d :: ds, h => by
    rw [List.all_cons, Bool.and_eq_true] at h
    have ih := strs_val h.2
    cases d with
    | str z =>
      have hz : isW z.cps.toList = true := by
        have q := h.1
        unfold isEntD at q
        rw [show isHoleD (.str z) = false from rfl, Bool.or_false] at q
        exact q
      show (((V.str z :: ds.map entV).filter wordOk).map fun x => x) = V.str z :: (strsD ds).map V.str
      rw [List.filter_cons_of_pos (show wordOk (V.str z) = true from hz), List.map_cons, ih]
    | int i =>
      show (((V.int i :: ds.map entV).filter wordOk).map fun x => x) = (strsD ds).map V.str
      rw [List.filter_cons_of_neg (by show ¬ (false = true); decide), ih]
    | _ => cases h.1
end
end RL

namespace RL
open PySem L2 SX AddrMath VA TxSet
abbrev nState : Str := "_state"
abbrev nPattern : Str := "_pattern"
abbrev nGoal : Str := "_goal"
abbrev nExact : Str := "_is_exact"
abbrev nWords : Str := "_words"
abbrev nKey : Str := "_key"
abbrev nField : Str := "field"
/-- a rule's attributes -/
def rF (a b c d e f : V) : List (Str × V) := [(nState, a), (nPattern, b), (nGoal, c), (nExact, d), (nWords, e), (nKey, f)]
/-- the beginning's entries -/
def begD : PyData → List PyData
  | .tuple [_, b] => itemsD b
  | _ => []
/-- the goal of a rule, as it is kept -/
def GoalAt (K : PySem.W.Frag) (H : Hp) (gV : V) : PyData → Prop
  | .none => gV = .non
  | .tuple [.str z, b] => ∃ g tb, gV = .ref g ∧ H g = some (.tup [.str z, .ref tb]) ∧ SqT K H tb ((itemsD b).map entV)
  | _ => False
/-- a rule of state z, pattern pd, goal gd stands at p -/
structure RuleAt (K : PySem.W.Frag) (C : Addr) (H : Hp) (p : Addr) (z : Str) (pd gd : PyData) (x : Bool) : Prop where
  ex : ∃ (dx tP tW tK : Addr) (gV : V) (ws : List Str), H p = some (.ins C dx (rF (.str z) (.ref tP) gV (.bl x) (.ref tW) (.ref tK))) ∧ SqT K H tP ((itemsD pd).map entV) ∧ GoalAt K H gV gd ∧
    H tW = some (.tup (ws.map V.str)) ∧ PyProof.Rows.sortedS ws = true ∧ ws.Nodup ∧ (∀ y, y ∈ ws ↔ PyData.str y ∈ itemsD pd ++ begD gd) ∧ H tK = some (.tup [.str z, .ref tP, gV, .bl x])
structure RTxt (K : PySem.W.Frag) (mg : Str → Option Value) (C : Addr) : Prop where
  cl : Cls K C
  nS : NoAttr K C "_state"
  nP : NoAttr K C "_pattern"
  nG : NoAttr K C "_goal"
  nE : NoAttr K C "_is_exact"
  nW : NoAttr K C "_words"
  nK : NoAttr K C "_key"
  mgC : mg "Rule" = some (.ref C)
theorem upd_none {H : Hp} {p t : Addr} {o : HO} (h : upd H p o t = none) : t ≠ p ∧ H t = none := by
  by_cases e : t = p
  · rw [e, upd_same] at h
    cases h
  · rw [upd_ne e] at h
    exact ⟨e, h⟩
section
variable {P : Program} {w : World} {K : PySem.W.Frag} {mg : Str → Option Value} {base : Heap}
/-! ### InvalidRule.__init__ -/
abbrev sErr : Stmt := inClass (top 3) 0
theorem scErr : FnScope ["self", "field"] ["self", "field"] (defScope sErr) := ⟨rfl, rfl, rfl, by decide +kernel, rfl, by decide +kernel, by decide +kernel⟩
theorem ok_err {f C fI : Addr} {fd : FuncData} (F : Fun K "__init__" "InvalidRule.__init__" sErr f fd) (T : ErrC K mg "InvalidRule" nField C fI) : FnOk P w K mg base CX0 1 f fd ["self", "field"] (spErr nField C) := by
  refine F.ok scErr (fun vs H Q E h => ?_) (fun cdv A outer s0 H vs Q E hr h => ?_)
  · obtain ⟨a, v, rfl, _⟩ := h
    rfl
  · obtain ⟨a, v, rfl, ha, q⟩ := h
    exact ⟨_, pss_one (ps_ost (pv 0) (pv 1)), _, rfl, _, rfl, a, C, rfl, T.ox, T.no, .inl ⟨ha, q⟩⟩
/-! ### Rule.__init__: slots self 0, state 1, pattern 2, goal 3, is_exact 4 -/
abbrev sRuleInit : Stmt := inClass (top 43) 0
theorem scRuleInit : FnScope ["self", "state", "pattern", "goal", "is_exact"] ["self", "state", "pattern", "goal", "is_exact"] (defScope sRuleInit) := ⟨rfl, rfl, rfl, by decide +kernel, rfl, by decide +kernel, by decide +kernel⟩
def spRInit (K : PySem.W.Frag) (C CE : Addr) : Sp := fun vs H Q E => ∃ (p dx : Addr) (sv pv_ gv xv : V) (sd pd gd xd : PyData), vs = [.ref p, sv, pv_, gv, xv] ∧ H p = some (.ins C dx []) ∧ Vx K H sv sd ∧ Vx K H pv_ pd ∧ Vx K H gv gd ∧ Vx K H xv xd ∧
  (∀ f, wrongD sd pd gd xd = some f → ∀ d H', Same H H' → H' d = some (.xd (ixF nField (.str f))) → H d = none → E (.ref CE) (some d) H') ∧
  (∀ z x, wrongD sd pd gd xd = none → sd = .str z → xd = .bool x → ∀ H', (∀ b o, H b = some o → b ≠ p → H' b = some o) → RuleAt K C H' p z pd gd x → Q .non H')
end
end RL
namespace RL
open PySem L2 SX AddrMath VA TxSet
section
variable {P : Program} {w : World} {K : PySem.W.Frag} {mg : Str → Option Value} {base : Heap}
theorem sqt_put {G : Hp} {p t C dx : Addr} {fs : List (Str × V)} {o : HO} {ys : List V} (h : SqT K G t ys) (hp : G p = some (.ins C dx fs)) : SqT K (upd G p o) t ys := by
  rcases h with (h | ⟨u, h⟩) | h
  · exact .inl (.inl (by rw [upd_ne (ne_of h hp (fun z => by cases z))]; exact h))
  · exact .inl (.inr ⟨u, by rw [upd_ne (ne_of h hp (fun z => by cases z))]; exact h⟩)
  · exact .inr h
theorem tup_put {G : Hp} {p t C dx : Addr} {fs : List (Str × V)} {o : HO} {ys : List V} (h : G t = some (.tup ys)) (hp : G p = some (.ins C dx fs)) : upd G p o t = some (.tup ys) := by
  rw [upd_ne (ne_of h hp (fun z => by cases z))]
  exact h
theorem ent_map_len (ds : List PyData) : (ds.map entV).length = ds.length := List.length_map ..
theorem ent_ok7 {d : PyData} (e : isEntD d = true) : okD 7 d = true := by
  cases d with
  | int i => rw [okD]
  | str z =>
    have hz : isW z.cps.toList = true := by
      unfold isEntD at e
      rw [show isHoleD (.str z) = false from rfl, Bool.or_false] at e
      exact e
    have hl := word_len hz
    rw [okD, Bool.and_eq_true, decide_eq_true_eq]
    refine ⟨by omega, ?_⟩
    unfold PyData.strOk
    rw [← Array.all_toList, List.all_eq_true]
    intro c hc
    have := (isW_iff.mp hz).2.2 c hc
    unfold isL at this
    rw [Bool.and_eq_true, decide_eq_true_eq, decide_eq_true_eq] at this
    exact decide_eq_true (by omega)
  | _ => cases e
theorem wrong_parts {sd pd gd xd : PyData} (h : wrongD sd pd gd xd = none) : isWordD sd = true ∧ areEntD 2 pd = true ∧ isGoalD gd pd = true ∧ isBoolD xd = true := by
  unfold wrongD at h
  cases h1 : isWordD sd with
  | false => rw [h1, if_pos rfl] at h; cases h
  | true =>
    rw [h1, if_neg (by decide)] at h
    cases h2 : areEntD 2 pd with
    | false => rw [h2, if_pos rfl] at h; cases h
    | true =>
      rw [h2, if_neg (by decide)] at h
      cases h3 : isGoalD gd pd with
      | false => rw [h3, if_pos rfl] at h; cases h
      | true =>
        rw [h3, if_neg (by decide)] at h
        refine ⟨rfl, rfl, rfl, ?_⟩
        cases xd <;> first | rfl | cases h
theorem goal_parts {gd pd : PyData} (h : isGoalD gd pd = true) : gd = .none ∨ ∃ z b, gd = .tuple [.str z, b] ∧ isW z.cps.toList = true ∧ areEntD 4 b = true := by
  cases gd with
  | none => exact .inl rfl
  | tuple l =>
    match l, h with
    | [s, b], h =>
      have h' : (isWordD s && (areEntD 4 b && (itemsD b).all fun e => isWordD e || inD e (itemsD pd))) = true := h
      rw [Bool.and_eq_true, Bool.and_eq_true] at h'
      cases s with
      | str z => exact .inr ⟨z, b, rfl, h'.1, h'.2.1⟩
      | _ => cases h'.1
  | _ => cases h
/-- None if goal is None else (goal[0], tuple(goal[1])), goal in slot 0 -/
def tGoalV (K : PySem.W.Frag) : TE := fun σ H Q => ∃ gv gd pd, σ[0]? = some (some gv) ∧ Dp K H gv gd ∧ isGoalD gd pd = true ∧ ∀ gV H', GoalAt K H' gV gd → Same H H' → Q gV H'
theorem goal_val {σ : L2.St} {H : Hp} {Q : VK} (h : tGoalV K σ H Q) :
    tIf (tTest (tOp (fun x y H Q => y = V.non ∧ Q (.bl (decide (x = V.non))) H) (tVar 0) (tC .non))) (tC .non)
      (tTup (tCons (tOp (rIxT K) (tVar 0) (tC (.int 0))) (tCons (tCB (rTupA K) (tCons (tOp (rIxT K) (tVar 0) (tC (.int 1))) tNil)) tNil))) σ H Q := by
  obtain ⟨gv, gd, pd, e0, hg, ok, q⟩ := h
  rcases goal_parts ok with rfl | ⟨gz, gb, rfl, hgz, hgb⟩
  · cases hg
    exact ⟨_, e0, rfl, _, rfl, iteT (q _ H rfl (Same.refl H))⟩
  · cases hg with
    | @tup ga xs _ ha hd =>
    cases hd with
    | @cons sv _ _ _ h1 hd =>
    cases hd with
    | @cons bv _ _ _ h2 hd =>
    cases hd
    cases h1
    obtain ⟨b1, b2, b3⟩ := areEnt_parts hgb
    have hv : ∃ a xs, bv = .ref a ∧ SqA K H a xs ∧ DpAll K H xs (itemsD gb) := by
      cases h2 with
      | lst h h' => exact ⟨_, _, rfl, .inl h, h'⟩
      | tup h h' => exact ⟨_, _, rfl, .inr h, h'⟩
      | _ => cases b1
    obtain ⟨ba, bs, rfl, hb, hbd⟩ := hv
    have eb := ents_val hbd b3
    subst eb
    refine ⟨_, e0, rfl, _, rfl, iteF ⟨_, e0, ga, _, 0, _, rfl, rfl, ha, rfl, _, e0, ga, _, 1, _, rfl, rfl, ha, rfl, ba, _, rfl, hb, fun t H1 ht s1 => ⟨by show 2 ≤ sizeLine; decide, fun g ng => ?_⟩⟩⟩
    exact q _ _ ⟨g, t, rfl, upd_same, same_seqT (same_new ng) ht⟩ (s1.trans (same_new ng))
/-- pattern if goal is None else pattern + goal[1] -/
def tAllV (K : PySem.W.Frag) : TE := fun σ H Q => ∃ gd pd tp gV, σ[0]? = some (some (.ref tp)) ∧ σ[1]? = some (some gV) ∧ isGoalD gd pd = true ∧ areEntD 2 pd = true ∧
  SqT K H tp ((itemsD pd).map entV) ∧ GoalAt K H gV gd ∧ ∀ t H', SqT K H' t ((itemsD pd ++ begD gd).map entV) → Same H H' → Q (.ref t) H'
theorem all_val {σ : L2.St} {H : Hp} {Q : VK} (h : tAllV K σ H Q) :
    tIf (tTest (tOp (fun x y H Q => y = V.non ∧ Q (.bl (decide (x = V.non))) H) (tVar 1) (tC .non))) (tVar 0)
      (tOp (rCatB K) (tVar 0) (tOp (rIxT K) (tVar 1) (tC (.int 1)))) σ H Q := by
  obtain ⟨gd, pd, tp, gV, e0, e1, ok, hp2, htp, hG, q⟩ := h
  obtain ⟨p1, p2, p3⟩ := areEnt_parts hp2
  rcases goal_parts ok with rfl | ⟨gz, gb, rfl, hgz, hgb⟩
  · cases (show gV = .non from hG)
    refine ⟨_, e1, rfl, _, rfl, iteT ⟨_, e0, q tp H ?_ (Same.refl H)⟩⟩
    show SqT K H tp ((itemsD pd ++ []).map entV)
    rw [List.append_nil]
    exact htp
  · obtain ⟨b1, b2, b3⟩ := areEnt_parts hgb
    obtain ⟨g, tb, rfl, hg1, htb⟩ := hG
    refine ⟨_, e1, rfl, _, rfl, iteF ⟨_, e0, _, e1, g, _, 1, _, rfl, rfl, .inl (.inl hg1), rfl, tp, tb, _, _, rfl, rfl, htp, htb, ?_, fun t H' ht s => q t H' ?_ s⟩⟩
    · rw [List.length_map, List.length_map]
      omega
    · show SqT K H' t ((itemsD pd ++ itemsD gb).map entV)
      rw [List.map_append]
      exact ht
theorem all_ents {gd pd : PyData} (ok : isGoalD gd pd = true) (hp : areEntD 2 pd = true) : (itemsD pd ++ begD gd).all isEntD = true ∧ (itemsD pd ++ begD gd).length ≤ 6 := by
  obtain ⟨p1, p2, p3⟩ := areEnt_parts hp
  rcases goal_parts ok with rfl | ⟨gz, gb, rfl, hgz, hgb⟩
  · show (itemsD pd ++ []).all isEntD = true ∧ (itemsD pd ++ []).length ≤ 6
    rw [List.append_nil]
    exact ⟨p3, by omega⟩
  · obtain ⟨b1, b2, b3⟩ := areEnt_parts hgb
    show (itemsD pd ++ itemsD gb).all isEntD = true ∧ (itemsD pd ++ itemsD gb).length ≤ 6
    rw [List.all_append, p3, b3, List.length_append]
    exact ⟨rfl, by omega⟩
theorem goal_at_kp {H H' : Hp} {gV : V} {gd : PyData} (h : GoalAt K H gV gd) (k : Kp H H') : GoalAt K H' gV gd := by
  match gd, h with
  | .none, h => exact h
  | .tuple [.str z, b], h =>
    obtain ⟨g, tb, e, h1, h2⟩ := h
    exact ⟨g, tb, e, k _ _ h1 rfl, k.sqT h2⟩
/-! ### words_named: slots pattern 0, goal 1, entries 2, entry 3 -/
abbrev sWordsNamed : Stmt := top 33
theorem scWordsNamed : FnScope ["pattern", "goal", "entries", "entry"] ["pattern", "goal"] (defScope sWordsNamed) := ⟨rfl, rfl, rfl, by decide +kernel, rfl, by decide +kernel, by decide +kernel⟩
def spNamed (K : PySem.W.Frag) : Sp := fun vs H Q _ => ∃ (tp : Addr) (gV : V) (gd pd : PyData), vs = [.ref tp, gV] ∧ isGoalD gd pd = true ∧ areEntD 2 pd = true ∧ SqT K H tp ((itemsD pd).map entV) ∧ GoalAt K H gV gd ∧
  ∀ (t : Addr) (ys : List Str) (H' : Hp), PyProof.Rows.sortedS ys = true → ys.Nodup → (∀ z, z ∈ ys ↔ PyData.str z ∈ itemsD pd ++ begD gd) → H' t = some (.tup (ys.map V.str)) → Same H H' → H t = none → Q (.ref t) H'
theorem ok_named {f : Addr} {fd : FuncData} (F : Fun K "words_named" "words_named" sWordsNamed f fd) (B : Blt mg) (is_word : Own P w K mg base CX0 1 "is_word" ["value"] (spIsWord K)) : FnOk P w K mg base CX0 2 f fd ["pattern", "goal"] (spNamed K) := by
  refine F.ok scWordsNamed (fun vs H Q E h => ?_) (fun cdv A outer s H vs Q E hr h => ?_)
  · obtain ⟨tp, gV, gd, pd, rfl, _⟩ := h
    rfl
  · obtain ⟨tp, gV, gd, pd, rfl, eg, ep, htp, hG, q⟩ := h
    refine ⟨_, (pss_cons (ps_set (i := 2) scWordsNamed.nd rfl (Or.inl rfl) (pe_by (tAllV K) (pe_ifExp (pt_cmpR op_isN (pv 1) pe_non (nomark _)) (pv 0) (pe_op op_catB (pv 0) (pe_ix ix_tup (pv 1) pe_int (fun _ _ => rfl)))) (fun _ _ _ h => all_val h)))
      (pss_one (ps_ret (pe_callTy call_tuple_of (by rfl) B.tuple_ (by decide +kernel) (pa_cons (pe_srtSet rfl (by rfl) B.sorted_ (by rfl) B.set_ (pe_lc (own := [("entry", 3)]) (g := gName 3) rfl scWordsNamed.nd (pi_seq (pv 2))
          (blkOk_by (own := [("entry", 3)]) (N := ["pattern", "goal", "entries", "entry"]) (sc := defScope sWordsNamed) (by decide +kernel))
          (fun _ _ _ _ _ => (pg_name (i := 3) scWordsNamed.nd rfl (Or.inl rfl))) (fun _ _ _ _ _ => pts_one (pt_val (pe_call is_word.g (hr.mono (by decide)) rfl is_word.mg is_word.kp is_word.b .nil pass0 (pa_cons (pv 3) pa_nil))))
          (fun _ _ _ _ _ => (pv 3)))) pa_nil))))), ?_⟩
    obtain ⟨hE, few0⟩ := all_ents eg ep
    refine ⟨gd, pd, tp, gV, rfl, rfl, eg, ep, htp, hG, fun a H1 ha s1 => ?_⟩
    generalize itemsD pd ++ begD gd = ds at hE few0 ha q
    have few : ds.length ≤ 1000 := by omega
    refine ⟨_, rfl, ?_⟩
    refine seq_map (.inr ha) (by rw [List.length_map]; exact few) wordOk (fun x => x) ?hw (fun x hm H2 s2 => ⟨fun R hR => ?_, fun _ H3 s3 R hR => ⟨_, rfl, hR H3 (Same.refl H3)⟩⟩) fun D H2 nD hD s2 => ?_
    case hw => intro _; rfl
    · obtain ⟨d, hd, rfl⟩ := List.mem_map.mp hm
      have hde := List.all_eq_true.mp hE d hd
      have hv : Dp K H2 (entV d) d := ent_dp hde
      have q2 := hR H2 (Same.refl H2)
      rw [word_v hv] at q2
      exact ⟨_, rfl, _, d, rfl, okv hv (ent_ok7 hde), _, rfl, q2⟩
    · rw [strs_val hE] at hD
      have lS : (strsD ds).length ≤ 1000 := Nat.le_trans (List.length_filterMap_le _ _) few
      refine ⟨D, _, rfl, .inl (.inl hD), lS, fun ys p hs hn hm np => ?_⟩
      refine ⟨p, _, rfl, .inl ⟨.inl (.inl upd_same), fun l nl => ?_⟩⟩
      have s3 : Same H2 (upd H2 p (.lst (ys.map V.str))) := same_new np
      have s4 := same_new (o := .tup (ys.map V.str)) nl
      exact q l ys _ hs hn (fun z => (hm z).trans mem_strsD) upd_same (((s1.trans s2).trans s3).trans s4) (s1.free (s2.free (s3.free nl)))
/-! ### copied_goal: slots goal 0 -/
abbrev sCopiedGoal : Stmt := top 32
theorem scCopiedGoal : FnScope ["goal"] ["goal"] (defScope sCopiedGoal) := ⟨rfl, rfl, rfl, by decide +kernel, rfl, by decide +kernel, by decide +kernel⟩
def spCopied (K : PySem.W.Frag) : Sp := fun vs H Q _ => ∃ gv gd pd, vs = [gv] ∧ Dp K H gv gd ∧ isGoalD gd pd = true ∧ ∀ gV H', GoalAt K H' gV gd → Same H H' → Q gV H'
theorem ok_copied {f : Addr} {fd : FuncData} (F : Fun K "copied_goal" "copied_goal" sCopiedGoal f fd) (B : Blt mg) : FnOk P w K mg base CX0 1 f fd ["goal"] (spCopied K) := by
  refine F.ok scCopiedGoal (fun vs H Q E h => ?_) (fun cdv A outer s H vs Q E hr h => ?_)
  · obtain ⟨gv, gd, pd, rfl, _⟩ := h
    rfl
  · obtain ⟨gv, gd, pd, rfl, hg, eg, q⟩ := h
    exact ⟨_, (pss_one (ps_ret (pe_by (tGoalV K) (pe_ifExp (pt_cmpR op_isN (pv 0) pe_non (nomark _)) pe_non (pe_tup (pa_cons (pe_ix ix_tup (pv 0) pe_int (fun _ _ => rfl)) (pa_cons (pe_callTy call_tupA (by rfl) B.tuple_ (by decide +kernel) (pa_cons (pe_ix ix_tup (pv 0) pe_int (fun _ _ => rfl)) pa_nil)) pa_nil)))) (fun _ _ _ h => goal_val h)))), gv, gd, pd, rfl, hg, eg, q⟩
/-! ### check_parts: slots state 0, pattern 1, goal 2, is_exact 3, is_free 4 -/
abbrev sCheckParts : Stmt := top 31
theorem scCheckParts : FnScope ["state", "pattern", "goal", "is_exact", "is_free"] ["state", "pattern", "goal", "is_exact", "is_free"] (defScope sCheckParts) := ⟨rfl, rfl, rfl, by decide +kernel, rfl, by decide +kernel, by decide +kernel⟩
def spCheck (K : PySem.W.Frag) (CE : Addr) : Sp := fun vs H Q E => ∃ (sv pv_ gv xv : V) (sd pd gd xd : PyData), vs = [sv, pv_, gv, xv, .bl false] ∧ Vx K H sv sd ∧ Vx K H pv_ pd ∧ Vx K H gv gd ∧ Vx K H xv xd ∧
  (∀ f, wrongD sd pd gd xd = some f → ∀ d H', Same H H' → H' d = some (.xd (ixF nField (.str f))) → H d = none → E (.ref CE) (some d) H') ∧ (wrongD sd pd gd xd = none → ∀ H', Same H H' → Q .non H')
theorem ok_check {f CE fE : Addr} {fd fdE : FuncData} {tP : Tok} (F : Fun K "check_parts" "check_parts" sCheckParts f fd) (B : Blt mg)
    (TE : ErrC K mg "InvalidRule" nField CE fE) (GE : FnOk P w K mg base CX0 1 fE fdE ["self", "field"] (spErr nField CE)) (bE : Binds K fdE ["self", "field"] []) (mPATTERN : mg "PATTERN" = some (.int 2 tP))
    (is_word : Own P w K mg base CX0 1 "is_word" ["value"] (spIsWord K)) (are_entries : Own P w K mg base CX0 3 "are_entries" ["value", "most", "is_free"] (spAreEnt K)) (is_goal : Own P w K mg base CX0 4 "is_goal" ["value", "pattern", "is_free"] (spIsGoal K)) :
    FnOk P w K mg base (L2.CX P w) 5 f fd ["state", "pattern", "goal", "is_exact", "is_free"] (spCheck K CE) := by
  refine F.okX scCheckParts (fun vs H Q E h => ?_) (fun cdv A outer s0 H vs Q E hr h => ?_)
  · obtain ⟨sv, pv_, gv, xv, sd, pd, gd, xd, rfl, _⟩ := h
    rfl
  · obtain ⟨sv, pv_, gv, xv, sd, pd, gd, xd, rfl, hs, hpt, hg, hx, qE, q⟩ := h
    have hr2 : Room 2 _ := hr.mono (by decide)
    refine ⟨_, (pss_cons (ps_if (pt_not (pt_val (pe_call is_word.g (hr.mono (by decide)) rfl is_word.mg is_word.kp is_word.b .nil pass0 (pa_cons (pv 0) pa_nil)))) (pss_one (ps_raise rfl (takes_of rfl rfl rfl rfl) (pmk_oex TE.ox TE.iC TE.tI GE hr2 bE .nil pass0 (by rfl) TE.mgC (by exact (pa_cons pe_str pa_nil))))) pss_nil)
      (pss_cons (ps_if (pt_not (pt_val (pe_call are_entries.g (hr.mono (by decide)) rfl are_entries.mg are_entries.kp are_entries.b .nil pass0 (pa_cons (pv 1) (pa_cons (pe_glob (v := .int 2) rfl mPATTERN ⟨_, rfl⟩) (pa_cons (pv 4) pa_nil)))))) (pss_one (ps_raise rfl (takes_of rfl rfl rfl rfl) (pmk_oex TE.ox TE.iC TE.tI GE hr2 bE .nil pass0 (by rfl) TE.mgC (by exact (pa_cons pe_str pa_nil))))) pss_nil)
      (pss_cons (ps_if (pt_not (pt_val (pe_call is_goal.g hr rfl is_goal.mg is_goal.kp is_goal.b .nil pass0 (pa_cons (pv 2) (pa_cons (pv 1) (pa_cons (pv 4) pa_nil)))))) (pss_one (ps_raise rfl (takes_of rfl rfl rfl rfl) (pmk_oex TE.ox TE.iC TE.tI GE hr2 bE .nil pass0 (by rfl) TE.mgC (by exact (pa_cons pe_str pa_nil))))) pss_nil)
      (pss_one (ps_if (pt_not (pt_val (pe_callB call_isi (by rfl) B.isinstance_ (by decide +kernel) (pa_cons (pv 3) (pa_cons (pe_bltn (v := .ty "bool") (by rfl) B.bool_ (by decide +kernel) rfl) pa_nil))))) (pss_one (ps_raise rfl (takes_of rfl rfl rfl rfl) (pmk_oex TE.ox TE.iC TE.tI GE hr2 bE .nil pass0 (by rfl) TE.mgC (by exact (pa_cons pe_str pa_nil))))) pss_nil))))), ?_⟩
    -- state
    refine ⟨_, rfl, sv, sd, rfl, hs, _, rfl, ?_⟩
    cases e1 : isWordD sd with
    | false =>
      refine iteT ⟨by show 1 ≤ 1000; decide, fun a na => err_use na fun d nd => ?_⟩
      exact qE (Str.ofString "state") (by unfold wrongD; rw [e1, if_pos rfl]) d _ (same_new nd) upd_same nd
    | true =>
    refine iteF ?_
    -- pattern
    refine ⟨_, rfl, _, rfl, pv_, pd, 2, rfl, hpt, fun H1 s1 => ⟨_, rfl, ?_⟩⟩
    cases e2 : areEntD 2 pd with
    | false =>
      refine iteT ⟨by show 1 ≤ 1000; decide, fun a na => err_use na fun d nd => ?_⟩
      exact qE (Str.ofString "pattern") (by unfold wrongD; rw [e1, e2, if_neg (by decide), if_pos rfl]) d _ (s1.trans (same_new nd)) upd_same (s1.free nd)
    | true =>
    refine iteF ?_
    -- goal
    refine ⟨_, rfl, _, rfl, _, rfl, gv, pv_, gd, pd, rfl, hg.same s1, hpt.same s1, e2, fun H2 s2' => ⟨_, rfl, ?_⟩⟩
    have s2 := s1.trans s2'
    cases e3 : isGoalD gd pd with
    | false =>
      refine iteT ⟨by show 1 ≤ 1000; decide, fun a na => err_use na fun d nd => ?_⟩
      exact qE (Str.ofString "goal") (by unfold wrongD; rw [e1, e2, e3, if_neg (by decide), if_neg (by decide), if_pos rfl]) d _ (s2.trans (same_new nd)) upd_same (s2.free nd)
    | true =>
    refine iteF ?_
    -- is_exact
    refine ⟨_, rfl, _, _, _, _, isBoolD xd, rfl, .ty "bool", (hx.same s2).ty, kitBool xd, _, rfl, ?_⟩
    cases e4 : isBoolD xd with
    | false =>
      refine iteT ⟨by show 1 ≤ 1000; decide, fun a na => err_use na fun d nd => ?_⟩
      refine qE (Str.ofString "is_exact") ?_ d _ (s2.trans (same_new nd)) upd_same (s2.free nd)
      unfold wrongD
      rw [e1, e2, e3, if_neg (by decide), if_neg (by decide), if_neg (by decide)]
      cases xd <;> first | rfl | cases e4
    | true =>
    refine iteF (q ?_ H2 s2)
    unfold wrongD
    rw [e1, e2, e3, if_neg (by decide), if_neg (by decide), if_neg (by decide)]
    cases xd <;> first | rfl | cases e4
theorem ok_rinit {f C CE fI : Addr} {fd : FuncData} {dvs : List V} {kws : List (Str × V)} (F : FunD K "__init__" "Rule.__init__" (defArgs sRuleInit) (defBody sRuleInit) (defScope sRuleInit) dvs kws f fd) (T : RTxt K mg C) (B : Blt mg)
    (check_parts : Own P w K mg base (L2.CX P w) 5 "check_parts" ["state", "pattern", "goal", "is_exact", "is_free"] (spCheck K CE)) (copied_goal : Own P w K mg base CX0 1 "copied_goal" ["goal"] (spCopied K))
    (words_named : Own P w K mg base CX0 2 "words_named" ["pattern", "goal"] (spNamed K)) : FnOk P w K mg base (L2.CX P w) 6 f fd ["self", "state", "pattern", "goal", "is_exact"] (spRInit K C CE) := by
  refine F.ok scRuleInit (fun vs H Q E h => ?_) (fun cdv A outer s0 H vs Q E hr h => ?_)
  · obtain ⟨p, dx, sv, pv_, gv, xv, sd, pd, gd, xd, rfl, _⟩ := h
    rfl
  · obtain ⟨p, dx, sv, pv_, gv, xv, sd, pd, gd, xd, rfl, hp, hs, hpt, hg, hx, qE, q⟩ := h
    refine ⟨_, (pss_cons (ps_expr (pe_callS check_parts.g hr rfl check_parts.mg check_parts.kp check_parts.b (fun σ => passAt (takes_of rfl rfl rfl rfl) σ) (pa_cons (pv 1) (pa_cons (pv 2) (pa_cons (pv 3) (pa_cons (pv 4) (pa_cons pe_bl pa_nil)))))))
      (pss_cons (ps_fld (pv 0) (pv 1) rfl)
      (pss_cons (ps_fld (pv 0) (pe_callTy call_tupA (by rfl) B.tuple_ (by decide +kernel) (pa_cons (pv 2) pa_nil)) rfl)
      (pss_cons (ps_fld (pv 0) (pe_call copied_goal.g (hr.mono (by decide)) rfl copied_goal.mg copied_goal.kp copied_goal.b .nil pass0 (pa_cons (pv 3) pa_nil)) rfl)
      (pss_cons (ps_fld (pv 0) (pv 4) rfl)
      (pss_cons (ps_fld (pv 0) (pe_call words_named.g (hr.mono (by decide)) rfl words_named.mg words_named.kp words_named.b .nil pass0 (pa_cons (pe_fld (pv 0) rfl) (pa_cons (pe_fld (pv 0) rfl) pa_nil))) rfl)
      (pss_one (ps_fld (pv 0) (pe_tup (pa_cons (pe_fld (pv 0) rfl) (pa_cons (pe_fld (pv 0) rfl) (pa_cons (pe_fld (pv 0) rfl) (pa_cons (pe_fld (pv 0) rfl) pa_nil))))) rfl)))))))), ?_⟩
    refine ⟨_, rfl, _, rfl, _, rfl, _, rfl, sv, pv_, gv, xv, sd, pd, gd, xd, rfl, hs, hpt, hg, hx, qE, fun hn H2 s2 => ?_⟩
    obtain ⟨e1, e2, e3, e4⟩ := wrong_parts hn
    obtain ⟨z, rfl, rfl, hz⟩ := vx_str hs (by cases sd <;> first | rfl | cases e1)
    obtain ⟨x, rfl, rfl⟩ : ∃ x, xv = .bl x ∧ xd = .bool x := by
      rcases hx with ⟨h, o⟩ | ⟨a, kvs, rfl, h, rfl⟩
      · cases h <;> first | exact ⟨_, rfl, rfl⟩ | cases e4
      · cases e4
    have q' := q z x hn rfl rfl
    obtain ⟨p1, p2, p3⟩ := areEnt_parts e2
    have hp2 := s2 _ _ hp
    -- self._state
    refine ⟨_, rfl, _, rfl, p, C, dx, _, rfl, hp2, T.cl, T.nS, (by show 0 < 1000; decide), ?_⟩
    have k2 : Kp H2 (upd H2 p (.ins C dx [(nState, .str z)])) := kp_put hp2 rfl
    have b1 : ∀ b o, H b = some o → b ≠ p → (upd H2 p (.ins C dx [(nState, .str z)])) b = some o := fun b o e ne => by rw [upd_ne ne]; exact s2 _ _ e
    have g1 : (upd H2 p (.ins C dx [(nState, .str z)])) p = some (.ins C dx [(nState, .str z)]) := upd_same
    obtain ⟨pa, ps, rfl, hpa, hpd, pfew, pok⟩ := vx_seq (hpt.same s2) p1
    have eps := ents_val hpd p3
    subst eps
    have hpa1 := k2.sqA hpa
    have hg2 : Dp K H2 gv gd ∧ okD 8 gd = true := by
      rcases hg.same s2 with h | ⟨a, kvs, _, _, z⟩
      · exact h
      · rw [z] at e3
        cases e3
    have hg1 := dp_kp k2 hg2.1
    refine hp_is (H' := upd H2 p (.ins C dx [(nState, .str z)])) rfl ?_
    generalize upd H2 p (.ins C dx [(nState, .str z)]) = G1 at k2 b1 g1 hpa1 hg1 ⊢
    -- self._pattern
    refine ⟨_, rfl, pa, _, rfl, hpa1, fun tp G2 htp sg => ⟨_, rfl, p, C, dx, _, rfl, sg _ _ g1, T.cl, T.nP, (by show 1 < 1000; decide), ?_⟩⟩
    have gp2 := sg _ _ g1
    have kq : Kp G1 (upd G2 p (.ins C dx [(nState, .str z), (nPattern, .ref tp)])) := (kp_same sg).trans (kp_put gp2 rfl)
    have htp2 : SqT K (upd G2 p (.ins C dx [(nState, .str z), (nPattern, .ref tp)])) tp ((itemsD pd).map entV) := sqt_put htp gp2
    have g2 : (upd G2 p (.ins C dx [(nState, .str z), (nPattern, .ref tp)])) p = some (.ins C dx [(nState, .str z), (nPattern, .ref tp)]) := upd_same
    have b2 : ∀ b o, H b = some o → b ≠ p → (upd G2 p (.ins C dx [(nState, .str z), (nPattern, .ref tp)])) b = some o := fun b o e ne => by rw [upd_ne ne]; exact sg _ _ (b1 b o e ne)
    have hg3 := dp_kp kq hg1
    refine hp_is (H' := upd G2 p (.ins C dx [(nState, .str z), (nPattern, .ref tp)])) rfl ?_
    generalize upd G2 p (.ins C dx [(nState, .str z), (nPattern, .ref tp)]) = G3 at kq htp2 g2 b2 hg3 ⊢
    -- self._goal
    refine ⟨_, rfl, gv, gd, pd, rfl, hg3, e3, fun gV G4 hgV s4 => ⟨_, rfl, p, C, dx, _, rfl, s4 _ _ g2, T.cl, T.nG, (by show 2 < 1000; decide), ?_⟩⟩
    have kp4 : Kp G4 (upd G4 p (.ins C dx [(nState, .str z), (nPattern, .ref tp), (nGoal, gV)])) := kp_put (s4 _ _ g2) rfl
    have htp4 := kp4.sqT (same_seqT s4 htp2)
    have hgV4 := goal_at_kp hgV kp4
    have hg4 := dp_kp kp4 (dp_same s4 hg3)
    have g4 : (upd G4 p (.ins C dx [(nState, .str z), (nPattern, .ref tp), (nGoal, gV)])) p = some (.ins C dx [(nState, .str z), (nPattern, .ref tp), (nGoal, gV)]) := upd_same
    have b4 : ∀ b o, H b = some o → b ≠ p → (upd G4 p (.ins C dx [(nState, .str z), (nPattern, .ref tp), (nGoal, gV)])) b = some o := fun b o e ne => by rw [upd_ne ne]; exact s4 _ _ (b2 b o e ne)
    refine hp_is (H' := upd G4 p (.ins C dx [(nState, .str z), (nPattern, .ref tp), (nGoal, gV)])) rfl ?_
    generalize upd G4 p (.ins C dx [(nState, .str z), (nPattern, .ref tp), (nGoal, gV)]) = G5 at htp4 hgV4 hg4 g4 b4 ⊢
    -- self._is_exact
    refine ⟨_, rfl, _, rfl, p, C, dx, _, rfl, g4, T.cl, T.nE, (by show 3 < 1000; decide), ?_⟩
    have kp5 : Kp G5 (upd G5 p (.ins C dx [(nState, .str z), (nPattern, .ref tp), (nGoal, gV), (nExact, .bl x)])) := kp_put g4 rfl
    have htp5 := kp5.sqT htp4
    have hgV5 := goal_at_kp hgV4 kp5
    have hg5 := dp_kp kp5 hg4
    have g5 : (upd G5 p (.ins C dx [(nState, .str z), (nPattern, .ref tp), (nGoal, gV), (nExact, .bl x)])) p = some (.ins C dx [(nState, .str z), (nPattern, .ref tp), (nGoal, gV), (nExact, .bl x)]) := upd_same
    have b5 : ∀ b o, H b = some o → b ≠ p → (upd G5 p (.ins C dx [(nState, .str z), (nPattern, .ref tp), (nGoal, gV), (nExact, .bl x)])) b = some o := fun b o e ne => by rw [upd_ne ne]; exact b4 b o e ne
    refine hp_is (H' := upd G5 p (.ins C dx [(nState, .str z), (nPattern, .ref tp), (nGoal, gV), (nExact, .bl x)])) rfl ?_
    generalize upd G5 p (.ins C dx [(nState, .str z), (nPattern, .ref tp), (nGoal, gV), (nExact, .bl x)]) = G6 at htp5 hgV5 hg5 g5 b5 ⊢
    -- self._words
    refine ⟨_, rfl, p, C, dx, _, _, rfl, g5, T.cl, T.nP, rfl, _, rfl, p, C, dx, _, _, rfl, g5, T.cl, T.nG, rfl, tp, gV, gd, pd, rfl, e3, e2, htp5, hgV5, fun tW ws G8 hs1 hs2 hs3 htW s8 ntW => ?_⟩
    have g8 := s8 _ _ g5
    refine ⟨_, rfl, p, C, dx, _, rfl, g8, T.cl, T.nW, (by show 4 < 1000; decide), ?_⟩
    have kp8 : Kp G8 (upd G8 p (.ins C dx [(nState, .str z), (nPattern, .ref tp), (nGoal, gV), (nExact, .bl x), (nWords, .ref tW)])) := kp_put g8 rfl
    have htp8 := kp8.sqT (same_seqT s8 htp5)
    have hgV8 := goal_at_kp hgV5 ((kp_same s8).trans kp8)
    have htW8 := kp8 _ _ htW rfl
    have g9 : (upd G8 p (.ins C dx [(nState, .str z), (nPattern, .ref tp), (nGoal, gV), (nExact, .bl x), (nWords, .ref tW)])) p = some (.ins C dx [(nState, .str z), (nPattern, .ref tp), (nGoal, gV), (nExact, .bl x), (nWords, .ref tW)]) := upd_same
    have b8 : ∀ b o, H b = some o → b ≠ p → (upd G8 p (.ins C dx [(nState, .str z), (nPattern, .ref tp), (nGoal, gV), (nExact, .bl x), (nWords, .ref tW)])) b = some o := fun b o e ne => by rw [upd_ne ne]; exact s8 _ _ (b5 b o e ne)
    refine hp_is (H' := upd G8 p (.ins C dx [(nState, .str z), (nPattern, .ref tp), (nGoal, gV), (nExact, .bl x), (nWords, .ref tW)])) rfl ?_
    generalize upd G8 p (.ins C dx [(nState, .str z), (nPattern, .ref tp), (nGoal, gV), (nExact, .bl x), (nWords, .ref tW)]) = G9 at htp8 hgV8 htW8 g9 b8 ⊢
    -- self._key
    refine ⟨_, rfl, p, C, dx, _, _, rfl, g9, T.cl, T.nS, rfl, _, rfl, p, C, dx, _, _, rfl, g9, T.cl, T.nP, rfl, _, rfl, p, C, dx, _, _, rfl, g9, T.cl, T.nG, rfl, _, rfl, p, C, dx, _, _, rfl, g9, T.cl, T.nE, rfl, by show 4 ≤ sizeLine; decide, fun k nk => ?_⟩
    have sk : Same G9 (upd G9 k (.tup [.str z, .ref tp, gV, .bl x])) := same_new nk
    have g10 := sk _ _ g9
    have hk : (upd G9 k (.tup [.str z, .ref tp, gV, .bl x])) k = some (.tup [.str z, .ref tp, gV, .bl x]) := upd_same
    refine ⟨_, rfl, p, C, dx, _, rfl, g10, T.cl, T.nK, (by show 5 < 1000; decide), ?_⟩
    have kp10 : Kp (upd G9 k (.tup [.str z, .ref tp, gV, .bl x])) (upd (upd G9 k (.tup [.str z, .ref tp, gV, .bl x])) p (.ins C dx (rF (.str z) (.ref tp) gV (.bl x) (.ref tW) (.ref k)))) := kp_put g10 rfl
    refine q' _ (fun b o e ne => ?_) ⟨dx, tp, tW, k, gV, ws, upd_same, kp10.sqT (same_seqT sk htp8), goal_at_kp hgV8 ((kp_same sk).trans kp10), kp10 _ _ (sk _ _ htW8) rfl, hs1, hs2, hs3, kp10 _ _ hk rfl⟩
    rw [upd_ne ne]
    exact sk _ _ (b8 b o e ne)
end
end RL

namespace RL
open PySem L2 SX AddrMath VA
abbrev sPen : Stmt := top 55
abbrev sDraw : Stmt := top 56
abbrev sPick : Stmt := top 57
abbrev sWords : Stmt := top 58
/-- what a call of a def of the text wants, beside its promise -/
structure Cd (K : PySem.W.Frag) (mg : Str → Option Value) (x : Str) (f : Addr) : Prop where
  mg : mg x = some (.ref f)
  kp : PySem.W.keepIn K (.ref f) = true
section
variable {P : Program} {w : World} {K : PySem.W.Frag} {mg : Str → Option Value} {base : Heap}
/-! ### _law_pen -/
def spPen (K : PySem.W.Frag) : Sp := fun vs H Q _ => ∃ (a : Addr) (ns : List Int), vs = [.ref a] ∧ SqL K H a (ns.map V.int) ∧ ns.length ≤ 63 ∧ ∀ (d c : Addr) (H' : Hp), PenAt H' d c 0 → Same H H' → H d = none → Q (.ref d) H'
theorem scPen : FnScope ["_law_script"] ["_law_script"] (defScope sPen) := ⟨rfl, rfl, rfl, by decide +kernel, rfl, by decide +kernel, by decide +kernel⟩
theorem ok_pen {f : Addr} {fd : FuncData} (F : Fun K "_law_pen" "_law_pen" sPen f fd) (ml : mg "list" = none) : FnOk P w K mg base CX0 1 f fd ["_law_script"] (spPen K) := by
  refine F.ok scPen (fun vs H Q E h => ?_) (fun cdv A outer s H vs Q E hr h => ?_)
  · obtain ⟨a, ns, rfl, _⟩ := h
    rfl
  · obtain ⟨a, ns, rfl, hS, hlen, q⟩ := h
    refine ⟨_, pss_one (ps_ret (pe_disp (pps_cons pe_str (pe_callTy call_list_of (by rfl) ml (by decide +kernel) (pa_cons (pe_slice sl_list (pv 0) po_none (po_some pe_int)) pa_nil))
      (pps_cons pe_str pe_int (pps_cons pe_str pe_int pps_nil))) (by rfl) (by rfl) (fun z => by cases z) (by decide))), ?_⟩
    intro p hp
    have s1 : Same H (upd H p (.dK [])) := same_new hp
    refine ⟨_, rfl, 63, rfl, a, ns.map V.int, rfl, s1.seq hS, fun c nc => ?_⟩
    have s2 : Same (upd H p (.dK [])) _ := same_new (o := .lst (cutV (ns.map V.int) none (some 63))) nc
    refine ⟨c, _, rfl, .inl (.inl (.inl upd_same)), fun l nl => ?_⟩
    have s3 : Same _ _ := same_new (o := .lst (cutV (ns.map V.int) none (some 63))) nl
    have h3 := s3 _ _ (s2 _ _ upd_same)
    refine ⟨h3, penKV l 0 0, rfl, by show 3 ≤ 15; decide, ?_⟩
    rw [pen_made]
    have npl : l ≠ p := fun z => by
      rw [z, s2 _ _ upd_same] at nl
      cases nl
    refine q p l _ ⟨ns.take 63, 0, 0, upd_same, ?_, by rw [List.length_take]; omega, Nat.le_refl _⟩ (fun b o e => ?_) hp
    · rw [upd_ne npl, upd_same, show (63 : Int) = ((63 : Nat) : Int) from rfl, cut_to, List.map_take]
    · rw [upd_ne (ne_of_none e hp)]
      exact s3 _ _ (s2 _ _ (s1 _ _ e))
/-! ### _law_draw: slots pen 0, many 1, digit 2, spot 3, cell 4, mixed 5 -/
def spDraw : Sp := fun vs H Q _ => ∃ (d c : Addr) (n : Nat) (m : Int), vs = [.ref d, .int m] ∧ PenAt H d c n ∧ n ≤ 1000000 ∧ 0 < m ∧ m < 1000000 ∧ ∀ (j : Int) (H' : Hp), 0 ≤ j → j < m → PenAt H' d c (n + 1) → But d H H' → Q (.int j) H'
theorem scDraw : FnScope ["_law_pen_here", "_law_many", "_law_digit", "_law_spot", "_law_cell", "_law_mixed"] ["_law_pen_here", "_law_many"] (defScope sDraw) := ⟨rfl, rfl, rfl, by decide +kernel, rfl, by decide +kernel, by decide +kernel⟩
theorem ok_draw {f : Addr} {fd : FuncData} (F : Fun K "_law_draw" "_law_draw" sDraw f fd) (mi : mg "int" = none) (ml : mg "len" = none) : FnOk P w K mg base CX0 1 f fd ["_law_pen_here", "_law_many"] spDraw := by
  refine F.ok scDraw (fun vs H Q E h => ?_) (fun cdv A outer s H vs Q E hr h => ?_)
  · obtain ⟨d, c, n, m, rfl, _⟩ := h
    rfl
  · obtain ⟨d, c, n, m, rfl, p, hn, hm0, hm1, q⟩ := h
    have hu := hu_of hr
    refine ⟨_, pss_cons (ps_if (pt_cmpR op_ge (pe_dget hu (pv 0) pe_str (fun _ _ => rfl)) (pv 1) (nomark _))
        (pss_cons (ps_set (i := 2) scDraw.nd rfl (Or.inl rfl) (pe_op op_modN (pe_callTy call_int1 (by rfl) mi (by decide +kernel) (pa_cons (pe_dget hu (pv 0) pe_str (fun _ _ => rfl)) pa_nil)) (pv 1)))
          (pss_cons (ps_dput hu (pv 0) pe_str (pe_op op_fdivN (pe_dget hu (pv 0) pe_str (fun _ _ => rfl)) (pv 1)) rfl)
            (pss_one (ps_ret (pv 2))))) pss_nil)
      (pss_cons (ps_set (i := 3) scDraw.nd rfl (Or.inl rfl) (pe_dget hu (pv 0) pe_str (fun _ _ => rfl)))
      (pss_cons (ps_dput hu (pv 0) pe_str (pe_op op_add (pv 3) pe_int) rfl)
      (pss_cons (ps_set (i := 4) scDraw.nd rfl (Or.inl rfl) (pe_op op_add (pe_op op_mul pe_int (pv 3)) pe_int))
      (pss_cons (ps_if (pt_cmpR (op_neD hr.units) (pe_dget hu (pv 0) pe_str (fun _ _ => rfl)) (pe_lst pa_nil) (nomark _))
          (pss_one (ps_set (i := 4) scDraw.nd rfl (Or.inl rfl) (pe_ix ix_list (pe_dget hu (pv 0) pe_str (fun _ _ => rfl))
            (pe_op op_modN (pe_callTy call_int1 (by rfl) mi (by decide +kernel) (pa_cons (pv 3) pa_nil)) (pe_callB call_len_seq (by rfl) ml PySem.boot_len (pa_cons (pe_dget hu (pv 0) pe_str (fun _ _ => rfl)) pa_nil))) (fun _ _ => rfl)))) pss_nil)
      (pss_cons (ps_if (PW.pt (pw_and (pt_cmpR op_lt (pv 3) (pe_callB call_len_seq (by rfl) ml PySem.boot_len (pa_cons (pe_dget hu (pv 0) pe_str (fun _ _ => rfl)) pa_nil)) (nomark _)) (pw_and1 (pt_cmpR op_ge (pv 4) (pe_op op_pow pe_int pe_int) (nomark _)))))
          (pss_cons (ps_dput hu (pv 0) pe_str (pe_op op_fdivN (pe_op op_sub (pv 4) (pe_op op_pow pe_int pe_int)) (pv 1)) rfl)
            (pss_one (ps_ret (pe_op op_modN (pe_callTy call_int1 (by rfl) mi (by decide +kernel) (pa_cons (pe_op op_sub (pv 4) (pe_op op_pow pe_int pe_int)) pa_nil)) (pv 1))))) pss_nil)
      (pss_cons (ps_set (i := 5) scDraw.nd rfl (Or.inl rfl) (pe_op op_mul (pe_op op_modN (pe_callTy call_int1 (by rfl) mi (by decide +kernel) (pa_cons (pv 4) pa_nil)) pe_int) pe_int))
      (pss_cons (ps_set (i := 5) scDraw.nd rfl (Or.inl rfl) (pe_op op_modN (pe_callTy call_int1 (by rfl) mi (by decide +kernel) (pa_cons (pe_op op_add (pe_op op_add (pe_op op_add (pv 5) (pe_op op_mul (pe_op op_mul pe_int (pv 3)) (pv 3))) (pe_op op_mul pe_int (pv 3))) pe_int) pa_nil)) pe_int))
      (pss_cons (ps_set (i := 5) scDraw.nd rfl (Or.inl rfl) (pe_op op_modN (pe_callTy call_int1 (by rfl) mi (by decide +kernel) (pa_cons (pe_op op_mul (pv 5) (pe_op op_add (pv 5) pe_int)) pa_nil)) pe_int))
      (pss_one (ps_ret (pe_op op_modN (pe_callTy call_int1 (by rfl) mi (by decide +kernel) (pa_cons (pe_op op_fdivN (pe_op op_modN (pe_callTy call_int1 (by rfl) mi (by decide +kernel) (pa_cons (pe_op op_add (pe_op op_mul (pv 5) (pv 5)) (pe_op op_mul pe_int (pv 5))) pa_nil)) pe_int) pe_int) pa_nil)) (pv 1)))))))))))), ?_⟩
    obtain ⟨ns, sp, r, h1, h2, h3, h4⟩ := p
    have gC : ∀ {H : Hp} {x y : Int}, H d = some (.dK (penKV c x y)) → DGet H d (.str "cells") (some (.ref c)) := fun {H x y} e => by
      have z := DGet.k (k := kCells) e
      rw [pen_cells] at z
      exact z
    have gS : ∀ {H : Hp} {x y : Int}, H d = some (.dK (penKV c x y)) → DGet H d (.str "spot") (some (.int x)) := fun {H x y} e => by
      have z := DGet.k (k := kSpot) e
      rw [pen_spot] at z
      exact z
    have gR : ∀ {H : Hp} {x y : Int}, H d = some (.dK (penKV c x y)) → DGet H d (.str "rest") (some (.int y)) := fun {H x y} e => by
      have z := DGet.k (k := kRest) e
      rw [pen_rest] at z
      exact z
    have uS : ∀ {H : Hp} {x y z : Int}, H d = some (.dK (penKV c x y)) → DPut H d (.str "spot") (.int z) (upd H d (.dK (penKV c z y))) := fun {H x y z} e => by
      have q := DPut.k (k := kSpot) (v := .int z) e (small1000 (by show 3 ≤ 1000; decide))
      rw [pen_putS] at q
      exact q
    have uR : ∀ {H : Hp} {x y z : Int}, H d = some (.dK (penKV c x y)) → DPut H d (.str "rest") (.int z) (upd H d (.dK (penKV c x z))) := fun {H x y z} e => by
      have q := DPut.k (k := kRest) (v := .int z) e (small1000 (by show 3 ≤ 1000; decide))
      rw [pen_putR] at q
      exact q
    have ncd : c ≠ d := ne_of h2 h1 (fun z => by cases z)
    have hmn : m ≠ 0 := by omega
    have hma : m.natAbs < 1073741824 := by omega
    have fm : ∀ x : Int, 0 ≤ x.fmod m ∧ x.fmod m < m := fun x => fmod_in x hm0
    -- if pen["rest"] >= many
    refine ⟨_, rfl, d, _, rfl, gR h1, _, rfl, _, _, rfl, rfl, _, rfl, ?_⟩
    refine ite2 (fun _ => ?_) (fun _ => ?_)
    · -- digit = int(pen["rest"]) % many; pen["rest"] = pen["rest"] // many; return digit
      refine ⟨_, rfl, d, _, rfl, gR h1, .inl ⟨_, rfl, _, rfl, _, _, rfl, rfl, hmn, ?_⟩⟩
      refine ⟨_, rfl, d, _, rfl, gR h1, _, rfl, _, _, rfl, rfl, ⟨hmn, hma⟩, _, rfl, d, _, rfl, uR h1, _, rfl, ?_⟩
      exact q _ _ (fm r).1 (fm r).2 ⟨ns, sp, _, upd_same, by rw [upd_ne ncd]; exact h2, h3, by omega⟩ But.upd
    · -- spot = pen["spot"]; pen["spot"] = spot + 1; cell = 61 * spot + 37
      refine ⟨_, rfl, d, _, rfl, gS h1, _, rfl, _, _, rfl, rfl, _, rfl, d, _, rfl, uS h1, ?_⟩
      have hsp : (sp : Int) ≤ 1000000 := by omega
      refine ⟨_, rfl, _, _, rfl, rfl, .inl ⟨by decide, by decide⟩, _, _, rfl, rfl, ?_⟩
      have p1 : (upd H d (.dK (penKV c ((sp : Int) + 1) r))) d = some (.dK (penKV c ((sp : Int) + 1) r)) := upd_same
      have c1 : (upd H d (.dK (penKV c ((sp : Int) + 1) r))) c = some (.lst (ns.map V.int)) := by rw [upd_ne ncd]; exact h2
      have b1 : But d H (upd H d (.dK (penKV c ((sp : Int) + 1) r))) := But.upd
      generalize upd H d (.dK (penKV c ((sp : Int) + 1) r)) = H1 at p1 c1 b1
      -- if pen["cells"] != []
      refine ⟨_, rfl, d, _, rfl, gC p1, Nat.zero_le _, fun l nl => ?_⟩
      have s2 : Same H1 (upd H1 l (.lst [])) := same_new nl
      refine ⟨.list (ns.map PyData.int), .list [], .lst (.inl (.inl (s2 _ _ c1))) (dp_ints ns), .lst (.inl (.inl upd_same)) .nil, sh_ints ns, by decide +kernel, _, rfl, ?_⟩
      have p2 := s2 _ _ p1
      have c2 := s2 _ _ c1
      have b2 : But d H (upd H1 l (.lst [])) := b1.trans (but_of s2)
      generalize upd H1 l (.lst []) = H2 at p2 c2 b2
      rw [eqv_ints]
      refine ite2 (fun hne => ?_) (fun _ => ?_)
      · have hpos : 0 < ns.length := by
          cases ns with
          | nil => cases hne
          | cons a t => exact Nat.succ_pos _
        have hl0 : (0 : Int) < ((ns.map V.int).length : Int) := by rw [List.length_map]; omega
        have fi := fmod_in (sp : Int) hl0
        obtain ⟨j, ej⟩ : ∃ j : Nat, (sp : Int).fmod ((ns.map V.int).length : Int) = (j : Int) := ⟨((sp : Int).fmod ((ns.map V.int).length : Int)).toNat, by omega⟩
        have hj : j < ns.length := by
          have z := fi.2
          rw [ej, List.length_map] at z
          omega
        -- cell = pen["cells"][int(spot) % len(pen["cells"])]
        refine ⟨_, rfl, d, _, rfl, gC p2, _, rfl, .inl ⟨_, rfl, _, rfl, d, _, rfl, gC p2, _, _, rfl, .inl (.inl (.inl c2)), _, _, rfl, rfl, by omega, c, _, _, .int ns[j], rfl, rfl, .inl (.inl c2), at_of (j := j) ej (by rw [List.getElem?_map, List.getElem?_eq_getElem hj]; rfl), ?_⟩⟩
        generalize ns[j] = z
        refine ⟨_, rfl, _, rfl, d, _, rfl, gC p2, _, _, rfl, .inl (.inl (.inl c2)), _, _, rfl, rfl, _, rfl, ?_⟩
        refine ite2 (fun _ => ⟨_, rfl, _, _, rfl, rfl, ⟨by decide, by decide, by decide⟩, _, _, rfl, rfl, _, rfl, ite2 (fun _ => ?_) (fun _ => ?_)⟩) (fun _ => ?_)
        · refine ⟨_, rfl, _, _, rfl, rfl, ⟨by decide, by decide, by decide⟩, _, _, rfl, rfl, _, rfl, _, _, rfl, rfl, ⟨hmn, hma⟩, _, rfl, d, _, rfl, uR p2, ?_⟩
          refine ⟨_, rfl, _, _, rfl, rfl, ⟨by decide, by decide, by decide⟩, _, _, rfl, rfl, .inl ⟨_, rfl, _, rfl, _, _, rfl, rfl, hmn, ?_⟩⟩
          exact q _ _ (fm _).1 (fm _).2 ⟨ns, sp + 1, _, upd_same, by rw [upd_ne ncd]; exact c2, h3, by omega⟩ (b2.trans But.upd)
        · refine ⟨_, rfl, .inl ⟨_, rfl, _, _, rfl, rfl, nz1, _, _, rfl, rfl, .inr ⟨by decide, by decide⟩, ?_⟩⟩
          obtain ⟨z1, e1⟩ : ∃ z1, (z.fmod 2147483423) * 40009 = z1 := ⟨_, rfl⟩
          refine ⟨_, rfl, _, rfl, _, _, rfl, rfl, .inl ⟨by decide, by decide⟩, _, rfl, _, _, rfl, rfl, .inr ⟨by omega, by omega⟩, z1, _, congrArg V.int e1, rfl, _, rfl, _, _, rfl, rfl, .inl ⟨by decide, by decide⟩, _, _, rfl, rfl, _, _, rfl, rfl, .inl ⟨_, rfl, _, _, rfl, rfl, nz2, ?_⟩⟩
          obtain ⟨z2, e2⟩ : ∃ z2, (z1 + 52361 * (sp : Int) * (sp : Int) + 97 * (sp : Int) + 29).fmod 2147483477 = z2 := ⟨_, rfl⟩
          have f2 := fmod_in (z1 + 52361 * (sp : Int) * (sp : Int) + 97 * (sp : Int) + 29) (m := 2147483477) (by decide)
          rw [e2] at f2
          refine ⟨_, rfl, _, rfl, z2, _, congrArg V.int e2, rfl, z2, _, congrArg V.int e2, rfl, .inl ⟨by omega, by omega⟩, .inl ⟨_, rfl, _, _, rfl, rfl, nz3, ?_⟩⟩
          obtain ⟨z3, e3⟩ : ∃ z3, (z2 * (z2 + 70001)).fmod 2147483489 = z3 := ⟨_, rfl⟩
          have f3 := fmod_in (z2 * (z2 + 70001)) (m := 2147483489) (by decide)
          rw [e3] at f3
          refine ⟨_, rfl, _, rfl, z3, z3, congrArg V.int e3, congrArg V.int e3, .inl ⟨by omega, by omega⟩, _, rfl, _, z3, rfl, congrArg V.int e3, .inl ⟨by decide, by decide⟩, _, _, rfl, rfl, .inl ⟨_, rfl, _, _, rfl, rfl, nz4, _, _, rfl, rfl, ⟨by decide, by decide⟩, .inl ⟨_, rfl, _, rfl, _, _, rfl, rfl, hmn, ?_⟩⟩⟩
          exact q _ _ (fm _).1 (fm _).2 ⟨ns, sp + 1, _, p2, c2, h3, by omega⟩ b2
        · refine ⟨_, rfl, .inl ⟨_, rfl, _, _, rfl, rfl, nz1, _, _, rfl, rfl, .inr ⟨by decide, by decide⟩, ?_⟩⟩
          obtain ⟨z1, e1⟩ : ∃ z1, (z.fmod 2147483423) * 40009 = z1 := ⟨_, rfl⟩
          refine ⟨_, rfl, _, rfl, _, _, rfl, rfl, .inl ⟨by decide, by decide⟩, _, rfl, _, _, rfl, rfl, .inr ⟨by omega, by omega⟩, z1, _, congrArg V.int e1, rfl, _, rfl, _, _, rfl, rfl, .inl ⟨by decide, by decide⟩, _, _, rfl, rfl, _, _, rfl, rfl, .inl ⟨_, rfl, _, _, rfl, rfl, nz2, ?_⟩⟩
          obtain ⟨z2, e2⟩ : ∃ z2, (z1 + 52361 * (sp : Int) * (sp : Int) + 97 * (sp : Int) + 29).fmod 2147483477 = z2 := ⟨_, rfl⟩
          have f2 := fmod_in (z1 + 52361 * (sp : Int) * (sp : Int) + 97 * (sp : Int) + 29) (m := 2147483477) (by decide)
          rw [e2] at f2
          refine ⟨_, rfl, _, rfl, z2, _, congrArg V.int e2, rfl, z2, _, congrArg V.int e2, rfl, .inl ⟨by omega, by omega⟩, .inl ⟨_, rfl, _, _, rfl, rfl, nz3, ?_⟩⟩
          obtain ⟨z3, e3⟩ : ∃ z3, (z2 * (z2 + 70001)).fmod 2147483489 = z3 := ⟨_, rfl⟩
          have f3 := fmod_in (z2 * (z2 + 70001)) (m := 2147483489) (by decide)
          rw [e3] at f3
          refine ⟨_, rfl, _, rfl, z3, z3, congrArg V.int e3, congrArg V.int e3, .inl ⟨by omega, by omega⟩, _, rfl, _, z3, rfl, congrArg V.int e3, .inl ⟨by decide, by decide⟩, _, _, rfl, rfl, .inl ⟨_, rfl, _, _, rfl, rfl, nz4, _, _, rfl, rfl, ⟨by decide, by decide⟩, .inl ⟨_, rfl, _, rfl, _, _, rfl, rfl, hmn, ?_⟩⟩⟩
          exact q _ _ (fm _).1 (fm _).2 ⟨ns, sp + 1, _, p2, c2, h3, by omega⟩ b2
      · obtain ⟨z, ez⟩ : ∃ z, 61 * (sp : Int) + 37 = z := ⟨_, rfl⟩
        refine st_is (σ' := [some (.ref d), some (.int m), none, some (.int (sp : Int)), some (.int z), none]) (by rw [← ez]; rfl) ?_
        refine ⟨_, rfl, _, rfl, d, _, rfl, gC p2, _, _, rfl, .inl (.inl (.inl c2)), _, _, rfl, rfl, _, rfl, ?_⟩
        refine ite2 (fun _ => ⟨_, rfl, _, _, rfl, rfl, ⟨by decide, by decide, by decide⟩, _, _, rfl, rfl, _, rfl, ite2 (fun _ => ?_) (fun _ => ?_)⟩) (fun _ => ?_)
        · refine ⟨_, rfl, _, _, rfl, rfl, ⟨by decide, by decide, by decide⟩, _, _, rfl, rfl, _, rfl, _, _, rfl, rfl, ⟨hmn, hma⟩, _, rfl, d, _, rfl, uR p2, ?_⟩
          refine ⟨_, rfl, _, _, rfl, rfl, ⟨by decide, by decide, by decide⟩, _, _, rfl, rfl, .inl ⟨_, rfl, _, rfl, _, _, rfl, rfl, hmn, ?_⟩⟩
          exact q _ _ (fm _).1 (fm _).2 ⟨ns, sp + 1, _, upd_same, by rw [upd_ne ncd]; exact c2, h3, by omega⟩ (b2.trans But.upd)
        · refine ⟨_, rfl, .inl ⟨_, rfl, _, _, rfl, rfl, nz1, _, _, rfl, rfl, .inr ⟨by decide, by decide⟩, ?_⟩⟩
          obtain ⟨z1, e1⟩ : ∃ z1, (z.fmod 2147483423) * 40009 = z1 := ⟨_, rfl⟩
          refine ⟨_, rfl, _, rfl, _, _, rfl, rfl, .inl ⟨by decide, by decide⟩, _, rfl, _, _, rfl, rfl, .inr ⟨by omega, by omega⟩, z1, _, congrArg V.int e1, rfl, _, rfl, _, _, rfl, rfl, .inl ⟨by decide, by decide⟩, _, _, rfl, rfl, _, _, rfl, rfl, .inl ⟨_, rfl, _, _, rfl, rfl, nz2, ?_⟩⟩
          obtain ⟨z2, e2⟩ : ∃ z2, (z1 + 52361 * (sp : Int) * (sp : Int) + 97 * (sp : Int) + 29).fmod 2147483477 = z2 := ⟨_, rfl⟩
          have f2 := fmod_in (z1 + 52361 * (sp : Int) * (sp : Int) + 97 * (sp : Int) + 29) (m := 2147483477) (by decide)
          rw [e2] at f2
          refine ⟨_, rfl, _, rfl, z2, _, congrArg V.int e2, rfl, z2, _, congrArg V.int e2, rfl, .inl ⟨by omega, by omega⟩, .inl ⟨_, rfl, _, _, rfl, rfl, nz3, ?_⟩⟩
          obtain ⟨z3, e3⟩ : ∃ z3, (z2 * (z2 + 70001)).fmod 2147483489 = z3 := ⟨_, rfl⟩
          have f3 := fmod_in (z2 * (z2 + 70001)) (m := 2147483489) (by decide)
          rw [e3] at f3
          refine ⟨_, rfl, _, rfl, z3, z3, congrArg V.int e3, congrArg V.int e3, .inl ⟨by omega, by omega⟩, _, rfl, _, z3, rfl, congrArg V.int e3, .inl ⟨by decide, by decide⟩, _, _, rfl, rfl, .inl ⟨_, rfl, _, _, rfl, rfl, nz4, _, _, rfl, rfl, ⟨by decide, by decide⟩, .inl ⟨_, rfl, _, rfl, _, _, rfl, rfl, hmn, ?_⟩⟩⟩
          exact q _ _ (fm _).1 (fm _).2 ⟨ns, sp + 1, _, p2, c2, h3, by omega⟩ b2
        · refine ⟨_, rfl, .inl ⟨_, rfl, _, _, rfl, rfl, nz1, _, _, rfl, rfl, .inr ⟨by decide, by decide⟩, ?_⟩⟩
          obtain ⟨z1, e1⟩ : ∃ z1, (z.fmod 2147483423) * 40009 = z1 := ⟨_, rfl⟩
          refine ⟨_, rfl, _, rfl, _, _, rfl, rfl, .inl ⟨by decide, by decide⟩, _, rfl, _, _, rfl, rfl, .inr ⟨by omega, by omega⟩, z1, _, congrArg V.int e1, rfl, _, rfl, _, _, rfl, rfl, .inl ⟨by decide, by decide⟩, _, _, rfl, rfl, _, _, rfl, rfl, .inl ⟨_, rfl, _, _, rfl, rfl, nz2, ?_⟩⟩
          obtain ⟨z2, e2⟩ : ∃ z2, (z1 + 52361 * (sp : Int) * (sp : Int) + 97 * (sp : Int) + 29).fmod 2147483477 = z2 := ⟨_, rfl⟩
          have f2 := fmod_in (z1 + 52361 * (sp : Int) * (sp : Int) + 97 * (sp : Int) + 29) (m := 2147483477) (by decide)
          rw [e2] at f2
          refine ⟨_, rfl, _, rfl, z2, _, congrArg V.int e2, rfl, z2, _, congrArg V.int e2, rfl, .inl ⟨by omega, by omega⟩, .inl ⟨_, rfl, _, _, rfl, rfl, nz3, ?_⟩⟩
          obtain ⟨z3, e3⟩ : ∃ z3, (z2 * (z2 + 70001)).fmod 2147483489 = z3 := ⟨_, rfl⟩
          have f3 := fmod_in (z2 * (z2 + 70001)) (m := 2147483489) (by decide)
          rw [e3] at f3
          refine ⟨_, rfl, _, rfl, z3, z3, congrArg V.int e3, congrArg V.int e3, .inl ⟨by omega, by omega⟩, _, rfl, _, z3, rfl, congrArg V.int e3, .inl ⟨by decide, by decide⟩, _, _, rfl, rfl, .inl ⟨_, rfl, _, _, rfl, rfl, nz4, _, _, rfl, rfl, ⟨by decide, by decide⟩, .inl ⟨_, rfl, _, rfl, _, _, rfl, rfl, hmn, ?_⟩⟩⟩
          exact q _ _ (fm _).1 (fm _).2 ⟨ns, sp + 1, _, p2, c2, h3, by omega⟩ b2

theorem lst_ne {H : Hp} {a d c : Addr} {xs : List V} {n : Nat} (h : H a = some (.lst xs)) (p : PenAt H d c n) : a ≠ d := by
  obtain ⟨ns, s, r, h1, _⟩ := p
  exact ne_of h h1 (fun z => by cases z)
theorem tup_ne {H : Hp} {a d c : Addr} {xs : List V} {n : Nat} (h : H a = some (.tup xs)) (p : PenAt H d c n) : a ≠ d := by
  obtain ⟨ns, s, r, h1, _⟩ := p
  exact ne_of h h1 (fun z => by cases z)
/-! ### _law_pick: slots pen 0, items 1 -/
def spPick : Sp := fun vs H Q _ => ∃ (d c : Addr) (n : Nat) (x : V), vs = [.ref d, x] ∧ PenAt H d c n ∧ n ≤ 1000000 ∧
  ((∃ (a : Addr) (xs : List V), x = .ref a ∧ H a = some (.lst xs) ∧ 0 < xs.length ∧ xs.length < 1000000 ∧ ∀ (v : V) (H' : Hp), v ∈ xs → PenAt H' d c (n + 1) → But d H H' → Q v H') ∨
   (∃ z : Str, x = .str z ∧ 0 < z.length ∧ z.length < 1000000 ∧ ∀ (y : Nat) (H' : Hp), y ∈ z.cps.toList → PenAt H' d c (n + 1) → But d H H' → Q (.str ⟨#[y]⟩) H'))
theorem scPick : FnScope ["_law_pen_here", "_law_items"] ["_law_pen_here", "_law_items"] (defScope sPick) := ⟨rfl, rfl, rfl, by decide +kernel, rfl, by decide +kernel, by decide +kernel⟩
theorem ok_pick {f fD : Addr} {fd fdD : FuncData} (F : Fun K "_law_pick" "_law_pick" sPick f fd) (GD : FnOk P w K mg base CX0 1 fD fdD ["_law_pen_here", "_law_many"] spDraw) (cD : Cd K mg "_law_draw" fD) (bD : Binds K fdD ["_law_pen_here", "_law_many"] [])
    (ml : mg "len" = none) : FnOk P w K mg base CX0 2 f fd ["_law_pen_here", "_law_items"] spPick := by
  refine F.ok scPick (fun vs H Q E h => ?_) (fun cdv A outer s H vs Q E hr h => ?_)
  · obtain ⟨d, c, n, x, rfl, _⟩ := h
    rfl
  · obtain ⟨d, c, n, x, rfl, p, hn, h⟩ := h
    refine ⟨_, pss_one (ps_ret (pe_ix ix_seq (pv 1) (pe_call GD hr rfl cD.mg cD.kp bD .nil pass0 (pa_cons (pv 0) (pa_cons (pe_callB call_len (by rfl) ml (by decide +kernel) (pa_cons (pv 1) pa_nil)) pa_nil))) (fun _ _ => rfl))), ?_⟩
    rcases h with ⟨a, xs, rfl, hx, h0, h1, q⟩ | ⟨z, rfl, h0, h1, q⟩
    · refine ⟨_, rfl, _, rfl, _, rfl, _, _, rfl, .inl ⟨_, .inl (.inl hx), rfl⟩, d, c, n, (xs.length : Int), rfl, p, hn, by omega, by omega, fun j H' hj0 hj1 p' b => ?_⟩
      have hx' := b a _ hx (lst_ne hx p)
      obtain ⟨k, rfl⟩ : ∃ k : Nat, j = (k : Int) := ⟨j.toNat, by omega⟩
      have hk : k < xs.length := by omega
      exact .inl ⟨a, xs, _, xs[k], rfl, rfl, .inl (.inl hx'), atI_nat (List.getElem?_eq_getElem hk), q _ _ (List.getElem_mem hk) p' b⟩
    · have hz : z.length ≤ sizeLine := by have := small1000 (n := 0) (by decide); rw [sizeLine_eq]; omega
      refine ⟨_, rfl, _, rfl, _, rfl, _, _, rfl, ⟨hz, rfl⟩, d, c, n, (z.length : Int), rfl, p, hn, by omega, by omega, fun j H' hj0 hj1 p' b => ?_⟩
      obtain ⟨k, rfl⟩ : ∃ k : Nat, j = (k : Int) := ⟨j.toNat, by omega⟩
      have hk : k < z.cps.toList.length := by rw [← TL.len_tl]; omega
      exact .inr (.inr ⟨z, _, z.cps.toList[k], rfl, rfl, hz, atI_nat (List.getElem?_eq_getElem hk), q _ _ (List.getElem_mem hk) p' b⟩)
/-! ### _law_words: slots pen 0, many 1, letters 2, k 3, stem 4, at 5, front 6, step 7, tail 8, found 9, word 10 -/
def spWords : Sp := fun vs H Q _ => ∃ (d c : Addr) (n m : Nat), vs = [.ref d, .int (m : Int)] ∧ PenAt H d c n ∧ n ≤ 900000 ∧ m ≤ 20 ∧
  ∀ (a : Addr) (ws : List (List Nat)) (H' : Hp), ws.length = m → (∀ x ∈ ws, isW x = true) → H' a = some (.lst (ws.map fun x => V.str (S x))) → H a = none → PenAt H' d c (n + 10) → But d H H' → Q (.ref a) H'
theorem scWords : FnScope ["_law_pen_here", "_law_many", "_law_letters", "_law_k", "_law_stem", "_law_at", "_law_front", "_law_step", "_law_tail", "_law_found", "_law_word"] ["_law_pen_here", "_law_many"] (defScope sWords) := ⟨rfl, rfl, rfl, by decide +kernel, rfl, by decide +kernel, by decide +kernel⟩
theorem ok_words {f fD fP : Addr} {fd fdD fdP : FuncData} (F : Fun K "_law_words" "_law_words" sWords f fd) (GD : FnOk P w K mg base CX0 1 fD fdD ["_law_pen_here", "_law_many"] spDraw) (cD : Cd K mg "_law_draw" fD) (bD : Binds K fdD ["_law_pen_here", "_law_many"] [])
    (GP : FnOk P w K mg base CX0 2 fP fdP ["_law_pen_here", "_law_items"] spPick) (cP : Cd K mg "_law_pick" fP) (bP : Binds K fdP ["_law_pen_here", "_law_items"] [])
    (ml : mg "len" = none) (mr : mg "range" = none) (mi : mg "int" = none) : FnOk P w K mg base CX0 3 f fd ["_law_pen_here", "_law_many"] spWords := by
  refine F.ok scWords (fun vs H Q E h => ?_) (fun cdv A outer s H vs Q E hr h => ?_)
  · obtain ⟨d, c, n, m, rfl, _⟩ := h
    rfl
  · obtain ⟨d, c, n, m, rfl, p, hn, hm, q⟩ := h
    have hr1 : Room 1 _ := hr.mono (by decide)
    refine ⟨_, pss_cons (ps_set (i := 2) scWords.nd rfl (Or.inr rfl) pe_str)
      (pss_cons (ps_set (i := 4) scWords.nd rfl (Or.inl rfl) (pe_join pe_str (pe_lc (own := [("_law_k", 3)]) (g := gName 3) (tt := tYes) rfl scWords.nd (pi_range1 (by rfl) mr (pa_cons (pe_call GD hr1 rfl cD.mg cD.kp bD .nil pass0 (pa_cons (pv 0) (pa_cons pe_int pa_nil))) pa_nil))
          (blkOk_by (own := [("_law_k", 3)]) (N := ["_law_pen_here", "_law_many", "_law_letters", "_law_k", "_law_stem", "_law_at", "_law_front", "_law_step", "_law_tail", "_law_found", "_law_word"]) (sc := defScope sWords) (by decide +kernel))
          (fun _ _ _ _ _ => pg_name (i := 3) scWords.nd rfl (Or.inl rfl)) (fun _ _ _ _ _ => pts_nil)
          (fun _ _ _ _ _ => pe_call GP hr rfl cP.mg cP.kp bP .nil pass0 (pa_cons (pv 0) (pa_cons (pv 2) pa_nil))))))
      (pss_cons (ps_par (by rfl) scWords.nd (i := 5) (j := 6) rfl rfl (by decide) rfl rfl (pa_cons (pe_call GD hr1 rfl cD.mg cD.kp bD .nil pass0 (pa_cons (pv 0) (pa_cons (pe_op op_add (pe_callB call_len_str (by rfl) ml (by decide +kernel) (pa_cons (pv 4) pa_nil)) pe_int) pa_nil)))
          (pa_cons (pe_call GD hr1 rfl cD.mg cD.kp bD .nil pass0 (pa_cons (pv 0) (pa_cons pe_int pa_nil))) pa_nil)) (by rfl))
      (pss_cons (ps_par (by rfl) scWords.nd (i := 7) (j := 8) rfl rfl (by decide) rfl rfl (pa_cons (pe_call GP hr rfl cP.mg cP.kp bP .nil pass0 (pa_cons (pv 0) (pa_cons (pe_lst (pa_cons pe_int (pa_cons pe_int (pa_cons pe_int (pa_cons pe_int (pa_cons pe_int (pa_cons pe_int (pa_cons pe_int (pa_cons pe_int pa_nil))))))))) pa_nil)))
          (pa_cons (pe_call GP hr rfl cP.mg cP.kp bP .nil pass0 (pa_cons (pv 0) (pa_cons (pe_lst (pa_cons pe_str (pa_cons pe_str (pa_cons pe_str (pa_cons pe_str pa_nil))))) pa_nil))) pa_nil)) (by rfl))
      (pss_cons (ps_set (i := 9) scWords.nd rfl (Or.inl rfl) (pe_lst pa_nil))
      (pss_cons (ps_for PassesOwn.never rfl (pi_range1 (by rfl) mr (pa_cons (pv 1) pa_nil)) (pg_name (i := 3) scWords.nd rfl (Or.inl rfl))
        (pss_cons (ps_set (i := 10) scWords.nd rfl (Or.inl rfl) (pe_op op_add_str (pe_op op_add_str (pe_slice sl_str (pv 4) po_none (po_some (pv 5)))
            (pe_ix ix_str (pv 2) (pe_op op_modN (pe_callTy call_int1 (by rfl) mi (by decide +kernel) (pa_cons (pe_op op_add (pv 6) (pe_op op_mul (pv 7) (pv 3))) pa_nil)) pe_int) (fun _ _ => rfl))) (pe_slice sl_str (pv 4) (po_some (pv 5)) po_none)))
        (pss_one (ps_expr (pe_bm PySem.F.plainAttrs_list PySem.F.slot_list_append PySem.F.type_list_append mt_append (pv 9)
          (pa_cons (pe_ifExp (pt_cmpR op_eq (pe_op op_modN (pe_callTy call_int1 (by rfl) mi (by decide +kernel) (pa_cons (pv 3) pa_nil)) pe_int) pe_int (nomark _)) (pe_op op_add_str (pv 10) (pv 8)) (pv 10)) pa_nil))))))
      (pss_one (ps_ret (pv 9)))))))), ?_⟩
    -- stem
    refine ⟨⟨_, rfl⟩, _, rfl, d, c, n, 6, rfl, p, by omega, by decide, by decide, fun j H1 hj0 hj1 p1 b1 => ?_⟩
    obtain ⟨jn, rfl⟩ : ∃ k : Nat, j = (k : Int) := ⟨j.toNat, by omega⟩
    refine ⟨(jn : Int), rfl, by omega, by omega, fun D hD => ?_⟩
    refine lc_range (lo := 0) (n := jn) (fun i H' => PenAt H' d c (n + 1 + i) ∧ But d H1 H' ∧ ∃ cs : List Nat, H' D = some (.lst (cs.map fun c => V.str (S [c]))) ∧ cs.length = i ∧ ∀ c ∈ cs, isL c = true)
      ⟨p1.keep (same_new hD), but_of (same_new hD), [], upd_same, rfl, fun c hc => by cases hc⟩ ?_ ?_
    · rintro i H' hi ⟨p2, b2, cs, hcs, hcl, hca⟩
      refine ⟨rfl, _, rfl, _, rfl, d, c, n + 1 + i, _, rfl, p2, by omega, .inr ⟨_, rfl, by decide +kernel, by decide +kernel, fun y H3 hy p3 b3 => ?_⟩⟩
      have hne : D ≠ d := lst_ne hcs p2
      have h3 := b3 D _ hcs hne
      have hDc : D ≠ c := fun z => p1.neC (by rw [← z]; exact hD)
      refine ⟨_, h3, by rw [List.length_map]; exact size_lt (by omega), ?_, ?_, cs ++ [y], ?_, ?_, ?_⟩
      · exact (p3.mono (by omega)).put hne hDc
      · exact (b2.trans b3).put hD
      · rw [upd_same, List.map_append]
        rfl
      · rw [List.length_append, hcl]
        rfl
      · exact all_snoc hca (letters_all y hy)
    · rintro H2 ⟨p2, b2, cs, hcs, hcl, hca⟩
      refine ⟨_, D, (cs.map fun c => [c]).map S, rfl, rfl, .inl (.inl (.inl (hcs.trans ?_))), ?_, ?_⟩
      · rw [map_one]
      · rw [sum_one, emp_S, len_S]
        show cs.length + _ * 0 ≤ _
        omega
      refine st_is (σ' := [some (.ref d), some (.int (m : Int)), some (.str (S lettersL)), none, some (.str (S cs)), none, none, none, none, none, none]) (by rw [emp_S, join_S0, flat_one, letters_S]; rfl) ?_
      have hb : But d H H2 := b1.trans b2
      have hcs5 : cs.length ≤ 5 := by omega
      clear hcs b1 b2 p1 hD
      -- at, front
      refine ⟨_, rfl, _, rfl, _, rfl, size_ok (by rw [len_S]; omega), _, _, rfl, rfl, d, c, n + 1 + jn, _, rfl, p2, by omega, by rw [len_S]; omega, by rw [len_S]; omega, fun a0 H3 ha0 ha1 p3 b3 => ?_⟩
      refine ⟨_, rfl, d, c, _, 26, rfl, p3, by omega, by decide, by decide, fun fr H4 hf0 hf1 p4 b4 => ⟨_, _, rfl, ?_⟩⟩
      obtain ⟨at_, rfl⟩ : ∃ k : Nat, a0 = (k : Int) := ⟨a0.toNat, by omega⟩
      rw [len_S] at ha1
      -- step, tail
      refine ⟨_, rfl, by show 8 ≤ sizeLine; decide, fun l nl => ?_⟩
      refine ⟨d, c, _, _, rfl, p4.keep (same_new nl), by omega, .inl ⟨l, _, rfl, upd_same, by show 0 < 8; decide, by show 8 < 1000000; decide, fun st H5 hst p5 b5 => ?_⟩⟩
      refine ⟨_, rfl, by show 4 ≤ sizeLine; decide, fun l2 nl2 => ?_⟩
      refine ⟨d, c, _, _, rfl, p5.keep (same_new nl2), by omega, .inl ⟨l2, _, rfl, upd_same, by show 0 < 4; decide, by show 4 < 1000000; decide, fun tv H6 htv p6 b6 => ⟨_, _, rfl, ?_⟩⟩⟩
      obtain ⟨sk, rfl, hk0, hk1⟩ : ∃ k : Int, st = .int k ∧ 0 ≤ k ∧ k ≤ 17 := by
        simp only [List.mem_cons, List.not_mem_nil, or_false] at hst
        rcases hst with rfl | rfl | rfl | rfl | rfl | rfl | rfl | rfl <;> exact ⟨_, rfl, by decide, by decide⟩
      obtain ⟨tl_, rfl, htl, hta⟩ : ∃ t : List Nat, tv = .str (S t) ∧ t.length ≤ 2 ∧ ∀ c ∈ t, isL c = true := by
        simp only [List.mem_cons, List.not_mem_nil, or_false] at htv
        rcases htv with rfl | rfl | rfl | rfl
        · exact ⟨[], congrArg V.str emp_S, by decide, by decide⟩
        · exact ⟨[], congrArg V.str emp_S, by decide, by decide⟩
        · exact ⟨[119], congrArg V.str (by decide +kernel), by decide, by decide⟩
        · exact ⟨[119, 119], congrArg V.str (by decide +kernel), by decide, by decide⟩
      have hb6 : But d H H6 := (((((hb.trans b3).trans b4).trans (but_of (same_new nl))).trans b5).trans (but_of (same_new nl2))).trans b6
      have p6' : PenAt H6 d c (n + 10) := p6.mono (by omega)
      clear b3 b4 b5 b6 p3 p4 p5 nl nl2 hb p2 hst htv p6
      -- found
      refine ⟨Nat.zero_le _, fun o no => ?_⟩
      have noH : H o = none := p.free p6' hb6 no
      have p7 : PenAt (upd H6 o (.lst [])) d c (n + 10) := p6'.keep (same_new no)
      have hod : o ≠ d := fun z => p6'.ne (by rw [← z]; exact no)
      have hoc : o ≠ c := fun z => p6'.neC (by rw [← z]; exact no)
      -- for
      refine ⟨_, rfl, m, rfl, by omega, by omega, for_range (n := m) (fun i σ H' => ∃ v3 v10 : Option V, σ = [some (.ref d), some (.int (m : Int)), some (.str (S lettersL)), v3, some (.str (S cs)), some (.int (at_ : Int)), some (.int fr), some (.int sk), some (.str (S tl_)), some (.ref o), v10] ∧
        PenAt H' d c (n + 10) ∧ But d H H' ∧ ∃ ws : List (List Nat), H' o = some (.lst (ws.map fun x => V.str (S x))) ∧ ws.length = i ∧ ∀ x ∈ ws, isW x = true)
        ⟨none, none, rfl, p7, hb6.put noH, [], upd_same, rfl, fun x hx => by cases hx⟩ ?_ ?_⟩
      · rintro i σ H' hi ⟨v3, v10, rfl, p8, b8, ws, hws, hwl, hwa⟩
        obtain ⟨j, ej⟩ : ∃ j : Nat, (fr + sk * (0 + (i : Int))).fmod 26 = (j : Int) := ⟨((fr + sk * (0 + (i : Int))).fmod 26).toNat, by have := fmod_in (fr + sk * (0 + (i : Int))) (m := 26) (by decide); omega⟩
        have hj : j < lettersL.length := by
          have := fmod_in (fr + sk * (0 + (i : Int))) (m := 26) (by decide)
          rw [letters_len]
          omega
        have hle : cs.length ≤ 5 := hcs5
        refine ⟨_, rfl, _, rfl, (at_ : Int), rfl, _, rfl, size_ok (by rw [len_S]; omega), _, rfl, _, rfl, _, rfl, _, rfl, _, _, rfl, rfl, .inl ⟨by omega, by omega⟩, _, _, rfl, rfl, .inl ⟨_, rfl, _, _, rfl, rfl, nz26, _, _, lettersL[j], rfl, rfl, size_ok (by rw [len_S, letters_len]; decide), at_ofN ej (List.getElem?_eq_getElem hj), ?_⟩⟩
        have e1 : cutS (S cs) none (some (at_ : Int)) = S (cs.take at_) := cutS_to cs at_
        have e2 : cutS (S cs) (some (at_ : Int)) none = S (cs.drop at_) := cutS_from cs at_
        have hlet : isL lettersL[j] = true := letters_all _ (List.getElem_mem hj)
        have hW : (cs.take at_ ++ lettersL[j] :: cs.drop at_).length = cs.length + 1 := by
          rw [List.length_append, List.length_cons, List.length_take, List.length_drop]
          omega
        have hWa : ∀ c ∈ cs.take at_ ++ lettersL[j] :: cs.drop at_, isL c = true := by
          intro c hc
          rcases List.mem_append.mp hc with h | h
          · exact hca c (List.mem_of_mem_take h)
          · rcases List.mem_cons.mp h with h | h
            · rw [h]
              exact hlet
            · exact hca c (List.mem_of_mem_drop h)
        generalize hWl : cs.take at_ ++ lettersL[j] :: cs.drop at_ = W at hW hWa
        refine ⟨_, _, rfl, rfl, ?_, _, rfl, _, rfl, (at_ : Int), rfl, _, rfl, size_ok (by rw [len_S]; omega), _, _, rfl, rfl, ?_, ?_⟩
        · rw [e1, len_S, List.length_take]
          exact size_ok (by show min at_ cs.length + 1 ≤ _; omega)
        · rw [e1, e2]
          have z2 : (S (cs.drop at_)).length = cs.length - at_ := by rw [len_S, List.length_drop]
          have z : (S (cs.take at_) ++ (⟨#[lettersL[j]]⟩ : Str)).length = (cs.take at_ ++ [lettersL[j]]).length := by
            rw [show (⟨#[lettersL[j]]⟩ : Str) = S [lettersL[j]] from rfl, S_cat, len_S]
          rw [z, z2, List.length_append, List.length_take, List.length_singleton]
          exact size_ok (by omega)
        refine st_is (σ' := [some (.ref d), some (.int (m : Int)), some (.str (S lettersL)), some (.int (0 + (i : Int))), some (.str (S cs)), some (.int (at_ : Int)), some (.int fr), some (.int sk), some (.str (S tl_)), some (.ref o), some (.str (S W))]) (by
          rw [e1, e2, show (⟨#[lettersL[j]]⟩ : Str) = S [lettersL[j]] from rfl, S_cat, S_cat, List.append_assoc, List.singleton_append, hWl]
          rfl) ?_
        have fin : ∀ x : List Nat, isW x = true → ∃ v3 v10 : Option V, [some (.ref d), some (.int (m : Int)), some (.str (S lettersL)), some (.int (0 + (i : Int))), some (.str (S cs)), some (.int (at_ : Int)), some (.int fr), some (.int sk), some (.str (S tl_)), some (.ref o), some (.str (S W))] = [some (.ref d), some (.int (m : Int)), some (.str (S lettersL)), v3, some (.str (S cs)), some (.int (at_ : Int)), some (.int fr), some (.int sk), some (.str (S tl_)), some (.ref o), v10] ∧
            PenAt (upd H' o (.lst ((ws.map fun x => V.str (S x)) ++ [.str (S x)]))) d c (n + 10) ∧ But d H (upd H' o (.lst ((ws.map fun x => V.str (S x)) ++ [.str (S x)]))) ∧
            ∃ ws' : List (List Nat), (upd H' o (.lst ((ws.map fun x => V.str (S x)) ++ [.str (S x)]))) o = some (.lst (ws'.map fun x => V.str (S x))) ∧ ws'.length = i + 1 ∧ ∀ x ∈ ws', isW x = true := fun x hx => by
          refine ⟨_, _, rfl, p8.put hod hoc, b8.put noH, ws ++ [x], ?_, ?_, ?_⟩
          · rw [upd_same, List.map_append]
            rfl
          · rw [List.length_append, hwl]
            rfl
          · intro y hy
            rcases List.mem_append.mp hy with h | h
            · exact hwa y h
            · rw [List.mem_singleton.mp h]
              exact hx
        -- found.append(..)
        refine ⟨_, rfl, .inl ⟨rfl, _, .inl (.inl hws)⟩, _, rfl, .inl ⟨_, rfl, _, _, rfl, rfl, nz3', rfl, _, rfl, ?_⟩⟩
        refine ite2 (fun _ => ?_) (fun _ => ?_)
        · refine ⟨_, rfl, _, rfl, _, _, rfl, rfl, size_ok (by rw [len_S, len_S]; omega), o, _, _, rfl, rfl, hws, size_lt (by rw [List.length_map]; omega), ?_⟩
          rw [S_cat]
          refine fin (W ++ tl_) (isW_iff.mpr ⟨by rw [List.length_append]; omega, by rw [List.length_append]; omega, fun c hc => ?_⟩)
          rcases List.mem_append.mp hc with h | h
          · exact hWa c h
          · exact hta c h
        · refine ⟨_, rfl, o, _, _, rfl, rfl, hws, size_lt (by rw [List.length_map]; omega), ?_⟩
          exact fin W (isW_iff.mpr ⟨by omega, by omega, hWa⟩)
      · rintro σ H' ⟨v3, v10, rfl, p8, b8, ws, hws, hwl, hwa⟩
        exact ⟨_, rfl, q o ws H' hwl hwa hws noH p8 b8⟩
end
end RL

namespace RL
open PySem L2 SX AddrMath VA PySem.W GR
/-! ## addresses: of a word and a list of words -/
abbrev nPath : Str := "_path"
def aF1 (z : Str) : List (Str × V) := putF nState (.str z) []
def aF2 (z : Str) (t : Addr) : List (Str × V) := putF nPath (.ref t) (aF1 z)
def aF (z : Str) (t k : Addr) : List (Str × V) := putF nKey (.ref k) (aF2 z t)
theorem an_sp : ¬ (nState : Str) = nPath := by decide
theorem an_sk : ¬ (nState : Str) = nKey := by decide
theorem an_pk : ¬ (nPath : Str) = nKey := by decide
theorem aF2_state (z : Str) (t : Addr) : (aF2 z t).lookup nState = some (.str z) := by
  unfold aF2 aF1
  rw [lookup_putF, if_neg an_sp, lookup_putF, if_pos rfl]
theorem aF2_path (z : Str) (t : Addr) : (aF2 z t).lookup nPath = some (.ref t) := by
  unfold aF2
  rw [lookup_putF, if_pos rfl]
theorem aF_state (z : Str) (t k : Addr) : (aF z t k).lookup nState = some (.str z) := by
  unfold aF
  rw [lookup_putF, if_neg an_sk, aF2_state]
theorem aF_path (z : Str) (t k : Addr) : (aF z t k).lookup nPath = some (.ref t) := by
  unfold aF
  rw [lookup_putF, if_neg an_pk, aF2_path]
theorem aF_key (z : Str) (t k : Addr) : (aF z t k).lookup nKey = some (.ref k) := by
  unfold aF
  rw [lookup_putF, if_pos rfl]
theorem aF_no (z : Str) (t k : Addr) {m : Str} (h1 : ¬ m = nState) (h2 : ¬ m = nPath) (h3 : ¬ m = nKey) : (aF z t k).lookup m = none := by
  unfold aF aF2 aF1
  rw [lookup_putF, if_neg h3, lookup_putF, if_neg h2, lookup_putF, if_neg h1]
  rfl
theorem aF1_len (z : Str) : (aF1 z).length < 1000 := by
  show (1 : Nat) < 1000
  decide
theorem aF2_eq (z : Str) (t : Addr) : aF2 z t = ([(nState, V.str z), (nPath, V.ref t)] : List (Str × V)) := by
  show (if (nState : Str) = nPath then [(nState, V.ref t)] else (nState, V.str z) :: putF nPath (V.ref t) []) = _
  rw [if_neg an_sp]
  rfl
theorem aF2_len (z : Str) (t : Addr) : (aF2 z t).length < 1000 := by
  rw [aF2_eq]
  show (2 : Nat) < 1000
  decide
/-- texts as values -/
abbrev tV (ss : List Str) : List V := ss.map V.str
/-- an address stands at a, its path's tuple at t -/
def AddrT (K : PySem.W.Frag) (C : Addr) (H : Hp) (a t : Addr) (z : Str) (ss : List Str) : Prop := ∃ dx k, H a = some (.ins C dx (aF z t k)) ∧ SqT K H t (tV ss) ∧ SqT K H k [.int ss.length, .str z, .ref t]
structure ATxt (K : PySem.W.Frag) (mg : Str → Option Value) (C : Addr) : Prop where
  cl : Cls K C
  nS : NoAttr K C nState
  nP : NoAttr K C nPath
  nK : NoAttr K C nKey
  mgC : mg "Address" = some (.ref C)
theorem AddrT.same {K : PySem.W.Frag} {C : Addr} {H H' : Hp} {a t : Addr} {z : Str} {ss : List Str} (h : AddrT K C H a t z ss) (s : Same H H') : AddrT K C H' a t z ss := by
  obtain ⟨dx, k, h1, h2, h3⟩ := h
  exact ⟨dx, k, s _ _ h1, same_seqT s h2, same_seqT s h3⟩
def wrd (z : Str) : Bool := isW z.cps.toList
section
variable {P : Program} {w : World} {K : PySem.W.Frag} {mg : Str → Option Value} {base : Heap}
theorem str_vx {H : Hp} {z : Str} (h : wrd z = true) : Vx K H (.str z) (.str z) := .inl ⟨.str z, by
  have := ent_ok7 (d := .str z) (by show (isW z.cps.toList || false) = true; rw [show isW z.cps.toList = true from h]; rfl)
  exact ok_mono (by decide) this⟩
/-! ### are_words, of a list: slots value 0, item 1 -/
abbrev sAreWords : Stmt := top 13
def spAreWords (K : PySem.W.Frag) : Sp := fun vs H Q _ => ∃ (a : Addr) (ss : List Str), vs = [.ref a] ∧ SqA K H a (tV ss) ∧ ss.length ≤ 1000 ∧ ss.all wrd = true ∧ ∀ H', Same H H' → Q (.bl true) H'
theorem scAreWords : FnScope ["value", "item"] ["value"] (defScope sAreWords) := ⟨rfl, rfl, rfl, by decide +kernel, rfl, by decide +kernel, by decide +kernel⟩
theorem tv_dp {H : Hp} : ∀ ss : List Str, DpAll K H (tV ss) (ss.map PyData.str)
  | [] => .nil
  | z :: r => .cons (.str z) (tv_dp r)
theorem ok_arewords {f : Addr} {fd : FuncData} (F : Fun K "are_words" "are_words" sAreWords f fd) (B : Blt mg) (is_word : Own P w K mg base CX0 1 "is_word" ["value"] (spIsWord K)) :
    FnOk P w K mg base CX0 2 f fd ["value"] (spAreWords K) := by
  refine F.ok scAreWords (fun vs H Q E h => ?_) (fun cdv A outer s H vs Q E hr h => ?_)
  · obtain ⟨a, ss, rfl, _⟩ := h
    rfl
  · obtain ⟨a, ss, rfl, ha, few, hw, q⟩ := h
    refine ⟨_, (pss_one (ps_ret (pe_and (pe_callB call_isiT (by rfl) B.isinstance_ (by decide +kernel) (pa_cons (pv 0) (pa_cons (pe_tup (pa_cons (pe_bltn (v := .ty "list") (by rfl) B.list_ (by decide +kernel) rfl) (pa_cons (pe_bltn (v := .ty "tuple") (by rfl) B.tuple_ (by decide +kernel) rfl) pa_nil))) pa_nil))) (pe_one (pe_callB (cr_all rfl) (by rfl) B.all_ (by decide +kernel) (pa_cons (pe_lc (own := [("item", 1)]) (g := gName 1) (tt := tYes) rfl scAreWords.nd (pi_seq (pv 0))
          (blkOk_by (own := [("item", 1)]) (N := ["value", "item"]) (sc := defScope sAreWords) (by decide +kernel))
          (fun _ _ _ _ _ => (pg_name (i := 1) scAreWords.nd rfl (Or.inl rfl))) (fun _ _ _ _ _ => pts_nil)
          (fun _ _ _ _ _ => (pe_call is_word.g (hr.mono (by decide)) rfl is_word.mg is_word.kp is_word.b .nil pass0 (pa_cons (pv 1) pa_nil)))) pa_nil)))))), ?_⟩
    refine ⟨_, rfl, by show 2 ≤ sizeLine; decide, fun t nt => ?_⟩
    have s1 : Same H (upd H t (.tup [.ty "list", .ty "tuple"])) := same_new nt
    have ty : ∃ (T : String), TyX K (upd H t (.tup [.ty "list", .ty "tuple"])) (.ref a) (.type T) ∧ PySem.W.kitAny K (.type T) [.type "list", .type "tuple"] = some true := by
      rcases ha with h | h
      · exact ⟨"list", sql_ty (s1.seq h), kitSeq (.list [])⟩
      · exact ⟨"tuple", sqt_ty (same_seqT s1 h), kitSeq (.tuple [])⟩
    obtain ⟨T, t1, t2⟩ := ty
    refine ⟨_, t, _, _, [.type "list", .type "tuple"], true, rfl, upd_same, .cons (.ty "list") (.cons (.ty "tuple") .nil), t1, t2, _, rfl, ?_⟩
    generalize upd H t (.tup [.ty "list", .ty "tuple"]) = H1 at s1 ⊢
    refine iteT ⟨_, rfl, ?_⟩
    refine seq_map (ha.same s1) (by rw [List.length_map]; exact few) (fun _ => true) (fun x => .bl true) ?hw (fun x hm H2 s2 => ⟨fun R hR => no_test hR, fun _ H3 s3 R hR => ?_⟩) fun D H2 nD hD s2 => ?_
    case hw => intro _; rfl
    · obtain ⟨z, hz, rfl⟩ := List.mem_map.mp hm
      have hz' : isWordD (.str z) = true := List.all_eq_true.mp hw z hz
      have q3 := hR H3 (Same.refl H3)
      refine ⟨_, rfl, .str z, .str z, rfl, str_vx (List.all_eq_true.mp hw z hz), ?_⟩
      rw [hz']
      exact q3
    · refine ⟨D, (((tV ss).filter fun _ => true).map fun _ => true), rfl, .inl (.inl ?_), ?_⟩
      · rw [hD, List.map_map]
        rfl
      · have : (((tV ss).filter fun _ => true).map fun _ => true).all id = true := by simp
        rw [this]
        exact q _ (s1.trans s2)
/-! ### Address.__init__, of a word and a list of words: slots self 0, state 1, path 2 -/
abbrev sAInit : Stmt := inClass (top 24) 0
abbrev sAState : Stmt := inClass (top 24) 1
abbrev sAPath : Stmt := inClass (top 24) 2
abbrev sAEq : Stmt := inClass (top 24) 8
def spAInit (K : PySem.W.Frag) (C : Addr) : Sp := fun vs H Q _ => ∃ (p dx a : Addr) (z : Str) (ss : List Str), vs = [.ref p, .str z, .ref a] ∧ H p = some (.ins C dx []) ∧ wrd z = true ∧ SqA K H a (tV ss) ∧ ss.length ≤ 1000 ∧ ss.all wrd = true ∧
  ∀ (H' : Hp) (t : Addr), AddrT K C H' p t z ss → (∀ b o, H b = some o → b ≠ p → H' b = some o) → Q .non H'
theorem scAInit : FnScope ["self", "state", "path"] ["self", "state", "path"] (defScope sAInit) := ⟨rfl, rfl, rfl, by decide +kernel, rfl, by decide +kernel, by decide +kernel⟩
/-- a def with defaults, from which nothing gets out -/
theorem def_calm {x qual : Str} {params : Arguments} {body : List Stmt} {scope : Scope} {dvs : List V} {kws : List (Str × V)} {f : Addr} {fd : FuncData}
    {N ps : List Str} {k : Nat} {sp : Sp} (F : FunD K x qual params body scope dvs kws f fd) (S : FnScope N ps scope) (len : ∀ vs H Q E, sp vs H Q E → vs.length = ps.length)
    (go : ∀ (cdv : Value) (A : Around) (outer : List Env) (s : Shared) (H : Hp) (vs : List V) (Q : VK) (E : XK), Room k (A.deeper (PyProof.Rows.envOfC qual scope s.heap.objs.size f cdv)) → sp vs H Q E →
      ∃ t, PSs (cxOf CX0 P w K mg base N qual scope f cdv A outer s H E).nox body t ∧ t { nx := fun _ H' => Q .non H', rt := Q } (L2.start N vs) H) : FnOk P w K mg base CX0 (k + 1) f fd ps sp :=
  F.ok S len fun cdv A outer s H vs Q E hr h =>
    let ⟨t, a, b⟩ := go cdv A outer s H vs Q E hr h
    ⟨t, a.nox, b⟩
theorem ok_ainit {f C : Addr} {fd : FuncData} {dvs : List V} {kws : List (Str × V)} (F : FunD K "__init__" "Address.__init__" (defArgs sAInit) (defBody sAInit) (defScope sAInit) dvs kws f fd) (T : ATxt K mg C) (B : Blt mg)
    (is_word : Own P w K mg base CX0 1 "is_word" ["value"] (spIsWord K)) (are_words : Own P w K mg base CX0 2 "are_words" ["value"] (spAreWords K)) : FnOk P w K mg base CX0 3 f fd ["self", "state", "path"] (spAInit K C) := by
  refine def_calm F scAInit (fun vs H Q E h => ?_) (fun cdv A outer s0 H vs Q E hr h => ?_)
  · obtain ⟨p, dx, a, z, ss, rfl, _⟩ := h
    rfl
  · obtain ⟨p, dx, a, z, ss, rfl, hp, hz, ha, few, hw, q⟩ := h
    refine ⟨_, pss_cons (ps_if (pt_not (pt_val (pe_call is_word.g (hr.mono (by decide)) rfl is_word.mg is_word.kp is_word.b .nil pass0 (pa_cons (pv 1) pa_nil)))) (pss_one ps_never) pss_nil)
      (pss_cons (ps_if (pt_not (pt_val (pe_call are_words.g hr rfl are_words.mg are_words.kp are_words.b .nil pass0 (pa_cons (pv 2) pa_nil)))) (pss_one ps_never) pss_nil)
      (pss_cons (ps_fld (pv 0) (pv 1) rfl)
      (pss_cons (ps_fld (pv 0) (pe_callTy call_tupA (by rfl) B.tuple_ (by decide +kernel) (pa_cons (pv 2) pa_nil)) rfl)
      (pss_one (ps_fld (pv 0) (pe_tup (pa_cons (pe_callB call_len (by rfl) B.len_ (by decide +kernel) (pa_cons (pe_fld (pv 0) rfl) pa_nil)) (pa_cons (pe_fld (pv 0) rfl) (pa_cons (pe_fld (pv 0) rfl) pa_nil)))) rfl))))), ?_⟩
    have hz' : isWordD (.str z) = true := hz
    refine ⟨_, rfl, .str z, .str z, rfl, str_vx hz, _, rfl, ?_⟩
    rw [hz']
    refine iteF ⟨_, rfl, a, ss, rfl, ha, few, hw, fun H1 s1 => ⟨_, rfl, iteF ?_⟩⟩
    have hp1 := s1 _ _ hp
    refine ⟨_, rfl, _, rfl, p, C, dx, _, rfl, hp1, T.cl, T.nS, (by show 0 < 1000; decide), ?_⟩
    have kp : Kp H1 (upd H1 p (.ins C dx (putF nState (.str z) []))) := kp_put hp1 rfl
    have hpu : (upd H1 p (.ins C dx (putF nState (.str z) []))) p = some (.ins C dx (aF1 z)) := upd_same
    have o1 : ∀ b o, H1 b = some o → b ≠ p → (upd H1 p (.ins C dx (putF nState (.str z) []))) b = some o := fun b o e n => by rw [upd_ne n]; exact e
    generalize upd H1 p (.ins C dx (putF nState (.str z) [])) = H2 at kp hpu o1 ⊢
    refine ⟨_, rfl, a, _, rfl, kp.sqA (ha.same s1), fun t H3 ht s3 => ?_⟩
    have ht' : SqT K H3 t (tV ss) := ht
    have hp3 := s3 _ _ hpu
    refine ⟨_, rfl, p, C, dx, _, rfl, hp3, T.cl, T.nP, aF1_len _, ?_⟩
    have k4 : Kp H3 (upd H3 p (.ins C dx (putF nPath (.ref t) (aF1 z)))) := kp_put hp3 rfl
    have hp4 : (upd H3 p (.ins C dx (putF nPath (.ref t) (aF1 z)))) p = some (.ins C dx (aF2 z t)) := upd_same
    have o4 : ∀ b o, H3 b = some o → b ≠ p → (upd H3 p (.ins C dx (putF nPath (.ref t) (aF1 z)))) b = some o := fun b o e n => by rw [upd_ne n]; exact e
    have ht4 := k4.sqT ht'
    generalize upd H3 p (.ins C dx (putF nPath (.ref t) (aF1 z))) = H4 at k4 hp4 o4 ht4 ⊢
    refine ⟨_, rfl, p, C, dx, _, _, rfl, hp4, T.cl, T.nP, aF2_path _ _, _, _, rfl, .inr ⟨_, ht4, rfl⟩, _, rfl, p, C, dx, _, _, rfl, hp4, T.cl, T.nS, aF2_state _ _, _, rfl, p, C, dx, _, _, rfl, hp4, T.cl, T.nP, aF2_path _ _, by show 3 ≤ sizeLine; decide, fun k nk => ?_⟩
    have s5 := same_new (o := .tup [.int ((tV ss).length : Int), .str z, .ref t]) nk
    have hk5 : (upd H4 k (.tup [.int ((tV ss).length : Int), .str z, .ref t])) k = some (.tup [.int (ss.length : Int), .str z, .ref t]) := by
      rw [upd_same, List.length_map]
    have hp5 := s5 _ _ hp4
    have ht5 := same_seqT s5 ht4
    generalize upd H4 k (.tup [.int ((tV ss).length : Int), .str z, .ref t]) = H5 at s5 hk5 hp5 ht5 ⊢
    refine ⟨_, rfl, p, C, dx, aF2 z t, rfl, hp5, T.cl, T.nK, aF2_len _ _, ?_⟩
    have k6 : Kp H5 (upd H5 p (.ins C dx (putF nKey (.ref k) (aF2 z t)))) := kp_put hp5 rfl
    refine q _ t ⟨dx, k, upd_same, k6.sqT ht5, k6.sqT (.inl (.inl hk5))⟩ fun b o e hb => ?_
    rw [upd_ne hb]
    exact s5 _ _ (o4 _ _ (s3 _ _ (o1 _ _ (s1 _ _ e) hb)) hb)
/-! ### the getters and == -/
def spAState (K : PySem.W.Frag) (C : Addr) : Sp := fun vs H Q _ => ∃ (a t : Addr) (z : Str) (ss : List Str), vs = [.ref a] ∧ AddrT K C H a t z ss ∧ Q (.str z) H
def spAPath (K : PySem.W.Frag) (C : Addr) : Sp := fun vs H Q _ => ∃ (a t : Addr) (z : Str) (ss : List Str), vs = [.ref a] ∧ AddrT K C H a t z ss ∧ Q (.ref t) H
theorem scAState : FnScope ["self"] ["self"] (defScope sAState) := ⟨rfl, rfl, rfl, by decide +kernel, rfl, by decide +kernel, by decide +kernel⟩
theorem scAPath : FnScope ["self"] ["self"] (defScope sAPath) := ⟨rfl, rfl, rfl, by decide +kernel, rfl, by decide +kernel, by decide +kernel⟩
theorem ok_astate {f C : Addr} {fd : FuncData} (F : Fun K "state" "Address.state" sAState f fd) (T : ATxt K mg C) : FnOk P w K mg base CX0 1 f fd ["self"] (spAState K C) := by
  refine F.ok scAState (fun vs H Q E h => ?_) (fun cdv A outer s0 H vs Q E hr h => ?_)
  · obtain ⟨a, t, z, ss, rfl, _⟩ := h
    rfl
  · obtain ⟨a, t, z, ss, rfl, ⟨dx, k, h1, h2, h3⟩, q⟩ := h
    exact ⟨_, pss_one (ps_ret (pe_fld (pv 0) rfl)), _, rfl, a, C, dx, _, _, rfl, h1, T.cl, T.nS, aF_state _ _ _, q⟩
theorem ok_apath {f C : Addr} {fd : FuncData} (F : Fun K "path" "Address.path" sAPath f fd) (T : ATxt K mg C) : FnOk P w K mg base CX0 1 f fd ["self"] (spAPath K C) := by
  refine F.ok scAPath (fun vs H Q E h => ?_) (fun cdv A outer s0 H vs Q E hr h => ?_)
  · obtain ⟨a, t, z, ss, rfl, _⟩ := h
    rfl
  · obtain ⟨a, t, z, ss, rfl, ⟨dx, k, h1, h2, h3⟩, q⟩ := h
    exact ⟨_, pss_one (ps_ret (pe_fld (pv 0) rfl)), _, rfl, a, C, dx, _, _, rfl, h1, T.cl, T.nP, aF_path _ _ _, q⟩
abbrev AK := T3 Int Str (Tup Str)
def akOf (z : Str) (ss : List Str) : AK := ⟨(ss.length : Int), z, ⟨ss⟩⟩
theorem tv_dat {H : Hp} : ∀ ss : List Str, DpAll K H (tV ss) (ss.map Datum.toD)
  | [] => .nil
  | x :: r => .cons (.str x) (tv_dat r)
theorem ak_dp {H : Hp} {k t : Addr} {z : Str} {ss : List Str} (hk : SqT K H k [.int (ss.length : Int), .str z, .ref t]) (ht : SqT K H t (tV ss)) : Dp K H (.ref k) (Datum.toD (akOf z ss)) :=
  .tup hk (.cons (.int _) (.cons (.str _) (.cons (.tup ht (tv_dat ss)) .nil)))
/-- what isinstance asks of the class at C -/
structure AOwn (K : PySem.W.Frag) (C : Addr) : Prop where
  ic : PySem.W.isClsIn K C = true
  pg : PySem.W.plainGet K C "__class__" = true
  ca : PySem.W.findIn K (.ref C) "__class__" = some (some (.builtin "object.__class__"))
  cn : PySem.W.specialIn K (.builtin "object.__class__") "__get__" = some (some (.builtin "getset_descriptor.__get__"))
  ct : PySem.W.takesIn K (.builtin "object.__class__") = some true
  cm : PySem.W.mroIn K C (.type "object") = some true
  me : PySem.W.kitOne K (.ref C) (.ref C) = some true
def rIsI (C : Addr) : List V → Hp → VK → Prop := fun xs H Q => ∃ (a dx : Addr) (fs : List (Str × V)), xs = [.ref a, .ref C] ∧ H a = some (.ins C dx fs) ∧ Q (.bl true) H
theorem call_isI {X : Cx} {C : Addr} (W : AOwn X.K C) : CallR X (.builtin "isinstance") (rIsI C) := by
  intro pins s σ H xs us Q I r ⟨a, dx, fs, ex, ha, q⟩
  subst ex
  obtain ⟨u1, u2, rfl, r1, r2⟩ := r.two
  cases (show u1 = Value.ref a from r1)
  cases (show u2 = Value.ref C from r2)
  obtain ⟨_, J, _⟩ := ins_get I.hok ha
  obtain ⟨od, J, _⟩ := J.look
  exact kia_one (OwX.kitx_slt W.ic W.pg W.ca W.cn W.ct W.cm) I.kIn J W.me (fun z => nomatch z) fun tk => ⟨.bl true, H, I.tok _, rfl, q⟩
def spAEq (K : PySem.W.Frag) (C : Addr) : Sp := fun vs H Q _ => ∃ (a b t u : Addr) (z y : Str) (ss rs : List Str), vs = [.ref a, .ref b] ∧ AddrT K C H a t z ss ∧ AddrT K C H b u y rs ∧ Q (.bl (decide (akOf z ss = akOf y rs))) H
theorem scAEq : FnScope ["self", "other"] ["self", "other"] (defScope sAEq) := ⟨rfl, rfl, rfl, by decide +kernel, rfl, by decide +kernel, by decide +kernel⟩
theorem ok_aeq {f C : Addr} {fd : FuncData} (F : Fun K "__eq__" "Address.__eq__" sAEq f fd) (T : ATxt K mg C) (W : AOwn K C) (B : Blt mg) : FnOk P w K mg base CX0 1 f fd ["self", "other"] (spAEq K C) := by
  refine F.ok scAEq (fun vs H Q E h => ?_) (fun cdv A outer s0 H vs Q E hr h => ?_)
  · obtain ⟨a, b, t, u, z, y, ss, rs, rfl, _⟩ := h
    rfl
  · obtain ⟨a, b, t, u, z, y, ss, rs, rfl, ⟨dx, k, h1, h2, h3⟩, ⟨dy, l, g1, g2, g3⟩, q⟩ := h
    refine ⟨_, pss_cons (ps_if (pt_not (pt_val (pe_callB (call_isI W) (by rfl) B.isinstance_ (by decide +kernel) (pa_cons (pv 1) (pa_cons (pe_glob (v := .ref C) (by rfl) T.mgC rfl) pa_nil))))) (pss_one ps_never) pss_nil)
      (pss_one (ps_ret (pe_cmpR (opd_eq (α := AK) (room_all (k := 64) (by decide) hr.units)) (pe_fld (pv 0) rfl) (pe_fld (pv 1) rfl) (nomark _)))), ?_⟩
    refine ⟨_, rfl, b, dy, _, rfl, g1, _, rfl, iteF ?_⟩
    exact ⟨_, rfl, a, C, dx, _, _, rfl, h1, T.cl, T.nK, aF_key _ _ _, _, rfl, b, C, dy, _, _, rfl, g1, T.cl, T.nK, aF_key _ _ _, _, _, ak_dp h3 h2, ak_dp g3 g2, q⟩
end
end RL

namespace RL
open PySem L2 SX AddrMath VA
/-! ## a rule over an address -/
abbrev Bnd := Int → Option Str
/-- the holes, filled entry by entry -/
def mat : List PyData → List Str → Bnd → Option Bnd
  | [], _, f => some f
  | .int i :: es, z :: ss, f => match f i with
    | some y => if y = z then mat es ss f else none
    | none => mat es ss (fun j => if j = i then some z else f j)
  | .str y :: es, z :: ss, f => if y = z then mat es ss f else none
  | _, _, _ => none
def noBnd : Bnd := fun _ => none
def fitD (es : List PyData) (x : Bool) (ss : List Str) : Option Bnd :=
  if ss.length < es.length then none else if x = true ∧ ss.length ≠ es.length then none else mat es ss noBnd
def fillD (f : Bnd) : PyData → Str
  | .int i => (f i).getD Str.empty
  | .str z => z
  | _ => Str.empty
/-- the dict at d holds f -/
def HolesAt (H : Hp) (d : Addr) (f : Bnd) (n : Nat) : Prop := ∃ kvs : List (Key × V), H d = some (.dK kvs) ∧ (∀ i : Int, valV kvs (.inl i) = (f i).map V.str) ∧ kvs.length ≤ n
theorem HolesAt.same {H H' : Hp} {d : Addr} {f : Bnd} {n : Nat} (h : HolesAt H d f n) (s : Same H H') : HolesAt H' d f n := by
  obtain ⟨kvs, h1, h2, h3⟩ := h
  exact ⟨kvs, s _ _ h1, h2, h3⟩
theorem HolesAt.mono {H : Hp} {d : Addr} {f : Bnd} {n m : Nat} (h : HolesAt H d f n) (e : n ≤ m) : HolesAt H d f m := by
  obtain ⟨kvs, h1, h2, h3⟩ := h
  exact ⟨kvs, h1, h2, by omega⟩
theorem holes_nil (H : Hp) (d : Addr) : HolesAt (upd H d (.dK [])) d noBnd 0 := ⟨[], upd_same, fun _ => rfl, Nat.le_refl 0⟩
theorem putK_len (kvs : List (Key × V)) (k : Key) (v : V) : (putK kvs k v).length ≤ kvs.length + 1 := by
  unfold putK
  split
  · rw [List.length_map]
    omega
  · rw [List.length_append]
    exact Nat.le_refl _
theorem holes_put {H : Hp} {d : Addr} {f : Bnd} {n : Nat} {kvs : List (Key × V)} (h2 : ∀ i : Int, valV kvs (.inl i) = (f i).map V.str) (h3 : kvs.length ≤ n) (i : Int) (z : Str) :
    HolesAt (upd H d (.dK (putK kvs (.inl i) (.str z)))) d (fun j => if j = i then some z else f j) (n + 1) := by
  refine ⟨_, upd_same, fun j => ?_, ?_⟩
  · rw [valV_put]
    by_cases e : j = i
    · rw [if_pos (by rw [e])]
      show _ = Option.map V.str (if j = i then some z else f j)
      rw [if_pos e]
      rfl
    · rw [if_neg (fun z => e (by injection z))]
      show _ = Option.map V.str (if j = i then some z else f j)
      rw [if_neg e]
      exact h2 j
  · have := putK_len kvs (.inl i) (.str z)
    omega
theorem bnd_put {f : Bnd} {i : Int} {z : Str} (h : f i = some z) : (fun j => if j = i then some z else f j) = f := by
  funext j
  by_cases e : j = i
  · rw [if_pos e, e, h]
  · rw [if_neg e]
theorem mat_int {i : Int} {es : List PyData} {z : Str} {ss : List Str} {f : Bnd} : mat (.int i :: es) (z :: ss) f = match f i with
    | some y => if y = z then mat es ss f else none
    | none => mat es ss (fun j => if j = i then some z else f j) := by rw [mat]
theorem mat_str {y : Str} {es : List PyData} {z : Str} {ss : List Str} {f : Bnd} : mat (.str y :: es) (z :: ss) f = if y = z then mat es ss f else none := by rw [mat]
theorem mat_nil {ss : List Str} {f : Bnd} : mat [] ss f = some f := by rw [mat]
theorem ent_cases {e : PyData} (h : isEntD e = true) : (∃ i, e = .int i) ∨ ∃ z, e = .str z ∧ wrd z = true := by
  cases e with
  | int i => exact .inl ⟨i, rfl⟩
  | str z =>
    have h' : (isW z.cps.toList || false) = true := h
    rw [Bool.or_false] at h'
    exact .inr ⟨z, rfl, h'⟩
  | _ => cases h
/-- what is bound stays -/
theorem mat_keeps : ∀ {es : List PyData} {ss : List Str} {f g : Bnd}, mat es ss f = some g → ∀ i z, f i = some z → g i = some z
  | [], ss, f, g, h, i, z, e => by
    rw [mat_nil] at h
    cases h
    exact e
  | .int k :: es, y :: ss, f, g, h, i, z, e => by
    rw [mat_int] at h
    cases c : f k with
    | some u =>
      rw [c] at h
      by_cases q : u = y
      · have h' : (if u = y then mat es ss f else none) = some g := h
        rw [if_pos q] at h'
        exact mat_keeps h' i z e
      · have h' : (if u = y then mat es ss f else none) = some g := h
        rw [if_neg q] at h'
        cases h'
    | none =>
      rw [c] at h
      refine mat_keeps (f := fun j => if j = k then some y else f j) h i z ?_
      by_cases q : i = k
      · rw [q, c] at e
        cases e
      · show (if i = k then some y else f i) = some z
        rw [if_neg q]
        exact e
  | .str u :: es, y :: ss, f, g, h, i, z, e => by
    rw [mat_str] at h
    by_cases q : u = y
    · rw [if_pos q] at h
      exact mat_keeps h i z e
    · rw [if_neg q] at h
      cases h
  | .int _ :: _, [], f, g, h, i, z, e => by simp [mat] at h
  | .str _ :: _, [], f, g, h, i, z, e => by simp [mat] at h
  | .none :: _, _, f, g, h, i, z, e => by simp [mat] at h
  | .bool _ :: _, _, f, g, h, i, z, e => by simp [mat] at h
  | .list _ :: _, _, f, g, h, i, z, e => by simp [mat] at h
  | .tuple _ :: _, _, f, g, h, i, z, e => by simp [mat] at h
  | .dict _ :: _, _, f, g, h, i, z, e => by simp [mat] at h
theorem mat_bound : ∀ {es : List PyData} {ss : List Str} {f g : Bnd}, mat es ss f = some g → ∀ i, PyData.int i ∈ es → ∃ z, g i = some z
  | [], _, _, _, _, _, m => absurd m List.not_mem_nil
  | .int k :: es, y :: ss, f, g, h, i, m => by
    rw [mat_int] at h
    cases c : f k with
    | some u =>
      rw [c] at h
      have h' : (if u = y then mat es ss f else none) = some g := h
      by_cases q : u = y
      · rw [if_pos q] at h'
        rcases List.mem_cons.mp m with e | m
        · cases e
          exact ⟨_, mat_keeps h' _ _ c⟩
        · exact mat_bound h' i m
      · rw [if_neg q] at h'
        cases h'
    | none =>
      rw [c] at h
      have h' : mat es ss (fun j => if j = k then some y else f j) = some g := h
      rcases List.mem_cons.mp m with e | m
      · cases e
        exact ⟨y, mat_keeps h' _ y (if_pos rfl)⟩
      · exact mat_bound h' i m
  | .str u :: es, y :: ss, f, g, h, i, m => by
    rw [mat_str] at h
    by_cases q : u = y
    · rw [if_pos q] at h
      rcases List.mem_cons.mp m with e | m
      · cases e
      · exact mat_bound h i m
    · rw [if_neg q] at h
      cases h
  | .int _ :: _, [], f, g, h, i, _ => by simp [mat] at h
  | .str _ :: _, [], f, g, h, i, _ => by simp [mat] at h
  | .none :: _, _, f, g, h, i, _ => by simp [mat] at h
  | .bool _ :: _, _, f, g, h, i, _ => by simp [mat] at h
  | .list _ :: _, _, f, g, h, i, _ => by simp [mat] at h
  | .tuple _ :: _, _, f, g, h, i, _ => by simp [mat] at h
  | .dict _ :: _, _, f, g, h, i, _ => by simp [mat] at h
theorem mat_words : ∀ {es : List PyData} {ss : List Str} {f g : Bnd}, ss.all wrd = true → (∀ i z, f i = some z → wrd z = true) → mat es ss f = some g → ∀ i z, g i = some z → wrd z = true
  | [], _, f, g, _, hf, h, i, z, e => by
    rw [mat_nil] at h
    cases h
    exact hf i z e
  | .int k :: es, y :: ss, f, g, hs, hf, h, i, z, e => by
    rw [List.all_cons, Bool.and_eq_true] at hs
    rw [mat_int] at h
    cases c : f k with
    | some u =>
      rw [c] at h
      have h' : (if u = y then mat es ss f else none) = some g := h
      by_cases q : u = y
      · rw [if_pos q] at h'
        exact mat_words hs.2 hf h' i z e
      · rw [if_neg q] at h'
        cases h'
    | none =>
      rw [c] at h
      have h' : mat es ss (fun j => if j = k then some y else f j) = some g := h
      refine mat_words hs.2 (fun j x hj => ?_) h' i z e
      by_cases q : j = k
      · have hj' : (if j = k then some y else f j) = some x := hj
        rw [if_pos q] at hj'
        cases hj'
        exact hs.1
      · have hj' : (if j = k then some y else f j) = some x := hj
        rw [if_neg q] at hj'
        exact hf j x hj'
  | .str u :: es, y :: ss, f, g, hs, hf, h, i, z, e => by
    rw [List.all_cons, Bool.and_eq_true] at hs
    rw [mat_str] at h
    by_cases q : u = y
    · rw [if_pos q] at h
      exact mat_words hs.2 hf h i z e
    · rw [if_neg q] at h
      cases h
  | .int _ :: _, [], f, g, _, _, h, i, z, e => by simp [mat] at h
  | .str _ :: _, [], f, g, _, _, h, i, z, e => by simp [mat] at h
  | .none :: _, _, f, g, _, _, h, i, z, e => by simp [mat] at h
  | .bool _ :: _, _, f, g, _, _, h, i, z, e => by simp [mat] at h
  | .list _ :: _, _, f, g, _, _, h, i, z, e => by simp [mat] at h
  | .tuple _ :: _, _, f, g, _, _, h, i, z, e => by simp [mat] at h
  | .dict _ :: _, _, f, g, _, _, h, i, z, e => by simp [mat] at h
theorem take_drop_cons {α : Type} {xs : List α} {i : Nat} {x : α} (h : xs[i]? = some x) : xs.drop i = x :: xs.drop (i + 1) := by
  obtain ⟨hi, e⟩ := List.getElem?_eq_some_iff.mp h
  rw [List.drop_eq_getElem_cons hi, e]
section
variable {K : PySem.W.Frag}
/-- a walk over two tuples -/
theorem walk_two {a b : Addr} {xs ys : List V} {n : Nat} (hn : n = min xs.length ys.length) : Walk (RZ.ItzT K a b) n (fun H => SqT K H a xs ∧ SqT K H b ys) (YPair (fun i => xs[i]?) (fun i => ys[i]?)) where
  goes i H hi g := by
    have h1 : i < xs.length := by omega
    have h2 : i < ys.length := by omega
    exact ⟨xs, ys, xs[i], ys[i], g.1, g.2, List.getElem?_eq_getElem h1, List.getElem?_eq_getElem h2⟩
  stops H g := ⟨xs, ys, g.1, g.2, by omega⟩
  yields i H x H' hi g y := by
    obtain ⟨T, u, v, e1, e2, e3, e4, e5⟩ := y
    exact ⟨T, u, v, e1, e2, e3, e4 xs g.1, e5 ys g.2⟩
variable {P : Program} {w : World} {mg : Str → Option Value} {base : Heap}
/-! ### getters of a rule -/
def spGet (C : Addr) (n : Str) : Sp := fun vs H Q _ => ∃ (p dx : Addr) (fs : List (Str × V)) (v : V), vs = [.ref p] ∧ H p = some (.ins C dx fs) ∧ fs.lookup n = some v ∧ Q v H
abbrev sRState : Stmt := inClass (top 43) 1
abbrev sRPattern : Stmt := inClass (top 43) 2
abbrev sRGoal : Stmt := inClass (top 43) 3
abbrev sRExact : Stmt := inClass (top 43) 4
abbrev sRFits : Stmt := inClass (top 43) 6
abbrev sRCall : Stmt := inClass (top 43) 7
abbrev sMatched : Stmt := top 34
abbrev sSent : Stmt := top 35
abbrev sFitsAddress : Stmt := top 36
abbrev sSentAddress : Stmt := top 37
theorem scRState : FnScope ["self"] ["self"] (defScope sRState) := ⟨rfl, rfl, rfl, by decide +kernel, rfl, by decide +kernel, by decide +kernel⟩
theorem scRPattern : FnScope ["self"] ["self"] (defScope sRPattern) := ⟨rfl, rfl, rfl, by decide +kernel, rfl, by decide +kernel, by decide +kernel⟩
theorem scRGoal : FnScope ["self"] ["self"] (defScope sRGoal) := ⟨rfl, rfl, rfl, by decide +kernel, rfl, by decide +kernel, by decide +kernel⟩
theorem scRExact : FnScope ["self"] ["self"] (defScope sRExact) := ⟨rfl, rfl, rfl, by decide +kernel, rfl, by decide +kernel, by decide +kernel⟩
theorem ok_rstate {f C : Addr} {fd : FuncData} (F : Fun K "state" "Rule.state" sRState f fd) (T : RTxt K mg C) : FnOk P w K mg base CX0 1 f fd ["self"] (spGet C nState) := by
  refine F.ok scRState (fun vs H Q E h => ?_) (fun cdv A outer s0 H vs Q E hr h => ?_)
  · obtain ⟨p, dx, fs, v, rfl, _⟩ := h
    rfl
  · obtain ⟨p, dx, fs, v, rfl, hp, l, q⟩ := h
    exact ⟨_, pss_one (ps_ret (pe_fld (pv 0) rfl)), _, rfl, p, C, dx, fs, v, rfl, hp, T.cl, T.nS, l, q⟩
theorem ok_rpattern {f C : Addr} {fd : FuncData} (F : Fun K "pattern" "Rule.pattern" sRPattern f fd) (T : RTxt K mg C) : FnOk P w K mg base CX0 1 f fd ["self"] (spGet C nPattern) := by
  refine F.ok scRPattern (fun vs H Q E h => ?_) (fun cdv A outer s0 H vs Q E hr h => ?_)
  · obtain ⟨p, dx, fs, v, rfl, _⟩ := h
    rfl
  · obtain ⟨p, dx, fs, v, rfl, hp, l, q⟩ := h
    exact ⟨_, pss_one (ps_ret (pe_fld (pv 0) rfl)), _, rfl, p, C, dx, fs, v, rfl, hp, T.cl, T.nP, l, q⟩
theorem ok_rgoal {f C : Addr} {fd : FuncData} (F : Fun K "goal" "Rule.goal" sRGoal f fd) (T : RTxt K mg C) : FnOk P w K mg base CX0 1 f fd ["self"] (spGet C nGoal) := by
  refine F.ok scRGoal (fun vs H Q E h => ?_) (fun cdv A outer s0 H vs Q E hr h => ?_)
  · obtain ⟨p, dx, fs, v, rfl, _⟩ := h
    rfl
  · obtain ⟨p, dx, fs, v, rfl, hp, l, q⟩ := h
    exact ⟨_, pss_one (ps_ret (pe_fld (pv 0) rfl)), _, rfl, p, C, dx, fs, v, rfl, hp, T.cl, T.nG, l, q⟩
theorem ok_rexact {f C : Addr} {fd : FuncData} (F : Fun K "is_exact" "Rule.is_exact" sRExact f fd) (T : RTxt K mg C) : FnOk P w K mg base CX0 1 f fd ["self"] (spGet C nExact) := by
  refine F.ok scRExact (fun vs H Q E h => ?_) (fun cdv A outer s0 H vs Q E hr h => ?_)
  · obtain ⟨p, dx, fs, v, rfl, _⟩ := h
    rfl
  · obtain ⟨p, dx, fs, v, rfl, hp, l, q⟩ := h
    exact ⟨_, pss_one (ps_ret (pe_fld (pv 0) rfl)), _, rfl, p, C, dx, fs, v, rfl, hp, T.cl, T.nE, l, q⟩
/-- a getter of the class at C -/
structure OwnP (P : Program) (w : World) (K : PySem.W.Frag) (mg : Str → Option Value) (base : Heap) (C : Addr) (n : Str) (sp : Sp) where
  p : Addr
  g : Addr
  fd : FuncData
  prop : PropOf K C n p g
  ok : FnOk P w K mg base CX0 1 g fd ["self"] sp
  b : Binds K fd ["self"] []
/-! ### matched: slots pattern 0, is_exact 1, signs 2, is_end 3, holes 4, entry 5, sign 6, wanted 7 -/
theorem scMatched : FnScope ["pattern", "is_exact", "signs", "is_end", "holes", "entry", "sign", "wanted"] ["pattern", "is_exact", "signs", "is_end"] (defScope sMatched) := ⟨rfl, rfl, rfl, by decide +kernel, rfl, by decide +kernel, by decide +kernel⟩
def spMatched (K : PySem.W.Frag) : Sp := fun vs H Q _ => ∃ (tP t : Addr) (es : List PyData) (x : Bool) (ss : List Str), vs = [.ref tP, .bl x, .ref t, .bl true] ∧ SqT K H tP (es.map entV) ∧ es.all isEntD = true ∧ es.length ≤ 2 ∧ SqT K H t (tV ss) ∧
  (fitD es x ss = none → ∀ H', Same H H' → Q .non H') ∧ (∀ f, fitD es x ss = some f → ∀ d H', Same H H' → H d = none → HolesAt H' d f 5 → Q (.ref d) H')
/-- is_exact and not (is_end and len(signs) == len(pattern)) -/
def tOff (K : PySem.W.Frag) : TT := fun σ H R => ∃ (x : Bool) (t tP : Addr) (xs ys : List V), σ[1]? = some (some (.bl x)) ∧ σ[2]? = some (some (.ref t)) ∧ σ[3]? = some (some (.bl true)) ∧ σ[0]? = some (some (.ref tP)) ∧
  SqT K H t xs ∧ SqT K H tP ys ∧ R (x && decide (xs.length ≠ ys.length)) H
abbrev rLenV (K : PySem.W.Frag) : List V → Hp → VK → Prop := fun xs H Q => ∃ x n, xs = [x] ∧ LenV K x H n ∧ Q (.int (n : Int)) H
theorem off_does {σ : L2.St} {H : Hp} {R : Bool → Hp → Prop} (h : tOff K σ H R) : tAnd (tB (tVar 1)) (tNot (tAnd (tB (tVar 3)) (tTest (tOp rEq (tCB (rLenV K) (tCons (tVar 2) tNil)) (tCB (rLenV K) (tCons (tVar 0) tNil)))))) σ H R := by
  obtain ⟨x, t, tP, xs, ys, e1, e2, e3, e0, hx, hy, r⟩ := h
  refine ⟨_, e1, _, rfl, ?_⟩
  refine if_is (fun ex => ⟨_, e3, _, rfl, iteT ⟨_, e2, _, xs.length, rfl, .inr ⟨_, hx, rfl⟩, _, e0, _, ys.length, rfl, .inr ⟨_, hy, rfl⟩, rfl, _, rfl, ?_⟩⟩) (fun ex => ?_)
  · rw [ex] at r
    have : (true && decide (xs.length ≠ ys.length)) = !decide (V.int (xs.length : Int) = V.int (ys.length : Int)) := by
      by_cases e : xs.length = ys.length
      · simp [e]
      · have : ¬ ((xs.length : Int) = (ys.length : Int)) := by omega
        simp [e, this]
    rw [this] at r
    exact r
  · rw [ex] at r
    exact r
theorem ok_matched {f : Addr} {fd : FuncData} (F : Fun K "matched" "matched" sMatched f fd) (B : Blt mg) : FnOk P w K mg base CX0 1 f fd ["pattern", "is_exact", "signs", "is_end"] (spMatched K) := by
  refine F.ok scMatched (fun vs H Q E h => ?_) (fun cdv A outer s0 H vs Q E hr h => ?_)
  · obtain ⟨tP, t, es, x, ss, rfl, _⟩ := h
    rfl
  · obtain ⟨tP, t, es, x, ss, rfl, hP, hE, h2, ht, q0, q1⟩ := h
    refine ⟨_, (pss_cons (ps_if (pt_cmpR op_lt (pe_callB call_len (by rfl) B.len_ (by decide +kernel) (pa_cons (pv 2) pa_nil)) (pe_callB call_len (by rfl) B.len_ (by decide +kernel) (pa_cons (pv 0) pa_nil)) (nomark _)) (pss_one (ps_ret pe_non)) pss_nil)
      (pss_cons (ps_if (pt_by (tOff K) (PW.pt (pw_and (pt_val (pv 1)) (pw_and1 (pt_not (PW.pt (pw_and (pt_val (pv 3)) (pw_and1 (pt_cmpR op_eq (pe_callB call_len (by rfl) B.len_ (by decide +kernel) (pa_cons (pv 2) pa_nil)) (pe_callB call_len (by rfl) B.len_ (by decide +kernel) (pa_cons (pv 0) pa_nil)) (nomark _))))))))) (fun _ _ _ h => off_does h)) (pss_one (ps_ret pe_non)) pss_nil)
      (pss_cons (ps_set (i := 4) scMatched.nd rfl (Or.inl rfl) pe_dnewK)
      (pss_cons (ps_for PassesOwn.never rfl (RZ.pi_zipA (by rfl) B.zip_ (pa_cons (pv 0) (pa_cons (pv 2) pa_nil))) (pg_tup rfl (pgs_cons (pg_name (i := 5) scMatched.nd rfl (Or.inl rfl)) (pgs_cons (pg_name (i := 6) scMatched.nd rfl (Or.inl rfl)) pgs_nil)))
        (pss_cons (ps_set (i := 7) scMatched.nd rfl (Or.inl rfl) (pe_ifExp (pt_val (pe_callB call_isi (by rfl) B.isinstance_ (by decide +kernel) (pa_cons (pv 5) (pa_cons (pe_bltn (v := .ty "str") (by rfl) B.str_ (by decide +kernel) rfl) pa_nil)))) (pv 5) (pe_dsetd (pv 4) (pv 5) (pv 6) ⟨rfl, rfl, rfl, rfl⟩)))
        (pss_one (ps_if (pt_cmpR op_ne (pv 7) (pv 6) (nomark _)) (pss_one (ps_ret pe_non)) pss_nil))))
      (pss_one (ps_ret (pv 4))))))), ?_⟩
    refine ⟨_, rfl, _, (tV ss).length, rfl, .inr ⟨_, ht, rfl⟩, _, rfl, _, (es.map entV).length, rfl, .inr ⟨_, hP, rfl⟩, _, _, rfl, rfl, _, rfl, ?_⟩
    have l1 : (tV ss).length = ss.length := List.length_map ..
    have l2 : (es.map entV).length = es.length := List.length_map ..
    refine if_is (fun c => ?_) (fun c => ?_)
    · have c' := of_decide_eq_true c
      exact q0 (by unfold fitD; rw [if_pos (by omega)]) H (Same.refl H)
    have c' := of_decide_eq_false c
    have hle : es.length ≤ ss.length := by omega
    refine ⟨x, t, tP, _, _, rfl, rfl, rfl, rfl, ht, hP, ?_⟩
    refine if_is (fun ex => ?_) (fun ex => ?_)
    · rw [Bool.and_eq_true, decide_eq_true_eq, l1, l2] at ex
      exact q0 (by unfold fitD; rw [if_neg (by omega), if_pos ex]) H (Same.refl H)
    have ex' : ¬ (x = true ∧ ss.length ≠ es.length) := fun z => by
      rw [← l1, ← l2, ← decide_eq_true_eq (p := _ ≠ _), ← Bool.and_eq_true, ex] at z
      cases z
    have fd : fitD es x ss = mat es ss noBnd := by unfold fitD; rw [if_neg (by omega), if_neg ex']
    rw [fd] at q0 q1
    intro d nd
    have h0 := holes_nil H d
    have s0 : Same H (upd H d (.dK [])) := same_new nd
    generalize upd H d (.dK []) = H0 at h0 s0 ⊢
    refine ⟨_, rfl, _, rfl, tP, t, _, _, rfl, .inr ⟨same_seqT s0 hP, same_seqT s0 ht, ?_⟩⟩
    refine for_it (walk_two (xs := es.map entV) (ys := tV ss) rfl) (fun i σ G => ∃ (o5 o6 o7 : Option V) (g : Bnd), σ = [some (.ref tP), some (.bl x), some (.ref t), some (.bl true), some (.ref d), o5, o6, o7] ∧ Same H G ∧ HolesAt G d g i ∧ mat (es.drop i) (ss.drop i) g = mat es ss noBnd) ⟨none, none, none, noBnd, rfl, s0, h0, rfl⟩ ?_ ?_ ?_
    · rintro i σ G hi ⟨_, _, _, _, _, sG, _⟩
      exact ⟨same_seqT sG hP, same_seqT sG ht⟩
    · rintro i v σ G G' hi ⟨o5, o6, o7, g, rfl, sG, hd, hm⟩ ⟨T, u, y, rfl, nT, rfl, e1, e2⟩
      have sT : Same G (upd G T (.tup [u, y])) := same_new nT
      have hT : (upd G T (.tup [u, y])) T = some (.tup [u, y]) := upd_same
      refine ⟨T, _, rfl, .inl (.inl hT), rfl, ?_⟩
      have sG1 := sG.trans sT
      have hd1 := hd.same sT
      generalize upd G T (.tup [u, y]) = G1 at sT hT sG1 hd1 ⊢
      replace e1 : (es.map entV)[i]? = some u := e1
      replace e2 : (tV ss)[i]? = some y := e2
      rw [List.getElem?_map, Option.map_eq_some_iff] at e1 e2
      obtain ⟨e, he, rfl⟩ := e1
      obtain ⟨y', hy, rfl⟩ := e2
      rw [take_drop_cons he, take_drop_cons hy] at hm
      have hEe : isEntD e = true := List.all_eq_true.mp hE e (List.mem_of_getElem? he)
      have few : i < 2 := by
        have := (List.getElem?_eq_some_iff.mp he).1
        omega
      have vx : Vx K G1 (entV e) e := .inl ⟨ent_dp hEe, ok_mono (by decide) (ent_ok7 hEe)⟩
      have hq : ∀ G', Same G1 G' → mat es ss noBnd = none → Q .non G' := fun G' s z => q0 z G' (sG1.trans s)
      refine ⟨_, _, rfl, _, _, rfl, rfl, _, rfl, _, _, _, _, isStrD e, rfl, .ty "str", vx.ty, kitStr e, _, rfl, ?_⟩
      rcases ent_cases hEe with ⟨k, rfl⟩ | ⟨x', rfl, _⟩
      · rw [mat_int] at hm
        obtain ⟨kvs, h1, h2', h3⟩ := hd1
        refine iteF ⟨_, rfl, d, rfl, .inl ⟨kvs, .inl h1⟩, _, rfl, _, rfl, kvs, .inl k, h1, rfl, Nat.lt_of_lt_of_le (m := 3) (by omega) (by show 3 ≤ sizeLine; decide), fun v hv => ?_, fun hn => ?_⟩
        · rw [h2' k, Option.map_eq_some_iff] at hv
          obtain ⟨yy, hg, rfl⟩ := hv
          rw [hg] at hm
          have hm' : (if yy = y' then mat (es.drop (i + 1)) (ss.drop (i + 1)) g else none) = mat es ss noBnd := hm
          refine ⟨_, rfl, _, rfl, rfl, _, rfl, if_is (fun c => ?_) (fun c => ?_)⟩
          · have : ¬ yy = y' := fun z => by rw [z] at c; simp at c
            rw [if_neg this] at hm'
            exact hq G1 (Same.refl G1) hm'.symm
          · have : yy = y' := by
              by_cases z : yy = y'
              · exact z
              · simp [z] at c
            rw [if_pos this] at hm'
            exact ⟨_, _, _, g, rfl, sG1, ⟨kvs, h1, h2', by omega⟩, hm'⟩
        · have hg : g k = none := by
            rw [h2' k] at hn
            exact Option.map_eq_none_iff.mp hn
          rw [hg] at hm
          refine ⟨_, rfl, _, rfl, rfl, _, rfl, ?_⟩
          rw [decide_eq_true rfl]
          exact iteF ⟨_, _, _, _, rfl, fun b o eb => by rw [upd_ne (ne_of_none eb nd)]; exact sG1 b o eb, holes_put h2' h3 k y', hm⟩
      · rw [mat_str] at hm
        refine iteT ⟨_, rfl, _, rfl, _, rfl, rfl, _, rfl, if_is (fun c => ?_) (fun c => ?_)⟩
        · have : ¬ x' = y' := fun z => by rw [z] at c; simp [entV] at c
          rw [if_neg this] at hm
          exact hq G1 (Same.refl G1) hm.symm
        · have : x' = y' := by
            by_cases z : x' = y'
            · exact z
            · simp [entV, z] at c
          rw [if_pos this] at hm
          exact ⟨_, _, _, g, rfl, sG1, hd1.mono (by omega), hm⟩
    · rintro σ G ⟨o5, o6, o7, g, rfl, sG, hd, hm⟩
      have hn : min (es.map entV).length (tV ss).length = es.length := by omega
      rw [hn, List.drop_length, mat_nil] at hm
      exact ⟨_, rfl, q1 g hm.symm d G sG nd (hd.mono (by omega))⟩
end
end RL

/-! A def that gives NotImplemented (an own == beside a value of another kind). -/
namespace NI
open PySem PySem.W PySem.Spec PySem.Calls PyProof.Rows L2 SX GR
section
variable {pr : Program} {wo : World} {F : PySem.W.Frag} {gl : Str → Option Value} {b0 : Heap}
/-- what a call that gives NotImplemented and changes nothing leaves -/
def Left (fs : List Env) (pr : Program) (wo : World) (H : Hp) (s : Shared) : Result → Shared → Prop := fun r s' => r = .ok (.ret .notImplemented) ∧ CE fs pr wo H s (fun v H' => v = .non ∧ H' = H) .none s'
theorem ni_body {X : Cx} {c : Expr} {p1 p2 p3 : Pos} {body rest : List Stmt} {t : TT} {σ : L2.St} {H : Hp} {s1 : Shared} (bd : body = .If c [.Return (some (.Name "NotImplemented" p1)) p2] [] p3 :: rest) (gn : Gl X "NotImplemented") (gm : X.mg "NotImplemented" = none)
    (reads : PT X c t) (I : L2.Inv X [] σ H s1) (does : t σ H (fun b H' => b = true ∧ H' = H)) :
    wpAny (model X.prog X.w) X.A (execs body X.env) (fun fl s' => fl = .ret .notImplemented ∧ L2.Inv X [] σ H s') X.xe s1 := by
  subst bd
  refine wpAny_execs_cons (wpAny_If (thn (reads.run [] s1 σ H (fun b H' => b = true ∧ H' = H) I does) ?_))
  rintro b s2 ⟨H2, J, rfl, rfl⟩
  rw [if_pos rfl]
  refine wpAny_execs_cons (wpAny_Return_some ?_)
  exact ld_blt J gn gm rfl ⟨rfl, J⟩
theorem ni_fn {x qual : Str} {st : Stmt} {at_ : Addr} {fd : FuncData} {N names : List Str} {n : Nat} {c : Expr} {p1 p2 p3 : Pos} {rest : List Stmt} {vs : List V} {H : Hp} (D : Fun F x qual st at_ fd) (S : FnScope N names (defScope st))
    (bd : defBody st = .If c [.Return (some (.Name "NotImplemented" p1)) p2] [] p3 :: rest) (many : vs.length = names.length)
    (gn : ∀ (cd : Value) (Ar : Around) (fs : List Env) (s : Shared), Gl (cxOf CX0 pr wo F gl b0 N qual (defScope st) at_ cd Ar fs s H E0) "NotImplemented") (gm : gl "NotImplemented" = none)
    (test : ∀ (cd : Value) (Ar : Around) (fs : List Env) (s : Shared), Room n (Ar.deeper (envOfC qual (defScope st) s.heap.objs.size at_ cd)) →
      ∃ t, PT (cxOf CX0 pr wo F gl b0 N qual (defScope st) at_ cd Ar fs s H E0).nox c t ∧ t (start N vs) H (fun b H' => b = true ∧ H' = H))
    (Ar : Around) (fs : List Env) (s : Shared) (gs : Args) (us : List Value) (room : Room (n + 1) Ar) (e0 : Env0 pr wo F gl b0 Ar fs s H) (binds : BindsTo s fd gs (names.zip us)) (rel : Vals vs us) :
    codeAny (model pr wo) Ar (.call (.ref at_) gs) (Left fs pr wo H s) s := by
  obtain ⟨oc, od, kV, doc, pm, an, cd, ct, osl, rfl, here, code⟩ := D.ex
  have FX : F.In s.heap := e0.mod.kin.keeps (fun b o e => (e0.bs b o e).1)
  have lim : s.heap.NoLimit := e0.mod.nolimit.keeps (fun b o e => (e0.bs b o e).1)
  refine codeAny_call_function room.depth (FX _ _ here) rfl S.co S.gen rfl (PySem.W.codeRec_of FX code) (binds _ _ _ _ ?_)
  refine wpAny_newFunctionEnv_cells S.kind ?_ (fun en en_is s1 inside => ?_)
  · rintro ⟨nm, v⟩ mem
    rcases S.par nm (List.of_mem_zip mem).1 with q | q
    · exact Or.inl q
    · exact Or.inr ⟨q, PySem.W.cellsFrom_some _ _ _ (Or.inl q)⟩
  subst en_is
  refine ⟨lim.keeps inside.toInCall.keep, codeAny_func ?_⟩
  obtain ⟨t, reads, does⟩ := test cd Ar fs s (room.deeper _)
  have I0 := inv_start (CX := CX0) (E := E0) S room.hd e0 many rel inside
  refine wpAny_mono (ni_body bd (gn cd Ar fs s) gm reads.nox I0 does) ?_ (fun _ _ h => wpAny_mono h (fun _ _ z => (show False from z).elim) (fun _ _ z => (show False from z).elim))
  rintro fl s' ⟨rfl, J⟩
  exact ⟨rfl, V.non, H, J.os, J.bare, J.base, J.hok, rfl, rfl, rfl⟩
end
end NI

namespace NI
open PySem PySem.W PySem.Spec PySem.Calls PyProof.Rows L2 SX GR
section
variable {X : Cx}
/-- a def that gives NotImplemented for these values -/
structure Decl (X : Cx) (n : Nat) (f : Addr) (Pd : List V → Hp → Prop) : Prop where
  runs : ∀ (Ar : Around) (fs : List Env) (s : Shared) (H : Hp) (us : List Value) (vs : List V), Pd vs H → Room n Ar → Env0 X.prog X.w X.K X.mg X.base Ar fs s H → Vals vs us → codeAny (model X.prog X.w) Ar (.call (.ref f) ⟨us, []⟩) (Left fs X.prog X.w H s) s
/-- x == y, x an instance whose own == gives NotImplemented, y a text -/
theorem own_eqS {C f : Addr} {n : Nat} {Pd : List V → Hp → Prop} (at_ : findIn X.K (.ref C) "__eq__" = some (some (.ref f))) (isF : isFn X.K (.ref f) = true) (nf : subIn X.K (.type "str") (.ref C) = some false) (D : Decl X n f Pd) (room : Room n X.A) :
    OpR X (compareOp .Eq) (fun x y H Q => ∃ a dx fs z, x = .ref a ∧ y = .str z ∧ H a = some (.ins C dx fs) ∧ Pd [x, y] H ∧ Q (.bl false) H) := by
  intro pins s σ H x y v u Q I rx ry ⟨a, dx, fs, z, ex, ey, ha, hp, q⟩
  subst ex; subst ey
  cases (show v = Value.ref a from rx)
  obtain ⟨t, rfl⟩ : ∃ t, u = Value.str z t := ry
  obtain ⟨_, J, _⟩ := ins_get I.hok ha
  obtain ⟨od, J, _⟩ := J.look
  have inK : X.K.In s.heap := I.kIn
  have go : wpAny (model X.prog X.w) X.A (call (.ref f) [.ref a, .str z t]) (fun r s' => r = .notImplemented ∧ L2.Inv X pins σ H s') X.xe s := by
    refine wpAny_call (codeAny_mono (D.runs X.A X.stack s H [.ref a, .str z t] [.ref a, .str z] hp room I.env0 (.cons rfl (.cons ⟨t, rfl⟩ .nil))) ?_)
    rintro r s' ⟨rfl, ce⟩
    obtain ⟨z', H', I', rz, ez, eh⟩ := I.after ce
    subst eh
    exact ⟨rfl, I'⟩
  show wpAny _ _ (richCompare .Eq (.ref a) (.str z t)) _ _ _
  unfold richCompare
  have no : oneThing? CmpOp.Eq (.ref a) (.str z t) = none := rfl
  simp only [no]
  refine wpAny_holding (wpAny_bind (wpAny_cRoomFor room.units0 ?_))
  refine wpAny_bind (J.type.here ?_)
  refine wpAny_bind (wpAny_pure ?_)
  rw [show (Value.ref C != Value.type "str") = true from rfl]
  simp only [if_true]
  refine wpAny_bind ((looks_subIn inK nf).here ?_)
  simp only [Bool.false_eq_true, if_false]
  have one : wpAny (model X.prog X.w) X.A (tryCompare (.ref a) "__eq__" (.str z t)) (fun r s' => r = none ∧ L2.Inv X pins σ H s') X.xe s := by
    unfold tryCompare
    refine wpAny_bind (ifBound_K inK J at_ isF (wpAny_mono go ?_ fun _ _ e => e))
    rintro r s' ⟨rfl, hI⟩
    exact wpAny_pure ⟨rfl, hI⟩
  refine wpAny_bind (wpAny_mono one ?_ fun _ _ e => e)
  rintro r s1 ⟨rfl, I1⟩
  simp only [Bool.not_false, if_true]
  obtain ⟨_, J1, _⟩ := ins_get I1.hok ha
  obtain ⟨od1, J1, _⟩ := J1.look
  have two : wpAny (model X.prog X.w) X.A (tryCompare (.str z t) "__eq__" (.ref a)) (fun r s' => r = none ∧ L2.Inv X pins σ H s') X.xe s1 := by
    refine wpAny_tryCompare_declines (T := "str") (id := "str.__eq__") ?_ PySem.F.slot_str_eq ?_
    · rfl
    · refine wpAny_call (codeAny_call_builtin PySem.F.slot_str_eq.plain PySem.F.entry_str_eq (PySem.F.slot_str_eq.check _ _ _ _ _ _ _ _ ?_ (PySem.F.args_str_eq_2 _ _) ?_))
      · rfl
      · have at1 : s1.heap.get? a = some (W.instObj C dx) := J1.at_
        have done : ∀ s', s' = s1 → L2.Inv X pins σ H s' := fun s' e => by rw [e]; exact I1
        unfold Builtin.«str.__eq__» Builtin.Str.strCompare Builtin.Str.strSlot
        repeat (first | exact ⟨rfl, rfl, I1⟩ | refine wpAny_bind (wpAny_load at1 ?_) | wp_step)
  refine wpAny_bind (wpAny_mono two ?_ fun _ _ e => e)
  rintro r s2 ⟨rfl, I2⟩
  have fin : EP X pins σ Q (.bool false) s2 := ⟨.bl false, H, I2, rfl, q⟩
  show wpAny _ _ (do
      rule "compare.eq-identity"
      let same ← isSame (.ref a) (.str z t)
      pure (Value.bool same)) _ _ _
  repeat (first | exact fin | exact wpAny_pure fin | refine wpAny_bind (wpAny_isSame_plain (by rfl) ?_) | wp_step)
theorem tup_head (x y : Value) : ∃ k, Builtin.«tuple.__eq__» ⟨[x, y], []⟩ = (do
    let b ← isInstance y (.type "tuple")
    if (!b) = true then ret .notImplemented else k) := ⟨_, rfl⟩
theorem tup_at {H : Hp} {s : Shared} {pins : List (Addr × Obj)} {σ : L2.St} {b : Addr} {ds : List PyData} (I : L2.Inv X pins σ H s) (h : Dp X.K H (.ref b) (.tuple ds)) : ∃ o, s.heap.get? b = some o ∧ o.cls = .type "tuple" := by
  obtain ⟨as, rd⟩ := Dp.reads I _ _ _ h rfl
  cases rd
  exact ⟨_, by assumption, by assumption⟩
/-- x == y, x an instance whose own == gives NotImplemented, y a tuple -/
theorem own_eqT {C f : Addr} {n : Nat} {Pd : List V → Hp → Prop} (at_ : findIn X.K (.ref C) "__eq__" = some (some (.ref f))) (isF : isFn X.K (.ref f) = true) (nf : subIn X.K (.type "tuple") (.ref C) = some false) (nt : subIn X.K (.ref C) (.type "tuple") = some false) (D : Decl X n f Pd) (room : Room n X.A) :
    OpR X (compareOp .Eq) (fun x y H Q => ∃ a dx fs b ds, x = .ref a ∧ y = .ref b ∧ H a = some (.ins C dx fs) ∧ Dp X.K H (.ref b) (.tuple ds) ∧ Pd [x, y] H ∧ Q (.bl false) H) := by
  intro pins s σ H x y v u Q I rx ry ⟨a, dx, fs, b, ds, ex, ey, ha, hb, hp, q⟩
  subst ex; subst ey
  cases (show v = Value.ref a from rx)
  cases (show u = Value.ref b from ry)
  obtain ⟨_, J, _⟩ := ins_get I.hok ha
  obtain ⟨od, J, _⟩ := J.look
  have inK : X.K.In s.heap := I.kIn
  obtain ⟨ob, gb, cb⟩ := tup_at I hb
  have ga : s.heap.get? a = some (W.instObj C dx) := J.at_
  have nab : a ≠ b := fun e => by rw [e, gb] at ga; cases ga; cases cb
  have go : wpAny (model X.prog X.w) X.A (call (.ref f) [.ref a, .ref b]) (fun r s' => r = .notImplemented ∧ L2.Inv X pins σ H s') X.xe s := by
    refine wpAny_call (codeAny_mono (D.runs X.A X.stack s H [.ref a, .ref b] [.ref a, .ref b] hp room I.env0 (.cons rfl (.cons rfl .nil))) ?_)
    rintro r s' ⟨rfl, ce⟩
    obtain ⟨z', H', I', rz, ez, eh⟩ := I.after ce
    subst eh
    exact ⟨rfl, I'⟩
  show wpAny _ _ (richCompare .Eq (.ref a) (.ref b)) _ _ _
  unfold richCompare
  simp only [oneThing_ref]
  refine wpAny_holding (wpAny_bind (wpAny_cRoomFor room.units0 ?_))
  refine wpAny_bind (J.type.here ?_)
  have tyb : ∀ {s' : Shared} {R : Value → Shared → Prop}, s'.heap.get? b = some ob → R (.type "tuple") s' → wpAny (model X.prog X.w) X.A (typeOf (.ref b)) R X.xe s' := fun g r => by
    unfold typeOf
    repeat (first | exact r | (rw [cb]; exact r) | refine wpAny_bind (wpAny_load g ?_) | wp_step)
  refine wpAny_bind (tyb gb ?_)
  rw [show (Value.ref C != Value.type "tuple") = true from rfl]
  simp only [if_true]
  refine wpAny_bind ((looks_subIn inK nf).here ?_)
  simp only [Bool.false_eq_true, if_false]
  have one : wpAny (model X.prog X.w) X.A (tryCompare (.ref a) "__eq__" (.ref b)) (fun r s' => r = none ∧ L2.Inv X pins σ H s') X.xe s := by
    unfold tryCompare
    refine wpAny_bind (ifBound_K inK J at_ isF (wpAny_mono go ?_ fun _ _ e => e))
    rintro r s' ⟨rfl, hI⟩
    exact wpAny_pure ⟨rfl, hI⟩
  refine wpAny_bind (wpAny_mono one ?_ fun _ _ e => e)
  rintro r s1 ⟨rfl, I1⟩
  simp only [Bool.not_false, if_true]
  obtain ⟨_, J1, _⟩ := ins_get I1.hok ha
  obtain ⟨od1, J1, _⟩ := J1.look
  obtain ⟨ob1, gb1, cb1⟩ := tup_at I1 hb
  have ga1 : s1.heap.get? a = some (W.instObj C dx) := J1.at_
  have two : wpAny (model X.prog X.w) X.A (tryCompare (.ref b) "__eq__" (.ref a)) (fun r s' => r = none ∧ s' = s1) X.xe s1 := by
    refine wpAny_tryCompare_declines (T := "tuple") (id := "tuple.__eq__") ⟨ob1, gb1, cb1⟩ PySem.F.slot_tuple_eq ?_
    refine wpAny_call (codeAny_call_builtin PySem.F.slot_tuple_eq.plain PySem.F.entry_tuple_eq (PySem.F.slot_tuple_eq.check _ _ _ _ _ _ _ _ ⟨ob1, gb1, cb1⟩ (PySem.F.args_tuple_eq_2 _ _) ?_))
    obtain ⟨k, ek⟩ := tup_head (.ref b) (.ref a)
    rw [ek]
    refine wpAny_bind (wpAny_mono (show wpAny _ _ (isInstance (.ref a) (.type "tuple")) (fun r s' => r = false ∧ s' = s1) _ _ from ?_) ?_ fun _ _ e => e)
    · have inK1 : X.K.In s1.heap := I1.kIn
      unfold isInstance
      repeat (first | exact wpAny_bind (J1.type.here ((looks_subIn inK1 nt).here ⟨rfl, rfl⟩)) | exact ((looks_subIn inK1 nt).here ⟨rfl, rfl⟩) | refine wpAny_bind (J1.type.here ?_) | wp_step)
    · rintro r s' ⟨rfl, rfl⟩
      simp only [Bool.not_false, if_true]
      repeat (first | exact ⟨rfl, trivial, rfl⟩ | exact ⟨rfl, rfl, rfl⟩ | wp_step)
  refine wpAny_bind (wpAny_mono two ?_ fun _ _ e => e)
  rintro r s2 ⟨rfl, rfl⟩
  have fin : EP X pins σ Q (.bool false) s2 := ⟨.bl false, H, I1, rfl, q⟩
  show wpAny _ _ (do
      rule "compare.eq-identity"
      let same ← isSame (.ref a) (.ref b)
      pure (Value.bool same)) _ _ _
  repeat (first | exact fin | exact wpAny_pure fin | refine wpAny_bind (wpAny_isSame_ref_other nab ga1 gb1 (fun z => by cases z) ?_) | wp_step)
end
end NI

namespace RL
open PySem L2 SX AddrMath VA PySem.W GR
section
variable {P : Program} {w : World} {K : PySem.W.Frag} {mg : Str → Option Value} {base : Heap}
/-! ### Rule.__eq__: slots self 0, other 1 -/
abbrev sREq : Stmt := inClass (top 43) 8
theorem scREq : FnScope ["self", "other"] ["self", "other"] (defScope sREq) := ⟨rfl, rfl, rfl, by decide +kernel, rfl, by decide +kernel, by decide +kernel⟩
def goalD : PyData → PyData
  | .tuple [.str y, b] => .tuple [.str y, .tuple (itemsD b)]
  | _ => .none
/-- a rule's key, as data -/
def keyD (z : Str) (pd gd : PyData) (x : Bool) : PyData := .tuple [.str z, .tuple (itemsD pd), goalD gd, .bool x]
theorem goal_dp {H : Hp} {gV : V} {gd : PyData} (h : GoalAt K H gV gd) (hb : (begD gd).all isEntD = true) : Dp K H gV (goalD gd) := by
  match gd, h with
  | .none, h =>
    cases (show gV = .non from h)
    exact .non
  | .tuple [.str z, b], h =>
    obtain ⟨g, tb, rfl, h1, h2⟩ := h
    exact .tup (.inl (.inl h1)) (.cons (.str z) (.cons (.tup h2 (ents_dp hb)) .nil))
theorem key_dp {C : Addr} {H : Hp} {p : Addr} {z : Str} {pd gd : PyData} {x : Bool} (h : RuleAt K C H p z pd gd x) (hp : (itemsD pd).all isEntD = true) (hb : (begD gd).all isEntD = true) :
    ∃ dx fs k, H p = some (.ins C dx fs) ∧ fs.lookup nKey = some (.ref k) ∧ Dp K H (.ref k) (keyD z pd gd x) := by
  obtain ⟨dx, tP, tW, tK, gV, ws, h1, hP, hG, hW, _, _, _, hK⟩ := h.ex
  exact ⟨dx, _, tK, h1, rfl, .tup (.inl (.inl hK)) (.cons (.str z) (.cons (.tup hP (ents_dp hp)) (.cons (goal_dp hG hb) (.cons (.bl x) .nil))))⟩
structure ROwn (K : PySem.W.Frag) (C : Addr) : Prop where
  own : AOwn K C
  ks : PySem.W.kitOne K (.type "str") (.ref C) = some false
  kt : PySem.W.kitOne K (.type "tuple") (.ref C) = some false
def spREq (K : PySem.W.Frag) (C : Addr) : Sp := fun vs H Q _ => ∃ (p q : Addr) (z y : Str) (pd gd pe ge : PyData) (x u : Bool), vs = [.ref p, .ref q] ∧ RuleAt K C H p z pd gd x ∧ RuleAt K C H q y pe ge u ∧ (itemsD pd).all isEntD = true ∧ (begD gd).all isEntD = true ∧ (itemsD pe).all isEntD = true ∧ (begD ge).all isEntD = true ∧
  SeqAt.shaped (keyD z pd gd x) = true ∧ SeqAt.shaped (keyD y pe ge u) = true ∧ Q (.bl (PyData.eqv (keyD z pd gd x) (keyD y pe ge u))) H
theorem ok_req {f C : Addr} {fd : FuncData} (F : Fun K "__eq__" "Rule.__eq__" sREq f fd) (T : RTxt K mg C) (W : ROwn K C) (B : Blt mg) : FnOk P w K mg base CX0 1 f fd ["self", "other"] (spREq K C) := by
  refine F.ok scREq (fun vs H Q E h => ?_) (fun cdv A outer s0 H vs Q E hr h => ?_)
  · obtain ⟨p, q, z, y, pd, gd, pe, ge, x, u, rfl, _⟩ := h
    rfl
  · obtain ⟨p, q, z, y, pd, gd, pe, ge, x, u, rfl, h1, h2, e1, e2, e3, e4, k1, k2, r⟩ := h
    refine ⟨_, pss_cons (ps_if (pt_not (pt_val (pe_callB (call_isI W.own) (by rfl) B.isinstance_ (by decide +kernel) (pa_cons (pv 1) (pa_cons (pe_glob (v := .ref C) (by rfl) T.mgC rfl) pa_nil))))) (pss_one ps_never) pss_nil)
      (pss_one (ps_ret (pe_cmpR (op_eqD (room_all (k := 64) (by decide) hr.units)) (pe_fld (pv 0) rfl) (pe_fld (pv 1) rfl) (nomark _)))), ?_⟩
    obtain ⟨dx, fs, k, a1, a2, a3⟩ := key_dp h1 e1 e2
    obtain ⟨dy, gs, l, b1, b2, b3⟩ := key_dp h2 e3 e4
    exact ⟨_, rfl, q, dy, _, rfl, b1, _, rfl, iteF ⟨_, rfl, p, C, dx, _, _, rfl, a1, T.cl, T.nK, a2, _, rfl, q, C, dy, _, _, rfl, b1, T.cl, T.nK, b2, _, _, a3, b3, k1, k2, r⟩⟩
theorem req_not {n : Nat} {f C : Addr} {fd : FuncData} (F : Fun K "__eq__" "Rule.__eq__" sREq f fd) (T : RTxt K mg C) (W : ROwn K C) (B : Blt mg) (mN : mg "NotImplemented" = none) (bd : Binds K fd ["self", "other"] []) (X : Cx) (hP : X.prog = P) (hw : X.w = w) (hK : X.K = K) (hm : X.mg = mg) (hb : X.base = base) :
    NI.Decl X 1 f (fun vs H => ∃ (p dx : Addr) (fs : List (Str × V)) (y : V), vs = [.ref p, y] ∧ H p = some (.ins C dx fs) ∧ ((∃ z, y = .str z) ∨ ∃ b ds, y = .ref b ∧ Dp K H (.ref b) (.tuple ds))) := by
  subst hP hw hK hm hb
  refine ⟨fun Ar fs s H us vs hp room e0 rel => ?_⟩
  obtain ⟨p, dx, gs, y, rfl, hp1, alt⟩ := hp
  refine NI.ni_fn F scREq rfl rfl (fun _ _ _ _ => by rfl) mN (fun cd Ar fs s hr => ?_) Ar fs s ⟨us, []⟩ (us ++ []) room e0 (bd s us (fun x o h => (e0.bs x o (e0.mod.kin x o h)).1) (by rw [List.append_nil, ← rel.length]; rfl)) (by rw [List.append_nil]; exact rel)
  refine ⟨_, pt_not (pt_val (pe_callB call_isi (by rfl) B.isinstance_ (by decide +kernel) (pa_cons (pv 1) (pa_cons (pe_glob (v := .ref C) (by rfl) T.mgC rfl) pa_nil)))), ?_⟩
  rcases alt with ⟨z, rfl⟩ | ⟨b, ds, rfl, hd⟩
  · exact ⟨_, rfl, .str z, .ref C, _, _, false, rfl, .own C, dp_ty (.str z), W.ks, _, rfl, rfl, rfl⟩
  · exact ⟨_, rfl, .ref b, .ref C, _, _, false, rfl, .own C, dp_ty hd, W.kt, _, rfl, rfl, rfl⟩
end
end RL

namespace RL
open PySem L2 SX AddrMath VA PySem.W GR
section
theorem run_q {X : Cx} {n : Nat} {f : Addr} {fd : FuncData} {ps : List Str} {sp : Sp} {pins : List (Addr × Obj)} {σ : L2.St} {H : Hp} {s : Shared} {Q : VK} {us : List Value} {vs : List V} (F : FnQ X.prog X.w X.K X.mg X.base n f fd ps sp) (hq : Quiet X.A) (room : Room n X.A) (hb : L2.Binds X.K fd ps []) (I : L2.Inv X pins σ H s) (r : Vals vs us) (q : sp vs H Q E0) :
    wpAny (model X.prog X.w) X.A (call (.ref f) us) (EP X pins σ Q) X.xe s := by
  have bs := hb s us I.kIn (by rw [List.append_nil, ← r.length]; exact F.many _ _ _ _ q)
  refine wpAny_call (codeAny_mono (F.runs X.A X.stack s H ⟨us, []⟩ (us ++ []) vs Q E0 hq room I.env0 bs (by rw [List.append_nil]; exact r) q) ?_)
  rintro (e | fl) s' h
  · exact (show False from h).elim
  cases fl with
  | next => exact (show False from h).elim
  | brk => exact (show False from h).elim
  | cont => exact (show False from h).elim
  | ret u => exact I.after h
theorem pe_callQ {X : Cx} {n : Nat} {f : Addr} {fd : FuncData} {ps : List Str} {sp : Sp} {x : Str} {p pos : Pos} {e : Expr} {es : List Expr} {t : TA} (F : FnQ X.prog X.w X.K X.mg X.base n f fd ps sp) (hq : Quiet X.A) (hr : Room n X.A) (hg : Gl X x) (hm : X.mg x = some (.ref f)) (hk : PySem.W.keepIn X.K (.ref f) = true) (hb : L2.Binds X.K fd ps []) (ha : PA X (e :: es) t)
    (hdb : (x == Str.ofString "__debug__") = false := by rfl) (he : starEach (e :: es) X.env = (false, eval e X.env) :: starEach es X.env := by rfl) (hpl : ((backTo pos (starEach es X.env)).any fun x => x.fst) = false := by rfl) : PE X (.Call (.Name x p) (e :: es) [] pos) (tCall sp [] E0 t) :=
  ⟨fun pins s σ H Q I h => wpAny_Call_Name_kw (ld_glob I hg hm (W.callWith_K I.ok.mod.kin hk (thn (ha.run pos pins s σ H (fun vs H1 => sp (vs ++ []) H1 Q E0) I h) fun us s1 w => by
    obtain ⟨vs, H1, I1, r, q⟩ := w
    rw [List.append_nil] at q
    exact ⟨I1.kIn, run_q F hq hr hb I1 r q⟩) he hpl) hdb)⟩
variable {P : Program} {w : World} {K : PySem.W.Frag} {mg : Str → Option Value} {base : Heap}
/-! ### path_text: slots entries 0, is_exact 1, entry 2, text 3 -/
abbrev sPathText : Stmt := top 38
theorem scPathText : FnScope ["entries", "is_exact", "entry", "text"] ["entries", "is_exact"] (defScope sPathText) := ⟨rfl, rfl, rfl, by decide +kernel, rfl, by decide +kernel, by decide +kernel⟩
def spPathText (K : PySem.W.Frag) : Sp := fun vs H Q _ => ∃ (t : Addr) (x : Bool) (es : List PyData), vs = [.ref t, .bl x] ∧ SqT K H t (es.map entV) ∧ es.all isEntD = true ∧ es.length ≤ 4 ∧ ∀ z H', Same H H' → z.length ≤ 400 → Q (.str z) H'
def segV : V → V
  | .int i => .str ((Str.empty ++ Str.ofString "/") ++ Str.ofString (toString i))
  | .str z => .str ((Str.empty ++ Str.ofString "/") ++ z)
  | v => v
theorem str_len_app (a b : Str) : (a ++ b).length = a.length + b.length := by
  show (a.cps ++ b.cps).size = _
  exact Array.size_append
def segS : PyData → Str
  | .int i => (Str.empty ++ Str.ofString "/") ++ Str.ofString (toString i)
  | .str z => (Str.empty ++ Str.ofString "/") ++ z
  | _ => Str.empty
theorem seg_ent {e : PyData} (h : isEntD e = true) : segV (entV e) = .str (segS e) ∧ (segS e).length ≤ 20 := by
  rcases ent_cases h with ⟨k, rfl⟩ | ⟨x', rfl, hx⟩
  · refine ⟨rfl, ?_⟩
    have h' : (false || (decide (1 ≤ k) && decide (k ≤ 2))) = true := h
    rw [Bool.false_or, Bool.and_eq_true, decide_eq_true_eq, decide_eq_true_eq] at h'
    have : k = 1 ∨ k = 2 := by omega
    rcases this with rfl | rfl <;> decide +kernel
  · refine ⟨rfl, ?_⟩
    have := word_len hx
    show ((Str.empty ++ Str.ofString "/") ++ x').length ≤ 20
    rw [str_len_app]
    have : (Str.empty ++ Str.ofString "/").length = 1 := by decide +kernel
    omega
/-- f'/{entry}', entry in slot 2 -/
def tSeg : TE := fun σ H Q => ∃ e, σ[2]? = some (some (entV e)) ∧ isEntD e = true ∧ Q (segV (entV e)) H
theorem seg_does {σ : L2.St} {H : Hp} {Q : VK} (h : tSeg σ H Q) : (fun σ H Q => tJs [tC (.str (Str.ofString "/")), tFmt (tVar 2)] Str.empty σ H fun out H1 => Q (.str out) H1) σ H Q := by
  obtain ⟨e, e2, he, q⟩ := h
  obtain ⟨g1, g2⟩ := seg_ent he
  rw [g1] at q
  have sz : ∀ n, n ≤ 20 → n ≤ sizeLine := fun n h => Nat.le_trans h (by show 20 ≤ sizeLine; decide)
  rcases ent_cases he with ⟨k, rfl⟩ | ⟨x', rfl, hx⟩
  · have h' : (false || (decide (1 ≤ k) && decide (k ≤ 2))) = true := he
    rw [Bool.false_or, Bool.and_eq_true, decide_eq_true_eq, decide_eq_true_eq] at h'
    have : k = 1 ∨ k = 2 := by omega
    refine ⟨_, rfl, by decide +kernel, _, e2, .inr ⟨k, rfl, ?_, _, rfl, sz _ g2, q⟩⟩
    rcases this with rfl | rfl <;> decide +kernel
  · exact ⟨_, rfl, by decide +kernel, _, e2, .inl ⟨x', rfl, sz _ (by have := word_len hx; omega), _, rfl, sz _ g2, q⟩⟩
theorem ok_pathtext {f : Addr} {fd : FuncData} (F : Fun K "path_text" "path_text" sPathText f fd) : FnOk P w K mg base CX0 1 f fd ["entries", "is_exact"] (spPathText K) := by
  refine F.ok scPathText (fun vs H Q E h => ?_) (fun cdv A outer s0 H vs Q E hr h => ?_)
  · obtain ⟨t, x, es, rfl, _⟩ := h
    rfl
  · obtain ⟨t, x, es, rfl, ht, hE, h4, q⟩ := h
    refine ⟨_, (pss_cons (ps_set (i := 3) scPathText.nd rfl (Or.inl rfl) (pe_join pe_str (pe_lc (own := [("entry", 2)]) (g := gName 2) (tt := tYes) rfl scPathText.nd (pi_seq (pv 0))
          (blkOk_by (own := [("entry", 2)]) (N := ["entries", "is_exact", "entry", "text"]) (sc := defScope sPathText) (by decide +kernel))
          (fun _ _ _ _ _ => (pg_name (i := 2) scPathText.nd rfl (Or.inl rfl))) (fun _ _ _ _ _ => pts_nil)
          (fun _ _ _ _ _ => (pe_by tSeg (pe_joined (.cons pe_str (.cons (pe_fmt (pv 2)) .nil))) (fun _ _ _ h => seg_does h))))))
      (pss_cons (ps_if (pt_not (pt_val (pv 1))) (pss_one (ps_ret (pe_op op_add_str (pv 3) pe_str))) pss_nil)
      (pss_one (ps_ret (pe_ifExp (pt_cmpR op_ne (pv 3) pe_str (nomark _)) (pv 3) pe_str))))), ?_⟩
    refine ⟨⟨_, rfl⟩, _, rfl, ?_⟩
    refine seq_map (.inr ht) (by rw [List.length_map]; omega) (fun _ => true) segV ?hw (fun v hm H2 s2 => ⟨fun R hR => no_test hR, fun _ H3 s3 R hR => ?_⟩) fun D H2 nD hD s2 => ?_
    case hw => intro _; rfl
    · obtain ⟨e, he, rfl⟩ := List.mem_map.mp hm
      exact ⟨e, rfl, List.all_eq_true.mp hE e he, hR H3 (Same.refl H3)⟩
    · have eq : ((es.map entV).filter fun _ => true).map segV = (es.map segS).map V.str := by
        rw [filter_yes, List.map_map, List.map_map]
        exact List.map_congr_left fun e he => (seg_ent (List.all_eq_true.mp hE e he)).1
      rw [eq] at hD
      have sm : ∀ es : List PyData, es.all isEntD = true → ((es.map segS).map (fun x => x.length)).sum ≤ 20 * es.length := fun es => by
        induction es with
        | nil => intro _; exact Nat.le_refl 0
        | cons e r ih =>
          intro h
          rw [List.all_cons, Bool.and_eq_true] at h
          have := (seg_ent h.1).2
          have := ih h.2
          simp only [List.map_cons, List.sum_cons, List.length_cons]
          omega
      have s4 := sm es hE
      refine ⟨_, D, es.map segS, rfl, rfl, .inl (.inl (.inl hD)), ?_, ?_⟩
      · show _ + _ * 0 ≤ _
        omega
      have jl : (Txt.join (Str.ofString "") (es.map segS)).length ≤ 340 := by
        refine PyProof.Rows.len_join_le (n := 84) ?_ (by decide)
        show _ + _ ≤ _
        rw [List.length_map]
        omega
      generalize Txt.join (Str.ofString "") (es.map segS) = z at jl ⊢
      have l3 : (Str.ofString "/..").length = 3 := by decide +kernel
      refine ⟨_, rfl, _, rfl, if_is (fun c => ?_) (fun c => ?_)⟩
      · exact ⟨_, rfl, _, _, rfl, rfl, Nat.le_trans (m := 1000) (by omega) (by show 1000 ≤ sizeLine; decide), q _ H2 s2 (by rw [str_len_app]; omega)⟩
      · refine ⟨_, rfl, rfl, _, rfl, if_is (fun _ => ⟨_, rfl, q z H2 s2 (by omega)⟩) (fun _ => q _ H2 s2 (by decide +kernel))⟩
/-! ### rule_text: slots rule 0, text 1; Rule.text -/
abbrev sRuleText : Stmt := top 39
abbrev sRText : Stmt := inClass (top 43) 9
theorem scRuleText : FnScope ["rule", "text"] ["rule"] (defScope sRuleText) := ⟨rfl, rfl, rfl, by decide +kernel, rfl, by decide +kernel, by decide +kernel⟩
theorem scRText : FnScope ["self"] ["self"] (defScope sRText) := ⟨rfl, rfl, rfl, by decide +kernel, rfl, by decide +kernel, by decide +kernel⟩
def spRText (K : PySem.W.Frag) (C : Addr) : Sp := fun vs H Q _ => ∃ (p : Addr) (z : Str) (pd gd : PyData) (x : Bool), vs = [.ref p] ∧ RuleAt K C H p z pd gd x ∧ wrd z = true ∧ (itemsD pd).all isEntD = true ∧ (itemsD pd).length ≤ 4 ∧ isGoalD gd pd = true ∧ ∀ y H', Same H H' → Q (.str y) H'
theorem ok_ruletext {f C : Addr} {fd : FuncData} (F : Fun K "rule_text" "rule_text" sRuleText f fd) (T : RTxt K mg C) (rstate : OwnP P w K mg base C "state" (spGet C nState)) (rpattern : OwnP P w K mg base C "pattern" (spGet C nPattern)) (rgoal : OwnP P w K mg base C "goal" (spGet C nGoal)) (rexact : OwnP P w K mg base C "is_exact" (spGet C nExact))
    (path_text : Own P w K mg base CX0 1 "path_text" ["entries", "is_exact"] (spPathText K)) : FnOk P w K mg base CX0 3 f fd ["rule"] (spRText K C) := by
  refine F.ok scRuleText (fun vs H Q E h => ?_) (fun cdv A outer s0 H vs Q E hr h => ?_)
  · obtain ⟨p, z, pd, gd, x, rfl, _⟩ := h
    rfl
  · obtain ⟨p, z, pd, gd, x, rfl, hR, hz, hE, h4, hg, q⟩ := h
    have hr2 : Room 2 _ := hr
    have hr1 : Room 1 _ := hr.mono (by decide)
    refine ⟨_, (pss_cons (ps_set (i := 1) scRuleText.nd rfl (Or.inl rfl) (pe_joined (.cons (pe_fmt (pe_prop (pv 0) T.cl rstate.prop rstate.ok hr2 rstate.b .nil pass0 rfl)) (.cons pe_str (.cons (pe_fmt (pe_call path_text.g hr1 rfl path_text.mg path_text.kp path_text.b .nil pass0 (pa_cons (pe_prop (pv 0) T.cl rpattern.prop rpattern.ok hr2 rpattern.b .nil pass0 rfl) (pa_cons (pe_prop (pv 0) T.cl rexact.prop rexact.ok hr2 rexact.b .nil pass0 rfl) pa_nil)))) .nil)))))
      (pss_cons (ps_if (pt_cmpR op_isN (pe_prop (pv 0) T.cl rgoal.prop rgoal.ok hr2 rgoal.b .nil pass0 rfl) pe_non (nomark _)) (pss_one (ps_ret (pe_joined (.cons (pe_fmt (pv 1)) (.cons pe_str .nil))))) pss_nil)
      (pss_one (ps_ret (pe_joined (.cons (pe_fmt (pv 1)) (.cons pe_str (.cons (pe_fmt (pe_ix ix_tup (pe_prop (pv 0) T.cl rgoal.prop rgoal.ok hr2 rgoal.b .nil pass0 rfl) pe_int (fun _ _ => rfl))) (.cons pe_str (.cons (pe_fmt (pe_call path_text.g hr1 rfl path_text.mg path_text.kp path_text.b .nil pass0 (pa_cons (pe_ix ix_tup (pe_prop (pv 0) T.cl rgoal.prop rgoal.ok hr2 rgoal.b .nil pass0 rfl) pe_int (fun _ _ => rfl)) (pa_cons (pe_prop (pv 0) T.cl rexact.prop rexact.ok hr2 rexact.b .nil pass0 rfl) pa_nil)))) .nil)))))))))), ?_⟩
    obtain ⟨dx, tP, tW, tK, gV, ws, hp, hP, hG, hW, _, _, _, hK⟩ := hR.ex
    have lz := word_len hz
    have sz : ∀ n, n ≤ 2000 → n ≤ sizeLine := fun n h => Nat.le_trans h (by show 2000 ≤ sizeLine; decide)
    have l0 : Str.empty.length = 0 := by decide +kernel
    have l1 : (Str.ofString " ").length = 1 := by decide +kernel
    have l6 : (Str.ofString " stays").length = 6 := by decide +kernel
    have l4 : (Str.ofString " to ").length = 4 := by decide +kernel
    refine ⟨_, rfl, p, dx, _, rfl, hp, p, dx, _, _, rfl, hp, rfl, .inl ⟨z, rfl, sz _ (by omega), _, rfl, sz _ (by rw [str_len_app]; omega), _, rfl, sz _ (by simp only [str_len_app]; omega), ?_⟩⟩
    refine ⟨_, rfl, p, dx, _, rfl, hp, p, dx, _, _, rfl, hp, rfl, _, rfl, p, dx, _, rfl, hp, p, dx, _, _, rfl, hp, rfl, tP, x, itemsD pd, rfl, hP, hE, h4, fun u H1 s1 hu => .inl ⟨u, rfl, sz _ (by omega), _, rfl, sz _ (by simp only [str_len_app]; omega), ?_⟩⟩
    have lt : (Str.empty ++ z ++ Str.ofString " " ++ u).length ≤ 410 := by
      simp only [str_len_app]
      omega
    generalize Str.empty ++ z ++ Str.ofString " " ++ u = t1 at lt ⊢
    have hp1 := s1 _ _ hp
    refine ⟨_, rfl, p, dx, _, rfl, hp1, p, dx, _, _, rfl, hp1, rfl, rfl, _, rfl, ?_⟩
    rcases goal_parts hg with rfl | ⟨gz, gb, rfl, hgz, hgb⟩
    · cases (show gV = .non from hG)
      exact iteT ⟨_, rfl, .inl ⟨t1, rfl, sz _ (by omega), _, rfl, sz _ (by simp only [str_len_app]; omega), _, rfl, sz _ (by simp only [str_len_app]; omega), q _ H1 s1⟩⟩
    · obtain ⟨g, tb, rfl, hgg, htb⟩ := hG
      obtain ⟨_, b2, b3⟩ := areEnt_parts hgb
      have lg := word_len hgz
      refine iteF ⟨_, rfl, .inl ⟨t1, rfl, sz _ (by omega), _, rfl, sz _ (by simp only [str_len_app]; omega), _, rfl, sz _ (by simp only [str_len_app]; omega), _, rfl, p, dx, _, rfl, hp1, p, dx, _, _, rfl, hp1, rfl, g, _, 0, _, rfl, rfl, .inl (.inl (s1 _ _ hgg)), rfl, .inl ⟨gz, rfl, sz _ (by omega), _, rfl, sz _ (by simp only [str_len_app]; omega), _, rfl, sz _ (by simp only [str_len_app]; omega), ?_⟩⟩⟩
      exact ⟨_, rfl, p, dx, _, rfl, hp1, p, dx, _, _, rfl, hp1, rfl, g, _, 1, _, rfl, rfl, .inl (.inl (s1 _ _ hgg)), rfl, _, rfl, p, dx, _, rfl, hp1, p, dx, _, _, rfl, hp1, rfl, tb, x, itemsD gb, rfl, same_seqT s1 htb, b3, by omega, fun u2 H2 s2 hu2 => .inl ⟨u2, rfl, sz _ (by omega), _, rfl, sz _ (by simp only [str_len_app]; omega), q _ H2 (s1.trans s2)⟩⟩
theorem ok_rtext {f C : Addr} {fd : FuncData} (F : Fun K "text" "Rule.text" sRText f fd) (rule_text : Own P w K mg base CX0 3 "rule_text" ["rule"] (spRText K C)) : FnOk P w K mg base CX0 4 f fd ["self"] (spRText K C) := by
  refine F.ok scRText (fun vs H Q E h => ?_) (fun cdv A outer s0 H vs Q E hr h => ?_)
  · obtain ⟨p, z, pd, gd, x, rfl, _⟩ := h
    rfl
  · obtain ⟨p, z, pd, gd, x, rfl, h⟩ := h
    exact ⟨_, (pss_one (ps_ret (pe_call rule_text.g hr rfl rule_text.mg rule_text.kp rule_text.b .nil pass0 (pa_cons (pv 0) pa_nil)))), _, rfl, p, z, pd, gd, x, rfl, h⟩
end
end RL

/-! get of a written dict with keys of text: d.get(k, x). -/
namespace VA
open PySem PySem.Spec PyProof.Rows L2
/-- what is found under a text in the rows kvs -/
def txAt : List (Str × V) → Str → Option V
  | [], _ => none
  | p :: l, x => if p.1 = x then some p.2 else txAt l x
/-- the rows of a written dict -/
def TxRows : List (Str × V) → List DictEntry → Prop
  | [], [] => True
  | p :: l, e :: r => (∃ t, e.key = .str p.1 t) ∧ RelV p.2 e.val ∧ TxRows l r
  | _, _ => False
/-- the written dict at d holds the rows kvs -/
def TxDict (F : PySem.W.Frag) (w : World) (d : Addr) (kvs : List (Str × V)) : Prop := (d == sysModules) = false ∧ ∃ es n, F.lookup d = some ⟨.type "dict", none, .dict es n, #[]⟩ ∧ PySem.W.KeysLit w.params es.toList ∧ TxRows kvs es.toList
theorem rows_find {k : Str} : ∀ {kvs : List (Str × V)} {r : List DictEntry}, TxRows kvs r → RelO (txAt kvs k) ((r.find? fun e => Value.isStrOf k e.key).map (·.val))
  | [], [], _ => True.intro
  | [], _ :: _, h => h.elim
  | _ :: _, [], h => h.elim
  | p :: l, e :: r, h => by
    obtain ⟨⟨t, ek⟩, ev, tl⟩ := h
    have b : Value.isStrOf k e.key = (p.1 == k) := by rw [ek]; rfl
    by_cases c : p.1 = k
    · rw [List.find?_cons_of_pos (by rw [b]; exact beq_iff_eq.mpr c)]
      show RelO (if p.1 = k then some p.2 else txAt l k) _
      rw [if_pos c]
      exact ev
    · rw [List.find?_cons_of_neg (by rw [b]; intro z; exact c (beq_iff_eq.mp z))]
      show RelO (if p.1 = k then some p.2 else txAt l k) _
      rw [if_neg c]
      exact rows_find tl
/-- d.get(k, x), d written -/
def tKGet (F : PySem.W.Frag) (w : World) (to ty tx : TE) : TE := fun σ H Q => to σ H fun x H1 => ∃ d kvs, x = .ref d ∧ TxDict F w d kvs ∧ ty σ H1 fun y H2 => ∃ k, y = .str k ∧ tx σ H2 fun z H3 => Q ((txAt kvs k).getD z) H3
section
variable {X : Cx} {o e f : Expr} {apos cpos : Pos} {to ty tx : TE}
theorem pe_kget (ho : PE X o to) (he : PE X e ty) (hf : PE X f tx) (m : M2 X o "get" apos e f cpos) : PE X (.Call (.Attribute o "get" apos) [e, f] [] cpos) (tKGet X.K X.w to ty tx) := by
  refine ⟨fun pn s σ H Q J h => ?_⟩
  refine wpAny_Call_method m.base m.few m.line PySem.F.plainAttrs_dict PySem.F.slot_dict_get PySem.F.type_dict_get (thn (ho.run pn s σ H _ J h) fun u s1 ⟨x, H1, J1, rx, d, kvs, ex, ⟨low, es, n, at_, lit, rows⟩, q1⟩ => ?_)
  subst ex
  obtain rfl : u = Value.ref d := rx
  have here := J1.kIn _ _ at_
  refine ⟨⟨_, here, rfl⟩, fun b q => ?_, ?_⟩
  · cases q
    exact ⟨_, here, rfl⟩
  rw [m.trees]
  refine Calls.callWith_builtin rfl (Calls.evalArgs_plain (Calls.spliced_cons (thn (he.run pn s1 σ H1 _ J1 q1) fun kv s2 ⟨y, H2, J2, ry, k, ey, q2⟩ =>
    Calls.spliced_cons (thn (hf.run pn s2 σ H2 _ J2 q2) fun dv s3 ⟨z, H3, J3, rz, q3⟩ => Calls.spliced_nil ?_))))
  subst ey
  obtain ⟨tk, rfl⟩ := (show ∃ t, kv = Value.str k t from ry)
  have map := PySem.W.mapOf_K (prog := X.prog) (w := X.w) J3.kIn at_ lit
  refine call_meetsIn PySem.F.slot_dict_get map.typeIs PySem.F.entry_dict_get (PySem.F.args_dict_get_3 _ _ _) (meets_dict_get_default (strKind X.prog X.w) d (strKind_is X.prog X.w k tk) low dv) ⟨_, map, ?_⟩
  refine ⟨_, H3, J3.tok _, ?_, q3⟩
  have rel := rows_find (k := k) rows
  have e1 : findBy Value.isStrOf es k = (es.toList.find? fun e => Value.isStrOf k e.key).map (·.val) := by
    obtain ⟨l⟩ := es
    unfold findBy
    rw [List.find?_toArray]
  rw [e1]
  cases c : txAt kvs k with
  | none =>
    rw [c] at rel
    cases c2 : (es.toList.find? fun e => Value.isStrOf k e.key).map (·.val) with
    | none => exact rz
    | some u =>
      rw [c2] at rel
      exact rel.elim
  | some v =>
    rw [c] at rel
    cases c2 : (es.toList.find? fun e => Value.isStrOf k e.key).map (·.val) with
    | none =>
      rw [c2] at rel
      exact rel.elim
    | some u =>
      rw [c2] at rel
      exact rel
end
end VA

namespace RL
open PySem L2 SX AddrMath VA
/-! ## the program's reader of rule texts -/
abbrev slash : Str := "/"
abbrev blank : Str := " "
abbrev dots : Str := ".."
def holeRows : List (Str × V) := [("1", .int 1), ("2", .int 2)]
/-- the hole that a part is, without a bound -/
def holeP (p : Str) : Option PyData := if p = ("1" : Str) then some (.int 1) else if p = ("2" : Str) then some (.int 2) else none
/-- the entry that a part is -/
def entP (p : Str) : Option PyData := if isW p.cps.toList = true then some (.str p) else holeP p
def optE : Option PyData → V
  | some d => entV d
  | none => .non
theorem hole_at (p : Str) : (txAt holeRows p).getD .non = optE (holeP p) := by
  show Option.getD (if ("1" : Str) = p then some (V.int 1) else if ("2" : Str) = p then some (V.int 2) else none) V.non = _
  unfold holeP
  by_cases h1 : p = ("1" : Str)
  · rw [if_pos h1.symm, if_pos h1]
    rfl
  · rw [if_neg (Ne.symm h1), if_neg h1]
    by_cases h2 : p = ("2" : Str)
    · rw [if_pos h2.symm, if_pos h2]
      rfl
    · rw [if_neg (Ne.symm h2), if_neg h2]
      rfl
/-- entries and whether the path is exact, of the parts -/
def partsP (ps : List Str) : Option (List PyData × Bool) :=
  let x := !decide (ps.getLast? = some dots)
  let qs := if x then ps else ps.dropLast
  if qs.all (fun p => (entP p).isSome) then some (qs.filterMap entP, x) else none
def pathP (t : Str) : Option (List PyData × Bool) := if t = slash then some ([], true) else if Txt.startswith t slash = true then partsP (Txt.split (Txt.slice t (some 1) none) slash) else none
def PathV (K : PySem.W.Frag) (H : Hp) : Option (List PyData × Bool) → V → Prop
  | none, v => v = .non
  | some (ds, x), v => ∃ p tp, v = .ref p ∧ SqT K H p [.ref tp, .bl x] ∧ SqT K H tp (ds.map entV)
theorem PathV.same {K : PySem.W.Frag} {H H' : Hp} {o : Option (List PyData × Bool)} {v : V} (h : PathV K H o v) (s : Same H H') : PathV K H' o v := by
  match o, h with
  | none, h => exact h
  | some (ds, x), ⟨p, tp, e, h1, h2⟩ => exact ⟨p, tp, e, same_seqT s h1, same_seqT s h2⟩
theorem holeP_int {p : Str} {d : PyData} (h : holeP p = some d) : d = .int 1 ∨ d = .int 2 := by
  unfold holeP at h
  by_cases h1 : p = ("1" : Str)
  · rw [if_pos h1] at h
    cases h
    exact .inl rfl
  · rw [if_neg h1] at h
    by_cases h2 : p = ("2" : Str)
    · rw [if_pos h2] at h
      cases h
      exact .inr rfl
    · rw [if_neg h2] at h
      cases h
theorem entP_ent {p : Str} {d : PyData} (h : entP p = some d) : isEntD d = true := by
  unfold entP at h
  by_cases c : isW p.cps.toList = true
  · rw [if_pos c] at h
    cases h
    show (isW p.cps.toList || false) = true
    rw [c]
    rfl
  · rw [if_neg c] at h
    rcases holeP_int h with rfl | rfl <;> rfl
theorem optE_flat (o : Option PyData) (h : ∀ d, o = some d → isEntD d = true) : flatV (optE o) = true ∧ eqV (optE o) .non = o.isNone := by
  cases o with
  | none => exact ⟨rfl, rfl⟩
  | some d =>
    have := h d rfl
    cases d <;> first | exact ⟨rfl, rfl⟩ | cases this
theorem none_in : ∀ ps : List Str, inV .non (ps.map fun p => optE (entP p)) = !ps.all (fun p => (entP p).isSome)
  | [] => rfl
  | p :: ps => by
    have e := (optE_flat (entP p) fun d h => entP_ent h).2
    have ih := none_in ps
    unfold inV at ih ⊢
    rw [List.map_cons, List.any_cons, ih, List.all_cons, e]
    cases entP p <;> rfl
theorem all_flat (ps : List Str) : (ps.map fun p => optE (entP p)).all flatV = true := by
  rw [List.all_eq_true]
  intro v hv
  obtain ⟨p, _, rfl⟩ := List.mem_map.mp hv
  exact (optE_flat (entP p) fun d h => entP_ent h).1
theorem ents_of : ∀ {ps : List Str}, ps.all (fun p => (entP p).isSome) = true → (ps.map fun p => optE (entP p)) = (ps.filterMap entP).map entV
  | [], _ => rfl
  | p :: ps, h => by
    rw [List.all_cons, Bool.and_eq_true] at h
    obtain ⟨d, hd⟩ := Option.isSome_iff_exists.mp h.1
    rw [List.map_cons, ents_of h.2, List.filterMap_cons_some hd, List.map_cons, hd]
    rfl
theorem partsP_ents {ps : List Str} {ds : List PyData} {x : Bool} (h : partsP ps = some (ds, x)) : ds.all isEntD = true ∧ ds.length ≤ ps.length := by
  have key : ∀ (qs : List Str) (y : Bool), qs.length ≤ ps.length → (if qs.all (fun p => (entP p).isSome) then some (qs.filterMap entP, y) else none) = some (ds, x) → ds.all isEntD = true ∧ ds.length ≤ ps.length := by
    intro qs y hl h
    by_cases c : qs.all (fun p => (entP p).isSome) = true
    · rw [if_pos c] at h
      obtain ⟨rfl, rfl⟩ := Prod.mk.inj (Option.some.inj h)
      refine ⟨?_, Nat.le_trans (List.length_filterMap_le _ _) hl⟩
      rw [List.all_eq_true]
      intro d hd
      obtain ⟨p, _, e⟩ := List.mem_filterMap.mp hd
      exact entP_ent e
    · rw [if_neg c] at h
      cases h
  unfold partsP at h
  by_cases c : ps.getLast? = some dots
  · rw [decide_eq_true c] at h
    exact key _ _ (by show ps.dropLast.length ≤ _; rw [List.length_dropLast]; omega) h
  · rw [decide_eq_false c] at h
    exact key _ _ (Nat.le_refl _) h
section
variable {P : Program} {w : World} {K : PySem.W.Frag} {mg : Str → Option Value} {base : Heap}
/-! ### is_word of texts of any length -/
def spIsWordS : Sp := fun vs H Q _ => ∃ z : Str, vs = [.str z] ∧ z.length ≤ 1000000 ∧ Q (.bl (isW z.cps.toList)) H
theorem ok_iswordS {f : Addr} {fd : FuncData} {t : Tok} (F : Fun K "is_word" "is_word" sIsWord f fd) (B : Blt mg) (mL : mg "LETTERS" = some (.int 8 t)) : FnOk P w K mg base CX0 1 f fd ["value"] spIsWordS := by
  refine F.ok scIsWord (fun vs H Q E h => ?_) (fun cdv A outer s H vs Q E hr h => ?_)
  · obtain ⟨z, rfl, _⟩ := h
    rfl
  · obtain ⟨z, rfl, hz, q⟩ := h
    refine ⟨_, (pss_cons (ps_if (pt_not (pt_val (pe_callB call_isi (by rfl) B.isinstance_ (by decide +kernel) (pa_cons (pv 0) (pa_cons (pe_bltn (v := .ty "str") (by rfl) B.str_ (by decide +kernel) rfl) pa_nil))))) (pss_one (ps_ret pe_bl)) pss_nil)
      (pss_one (ps_ret (pe_and (pe_chain op_le op_le pe_int (pe_callB call_len_str (by rfl) B.len_ (by decide +kernel) (pa_cons (pv 0) pa_nil)) (pe_glob (v := .int 8) rfl mL ⟨_, rfl⟩)) (pe_and (pe_m0 PySem.F.slot_str_isascii PySem.F.type_str_isascii mt_isascii (pv 0)) (pe_and (pe_m0 PySem.F.slot_str_isalpha PySem.F.type_str_isalpha mt_isalpha (pv 0)) (pe_one (pe_m0 PySem.F.slot_str_islower PySem.F.type_str_islower mt_islower (pv 0))))))))), ?_⟩
    refine ⟨_, rfl, _, _, _, _, true, rfl, .ty "str", .base (.str z), kitStr (.str z), _, rfl, iteF ?_⟩
    refine ⟨_, rfl, _, rfl, size_ok (by omega), _, _, rfl, rfl, _, rfl, if_is (fun h1 => ?_) (fun h1 => ?_)⟩
    · have h1' : (1 : Int) ≤ (z.length : Int) := of_decide_eq_true h1
      refine ⟨_, _, rfl, rfl, _, rfl, if_is (fun h8 => ?_) (fun h8 => ?_)⟩
      · have h8' : (z.length : Int) ≤ 8 := of_decide_eq_true h8
        have e2 := word_txt z (by omega) (by omega)
        refine ⟨_, rfl, ⟨_, rfl⟩, _, rfl, rfl, trivial, _, rfl, if_is (fun a1 => ?_) (fun a1 => ?_)⟩
        · refine ⟨_, rfl, ⟨_, rfl⟩, _, rfl, rfl, trivial, _, rfl, if_is (fun a2 => ?_) (fun a2 => ?_)⟩
          · refine ⟨_, rfl, ⟨_, rfl⟩, _, rfl, rfl, trivial, ?_⟩
            rw [a1, a2, Bool.true_and, Bool.true_and] at e2
            rw [e2]
            exact q
          · rw [a1, a2, Bool.true_and, Bool.false_and] at e2
            rw [e2]
            exact q
        · rw [a1, Bool.false_and] at e2
          rw [e2]
          exact q
      · have : isW z.cps.toList = false := Bool.eq_false_iff.mpr fun y => by
          have := word_len y
          have := of_decide_eq_false h8
          omega
        rw [this] at q
        exact q
    · have : isW z.cps.toList = false := Bool.eq_false_iff.mpr fun y => by
        have := word_len y
        have := of_decide_eq_false h1
        omega
      rw [this] at q
      exact ⟨_, rfl, iteF q⟩
/-! ### hole_in: slots part 0, is_free 1, hole 2 -/
abbrev sHoleIn : Stmt := top 40
theorem scHoleIn : FnScope ["part", "is_free", "hole"] ["part", "is_free"] (defScope sHoleIn) := ⟨rfl, rfl, rfl, by decide +kernel, rfl, by decide +kernel, by decide +kernel⟩
def spHoleIn : Sp := fun vs H Q _ => ∃ p : Str, vs = [.str p, .bl false] ∧ Q (optE (holeP p)) H
/-! ### number_in is not asked: slots text 0, digits 1 -/
abbrev sNumberIn : Stmt := top 16
theorem scNumberIn : FnScope ["text", "digits"] ["text", "digits"] (defScope sNumberIn) := ⟨rfl, rfl, rfl, by decide +kernel, rfl, by decide +kernel, by decide +kernel⟩
def spNo : Sp := fun _ _ _ _ => False
theorem ok_numin {f : Addr} {fd : FuncData} (F : Fun K "number_in" "number_in" sNumberIn f fd) : FnOk P w K mg base CX0 1 f fd ["text", "digits"] spNo :=
  F.ok scNumberIn (fun vs H Q E h => h.elim) fun cdv A outer s H vs Q E hr h => h.elim
theorem ok_holein {f hd : Addr} {fd : FuncData} {t : Tok} (F : Fun K "hole_in" "hole_in" sHoleIn f fd) (number_in : Own P w K mg base CX0 1 "number_in" ["text", "digits"] spNo) (mH : mg "HOLES" = some (.ref hd)) (TD : TxDict K w hd holeRows) (mD : mg "HOLE_DIGITS" = some (.int 100 t)) :
    FnOk P w K mg base CX0 2 f fd ["part", "is_free"] spHoleIn := by
  refine F.ok scHoleIn (fun vs H Q E h => ?_) (fun cdv A outer s H vs Q E hr h => ?_)
  · obtain ⟨p, rfl, _⟩ := h
    rfl
  · obtain ⟨p, rfl, q⟩ := h
    refine ⟨_, (pss_cons (ps_if (pt_not (pt_val (pv 1))) (pss_one (ps_ret (pe_kget (pe_glob (v := .ref hd) (by rfl) mH rfl) (pv 0) pe_non ⟨rfl, by rfl, rfl, rfl⟩))) pss_nil)
      (pss_cons (ps_set (i := 2) scHoleIn.nd rfl (Or.inl rfl) (pe_call number_in.g (hr.mono (by decide)) rfl number_in.mg number_in.kp number_in.b .nil pass0 (pa_cons (pv 0) (pa_cons (pe_glob (v := .int 100) rfl mD ⟨_, rfl⟩) pa_nil))))
      (pss_one (ps_ret (pe_ifExp (pt_cmpR op_eq (pv 2) pe_int (nomark _)) pe_non (pv 2)))))), ?_⟩
    refine ⟨_, rfl, _, rfl, iteT ⟨hd, holeRows, rfl, TD, _, rfl, p, rfl, ?_⟩⟩
    show Q ((txAt holeRows p).getD .non) H
    rw [hole_at]
    exact q
/-! ### parsed_path: slots text 0, is_free 1, parts 2, is_exact 3, part 4, entries 5 cells is_free -/
abbrev sParsedPath : Stmt := top 41
theorem scParsedPath : FnScope ["text", "is_free", "parts", "is_exact", "part", "entries"] ["text", "is_free"] (defScope sParsedPath) := ⟨rfl, rfl, rfl, by decide +kernel, rfl, by decide +kernel, by decide +kernel⟩
def spParsedPath (K : PySem.W.Frag) : Sp := fun vs H Q _ => ∃ t : Str, vs = [.str t, .bl false] ∧ t.length ≤ 100000 ∧ ∀ v H', Same H H' → PathV K H' (pathP t) v → Q v H'
/-- the last part is left out where it is the dots -/
def tInit (K : PySem.W.Frag) : TS := fun D σ H => ∃ (a : Addr) (ps : List Str) (x : Bool) (s0 s1 s4 s5 : Option V), σ = [s0, s1, some (.ref a), some (.bl x), s4, s5] ∧ SqL K H a (ps.map V.str) ∧ 0 < ps.length ∧
  ∀ b H', Same H H' → SqL K H' b ((if x then ps else ps.dropLast).map V.str) → D.nx [s0, s1, some (.ref b), some (.bl x), s4, s5] H'
theorem ok_parsedpath {f : Addr} {fd : FuncData} (F : Fun K "parsed_path" "parsed_path" sParsedPath f fd) (B : Blt mg) (is_wordS : Own P w K mg base CX0 1 "is_word" ["value"] spIsWordS) (hole_in : Own P w K mg base CX0 2 "hole_in" ["part", "is_free"] spHoleIn) :
    FnOk P w K mg base CX0 3 f fd ["text", "is_free"] (spParsedPath K) := by
  refine F.ok scParsedPath (fun vs H Q E h => ?_) (fun cdv A outer s H vs Q E hr h => ?_)
  · obtain ⟨t, rfl, _⟩ := h
    rfl
  · obtain ⟨t, rfl, hl, q⟩ := h
    refine ⟨_, (pss_cons (ps_if (pt_cmpR op_eq (pv 0) pe_str (nomark _)) (pss_one (ps_ret (pe_tup (pa_cons (pe_tup pa_nil) (pa_cons pe_bl pa_nil))))) pss_nil)
      (pss_cons (ps_if (pt_not (pt_val (pe_m1 PySem.F.slot_str_startswith PySem.F.type_str_startswith mt_startswith (pv 0) pe_str))) (pss_one (ps_ret pe_non)) pss_nil)
      (pss_cons (ps_set (i := 2) scParsedPath.nd rfl (Or.inl rfl) (pe_split (pe_slice C8.sl_txt (pv 0) (po_some pe_int) po_none) pe_str))
      (pss_cons (ps_set (i := 3) scParsedPath.nd rfl (Or.inl rfl) (pe_cmpR op_ne (pe_ix ix_list (pv 2) (pe_un un_neg pe_int) (fun _ _ => rfl)) pe_str (nomark _)))
      (pss_cons (ps_by (tInit K) (ps_if (pt_not (pt_val (pv 3))) (pss_one (ps_set (i := 2) scParsedPath.nd rfl (Or.inl rfl) (pe_slice sl_list (pv 2) po_none (po_some (pe_un un_neg pe_int))))) pss_nil) (fun D σ H h => ?init))
      (pss_cons (ps_set (i := 5) scParsedPath.nd rfl (Or.inl rfl) (pe_callTy call_tuple_of (by rfl) B.tuple_ (by decide +kernel) (pa_cons (pe_lc (own := [("part", 4)]) (g := gName 4) (tt := tYes) rfl scParsedPath.nd (pi_seq (pv 2))
          (blkOk_by (own := [("part", 4)]) (N := ["text", "is_free", "parts", "is_exact", "part", "entries"]) (sc := defScope sParsedPath) (by decide +kernel))
          (fun _ _ _ _ _ => (pg_name (i := 4) scParsedPath.nd rfl (Or.inl rfl))) (fun _ _ _ _ _ => pts_nil)
          (fun _ _ _ _ _ => (pe_ifExp (pt_val (pe_call is_wordS.g (hr.mono (by decide)) rfl is_wordS.mg is_wordS.kp is_wordS.b .nil pass0 (pa_cons (pv 4) pa_nil))) (pv 4) (pe_call hole_in.g (hr.mono (by decide)) rfl hole_in.mg hole_in.kp hole_in.b .nil pass0 (pa_cons (pv 4) (pa_cons (pv 1) pa_nil)))))) pa_nil)))
      (pss_one (ps_ret (pe_ifExp (pt_cmpR op_in_seq pe_non (pv 5) (by with_unfolding_all rfl)) pe_non (pe_tup (pa_cons (pv 5) (pa_cons (pv 3) pa_nil)))))))))))), ?_⟩
    case init =>
      obtain ⟨a, ps, x, s0, s1, s4, s5, rfl, ha, l0, k⟩ := h
      refine ⟨_, rfl, _, rfl, if_is (fun e => ?_) (fun e => ?_)⟩
      · cases x with
        | true => cases e
        | false =>
          refine ⟨_, rfl, 1, rfl, -1, rfl, a, _, rfl, ha, fun b nb => ?_⟩
          refine k b _ (same_new nb) (.inl (.inl ?_))
          rw [upd_same, cut_init (by rw [List.length_map]; exact l0), ← List.map_dropLast]
          rfl
      · cases x with
        | false => cases e
        | true => exact k a H (Same.refl H) ha
    refine ⟨_, rfl, rfl, _, rfl, if_is (fun e => ?_) (fun e => ?_)⟩
    · have e' : t = slash := V.str.inj (of_decide_eq_true e)
      refine ⟨Nat.zero_le _, fun tp nt => ⟨by show 2 ≤ sizeLine; decide, fun p np => ?_⟩⟩
      have s1 : Same H (upd H tp (.tup [])) := same_new nt
      refine q _ _ (s1.trans (same_new np)) ?_
      unfold pathP
      rw [if_pos e']
      exact ⟨p, tp, rfl, .inl (.inl upd_same), .inl (.inl (same_new np _ _ upd_same))⟩
    · have e' : ¬ t = slash := fun z => by
        rw [z] at e
        cases of_decide_eq_false e rfl
      refine ⟨_, rfl, ⟨_, rfl⟩, t, slash, rfl, rfl, _, rfl, ?_⟩
      cases c : Txt.startswith t slash with
      | false =>
        refine iteT (q _ _ (Same.refl H) ?_)
        unfold pathP
        rw [if_neg e', c]
        rfl
      | true =>
        have hp : pathP t = partsP (Txt.split (Txt.slice t (some 1) none) slash) := by
          unfold pathP
          rw [if_neg e', if_pos c]
        rw [hp] at q
        clear hp
        refine iteF ?_
        have hsl : (Txt.slice t (some 1) none).length ≤ 100000 := by
          rw [← C8.cutS_slice]
          exact Nat.le_trans (cutS_length _ _ _) hl
        refine ⟨_, rfl, _, rfl, t, rfl, size_ok (by omega), ⟨_, rfl⟩, _, slash, rfl, rfl, rfl, size_ok (by omega), fun a na => ?_⟩
        obtain ⟨ps, eps⟩ : ∃ ps, Txt.split (Txt.slice t (some 1) none) slash = ps := ⟨_, rfl⟩
        have lps : 1 ≤ ps.length ∧ ps.length ≤ 100002 := by
          have := PyProof.Rows.fact_split (Txt.slice t (some 1) none) slash
          rw [eps] at this
          omega
        have short : ∀ p ∈ ps, p.length ≤ 1000000 := fun p hp => by
          have := PyProof.Rows.part_short (x := Txt.slice t (some 1) none) (y := slash) (by rw [eps]; exact hp)
          omega
        rw [eps] at q ⊢
        obtain ⟨z, hz⟩ : ∃ z, ps.getLast? = some z := by
          cases hz : ps.getLast? with
          | some z => exact ⟨z, rfl⟩
          | none =>
            rw [List.getLast?_eq_none_iff] at hz
            rw [hz] at lps
            exact absurd lps.1 (by decide)
        have ha : SqL K (upd H a (.lst (ps.map V.str))) a (ps.map V.str) := .inl (.inl upd_same)
        have s1 : Same H (upd H a (.lst (ps.map V.str))) := same_new na
        generalize upd H a (.lst (ps.map V.str)) = G at ha s1 ⊢
        refine ⟨_, rfl, 1, rfl, a, _, -1, .str z, rfl, rfl, ha, at_last (by rw [List.getLast?_map, hz]; rfl), rfl, ?_⟩
        have ex : (!decide (V.str z = V.str dots)) = !decide (ps.getLast? = some dots) := by
          rw [hz]
          congr 1
          exact decide_eq_decide.mpr ⟨fun e => by rw [V.str.inj e], fun e => by rw [Option.some.inj e]⟩
        refine ⟨a, ps, !decide (ps.getLast? = some dots), some (.str t), some (.bl false), none, none, ?_, ha, lps.1, fun b G2 s2' hb => ?_⟩
        · show _ = _
          rw [← ex]
          rfl
        have hx : ∀ x : Bool, (!decide (ps.getLast? = some dots)) = x → x = true ∨ x = false := fun x _ => by cases x <;> simp
        obtain ⟨qs, eqs⟩ : ∃ qs, (if (!decide (ps.getLast? = some dots)) = true then ps else ps.dropLast) = qs := ⟨_, rfl⟩
        have shortQ : ∀ p ∈ qs, p.length ≤ 1000000 := fun p hp => by
          rw [← eqs] at hp
          split at hp
          · exact short p hp
          · exact short p (List.dropLast_subset _ hp)
        have lqs : qs.length ≤ 100002 := by
          rw [← eqs]
          split
          · exact lps.2
          · rw [List.length_dropLast]
            omega
        have hpp : partsP ps = if qs.all (fun p => (entP p).isSome) = true then some (qs.filterMap entP, !decide (ps.getLast? = some dots)) else none := by
          rw [← eqs]
          rfl
        rw [eqs] at hb
        rw [hpp] at q
        clear hpp ex hz
        obtain ⟨x, hxx⟩ : ∃ x, (!decide (ps.getLast? = some dots)) = x := ⟨_, rfl⟩
        rw [hxx] at q ⊢
        refine ⟨_, rfl, ?_⟩
        refine seq_mapL (.inl hb) (by rw [List.length_map]; omega) (fun _ => true) (fun v => match v with | .str p => optE (entP p) | v => v) ?hw (fun v hm H2 s2 => ⟨fun R hR => no_test hR, fun _ H3 s3 R hR => ?_⟩) fun D H2 nD hD s2 => ?_
        case hw => intro _; rfl
        · obtain ⟨p, hp, rfl⟩ := List.mem_map.mp hm
          have q3 : R (optE (entP p)) H3 := hR H3 (Same.refl H3)
          unfold entP at q3
          refine ⟨_, rfl, p, rfl, shortQ p hp, _, rfl, if_is (fun e1 => ?_) (fun e1 => ?_)⟩
          · rw [if_pos e1] at q3
            exact ⟨_, rfl, q3⟩
          · rw [if_neg (by rw [e1]; decide)] at q3
            exact ⟨_, rfl, _, rfl, p, rfl, q3⟩
        · have hD' : H2 D = some (.lst (qs.map fun p => optE (entP p))) := by
            rw [hD, filter_yes, List.map_map]
            rfl
          refine ⟨D, _, rfl, .inl ⟨.inl (.inl hD'), fun l nl => ?_⟩⟩
          have s3 : Same H2 (upd H2 l (.tup (qs.map fun p => optE (entP p)))) := same_new nl
          have hl2 : SqT K (upd H2 l (.tup (qs.map fun p => optE (entP p)))) l (qs.map fun p => optE (entP p)) := .inl (.inl upd_same)
          have sA := ((s1.trans s2').trans s2).trans s3
          generalize upd H2 l (.tup (qs.map fun p => optE (entP p))) = H3 at hl2 s3 sA ⊢
          refine ⟨_, rfl, l, _, rfl, .inr hl2, rfl, all_flat qs, _, rfl, ?_⟩
          rw [if_neg (by decide), none_in]
          cases c2 : qs.all (fun p => (entP p).isSome) with
          | false =>
            rw [c2, if_neg (by decide)] at q
            exact iteT (q _ _ sA rfl)
          | true =>
            rw [c2, if_pos rfl] at q
            rw [ents_of c2] at hl2
            refine iteF ⟨_, rfl, _, rfl, by show 2 ≤ sizeLine; decide, fun p np => ?_⟩
            exact q _ _ (sA.trans (same_new np)) ⟨p, l, rfl, .inl (.inl upd_same), same_seqT (same_new np) hl2⟩
end
end RL

namespace RL
open PySem L2 SX AddrMath VA
abbrev stays : Str := "stays"
abbrev toward : Str := "to"
/-- what a text of a rule says: state, pattern, goal, whether it is exact -/
abbrev Said := Str × List PyData × Option (Str × List PyData) × Bool
def isShort : List Str → Bool
  | [_, _, c] => decide (c = stays)
  | _ => false
def isLong : List Str → Bool
  | [_, _, c, d, _] => decide (c = toward) && isW d.cps.toList
  | _ => false
def sidesP (a b : Str) (g : Option (Str × Str)) : Option Said := match pathP b with
  | none => none
  | some (ds, x) => if isW a.cps.toList = true then (match g with
      | none => some (a, ds, none, x)
      | some (d, e) => match pathP e with
        | none => none
        | some (es, y) => if y = x then some (a, ds, some (d, es), x) else none) else none
def lineP : List Str → Option Said
  | [a, b, c] => if c = stays then sidesP a b none else none
  | [a, b, c, d, e] => if (decide (c = toward) && isW d.cps.toList) = true then sidesP a b (some (d, e)) else none
  | _ => none
def ruleP (z : Str) : Option Said := lineP (Txt.split z blank)
def readP : V → Option Said
  | .str z => ruleP z
  | _ => none
def GoalV (K : PySem.W.Frag) (H : Hp) : Option (Str × List PyData) → V → Prop
  | none, v => v = .non
  | some (d, es), v => ∃ g te, v = .ref g ∧ SqT K H g [.str d, .ref te] ∧ SqT K H te (es.map entV)
def SaidV (K : PySem.W.Frag) (H : Hp) : Option Said → V → Prop
  | none, v => v = .non
  | some (a, ds, g, x), v => ∃ p tp gv, v = .ref p ∧ SqT K H p [.str a, .ref tp, gv, .bl x] ∧ SqT K H tp (ds.map entV) ∧ GoalV K H g gv
theorem GoalV.same {K : PySem.W.Frag} {H H' : Hp} {o : Option (Str × List PyData)} {v : V} (h : GoalV K H o v) (s : Same H H') : GoalV K H' o v := by
  match o, h with
  | none, h => exact h
  | some (d, es), ⟨g, te, e, h1, h2⟩ => exact ⟨g, te, e, same_seqT s h1, same_seqT s h2⟩
theorem SaidV.same {K : PySem.W.Frag} {H H' : Hp} {o : Option Said} {v : V} (h : SaidV K H o v) (s : Same H H') : SaidV K H' o v := by
  match o, h with
  | none, h => exact h
  | some (a, ds, g, x), ⟨p, tp, gv, e, h1, h2, h3⟩ => exact ⟨p, tp, gv, e, same_seqT s h1, same_seqT s h2, h3.same s⟩
theorem line_other {ps : List Str} (h3 : ps.length ≠ 3) (h5 : ps.length ≠ 5) : isShort ps = false ∧ isLong ps = false ∧ lineP ps = none := by
  match ps, h3, h5 with
  | [], _, _ => exact ⟨rfl, rfl, rfl⟩
  | [_], _, _ => exact ⟨rfl, rfl, rfl⟩
  | [_, _], _, _ => exact ⟨rfl, rfl, rfl⟩
  | [_, _, _], h, _ => exact absurd rfl h
  | [_, _, _, _], _, _ => exact ⟨rfl, rfl, rfl⟩
  | [_, _, _, _, _], _, h => exact absurd rfl h
  | _ :: _ :: _ :: _ :: _ :: _ :: _, _, _ => exact ⟨rfl, rfl, rfl⟩
/-- what a line of the one or the other kind has in its places -/
theorem line_cases (ps : List Str) : (isShort ps = false ∧ isLong ps = false ∧ lineP ps = none) ∨
    ∃ (a b : Str) (g : Option (Str × Str)), atI (ps.map V.str) 0 = some (V.str a) ∧ atI (ps.map V.str) 1 = some (V.str b) ∧ a ∈ ps ∧ b ∈ ps ∧ lineP ps = sidesP a b g ∧
      ((isShort ps = true ∧ g = none) ∨ (isShort ps = false ∧ isLong ps = true ∧ ∃ d e, g = some (d, e) ∧ atI (ps.map V.str) 3 = some (V.str d) ∧ atI (ps.map V.str) 4 = some (V.str e) ∧ e ∈ ps)) := by
  match ps with
  | [] => exact .inl ⟨rfl, rfl, rfl⟩
  | [_] => exact .inl ⟨rfl, rfl, rfl⟩
  | [_, _] => exact .inl ⟨rfl, rfl, rfl⟩
  | [a, b, c] =>
    by_cases h : c = stays
    · refine .inr ⟨a, b, none, rfl, rfl, by simp, by simp, if_pos h, .inl ⟨decide_eq_true h, rfl⟩⟩
    · exact .inl ⟨decide_eq_false h, rfl, if_neg h⟩
  | [_, _, _, _] => exact .inl ⟨rfl, rfl, rfl⟩
  | [a, b, c, d, e] =>
    cases h : decide (c = toward) && isW d.cps.toList with
    | true => exact .inr ⟨a, b, some (d, e), rfl, rfl, by simp, by simp, if_pos h, .inr ⟨rfl, h, d, e, rfl, rfl, rfl, by simp⟩⟩
    | false => exact .inl ⟨rfl, h, if_neg (by rw [h]; decide)⟩
  | _ :: _ :: _ :: _ :: _ :: _ :: _ => exact .inl ⟨rfl, rfl, rfl⟩
section
variable {P : Program} {w : World} {K : PySem.W.Frag} {mg : Str → Option Value} {base : Heap}
/-! ### parsed: slots text 0, is_free 1, parts 2, is_short 3, side 4, pattern 5, is_exact 6 -/
abbrev sParsed : Stmt := top 42
theorem scParsed : FnScope ["text", "is_free", "parts", "is_short", "side", "pattern", "is_exact"] ["text", "is_free"] (defScope sParsed) := ⟨rfl, rfl, rfl, by decide +kernel, rfl, by decide +kernel, by decide +kernel⟩
/-- a text that is not too long, or what is no text -/
def TextOr (K : PySem.W.Frag) (H : Hp) (v : V) : Prop := (∃ d, Vx K H v d ∧ isStrD d = false) ∨ ∃ z, v = .str z ∧ z.length ≤ 4000
def spParsed (K : PySem.W.Frag) : Sp := fun vs H Q _ => ∃ v, vs = [v, .bl false] ∧ TextOr K H v ∧ ∀ u H', Same H H' → SaidV K H' (readP v) u → Q u H'
/-- whether the parts are a short line -/
def tShort (K : PySem.W.Frag) : TE := fun σ H Q => ∃ (a : Addr) (ps : List Str), σ[2]? = some (some (.ref a)) ∧ SqL K H a (ps.map V.str) ∧ Q (.bl (isShort ps)) H
/-- whether they are none at all -/
def tNoLine (K : PySem.W.Frag) : TT := fun σ H R => ∃ (a : Addr) (ps : List Str), σ[2]? = some (some (.ref a)) ∧ σ[3]? = some (some (.bl (isShort ps))) ∧ SqL K H a (ps.map V.str) ∧ (∀ p ∈ ps, p.length ≤ 1000000) ∧ R (!isShort ps && !isLong ps) H
theorem ok_parsed {f : Addr} {fd : FuncData} (F : Fun K "parsed" "parsed" sParsed f fd) (B : Blt mg) (is_wordS : Own P w K mg base CX0 1 "is_word" ["value"] spIsWordS) (parsed_path : Own P w K mg base CX0 3 "parsed_path" ["text", "is_free"] (spParsedPath K)) :
    FnOk P w K mg base CX0 4 f fd ["text", "is_free"] (spParsed K) := by
  refine F.ok scParsed (fun vs H Q E h => ?_) (fun cdv A outer s H vs Q E hr h => ?_)
  · obtain ⟨v, rfl, _⟩ := h
    rfl
  · obtain ⟨v, rfl, hv, q⟩ := h
    refine ⟨_, (pss_cons (ps_if (pt_not (pt_val (pe_callB call_isi (by rfl) B.isinstance_ (by decide +kernel) (pa_cons (pv 0) (pa_cons (pe_bltn (v := .ty "str") (by rfl) B.str_ (by decide +kernel) rfl) pa_nil))))) (pss_one (ps_ret pe_non)) pss_nil)
      (pss_cons (ps_set (i := 2) scParsed.nd rfl (Or.inl rfl) (pe_split (pv 0) pe_str))
      (pss_cons (ps_set (i := 3) scParsed.nd rfl (Or.inl rfl) (pe_by (tShort K) (pe_and (pe_cmpR op_eq (pe_callB call_len (by rfl) B.len_ (by decide +kernel) (pa_cons (pv 2) pa_nil)) pe_int (nomark _)) (pe_one (pe_cmpR op_eq (pe_ix ix_list (pv 2) pe_int (fun _ _ => rfl)) pe_str (nomark _)))) (fun σ H Q h => ?short)))
      (pss_cons (ps_if (pt_by (tNoLine K) (PW.pt (pw_and (pt_not (pt_val (pv 3))) (pw_and1 (pt_not (PW.pt (pw_and (pt_cmpR op_eq (pe_callB call_len (by rfl) B.len_ (by decide +kernel) (pa_cons (pv 2) pa_nil)) pe_int (nomark _)) (pw_and (pt_cmpR op_eq (pe_ix ix_list (pv 2) pe_int (fun _ _ => rfl)) pe_str (nomark _)) (pw_and1 (pt_val (pe_call is_wordS.g (hr.mono (by decide)) rfl is_wordS.mg is_wordS.kp is_wordS.b .nil pass0 (pa_cons (pe_ix ix_list (pv 2) pe_int (fun _ _ => rfl)) pa_nil))))))))))) (fun σ H R h => ?noline)) (pss_one (ps_ret pe_non)) pss_nil)
      (pss_cons (ps_set (i := 4) scParsed.nd rfl (Or.inl rfl) (pe_call parsed_path.g (hr.mono (by decide)) rfl parsed_path.mg parsed_path.kp parsed_path.b .nil pass0 (pa_cons (pe_ix ix_list (pv 2) pe_int (fun _ _ => rfl)) (pa_cons (pv 1) pa_nil))))
      (pss_cons (ps_if (PW.pt (pw_or (pt_cmpR op_isN (pv 4) pe_non (nomark _)) (pw_or1 (pt_not (pt_val (pe_call is_wordS.g (hr.mono (by decide)) rfl is_wordS.mg is_wordS.kp is_wordS.b .nil pass0 (pa_cons (pe_ix ix_list (pv 2) pe_int (fun _ _ => rfl)) pa_nil))))))) (pss_one (ps_ret pe_non)) pss_nil)
      (pss_cons (ps_asg (pv 4) (pg_tup rfl (pgs_cons (pg_name (i := 5) scParsed.nd rfl (Or.inl rfl)) (pgs_cons (pg_name (i := 6) scParsed.nd rfl (Or.inl rfl)) pgs_nil))))
      (pss_cons (ps_if (pt_val (pv 3)) (pss_one (ps_ret (pe_tup (pa_cons (pe_ix ix_list (pv 2) pe_int (fun _ _ => rfl)) (pa_cons (pv 5) (pa_cons pe_non (pa_cons (pv 6) pa_nil))))))) pss_nil)
      (pss_cons (ps_set (i := 4) scParsed.nd rfl (Or.inl rfl) (pe_call parsed_path.g (hr.mono (by decide)) rfl parsed_path.mg parsed_path.kp parsed_path.b .nil pass0 (pa_cons (pe_ix ix_list (pv 2) pe_int (fun _ _ => rfl)) (pa_cons (pv 1) pa_nil))))
      (pss_cons (ps_if (PW.pt (pw_or (pt_cmpR op_isN (pv 4) pe_non (nomark _)) (pw_or1 (pt_cmpR op_ne (pe_ix ix_tup (pv 4) pe_int (fun _ _ => rfl)) (pv 6) (nomark _))))) (pss_one (ps_ret pe_non)) pss_nil)
      (pss_one (ps_ret (pe_tup (pa_cons (pe_ix ix_list (pv 2) pe_int (fun _ _ => rfl)) (pa_cons (pv 5) (pa_cons (pe_tup (pa_cons (pe_ix ix_list (pv 2) pe_int (fun _ _ => rfl)) (pa_cons (pe_ix ix_tup (pv 4) pe_int (fun _ _ => rfl)) pa_nil))) (pa_cons (pv 6) pa_nil))))))))))))))))), ?_⟩
    case short =>
      obtain ⟨a, ps, e2, ha, k⟩ := h
      refine ⟨_, e2, _, ps.length, rfl, .inl ⟨_, ha, (List.length_map ..).symm⟩, rfl, _, rfl, if_is (fun e => ?_) (fun e => ?_)⟩
      · have l3 : ps.length = 3 := by
          have := V.int.inj (of_decide_eq_true e)
          omega
        match ps, l3 with
        | [x, y, z], _ =>
          refine ⟨_, e2, a, _, 2, .str z, rfl, rfl, ha, rfl, rfl, ?_⟩
          have : decide (V.str z = V.str stays) = decide (z = stays) := decide_eq_decide.mpr ⟨V.str.inj, fun e => by rw [e]⟩
          rw [this]
          exact k
      · have l3 : ps.length ≠ 3 := fun z => by
          rw [z] at e
          cases e
        have : isShort ps = false := by
          match ps, l3 with
          | [], _ => rfl
          | [_], _ => rfl
          | [_, _], _ => rfl
          | [_, _, _], h => exact absurd rfl h
          | _ :: _ :: _ :: _ :: _, _ => rfl
        rw [this] at k
        exact k
    case noline =>
      obtain ⟨a, ps, e2, e3, ha, sh, k⟩ := h
      refine ⟨_, e3, _, rfl, ?_⟩
      cases c : isShort ps with
      | true =>
        rw [c] at k
        exact k
      | false =>
        rw [c] at k
        refine ⟨_, e2, _, ps.length, rfl, .inl ⟨_, ha, (List.length_map ..).symm⟩, rfl, _, rfl, ?_⟩
        cases e : decide (V.int (ps.length : Int) = V.int 5) with
        | true =>
          have l5 : ps.length = 5 := by
            have := V.int.inj (of_decide_eq_true e)
            omega
          match ps, l5 with
          | [x, y, z, u, v], _ =>
            refine ⟨_, e2, a, _, 2, .str z, rfl, rfl, ha, rfl, rfl, _, rfl, ?_⟩
            have : decide (V.str z = V.str toward) = decide (z = toward) := decide_eq_decide.mpr ⟨V.str.inj, fun e => by rw [e]⟩
            rw [this]
            have k' : R (!(decide (z = toward) && isW u.cps.toList)) H := k
            cases c2 : decide (z = toward) with
            | false =>
              rw [c2] at k'
              exact k'
            | true =>
              rw [c2, Bool.true_and] at k'
              refine ⟨_, e2, a, _, 3, .str u, rfl, rfl, ha, rfl, u, rfl, sh u (by simp), _, rfl, ?_⟩
              cases c3 : isW u.cps.toList with
              | false =>
                rw [c3] at k'
                exact k'
              | true =>
                rw [c3] at k'
                exact k'
        | false =>
          have l5 : ps.length ≠ 5 := fun z => by
            rw [z] at e
            cases e
          have : isLong ps = false := by
            match ps, l5 with
            | [], _ => rfl
            | [_], _ => rfl
            | [_, _], _ => rfl
            | [_, _, _], _ => rfl
            | [_, _, _, _], _ => rfl
            | [_, _, _, _, _], h => exact absurd rfl h
            | _ :: _ :: _ :: _ :: _ :: _ :: _, _ => rfl
          rw [this] at k
          exact k
    rcases hv with ⟨d, hv, ns⟩ | ⟨z, rfl, hz⟩
    · refine ⟨_, rfl, _, _, _, _, isStrD d, rfl, .ty "str", hv.ty, kitStr d, _, rfl, ?_⟩
      rw [ns]
      refine iteT (q _ _ (Same.refl H) ?_)
      have : readP v = none := by
        rcases hv with ⟨h, _⟩ | ⟨a, kvs, rfl, _⟩
        · cases h <;> first | rfl | cases ns
        · rfl
      rw [this]
      rfl
    · have q' : ∀ (u : V) (H' : Hp), Same H H' → SaidV K H' (ruleP z) u → Q u H' := q
      clear q
      refine ⟨_, rfl, _, _, _, _, true, rfl, .ty "str", .base (.str z), kitStr (.str z), _, rfl, iteF ?_⟩
      refine ⟨_, rfl, ⟨_, rfl⟩, z, blank, rfl, rfl, rfl, size_ok (by omega), fun a na => ?_⟩
      unfold ruleP at q'
      have short : ∀ p ∈ Txt.split z blank, p.length ≤ 100000 := fun p hp => by
        have := PyProof.Rows.part_short hp
        omega
      generalize Txt.split z blank = ps at q' short ⊢
      have ha : SqL K (upd H a (.lst (ps.map V.str))) a (ps.map V.str) := .inl (.inl upd_same)
      have s1 : Same H (upd H a (.lst (ps.map V.str))) := same_new na
      generalize upd H a (.lst (ps.map V.str)) = G at ha s1 ⊢
      refine ⟨a, ps, rfl, ha, a, ps, rfl, rfl, ha, fun p hp => Nat.le_trans (short p hp) (by decide), ?_⟩
      rcases line_cases ps with ⟨h1, h2, h3⟩ | ⟨x, y, g, ax, ay, mx, my, hl, hg⟩
      · rw [h1, h2]
        refine iteT (q' _ _ s1 ?_)
        rw [h3]
        rfl
      have some_line : (!isShort ps && !isLong ps) = false := by
        rcases hg with ⟨h, _⟩ | ⟨_, h, _⟩
        · rw [h]
          rfl
        · rw [h, Bool.not_true, Bool.and_false]
      rw [some_line]
      rw [hl] at q'
      refine iteF ?_
      refine ⟨_, rfl, a, _, 1, .str y, rfl, rfl, ha, ay, _, rfl, y, rfl, short y my, fun u H2 s2 hu => ?_⟩
      have ha2 := s2.seq ha
      have sA := s1.trans s2
      unfold sidesP at q'
      refine ⟨_, rfl, rfl, _, rfl, ?_⟩
      cases hp : pathP y with
      | none =>
        rw [hp] at hu q'
        obtain rfl : u = .non := hu
        exact iteT (iteT (q' _ _ sA rfl))
      | some dx =>
        obtain ⟨ds, b⟩ := dx
        rw [hp] at hu q'
        obtain ⟨p, tp, rfl, hp1, hp2⟩ := hu
        refine iteF ⟨_, rfl, a, _, 0, .str x, rfl, rfl, ha2, ax, x, rfl, Nat.le_trans (short x mx) (by decide), _, rfl, ?_⟩
        dsimp only at q'
        cases hw : isW x.cps.toList with
        | false =>
          rw [hw] at q'
          exact iteT (q' _ _ sA rfl)
        | true =>
          rw [hw, if_pos rfl] at q'
          refine iteF ?_
          refine ⟨_, rfl, p, [.ref tp, .bl b], rfl, hp1, rfl, _, _, rfl, _, _, rfl, rfl, ?_⟩
          refine ⟨_, rfl, _, rfl, ?_⟩
          rcases hg with ⟨g1, rfl⟩ | ⟨g1, _, d, e, rfl, ad, ae, me⟩
          · rw [g1]
            refine iteT ⟨_, rfl, a, _, 0, .str x, rfl, rfl, ha2, ax, _, rfl, _, rfl, by show 4 ≤ sizeLine; decide, fun r nr => ?_⟩
            exact q' _ _ (sA.trans (same_new nr)) ⟨r, tp, .non, rfl, .inl (.inl upd_same), same_seqT (same_new nr) hp2, rfl⟩
          · rw [g1]
            refine iteF ?_
            refine ⟨_, rfl, a, _, 4, .str e, rfl, rfl, ha2, ae, _, rfl, e, rfl, short e me, fun u2 H3 s3 hu2 => ?_⟩
            have sB := sA.trans s3
            have ha3 := s3.seq ha2
            dsimp only at q'
            refine ⟨_, rfl, rfl, _, rfl, ?_⟩
            cases hp3 : pathP e with
            | none =>
              rw [hp3] at hu2 q'
              obtain rfl : u2 = .non := hu2
              exact iteT (iteT (q' _ _ sB rfl))
            | some dx2 =>
              obtain ⟨es, b2⟩ := dx2
              rw [hp3] at hu2 q'
              obtain ⟨p2, tp2, rfl, hp21, hp22⟩ := hu2
              dsimp only at q'
              refine iteF ⟨_, rfl, p2, _, 1, .bl b2, rfl, rfl, hp21, rfl, _, rfl, rfl, _, rfl, ?_⟩
              by_cases hb : b2 = b
              · subst hb
                rw [if_pos rfl] at q'
                rw [decide_eq_true (rfl : V.bl b2 = V.bl b2)]
                refine iteF ?_
                refine ⟨_, rfl, a, _, 0, .str x, rfl, rfl, ha3, ax, _, rfl, _, rfl, a, _, 3, .str d, rfl, rfl, ha3, ad, _, rfl, p2, _, 0, .ref tp2, rfl, rfl, hp21, rfl, by show 2 ≤ sizeLine; decide, fun r nr => ?_⟩
                have s4 := same_new (o := .tup [.str d, .ref tp2]) nr
                refine ⟨_, rfl, by show 4 ≤ sizeLine; decide, fun r2 nr2 => ?_⟩
                have s5 := same_new (o := .tup [.str x, .ref tp, .ref r, .bl b2]) nr2
                have s45 := s4.trans s5
                exact q' _ _ (sB.trans s45) ⟨r2, tp, .ref r, rfl, .inl (.inl upd_same), same_seqT (s3.trans s45) hp2, r, tp2, rfl, .inl (.inl (s5 _ _ upd_same)), same_seqT s45 hp22⟩
              · rw [if_neg hb] at q'
                rw [decide_eq_false (fun z => hb (V.bl.inj z) : ¬ V.bl b2 = V.bl b)]
                exact iteT (q' _ _ sB rfl)
end
end RL

/-! A class method called by the class, and the class made through a local name with keywords; what they let out is wished for at the caller's slots. -/
namespace VA
open PySem L2 SX AddrMath PySem.Spec PyProof.Rows
section
variable {X : Cx} {CX : CXT} {k i n : Nat} {C f g p : Addr} {fd : FuncData} {ps ks names : List Str} {sp : Sp} {mc : Value} {x m : Str} {np pos apos : Pos} {o e : Expr} {es : List Expr} {kws : List Keyword} {ta : TE} {t tk : TA} {dvs : List V} {ds : List Value}
/-- x(e, .., k = v), x a local name that holds the class at C -/
def tMakeLK (i : Nat) (C : Addr) (n m : Nat) (sp : Sp) (gV : List V → List V → List V) (E : L2.St → XK) (t tk : TA) : TE := fun σ H Q => σ[i]? = some (some (.ref C)) ∧ tMakeNS C n m sp gV E t tk σ H Q
theorem pe_makeLK {E : L2.St → XK} {gk : List Value → List Value → List Value} {gV : List V → List V → List V} (M : Mk X.K C f) (D : FnOk X.prog X.w X.K X.mg X.base CX k f fd names sp) (room : Room (k + 1) X.A) (at_ : X.N[i]? = some x) (vis : Vis X.env.scope x) (bn : KBn X.K fd names (n + 1) ks gk gV) (pa : ∀ σ, PassesAt CX X σ (E σ))
    (args : PA X (e :: es) t) (keys : PK X kws tk) (named : (backToKw pos (keywordEach kws X.env)).all (·.1.isSome) = true := by rfl) (names_ : (backToKw pos (keywordEach kws X.env)).filterMap (·.1) = ks := by rfl)
    (d1 : (x == ("__debug__" : Str)) = false := by decide) (d2 : (x == ("__classdict__" : Str)) = false := by decide) (st : starEach (e :: es) X.env = (false, eval e X.env) :: starEach es X.env := by rfl)
    (plain : ((backTo pos (starEach (e :: es) X.env)).any (·.1) || (backToKw pos (keywordEach kws X.env)).any (·.1.isNone)) = false := by rfl) :
    PE X (.Call (.Name x np) (e :: es) kws pos) (tMakeLK i C n ks.length sp gV E t tk) := by
  refine ⟨fun pins s σ H Q I hh => ?_⟩
  refine wpAny_Call_Name_kw (thn ((pe_var (pos := np) at_ vis d1 d2).run pins s σ H (fun v H1 => v = .ref C ∧ H1 = H) I ⟨.ref C, hh.1, rfl, rfl⟩) fun u s0 ⟨v, H0, I0, r0, ev, eH⟩ => ?_)
  subst ev eH
  cases r0
  refine PySem.W.callWith_KW (h₀ := X.base) I0.ok.mod.kin M.kp named (thn (args.run pos pins s0 σ _ _ I0 hh.2) fun us s1 ⟨vs, H1, I1, rv, q⟩ => ?_) plain st
  refine thn (keys.run pos pins s1 σ H1 _ I1 q) fun ws s2 ⟨zs, H2, I2, rz, l1, l2, q2⟩ => ⟨I2.kIn, ?_⟩
  rw [names_]
  exact make_kS M D room bn (pa σ) I2 rv rz l1 l2 q2
/-- a class method's call, what it lets out wished for at the caller's slots -/
theorem run_cmS {pins : List (Addr × Obj)} {σ : L2.St} {H : Hp} {s : Shared} {E : L2.St → XK} {Q : VK} {q : Addr} {us : List Value} {vs : List V} (Fo : FnOk X.prog X.w X.K X.mg X.base CX k g fd ps sp) (room : Room k X.A) (bi : Binds X.K fd ps []) (pa : PassesAt CX X σ (E σ))
    (I : Inv X ((q, PySem.W.methodObj (.ref g) (.ref C)) :: pins) σ H s) (rv : Vals vs us) (w : sp (.ref C :: vs) H Q (E σ)) : wpAny (model X.prog X.w) X.A (call (.ref q) us) (EP X pins σ Q) X.xe s := by
  have rv' : Vals (V.ref C :: vs) (Value.ref C :: us) := .cons rfl rv
  have b := bi s (.ref C :: us) I.kIn (by rw [List.append_nil, ← rv'.length]; exact Fo.len _ _ _ _ w)
  rw [List.append_nil] at b
  refine thn (wpAny_call (PySem.W.method_call (ClX.pin_at I) (codeAny_mono (Fo.run X.A X.stack s H ⟨.ref C :: us, []⟩ (.ref C :: us) (.ref C :: vs) Q (E σ) room I.env0 b rv' w) fun r s' hq => ?_))) fun _ _ y => ClX.unpinE (p := (q, PySem.W.methodObj (.ref g) (.ref C))) y
  match r, hq with
  | .error er, hq => exact pa _ _ _ _ _ I hq
  | .ok (.ret u), hq => exact I.after hq
  | .ok .next, hq => exact False.elim hq
  | .ok .brk, hq => exact False.elim hq
  | .ok .cont, hq => exact False.elim hq
def tCMethS (C : Addr) (sp : Sp) (E : L2.St → XK) (ta : TE) (t : TA) : TE := fun σ H Q => ta σ H fun v H1 => v = .ref C ∧ t σ H1 fun vs H2 => sp (.ref C :: vs) H2 Q (E σ)
theorem pe_cmethS {E : L2.St → XK} {pl : Sem Bool} (oe : PE X o ta) (rd : ClX.CRead X.K C mc) (cm : ClX.CMet X.K C mc m p g) (Fo : FnOk X.prog X.w X.K X.mg X.base CX k g fd ps sp) (room : Room k X.A) (bi : Binds X.K fd ps []) (pa : ∀ σ, PassesAt CX X σ (E σ)) (args : PA X (e :: es) t)
    (st : starEach (e :: es) X.env = (false, eval e X.env) :: starEach es X.env := by rfl) (pn : (backTo pos (starEach es X.env)).any (·.1) = false := by rfl)
    (tr : eval (.Call (.Attribute o m apos) (e :: es) [] pos) X.env = (eval o X.env >>= fun ov => standAt apos.atName >>= fun _ => holding [ov] (getMethod ov m pl) >>= fun z =>
      callWith pos z.1 z.2 (backTo pos (starEach (e :: es) X.env)) (backToKw pos (keywordEach [] X.env))) := by rfl) :
    PE X (.Call (.Attribute o m apos) (e :: es) [] pos) (tCMethS C sp E ta t) := by
  refine ⟨fun pins s σ H Q I hh => ?_⟩
  refine PySem.W.methodCall_KW (pl := pl) (thn (oe.run pins s σ H _ I hh) fun u s1 ⟨v, H1, I1, rx, ev, q⟩ => ?_) tr
  subst ev
  obtain rfl : u = Value.ref C := rx
  refine ClX.getmethcm_ok I1 rd cm fun s2 I2 => ?_
  refine ClX.callwith_cm I2 (ClX.base_none I1 (Nat.le_refl _)) cm.fi (thn (args.run pos _ s2 σ H1 _ I2 q) fun us s3 ⟨vs, H2, I3, rv, q2⟩ => ⟨⟨ClX.pin_at I3, I3.kIn⟩, ?_⟩) st pn
  exact run_cmS Fo room bi (pa σ) I3 rv q2
end
end VA

namespace RL
open PySem L2 SX AddrMath VA
/-- the data of what a text says -/
def goalSD : Option (Str × List PyData) → PyData
  | none => .none
  | some (d, es) => .tuple [.str d, .tuple es]
/-- what the constructor finds wrong in it -/
def wrongS (s : Said) : Option Str := wrongD (.str s.1) (.tuple s.2.1) (goalSD s.2.2.1) (.bool s.2.2.2)
theorem path_ents {t : Str} {ds : List PyData} {x : Bool} (h : pathP t = some (ds, x)) : ds.all isEntD = true ∧ ds.length ≤ t.length + 2 := by
  unfold pathP at h
  by_cases c : t = slash
  · rw [if_pos c] at h
    obtain ⟨rfl, rfl⟩ := Prod.mk.inj (Option.some.inj h)
    exact ⟨rfl, Nat.zero_le _⟩
  · rw [if_neg c] at h
    by_cases c2 : Txt.startswith t slash = true
    · rw [if_pos c2] at h
      obtain ⟨h1, h2⟩ := partsP_ents h
      refine ⟨h1, Nat.le_trans h2 (Nat.le_trans (PyProof.Rows.fact_split _ _).2 ?_)⟩
      have : (Txt.slice t (some 1) none).length ≤ t.length := by
        rw [← C8.cutS_slice]
        exact cutS_length _ _ _
      omega
    · rw [if_neg c2] at h
      cases h
/-- what is said is of words and entries, and not too long -/
structure Fit (s : Said) : Prop where
  state : isW s.1.cps.toList = true
  ents : s.2.1.all isEntD = true
  few : s.2.1.length ≤ 4002
  goal : ∀ d es, s.2.2.1 = some (d, es) → isW d.cps.toList = true ∧ es.all isEntD = true ∧ es.length ≤ 4002
theorem sides_fit {a b : Str} {g : Option (Str × Str)} {s : Said} (hb : b.length ≤ 4000) (hg : ∀ d e, g = some (d, e) → isW d.cps.toList = true ∧ e.length ≤ 4000) (h : sidesP a b g = some s) : Fit s := by
  unfold sidesP at h
  cases hp : pathP b with
  | none =>
    rw [hp] at h
    cases h
  | some dx =>
    obtain ⟨ds, x⟩ := dx
    rw [hp] at h
    dsimp only at h
    obtain ⟨p1, p2⟩ := path_ents hp
    by_cases c : isW a.cps.toList = true
    · rw [if_pos c] at h
      match g, hg, h with
      | none, _, h =>
        cases h
        exact ⟨c, p1, by show ds.length ≤ 4002; omega, fun d es z => by cases z⟩
      | some (d, e), hg, h =>
        dsimp only at h
        obtain ⟨w1, w2⟩ := hg d e rfl
        cases hp2 : pathP e with
        | none =>
          rw [hp2] at h
          cases h
        | some dx2 =>
          obtain ⟨es, y⟩ := dx2
          rw [hp2] at h
          dsimp only at h
          obtain ⟨p3, p4⟩ := path_ents hp2
          by_cases c2 : y = x
          · rw [if_pos c2] at h
            cases h
            refine ⟨c, p1, by show ds.length ≤ 4002; omega, fun d' es' z => ?_⟩
            obtain ⟨rfl, rfl⟩ := Prod.mk.inj (Option.some.inj z)
            exact ⟨w1, p3, by omega⟩
          · rw [if_neg c2] at h
            cases h
    · rw [if_neg c] at h
      cases h
theorem rule_fit {z : Str} {s : Said} (hz : z.length ≤ 4000) (h : ruleP z = some s) : Fit s := by
  unfold ruleP at h
  have sh : ∀ p ∈ Txt.split z blank, p.length ≤ 4000 := fun p hp => Nat.le_trans (PyProof.Rows.part_short hp) hz
  generalize Txt.split z blank = ps at h sh
  match ps, h, sh with
  | [], h, _ => cases h
  | [_], h, _ => cases h
  | [_, _], h, _ => cases h
  | [a, b, c], h, sh =>
    have h' : (if c = stays then sidesP a b none else none) = some s := h
    by_cases k : c = stays
    · rw [if_pos k] at h'
      exact sides_fit (sh b (by simp)) (fun d e z => by cases z) h'
    · rw [if_neg k] at h'
      cases h'
  | [_, _, _, _], h, _ => cases h
  | [a, b, c, d, e], h, sh =>
    have h' : (if (decide (c = toward) && isW d.cps.toList) = true then sidesP a b (some (d, e)) else none) = some s := h
    by_cases k : (decide (c = toward) && isW d.cps.toList) = true
    · rw [if_pos k] at h'
      refine sides_fit (sh b (by simp)) (fun d' e' z => ?_) h'
      obtain ⟨rfl, rfl⟩ := Prod.mk.inj (Option.some.inj z)
      rw [Bool.and_eq_true] at k
      exact ⟨k.2, sh e (by simp)⟩
    · rw [if_neg k] at h'
      cases h'
  | _ :: _ :: _ :: _ :: _ :: _ :: _, h, _ => cases h
theorem ent_okN {n : Nat} {d : PyData} (h : isEntD d = true) : okD n d = true := by
  have k := ent_ok7 h
  cases d with
  | int i => rw [okD]
  | str z => rw [okD] at k ⊢; exact k
  | _ => cases h
theorem ok_long {n : Nat} {ds : List PyData} (few : ds.length ≤ 4002) (h : ds.all isEntD = true) : okD (n + 1) (.tuple ds) = true := by
  rw [okD, Bool.and_eq_true, Bool.and_eq_true, decide_eq_true_eq, decide_eq_true_eq]
  exact ⟨by omega, by omega, okAll_of fun d hd => ent_okN (List.all_eq_true.mp h d hd)⟩
theorem word_okN {n : Nat} {z : Str} (h : isW z.cps.toList = true) : okD n (.str z) = true := ent_okN (d := .str z) (by
  show (isW z.cps.toList || false) = true
  rw [h]
  rfl)
/-- the goal, as the constructor sees it -/
theorem goal_vx {K : PySem.W.Frag} {H : Hp} {g : Option (Str × List PyData)} {gv : V} (h : GoalV K H g gv) (f : ∀ d es, g = some (d, es) → isW d.cps.toList = true ∧ es.all isEntD = true ∧ es.length ≤ 4002) : Vx K H gv (goalSD g) := by
  match g, h, f with
  | none, h, _ =>
    obtain rfl : gv = .non := h
    exact .inl ⟨.non, by unfold goalSD; rw [okD]⟩
  | some (d, es), h, f =>
    obtain ⟨r, te, rfl, h1, h2⟩ := h
    obtain ⟨f1, f2, f3⟩ := f d es rfl
    refine .inl ⟨.tup h1 (.cons (.str d) (.cons (.tup h2 (ents_dp f2)) .nil)), ?_⟩
    refine (ok_seq (n := 7) (by show 2 ≤ 1000; decide) fun e he => ?_).2
    simp only [List.mem_cons, List.not_mem_nil, or_false] at he
    rcases he with rfl | rfl
    · exact word_okN f1
    · exact ok_long (n := 6) f3 f2
section
variable {P : Program} {w : World} {K : PySem.W.Frag} {mg : Str → Option Value} {base : Heap}
abbrev nIndex : Str := "index"
/-! ### InvalidText.__init__ -/
abbrev sErrT : Stmt := inClass (top 4) 0
theorem scErrT : FnScope ["self", "index"] ["self", "index"] (defScope sErrT) := ⟨rfl, rfl, rfl, by decide +kernel, rfl, by decide +kernel, by decide +kernel⟩
theorem ok_errt {f C fI : Addr} {fd : FuncData} (F : Fun K "__init__" "InvalidText.__init__" sErrT f fd) (T : ErrC K mg "InvalidText" nIndex C fI) : FnOk P w K mg base CX0 1 f fd ["self", "index"] (spErr nIndex C) := by
  refine F.ok scErrT (fun vs H Q E h => ?_) (fun cdv A outer s0 H vs Q E hr h => ?_)
  · obtain ⟨a, v, rfl, _⟩ := h
    rfl
  · obtain ⟨a, v, rfl, ha, q⟩ := h
    exact ⟨_, pss_one (ps_ost (pv 0) (pv 1)), _, rfl, _, rfl, a, C, rfl, T.ox, T.no, .inl ⟨ha, q⟩⟩
/-! ### Rule.read: slots cls 0, text 1, told 2, state 3, pattern 4, goal 5, is_exact 6 -/
abbrev sRuleRead : Stmt := inClass (top 43) 10
theorem scRuleRead : FnScope ["cls", "text", "told", "state", "pattern", "goal", "is_exact"] ["cls", "text"] (defScope sRuleRead) := ⟨rfl, rfl, rfl, by decide +kernel, rfl, by decide +kernel, by decide +kernel⟩
/-- the end of Rule(..) over data: refused with a field, or made -/
def MadeOf (K : PySem.W.Frag) (C CE : Addr) (H : Hp) (s : Said) (Q : VK) (E : XK) : Prop :=
  (∀ f, wrongS s = some f → ∀ d H', Same H H' → H' d = some (.xd (ixF nField (.str f))) → H d = none → E (.ref CE) (some d) H') ∧
  (wrongS s = none → ∀ p H', Same H H' → H p = none → RuleAt K C H' p s.1 (.tuple s.2.1) (goalSD s.2.2.1) s.2.2.2 → Q (.ref p) H')
def spRead (K : PySem.W.Frag) (C CE CT : Addr) : Sp := fun vs H Q E => ∃ v, vs = [.ref C, v] ∧ TextOr K H v ∧
  (readP v = none → ∀ d H', Same H H' → H' d = some (.xd (ixF nIndex (.int 0))) → H d = none → E (.ref CT) (some d) H') ∧
  (∀ s, readP v = some s → MadeOf K C CE H s Q E)
theorem ok_ruleread {f C CE CT fI fT : Addr} {fd fdI fdT : FuncData} {gk : List Value → List Value → List Value} (F : Fun K "read" "Rule.read" sRuleRead f fd) (T : RTxt K mg C) (parsed : Own P w K mg base CX0 4 "parsed" ["text", "is_free"] (spParsed K))
    (TT : ErrC K mg "InvalidText" nIndex CT fT) (GT : FnOk P w K mg base CX0 1 fT fdT ["self", "index"] (spErr nIndex CT)) (bT : Binds K fdT ["self", "index"] [])
    (MI : Mk K C fI) (GI : FnOk P w K mg base (L2.CX P w) 6 fI fdI ["self", "state", "pattern", "goal", "is_exact"] (spRInit K C CE)) (bn : KBn K fdI ["self", "state", "pattern", "goal", "is_exact"] 4 ["is_exact"] gk fun us ws => us ++ ws) :
    FnOk P w K mg base (L2.CX P w) 8 f fd ["cls", "text"] (spRead K C CE CT) := by
  refine F.okX scRuleRead (fun vs H Q E h => ?_) (fun cdv A outer s0 H vs Q E hr h => ?_)
  · obtain ⟨v, rfl, _⟩ := h
    rfl
  · obtain ⟨v, rfl, hv, qT, qS⟩ := h
    have hr2 : Room 2 _ := hr.mono (by decide)
    refine ⟨_, (pss_cons (ps_set (i := 2) scRuleRead.nd rfl (Or.inl rfl) (pe_call parsed.g (hr.mono (by decide)) rfl parsed.mg parsed.kp parsed.b .nil pass0 (pa_cons (pv 1) (pa_cons pe_bl pa_nil))))
      (pss_cons (ps_if (pt_cmpR op_isN (pv 2) pe_non (nomark _)) (pss_one (ps_raise rfl (takes_of rfl rfl rfl rfl) (pmk_oex TT.ox TT.iC TT.tI GT hr2 bT .nil pass0 (by rfl) TT.mgC (by exact (pa_cons pe_int pa_nil))))) pss_nil)
      (pss_cons (ps_asg (pv 2) (pg_tup rfl (pgs_cons (pg_name (i := 3) scRuleRead.nd rfl (Or.inl rfl)) (pgs_cons (pg_name (i := 4) scRuleRead.nd rfl (Or.inl rfl)) (pgs_cons (pg_name (i := 5) scRuleRead.nd rfl (Or.inl rfl)) (pgs_cons (pg_name (i := 6) scRuleRead.nd rfl (Or.inl rfl)) pgs_nil))))))
      (pss_one (ps_ret (pe_makeLK (i := 0) (n := 3) MI GI (hr.mono (by decide)) rfl (.inl rfl) bn (fun σ => passAt (takes_of rfl rfl rfl rfl) σ) (pa_cons (pv 3) (pa_cons (pv 4) (pa_cons (pv 5) pa_nil))) (pk_cons (pv 6) pk_nil))))))), ?_⟩
    refine ⟨_, rfl, v, rfl, hv, fun u H1 s1 hu => ⟨_, rfl, rfl, _, rfl, ?_⟩⟩
    cases hp : readP v with
    | none =>
      rw [hp] at hu
      obtain rfl : u = .non := hu
      refine iteT ⟨by show 1 ≤ 1000; decide, fun a na => err_use na fun d nd => ?_⟩
      exact qT hp d _ (s1.trans (same_new nd)) upd_same (s1.free nd)
    | some s =>
      obtain ⟨z, ds, g, x⟩ := s
      rw [hp] at hu
      obtain ⟨r, tp, gv, rfl, h1, h2, h3⟩ := hu
      obtain ⟨qE, qM⟩ := qS _ hp
      refine iteF ⟨_, rfl, r, _, rfl, h1, rfl, _, _, rfl, _, _, rfl, _, _, rfl, _, _, rfl, rfl, ?_⟩
      refine ⟨rfl, _, rfl, _, rfl, _, rfl, _, rfl, rfl, rfl, fun p dx np nd ne => ?_⟩
      have fit : Fit (z, ds, g, x) := by
        rcases hv with ⟨d, hv, ns⟩ | ⟨z0, rfl, hz⟩
        · exfalso
          have : readP v = none := by
            rcases hv with ⟨h, _⟩ | ⟨a, kvs, rfl, _⟩
            · cases h <;> first | rfl | cases ns
            · rfl
          rw [this] at hp
          cases hp
        · exact rule_fit hz hp
      obtain ⟨f1, f2, f3, f4⟩ := fit
      have sI : Same H1 (upd (upd H1 dx (.own p)) p (.ins C dx [])) := (same_new nd).trans (same_new (by rw [upd_ne (Ne.symm ne)]; exact np))
      have sA := s1.trans sI
      refine ⟨p, dx, .str z, .ref tp, gv, .bl x, .str z, .tuple ds, goalSD g, .bool x, rfl, upd_same, .inl ⟨.str z, word_okN f1⟩, .inl ⟨.tup (same_seqT sI h2) (ents_dp f2), ok_long (n := 7) f3 f2⟩, goal_vx (h3.same sI) f4, .inl ⟨.bl x, by rw [okD]⟩, fun f hf d H' s' hd nd' => ?_, fun z' x' hw ez ex H' fr hR => ⟨rfl, ?_⟩⟩
      · have nd2 : H1 d = none := by
          by_cases e : H1 d = none
          · exact e
          · obtain ⟨o, ho⟩ := Option.ne_none_iff_exists'.mp e
            rw [sI _ _ ho] at nd'
            cases nd'
        exact qE f hf d H' (sA.trans s') hd (s1.free nd2)
      · cases ez
        cases ex
        refine qM hw p H' (s1.trans fun b o z => ?_) (s1.free np) hR
        refine fr b o (sI _ _ z) fun e => ?_
        rw [e, np] at z
        cases z
end
end RL

namespace RL
open PySem L2 SX AddrMath VA PySem.W GR
/-! ## the texts of rules, sign by sign -/
def pathS (es : List PyData) (x : Bool) : Str := if x = true then (if Txt.join (Str.ofString "") (es.map segS) = Str.ofString "" then Str.ofString "/" else Txt.join (Str.ofString "") (es.map segS)) else Txt.join (Str.ofString "") (es.map segS) ++ Str.ofString "/.."
theorem seg_nine {e : PyData} (h : isEntD e = true) : (segS e).length ≤ 9 := by
  rcases ent_cases h with ⟨k, rfl⟩ | ⟨x', rfl, hx⟩
  · have h' : (false || (decide (1 ≤ k) && decide (k ≤ 2))) = true := h
    rw [Bool.false_or, Bool.and_eq_true, decide_eq_true_eq, decide_eq_true_eq] at h'
    have : k = 1 ∨ k = 2 := by omega
    rcases this with rfl | rfl <;> decide +kernel
  · have := word_len hx
    show ((Str.empty ++ Str.ofString "/") ++ x').length ≤ 9
    rw [str_len_app]
    have : (Str.empty ++ Str.ofString "/").length = 1 := by decide +kernel
    omega
theorem join_len0 : ∀ ys : List Str, (PySem.Str.join (Str.ofString "") ys).length = (ys.map (fun x => x.length)).sum
  | [] => rfl
  | [p] => by
    show p.length = p.length + 0
    omega
  | p :: q :: r => by
    show (p ++ Str.ofString "" ++ PySem.Str.join (Str.ofString "") (q :: r)).length = _
    rw [str_len_app, str_len_app, join_len0 (q :: r), show (Str.ofString "").length = 0 by decide +kernel]
    simp only [List.map_cons, List.sum_cons]
    omega
theorem path_len {es : List PyData} (h : es.all isEntD = true) (x : Bool) : (Txt.join (Str.ofString "") (es.map segS)).length ≤ 9 * es.length ∧ (pathS es x).length ≤ 9 * es.length + 3 := by
  have sm : ∀ es : List PyData, es.all isEntD = true → ((es.map segS).map (fun x => x.length)).sum ≤ 9 * es.length := fun es => by
    induction es with
    | nil => intro _; exact Nat.le_refl 0
    | cons e r ih =>
      intro h
      rw [List.all_cons, Bool.and_eq_true] at h
      have := seg_nine h.1
      have := ih h.2
      simp only [List.map_cons, List.sum_cons, List.length_cons]
      omega
  have s4 := sm es h
  have jl : (Txt.join (Str.ofString "") (es.map segS)).length ≤ 9 * es.length := by
    rw [TL.join_eq, join_len0]
    exact s4
  refine ⟨jl, ?_⟩
  have l3 : (Str.ofString "/..").length = 3 := by decide +kernel
  have l1 : (Str.ofString "/").length = 1 := by decide +kernel
  unfold pathS
  split
  · split
    · omega
    · omega
  · rw [str_len_app]
    omega
/-- the text of a rule -/
def ruleS (z : Str) (pd gd : PyData) (x : Bool) : Str := match gd with
  | .tuple [.str gz, gb] => Str.empty ++ (Str.empty ++ z ++ Str.ofString " " ++ pathS (itemsD pd) x) ++ Str.ofString " to " ++ gz ++ Str.ofString " " ++ pathS (itemsD gb) x
  | _ => Str.empty ++ (Str.empty ++ z ++ Str.ofString " " ++ pathS (itemsD pd) x) ++ Str.ofString " stays"
section
variable {P : Program} {w : World} {K : PySem.W.Frag} {mg : Str → Option Value} {base : Heap}
def spPathTextX (K : PySem.W.Frag) : Sp := fun vs H Q _ => ∃ (t : Addr) (x : Bool) (es : List PyData), vs = [.ref t, .bl x] ∧ SqT K H t (es.map entV) ∧ es.all isEntD = true ∧ es.length ≤ 4 ∧ ∀ H', Same H H' → Q (.str (pathS es x)) H'
theorem ok_pathtextX {f : Addr} {fd : FuncData} (F : Fun K "path_text" "path_text" sPathText f fd) : FnOk P w K mg base CX0 1 f fd ["entries", "is_exact"] (spPathTextX K) := by
  refine F.ok scPathText (fun vs H Q E h => ?_) (fun cdv A outer s0 H vs Q E hr h => ?_)
  · obtain ⟨t, x, es, rfl, _⟩ := h
    rfl
  · obtain ⟨t, x, es, rfl, ht, hE, h4, q⟩ := h
    refine ⟨_, (pss_cons (ps_set (i := 3) scPathText.nd rfl (Or.inl rfl) (pe_join pe_str (pe_lc (own := [("entry", 2)]) (g := gName 2) (tt := tYes) rfl scPathText.nd (pi_seq (pv 0))
          (blkOk_by (own := [("entry", 2)]) (N := ["entries", "is_exact", "entry", "text"]) (sc := defScope sPathText) (by decide +kernel))
          (fun _ _ _ _ _ => (pg_name (i := 2) scPathText.nd rfl (Or.inl rfl))) (fun _ _ _ _ _ => pts_nil)
          (fun _ _ _ _ _ => (pe_by tSeg (pe_joined (.cons pe_str (.cons (pe_fmt (pv 2)) .nil))) (fun _ _ _ h => seg_does h))))))
      (pss_cons (ps_if (pt_not (pt_val (pv 1))) (pss_one (ps_ret (pe_op op_add_str (pv 3) pe_str))) pss_nil)
      (pss_one (ps_ret (pe_ifExp (pt_cmpR op_ne (pv 3) pe_str (nomark _)) (pv 3) pe_str))))), ?_⟩
    refine ⟨⟨_, rfl⟩, _, rfl, ?_⟩
    refine seq_map (.inr ht) (by rw [List.length_map]; omega) (fun _ => true) segV ?hw (fun v hm H2 s2 => ⟨fun R hR => no_test hR, fun _ H3 s3 R hR => ?_⟩) fun D H2 nD hD s2 => ?_
    case hw => intro _; rfl
    · obtain ⟨e, he, rfl⟩ := List.mem_map.mp hm
      exact ⟨e, rfl, List.all_eq_true.mp hE e he, hR H3 (Same.refl H3)⟩
    · have eq : ((es.map entV).filter fun _ => true).map segV = (es.map segS).map V.str := by
        rw [filter_yes, List.map_map, List.map_map]
        exact List.map_congr_left fun e he => (seg_ent (List.all_eq_true.mp hE e he)).1
      rw [eq] at hD
      have sm : ∀ es : List PyData, es.all isEntD = true → ((es.map segS).map (fun x => x.length)).sum ≤ 20 * es.length := fun es => by
        induction es with
        | nil => intro _; exact Nat.le_refl 0
        | cons e r ih =>
          intro h
          rw [List.all_cons, Bool.and_eq_true] at h
          have := (seg_ent h.1).2
          have := ih h.2
          simp only [List.map_cons, List.sum_cons, List.length_cons]
          omega
      have s4 := sm es hE
      refine ⟨_, D, es.map segS, rfl, rfl, .inl (.inl (.inl hD)), ?_, ?_⟩
      · show _ + _ * 0 ≤ _
        omega
      obtain ⟨jl, _⟩ := path_len hE x
      have jl : (Txt.join (Str.ofString "") (es.map segS)).length ≤ 9 * es.length := jl
      have q' := q H2 s2
      unfold pathS at q'
      have l3 : (Str.ofString "/..").length = 3 := by decide +kernel
      generalize Txt.join (Str.ofString "") (es.map segS) = z at jl q' ⊢
      refine ⟨_, rfl, _, rfl, ?_⟩
      cases x with
      | false => exact iteT ⟨_, rfl, _, _, rfl, rfl, Nat.le_trans (m := 1000) (by omega) (by show 1000 ≤ sizeLine; decide), q'⟩
      | true =>
        refine iteF ⟨_, rfl, rfl, _, rfl, ?_⟩
        by_cases c : z = Str.ofString ""
        · have q2 : Q (.str (Str.ofString "/")) H2 := by
            have : (if true = true then (if z = Str.ofString "" then Str.ofString "/" else z) else z ++ Str.ofString "/..") = Str.ofString "/" := by rw [if_pos rfl, if_pos c]
            rw [this] at q'
            exact q'
          exact if_is (fun e => absurd e (by rw [decide_eq_true (congrArg V.str c)]; decide)) fun _ => q2
        · have q2 : Q (.str z) H2 := by
            have : (if true = true then (if z = Str.ofString "" then Str.ofString "/" else z) else z ++ Str.ofString "/..") = z := by rw [if_pos rfl, if_neg c]
            rw [this] at q'
            exact q'
          exact if_is (fun _ => ⟨_, rfl, q2⟩) fun e => absurd e (by rw [decide_eq_false fun z => c (V.str.inj z)]; decide)
def spRTextX (K : PySem.W.Frag) (C : Addr) : Sp := fun vs H Q _ => ∃ (p : Addr) (z : Str) (pd gd : PyData) (x : Bool), vs = [.ref p] ∧ RuleAt K C H p z pd gd x ∧ wrd z = true ∧ (itemsD pd).all isEntD = true ∧ (itemsD pd).length ≤ 4 ∧ isGoalD gd pd = true ∧ ∀ H', Same H H' → Q (.str (ruleS z pd gd x)) H'
theorem ok_ruletextX {f C : Addr} {fd : FuncData} (F : Fun K "rule_text" "rule_text" sRuleText f fd) (T : RTxt K mg C) (rstate : OwnP P w K mg base C "state" (spGet C nState)) (rpattern : OwnP P w K mg base C "pattern" (spGet C nPattern)) (rgoal : OwnP P w K mg base C "goal" (spGet C nGoal)) (rexact : OwnP P w K mg base C "is_exact" (spGet C nExact))
    (path_text : Own P w K mg base CX0 1 "path_text" ["entries", "is_exact"] (spPathTextX K)) : FnOk P w K mg base CX0 3 f fd ["rule"] (spRTextX K C) := by
  refine F.ok scRuleText (fun vs H Q E h => ?_) (fun cdv A outer s0 H vs Q E hr h => ?_)
  · obtain ⟨p, z, pd, gd, x, rfl, _⟩ := h
    rfl
  · obtain ⟨p, z, pd, gd, x, rfl, hR, hz, hE, h4, hg, q⟩ := h
    have hr2 : Room 2 _ := hr
    have hr1 : Room 1 _ := hr.mono (by decide)
    refine ⟨_, (pss_cons (ps_set (i := 1) scRuleText.nd rfl (Or.inl rfl) (pe_joined (.cons (pe_fmt (pe_prop (pv 0) T.cl rstate.prop rstate.ok hr2 rstate.b .nil pass0 rfl)) (.cons pe_str (.cons (pe_fmt (pe_call path_text.g hr1 rfl path_text.mg path_text.kp path_text.b .nil pass0 (pa_cons (pe_prop (pv 0) T.cl rpattern.prop rpattern.ok hr2 rpattern.b .nil pass0 rfl) (pa_cons (pe_prop (pv 0) T.cl rexact.prop rexact.ok hr2 rexact.b .nil pass0 rfl) pa_nil)))) .nil)))))
      (pss_cons (ps_if (pt_cmpR op_isN (pe_prop (pv 0) T.cl rgoal.prop rgoal.ok hr2 rgoal.b .nil pass0 rfl) pe_non (nomark _)) (pss_one (ps_ret (pe_joined (.cons (pe_fmt (pv 1)) (.cons pe_str .nil))))) pss_nil)
      (pss_one (ps_ret (pe_joined (.cons (pe_fmt (pv 1)) (.cons pe_str (.cons (pe_fmt (pe_ix ix_tup (pe_prop (pv 0) T.cl rgoal.prop rgoal.ok hr2 rgoal.b .nil pass0 rfl) pe_int (fun _ _ => rfl))) (.cons pe_str (.cons (pe_fmt (pe_call path_text.g hr1 rfl path_text.mg path_text.kp path_text.b .nil pass0 (pa_cons (pe_ix ix_tup (pe_prop (pv 0) T.cl rgoal.prop rgoal.ok hr2 rgoal.b .nil pass0 rfl) pe_int (fun _ _ => rfl)) (pa_cons (pe_prop (pv 0) T.cl rexact.prop rexact.ok hr2 rexact.b .nil pass0 rfl) pa_nil)))) .nil)))))))))), ?_⟩
    obtain ⟨dx, tP, tW, tK, gV, ws, hp, hP, hG, hW, _, _, _, hK⟩ := hR.ex
    have lz := word_len hz
    have sz : ∀ n, n ≤ 2000 → n ≤ sizeLine := fun n h => Nat.le_trans h (by show 2000 ≤ sizeLine; decide)
    have l0 : Str.empty.length = 0 := by decide +kernel
    have lP := (path_len hE x).2
    have l1 : (Str.ofString " ").length = 1 := by decide +kernel
    have l6 : (Str.ofString " stays").length = 6 := by decide +kernel
    have l4 : (Str.ofString " to ").length = 4 := by decide +kernel
    refine ⟨_, rfl, p, dx, _, rfl, hp, p, dx, _, _, rfl, hp, rfl, .inl ⟨z, rfl, sz _ (by omega), _, rfl, sz _ (by rw [str_len_app]; omega), _, rfl, sz _ (by simp only [str_len_app]; omega), ?_⟩⟩
    refine ⟨_, rfl, p, dx, _, rfl, hp, p, dx, _, _, rfl, hp, rfl, _, rfl, p, dx, _, rfl, hp, p, dx, _, _, rfl, hp, rfl, tP, x, itemsD pd, rfl, hP, hE, h4, fun H1 s1 => .inl ⟨_, rfl, sz _ (by omega), _, rfl, sz _ (by simp only [str_len_app]; omega), ?_⟩⟩
    have lt : (Str.empty ++ z ++ Str.ofString " " ++ pathS (itemsD pd) x).length ≤ 410 := by
      simp only [str_len_app]
      omega
    unfold ruleS at q
    generalize Str.empty ++ z ++ Str.ofString " " ++ pathS (itemsD pd) x = t1 at lt q ⊢
    have hp1 := s1 _ _ hp
    refine ⟨_, rfl, p, dx, _, rfl, hp1, p, dx, _, _, rfl, hp1, rfl, rfl, _, rfl, ?_⟩
    rcases goal_parts hg with rfl | ⟨gz, gb, rfl, hgz, hgb⟩
    · cases (show gV = .non from hG)
      exact iteT ⟨_, rfl, .inl ⟨t1, rfl, sz _ (by omega), _, rfl, sz _ (by simp only [str_len_app]; omega), _, rfl, sz _ (by simp only [str_len_app]; omega), q H1 s1⟩⟩
    · obtain ⟨g, tb, rfl, hgg, htb⟩ := hG
      obtain ⟨_, b2, b3⟩ := areEnt_parts hgb
      have lg := word_len hgz
      have lG := (path_len b3 x).2
      refine iteF ⟨_, rfl, .inl ⟨t1, rfl, sz _ (by omega), _, rfl, sz _ (by simp only [str_len_app]; omega), _, rfl, sz _ (by simp only [str_len_app]; omega), _, rfl, p, dx, _, rfl, hp1, p, dx, _, _, rfl, hp1, rfl, g, _, 0, _, rfl, rfl, .inl (.inl (s1 _ _ hgg)), rfl, .inl ⟨gz, rfl, sz _ (by omega), _, rfl, sz _ (by simp only [str_len_app]; omega), _, rfl, sz _ (by simp only [str_len_app]; omega), ?_⟩⟩⟩
      exact ⟨_, rfl, p, dx, _, rfl, hp1, p, dx, _, _, rfl, hp1, rfl, g, _, 1, _, rfl, rfl, .inl (.inl (s1 _ _ hgg)), rfl, _, rfl, p, dx, _, rfl, hp1, p, dx, _, _, rfl, hp1, rfl, tb, x, itemsD gb, rfl, same_seqT s1 htb, b3, by omega, fun H2 s2 => .inl ⟨_, rfl, sz _ (by omega), _, rfl, sz _ (by simp only [str_len_app]; omega), q H2 (s1.trans s2)⟩⟩
theorem ok_rtextX {f C : Addr} {fd : FuncData} (F : Fun K "text" "Rule.text" sRText f fd) (rule_text : Own P w K mg base CX0 3 "rule_text" ["rule"] (spRTextX K C)) : FnOk P w K mg base CX0 4 f fd ["self"] (spRTextX K C) := by
  refine F.ok scRText (fun vs H Q E h => ?_) (fun cdv A outer s0 H vs Q E hr h => ?_)
  · obtain ⟨p, z, pd, gd, x, rfl, _⟩ := h
    rfl
  · obtain ⟨p, z, pd, gd, x, rfl, h⟩ := h
    exact ⟨_, (pss_one (ps_ret (pe_call rule_text.g hr rfl rule_text.mg rule_text.kp rule_text.b .nil pass0 (pa_cons (pv 0) pa_nil)))), _, rfl, p, z, pd, gd, x, rfl, h⟩
end
end RL

/-! Comprehensions whose items are told by a relation; a list beside an empty one. -/
namespace VA
open PySem L2 SX AddrMath
abbrev LcGoal (J : It) (g : TG) (tt : TT) (te : TE) (vs : List Nat) (σ : L2.St) (H1 : Hp) (D : Addr) (Qd : Hp → Prop) : Prop :=
  ∃ W : Nat → Nat → Hp → Prop, (∃ m, W 0 m (upd H1 D (.lst []))) ∧ ∀ i m H, W i m H →
      (J.stop i H ∧ Qd H) ∨ (J.go i H ∧ ∃ Nx : Hp → Prop, (∀ H', Nx H' → ∃ m', m' < m ∧ W (i + 1) m' H') ∧ ∀ x H', J.yld i H x H' → g x (wipe σ vs) H' fun σ2 H2 => wipe σ2 vs = wipe σ vs ∧ tt σ2 H2 fun b H3 =>
        if b = true then te σ2 H3 fun y H4 => ∃ acc, H4 D = some (.lst acc) ∧ acc.length < sizeLine ∧ Nx (upd H4 D (.lst (acc ++ [y]))) else Nx H3)
/-- a comprehension without a test -/
theorem lc_rel {J : It} {xs : List V} {G : Hp → Prop} (w : Walk J xs.length G (YAt xs)) (few : xs.length ≤ 1000) {g : TG} {te : TE} {vs : List Nat} {σ : L2.St} {H1 : Hp} {D : Addr} {Qd : Hp → Prop} (nD : H1 D = none) (hG : ∀ H, Same H1 H → G H)
    (rel : Nat → V → Hp → Prop) (st : ∀ i y H H', Same H H' → rel i y H → rel i y H') (sb : ∀ i y H H' zs, H D = some (.lst zs) → But D H H' → rel i y H → rel i y H')
    (step : ∀ i x, xs[i]? = some x → ∀ H, Same H1 H → ∀ R : VK, (∀ y H', Same H H' → rel i y H' → R y H') → g x (wipe σ vs) H fun σ2 H2 => wipe σ2 vs = wipe σ vs ∧ te σ2 H2 R)
    (fin : ∀ H' ys, H' D = some (.lst ys) → ys.length = xs.length → (∀ i y, ys[i]? = some y → rel i y H') → Same H1 H' → Qd H') : LcGoal J g tYes te vs σ H1 D Qd := by
  refine lc_it w (fun i H => Same H1 H ∧ ∃ ys, H D = some (.lst ys) ∧ ys.length = i ∧ ∀ k y, ys[k]? = some y → rel k y H) ⟨same_new nD, [], upd_same, rfl, fun k y z => by simp at z⟩ (fun i H _ p => hG H p.1) ?_ ?_
  · rintro i x H H' hi ⟨s, ys, hD, hl, hr⟩ ⟨rfl, hx⟩
    refine step i x hx H' s (fun y H4 => ∃ acc, H4 D = some (.lst acc) ∧ acc.length < sizeLine ∧ (Same H1 (upd H4 D (.lst (acc ++ [y]))) ∧ ∃ ys, (upd H4 D (.lst (acc ++ [y]))) D = some (.lst ys) ∧ ys.length = i + 1 ∧ ∀ k y', ys[k]? = some y' → rel k y' (upd H4 D (.lst (acc ++ [y]))))) fun y H4 s4 ry => ?_
    have hD4 := s4 _ _ hD
    have b4 : But D H4 (upd H4 D (.lst (ys ++ [y]))) := But.upd
    refine ⟨ys, hD4, small1000 (by omega), fun b o z => ?_, _, upd_same, by rw [List.length_append, hl]; rfl, fun k y' hk => ?_⟩
    · rw [upd_ne (ne_of_none z nD)]
      exact s4 _ _ (s _ _ z)
    · rcases Nat.lt_or_ge k ys.length with c | c
      · rw [List.getElem?_append_left c] at hk
        exact sb k y' _ _ _ hD4 b4 (st k y' _ _ s4 (hr k y' hk))
      · rw [List.getElem?_append_right c] at hk
        have e0 : k - ys.length = 0 := by
          rcases Nat.eq_zero_or_pos (k - ys.length) with e | e
          · exact e
          · rw [List.getElem?_eq_none (by show 1 ≤ k - ys.length; exact e)] at hk
            cases hk
        rw [e0] at hk
        cases hk
        have ek : k = i := by omega
        rw [ek]
        exact sb i y _ _ _ hD4 b4 ry
  · rintro H ⟨s, ys, hD, hl, hr⟩
    exact fin H ys hD hl hr s
/-- the same of what is a list or a tuple -/
theorem seq_rel {K : PySem.W.Frag} {a : Addr} {xs : List V} {g : TG} {te : TE} {vs : List Nat} {σ : L2.St} {H1 : Hp} {Qd : Addr → Hp → Prop} (hq : SqA K H1 a xs) (few : xs.length ≤ 1000)
    (rel : Nat → V → Hp → Prop) (st : ∀ i y H H', Same H H' → rel i y H → rel i y H') (sb : ∀ D, H1 D = none → ∀ i y H H' zs, H D = some (.lst zs) → But D H H' → rel i y H → rel i y H')
    (step : ∀ i x, xs[i]? = some x → ∀ H, Same H1 H → ∀ R : VK, (∀ y H', Same H H' → rel i y H' → R y H') → g x (wipe σ vs) H fun σ2 H2 => wipe σ2 vs = wipe σ vs ∧ te σ2 H2 R)
    (fin : ∀ D H' ys, H1 D = none → H' D = some (.lst ys) → ys.length = xs.length → (∀ i y, ys[i]? = some y → rel i y H') → Same H1 H' → Qd D H') :
    ∃ a', V.ref a = V.ref a' ∧ (((∃ ys, SqL K H1 a' ys) ∧ ∀ D, H1 D = none → LcGoal (Itl K a') g tYes te vs σ H1 D (Qd D)) ∨ ((∃ ys, SqT K H1 a' ys) ∧ ∀ D, H1 D = none → LcGoal (Itt K a') g tYes te vs σ H1 D (Qd D))) := by
  refine ⟨a, rfl, ?_⟩
  rcases hq with hq | hq
  · exact .inl ⟨⟨xs, hq⟩, fun D nD => lc_rel walk_list few nD (fun H s => s.seq hq) rel st (sb D nD) step fun H' ys => fin D H' ys nD⟩
  · exact .inr ⟨⟨xs, hq⟩, fun D nD => lc_rel walk_tup few nD (fun H s => same_seqT s hq) rel st (sb D nD) step fun H' ys => fin D H' ys nD⟩
/-- a list beside a new empty one -/
def rNeNil : R2 := fun x y H Q => ∃ a b xs, x = .ref a ∧ y = .ref b ∧ H a = some (.lst xs) ∧ H b = some (.lst []) ∧ Q (.bl (!xs.isEmpty)) H
theorem lst_is {X : Cx} {pins : List (Addr × Obj)} {σ : L2.St} {H : Hp} {s : Shared} {a : Addr} {xs : List V} (I : L2.Inv X pins σ H s) (h : H a = some (.lst xs)) : ∃ its : List Value, s.heap.IsList a its.toArray ∧ its.length = xs.length := by
  obtain ⟨its, rv, p, hz⟩ := I.list (.inl (.inl h))
  exact ⟨its, p.isList, rv.length.symm⟩
theorem op_neNil {X : Cx} (hu : X.A.units < cLine) : OpR X (compareOp .NotEq) rNeNil := by
  intro pins s σ H x y v u Q I rx ry ⟨a, b, xs, ex, ey, ha, hb, q⟩
  subst ex ey
  cases (show v = Value.ref a from rx)
  cases (show u = Value.ref b from ry)
  obtain ⟨i1, p1, l1⟩ := lst_is I ha
  obtain ⟨i2, p2, l2⟩ := lst_is I hb
  have e2 : i2 = [] := List.length_eq_zero_iff.mp l2
  subst e2
  cases xs with
  | nil =>
    have e1 : i1 = [] := List.length_eq_zero_iff.mp l1
    subst e1
    exact SeqAt.RcNeAt.lists (e := fun _ => true) p1 p2 rfl hu (fun j h1 => absurd h1 (by simp)) _ _ _ _ ⟨.bl false, H, I, rfl, q⟩
  | cons z r =>
    exact SeqAt.RcNeAt.lists_lengths p1 p2 (by simp; intro z; rw [z] at l1; cases l1) hu _ _ _ _ ⟨.bl true, H, I, rfl, q⟩
end VA

/-! == and != of a list that is no object of the heap's tracked part, beside a new empty one; the first sign of a text. -/
namespace VA
open PySem PySem.Spec PyProof.Rows L2 SX
def rEqNil : R2 := fun x y H Q => ∃ a b xs, x = .ref a ∧ y = .ref b ∧ H a = some (.lst xs) ∧ H b = some (.lst []) ∧ Q (.bl xs.isEmpty) H
theorem op_eqNil {X : Cx} (hu : X.A.units < cLine) : OpR X (compareOp .Eq) rEqNil := by
  intro pins s σ H x y v u Q I rx ry ⟨a, b, xs, ex, ey, ha, hb, q⟩
  subst ex ey
  cases (show v = Value.ref a from rx)
  cases (show u = Value.ref b from ry)
  obtain ⟨i1, p1, l1⟩ := lst_is I ha
  obtain ⟨i2, p2, l2⟩ := lst_is I hb
  have e2 : i2 = [] := List.length_eq_zero_iff.mp l2
  subst e2
  cases xs with
  | nil =>
    have e1 : i1 = [] := List.length_eq_zero_iff.mp l1
    subst e1
    exact SeqAt.RcAt.lists (e := fun _ => true) p1 p2 rfl hu (fun j h1 => absurd h1 (by simp)) _ _ _ _ ⟨.bl true, H, I, rfl, q⟩
  | cons z r =>
    exact SeqAt.RcAt.lists_lengths p1 p2 (by simp; intro z; rw [z] at l1; cases l1) hu _ _ _ _ ⟨.bl false, H, I, rfl, q⟩
/-- whether a text begins with one sign -/
theorem starts_one (t : Str) (c : Nat) : Txt.startswith t (S [c]) = decide (t.cps.toList.head? = some c) := by
  show (decide (0 + 1 ≤ t.length) && (t.cps.extract 0 (0 + 1) == (S [c]).cps)) = _
  obtain ⟨⟨l⟩⟩ := t
  cases l with
  | nil => rfl
  | cons x r =>
    show (decide (0 + 1 ≤ (x :: r).length) && ((x :: r).toArray.extract 0 (0 + 1) == [c].toArray)) = decide (some x = some c)
    rw [decide_eq_true (by show 0 + 1 ≤ r.length + 1; omega), Bool.true_and, show (x :: r).toArray.extract 0 (0 + 1) = [x].toArray by simp]
    by_cases e : x = c
    · subst e
      simp
    · rw [decide_eq_false (by simpa using e)]
      simpa using e
theorem cut_one (t : Str) (c : Nat) : (Txt.slice t none (some 1) = S [c]) ↔ t.cps.toList.head? = some c := by
  rw [← C8.cutS_slice]
  obtain ⟨⟨l⟩⟩ := t
  cases l with
  | nil =>
    constructor
    · intro h
      have := congrArg (fun z : Str => z.cps.size) h
      simp [cutS] at this
    · intro h
      cases h
  | cons x r =>
    have e : cutS ⟨(x :: r).toArray⟩ none (some 1) = S [x] := by
      have l1 : (⟨(x :: r).toArray⟩ : Str).length = r.length + 1 := rfl
      have s1 : HT.sIx (r.length + 1) (r.length + 1) (some 1) = 1 := by
        show HT.sIx (r.length + 1) (r.length + 1) (some ((1 : Nat) : Int)) = 1
        rw [HT.sIx_nat]
        omega
      unfold cutS
      rw [l1, s1, HT.sIx_none]
      rfl
    rw [e]
    constructor
    · intro h
      have := congrArg (fun z : Str => z.cps.toList) h
      simpa using this
    · intro h
      have : x = c := by simpa using h
      rw [this]
end VA

namespace RL
open PySem L2 SX AddrMath VA
section
variable {P : Program} {w : World} {K : PySem.W.Frag} {mg : Str → Option Value} {base : Heap}
theorem call_isiK {X : Cx} {K : PySem.W.Frag} (e : X.K = K) : CallR X (.builtin "isinstance") (rIsi K) := by
  subst e
  exact call_isi
/-! ### sent: slots pattern 0, beginning 1, signs 2, holes 3, entry 4, filled 5 cells holes -/
theorem scSent : FnScope ["pattern", "beginning", "signs", "holes", "entry", "filled"] ["pattern", "beginning", "signs", "holes"] (defScope sSent) := ⟨rfl, rfl, rfl, by decide +kernel, rfl, by decide +kernel, by decide +kernel⟩
def fillV (f : Bnd) : V → V
  | .int i => .str ((f i).getD Str.empty)
  | v => v
theorem fill_ent (f : Bnd) {e : PyData} (h : isEntD e = true) : fillV f (entV e) = .str (fillD f e) := by
  rcases ent_cases h with ⟨k, rfl⟩ | ⟨x', rfl, _⟩ <;> rfl
theorem fill_ents (f : Bnd) {es : List PyData} (h : es.all isEntD = true) : ((es.map entV).filter fun _ => true).map (fillV f) = tV (es.map (fillD f)) := by
  rw [filter_yes, List.map_map]
  show _ = (es.map (fillD f)).map V.str
  rw [List.map_map]
  exact List.map_congr_left fun e he => fill_ent f (List.all_eq_true.mp h e he)
def spSent (K : PySem.W.Frag) : Sp := fun vs H Q _ => ∃ (tP tB t d : Addr) (es bs : List PyData) (ss : List Str) (f : Bnd) (n : Nat), vs = [.ref tP, .ref tB, .ref t, .ref d] ∧ SqT K H tP (es.map entV) ∧ es.length ≤ 900 ∧ SqT K H tB (bs.map entV) ∧ bs.all isEntD = true ∧ bs.length ≤ 4 ∧ SqT K H t (tV ss) ∧ HolesAt H d f n ∧
  (∀ i, .int i ∈ bs → ∃ u, f i = some u) ∧ ss.length ≤ 900 ∧ ∀ (r : Addr) (H' : Hp), Same H H' → SqT K H' r (tV (bs.map (fillD f) ++ ss.drop es.length)) → Q (.ref r) H'
theorem ok_sent {f : Addr} {fd : FuncData} (F : Fun K "sent" "sent" sSent f fd) (B : Blt mg) : FnOk P w K mg base CX0 1 f fd ["pattern", "beginning", "signs", "holes"] (spSent K) := by
  refine F.ok scSent (fun vs H Q E h => ?_) (fun cdv A outer s0 H vs Q E hr h => ?_)
  · obtain ⟨tP, tB, t, d, es, bs, ss, g, n, rfl, _⟩ := h
    rfl
  · obtain ⟨tP, tB, t, d, es, bs, ss, g, n, rfl, hP, hle, hB, hE, h4, ht, hd, hb, few, q⟩ := h
    refine ⟨_, (pss_cons (ps_setLc (i := 5) (own := [("entry", 4)]) (g := gName 4) (tt := tYes) rfl scSent.nd rfl rfl (sw_true rfl rfl rfl (by decide +kernel)) (pi_seq (pv 1))
          (blkOk_by (own := [("entry", 4)]) (N := ["pattern", "beginning", "signs", "holes", "entry", "filled"]) (sc := defScope sSent) (by decide +kernel))
          (fun _ _ _ _ _ => (pg_name (i := 4) scSent.nd rfl (Or.inl rfl))) (fun _ _ _ _ _ => pts_nil)
          (fun _ _ _ _ _ => (pe_ifExp (pt_val (pe_callB (call_isiK (K := K) rfl) (by rfl) B.isinstance_ (by decide +kernel) (pa_cons (pv 4) (pa_cons (pe_bltn (v := .ty "str") (by rfl) B.str_ (by decide +kernel) rfl) pa_nil)))) (pv 4) (pe_dget (hu_of hr) (pv 3) (pv 4) (fun _ _ => rfl)))))
      (pss_one (ps_ret (pe_op op_catB (pe_callTy call_tupA (by rfl) B.tuple_ (by decide +kernel) (pa_cons (pv 5) pa_nil)) (pe_slice sl_tupA (pv 2) (po_some (pe_callB call_len (by rfl) B.len_ (by decide +kernel) (pa_cons (pv 0) pa_nil))) po_none))))), ?_⟩
    refine ⟨_, rfl, ?_⟩
    refine seq_map (.inr hB) (by rw [List.length_map]; omega) (fun _ => true) (fillV g) ?hw (fun v hm H2 s2 => ⟨fun R hR => no_test hR, fun _ H3 s3 R hR => ?_⟩) fun D H2 nD hD s2 => ?_
    case hw => intro _; rfl
    · obtain ⟨e, he, rfl⟩ := List.mem_map.mp hm
      have hEe := List.all_eq_true.mp hE e he
      have vx : Vx K H3 (entV e) e := .inl ⟨ent_dp hEe, ok_mono (by decide) (ent_ok7 hEe)⟩
      have q3 := hR H3 (Same.refl H3)
      refine ⟨_, rfl, _, _, _, _, isStrD e, rfl, .ty "str", vx.ty, kitStr e, _, rfl, ?_⟩
      rcases ent_cases hEe with ⟨k, rfl⟩ | ⟨x', rfl, _⟩
      · obtain ⟨kvs, h1, h2', h3⟩ := (hd.same s2).same s3
        obtain ⟨u, hu⟩ := hb k he
        have dg := DGet.k (k := .inl k) h1
        rw [h2' k, hu] at dg
        have q4 : R (.str ((g k).getD Str.empty)) H3 := q3
        rw [hu] at q4
        exact iteF ⟨_, rfl, _, rfl, d, .str u, rfl, dg, q4⟩
      · exact iteT ⟨_, rfl, q3⟩
    · rw [fill_ents g hE] at hD
      refine ⟨_, rfl, D, _, rfl, .inl (.inl (.inl hD)), fun r1 H3 hr1 s3 => ?_⟩
      have sA := s2.trans s3
      refine ⟨_, rfl, _, rfl, _, _, rfl, .inr ⟨_, same_seqT sA hP, rfl⟩, _, rfl, t, tV ss, rfl, same_seqT sA ht, ?_⟩
      have cut : cutV (tV ss) (some ((es.map entV).length : Int)) none = tV (ss.drop es.length) := by
        rw [cut_from, List.length_map]
        show (ss.map V.str).drop _ = (ss.drop _).map V.str
        rw [List.map_drop]
      have go : ∀ (u : Addr) (H4 : Hp), Same H3 H4 → SqT K H4 u (tV (ss.drop es.length)) → rCatB K (.ref r1) (.ref u) H4 Q := fun u H4 s4 hu => by
        refine ⟨r1, u, _, _, rfl, rfl, same_seqT s4 hr1, hu, ?_, fun r H5 h5 s5 => q r H5 ((sA.trans s4).trans s5) ?_⟩
        · rw [List.length_map, List.length_map, List.length_map, List.length_drop]
          omega
        · show SqT K H5 r ((bs.map (fillD g) ++ ss.drop es.length).map V.str)
          rw [List.map_append]
          exact h5
      refine ⟨fun zz => go t H3 (Same.refl H3) ?_, fun _ l nl => go l _ (same_new nl) ?_⟩
      · have e1 : cutV (tV ss) (some ((es.map entV).length : Int)) none = tV ss := by
          unfold cutV
          rw [zz.1, zz.2, List.drop_zero, Nat.sub_zero, List.take_length]
        rw [← cut, e1]
        exact same_seqT sA ht
      · rw [cut]
        exact .inl (.inl upd_same)
/-! ### fits_address: slots rule 0, address 1; Rule.fits -/
theorem scFitsAddress : FnScope ["rule", "address"] ["rule", "address"] (defScope sFitsAddress) := ⟨rfl, rfl, rfl, by decide +kernel, rfl, by decide +kernel, by decide +kernel⟩
theorem scRFits : FnScope ["self", "address"] ["self", "address"] (defScope sRFits) := ⟨rfl, rfl, rfl, by decide +kernel, rfl, by decide +kernel, by decide +kernel⟩
theorem scRCall : FnScope ["self", "address"] ["self", "address"] (defScope sRCall) := ⟨rfl, rfl, rfl, by decide +kernel, rfl, by decide +kernel, by decide +kernel⟩
theorem scSentAddress : FnScope ["rule", "address", "holes"] ["rule", "address"] (defScope sSentAddress) := ⟨rfl, rfl, rfl, by decide +kernel, rfl, by decide +kernel, by decide +kernel⟩
/-- whether a rule fits -/
def fitA (z : Str) (es : List PyData) (x : Bool) (y : Str) (ss : List Str) : Option Bnd := if y = z then fitD es x ss else none
def spFits (K : PySem.W.Frag) (C CA : Addr) : Sp := fun vs H Q _ => ∃ (p a t : Addr) (z y : Str) (pd gd : PyData) (x : Bool) (ss : List Str), vs = [.ref p, .ref a] ∧ RuleAt K C H p z pd gd x ∧ (itemsD pd).all isEntD = true ∧ (itemsD pd).length ≤ 2 ∧ AddrT K CA H a t y ss ∧
  ∀ H', Same H H' → Q (.bl (fitA z (itemsD pd) x y ss).isSome) H'
theorem ok_fitsaddr {f C CA : Addr} {fd : FuncData} (F : Fun K "fits_address" "fits_address" sFitsAddress f fd) (T : RTxt K mg C) (TA : ATxt K mg CA) (B : Blt mg) (state : OwnP P w K mg base CA "state" (spAState K CA)) (path : OwnP P w K mg base CA "path" (spAPath K CA)) (rstate : OwnP P w K mg base C "state" (spGet C nState))
    (rpattern : OwnP P w K mg base C "pattern" (spGet C nPattern)) (rexact : OwnP P w K mg base C "is_exact" (spGet C nExact)) (matched : Own P w K mg base CX0 1 "matched" ["pattern", "is_exact", "signs", "is_end"] (spMatched K)) : FnOk P w K mg base CX0 4 f fd ["rule", "address"] (spFits K C CA) := by
  refine F.ok scFitsAddress (fun vs H Q E h => ?_) (fun cdv A outer s0 H vs Q E hr h => ?_)
  · obtain ⟨p, a, t, z, y, pd, gd, x, ss, rfl, _⟩ := h
    rfl
  · obtain ⟨p, a, t, z, y, pd, gd, x, ss, rfl, hR, hE, h2, hA, q⟩ := h
    have hr2 : Room 2 _ := hr.mono (by decide)
    refine ⟨_, (pss_one (ps_ret (pe_and (pe_cmpR op_eq (pe_prop (pv 1) TA.cl state.prop state.ok hr2 state.b .nil pass0 rfl) (pe_prop (pv 0) T.cl rstate.prop rstate.ok hr2 rstate.b .nil pass0 rfl) (nomark _)) (pe_one (pe_cmpR op_notN (pe_call matched.g (hr.mono (by decide)) rfl matched.mg matched.kp matched.b .nil pass0 (pa_cons (pe_prop (pv 0) T.cl rpattern.prop rpattern.ok hr2 rpattern.b .nil pass0 rfl) (pa_cons (pe_prop (pv 0) T.cl rexact.prop rexact.ok hr2 rexact.b .nil pass0 rfl) (pa_cons (pe_prop (pv 1) TA.cl path.prop path.ok hr2 path.b .nil pass0 rfl) (pa_cons pe_bl pa_nil))))) pe_non (nomark _)))))), ?_⟩
    obtain ⟨dx, tP, tW, tK, gV, ws, hp, hP, hG, hW, _, _, _, hK⟩ := hR.ex
    have hA' := hA
    obtain ⟨da, k, ha, ht, hk⟩ := hA
    refine ⟨_, rfl, a, da, _, rfl, ha, a, t, y, ss, rfl, hA', _, rfl, p, dx, _, rfl, hp, p, dx, _, _, rfl, hp, rfl, rfl, ?_⟩
    refine ⟨_, rfl, if_is (fun e => ?_) (fun e => ?_)⟩
    · have e' : y = z := by simpa using e
      have fa : fitA z (itemsD pd) x y ss = fitD (itemsD pd) x ss := if_pos e'
      rw [fa] at q
      refine ⟨_, rfl, p, dx, _, rfl, hp, p, dx, _, _, rfl, hp, rfl, _, rfl, p, dx, _, rfl, hp, p, dx, _, _, rfl, hp, rfl, _, rfl, a, da, _, rfl, ha, a, t, y, ss, rfl, hA', tP, t, itemsD pd, x, ss, rfl, hP, hE, h2, ht, fun e0 H' s' => ⟨rfl, ?_⟩, fun g e1 d H' s' nd hd => ⟨rfl, ?_⟩⟩
      · rw [e0] at q
        exact q H' s'
      · rw [e1] at q
        exact q H' s'
    · have e' : ¬ y = z := by simpa using e
      have fa : fitA z (itemsD pd) x y ss = none := if_neg e'
      rw [fa] at q
      exact q H (Same.refl H)
theorem ok_fits {f C CA : Addr} {fd : FuncData} (F : Fun K "fits" "Rule.fits" sRFits f fd) (fits_address : Own P w K mg base CX0 4 "fits_address" ["rule", "address"] (spFits K C CA)) : FnOk P w K mg base CX0 5 f fd ["self", "address"] (spFits K C CA) := by
  refine F.ok scRFits (fun vs H Q E h => ?_) (fun cdv A outer s0 H vs Q E hr h => ?_)
  · obtain ⟨p, a, t, z, y, pd, gd, x, ss, rfl, _⟩ := h
    rfl
  · obtain ⟨p, a, t, z, y, pd, gd, x, ss, rfl, h⟩ := h
    exact ⟨_, (pss_one (ps_ret (pe_call fits_address.g hr rfl fits_address.mg fits_address.kp fits_address.b .nil pass0 (pa_cons (pv 0) (pa_cons (pv 1) pa_nil))))), _, rfl, _, rfl, p, a, t, z, y, pd, gd, x, ss, rfl, h⟩
/-! ### Rule.__call__: slots self 0, address 1, holes 2 -/
theorem RuleAt.same {C : Addr} {H H' : Hp} {p : Addr} {z : Str} {pd gd : PyData} {x : Bool} (h : RuleAt K C H p z pd gd x) (s : Same H H') : RuleAt K C H' p z pd gd x := by
  obtain ⟨dx, tP, tW, tK, gV, ws, hp, hP, hG, hW, a1, a2, a3, hK⟩ := h.ex
  exact ⟨dx, tP, tW, tK, gV, ws, s _ _ hp, same_seqT s hP, goal_at_kp hG (kp_same s), s _ _ hW, a1, a2, a3, s _ _ hK⟩
/-- the goal, with what a call tells: none, the address itself, or another -/
inductive Told (K : PySem.W.Frag) (CA : Addr) (H : Hp) (a : Addr) (pd : PyData) (ss : List Str) : Option Bnd → PyData → V → Prop
  | no {gd : PyData} : Told K CA H a pd ss none gd .non
  | stay {f : Bnd} : Told K CA H a pd ss (some f) .none (.ref a)
  | go {f : Bnd} {y : Str} {b : PyData} {c t : Addr} (h : AddrT K CA H c t y ((itemsD b).map (fillD f) ++ ss.drop (itemsD pd).length)) : Told K CA H a pd ss (some f) (.tuple [.str y, b]) (.ref c)
def spRCall (K : PySem.W.Frag) (C CA : Addr) : Sp := fun vs H Q _ => ∃ (p a t : Addr) (z y : Str) (pd gd : PyData) (x : Bool) (ss : List Str), vs = [.ref p, .ref a] ∧ RuleAt K C H p z pd gd x ∧ (itemsD pd).all isEntD = true ∧ (itemsD pd).length ≤ 2 ∧ isGoalD gd pd = true ∧ AddrT K CA H a t y ss ∧ ss.all wrd = true ∧ ss.length ≤ 900 ∧
  ∀ v H', Same H H' → Told K CA H' a pd ss (fitA z (itemsD pd) x y ss) gd v → Q v H'
theorem inD_int {i : Int} : ∀ {ds : List PyData}, ds.all isEntD = true → inD (.int i) ds = true → PyData.int i ∈ ds
  | [], _, h => by cases h
  | d :: ds, he, h => by
    rw [List.all_cons, Bool.and_eq_true] at he
    have h' : (PyData.eqv d (.int i) || inD (.int i) ds) = true := h
    rcases Bool.or_eq_true_iff.mp h' with h1 | h2
    · rcases ent_cases he.1 with ⟨k, rfl⟩ | ⟨x', rfl, _⟩
      · have : k = i := by simpa [PyData.eqv] using h1
        rw [this]
        exact List.mem_cons_self
      · simp [PyData.eqv] at h1
    · exact List.mem_cons_of_mem _ (inD_int he.2 h2)
/-- what a goal's beginning is filled with -/
theorem goal_fill {y : Str} {b pd : PyData} {ss : List Str} {f : Bnd} {x : Bool} (hg : isGoalD (.tuple [.str y, b]) pd = true) (hE : (itemsD pd).all isEntD = true) (hm : fitD (itemsD pd) x ss = some f) (hw : ss.all wrd = true) :
    wrd y = true ∧ (itemsD b).all isEntD = true ∧ (itemsD b).length ≤ 4 ∧ (∀ i, .int i ∈ itemsD b → ∃ u, f i = some u) ∧ ((itemsD b).map (fillD f) ++ ss.drop (itemsD pd).length).all wrd = true ∧ (itemsD pd).length ≤ ss.length := by
  have hg' : (isW y.cps.toList && (areEntD 4 b && (itemsD b).all fun e => isWordD e || inD e (itemsD pd))) = true := hg
  rw [Bool.and_eq_true, Bool.and_eq_true] at hg'
  obtain ⟨g1, g2, g3⟩ := hg'
  obtain ⟨b1, b2, b3⟩ := areEnt_parts g2
  have hle : (itemsD pd).length ≤ ss.length ∧ mat (itemsD pd) ss noBnd = some f := by
    unfold fitD at hm
    by_cases c : ss.length < (itemsD pd).length
    · rw [if_pos c] at hm
      cases hm
    · rw [if_neg c] at hm
      by_cases c2 : x = true ∧ ss.length ≠ (itemsD pd).length
      · rw [if_pos c2] at hm
        cases hm
      · rw [if_neg c2] at hm
        exact ⟨by omega, hm⟩
  have hb : ∀ i, .int i ∈ itemsD b → ∃ u, f i = some u := fun i hi => by
    have := List.all_eq_true.mp g3 _ hi
    have h2 : inD (.int i) (itemsD pd) = true := this
    exact mat_bound hle.2 i (inD_int hE h2)
  refine ⟨g1, b3, by omega, hb, ?_, hle.1⟩
  rw [List.all_append, Bool.and_eq_true]
  refine ⟨?_, ?_⟩
  · rw [List.all_map, List.all_eq_true]
    intro e he
    rcases ent_cases (List.all_eq_true.mp b3 e he) with ⟨k, rfl⟩ | ⟨x', rfl, hx'⟩
    · obtain ⟨u, hu⟩ := hb k he
      show wrd ((f k).getD Str.empty) = true
      rw [hu]
      exact mat_words hw (fun _ _ z => by cases z) hle.2 k u hu
    · exact hx'
  · rw [List.all_eq_true]
    intro u hu
    exact List.all_eq_true.mp hw u (List.mem_of_mem_drop hu)
theorem ok_sentaddr {f C CA fI : Addr} {fd fdI : FuncData} (F : Fun K "sent_address" "sent_address" sSentAddress f fd) (T : RTxt K mg C) (TA : ATxt K mg CA) (B : Blt mg) (state : OwnP P w K mg base CA "state" (spAState K CA)) (path : OwnP P w K mg base CA "path" (spAPath K CA)) (rstate : OwnP P w K mg base C "state" (spGet C nState)) (rgoal : OwnP P w K mg base C "goal" (spGet C nGoal))
    (rpattern : OwnP P w K mg base C "pattern" (spGet C nPattern)) (rexact : OwnP P w K mg base C "is_exact" (spGet C nExact)) (matched : Own P w K mg base CX0 1 "matched" ["pattern", "is_exact", "signs", "is_end"] (spMatched K)) (sent : Own P w K mg base CX0 1 "sent" ["pattern", "beginning", "signs", "holes"] (spSent K))
    (MI : Mk K CA fI) (GI : FnOk P w K mg base CX0 3 fI fdI ["self", "state", "path"] (spAInit K CA)) (bI : Binds K fdI ["self", "state", "path"] []) : FnOk P w K mg base CX0 5 f fd ["rule", "address"] (spRCall K C CA) := by
  refine F.ok scSentAddress (fun vs H Q E h => ?_) (fun cdv A outer s0 H vs Q E hr h => ?_)
  · obtain ⟨p, a, t, z, y, pd, gd, x, ss, rfl, _⟩ := h
    rfl
  · obtain ⟨p, a, t, z, y, pd, gd, x, ss, rfl, hR, hE, h2, hg, hA, hw, few, q⟩ := h
    have hr2 : Room 2 _ := hr.mono (by decide)
    have hr1 : Room 1 _ := hr.mono (by decide)
    refine ⟨_, (pss_cons (ps_if (pt_cmpR op_ne (pe_prop (pv 1) TA.cl state.prop state.ok hr2 state.b .nil pass0 rfl) (pe_prop (pv 0) T.cl rstate.prop rstate.ok hr2 rstate.b .nil pass0 rfl) (nomark _)) (pss_one (ps_ret pe_non)) pss_nil)
      (pss_cons (ps_set (i := 2) scSentAddress.nd rfl (Or.inl rfl) (pe_call matched.g (hr.mono (by decide)) rfl matched.mg matched.kp matched.b .nil pass0 (pa_cons (pe_prop (pv 0) T.cl rpattern.prop rpattern.ok hr2 rpattern.b .nil pass0 rfl) (pa_cons (pe_prop (pv 0) T.cl rexact.prop rexact.ok hr2 rexact.b .nil pass0 rfl) (pa_cons (pe_prop (pv 1) TA.cl path.prop path.ok hr2 path.b .nil pass0 rfl) (pa_cons pe_bl pa_nil))))))
      (pss_cons (ps_if (PW.pt (pw_or (pt_cmpR op_isN (pv 2) pe_non (nomark _)) (pw_or1 (pt_cmpR op_isN (pe_prop (pv 0) T.cl rgoal.prop rgoal.ok hr2 rgoal.b .nil pass0 rfl) pe_non (nomark _))))) (pss_one (ps_ret (pe_ifExp (pt_cmpR op_isN (pv 2) pe_non (nomark _)) pe_non (pv 1)))) pss_nil)
      (pss_one (ps_ret (pe_make MI GI hr rfl TA.mgC bI .nil pass0 (pa_cons (pe_ix ix_tup (pe_prop (pv 0) T.cl rgoal.prop rgoal.ok hr2 rgoal.b .nil pass0 rfl) pe_int (fun _ _ => rfl)) (pa_cons (pe_call sent.g (hr.mono (by decide)) rfl sent.mg sent.kp sent.b .nil pass0 (pa_cons (pe_prop (pv 0) T.cl rpattern.prop rpattern.ok hr2 rpattern.b .nil pass0 rfl) (pa_cons (pe_ix ix_tup (pe_prop (pv 0) T.cl rgoal.prop rgoal.ok hr2 rgoal.b .nil pass0 rfl) pe_int (fun _ _ => rfl)) (pa_cons (pe_prop (pv 1) TA.cl path.prop path.ok hr2 path.b .nil pass0 rfl) (pa_cons (pv 2) pa_nil))))) pa_nil)))))))), ?_⟩
    obtain ⟨dx, tP, tW, tK, gV, ws, hp, hP, hG, hW, w1, w2, w3, hK⟩ := hR.ex
    have hA0 := hA
    obtain ⟨da, k, ha, ht, hk⟩ := hA0
    refine ⟨_, rfl, a, da, _, rfl, ha, a, t, y, ss, rfl, hA, _, rfl, p, dx, _, rfl, hp, p, dx, _, _, rfl, hp, rfl, rfl, _, rfl, if_is (fun e => ?_) (fun e => ?_)⟩
    · have e' : ¬ y = z := by simpa using e
      have fa : fitA z (itemsD pd) x y ss = none := if_neg e'
      rw [fa] at q
      exact q _ H (Same.refl H) .no
    · have e' : y = z := by simpa using e
      have fa : fitA z (itemsD pd) x y ss = fitD (itemsD pd) x ss := if_pos e'
      rw [fa] at q
      refine ⟨_, rfl, p, dx, _, rfl, hp, p, dx, _, _, rfl, hp, rfl, _, rfl, p, dx, _, rfl, hp, p, dx, _, _, rfl, hp, rfl, _, rfl, a, da, _, rfl, ha, a, t, y, ss, rfl, hA, tP, t, itemsD pd, x, ss, rfl, hP, hE, h2, ht, fun e0 H1 s1 => ?_, fun g ed d H1 s1 nd hd => ?_⟩
      · rw [e0] at q
        exact ⟨_, rfl, rfl, _, rfl, iteT ⟨_, rfl, rfl, _, rfl, iteT (q _ H1 s1 .no)⟩⟩
      · rw [ed] at q
        refine ⟨_, rfl, rfl, _, rfl, iteF ⟨_, rfl, p, dx, _, rfl, s1 _ _ hp, p, dx, _, _, rfl, s1 _ _ hp, rfl, rfl, _, rfl, ?_⟩⟩
        rcases goal_parts hg with rfl | ⟨gz, gb, rfl, _, _⟩
        · cases (show gV = .non from hG)
          exact iteT ⟨_, rfl, rfl, _, rfl, iteF ⟨_, rfl, q _ H1 s1 .stay⟩⟩
        · obtain ⟨gg, tb, rfl, hgg, htb⟩ := hG
          obtain ⟨f1, f2, f3, f4, f5, f6⟩ := goal_fill hg hE ed hw
          refine iteF ⟨_, rfl, p, dx, _, rfl, s1 _ _ hp, p, dx, _, _, rfl, s1 _ _ hp, rfl, gg, _, 0, _, rfl, rfl, .inl (.inl (s1 _ _ hgg)), rfl, ?_⟩
          refine ⟨_, rfl, p, dx, _, rfl, s1 _ _ hp, p, dx, _, _, rfl, s1 _ _ hp, rfl, _, rfl, p, dx, _, rfl, s1 _ _ hp, p, dx, _, _, rfl, s1 _ _ hp, rfl, gg, _, 1, _, rfl, rfl, .inl (.inl (s1 _ _ hgg)), rfl, ?_⟩
          refine ⟨_, rfl, a, da, _, rfl, s1 _ _ ha, a, t, y, ss, rfl, hA.same s1, _, rfl, tP, tb, t, d, itemsD pd, itemsD gb, ss, g, 5, rfl, same_seqT s1 hP, by omega, same_seqT s1 htb, f2, f3, same_seqT s1 ht, hd, f4, few, fun r H3 s3 hr3 c dc nc ndc ne => ?_⟩
          have sN : Same H3 (upd (upd H3 dc (.own c)) c (.ins CA dc [])) := fun b o e => by
            rw [upd_ne (ne_of_none e nc), upd_ne (ne_of_none e ndc)]
            exact e
          refine ⟨c, dc, r, gz, _, rfl, upd_same, f1, .inr (same_seqT sN hr3), ?_, f5, fun H4 t4 hA4 fr => ⟨rfl, q _ H4 (fun b o e => fr b o (sN _ _ ((s1.trans s3) _ _ e)) (ne_of_none ((s1.trans s3) _ _ e) nc)) (.go hA4)⟩⟩
          rw [List.length_append, List.length_map, List.length_drop]
          omega
theorem ok_rcall {f C CA : Addr} {fd : FuncData} (F : Fun K "__call__" "Rule.__call__" sRCall f fd) (sent_address : Own P w K mg base CX0 5 "sent_address" ["rule", "address"] (spRCall K C CA)) : FnOk P w K mg base CX0 6 f fd ["self", "address"] (spRCall K C CA) := by
  refine F.ok scRCall (fun vs H Q E h => ?_) (fun cdv A outer s0 H vs Q E hr h => ?_)
  · obtain ⟨p, a, t, z, y, pd, gd, x, ss, rfl, _⟩ := h
    rfl
  · obtain ⟨p, a, t, z, y, pd, gd, x, ss, rfl, h⟩ := h
    exact ⟨_, (pss_one (ps_ret (pe_call sent_address.g hr rfl sent_address.mg sent_address.kp sent_address.b .nil pass0 (pa_cons (pv 0) (pa_cons (pv 1) pa_nil))))), _, rfl, _, rfl, p, a, t, z, y, pd, gd, x, ss, rfl, h⟩
end
end RL

namespace RL
open PySem L2 SX AddrMath VA
section
variable {P : Program} {w : World} {K : PySem.W.Frag} {mg : Str → Option Value} {base : Heap}
abbrev sLIsInt : Stmt := top 60
theorem scLIsInt : FnScope ["_law_value"] ["_law_value"] (defScope sLIsInt) := ⟨rfl, rfl, rfl, by decide +kernel, rfl, by decide +kernel, by decide +kernel⟩
theorem ok_lint {f : Addr} {fd : FuncData} (F : Fun K "_law_is_integer" "_law_is_integer" sLIsInt f fd) (B : Blt mg) : FnOk P w K mg base CX0 1 f fd ["_law_value"] (spIsInt K) := by
  refine F.ok scLIsInt (fun vs H Q E h => ?_) (fun cdv A outer s H vs Q E hr h => ?_)
  · obtain ⟨x, d, rfl, _⟩ := h
    rfl
  · obtain ⟨x, d, rfl, hx, q⟩ := h
    refine ⟨_, (pss_one (ps_ret (pe_and (pe_callB call_isi (by rfl) B.isinstance_ (by decide +kernel) (pa_cons (pv 0) (pa_cons (pe_bltn (v := .ty "int") (by rfl) B.int_ (by decide +kernel) rfl) pa_nil))) (pe_one (pe_not (pe_callB call_isi (by rfl) B.isinstance_ (by decide +kernel) (pa_cons (pv 0) (pa_cons (pe_bltn (v := .ty "bool") (by rfl) B.bool_ (by decide +kernel) rfl) pa_nil)))))))), ?_⟩
    refine ⟨_, rfl, _, _, _, _, isNumD d, rfl, .ty "int", hx.ty, kitInt d, _, rfl, if_is (fun e => ?_) (fun e => ?_)⟩
    · refine ⟨_, rfl, _, _, _, _, isBoolD d, rfl, .ty "bool", hx.ty, kitBool d, _, rfl, ?_⟩
      have : (!isBoolD d) = isIntD d := by cases d <;> first | rfl | cases e
      rw [this]
      exact q
    · have : isIntD d = false := by cases d <;> first | rfl | cases e
      rw [this] at q
      exact q
/-! ### _law_entry: slots pen 0, words 1, lot 2 -/
def LW (H : Hp) (a : Addr) (ss : List Str) : Prop := H a = some (.lst (tV ss)) ∧ ss.all wrd = true
theorem LW.but {H H' : Hp} {d c a : Addr} {n : Nat} {ss : List Str} (h : LW H a ss) (p : PenAt H d c n) (b : But d H H') : LW H' a ss := ⟨b _ _ h.1 (lst_ne h.1 p), h.2⟩
theorem LW.same {H H' : Hp} {a : Addr} {ss : List Str} (h : LW H a ss) (s : Same H H') : LW H' a ss := ⟨s _ _ h.1, h.2⟩
theorem wrd_ent {z : Str} (h : wrd z = true) : isEntD (.str z) = true := by
  show (wrd z || false) = true
  rw [h]
  rfl
abbrev sEntry : Stmt := top 61
theorem scEntry : FnScope ["_law_pen_here", "_law_words_here", "_law_lot"] ["_law_pen_here", "_law_words_here"] (defScope sEntry) := ⟨rfl, rfl, rfl, by decide +kernel, rfl, by decide +kernel, by decide +kernel⟩
def spEntry : Sp := fun vs H Q _ => ∃ (d c wa : Addr) (ss : List Str) (n : Nat), vs = [.ref d, .ref wa] ∧ PenAt H d c n ∧ n ≤ 800000 ∧ LW H wa ss ∧ 0 < ss.length ∧ ss.length ≤ 100 ∧
  ∀ (e : PyData) (H' : Hp), isEntD e = true → PenAt H' d c (n + 2) → But d H H' → Q (entV e) H'
theorem ok_entry {f : Addr} {fd : FuncData} (F : Fun K "_law_entry" "_law_entry" sEntry f fd) (draw : Own P w K mg base CX0 1 "_law_draw" ["_law_pen_here", "_law_many"] spDraw) (pick : Own P w K mg base CX0 2 "_law_pick" ["_law_pen_here", "_law_items"] spPick) :
    FnOk P w K mg base CX0 3 f fd ["_law_pen_here", "_law_words_here"] spEntry := by
  refine F.ok scEntry (fun vs H Q E h => ?_) (fun cdv A outer s H vs Q E hr h => ?_)
  · obtain ⟨d, c, wa, ss, n, rfl, _⟩ := h
    rfl
  · obtain ⟨d, c, wa, ss, n, rfl, p, hn, hw, h0, h1, q⟩ := h
    refine ⟨_, (pss_cons (ps_set (i := 2) scEntry.nd rfl (Or.inl rfl) (pe_call draw.g (hr.mono (by decide)) rfl draw.mg draw.kp draw.b .nil pass0 (pa_cons (pv 0) (pa_cons pe_int pa_nil))))
      (pss_one (ps_ret (pe_ifExp (pt_cmpR op_lt (pv 2) pe_int (nomark _)) (pe_ix ix_list (pe_lst (pa_cons pe_int (pa_cons pe_int (pa_cons pe_int pa_nil)))) (pv 2) (fun _ _ => rfl)) (pe_call pick.g (hr.mono (by decide)) rfl pick.mg pick.kp pick.b .nil pass0 (pa_cons (pv 0) (pa_cons (pv 1) pa_nil))))))), ?_⟩
    refine ⟨_, rfl, d, c, n, 5, rfl, p, by omega, by decide, by decide, fun j H1 j0 j1 p1 b1 => ?_⟩
    refine ⟨_, rfl, _, _, rfl, rfl, _, rfl, if_is (fun e => ?_) (fun e => ?_)⟩
    · have e' := of_decide_eq_true e
      refine ⟨by show 3 ≤ sizeLine; decide, fun l nl => ⟨_, rfl, l, _, j, (if j = 2 then V.int 2 else V.int 1), rfl, rfl, .inl (.inl upd_same), ?_, ?_⟩⟩
      · have : j = 0 ∨ j = 1 ∨ j = 2 := by omega
        rcases this with rfl | rfl | rfl <;> rfl
      · by_cases z : j = 2
        · rw [if_pos z]
          exact q (.int 2) _ rfl ((p1.keep (same_new nl)).mono (by omega)) (b1.trans (but_of (same_new nl)))
        · rw [if_neg z]
          exact q (.int 1) _ rfl ((p1.keep (same_new nl)).mono (by omega)) (b1.trans (but_of (same_new nl)))
    · have hw1 := hw.but p b1
      refine ⟨_, rfl, _, rfl, d, c, n + 1, _, rfl, p1, by omega, .inl ⟨wa, _, rfl, hw1.1, by rw [List.length_map]; exact h0, by rw [List.length_map]; omega, fun v H2 hv p2 b2 => ?_⟩⟩
      obtain ⟨z, hz, rfl⟩ := List.mem_map.mp hv
      exact q (.str z) H2 (wrd_ent (List.all_eq_true.mp hw.2 z hz)) (p2.mono (by omega)) (b1.trans b2)
end
end RL

namespace RL
open PySem L2 SX AddrMath VA
section
variable {P : Program} {w : World} {K : PySem.W.Frag} {mg : Str → Option Value} {base : Heap}
/-- entries, drawn one by one -/
theorem lc_pen {ok : PyData → Prop} {d c D : Addr} {n N j m : Nat} {te : TE} {σ : L2.St} {vs : List Nat} {H1 : Hp} {Qd : Hp → Prop} (p : PenAt H1 d c n) (nD : H1 D = none) (few : N ≤ 100)
    (hw : ∀ x, wipe ((wipe σ vs).set j (some x)) vs = wipe σ vs)
    (step : ∀ i H', i < N → But d H1 H' → PenAt H' d c (n + i * m) → ∀ R : VK, (∀ e H'', isEntD e = true → ok e → PenAt H'' d c (n + i * m + m) → But d H' H'' → R (entV e) H'') → te ((wipe σ vs).set j (some (.int (0 + (i : Int))))) H' R)
    (fin : ∀ (es : List PyData) H', es.length = N → es.all isEntD = true → (∀ e ∈ es, ok e) → H' D = some (.lst (es.map entV)) → PenAt H' d c (n + N * m) → But d H1 H' → Qd H') :
    ∃ W : Nat → Nat → Hp → Prop, (∃ m, W 0 m (upd H1 D (.lst []))) ∧ ∀ i m H, W i m H → ((Itr 0 N).stop i H ∧ Qd H) ∨ ((Itr 0 N).go i H ∧ ∃ Nx : Hp → Prop, (∀ H', Nx H' → ∃ m', m' < m ∧ W (i + 1) m' H') ∧ ∀ x H', (Itr 0 N).yld i H x H' → gName j x (wipe σ vs) H' fun σ2 H2 => wipe σ2 vs = wipe σ vs ∧ tYes σ2 H2 fun b H3 =>
        if b = true then te σ2 H3 fun y H4 => ∃ acc, H4 D = some (.lst acc) ∧ acc.length < sizeLine ∧ Nx (upd H4 D (.lst (acc ++ [y]))) else Nx H3) := by
  have hDd : D ≠ d := fun z => p.ne (by rw [← z]; exact nD)
  have hDc : D ≠ c := fun z => p.neC (by rw [← z]; exact nD)
  refine lc_range (lo := 0) (n := N) (fun i H' => PenAt H' d c (n + i * m) ∧ But d H1 H' ∧ ∃ es : List PyData, H' D = some (.lst (es.map entV)) ∧ es.length = i ∧ es.all isEntD = true ∧ ∀ e ∈ es, ok e)
    ⟨(p.keep (same_new nD)).mono (by omega), but_of (same_new nD), [], upd_same, rfl, rfl, fun e he => by cases he⟩ ?_ ?_
  · rintro i H' hi ⟨p2, b2, es, hes, hl, ha, ho⟩
    refine ⟨hw _, no_test fun H2 s2 => ?_⟩
    rw [if_pos rfl]
    refine step i H2 hi (b2.trans (but_of s2)) (p2.keep s2) _ fun e H3 he hk p3 b3 => ?_
    have h3 := b3 D _ (s2 _ _ hes) hDd
    refine ⟨_, h3, by rw [List.length_map]; exact size_lt (by omega), ?_, ?_, es ++ [e], ?_, ?_, ?_, ?_⟩
    · rw [Nat.add_mul, Nat.one_mul, ← Nat.add_assoc]
      exact p3.put hDd hDc
    · exact ((b2.trans (but_of s2)).trans b3).put nD
    · rw [upd_same, List.map_append]
      rfl
    · rw [List.length_append, hl]
      rfl
    · rw [List.all_append, ha]
      show (true && (isEntD e && true)) = true
      rw [he]
      rfl
    · intro u hu
      rcases List.mem_append.mp hu with h | h
      · exact ho u h
      · rw [List.mem_singleton.mp h]
        exact hk
  · rintro H' ⟨p2, b2, es, hes, hl, ha, ho⟩
    exact fin es H' hl ha ho hes p2 b2
/-! ### _law_rule: slots pen 0, states 1, words 2, state 3, other 4, word 5, k 6, pattern 7, sort 8, exact 9, entry 10, some 11, beginning 12 cells pen, some, words -/
def PlainAt (K : PySem.W.Frag) (H : Hp) (a : Addr) (z : Str) (es : List PyData) (gd : PyData) (x : Bool) : Prop := ∃ tP gV, SqT K H a [.str z, .ref tP, gV, .bl x] ∧ SqT K H tP (es.map entV) ∧ GoalAt K H gV gd
def okRule (z : Str) (es : List PyData) (gd : PyData) : Prop := wrd z = true ∧ es.all isEntD = true ∧ es.length ≤ 2 ∧ isGoalD gd (.tuple es) = true
theorem goal_ok {y : Str} {bs es : List PyData} (hy : wrd y = true) (hb : bs.all isEntD = true) (hl : bs.length ≤ 4) (hi : ∀ i, PyData.int i ∈ bs → PyData.int i ∈ es) : isGoalD (.tuple [.str y, .tuple bs]) (.tuple es) = true := by
  show (wrd y && (areEntD 4 (.tuple bs) && bs.all fun e => isWordD e || inD e es)) = true
  rw [hy, Bool.true_and, Bool.and_eq_true]
  refine ⟨?_, ?_⟩
  · show (true && (decide ((bs.length : Int) ≤ 4) && bs.all isEntD)) = true
    rw [hb, decide_eq_true (by omega)]
    rfl
  · rw [List.all_eq_true]
    intro e he
    rcases ent_cases (List.all_eq_true.mp hb e he) with ⟨k, rfl⟩ | ⟨x', rfl, hx'⟩
    · have : inD (.int k) es = true := List.any_eq_true.mpr ⟨_, hi k he, by simp [PyData.eqv]⟩
      rw [this, Bool.or_true]
    · have : isWordD (.str x') = true := hx'
      rw [this]
      rfl
theorem dp_ents {H : Hp} {v : V} {bs : List PyData} (h : Dp K H v (.tuple bs)) (e : bs.all isEntD = true) : ∃ tb, v = .ref tb ∧ SqT K H tb (bs.map entV) := by
  cases h with
  | tup h1 h2 => exact ⟨_, rfl, by rw [← ents_val h2 e]; exact h1⟩
def intV : V → Bool
  | .int _ => true
  | _ => false
theorem int_ent (e : PyData) (h : isEntD e = true) : intV (entV e) = isIntD e := by
  rcases ent_cases h with ⟨k, rfl⟩ | ⟨x', rfl, _⟩ <;> rfl
theorem ints_of {es : List PyData} (h : es.all isEntD = true) : ((es.map entV).filter intV).map (fun x => x) = (es.filter isIntD).map entV := by
  rw [List.map_id', List.filter_map]
  congr 1
  exact List.filter_congr fun e he => int_ent e (List.all_eq_true.mp h e he)
abbrev sRule : Stmt := top 62
theorem scRule : FnScope ["_law_pen_here", "_law_states", "_law_words_here", "_law_state", "_law_other", "_law_word", "_law_k", "_law_pattern", "_law_sort", "_law_exact", "_law_entry_here", "_law_some", "_law_beginning"] ["_law_pen_here", "_law_states", "_law_words_here"] (defScope sRule) := ⟨rfl, rfl, rfl, by decide +kernel, rfl, by decide +kernel, by decide +kernel⟩
def spRule (K : PySem.W.Frag) : Sp := fun vs H Q _ => ∃ (d c sa wa : Addr) (ss ws : List Str) (n : Nat), vs = [.ref d, .ref sa, .ref wa] ∧ PenAt H d c n ∧ n ≤ 700000 ∧ LW H sa ss ∧ LW H wa ws ∧ 0 < ss.length ∧ ss.length ≤ 100 ∧ 0 < ws.length ∧ ws.length ≤ 90 ∧
  ∀ (a : Addr) (z : Str) (es : List PyData) (gd : PyData) (x : Bool) (H' : Hp), okRule z es gd → PlainAt K H' a z es gd x → PenAt H' d c (n + 60) → But d H H' → Q (.ref a) H'
/-- tuple([_law_entry(pen, words) for k in range(_law_pick(pen, [..]))]) -/
def tPatt (K : PySem.W.Frag) : TE := fun σ H Q => ∃ (d c wa : Addr) (ws : List Str) (n : Nat) (r1 r3 r4 r5 : Option V) (r6 : List (Option V)), σ = some (.ref d) :: r1 :: some (.ref wa) :: r3 :: r4 :: r5 :: r6 ∧ r6.length = 7 ∧ PenAt H d c n ∧ n ≤ 750000 ∧ LW H wa ws ∧ 0 < ws.length ∧ ws.length ≤ 90 ∧
  ∀ (t : Addr) (es : List PyData) (H' : Hp), es.all isEntD = true → es.length ≤ 2 → SqT K H' t (es.map entV) → PenAt H' d c (n + 5) → But d H H' → Q (.ref t) H'
theorem ok_rule {f : Addr} {fd : FuncData} (F : Fun K "_law_rule" "_law_rule" sRule f fd) (B : Blt mg) (draw : Own P w K mg base CX0 1 "_law_draw" ["_law_pen_here", "_law_many"] spDraw) (pick : Own P w K mg base CX0 2 "_law_pick" ["_law_pen_here", "_law_items"] spPick)
    (entry : Own P w K mg base CX0 3 "_law_entry" ["_law_pen_here", "_law_words_here"] spEntry) (is_integer : Own P w K mg base CX0 1 "_law_is_integer" ["_law_value"] (spIsInt K)) : FnOk P w K mg base CX0 4 f fd ["_law_pen_here", "_law_states", "_law_words_here"] (spRule K) := by
  refine F.ok scRule (fun vs H Q E h => ?_) (fun cdv A outer s0 H vs Q E hr h => ?_)
  · obtain ⟨d, c, sa, wa, ss, ws, n, rfl, _⟩ := h
    rfl
  · obtain ⟨d, c, sa, wa, ss, ws, n, rfl, p, hn, hs, hw, s0l, s1l, w0l, w1l, q⟩ := h
    have hr2 : Room 2 _ := hr.mono (by decide)
    have hr1 : Room 1 _ := hr.mono (by decide)
    refine ⟨_, (pss_cons (L2.ps_par3 (by rfl) scRule.nd (i := 3) (j := 4) (l := 5) rfl rfl rfl (by decide) (by decide) (by decide) rfl rfl rfl (pa_cons (pe_call pick.g hr2 rfl pick.mg pick.kp pick.b .nil pass0 (pa_cons (pv 0) (pa_cons (pv 1) pa_nil))) (pa_cons (pe_call pick.g hr2 rfl pick.mg pick.kp pick.b .nil pass0 (pa_cons (pv 0) (pa_cons (pv 1) pa_nil))) (pa_cons (pe_call pick.g hr2 rfl pick.mg pick.kp pick.b .nil pass0 (pa_cons (pv 0) (pa_cons (pv 2) pa_nil))) pa_nil))) (by rfl))
      (pss_cons (ps_set (i := 7) scRule.nd rfl (Or.inl rfl) (pe_callTy call_tupA (by rfl) B.tuple_ (by decide +kernel) (pa_cons (pe_lc (own := [("_law_k", 6)]) (g := gName 6) (tt := tYes) rfl scRule.nd (pi_range1 (by rfl) B.range_ (pa_cons (pe_call pick.g hr2 rfl pick.mg pick.kp pick.b .nil pass0 (pa_cons (pv 0) (pa_cons (litL (K := K) (lits_cons lit_int (lits_cons lit_int (lits_cons lit_int (lits_cons lit_int (lits_cons lit_int (lits_cons lit_int lits_nil)))))) (by decide)) pa_nil))) pa_nil))
          (blkOk_by (own := [("_law_k", 6)]) (N := ["_law_pen_here", "_law_states", "_law_words_here", "_law_state", "_law_other", "_law_word", "_law_k", "_law_pattern", "_law_sort", "_law_exact", "_law_entry_here", "_law_some", "_law_beginning"]) (sc := defScope sRule) (by decide +kernel))
          (fun _ _ _ _ _ => (pg_name (i := 6) scRule.nd rfl (Or.inl rfl))) (fun _ _ _ _ _ => pts_nil)
          (fun _ _ _ _ _ => (pe_call entry.g hr rfl entry.mg entry.kp entry.b .nil pass0 (pa_cons (pv 0) (pa_cons (pv 2) pa_nil))))) pa_nil)))
      (pss_cons (ps_par (by rfl) scRule.nd (i := 8) (j := 9) rfl rfl (by decide) rfl rfl (pa_cons (pe_call draw.g hr1 rfl draw.mg draw.kp draw.b .nil pass0 (pa_cons (pv 0) (pa_cons pe_int pa_nil))) (pa_cons (pe_cmpR op_eq (pe_call draw.g hr1 rfl draw.mg draw.kp draw.b .nil pass0 (pa_cons (pv 0) (pa_cons pe_int pa_nil))) pe_int (nomark _)) pa_nil)) (by rfl))
      (pss_cons (ps_if (pt_cmpR op_eq (pv 8) pe_int (nomark _)) (pss_one (ps_ret (pe_tup (pa_cons (pv 3) (pa_cons (pv 7) (pa_cons pe_non (pa_cons (pv 9) pa_nil))))))) pss_nil)
      (pss_cons (ps_if (pt_cmpR op_eq (pv 8) pe_int (nomark _)) (pss_one (ps_ret (pe_tup (pa_cons (pv 3) (pa_cons (pe_tup (pa_cons (pv 5) pa_nil)) (pa_cons (pe_tup (pa_cons (pv 4) (pa_cons (pe_tup pa_nil) pa_nil))) (pa_cons pe_bl pa_nil))))))) pss_nil)
      (pss_cons (ps_if (pt_cmpR op_eq (pv 8) pe_int (nomark _)) (pss_one (ps_ret (pe_tup (pa_cons (pv 3) (pa_cons (lit_tup (K := K) (lits_cons lit_int (lits_cons lit_int lits_nil)) (by decide)) (pa_cons (pe_tup (pa_cons (pv 4) (pa_cons (pe_call pick.g hr2 rfl pick.mg pick.kp pick.b .nil pass0 (pa_cons (pv 0) (pa_cons (pe_lst (pa_cons (lit_tup (K := K) (lits_cons lit_int lits_nil) (by decide)) (pa_cons (lit_tup (K := K) (lits_cons lit_int lits_nil) (by decide)) (pa_cons (lit_tup (K := K) (lits_cons lit_int (lits_cons lit_int lits_nil)) (by decide)) (pa_cons (pe_tup (pa_cons pe_int (pa_cons (pv 5) pa_nil))) pa_nil))))) pa_nil))) pa_nil))) (pa_cons pe_bl pa_nil))))))) pss_nil)
      (pss_cons (ps_if (pt_cmpR op_eq (pv 8) pe_int (nomark _)) (pss_one (ps_ret (pe_tup (pa_cons (pv 3) (pa_cons (lit_tup (K := K) (lits_cons lit_int (lits_cons lit_int lits_nil)) (by decide)) (pa_cons (pe_call pick.g hr2 rfl pick.mg pick.kp pick.b .nil pass0 (pa_cons (pv 0) (pa_cons (pe_lst (pa_cons pe_non (pa_cons (pe_tup (pa_cons (pv 4) (pa_cons (lit_tup (K := K) (lits_cons lit_int lits_nil) (by decide)) pa_nil))) (pa_cons (pe_tup (pa_cons (pv 4) (pa_cons (pe_tup (pa_cons (pv 5) pa_nil)) pa_nil))) pa_nil)))) pa_nil))) (pa_cons pe_bl pa_nil))))))) pss_nil)
      (pss_cons (ps_set (i := 11) scRule.nd rfl (Or.inr rfl) (pe_op op_cat (pe_callTy call_lstA (by rfl) B.list_ (by decide +kernel) (pa_cons (pv 2) pa_nil)) (pe_lc (own := [("_law_entry_here", 10)]) (g := gName 10) rfl scRule.nd (pi_seq (pv 7))
          (blkOk_by (own := [("_law_entry_here", 10)]) (N := ["_law_pen_here", "_law_states", "_law_words_here", "_law_state", "_law_other", "_law_word", "_law_k", "_law_pattern", "_law_sort", "_law_exact", "_law_entry_here", "_law_some", "_law_beginning"]) (sc := defScope sRule) (by decide +kernel))
          (fun _ _ _ _ _ => (pg_name (i := 10) scRule.nd rfl (Or.inl rfl))) (fun _ _ _ _ _ => pts_one (pt_val (pe_call is_integer.g hr1 rfl is_integer.mg is_integer.kp is_integer.b .nil pass0 (pa_cons (pv 10) pa_nil))))
          (fun _ _ _ _ _ => (pv 10)))))
      (pss_cons (ps_set (i := 12) scRule.nd rfl (Or.inl rfl) (pe_callTy call_tupA (by rfl) B.tuple_ (by decide +kernel) (pa_cons (pe_lc (own := [("_law_k", 6)]) (g := gName 6) (tt := tYes) rfl scRule.nd (pi_range1 (by rfl) B.range_ (pa_cons (pe_call pick.g hr2 rfl pick.mg pick.kp pick.b .nil pass0 (pa_cons (pv 0) (pa_cons (litL (K := K) (lits_cons lit_int (lits_cons lit_int (lits_cons lit_int (lits_cons lit_int (lits_cons lit_int (lits_cons lit_int (lits_cons lit_int lits_nil))))))) (by decide)) pa_nil))) pa_nil))
          (blkOk_by (own := [("_law_k", 6)]) (N := ["_law_pen_here", "_law_states", "_law_words_here", "_law_state", "_law_other", "_law_word", "_law_k", "_law_pattern", "_law_sort", "_law_exact", "_law_entry_here", "_law_some", "_law_beginning"]) (sc := defScope sRule) (by decide +kernel))
          (fun _ _ _ _ _ => (pg_name (i := 6) scRule.nd rfl (Or.inl rfl))) (fun _ _ _ _ _ => pts_nil)
          (fun _ _ _ _ _ => (pe_call pick.g hr2 rfl pick.mg pick.kp pick.b .nil pass0 (pa_cons (pv 0) (pa_cons (pv 11) pa_nil))))) pa_nil)))
      (pss_one (ps_ret (pe_tup (pa_cons (pv 3) (pa_cons (pv 7) (pa_cons (pe_tup (pa_cons (pv 4) (pa_cons (pv 12) pa_nil))) (pa_cons (pv 9) pa_nil)))))))))))))))), ?_⟩
    -- the words
    refine ⟨_, rfl, _, rfl, d, c, n, _, rfl, p, by omega, .inl ⟨sa, _, rfl, hs.1, by rw [List.length_map]; exact s0l, by rw [List.length_map]; omega, fun v1 H1 m1 p1 b1 => ?_⟩⟩
    refine ⟨_, rfl, _, rfl, d, c, _, _, rfl, p1, by omega, .inl ⟨sa, _, rfl, (hs.but p b1).1, by rw [List.length_map]; exact s0l, by rw [List.length_map]; omega, fun v2 H2 m2 p2 b2 => ?_⟩⟩
    have hw2 := (hw.but p b1).but p1 b2
    refine ⟨_, rfl, _, rfl, d, c, _, _, rfl, p2, by omega, .inl ⟨wa, _, rfl, hw2.1, by rw [List.length_map]; exact w0l, by rw [List.length_map]; omega, fun v3 H3 m3 p3 b3 => ?_⟩⟩
    obtain ⟨z, hz, rfl⟩ := List.mem_map.mp m1
    obtain ⟨y, hy, rfl⟩ := List.mem_map.mp m2
    obtain ⟨x, hx, rfl⟩ := List.mem_map.mp m3
    have hz' := List.all_eq_true.mp hs.2 z hz
    have hy' := List.all_eq_true.mp hs.2 y hy
    have hx' := List.all_eq_true.mp hw.2 x hx
    refine ⟨_, _, _, rfl, ?_⟩
    have hw3 := hw2.but p2 b3
    have b30 : But d H H3 := (b1.trans b2).trans b3
    have p30 := p3
    clear b1 b2 b3 p1 p2 p3 hw2 m1 m2 m3
    have done : ∀ (G : Hp) (m : Nat) (tP : Addr) (es : List PyData) (gd : PyData) (gV : V) (x : Bool), m ≤ 60 → PenAt G d c (n + m) → But d H G → SqT K G tP (es.map entV) → GoalAt K G gV gd → okRule z es gd → ∀ a, G a = none → Q (.ref a) (upd G a (.tup [.str z, .ref tP, gV, .bl x])) := fun G m tP es gd gV x hm pG bG hP hG ok a na =>
      q a z es gd x _ ok ⟨tP, gV, .inl (.inl upd_same), same_seqT (same_new na) hP, goal_at_kp hG (kp_same (same_new na))⟩ ((pG.keep (same_new na)).mono (by omega)) (bG.trans (but_of (same_new na)))
    -- the pattern
    refine ⟨_, rfl, fun l xs HL hl dl _ sl nl => ?_⟩
    have lx : xs.length = 6 := dps_len dl
    refine ⟨d, c, _, _, rfl, p30.keep sl, by omega, .inl ⟨l, xs, rfl, hl, by omega, by omega, fun v H5 mv p5 b5 => ?_⟩⟩
    obtain ⟨N, rfl, hN⟩ : ∃ N : Nat, v = .int (N : Int) ∧ N ≤ 2 := by
      obtain ⟨e, he, hv⟩ := dps_at dl mv
      simp only [List.mem_cons, List.not_mem_nil, or_false] at he
      rcases he with rfl | rfl | rfl | rfl | rfl | rfl <;> cases hv
      · exact ⟨0, rfl, by decide⟩
      · exact ⟨1, rfl, by decide⟩
      · exact ⟨1, rfl, by decide⟩
      · exact ⟨2, rfl, by decide⟩
      · exact ⟨2, rfl, by decide⟩
      · exact ⟨2, rfl, by decide⟩
    have hw5 := (hw3.same sl).but (p30.keep sl) b5
    have b50 : But d H H5 := (b30.trans (but_of sl)).trans b5
    refine ⟨(N : Int), rfl, by omega, by omega, fun D nD => ?_⟩
    refine lc_pen (N := N) (m := 2) (ok := fun _ => True) p5 nD (by omega) (fun _ => rfl) (fun i G hi bG pG R hR => ?_) fun es H6 le he _ hD p6 b6 => ?_
    · exact ⟨_, rfl, _, rfl, d, c, wa, ws, _, rfl, pG, by omega, hw5.but p5 bG, w0l, by omega, fun e G' ee p' b' => hR e G' ee trivial p' b'⟩
    refine ⟨D, _, rfl, .inl (.inl (.inl hD)), fun tP H7 hP s7 => ?_⟩
    have b70 : But d H H7 := (b50.trans b6).trans (but_of s7)
    have p7 := p6.keep s7
    have hw7 := (hw5.but p5 b6).same s7
    have p7' : PenAt H7 d c (n + 10) := p7.mono (by omega)
    clear b30 p30 hw3 hl dl sl nl p5 b5 mv hw5 b50 nD hD p6 b6 s7 p7
    -- sort, exact
    refine ⟨_, rfl, d, c, _, 9, rfl, p7', by omega, by decide, by decide, fun j H8 j0 j1 p8 b8 => ⟨_, rfl, d, c, _, 5, rfl, p8, by omega, by decide, by decide, fun k H9 k0 k1 p9 b9 => ⟨rfl, _, _, rfl, ?_⟩⟩⟩
    generalize decide (V.int k = V.int 0) = xe
    have b90 : But d H H9 := (b70.trans b8).trans b9
    have hw9 := (hw7.but p7' b8).but p8 b9
    have hP9 := (pen_kp p8 b9).sqT ((pen_kp p7' b8).sqT hP)
    have p9' : PenAt H9 d c (n + 12) := p9.mono (by omega)
    clear b70 p7' hw7 hP b8 b9 p8 p9 k0 k1
    have le2 : es.length ≤ 2 := by omega
    -- 0
    refine ⟨_, rfl, rfl, _, rfl, if_is (fun e => ?_) (fun e => ?_)⟩
    · exact ⟨_, rfl, _, rfl, _, rfl, by show 4 ≤ sizeLine; decide, done H9 12 tP es .none .non xe (by decide) p9' b90 hP9 rfl ⟨hz', he, le2, rfl⟩⟩
    -- 1
    refine ⟨_, rfl, rfl, _, rfl, if_is (fun e1 => ?_) (fun e1 => ?_)⟩
    · refine ⟨_, rfl, _, rfl, by show 1 ≤ sizeLine; decide, fun t1 n1 => ⟨_, rfl, by show 0 ≤ sizeLine; decide, fun t2 n2 => ⟨by show 2 ≤ sizeLine; decide, fun t3 n3 => ⟨by show 4 ≤ sizeLine; decide, ?_⟩⟩⟩⟩
      have s1 := same_new (o := .tup [.str x]) n1
      have u1 : (upd H9 t1 (.tup [.str x])) t1 = some (.tup [.str x]) := upd_same
      generalize upd H9 t1 (.tup [.str x]) = G1 at s1 u1 n2 n3 ⊢
      have s2 := same_new (o := .tup []) n2
      have u2 : (upd G1 t2 (.tup [])) t2 = some (.tup []) := upd_same
      generalize upd G1 t2 (.tup []) = G2 at s2 u2 n3 ⊢
      have s3 := same_new (o := .tup [.str y, .ref t2]) n3
      have sa := (s1.trans s2).trans s3
      exact done _ 12 t1 [.str x] (.tuple [.str y, .tuple []]) (.ref t3) false (by decide) (p9'.keep sa) (b90.trans (but_of sa)) (.inl (.inl (s3 _ _ (s2 _ _ u1)))) ⟨t3, t2, rfl, upd_same, .inl (.inl (s3 _ _ u2))⟩ ⟨hz', by rw [List.all_cons, wrd_ent hx']; rfl, by show 1 ≤ 2; decide, goal_ok hy' rfl (by decide) (fun i hi => absurd hi List.not_mem_nil)⟩
    -- 2
    have onlyI : ∀ (bs : List PyData), (∀ e ∈ bs, e = .int 1 ∨ e = .int 2 ∨ ∃ u, e = .str u) → ∀ i, PyData.int i ∈ bs → PyData.int i ∈ [PyData.int 1, PyData.int 2] := fun bs hb i hi => by
      rcases hb _ hi with h | h | ⟨u, h⟩ <;> cases h
      · exact List.mem_cons_self
      · exact List.mem_cons_of_mem _ List.mem_cons_self
    refine ⟨_, rfl, rfl, _, rfl, if_is (fun e2 => ?_) (fun e2 => ?_)⟩
    · refine ⟨_, rfl, fun v1 G1 h1 _ s1 => ⟨_, rfl, _, rfl, fun va Ga ha _ sa => fun vb Gb hb _ sb => fun vc Gc hc _ sc => ⟨_, rfl, by show 2 ≤ sizeLine; decide, fun t4 n4 => ⟨by show 4 ≤ sizeLine; decide, fun l nl => ?_⟩⟩⟩⟩
      have s4 := same_new (o := .tup [.int 2, .str x]) n4
      have u4 : (upd Gc t4 (.tup [.int 2, .str x])) t4 = some (.tup [.int 2, .str x]) := upd_same
      generalize upd Gc t4 (.tup [.int 2, .str x]) = G4 at s4 u4 nl ⊢
      have s5 := same_new (o := .lst [va, vb, vc, .ref t4]) nl
      have u5 : (upd G4 l (.lst [va, vb, vc, .ref t4])) l = some (.lst [va, vb, vc, .ref t4]) := upd_same
      generalize upd G4 l (.lst [va, vb, vc, .ref t4]) = G5 at s5 u5 ⊢
      have sAll : Same H9 G5 := ((((s1.trans sa).trans sb).trans sc).trans s4).trans s5
      refine ⟨d, c, _, _, rfl, p9'.keep sAll, by omega, .inl ⟨l, _, rfl, u5, by show 0 < 4; decide, by show 4 < 1000000; decide, fun v H10 mv p10 b10 => ⟨by show 2 ≤ sizeLine; decide, fun g ng => ⟨by show 4 ≤ sizeLine; decide, ?_⟩⟩⟩⟩
      have kk := pen_kp (p9'.keep sAll) b10
      obtain ⟨tP1, rfl, hP1⟩ := dp_ents (dp_kp kk (dp_same ((((sa.trans sb).trans sc).trans s4).trans s5) h1)) rfl
      obtain ⟨bs, tb, rfl, hb1, hb2, hb3, hb4⟩ : ∃ (bs : List PyData) (tb : Addr), v = .ref tb ∧ SqT K H10 tb (bs.map entV) ∧ bs.all isEntD = true ∧ bs.length ≤ 4 ∧ ∀ e ∈ bs, e = .int 1 ∨ e = .int 2 ∨ ∃ u, e = .str u := by
        simp only [List.mem_cons, List.not_mem_nil, or_false] at mv
        rcases mv with rfl | rfl | rfl | rfl
        · obtain ⟨tb, e, k⟩ := dp_ents (dp_kp kk (dp_same (((sb.trans sc).trans s4).trans s5) ha)) rfl
          exact ⟨_, tb, e, k, rfl, by decide, by simp⟩
        · obtain ⟨tb, e, k⟩ := dp_ents (dp_kp kk (dp_same ((sc.trans s4).trans s5) hb)) rfl
          exact ⟨_, tb, e, k, rfl, by decide, by simp⟩
        · obtain ⟨tb, e, k⟩ := dp_ents (dp_kp kk (dp_same (s4.trans s5) hc)) rfl
          exact ⟨_, tb, e, k, rfl, by decide, by simp⟩
        · exact ⟨[.int 2, .str x], t4, rfl, kk.sqT (.inl (.inl (s5 _ _ u4))), by rw [List.all_cons, List.all_cons, wrd_ent hx']; rfl, by show 2 ≤ 4; decide, by simp⟩
      have sg := same_new (o := .tup [.str y, .ref tb]) ng
      exact done _ 13 tP1 [.int 1, .int 2] (.tuple [.str y, .tuple bs]) (.ref g) false (by decide) (p10.keep sg) (((b90.trans (but_of sAll)).trans b10).trans (but_of sg)) (same_seqT sg hP1) ⟨g, tb, rfl, upd_same, same_seqT sg hb1⟩ ⟨hz', rfl, by decide, goal_ok hy' hb2 hb3 (onlyI bs hb4)⟩
    -- 3
    refine ⟨_, rfl, rfl, _, rfl, if_is (fun e3 => ?_) (fun e3 => ?_)⟩
    · refine ⟨_, rfl, fun v1 G1 h1 _ s1 => ⟨_, rfl, _, rfl, fun va Ga ha _ sa => ⟨by show 2 ≤ sizeLine; decide, fun t2 n2 => ⟨_, rfl, _, rfl, by show 1 ≤ sizeLine; decide, fun t3 n3 => ⟨by show 2 ≤ sizeLine; decide, fun t4 n4 => ⟨by show 3 ≤ sizeLine; decide, fun l nl => ?_⟩⟩⟩⟩⟩⟩
      have s2 := same_new (o := .tup [.str y, va]) n2
      have u2 : (upd Ga t2 (.tup [.str y, va])) t2 = some (.tup [.str y, va]) := upd_same
      generalize upd Ga t2 (.tup [.str y, va]) = G2 at s2 u2 n3 n4 nl ⊢
      have s3 := same_new (o := .tup [.str x]) n3
      have u3 : (upd G2 t3 (.tup [.str x])) t3 = some (.tup [.str x]) := upd_same
      generalize upd G2 t3 (.tup [.str x]) = G3 at s3 u3 n4 nl ⊢
      have s4 := same_new (o := .tup [.str y, .ref t3]) n4
      have u4 : (upd G3 t4 (.tup [.str y, .ref t3])) t4 = some (.tup [.str y, .ref t3]) := upd_same
      generalize upd G3 t4 (.tup [.str y, .ref t3]) = G4 at s4 u4 nl ⊢
      have s5 := same_new (o := .lst [.non, .ref t2, .ref t4]) nl
      have u5 : (upd G4 l (.lst [.non, .ref t2, .ref t4])) l = some (.lst [.non, .ref t2, .ref t4]) := upd_same
      generalize upd G4 l (.lst [.non, .ref t2, .ref t4]) = G5 at s5 u5 ⊢
      have sAll : Same H9 G5 := ((((s1.trans sa).trans s2).trans s3).trans s4).trans s5
      refine ⟨d, c, _, _, rfl, p9'.keep sAll, by omega, .inl ⟨l, _, rfl, u5, by show 0 < 3; decide, by show 3 < 1000000; decide, fun v H10 mv p10 b10 => ⟨by show 4 ≤ sizeLine; decide, ?_⟩⟩⟩
      have kk := pen_kp (p9'.keep sAll) b10
      obtain ⟨tP1, rfl, hP1⟩ := dp_ents (dp_kp kk (dp_same ((((sa.trans s2).trans s3).trans s4).trans s5) h1)) rfl
      have bb := (b90.trans (but_of sAll)).trans b10
      simp only [List.mem_cons, List.not_mem_nil, or_false] at mv
      rcases mv with rfl | rfl | rfl
      · exact done H10 13 tP1 [.int 1, .int 1] .none .non false (by decide) p10 bb hP1 rfl ⟨hz', rfl, by decide, rfl⟩
      · obtain ⟨tb, rfl, k⟩ := dp_ents (dp_kp kk (dp_same (((s2.trans s3).trans s4).trans s5) ha)) rfl
        exact done H10 13 tP1 [.int 1, .int 1] (.tuple [.str y, .tuple [.int 1]]) (.ref t2) false (by decide) p10 bb hP1 ⟨t2, tb, rfl, kk _ _ (s5 _ _ (s4 _ _ (s3 _ _ u2))) rfl, k⟩ ⟨hz', rfl, by decide, goal_ok hy' rfl (by decide) (fun i hi => by simp at hi; simp [hi])⟩
      · exact done H10 13 tP1 [.int 1, .int 1] (.tuple [.str y, .tuple [.str x]]) (.ref t4) false (by decide) p10 bb hP1 ⟨t4, t3, rfl, kk _ _ (s5 _ _ u4) rfl, kk.sqT (.inl (.inl (s5 _ _ (s4 _ _ u3))))⟩ ⟨hz', rfl, by decide, goal_ok hy' (by rw [List.all_cons, wrd_ent hx']; rfl) (by show 1 ≤ 4; decide) (fun i hi => by simp at hi)⟩
    -- any
    refine ⟨_, rfl, wa, _, rfl, .inl (.inl (.inl hw9.1)), fun l1 n1 => ⟨_, rfl, ?_⟩⟩
    have s1 := same_new (o := .lst (tV ws)) n1
    have u1 : (upd H9 l1 (.lst (tV ws))) l1 = some (.lst (tV ws)) := upd_same
    generalize upd H9 l1 (.lst (tV ws)) = G1 at s1 u1 ⊢
    refine seq_map (.inr (same_seqT s1 hP9)) (by rw [List.length_map]; omega) intV (fun x => x) ?hw (fun v hm G s => ⟨fun R hR => ?_, fun _ G3 s3 R hR => ⟨_, rfl, hR G3 (Same.refl G3)⟩⟩) fun D G2 nD hD s2 => ?_
    case hw => intro _; rfl
    · obtain ⟨e, hee, rfl⟩ := List.mem_map.mp hm
      have he' := List.all_eq_true.mp he e hee
      have vx : Vx K G (entV e) e := .inl ⟨ent_dp he', ok_mono (by decide) (ent_ok7 he')⟩
      have := hR G (Same.refl G)
      rw [int_ent e he'] at this
      exact ⟨_, rfl, entV e, e, rfl, vx, _, rfl, this⟩
    rw [ints_of he] at hD
    have lf : (es.filter isIntD).length ≤ 2 := Nat.le_trans (List.length_filter_le ..) le2
    refine ⟨l1, D, _, _, rfl, rfl, s2 _ _ u1, hD, ?_, fun sm nm => ?_⟩
    · rw [List.length_map, List.length_map]
      exact Nat.le_trans (m := 100) (by omega) (by show 100 ≤ sizeLine; decide)
    obtain ⟨xs2, ex2⟩ : ∃ xs2 : List PyData, xs2 = ws.map PyData.str ++ es.filter isIntD := ⟨_, rfl⟩
    have exs : tV ws ++ (es.filter isIntD).map entV = xs2.map entV := by
      rw [ex2, List.map_append, List.map_map]
      rfl
    have lx2 : 0 < xs2.length ∧ xs2.length ≤ 100 := by
      rw [ex2, List.length_append, List.length_map]
      omega
    have ax2 : ∀ e ∈ xs2, isEntD e = true ∧ ∀ i, e = .int i → .int i ∈ es := by
      intro e hee
      rw [ex2] at hee
      rcases List.mem_append.mp hee with h | h
      · obtain ⟨u, hu, rfl⟩ := List.mem_map.mp h
        exact ⟨wrd_ent (List.all_eq_true.mp hw9.2 u hu), fun i z => by cases z⟩
      · have := (List.mem_filter.mp h).1
        exact ⟨List.all_eq_true.mp he e this, fun i z => by rw [← z]; exact this⟩
    rw [exs]
    have s3 := same_new (o := .lst (xs2.map entV)) nm
    have u3 : (upd G2 sm (.lst (xs2.map entV))) sm = some (.lst (xs2.map entV)) := upd_same
    have sG := (s1.trans s2).trans s3
    generalize upd G2 sm (.lst (xs2.map entV)) = G3 at s3 u3 sG ⊢
    have pG := p9'.keep sG
    have bG := b90.trans (but_of sG)
    have hPG := same_seqT sG hP9
    clear hD u1 n1 nD nm s1 s2 s3 hP9 p9' b90 hw9
    -- the beginning
    refine ⟨_, rfl, fun l xs GL hl dl _ sl nl => ?_⟩
    have lx : xs.length = 7 := dps_len dl
    refine ⟨d, c, _, _, rfl, pG.keep sl, by omega, .inl ⟨l, xs, rfl, hl, by omega, by omega, fun v G5 mv p5 b5 => ?_⟩⟩
    obtain ⟨M, rfl, hM⟩ : ∃ N : Nat, v = .int (N : Int) ∧ N ≤ 4 := by
      obtain ⟨e, hee, hv⟩ := dps_at dl mv
      simp only [List.mem_cons, List.not_mem_nil, or_false] at hee
      rcases hee with rfl | rfl | rfl | rfl | rfl | rfl | rfl <;> cases hv
      · exact ⟨0, rfl, by decide⟩
      · exact ⟨1, rfl, by decide⟩
      · exact ⟨1, rfl, by decide⟩
      · exact ⟨2, rfl, by decide⟩
      · exact ⟨2, rfl, by decide⟩
      · exact ⟨3, rfl, by decide⟩
      · exact ⟨4, rfl, by decide⟩
    have u5 := b5 _ _ (sl _ _ u3) (lst_ne (sl _ _ u3) (pG.keep sl))
    have bG5 : But d H G5 := (bG.trans (but_of sl)).trans b5
    have hP5 := (pen_kp (pG.keep sl) b5).sqT (same_seqT sl hPG)
    refine ⟨(M : Int), rfl, by omega, by omega, fun D nD => ?_⟩
    refine lc_pen (N := M) (m := 1) (ok := fun e => e ∈ xs2) p5 nD (by omega) (fun _ => rfl) (fun i G hi bG pG R hR => ?_) fun bs H6 lb hb hbo hD p6 b6 => ?_
    · refine ⟨_, rfl, _, rfl, d, c, _, _, rfl, pG, by omega, .inl ⟨sm, _, rfl, bG _ _ u5 (lst_ne u5 p5), by rw [List.length_map]; exact lx2.1, by rw [List.length_map]; omega, fun v G' mv p' b' => ?_⟩⟩
      obtain ⟨e, hee, rfl⟩ := List.mem_map.mp mv
      exact hR e G' (ax2 e hee).1 hee p' b'
    refine ⟨D, _, rfl, .inl (.inl (.inl hD)), fun tB H7 hB s7 => ?_⟩
    refine ⟨_, rfl, _, rfl, _, rfl, _, rfl, by show 2 ≤ sizeLine; decide, fun g ng => ⟨_, rfl, by show 4 ≤ sizeLine; decide, ?_⟩⟩
    have sg := same_new (o := .tup [.str y, .ref tB]) ng
    have hP7 := same_seqT sg (same_seqT s7 ((pen_kp p5 b6).sqT hP5))
    exact done _ 30 tP es (.tuple [.str y, .tuple bs]) (.ref g) xe (by decide) (((p6.keep s7).keep sg).mono (by omega)) (((bG5.trans b6).trans (but_of s7)).trans (but_of sg)) hP7 ⟨g, tB, rfl, upd_same, same_seqT sg hB⟩ ⟨hz', he, le2, goal_ok hy' hb (by omega) (fun i hi => (ax2 _ (hbo _ hi)).2 i rfl)⟩
end
end RL

/-! The mathematics of rule texts (of HE, HI, HM, HN), without a law's defs. -/
namespace RL
open PySem L2 SX AddrMath VA
/-! from HE -/
/-! ## the law's own reader -/
/-- signs that a text can have -/
def sgn (z : Str) : Prop := ∀ c ∈ z.cps.toList, c < 1114112
theorem mem_joinL {s : List Nat} {c : Nat} : ∀ {ps : List (List Nat)} {p : List Nat}, p ∈ ps → c ∈ p → c ∈ TL.joinL s ps
  | [p], q, h, hc => by
    rw [List.mem_singleton.mp h] at hc
    exact hc
  | p :: q :: r, x, h, hc => by
    show c ∈ p ++ (s ++ TL.joinL s (q :: r))
    rcases List.mem_cons.mp h with rfl | h
    · exact List.mem_append_left _ hc
    · exact List.mem_append_right _ (List.mem_append_right _ (mem_joinL h hc))
theorem sgn_part {x y p : Str} (h : sgn x) (hp : p ∈ Txt.split x y) : sgn p := fun c hc => by
  refine h c ?_
  have e : TL.tl (PySem.Str.join y (Txt.split x y)) = TL.tl x := by rw [PySem.StrLaws.join_split]
  rw [TL.tl_join] at e
  show c ∈ TL.tl x
  rw [← e]
  exact mem_joinL (List.mem_map.mpr ⟨p, hp, rfl⟩) hc
theorem sgn_slice {x : Str} (h : sgn x) (lo hi : Option Int) : sgn (Txt.slice x lo hi) := fun c hc => by
  rw [← C8.cutS_slice] at hc
  have hc' : c ∈ (x.cps.toList.drop (HT.sIx x.length 0 lo)).take (HT.sIx x.length x.length hi - HT.sIx x.length 0 lo) := hc
  exact h c (List.mem_of_mem_drop (List.mem_of_mem_take hc'))
/-! from HI -/
/-- an entry's text -/
def entT : PyData → Str
  | .int i => Str.ofString (toString i)
  | .str z => z
  | _ => Str.empty
def strF (v : V) : V := match v with
  | .int i => .str (Str.ofString (toString i))
  | v => v
theorem entT_seg {e : PyData} (h : isEntD e = true) : strF (entV e) = .str (entT e) ∧ TL.tl (segS e) = 47 :: TL.tl (entT e) ∧ (entT e).length ≤ 8 := by
  have e47 : TL.tl (Str.empty ++ Str.ofString "/") = [47] := by decide +kernel
  rcases ent_cases h with ⟨k, rfl⟩ | ⟨x', rfl, hx⟩
  · refine ⟨rfl, ?_, ?_⟩
    · show TL.tl ((Str.empty ++ Str.ofString "/") ++ Str.ofString (toString k)) = _
      rw [TL.tl_append, e47]
      rfl
    · have h' : (false || (decide (1 ≤ k) && decide (k ≤ 2))) = true := h
      rw [Bool.false_or, Bool.and_eq_true, decide_eq_true_eq, decide_eq_true_eq] at h'
      have : k = 1 ∨ k = 2 := by omega
      rcases this with rfl | rfl <;> decide +kernel
  · refine ⟨rfl, ?_, (word_len hx).2⟩
    show TL.tl ((Str.empty ++ Str.ofString "/") ++ x') = _
    rw [TL.tl_append, e47]
    rfl
theorem join_flat : ∀ ps : List (List Nat), TL.joinL [] ps = ps.flatten
  | [] => rfl
  | [p] => by
    show p = p ++ []
    rw [List.append_nil]
  | p :: q :: r => by
    show p ++ ([] ++ TL.joinL [] (q :: r)) = p ++ (q :: r).flatten
    rw [List.nil_append, join_flat (q :: r)]
theorem join_slash : ∀ (p : List Nat) (ps : List (List Nat)), 47 :: TL.joinL [47] (p :: ps) = ((p :: ps).map fun x => 47 :: x).flatten
  | p, [] => by
    show 47 :: p = (47 :: p) ++ []
    rw [List.append_nil]
  | p, q :: r => by
    show 47 :: (p ++ ([47] ++ TL.joinL [47] (q :: r))) = (47 :: p) ++ ((q :: r).map fun x => 47 :: x).flatten
    rw [← join_slash q r]
    rfl
theorem seg_flat : ∀ {es : List PyData}, es.all isEntD = true → ((es.map segS).map TL.tl).flatten = ((es.map fun e => TL.tl (entT e)).map fun x => 47 :: x).flatten
  | [], _ => rfl
  | e :: es, h => by
    rw [List.all_cons, Bool.and_eq_true] at h
    show TL.tl (segS e) ++ ((es.map segS).map TL.tl).flatten = (47 :: TL.tl (entT e)) ++ ((es.map fun e => TL.tl (entT e)).map fun x => 47 :: x).flatten
    rw [(entT_seg h.1).2.1, seg_flat h.2]
/-- the law's text of entries is the program's -/
theorem path_same {es : List PyData} (h : es.all isEntD = true) (x : Bool) : Str.ofString "/" ++ Txt.join (Str.ofString "/") (es.map entT ++ (if x = true then [] else [Str.ofString ".."])) = pathS es x := by
  have t47 : TL.tl (Str.ofString "/") = [47] := by decide +kernel
  have t0 : TL.tl (Str.ofString "") = [] := by decide +kernel
  have jE : TL.tl (Txt.join (Str.ofString "") (es.map segS)) = ((es.map fun e => TL.tl (entT e)).map fun x => 47 :: x).flatten := by
    rw [TL.join_eq, TL.tl_join, t0, join_flat, seg_flat h]
  refine TL.ext_tl ?_
  rw [TL.tl_append, TL.join_eq, TL.tl_join, t47, List.map_append, List.map_map]
  unfold pathS
  cases x with
  | true =>
    rw [if_pos rfl, if_pos rfl, List.map_nil, List.append_nil]
    cases es with
    | nil =>
      rw [if_pos (by decide +kernel)]
      rfl
    | cons e r =>
      have ne : ¬ Txt.join (Str.ofString "") ((e :: r).map segS) = Str.ofString "" := fun z => by
        rw [z, t0] at jE
        cases jE
      rw [if_neg ne, jE]
      exact join_slash _ _
  | false =>
    rw [if_neg (by decide), if_neg (by decide), TL.tl_append, jE]
    have d : TL.tl (Str.ofString "..") = [46, 46] := by decide +kernel
    have d2 : TL.tl (Str.ofString "/..") = [47, 46, 46] := by decide +kernel
    rw [List.map_cons, List.map_nil, d, d2]
    have key : ∀ l : List (List Nat), [47] ++ TL.joinL [47] (l ++ [[46, 46]]) = (l.map fun x => 47 :: x).flatten ++ [47, 46, 46] := fun l => by
      cases l with
      | nil => rfl
      | cons p r =>
        show 47 :: TL.joinL [47] (p :: (r ++ [[46, 46]])) = _
        rw [join_slash]
        simp
    exact key _
/-! from HM -/
/-- the weight of parts: their signs and one more for each -/
def wgt (ys : List Str) : Nat := (ys.map fun y => y.length + 1).sum
theorem wgt_app (xs ys : List Str) : wgt (xs ++ ys) = wgt xs + wgt ys := by
  unfold wgt
  rw [List.map_append, List.sum_append]
theorem wgt_take (n : Nat) (ys : List Str) : wgt (ys.take n) ≤ wgt ys := by
  have := wgt_app (ys.take n) (ys.drop n)
  rw [List.take_append_drop] at this
  omega
theorem wgt_drop (n : Nat) (ys : List Str) : wgt (ys.drop n) ≤ wgt ys := by
  have := wgt_app (ys.take n) (ys.drop n)
  rw [List.take_append_drop] at this
  omega
theorem wgt_mem {ys : List Str} {y : Str} (h : y ∈ ys) : y.length + 1 ≤ wgt ys := by
  induction ys with
  | nil => cases h
  | cons z r ih =>
    unfold wgt
    rw [List.map_cons, List.sum_cons]
    rcases List.mem_cons.mp h with rfl | h
    · omega
    · have := ih h
      unfold wgt at this
      omega
theorem wgt_len (ys : List Str) : ys.length ≤ wgt ys := by
  induction ys with
  | nil => exact Nat.zero_le _
  | cons z r ih =>
    unfold wgt at ih ⊢
    rw [List.map_cons, List.sum_cons, List.length_cons]
    omega
theorem wgt_sum (ys : List Str) : wgt ys = (ys.map (·.length)).sum + ys.length := by
  induction ys with
  | nil => rfl
  | cons z r ih =>
    unfold wgt at ih ⊢
    simp only [List.map_cons, List.sum_cons, List.length_cons]
    omega
theorem join_wgt : ∀ ys : List Str, (PySem.Str.join blank ys).length ≤ wgt ys
  | [] => Nat.zero_le _
  | [p] => by
    show p.length ≤ wgt [p]
    exact Nat.le_of_succ_le (wgt_mem (List.mem_singleton.mpr rfl))
  | p :: q :: r => by
    show (p ++ blank ++ PySem.Str.join blank (q :: r)).length ≤ _
    have ih := join_wgt (q :: r)
    have l1 : blank.length = 1 := by decide +kernel
    rw [str_len_app, str_len_app, l1]
    have e : wgt (p :: q :: r) = (p.length + 1) + wgt (q :: r) := rfl
    omega
theorem mem_join {s : List Nat} {c : Nat} : ∀ {ps : List (List Nat)}, c ∈ TL.joinL s ps → c ∈ s ∨ ∃ p ∈ ps, c ∈ p
  | [], h => nomatch h
  | [p], h => .inr ⟨p, List.mem_singleton.mpr rfl, h⟩
  | p :: q :: r, h => by
    have h' : c ∈ p ++ (s ++ TL.joinL s (q :: r)) := h
    rcases List.mem_append.mp h' with h | h
    · exact .inr ⟨p, List.mem_cons_self .., h⟩
    · rcases List.mem_append.mp h with h | h
      · exact .inl h
      · rcases mem_join h with h | ⟨x, hx, hc⟩
        · exact .inl h
        · exact .inr ⟨x, List.mem_cons_of_mem _ hx, hc⟩
theorem join_fit {ys : List Str} (h : ∀ y ∈ ys, sgn y) : (Txt.join blank ys).length ≤ wgt ys ∧ sgn (Txt.join blank ys) := by
  rw [TL.join_eq]
  refine ⟨join_wgt ys, fun c hc => ?_⟩
  have hc' : c ∈ TL.tl (PySem.Str.join blank ys) := hc
  rw [TL.tl_join] at hc'
  rcases mem_join hc' with h1 | ⟨p, hp, h2⟩
  · have : TL.tl blank = [32] := by decide +kernel
    rw [this] at h1
    rw [List.mem_singleton.mp h1]
    decide
  · obtain ⟨y, hy, rfl⟩ := List.mem_map.mp hp
    exact h y hy c h2
theorem sgn_app {x y : Str} (hx : sgn x) (hy : sgn y) : sgn (x ++ y) := fun c hc => by
  have hc' : c ∈ TL.tl (x ++ y) := hc
  rw [TL.tl_append] at hc'
  rcases List.mem_append.mp hc' with h | h
  · exact hx c h
  · exact hy c h
theorem split_wgt (t : Str) : wgt (Txt.split t blank) ≤ t.length + 1 := by
  rw [wgt_sum]
  exact PyProof.Rows.split_weight t blank (by decide +kernel)
abbrev oddL : List V := [.str "to", .str "stays", .str "a", .str "/", .str "/..", .str "/1", .str "/3", .str "/a/1/2/..", .str "", .str "//", .str "/a/", .str "A", .str "1", .str "/01"]
abbrev oddM : List V := oddL ++ [.str "/1/2/1/2/1/.."]
theorem odd_fit {v : V} (h : v ∈ oddM) : ∃ z : Str, v = .str z ∧ z.length ≤ 13 ∧ sgn z := by
  simp only [oddM, oddL, List.cons_append, List.nil_append, List.mem_cons, List.not_mem_nil, or_false] at h
  rcases h with rfl | rfl | rfl | rfl | rfl | rfl | rfl | rfl | rfl | rfl | rfl | rfl | rfl | rfl | rfl <;> exact ⟨_, rfl, by decide +kernel, by unfold sgn; decide +kernel⟩
/-! from HN -/
/-! ## what is written is read -/
theorem word_no {z : Str} {c : Nat} (h : wrd z = true) (hc : c < 97) : c ∉ TL.tl z := no_of hc (isW_iff.mp (show isW z.cps.toList = true from h)).2.2
theorem word_sgn {z : Str} (h : wrd z = true) : sgn z := fun c hc => by
  have hl : isL c = true := (isW_iff.mp (show isW z.cps.toList = true from h)).2.2 c hc
  have h' : (decide (97 ≤ c) && decide (c ≤ 122)) = true := hl
  rw [Bool.and_eq_true, decide_eq_true_eq, decide_eq_true_eq] at h'
  omega
theorem hole_two {k : Int} (h : isEntD (.int k) = true) : k = 1 ∨ k = 2 := by
  have h' : (false || (decide (1 ≤ k) && decide (k ≤ 2))) = true := h
  rw [Bool.false_or, Bool.and_eq_true, decide_eq_true_eq, decide_eq_true_eq] at h'
  omega
theorem entT_no {e : PyData} {c : Nat} (h : isEntD e = true) (hc : c < 48) : c ∉ TL.tl (entT e) ∧ TL.tl (entT e) ≠ [] ∧ sgn (entT e) := by
  rcases ent_cases h with ⟨k, rfl⟩ | ⟨z, rfl, hz⟩
  · have t1 : TL.tl (Str.ofString (toString (1 : Int))) = [49] := by decide +kernel
    have t2 : TL.tl (Str.ofString (toString (2 : Int))) = [50] := by decide +kernel
    rcases hole_two h with rfl | rfl
    · show c ∉ TL.tl (Str.ofString (toString (1 : Int))) ∧ TL.tl (Str.ofString (toString (1 : Int))) ≠ [] ∧ _
      refine ⟨?_, ?_, fun x hx => ?_⟩
      · rw [t1]
        intro z
        have := List.mem_singleton.mp z
        omega
      · rw [t1]
        exact List.cons_ne_nil _ _
      · have hx' : x ∈ TL.tl (Str.ofString (toString (1 : Int))) := hx
        rw [t1] at hx'
        have := List.mem_singleton.mp hx'
        omega
    · show c ∉ TL.tl (Str.ofString (toString (2 : Int))) ∧ TL.tl (Str.ofString (toString (2 : Int))) ≠ [] ∧ _
      refine ⟨?_, ?_, fun x hx => ?_⟩
      · rw [t2]
        intro z
        have := List.mem_singleton.mp z
        omega
      · rw [t2]
        exact List.cons_ne_nil _ _
      · have hx' : x ∈ TL.tl (Str.ofString (toString (2 : Int))) := hx
        rw [t2] at hx'
        have := List.mem_singleton.mp hx'
        omega
  · refine ⟨word_no hz (by omega), fun e => ?_, word_sgn hz⟩
    have l := (word_len hz).1
    rw [TL.len_tl, show TL.tl z = [] from e] at l
    cases l
theorem entP_T {e : PyData} (h : isEntD e = true) : entP (entT e) = some e := by
  rcases ent_cases h with ⟨k, rfl⟩ | ⟨z, rfl, hz⟩
  · rcases hole_two h with rfl | rfl
    · show entP (Str.ofString (toString (1 : Int))) = _
      unfold entP holeP
      rw [if_neg (by decide +kernel), if_pos (by decide +kernel)]
    · show entP (Str.ofString (toString (2 : Int))) = _
      unfold entP holeP
      rw [if_neg (by decide +kernel), if_neg (by decide +kernel), if_pos (by decide +kernel)]
  · show entP z = _
    unfold entP
    rw [if_pos (show isW z.cps.toList = true from hz)]
theorem ents_T : ∀ {es : List PyData}, es.all isEntD = true → ((es.map entT).all fun p => (entP p).isSome) = true ∧ (es.map entT).filterMap entP = es
  | [], _ => ⟨rfl, rfl⟩
  | e :: es, h => by
    rw [List.all_cons, Bool.and_eq_true] at h
    obtain ⟨i1, i2⟩ := ents_T h.2
    refine ⟨?_, ?_⟩
    · rw [List.map_cons, List.all_cons, i1, entP_T h.1]
      rfl
    · rw [List.map_cons, List.filterMap_cons, entP_T h.1, i2]
theorem dots_tl : TL.tl (Str.ofString "..") = [46, 46] := by decide +kernel
/-- the parts of a written path -/
def prts (es : List PyData) (x : Bool) : List Str := es.map entT ++ (if x = true then [] else [Str.ofString ".."])
theorem prts_mem {es : List PyData} {x : Bool} (h : es.all isEntD = true) {p : Str} (hp : p ∈ prts es x) : 47 ∉ TL.tl p ∧ 32 ∉ TL.tl p ∧ TL.tl p ≠ [] ∧ sgn p := by
  rcases List.mem_append.mp hp with hp | hp
  · obtain ⟨e, he, rfl⟩ := List.mem_map.mp hp
    have k := List.all_eq_true.mp h e he
    obtain ⟨a1, a2, a3⟩ := entT_no (c := 47) k (by decide)
    exact ⟨a1, (entT_no (c := 32) k (by decide)).1, a2, a3⟩
  · cases x with
    | true => cases hp
    | false =>
      rw [List.mem_singleton.mp hp]
      refine ⟨by rw [dots_tl]; decide, by rw [dots_tl]; decide, by rw [dots_tl]; decide, fun c hc => ?_⟩
      have hc' : c ∈ TL.tl (Str.ofString "..") := hc
      rw [dots_tl] at hc'
      simp only [List.mem_cons, List.not_mem_nil, or_false] at hc'
      omega
theorem parts_read {es : List PyData} (h : es.all isEntD = true) (x : Bool) : partsP (prts es x) = some (es, x) := by
  obtain ⟨i1, i2⟩ := ents_T h
  unfold partsP prts
  cases x with
  | false =>
    have l : (es.map entT ++ [Str.ofString ".."]).getLast? = some dots := by rw [List.getLast?_append]; rfl
    have d : (es.map entT ++ [Str.ofString ".."]).dropLast = es.map entT := List.dropLast_concat
    simp only [Bool.false_eq_true, if_false, l, decide_true, Bool.not_true, d, i1, i2, if_true]
  | true =>
    have l : ¬ (es.map entT).getLast? = some dots := fun e => by
      have m := List.mem_of_getLast? e
      obtain ⟨u, hu, eu⟩ := List.mem_map.mp m
      have := (entT_no (c := 46) (List.all_eq_true.mp h u hu) (by decide)).1
      rw [eu] at this
      exact this (by rw [show TL.tl dots = [46, 46] from dots_tl]; exact List.mem_cons_self ..)
    simp only [if_true, List.append_nil, l, decide_false, Bool.not_false, i1, i2]
theorem slash_tl : TL.tl (Str.ofString "/") = [47] := by decide +kernel
theorem cut_rest (l : List Nat) (c : Nat) : Txt.slice ⟨(c :: l).toArray⟩ (some 1) none = ⟨l.toArray⟩ := by
  rw [← C8.cutS_slice]
  unfold cutS
  have l1 : (⟨(c :: l).toArray⟩ : Str).length = l.length + 1 := rfl
  have s1 : HT.sIx (l.length + 1) 0 (some 1) = 1 := by
    show HT.sIx (l.length + 1) 0 (some ((1 : Nat) : Int)) = 1
    rw [HT.sIx_nat]
    omega
  rw [l1, s1, HT.sIx_none]
  show (⟨((c :: l).drop 1 |>.take (l.length + 1 - 1)).toArray⟩ : Str) = _
  rw [List.drop_one, List.tail_cons, Nat.add_sub_cancel, List.take_length]
theorem path_tl {es : List PyData} (h : es.all isEntD = true) (x : Bool) : TL.tl (pathS es x) = 47 :: TL.joinL [47] ((prts es x).map TL.tl) := by
  rw [← path_same h x, TL.tl_append, slash_tl, TL.join_eq, TL.tl_join, slash_tl]
  rfl
theorem path_free {es : List PyData} (h : es.all isEntD = true) (x : Bool) : 32 ∉ TL.tl (pathS es x) ∧ sgn (pathS es x) := by
  have mem : ∀ c ∈ TL.tl (pathS es x), c = 47 ∨ ∃ p ∈ prts es x, c ∈ TL.tl p := fun c hc => by
    rw [path_tl h x] at hc
    rcases List.mem_cons.mp hc with h1 | h1
    · exact .inl h1
    · rcases mem_join h1 with h2 | ⟨p, hp, h2⟩
      · exact .inl (List.mem_singleton.mp h2)
      · obtain ⟨y, hy, rfl⟩ := List.mem_map.mp hp
        exact .inr ⟨y, hy, h2⟩
  refine ⟨fun hc => ?_, fun c hc => ?_⟩
  · rcases mem 32 hc with e | ⟨p, hp, hc⟩
    · cases e
    · exact (prts_mem h hp).2.1 hc
  · rcases mem c hc with e | ⟨p, hp, hc⟩
    · omega
    · exact (prts_mem h hp).2.2.2 c hc
theorem path_read {es : List PyData} (h : es.all isEntD = true) (x : Bool) : pathP (pathS es x) = some (es, x) := by
  by_cases c : prts es x = []
  · have ex : es = [] ∧ x = true := by
      unfold prts at c
      obtain ⟨c1, c2⟩ := List.append_eq_nil_iff.mp c
      refine ⟨List.map_eq_nil_iff.mp c1, ?_⟩
      cases x with
      | true => rfl
      | false => cases c2
    obtain ⟨rfl, rfl⟩ := ex
    exact if_pos (by decide +kernel)
  · have e1 := path_tl h x
    obtain ⟨p, r, hp⟩ := List.exists_cons_of_ne_nil c
    have hj : TL.joinL [47] ((prts es x).map TL.tl) ≠ [] := fun e => by
      have hm : p ∈ prts es x := by rw [hp]; exact List.mem_cons_self ..
      have hn := (prts_mem h hm).2.2.1
      obtain ⟨a, s, ea⟩ := List.exists_cons_of_ne_nil hn
      have hm2 : TL.tl p ∈ (prts es x).map TL.tl := List.mem_map.mpr ⟨p, hm, rfl⟩
      have ha : a ∈ TL.tl p := by rw [ea]; exact List.mem_cons_self ..
      have := mem_joinL (s := [47]) hm2 ha
      rw [e] at this
      cases this
    have ne : pathS es x ≠ slash := fun e => by
      rw [e, show TL.tl slash = [47] from slash_tl] at e1
      exact hj (List.cons.inj e1).2.symm
    have st : Txt.startswith (pathS es x) slash = true := by
      have es' : slash = S [47] := by decide +kernel
      rw [es', starts_one, decide_eq_true_eq]
      show (TL.tl (pathS es x)).head? = some 47
      rw [e1]
      rfl
    have sl : Txt.slice (pathS es x) (some 1) none = Txt.join slash (prts es x) := by
      have : pathS es x = ⟨(47 :: TL.joinL [47] ((prts es x).map TL.tl)).toArray⟩ := by rw [← e1, TL.mk_tl]
      rw [this, cut_rest]
      refine TL.ext_tl ?_
      rw [TL.join_eq, TL.tl_join, show TL.tl slash = [47] from slash_tl]
    unfold pathP
    rw [if_neg ne, if_pos st, sl, TL.split_join (s := 47) (S := []) slash_tl (by decide +kernel) c fun p hp => (prts_mem h hp).1, parts_read h x]
/-- the goal, as a text says it -/
def goalP : PyData → Option (Str × List PyData)
  | .tuple [.str y, b] => some (y, itemsD b)
  | _ => none
theorem goalS_P (gd : PyData) : goalSD (goalP gd) = goalD gd := by
  unfold goalP
  split
  · rfl
  · rename_i h
    unfold goalD
    split
    · rename_i y b
      exact absurd rfl (h y b)
    · rfl
/-- a rule's text is read as the rule; its length, its signs -/
theorem rule_read {z : Str} {es : List PyData} {gd : PyData} {x : Bool} (ok : okRule z es gd) : ruleP (ruleS z (.tuple es) gd x) = some (z, es, goalP gd, x) ∧ (ruleS z (.tuple es) gd x).length ≤ 82 ∧ sgn (ruleS z (.tuple es) gd x) := by
  obtain ⟨o1, o2, o3, o4⟩ := ok
  have e0 : TL.tl Str.empty = [] := by decide +kernel
  have eB : TL.tl blank = [32] := by decide +kernel
  have e1 : TL.tl (Str.ofString " ") = [32] := by decide +kernel
  have e6 : TL.tl (Str.ofString " stays") = 32 :: TL.tl stays := by decide +kernel
  have e4 : TL.tl (Str.ofString " to ") = 32 :: (TL.tl toward ++ [32]) := by decide +kernel
  have fs : 32 ∉ TL.tl stays := by decide +kernel
  have ft : 32 ∉ TL.tl toward := by decide +kernel
  have gs : sgn stays := by unfold sgn; decide +kernel
  have gt : sgn toward := by unfold sgn; decide +kernel
  have fz := word_no (c := 32) o1 (by decide)
  obtain ⟨fp, gp⟩ := path_free o2 x
  have lz := (word_len o1).2
  have lp := (path_len o2 x).2
  rcases goal_parts o4 with rfl | ⟨gz, gb, rfl, hgz, hgb⟩
  · have eq : ruleS z (.tuple es) .none x = Txt.join blank [z, pathS es x, stays] := by
      refine TL.ext_tl ?_
      rw [TL.join_eq, TL.tl_join, eB]
      show TL.tl (Str.empty ++ (Str.empty ++ z ++ Str.ofString " " ++ pathS es x) ++ Str.ofString " stays") = TL.tl z ++ ([32] ++ (TL.tl (pathS es x) ++ ([32] ++ TL.tl stays)))
      simp only [TL.tl_append, e0, e1, e6, List.nil_append, List.append_assoc, List.cons_append]
    have fr : ∀ p ∈ [z, pathS es x, stays], 32 ∉ TL.tl p ∧ sgn p := fun p hp => by
      simp only [List.mem_cons, List.not_mem_nil, or_false] at hp
      rcases hp with rfl | rfl | rfl
      · exact ⟨fz, word_sgn o1⟩
      · exact ⟨fp, gp⟩
      · exact ⟨fs, gs⟩
    have ln : (ruleS z (.tuple es) .none x).length ≤ 82 := by
      rw [eq]
      refine Nat.le_trans (join_fit fun p hp => (fr p hp).2).1 ?_
      show (z.length + 1) + ((((pathS es x).length + 1)) + ((stays.length + 1) + 0)) ≤ 82
      have : stays.length = 5 := by decide +kernel
      omega
    refine ⟨?_, ln, ?_⟩
    · rw [eq]
      unfold ruleP
      rw [TL.split_join (s := 32) (S := []) eB (by decide +kernel) (by simp) fun p hp => (fr p hp).1]
      show (if stays = stays then sidesP z (pathS es x) none else none) = _
      rw [if_pos rfl]
      unfold sidesP
      rw [path_read o2 x]
      show (if isW z.cps.toList = true then _ else none) = _
      rw [if_pos (show isW z.cps.toList = true from o1)]
      rfl
    · rw [eq]
      exact (join_fit fun p hp => (fr p hp).2).2
  · obtain ⟨_, b2, b3⟩ := areEnt_parts hgb
    obtain ⟨fq, gq⟩ := path_free b3 x
    have fg := word_no (c := 32) (z := gz) hgz (by decide)
    have lg := (word_len hgz).2
    have lq := (path_len b3 x).2
    have eq : ruleS z (.tuple es) (.tuple [.str gz, gb]) x = Txt.join blank [z, pathS es x, toward, gz, pathS (itemsD gb) x] := by
      refine TL.ext_tl ?_
      rw [TL.join_eq, TL.tl_join, eB]
      show TL.tl (Str.empty ++ (Str.empty ++ z ++ Str.ofString " " ++ pathS es x) ++ Str.ofString " to " ++ gz ++ Str.ofString " " ++ pathS (itemsD gb) x) = TL.tl z ++ ([32] ++ (TL.tl (pathS es x) ++ ([32] ++ (TL.tl toward ++ ([32] ++ (TL.tl gz ++ ([32] ++ TL.tl (pathS (itemsD gb) x))))))))
      simp only [TL.tl_append, e0, e1, e4, List.nil_append, List.append_assoc, List.cons_append]
    have fr : ∀ p ∈ [z, pathS es x, toward, gz, pathS (itemsD gb) x], 32 ∉ TL.tl p ∧ sgn p := fun p hp => by
      simp only [List.mem_cons, List.not_mem_nil, or_false] at hp
      rcases hp with rfl | rfl | rfl | rfl | rfl
      · exact ⟨fz, word_sgn o1⟩
      · exact ⟨fp, gp⟩
      · exact ⟨ft, gt⟩
      · exact ⟨fg, word_sgn hgz⟩
      · exact ⟨fq, gq⟩
    have ln : (ruleS z (.tuple es) (.tuple [.str gz, gb]) x).length ≤ 82 := by
      simp only [ruleS, str_len_app]
      have l0 : Str.empty.length = 0 := by decide +kernel
      have l1 : (Str.ofString " ").length = 1 := by decide +kernel
      have l4 : (Str.ofString " to ").length = 4 := by decide +kernel
      have lp' : (pathS (itemsD (.tuple es)) x).length ≤ 9 * es.length + 3 := lp
      omega
    refine ⟨?_, ln, ?_⟩
    · rw [eq]
      unfold ruleP
      rw [TL.split_join (s := 32) (S := []) eB (by decide +kernel) (by simp) fun p hp => (fr p hp).1]
      show (if (decide (toward = toward) && isW gz.cps.toList) = true then sidesP z (pathS es x) (some (gz, pathS (itemsD gb) x)) else none) = _
      rw [if_pos (by rw [decide_eq_true rfl, show isW gz.cps.toList = true from hgz]; rfl)]
      unfold sidesP
      rw [path_read o2 x]
      show (if isW z.cps.toList = true then (match pathP (pathS (itemsD gb) x) with
        | none => none
        | some (es', y) => if y = x then some (z, es, some (gz, es'), x) else none) else none) = _
      rw [if_pos (show isW z.cps.toList = true from o1), path_read b3 x]
      show (if x = x then _ else none) = _
      rw [if_pos rfl]
      rfl
    · rw [eq]
      exact (join_fit fun p hp => (fr p hp).2).2
end RL

/-! Comprehensions whose items are told by the index, with a test; a statement that is never reached; a class made through a local name from a starred argument. -/
namespace VA
open PySem L2 SX AddrMath PySem.Spec PyProof.Rows StX
theorem range_fm {α β : Type} (f : α → Option β) : ∀ ss : List α, (List.range ss.length).filterMap (fun i => ss[i]?.bind f) = ss.filterMap f
  | [] => rfl
  | x :: r => by
    have ih := range_fm f r
    rw [List.length_cons, List.range_succ_eq_map, List.filterMap_cons, List.filterMap_map, List.filterMap_cons]
    have e : ((fun i => (x :: r)[i]?.bind f) ∘ Nat.succ) = fun i => r[i]?.bind f := by
      funext i
      rfl
    rw [e, ih]
    rfl
/-- a comprehension over a list or a tuple: what each index gives, if it gives any -/
theorem seq_opt {K : PySem.W.Frag} {a : Addr} {xs : List V} {j : Nat} {tt : TT} {te : TE} {vs : List Nat} {σ : L2.St} {H1 : Hp} {Qd : Addr → Hp → Prop} (hq : SqA K H1 a xs) (few : xs.length ≤ 100000) (F : Nat → Option V)
    (hw : ∀ x, wipe ((wipe σ vs).set j (some x)) vs = wipe σ vs)
    (step : ∀ i x, xs[i]? = some x → ∀ H, Same H1 H → (∀ R : Bool → Hp → Prop, (∀ H', Same H H' → R (F i).isSome H') → tt ((wipe σ vs).set j (some x)) H R) ∧ (∀ y, F i = some y → ∀ H', Same H H' → ∀ R : VK, (∀ H'', Same H' H'' → R y H'') → te ((wipe σ vs).set j (some x)) H' R))
    (fin : ∀ D H', H1 D = none → H' D = some (.lst ((List.range xs.length).filterMap F)) → Same H1 H' → Qd D H') :
    ∃ a', V.ref a = V.ref a' ∧ (((∃ ys, SqL K H1 a' ys) ∧ ∀ D, H1 D = none → LcGoal (Itl K a') (gName j) tt te vs σ H1 D (Qd D)) ∨ ((∃ ys, SqT K H1 a' ys) ∧ ∀ D, H1 D = none → LcGoal (Itt K a') (gName j) tt te vs σ H1 D (Qd D))) := by
  have key : ∀ D, H1 D = none → ∀ i x H, xs[i]? = some x → (Same H1 H ∧ H D = some (.lst ((List.range i).filterMap F))) → gName j x (wipe σ vs) H fun σ2 H2 => wipe σ2 vs = wipe σ vs ∧ tt σ2 H2 fun b H3 =>
        if b = true then te σ2 H3 fun y H4 => ∃ acc, H4 D = some (.lst acc) ∧ acc.length < sizeLine ∧ (Same H1 (upd H4 D (.lst (acc ++ [y]))) ∧ (upd H4 D (.lst (acc ++ [y]))) D = some (.lst ((List.range (i + 1)).filterMap F))) else (Same H1 H3 ∧ H3 D = some (.lst ((List.range (i + 1)).filterMap F))) := by
    rintro D nD i x H hx ⟨s1, hD⟩
    obtain ⟨t1, t2⟩ := step i x hx H s1
    refine ⟨hw x, t1 _ fun H' s2 => ?_⟩
    have hD2 := s2 _ _ hD
    have hi : i < xs.length := by
      rcases Nat.lt_or_ge i xs.length with h | h
      · exact h
      · rw [List.getElem?_eq_none h] at hx; cases hx
    rw [List.range_succ, List.filterMap_append]
    cases e : F i with
    | none =>
      refine iteF ⟨s1.trans s2, ?_⟩
      rw [show [i].filterMap F = [] by simp [e], List.append_nil]
      exact hD2
    | some y =>
      refine iteT (t2 y e H' s2 _ fun H'' s3 => ⟨_, s3 _ _ hD2, ?_, fun b o z => ?_, ?_⟩)
      · refine size_lt (Nat.le_trans (List.length_filterMap_le _ _) ?_)
        rw [List.length_range]
        omega
      · rw [upd_ne (ne_of_none z nD)]
        exact s3 _ _ (s2 _ _ (s1 _ _ z))
      · rw [upd_same, show [i].filterMap F = [y] by simp [e]]
  refine ⟨a, rfl, ?_⟩
  rcases hq with hq | hq
  · exact .inl ⟨⟨xs, hq⟩, fun D nD => lc_list (K := K) (a := a) (xs := xs) (fun i H => Same H1 H ∧ H D = some (.lst ((List.range i).filterMap F))) ⟨same_new nD, upd_same⟩ (fun i H _ z => z.1.seq hq) (key D nD) (fun H z => fin D H nD z.2 z.1)⟩
  · exact .inr ⟨⟨xs, hq⟩, fun D nD => lc_tup (K := K) (a := a) (xs := xs) (fun i H => Same H1 H ∧ H D = some (.lst ((List.range i).filterMap F))) ⟨same_new nD, upd_same⟩ (fun i H _ z => same_seqT z.1 hq) (key D nD) (fun H z => fin D H nD z.2 z.1)⟩
/-- a statement that is never reached -/
theorem ps_dead {X : Cx} {st : Stmt} : PS X st (fun _ _ _ => False) := ⟨fun _ _ _ _ _ _ h => h.elim⟩
section
variable {X : Cx} {CX : CXT} {i k : Nat} {C f : Addr} {sp : Sp} {E : XK} {x : Str} {np p pos : Pos} {e : Expr} {te : TE}
/-- x(*e), x a local name that holds the class at C -/
def tMakeLS (K : PySem.W.Frag) (i : Nat) (C : Addr) (sp : Sp) (E : XK) (te : TE) : TE := fun σ H Q => σ[i]? = some (some (.ref C)) ∧ te σ H fun y H1 => ∃ a xs, y = V.ref a ∧ (SqT K H1 a xs ∨ SqL K H1 a xs) ∧
  ∀ o dx, H1 o = none → H1 dx = none → dx ≠ o → sp (V.ref o :: xs) (upd (upd H1 dx (.own o)) o (.ins C dx [])) (fun v H2 => v = .non ∧ Q (.ref o) H2) E
theorem pe_makeLS (M : Mk X.K C f) (F : FnR X.prog X.w X.K X.mg X.base CX k f sp) (hr : Room (k + 1) X.A) (at_ : X.N[i]? = some x) (vis : Vis X.env.scope x) (hx : Passes CX X E) (he : PE X e te) (d1 : (x == ("__debug__" : Str)) = false := by decide) (d2 : (x == ("__classdict__" : Str)) = false := by decide)
    (hst : starEach [.Starred e p] X.env = [(true, eval e X.env)] := by rfl) : PE X (.Call (.Name x np) [.Starred e p] [] pos) (tMakeLS X.K i C sp E te) := by
  refine ⟨fun pins s σ H Q I h => ?_⟩
  refine wpAny_Call_Name_kw (thn ((pe_var (pos := np) at_ vis d1 d2).run pins s σ H (fun v H1 => v = .ref C ∧ H1 = H) I ⟨.ref C, h.1, rfl, rfl⟩) fun u s0 ⟨v, H0, I0, r0, ev, eH⟩ => ?_)
  subst ev eH
  cases r0
  refine PySem.W.callWith_S (h₀ := X.base) I0.ok.mod.kin M.kp (thn (he.run pins s0 σ _ _ I0 h.2) fun v s1 ⟨y, H1, I1, ry, a, xs, ey, hxs, q⟩ => ?_) hst
  subst ey
  obtain rfl : v = Value.ref a := ry
  exact star_any I1 hxs fun us s2 I2 rv => ⟨I2.kIn, run_makeR M F hr hx I2 rv q⟩
/-- x(*e), x a class of the module -/
def tMakeGS (K : PySem.W.Frag) (C : Addr) (sp : Sp) (E : XK) (te : TE) : TE := fun σ H Q => te σ H fun y H1 => ∃ a xs, y = V.ref a ∧ (SqT K H1 a xs ∨ SqL K H1 a xs) ∧
  ∀ o dx, H1 o = none → H1 dx = none → dx ≠ o → sp (V.ref o :: xs) (upd (upd H1 dx (.own o)) o (.ins C dx [])) (fun v H2 => v = .non ∧ Q (.ref o) H2) E
theorem pe_makeGS (M : Mk X.K C f) (F : FnR X.prog X.w X.K X.mg X.base CX k f sp) (hr : Room (k + 1) X.A) (hg : Gl X x) (hm : X.mg x = some (.ref C)) (hx : Passes CX X E) (he : PE X e te) (hd : (x == ("__debug__" : Str)) = false := by decide)
    (hst : starEach [.Starred e p] X.env = [(true, eval e X.env)] := by rfl) : PE X (.Call (.Name x np) [.Starred e p] [] pos) (tMakeGS X.K C sp E te) := by
  refine ⟨fun pins s σ H Q I h => ?_⟩
  refine wpAny_Call_Name_kw (ld_glob I hg hm ?_ hd)
  refine PySem.W.callWith_S (h₀ := X.base) I.ok.mod.kin M.kp (thn (he.run pins s σ H _ I h) fun v s1 ⟨y, H1, I1, ry, a, xs, ey, hxs, q⟩ => ?_) hst
  subst ey
  obtain rfl : v = Value.ref a := ry
  exact star_any I1 hxs fun us s2 I2 rv => ⟨I2.kIn, run_makeR M F hr hx I2 rv q⟩
/-- x(), x a class of the module -/
def tMakeR0 (C : Addr) (sp : Sp) (E : XK) : TE := fun σ H Q => ∀ o dx, H o = none → H dx = none → dx ≠ o → sp [V.ref o] (upd (upd H dx (.own o)) o (.ins C dx [])) (fun v H2 => v = .non ∧ Q (.ref o) H2) E
theorem pe_makeR0 (M : Mk X.K C f) (F : FnR X.prog X.w X.K X.mg X.base CX k f sp) (hr : Room (k + 1) X.A) (hg : Gl X x) (hm : X.mg x = some (.ref C)) (hx : Passes CX X E) (hd : (x == ("__debug__" : Str)) = false := by decide) : PE X (.Call (.Name x np) [] [] pos) (tMakeR0 C sp E) := by
  refine ⟨fun pins s σ H Q I h => ?_⟩
  refine wpAny_Call_Name_kw (ld_glob I hg hm ?_ hd)
  exact PySem.W.callWith_K0 I.kIn M.kp (run_makeR (us := []) (vs := []) M F hr hx I .nil h)
end
end VA

-- NOMAP
namespace RL
open PySem L2 SX AddrMath VA PySem.W GR TxSet
theorem ix_tupK {X : Cx} {K : Frag} (h : X.K = K) : IxR X (rIxT K) := by
  subst h
  exact ix_tup
theorem pi_seqK {X : Cx} {K : Frag} (h : X.K = K) {tg e : Expr} {te : TE} (pe : PE X e te) : PI X tg e (iSeq K te) := by
  subst h
  exact pi_seq pe
/-! ## rules, as they are said -/
def RuleS (K : Frag) (C : Addr) (H : Hp) (p : Addr) (s : Said) : Prop := RuleAt K C H p s.1 (.tuple s.2.1) (goalSD s.2.2.1) s.2.2.2
def okS (s : Said) : Prop := okRule s.1 s.2.1 (goalSD s.2.2.1)
def RulesAt (K : Frag) (C : Addr) (H : Hp) (ps : List Addr) (ss : List Said) : Prop := ps.length = ss.length ∧ ∀ (i : Nat) (p : Addr) (s : Said), ps[i]? = some p → ss[i]? = some s → RuleS K C H p s ∧ okS s
theorem RuleS.same {K : Frag} {C : Addr} {H H' : Hp} {p : Addr} {s : Said} (h : RuleS K C H p s) (e : Same H H') : RuleS K C H' p s := RuleAt.same h e
theorem RulesAt.same {K : Frag} {C : Addr} {H H' : Hp} {ps : List Addr} {ss : List Said} (h : RulesAt K C H ps ss) (e : Same H H') : RulesAt K C H' ps ss := ⟨h.1, fun i p s a b => ⟨(h.2 i p s a b).1.same e, (h.2 i p s a b).2⟩⟩
theorem RulesAt.get {K : Frag} {C : Addr} {H : Hp} {ps : List Addr} {ss : List Said} (h : RulesAt K C H ps ss) {i : Nat} {v : V} (e : (ps.map V.ref)[i]? = some v) : ∃ p s, v = .ref p ∧ ps[i]? = some p ∧ ss[i]? = some s ∧ RuleS K C H p s ∧ okS s := by
  rw [List.getElem?_map] at e
  cases hp : ps[i]? with
  | none => rw [hp] at e; cases e
  | some p =>
    rw [hp] at e
    have e' : some (V.ref p) = some v := e
    have hi : i < ps.length := by
      rcases Nat.lt_or_ge i ps.length with h | h
      · exact h
      · rw [List.getElem?_eq_none h] at hp; cases hp
    have hi' : i < ss.length := by rw [← h.1]; exact hi
    have hs : ss[i]? = some ss[i] := List.getElem?_eq_getElem hi'
    exact ⟨p, _, (Option.some.inj e').symm, rfl, hs, h.2 i p _ hp hs⟩
theorem wrong_ok {s : Said} (h : wrongS s = none) : okS s := by
  obtain ⟨z, es, g, x⟩ := s
  unfold wrongS wrongD at h
  by_cases a : isWordD (.str z) = false
  · rw [if_pos a] at h; cases h
  · rw [if_neg a] at h
    by_cases b : areEntD 2 (.tuple es) = false
    · rw [if_pos b] at h; cases h
    · rw [if_neg b] at h
      by_cases c : isGoalD (goalSD g) (.tuple es) = false
      · rw [if_pos c] at h; cases h
      · have b' : (true && (decide ((es.length : Int) ≤ 2) && es.all isEntD)) = true := by
          have : areEntD 2 (.tuple es) = true := by cases e : areEntD 2 (.tuple es) with | true => rfl | false => exact absurd e b
          exact this
        rw [Bool.true_and, Bool.and_eq_true, decide_eq_true_eq] at b'
        refine ⟨?_, b'.2, by show es.length ≤ 2; omega, ?_⟩
        · cases e : isWordD (.str z) with
          | true => exact e
          | false => exact absurd e a
        · cases e : isGoalD (goalSD g) (.tuple es) with
          | true => rfl
          | false => exact absurd e c
theorem rules_fm {K : Frag} {C : Addr} {H : Hp} {β : Type} {ps : List Addr} {ss : List Said} (h : RulesAt K C H ps ss) (f : Said → Option β) : (List.range (ps.map V.ref).length).filterMap (fun i => ss[i]?.bind f) = ss.filterMap f := by
  rw [List.length_map, h.1, range_fm]
theorem nd_le : ∀ {l m : List Str}, l.Nodup → (∀ z ∈ l, z ∈ m) → l.length ≤ m.length
  | [], _, _, _ => Nat.zero_le _
  | x :: l, m, n, h => by
    rw [List.nodup_cons] at n
    have hx : x ∈ m := h x (List.mem_cons_self ..)
    have ih := nd_le (l := l) (m := m.erase x) n.2 fun z hz => (List.mem_erase_of_ne fun e => n.1 (by rw [← e]; exact hz)).mpr (h z (List.mem_cons_of_mem _ hz))
    rw [List.length_erase_of_mem hx] at ih
    have := List.length_pos_of_mem hx
    rw [List.length_cons]
    omega
theorem beg_few {s : Said} (ok : okS s) : (s.2.1 ++ begD (goalSD s.2.2.1)).length ≤ 6 := by
  obtain ⟨z, es, g, x⟩ := s
  have l2 : es.length ≤ 2 := ok.2.2.1
  match g, ok.2.2.2 with
  | none, _ =>
    show (es ++ []).length ≤ 6
    rw [List.append_nil]
    omega
  | some (d, bs), h =>
    have h' : (isW d.cps.toList && (areEntD 4 (.tuple bs) && bs.all fun e => isWordD e || inD e es)) = true := h
    rw [Bool.and_eq_true, Bool.and_eq_true] at h'
    have h4 : (true && (decide ((bs.length : Int) ≤ 4) && bs.all isEntD)) = true := h'.2.1
    rw [Bool.true_and, Bool.and_eq_true, decide_eq_true_eq] at h4
    show (es ++ bs).length ≤ 6
    rw [List.length_append]
    omega
def statesL (ss : List Said) : List Str := ss.map (·.1) ++ ss.filterMap fun s => s.2.2.1.map (·.1)
/-- the words of a rule: its texts -/
def wordsS (s : Said) : List Str := strsD (s.2.1 ++ begD (goalSD s.2.2.1))
def wordsL (ss : List Said) : List Str := ss.flatMap wordsS
section
variable {P : Program} {w : World} {K : Frag} {mg : Str → Option Value} {base : Heap}
/-! ### states_of: slots rules 0, rule 1, states 2, goals 3 -/
abbrev sStatesOf : Stmt := top 47
theorem scStatesOf : FnScope ["rules", "rule", "states", "goals"] ["rules"] (defScope sStatesOf) := ⟨rfl, rfl, rfl, by decide +kernel, rfl, by decide +kernel, by decide +kernel⟩
def spStatesOf (K : Frag) (C : Addr) : Sp := fun vs H Q _ => ∃ (t : Addr) (ps : List Addr) (ss : List Said), vs = [.ref t] ∧ SqT K H t (ps.map V.ref) ∧ RulesAt K C H ps ss ∧ ss.length ≤ 400 ∧
  ∀ (ys : List Str) (r : Addr) (H' : Hp), PyProof.Rows.sortedS ys = true → ys.Nodup → (∀ z, z ∈ ys ↔ z ∈ statesL ss) → SqT K H' r (ys.map V.str) → Same H H' → Q (.ref r) H'
theorem ok_statesof {f C : Addr} {fd : FuncData} (F : Fun K "states_of" "states_of" sStatesOf f fd) (B : Blt mg) (T : RTxt K mg C) (rstate : OwnP P w K mg base C "state" (spGet C nState)) (rgoal : OwnP P w K mg base C "goal" (spGet C nGoal)) :
    FnOk P w K mg base CX0 3 f fd ["rules"] (spStatesOf K C) := by
  refine F.ok scStatesOf (fun vs H Q E h => ?_) (fun cdv A outer s0 H vs Q E hr h => ?_)
  · obtain ⟨t, ps, ss, rfl, _⟩ := h
    rfl
  · obtain ⟨t, ps, ss, rfl, ht, hA, few, q⟩ := h
    have hr2 : Room 2 _ := hr.mono (by decide)
    refine ⟨_, (pss_cons (ps_setLc (i := 2) (own := [("rule", 1)]) (g := gName 1) (tt := tYes) rfl scStatesOf.nd rfl rfl (sw_true rfl rfl rfl (by decide +kernel)) (pi_seq (pv 0))
          (blkOk_by (own := [("rule", 1)]) (N := ["rules", "rule", "states", "goals"]) (sc := defScope sStatesOf) (by decide +kernel))
          (fun _ _ _ _ _ => (pg_name (i := 1) scStatesOf.nd rfl (Or.inl rfl))) (fun _ _ _ _ _ => pts_nil)
          (fun _ _ _ _ _ => (pe_prop (pv 1) T.cl rstate.prop rstate.ok hr2 rstate.b .nil pass0 (by rfl))))
      (pss_cons (ps_setLc (i := 3) (own := [("rule", 1)]) (g := gName 1) rfl scStatesOf.nd rfl rfl (sw_true rfl rfl rfl (by decide +kernel)) (pi_seq (pv 0))
          (blkOk_by (own := [("rule", 1)]) (N := ["rules", "rule", "states", "goals"]) (sc := defScope sStatesOf) (by decide +kernel))
          (fun _ _ _ _ _ => (pg_name (i := 1) scStatesOf.nd rfl (Or.inl rfl))) (fun _ _ _ _ _ => pts_one (pt_cmpR op_notN (pe_prop (pv 1) T.cl rgoal.prop rgoal.ok hr2 rgoal.b .nil pass0 (by rfl)) pe_non (nomark _)))
          (fun _ _ _ _ _ => (pe_ix (ix_tupK (K := K) rfl) (pe_prop (pv 1) T.cl rgoal.prop rgoal.ok hr2 rgoal.b .nil pass0 (by rfl)) pe_int (fun _ _ => rfl))))
      (pss_one (ps_ret (pe_callTy call_tuple_of (by rfl) B.tuple_ (by decide +kernel) (pa_cons (pe_srtSet rfl (by rfl) B.sorted_ (by rfl) B.set_ (pe_op op_cat (pv 2) (pv 3))) pa_nil)))))), ?_⟩
    refine ⟨_, rfl, ?_⟩
    refine seq_opt (.inr ht) (by rw [List.length_map, hA.1]; omega) (fun i => ss[i]?.bind fun s => some (V.str s.1)) ?hw (fun i x hx G sG => ?_) fun D H1 nD hD s1 => ?_
    case hw => intro _; rfl
    · obtain ⟨p, s, rfl, hp, hs, hS, _⟩ := (hA.same sG).get hx
      refine ⟨fun R hR => no_test fun H' s' => by have := hR H' s'; rw [hs] at this; exact this, fun y hy G2 s2 R hR => ?_⟩
      rw [hs] at hy
      cases hy
      obtain ⟨dx, tP, tW, tK, gV, ws, hp', _⟩ := (hS.same s2).ex
      exact ⟨_, rfl, p, dx, _, rfl, hp', p, dx, _, _, rfl, hp', rfl, hR G2 (Same.refl G2)⟩
    rw [rules_fm hA] at hD
    have hA1 := hA.same s1
    refine ⟨_, rfl, ?_⟩
    refine seq_opt (.inr (same_seqT s1 ht)) (by rw [List.length_map, hA.1]; omega) (fun i => ss[i]?.bind fun s => s.2.2.1.map fun g => V.str g.1) ?hw2 (fun i x hx G sG => ?_) fun D2 H2 nD2 hD2 s2 => ?_
    case hw2 => intro _; rfl
    · obtain ⟨p, s, rfl, hp, hs, hS, _⟩ := (hA1.same sG).get hx
      refine ⟨fun R hR => ?_, fun y hy G2 s2 R hR => ?_⟩
      · obtain ⟨dx, tP, tW, tK, gV, ws, hp', _, hG, _⟩ := hS.ex
        have hR' := hR G (Same.refl G)
        rw [hs] at hR'
        refine ⟨_, rfl, p, dx, _, rfl, hp', p, dx, _, _, rfl, hp', rfl, rfl, _, rfl, ?_⟩
        obtain ⟨z, es, g, b⟩ := s
        match g, hG, hR' with
        | none, hG, hR' =>
          cases (show gV = .non from hG)
          exact hR'
        | some (d, bs), hG, hR' =>
          obtain ⟨g', tb, rfl, _⟩ := hG
          exact hR'
      · obtain ⟨dx, tP, tW, tK, gV, ws, hp', _, hG, _⟩ := (hS.same s2).ex
        rw [hs] at hy
        obtain ⟨z, es, g, b⟩ := s
        match g, hG, hy with
        | some (d, bs), hG, hy =>
          cases hy
          obtain ⟨g', tb, rfl, hg, _⟩ := hG
          exact ⟨_, rfl, p, dx, _, rfl, hp', p, dx, _, _, rfl, hp', rfl, g', _, 0, _, rfl, rfl, .inl (.inl hg), rfl, hR G2 (Same.refl G2)⟩
    rw [rules_fm hA] at hD2
    have e1 : ss.filterMap (fun s => some (V.str s.1)) = (ss.map (·.1)).map V.str := by
      rw [List.filterMap_eq_map', List.map_map]
      rfl
    have e2 : ss.filterMap (fun s => s.2.2.1.map fun g => V.str g.1) = (ss.filterMap fun s => s.2.2.1.map (·.1)).map V.str := by
      rw [List.map_filterMap]
      congr 1
      funext s
      cases s.2.2.1 <;> rfl
    rw [e1] at hD
    rw [e2] at hD2
    have l1 : (ss.map (·.1)).length = ss.length := List.length_map ..
    have l2 : (ss.filterMap fun s : Said => s.2.2.1.map (·.1)).length ≤ ss.length := List.length_filterMap_le ..
    refine ⟨_, rfl, _, rfl, D, D2, _, _, rfl, rfl, s2 _ _ hD, hD2, size_ok (by simp only [List.length_map]; omega), fun D3 n3 => ?_⟩
    rw [← List.map_append]
    refine ⟨D3, statesL ss, rfl, .inl (.inl upd_same), by unfold statesL; rw [List.length_append]; omega, fun ys p hs hn hm np => ?_⟩
    refine ⟨p, _, rfl, .inl ⟨.inl (.inl upd_same), fun l nl => ?_⟩⟩
    exact q ys l _ hs hn hm (.inl (.inl upd_same)) ((((s1.trans s2).trans (same_new n3)).trans (same_new np)).trans (same_new nl))
/-! ### words_of: slots rules 0, rule 1, word 2 -/
abbrev sWordsOf : Stmt := top 48
theorem scWordsOf : FnScope ["rules", "rule", "word"] ["rules"] (defScope sWordsOf) := ⟨rfl, rfl, rfl, by decide +kernel, rfl, by decide +kernel, by decide +kernel⟩
def spWordsOf (K : Frag) (C : Addr) : Sp := fun vs H Q _ => ∃ (t : Addr) (ps : List Addr) (ss : List Said), vs = [.ref t] ∧ SqT K H t (ps.map V.ref) ∧ RulesAt K C H ps ss ∧ ss.length ≤ 100 ∧
  ∀ (ys : List Str) (r : Addr) (H' : Hp), PyProof.Rows.sortedS ys = true → ys.Nodup → (∀ z, z ∈ ys ↔ z ∈ wordsL ss) → SqT K H' r (ys.map V.str) → Same H H' → Q (.ref r) H'
theorem ok_wordsof {f C : Addr} {fd : FuncData} (F : Fun K "words_of" "words_of" sWordsOf f fd) (B : Blt mg) (T : RTxt K mg C) (rwords : OwnP P w K mg base C "words" (spGet C nWords)) :
    FnOk P w K mg base CX0 3 f fd ["rules"] (spWordsOf K C) := by
  refine F.ok scWordsOf (fun vs H Q E h => ?_) (fun cdv A outer s0 H vs Q E hr h => ?_)
  · obtain ⟨t, ps, ss, rfl, _⟩ := h
    rfl
  · obtain ⟨t, ps, ss, rfl, ht, hA, few, q⟩ := h
    have hr2 : Room 2 _ := hr.mono (by decide)
    refine ⟨_, (pss_one (ps_ret (pe_callTy call_tuple_of (by rfl) B.tuple_ (by decide +kernel) (pa_cons (pe_srtSet rfl (by rfl) B.sorted_ (by rfl) B.set_ (pe_lc2 (own := [("rule", 1), ("word", 2)]) (vs1 := [2]) (g := gName 1) (g1 := gName 2) (tt := tYes) (tt1 := tYes) rfl scWordsOf.nd (pi_seq (pv 0))
          (blkOk_by (own := [("rule", 1), ("word", 2)]) (N := ["rules", "rule", "word"]) (sc := defScope sWordsOf) (by decide +kernel)) (by decide)
          (fun _ _ _ _ _ => (pg_name (i := 1) scWordsOf.nd rfl (Or.inl rfl))) (fun _ _ _ _ _ => pts_nil)
          (fun _ _ _ _ _ => pi_seqK (K := K) rfl (pe_prop (pv 1) T.cl rwords.prop rwords.ok hr2 rwords.b .nil pass0 (by rfl)))
          (fun _ _ _ _ _ => (pg_name (i := 2) scWordsOf.nd rfl (Or.inl rfl))) (fun _ _ _ _ _ => pts_nil)
          (fun _ _ _ _ _ => (pv 2)))) pa_nil)))), ?_⟩
    refine ⟨_, rfl, t, rfl, .inr ⟨⟨_, ht⟩, fun D nD => ?_⟩⟩
    have wk := walk_tup (K := K) (a := t) (xs := ps.map V.ref)
    refine ⟨fun i m G => m = ps.length - i ∧ i ≤ ps.length ∧ Same H G ∧ ∃ acc : List Str, G D = some (.lst (acc.map V.str)) ∧ acc.length ≤ 6 * i ∧ ∀ z, z ∈ acc ↔ z ∈ wordsL (ss.take i), ⟨ps.length, rfl, Nat.zero_le _, same_new nD, [], upd_same, Nat.le_refl _, fun z => by simp [wordsL]⟩, ?_⟩
    rintro i m G ⟨rfl, hi, sG, acc, hD, hl, hm⟩
    have htG := same_seqT sG ht
    have hlen := hA.1
    rcases Nat.eq_or_lt_of_le hi with e | hlt
    · have st := wk.stops G htG
      rw [List.length_map, ← e] at st
      refine .inl ⟨st, D, acc, rfl, .inl (.inl hD), by omega, fun ys p hs hn hm' np => ⟨p, _, rfl, .inl ⟨.inl (.inl upd_same), fun l nl => q ys l _ hs hn (fun z => ?_) (.inl (.inl upd_same)) ((sG.trans (same_new np)).trans (same_new nl))⟩⟩⟩
      rw [hm' z, hm z, List.take_of_length_le (by omega)]
    · refine .inr ⟨wk.goes i G (by rw [List.length_map]; exact hlt) htG, fun G' => i + 1 ≤ ps.length ∧ Same H G' ∧ ∃ acc : List Str, G' D = some (.lst (acc.map V.str)) ∧ acc.length ≤ 6 * (i + 1) ∧ ∀ z, z ∈ acc ↔ z ∈ wordsL (ss.take (i + 1)), fun G' z => ⟨ps.length - (i + 1), by omega, rfl, z⟩, fun x G' hy => ?_⟩
      obtain ⟨rfl, hx⟩ := wk.yields i G x G' (by rw [List.length_map]; exact hlt) htG hy
      obtain ⟨p, s, rfl, hp, hs, hS, hok⟩ := (hA.same sG).get hx
      refine ⟨rfl, no_test fun G2 s2 => iteT ?_⟩
      obtain ⟨dx, tP, tW, tK, gV, ws, hp', _, _, hW, a1, a2, a3, _⟩ := (hS.same s2).ex
      have hWT : SqT K G2 tW (ws.map V.str) := .inl (.inl hW)
      have hD2 := s2 _ _ hD
      have sG2 := sG.trans s2
      have few6 : ws.length ≤ 6 := by
        refine Nat.le_trans (nd_le (m := wordsS s) a2 fun z hz => ?_) ?_
        · exact mem_strsD.mpr ((a3 z).mp hz)
        · exact Nat.le_trans (List.length_filterMap_le _ _) (beg_few hok)
      refine ⟨_, rfl, p, dx, _, rfl, hp', p, dx, _, _, rfl, hp', rfl, tW, rfl, .inr ⟨⟨_, hWT⟩, ?_⟩⟩
      have wj := walk_tup (K := K) (a := tW) (xs := ws.map V.str)
      have neD : tW ≠ D := fun e => by rw [e, hD2] at hW; cases hW
      have hne : ∀ {b : Addr} {o : HO}, H b = some o → b ≠ D := fun z e => by rw [e, nD] at z; cases z
      refine ⟨fun j k G3 => k = ws.length - j ∧ j ≤ ws.length ∧ But D G2 G3 ∧ G3 D = some (.lst ((acc ++ ws.take j).map V.str)), ⟨ws.length, rfl, Nat.zero_le _, fun b o z _ => z, by rw [List.take_zero, List.append_nil]; exact hD2⟩, ?_⟩
      rintro j k G3 ⟨rfl, hj, b3, hD3⟩
      have hW3 : SqT K G3 tW (ws.map V.str) := .inl (.inl (b3 _ _ hW neD))
      rcases Nat.eq_or_lt_of_le hj with e | hjl
      · have st := wj.stops G3 hW3
        rw [List.length_map, ← e] at st
        refine .inl ⟨st, by omega, fun b o z => b3 b o (sG2 b o z) (hne z), acc ++ ws, ?_, by rw [List.length_append]; omega, fun z => ?_⟩
        · rw [e, List.take_length] at hD3
          exact hD3
        · rw [take_snoc hs]
          unfold wordsL at hm ⊢
          rw [List.mem_append, List.flatMap_append, List.mem_append, hm z, List.flatMap_singleton, a3 z]
          unfold wordsS
          rw [mem_strsD]
          rfl
      · refine .inr ⟨wj.goes j G3 (by rw [List.length_map]; exact hjl) hW3, fun G' => j + 1 ≤ ws.length ∧ But D G2 G' ∧ G' D = some (.lst ((acc ++ ws.take (j + 1)).map V.str)), fun G' z => ⟨ws.length - (j + 1), by omega, rfl, z⟩, fun x G' hy => ?_⟩
        obtain ⟨rfl, hx2⟩ := wj.yields j G3 x G' (by rw [List.length_map]; exact hjl) hW3 hy
        rw [List.getElem?_map] at hx2
        cases hw : ws[j]? with
        | none => rw [hw] at hx2; cases hx2
        | some y =>
          rw [hw] at hx2
          cases hx2
          refine ⟨rfl, no_test fun G4 s4 => iteT ⟨_, rfl, _, s4 _ _ hD3, ?_, by omega, fun b o z n => ?_, ?_⟩⟩
          · refine size_lt ?_
            rw [List.length_map, List.length_append, List.length_take]
            omega
          · rw [upd_ne n]
            exact s4 _ _ (b3 b o z n)
          · rw [upd_same, take_snoc hw, List.map_append, List.map_append, List.map_append, List.append_assoc]
            rfl
end
end RL

/-! enumerate over a tuple. -/
namespace PySem
open AutoSeq1 (wpAny_loadPart')
theorem meets_enumerate_newT (l : Addr) (items : Array Value) :
    Meets (Builtin.«enumerate.__new__» ⟨[.type "enumerate", .ref l], []⟩) (fun _ R s => s.heap.IsTuple l items ∧
      R (.ok (.ret (.ref (s.heap.push { cls := .type "tuple_iterator", data := .fields #[.ref l, .int 0 0] }).objs.size)))
        { s with heap := (s.heap.push { cls := .type "tuple_iterator", data := .fields #[.ref l, .int 0 0] }).push { cls := .type "enumerate", data := .fields #[.none, .bool false, .ref s.heap.objs.size, rawInt 0, .none, .none] } }) :=
  .of_wp fun prog w A R s h => by
    obtain ⟨hp, g, d, tk, os⟩ := s; obtain ⟨hL, h⟩ := h
    have hsub := sub_enumerate
    obtain ⟨⟨cls, dct, dt, sl⟩, hl, hc, n, hd⟩ := id hL
    simp only at hc hd
    subst hc hd
    have hL : Heap.IsTuple (Shared.heap ⟨hp, g, d, tk, os⟩) l items := ⟨_, hl, rfl, n, rfl⟩
    wp_walk using wpAny_loadPart' hl
    refine wpAny_stack_any fun st => wpAny_pure ?_
    split
    · rename_i c _ _ _ _ _
      cases (c == Value.type "enumerate")
      · wp_walk using wpAny_loadPart' hl, wpAny_pyIter_tuple hL
        exact ⟨_, rfl, h⟩
      · wp_walk using wpAny_loadPart' hl, wpAny_pyIter_tuple hL
        exact ⟨_, rfl, h⟩
    · wp_walk using wpAny_loadPart' hl, wpAny_pyIter_tuple hL
      exact ⟨_, rfl, h⟩
theorem call_enumerate_tuple {prog : Program} {w : World} {A : Around} {E : Value → Shared → Prop} {s : Shared} {l : Addr} {items : Array Value} {Q : Value → Shared → Prop} (hL : s.heap.IsTuple l items)
    (h : ∀ h', IsEnum h' (s.heap.objs.size + 1) s.heap.objs.size 0 .none → h'.IsTupleIter s.heap.objs.size l 0 → h'.objs.size = s.heap.objs.size + 2 →
      (∀ b o, s.heap.get? b = some o → h'.get? b = some o) → Q (.ref (s.heap.objs.size + 1)) { s with heap := h' }) :
    wpAny (model prog w) A (call (.type "enumerate") [.ref l]) Q E s := by
  refine callType_new F.called_enumerate (by decide) (F.typeCall_enumerate_1 _) (F.newCall_enumerate_1 _) (fun obj => F.args_object_init_2 obj _) F.entry_enumerate_new
    (meets_enumerate_newT l items) ⟨hL, ?_⟩
  have hz : (s.heap.push { cls := .type "tuple_iterator", data := .fields #[.ref l, .int 0 0] }).objs.size = s.heap.objs.size + 1 := Heap.size_push ..
  show _ ∧ _
  rw [hz]
  have he : IsEnum ((s.heap.push { cls := .type "tuple_iterator", data := .fields #[.ref l, .int 0 0] }).push
      { cls := .type "enumerate", data := .fields #[.none, .bool false, .ref s.heap.objs.size, rawInt 0, .none, .none] }) (s.heap.objs.size + 1) s.heap.objs.size 0 .none := by
    have := Heap.get?_push_size (s.heap.push { cls := .type "tuple_iterator", data := .fields #[.ref l, .int 0 0] })
      (o := { cls := .type "enumerate", data := .fields #[.none, .bool false, .ref s.heap.objs.size, rawInt 0, .none, .none] }) rfl
    rw [hz] at this; exact this
  refine ⟨⟨_, he, rfl⟩, h _ he ⟨_, Heap.get?_push_of_some _ (Heap.get?_push_size _ rfl), rfl, rfl⟩ (by rw [Heap.size_push, hz]) fun b o x => Heap.get?_push_of_some _ (Heap.get?_push_of_some _ x)⟩
end PySem
namespace L2
open PySem PySem.Spec PyProof.Rows
/-- the tuple at a, each item in a new pair -/
def IteT (K : PySem.W.Frag) (a : Addr) : It :=
  ⟨fun i H => ∃ (xs : List V) (x : V), SqT K H a xs ∧ xs[i]? = some x, fun i H v H' => ∃ T x, v = .ref T ∧ H T = none ∧ H' = upd H T (.tup [.int (i : Nat), x]) ∧ ∀ xs, SqT K H a xs → xs[i]? = some x, fun i H => ∃ xs : List V, SqT K H a xs ∧ xs.length ≤ i⟩
theorem turn_enumT {P : Program} {w : World} {K : PySem.W.Frag} {elts : List Expr} {kk : Nat} {tpos : Pos} (a e it : Addr) (hat : a ≠ it) (hae : a ≠ e) :
    Turn P w K (.Tuple elts kk tpos) (IteT K a) [e, it] e (fun i h => (∃ old, IsEnum h e it ((i : Nat) : Int) old) ∧ h.IsTupleIter it a i ∧ e ≠ it) where
  mem := by simp
  obj := fun i h st b hb => by
    obtain ⟨⟨old, he⟩, ⟨o, ho, hc, hd⟩, _⟩ := st
    have e' : b = e ∨ b = it := by simpa using hb
    rcases e' with z | z
    · rw [z]; exact ⟨_, he, fun v q => nomatch q⟩
    · rw [z]; exact ⟨o, ho, fun v q => by rw [hd] at q; cases q⟩
  keep := fun i h h' st k => let ⟨⟨old, he⟩, hi, hne⟩ := st; ⟨⟨old, k e (by simp) _ he⟩, hi.at fun o q => k it (by simp) o q, hne⟩
  item := by
    intro X hP hw hK hc i pins s σ H E I hf st hg
    subst hP hw hK
    obtain ⟨⟨old, he⟩, hit, hne⟩ := st
    obtain ⟨xs, x, hq, hx⟩ := hg
    obtain ⟨its, rv, p, hz⟩ := I.tuple hq
    obtain ⟨u, hu, ru⟩ := rv.get hx
    have hel : e < s.heap.objs.size := Heap.lt_size he
    have hil : it < s.heap.objs.size := by obtain ⟨_, q, _⟩ := hit; exact Heap.lt_size q
    have hcm : X.A.in1.handled = none := I.ok.hd hc
    have hlt : i < its.toArray.size := by
      have := rv.length
      have h2 : i < xs.length := by
        rcases Nat.lt_or_ge i xs.length with h | h
        · exact h
        · rw [List.getElem?_eq_none h] at hx; cases hx
      simpa using (show i < its.length by omega)
    refine wpAny_pyNext_enum_itemD (Draws.tuple hcm it a hat its.toArray) he ⟨hit, p⟩ hlt hne (by simp [hne, Ne.symm hae]) fun x' h' tk hP ho hst' hT hsz hk => ?_
    obtain rfl : x' = u := by
      have e1 : its.toArray[i]? = some x' := hP
      have e2 : its.toArray[i]? = some u := by simpa using hu
      exact Option.some.inj (e1.symm.trans e2)
    refine ⟨_, rfl, wpAny_letOwnedTupleGo_enum (s := { s with heap := h', toks := tk + 1 }) ho fun h'' he' sb => ?_⟩
    have hT2 : h''.get? s.heap.objs.size = some { cls := .type "tuple", data := .seq #[.int i tk, x'] } := (sb.2 _ (Nat.ne_of_gt hel)).trans hT
    have new : ObjOk X.prog X.w (upd H s.heap.objs.size (.tup [.int (i : Nat), x])) h'' s.heap.objs.size (.tup [.int (i : Nat), x]) :=
      ⟨by show 2 ≤ sizeLine; decide, [.int i tk, x'], .cons ⟨_, rfl⟩ (.cons ru .nil), ⟨_, hT2, rfl, _, rfl⟩⟩
    have I1 : Inv X pins σ (upd H s.heap.objs.size (.tup [.int (i : Nat), x])) { s with heap := h'', toks := tk + 1 } :=
      I.turnedNew (ch := [e, it]) (fun b ob hb q => (sb.2 b (fun z => hb (by simp [z]))).trans (hk b ob (fun z => hb (by simp [z])) (fun z => hb (by simp [z])) q)) hf (Nat.le_refl _) new
    refine ⟨.ref s.heap.objs.size, _, I1, rfl, ⟨_, x, rfl, I.hok.fresh (Nat.le_refl _), rfl, fun ys hy => by rw [I.tuple_inj hy hq]; exact hx⟩, ⟨⟨x', ?_⟩, hst'.1.at fun o q => (sb.2 it (Ne.symm hne)).trans q, hne⟩, fun b hb => ?_⟩
    · have e1 : ((i + 1 : Nat) : Int) = (i : Int) + 1 := by omega
      rw [e1]; exact he'
    · have hb' : b < s.heap.objs.size := by
        have e' : b = e ∨ b = it := by simpa using hb
        rcases e' with z | z
        · rw [z]; exact hel
        · rw [z]; exact hil
      rw [upd_ne (Nat.ne_of_lt hb')]
      exact (hf b hb).1
  done := by
    intro X hP hw hK hc i pins s σ H E I hf st hg
    subst hP hw hK
    obtain ⟨⟨old, he⟩, hit, hne⟩ := st
    obtain ⟨xs, hq, hx⟩ := hg
    obtain ⟨its, rv, p, hz⟩ := I.tuple hq
    obtain ⟨f0, f1, f2, f3, f4, f5⟩ := hf it (by simp)
    have hl := rv.length
    have hT : s.TypeIs (.ref e) "enumerate" := ⟨_, he, rfl⟩
    have hcm : X.A.in1.handled = none := I.ok.hd hc
    unfold pyNext
    refine wpAny_bind (wpAny_attempt (wpAny_callSpecial?_slot (name := Str.ofString "__next__") hT F.slot_enumerate_next
      (wpAny_call_entry F.slot_enumerate_next hT F.entry_enumerate_next ?_ (F.args_enumerate_next_1 _))))
    show wpAny _ _ (field (.ref e) 2 >>= _) _ _ _
    refine wpAny_bind (wpAny_field he rfl (x := .ref it) rfl ?_)
    refine wpAny_bind (wpAny_nextOf_tuple_end hcm hit p (by simp; omega) fun h' x he' hx' => ?_)
    obtain ⟨o, ho, hc'⟩ := hx'
    refine wpAny_bind (wpAny_isInstance (T := "StopIteration") (b := true) ⟨o, ho, hc'⟩ isSubtype_stop ?_)
    exact wpAny_pure ⟨rfl, I.turned (t' := s.toks) (fun b o hb q => he' b o hb q) f0 f1 f3 f4 f5⟩
  self := fun A i s Q E st h => let ⟨⟨_, he⟩, _⟩ := st; wpAny_pyIter_enum he h
def iEnumT (K : PySem.W.Frag) (ta : TA) : TI := fun σ H R => ta σ H fun vs H1 => ∃ a xs, vs = [.ref a] ∧ SqT K H1 a xs ∧ R (IteT K a) H1
theorem pi_enumT {X : Cx} {e : Expr} {ta : TA} {p pos tpos : Pos} {elts : List Expr} {kk : Nat} (hg : Gl X "enumerate") (hm : X.mg "enumerate" = none) (ha : PA X [e] ta) (hs : starEach [e] X.env = [(false, eval e X.env)] := by rfl) :
    PI X (.Tuple elts kk tpos) (.Call (.Name "enumerate" p) [e] [] pos) (iEnumT X.K ta) := by
  refine ⟨fun pins s σ H R I h => ?_⟩
  refine Call_ (ld_blt I hg hm boot_enumerate (PyProof.Rows.callWith_type1 (thn (ha.run pos pins s σ H _ I h) fun us s1 ⟨vs, H1, I1, r1, q1⟩ => ?_) hs rfl))
  obtain ⟨a, xs, ex, hq, q⟩ := q1
  subst ex
  cases r1 with
  | cons r rr =>
    cases rr
    cases r
    obtain ⟨its, rv, p', hz⟩ := I1.tuple hq
    have hlt : a < s1.heap.objs.size := by obtain ⟨_, q, _⟩ := p'; exact Heap.lt_size q
    refine call_enumerate_tuple (items := its.toArray) p' fun h' he hit hsz hk => wpAny_pyIter_enum he ?_
    have I2 : Inv X pins σ H1 { s1 with heap := h' } := I1.kept (t' := s1.toks) hk
    refine ⟨s1.heap.objs.size + 1, [s1.heap.objs.size + 1, s1.heap.objs.size], _, _, H1, rfl, I2, turn_enumT a (s1.heap.objs.size + 1) s1.heap.objs.size (Nat.ne_of_lt hlt) (Nat.ne_of_lt (Nat.lt_succ_of_lt hlt)), ⟨⟨.none, he⟩, hit, Nat.succ_ne_self _⟩, fun b hb => ?_, q⟩
    have e' : b = s1.heap.objs.size + 1 ∨ b = s1.heap.objs.size := by simpa using hb
    have hle : s1.heap.objs.size ≤ b := by
      rcases e' with z | z
      · rw [z]; exact Nat.le_add_right _ _
      · rw [z]; exact Nat.le_refl _
    exact I1.fpOk hle (I1.hok.fresh hle)
theorem walk_enumT {K : PySem.W.Frag} {a : Addr} {xs : List V} : Walk (IteT K a) xs.length (fun H => SqT K H a xs) (YPair (fun i => some (.int (i : Nat))) (fun i => xs[i]?)) := by
  refine ⟨fun i _ hi q => ⟨xs, xs[i], q, by simp [hi]⟩, fun _ q => ⟨xs, q, Nat.le_refl _⟩, fun i H v H' _ q y => ?_⟩
  obtain ⟨T, x, h1, h2, h3, h4⟩ := y
  exact ⟨T, .int (i : Nat), x, h1, h2, h3, rfl, h4 xs q⟩
end L2

/-! An own error right over OverflowError whose __init__ is walked as a def (the library's rules speak of ValueError alone). -/
namespace OV
open PySem PySem.W PySem.Spec PySem.Calls PyProof.Rows
abbrev leMro : List Value := [.type "OverflowError", .type "ArithmeticError", .type "Exception", .type "BaseException", .type "object"]
section
open Builtin Builtin.ObjectAttr
variable {pr : Program} {wo : World} {Ar : Around} {Rs : Result → Shared → Prop} {G : Heap} {gs : Array GenState} {dr : Drawn} {tk : Nat} {ost : OsState}
/-- the first field of such an error -/
theorem first_field {K0 : Frag} {fn : Str} {ft : Tok} {u : Value} {x D : Addr} {fv : Array Value} {cd : ClassData}
    (inF : K0.In G) (at_ : G.get? x = some { cls := .ref D, data := .fields fv }) (isD : W.clsIn K0 D = some cd) (mro : cd.mro = .ref D :: leMro) (own : cd.hasDict = true) (no : W.findIn K0 (.ref D) fn = some none)
    (fin : ∀ G' t2 dx, (∀ b o, b ≠ x → G.get? b = some o → G'.get? b = some o) → G.objs.size ≤ dx → dx ≠ x → G'.get? x = some { cls := .ref D, dict := some dx, data := .fields fv } →
      G'.Ns1 dx (fun y => if y = fn then some u else none) → Rs (.ok (.ret .none)) ⟨G', gs, dr, t2, ost⟩) :
    codeAny (model pr wo) Ar (.call (.builtin "object.__setattr__") ⟨[.ref x, .str fn ft, u], []⟩) Rs ⟨G, gs, dr, tk, ost⟩ := by
  have inst : W.InstAt G x { cls := .ref D, data := .fields fv } D none := ⟨at_, rfl, rfl, trivial⟩
  have SO := PySem.F.store_object
  have obj : cd.mro.contains (.type "object") = true := by rw [mro, List.contains_cons]; exact (congrArg _ (by decide +kernel : leMro.contains (.type "object") = true)).trans (Bool.or_true _)
  have apart : x ≠ G.objs.size := Nat.ne_of_lt (Heap.lt_size at_)
  have isObj : W.Looks (model pr wo) G (isInstance (.ref x) (.type "object")) true := inst.type.andThen (W.looks_mroIn inF (by unfold W.mroIn; rw [isD, Option.bind_some, if_neg (by rw [mro]; exact Bool.false_ne_true), obj]))
  refine codeAny_call_builtin SO.slot.plain SO.entry (@W.check_slot (model pr wo) _ _ ⟨G, gs, dr, tk, ost⟩ "object.__setattr__" "object" "__setattr__" (.ref x) [.str fn ft, u] [] _ SO.kind SO.split isObj (SO.args (.ref x) (.str fn ft) u) ?_)
  have line : W.Looks (model pr wo) G (mroOf (.ref D)) cd.mro := (W.looks_clsIn inF isD).andThen .now
  have noTaker : W.Looks (model pr wo) G (storeTaker? none) none := .now
  have cls : W.Looks (model pr wo) G (classData D) cd := W.looks_clsIn inF isD
  rw [W.osa_eq, refuse_eq]
  refine wpAny_bind (wpAny_bind (inst.type.at (wpAny_bind (line.at ?_))))
  rw [mro, refuseLoop_ref, F.store_OverflowError.passes]
  refine wpAny_pure (wpAny_bind (inst.type.at (wpAny_bind ((W.looks_findIn inF no).at (wpAny_bind (noTaker.at ?_))))))
  show wpAny _ _ (storeInOwnDict (.ref x) (.ref D) (.str fn ft) fn u false) _ _ _
  obtain ⟨_, _, _, _, _, hd, _, _, _, _, _⟩ := cd
  dsimp only at own
  subst own
  unfold storeInOwnDict ownDictForStores
  repeat (first | with_reducible refine HandSPX.store_in_new ?_ ?_ | with_reducible refine wpAny_loadPart_at at_ ?_ | with_reducible refine cls.at ?_ | wp_step)
  · exact ⟨_, #[], _, (Heap.get?_update_ne _ _ _ _ apart.symm).trans (Heap.get?_push_at rfl rfl), rfl, fun e mem => absurd mem (by simp), fun _ => rfl⟩
  · intro G' t2 ns same
    have at1 : (G.push { cls := .type "dict", data := .dict #[] }).get? x = some { cls := .ref D, data := .fields fv } := Heap.get?_push_of_some _ at_
    refine fin G' t2 G.objs.size (fun b o nb ob => ?_) (Nat.le_refl _) apart.symm ?_ ns
    · exact (same.2 b (Nat.ne_of_lt (Heap.lt_size ob))).trans ((Heap.get?_update_ne _ _ _ _ nb).trans (Heap.get?_push_of_some _ ob))
    · exact (same.2 x apart).trans (Heap.get?_update_self _ at1 rfl)
end
end OV
namespace L2
open PySem PySem.Spec PyProof.Rows
/-- what the text says of an own error right over OverflowError -/
structure OexV (F : PySem.W.Frag) (D : Addr) : Prop where
  cls : ∃ nm q N bs sn sub ab col dd m0 m1 m2 m3 m5, F.lookup D = some (excClassObj nm q D N bs OV.leMro true sn sub ab col dd m0 m1 m2 m3 m5 "OverflowError.__new__")
  sa : PySem.W.findIn F (.ref D) "__setattr__" = some (some (.builtin "object.__setattr__"))
  exC : PySem.W.subIn F (.ref D) (.type "BaseException") = some true
  tyC : PySem.W.typeIn F (.ref D) = some (.type "type")
  kC : PySem.W.keepIn F (.ref D) = true
/-- like ErrC, over OverflowError -/
structure ErrV (F : PySem.W.Frag) (gl : Str → Option Value) (x n : Str) (D fI : Addr) : Prop where
  ox : OexV F D
  iC : PySem.W.findIn F (.ref D) "__init__" = some (some (.ref fI))
  tI : PySem.W.typeIn F (.ref fI) = some (.type "function")
  no : PySem.W.findIn F (.ref D) n = some none
  mgC : gl x = some (.ref D)
section
variable {X : Cx} {pins : List (Addr × Obj)} {σ : St} {H : Hp} {s : Shared} {a D : Addr} {fn : Str} {y : V} {u : Value} {G : Unit → Shared → Prop} {Er : Value → Shared → Prop} {Ar : Around}
theorem osV_new (T : OexV X.K D) (inv : Inv X pins σ H s) (at_ : H a = some (exo a D none)) (no : PySem.W.findIn X.K (.ref D) fn = some none) (rel : RelV y u)
    (fin : ∀ dx s', H dx = none → dx ≠ a → Inv X pins σ (upd (upd H dx (exd dx [(fn, y)])) a (exo a D (some dx))) s' → G () s') : wpAny (model X.prog X.w) Ar (setAttr (.ref a) fn u) G Er s := by
  obtain ⟨nm, q, N, bs, sn, sub, ab, col, dd, m0, m1, m2, m3, m5, lk⟩ := T.cls
  have isD : PySem.W.clsIn X.K D = some { name := nm, bases := bs, mro := .ref D :: OV.leMro, ns := N, qualname := q, hasDict := true, slotNames := sn, subclasses := sub, abstract := ab, collection := col, hasDel := false } := by
    unfold PySem.W.clsIn
    rw [lk] <;> rfl
  obtain ⟨t1, here⟩ := exo_at inv.hok at_
  obtain ⟨hp, gs, dr, tk, ost⟩ := s
  refine PySem.W.set_plain inv.kIn (ox := { cls := .ref D, dict := none, data := .fields #[.ref t1, .none, .none, .none, .bool false, .none] }) (od := none) ⟨here, rfl, rfl, trivial⟩ T.sa ?_
  refine OV.first_field inv.kIn here isD rfl rfl no (fun hp' tk' dx keeps big off here' ns => ?_)
  have freshD : H dx = none := inv.hok.fresh big
  have offD : ∀ {b : Addr} {o : Obj}, hp.get? b = some o → b ≠ dx := fun {b o} z => Nat.ne_of_lt (Nat.lt_of_lt_of_le (Heap.lt_size z) big)
  have offA : ∀ {b : Addr}, H b = none → b ≠ a := fun {b} n z => by
    rw [z, at_] at n
    cases n
  have un : Un X.fs [] H (upd (upd H dx (exd dx [(fn, y)])) a (exo a D (some dx))) hp hp' := {
    keep := fun b o z n _ _ => keeps b o (offA n) z
    slot := fun b o z n _ _ => ⟨o.slots, keeps b o (offA n) z⟩
    free := fun b o z n _ => (upd_ne (offA n)).trans ((upd_ne (offD z)).trans n)
    there := fun b o z _ => if eb : b = a then ⟨_, eb ▸ here'⟩ else ⟨o, keeps b o eb z⟩
    tups := fun b xs z => (upd_ne (at_ne at_ z exo_tup)).trans ((upd_ne (ne_of_none z freshD)).trans z)
    frzs := fun b o v z => (upd_ne (at_ne at_ z exo_frz)).trans ((upd_ne (ne_of_none z freshD)).trans z)
    tbls := fun b ps z => ⟨#[], ((upd_ne (at_ne at_ z exo_tbl)).trans ((upd_ne (ne_of_none z freshD)).trans z)).trans (by simp)⟩ }
  refine fin dx _ freshD off (inv.un (t' := tk') un fun b o z => ?_)
  by_cases eb : b = a
  · subst eb
    cases upd_same.symm.trans z
    exact exo_ok here'
  by_cases ed : b = dx
  · subst ed
    cases (upd_same.symm.trans (upd_ne eb).symm).trans z
    exact exd_ok ns (relO_put (fs := []) rel fun _ => True.intro)
  have old : H b = some o := (upd_ne ed).symm.trans ((upd_ne eb).symm.trans z)
  refine (inv.hok b o old).stay (fun c v hc lk => keeps c v ?_ lk) (fun c hc => (upd_ne (at_ne at_ hc exo_own)).trans ((upd_ne (ne_of_none hc freshD)).trans hc)) (fun c xs hc => (upd_ne (at_ne at_ hc exo_tup)).trans ((upd_ne (ne_of_none hc freshD)).trans hc))
  rcases hc with rfl | hc
  · exact eb
  · exact at_ne at_ hc exo_own
end
/-- self.f = e, the first field of such an error -/
def tOsV (F : PySem.W.Frag) (fn : Str) (to te : TE) : TS := fun D σ H => te σ H fun y H1 => to σ H1 fun x H2 => ∃ a C : Addr, x = .ref a ∧ OexV F C ∧ PySem.W.findIn F (.ref C) fn = some none ∧
  H2 a = some (exo a C none) ∧ ∀ dx, H2 dx = none → dx ≠ a → D.nx σ (upd (upd H2 dx (exd dx [(fn, y)])) a (exo a C (some dx)))
section
variable {X : Cx} {o e : Expr} {es : List Expr} {to te : TE} {ta : TA} {fn : Str} {p p' pos : Pos}
theorem ps_osV (ho : PE X o to) (he : PE X e te) (sw : swapsWith e (some (.Attribute o fn p')) pos.line X.env = pure false := by rfl) : PS X (.Assign [.Attribute o fn p'] e pos) (tOsV X.K fn to te) := by
  refine ⟨fun pins s σ H D inv want => ?_⟩
  refine plainObj_wpAny_Assign_Attribute (thn (he.run pins s σ H _ inv want) fun v s1 ⟨y, H1, inv1, rel1, q1⟩ => thn (ho.run pins s1 σ H1 _ inv1 q1) fun u s2 ⟨x, H2, inv2, rel2, a, C, ex, T, no, at_, q⟩ => ?_) sw
  subst ex
  obtain rfl : u = Value.ref a := rel2
  exact osV_new T inv2 at_ no rel1 fun dx s' n ne J => ⟨σ, _, J, q dx n ne⟩
theorem pmk_oeV {CX : CXT} {x : Str} {D fI : Addr} {k : Nat} {fd : FuncData} {ps : List Str} {sp : Sp} {ds : List Value} {dvs : List V} (T : OexV X.K D) (iC : PySem.W.findIn X.K (.ref D) "__init__" = some (some (.ref fI))) (tI : PySem.W.typeIn X.K (.ref fI) = some (.type "function"))
    (GI : FnOk X.prog X.w X.K X.mg X.base CX k fI fd ps sp) (room : Room (k + 1) X.A) (bd : Binds X.K fd ps ds) (vd : Vals dvs ds) (pass : Passes CX X (fun _ _ _ => False)) (gl : Gl X x) (hm : X.mg x = some (.ref D)) (pa : PA X (e :: es) ta)
    (nb : (x == ("__debug__" : Str)) = false := by decide) (first : starEach (e :: es) X.env = (false, eval e X.env) :: starEach es X.env := by rfl) (plain : (backTo pos (starEach es X.env)).any (·.1) = false := by rfl) :
    PMk X (.Call (.Name x p) (e :: es) [] pos) (tMkO D sp dvs ta) := by
  intro pins s σ H Q inv want
  obtain ⟨nm, q, N, bs, sn, sub, ab, col, dd, m0, m1, m2, m3, m5, lk⟩ := T.cls
  refine wpAny_Call_Name_kw (ld_glob inv gl hm ?_ nb)
  refine PySem.W.callWith_K (h₀ := X.base) inv.ok.mod.kin T.kC (thn (pa.run pos pins s σ H _ inv want) fun us s1 ⟨vs, H1, inv1, rel1, few, q1⟩ => ⟨inv1.kIn, ?_⟩) first plain
  show wpAny _ _ (call (.ref D) us) _ _ _
  obtain ⟨hp, gs, dr, tk, ost⟩ := s1
  have up : hp.objs.size ≤ hp.objs.size + 1 := Nat.le_succ _
  have fresh : H1 (hp.objs.size + 1) = none := inv1.hok.fresh up
  have ask := q1 (hp.objs.size + 1) fresh
  have keeps : ∀ b o, hp.get? b = some o → ((hp.push (PySem.W.kdv_tup us)).push (PySem.HandSPX.excO D hp.objs.size)).get? b = some o := fun b o z => Heap.get?_push_of_some _ (Heap.get?_push_of_some _ z)
  have made : ((hp.push (PySem.W.kdv_tup us)).push (PySem.HandSPX.excO D hp.objs.size)).get? (hp.objs.size + 1) = some (PySem.HandSPX.excO D hp.objs.size) := by heap_get
  have inv2 : Inv X pins σ (upd H1 (hp.objs.size + 1) (exo (hp.objs.size + 1) D none)) ⟨(hp.push (PySem.W.kdv_tup us)).push (PySem.HandSPX.excO D hp.objs.size), gs, dr, tk, ost⟩ :=
    inv1.laid (t' := tk) (a := hp.objs.size + 1) (o := exo (hp.objs.size + 1) D none) (h' := (hp.push (PySem.W.kdv_tup us)).push (PySem.HandSPX.excO D hp.objs.size)) keeps up (exo_ok made)
  have rel2 : Vals (V.ref (hp.objs.size + 1) :: (vs ++ dvs)) (Value.ref (hp.objs.size + 1) :: (us ++ ds)) := .cons rfl (rel1.append vd)
  have lens : (Value.ref (hp.objs.size + 1) :: us ++ ds).length = ps.length := (rel2.length.symm.trans (GI.len _ _ _ _ ask))
  have short : us.length ≤ sizeLine := by
    rw [← Paired.length rel1, sizeLine_eq]
    omega
  refine wpAny_call (PySem.HandSPX.call_own F.excBase_OverflowError (fun _ => rfl) (inv1.kIn _ _ lk) (PySem.W.looks_findIn inv1.kIn iC) (fun me => PySem.W.bind_fn inv1.kIn me tI) short
    (codeAny_mono (GI.run _ X.stack _ _ ⟨Value.ref (hp.objs.size + 1) :: us, []⟩ (Value.ref (hp.objs.size + 1) :: (us ++ ds)) _ _ (fun _ _ _ => False) (room.make D us []) (inv2.env0.make D us []) (bd _ (Value.ref (hp.objs.size + 1) :: us) inv2.kIn lens) rel2 ask) fun r s' after => ?_))
  cases r with
  | error er => exact pass pins σ _ _ er s' inv2 after
  | ok fl =>
    cases fl with
    | ret u =>
      obtain ⟨v, H2, os2, bare2, un2, ok2, rv, ev, d, fs, atA, atD, freshD, q2⟩ := after
      subst ev
      obtain ⟨h2, g2, d2, t2, os'⟩ := s'
      exact ⟨rv, mk_end (raises_own T.exC T.tyC) inv1 up keeps un2 ok2 os2 bare2 atA atD freshD q2⟩
    | next => exact False.elim after
    | brk => exact False.elim after
    | cont => exact False.elim after
end
end L2

-- NOMAP
namespace RL
open PySem L2 SX AddrMath VA PySem.W GR TxSet
/-- each text once -/
def dd : List Str → List Str
  | [] => []
  | x :: r => if x ∈ dd r then dd r else x :: dd r
theorem dd_mem {z : Str} : ∀ {xs : List Str}, z ∈ dd xs ↔ z ∈ xs
  | [] => Iff.rfl
  | x :: r => by
    unfold dd
    by_cases h : x ∈ dd r
    · rw [if_pos h, dd_mem, List.mem_cons]
      constructor
      · exact fun k => .inr k
      · rintro (rfl | k)
        · exact dd_mem.mp h
        · exact k
    · rw [if_neg h, List.mem_cons, List.mem_cons, dd_mem]
theorem dd_nd : ∀ xs : List Str, (dd xs).Nodup
  | [] => List.nodup_nil
  | x :: r => by
    unfold dd
    by_cases h : x ∈ dd r
    · rw [if_pos h]
      exact dd_nd r
    · rw [if_neg h]
      exact List.nodup_cons.mpr ⟨h, dd_nd r⟩
theorem dd_len {ys xs : List Str} (n : ys.Nodup) (h : ∀ z, z ∈ ys ↔ z ∈ xs) : ys.length = (dd xs).length :=
  Nat.le_antisymm (nd_le n fun z hz => dd_mem.mpr ((h z).mp hz)) (nd_le (dd_nd xs) fun z hz => (h z).mpr (dd_mem.mp hz))
/-- the limit that these rules pass, if any -/
def limS (ss : List Said) : Option Int := if 12 < ss.length then some 12 else if 6 < (dd (statesL ss)).length then some 6 else if 6 < (dd (wordsL ss)).length then some 6 else none
abbrev nLimit : Str := "limit"
section
variable {P : Program} {w : World} {K : Frag} {mg : Str → Option Value} {base : Heap}
/-! ### TooMany.__init__ -/
abbrev sErrM : Stmt := inClass (top 8) 0
theorem scErrM : FnScope ["self", "limit"] ["self", "limit"] (defScope sErrM) := ⟨rfl, rfl, rfl, by decide +kernel, rfl, by decide +kernel, by decide +kernel⟩
theorem ok_errm {f C fI : Addr} {fd : FuncData} (F : Fun K "__init__" "TooMany.__init__" sErrM f fd) (T : ErrV K mg "TooMany" nLimit C fI) : FnOk P w K mg base CX0 1 f fd ["self", "limit"] (spErr nLimit C) := by
  refine F.ok scErrM (fun vs H Q E h => ?_) (fun cdv A outer s0 H vs Q E hr h => ?_)
  · obtain ⟨a, v, rfl, _⟩ := h
    rfl
  · obtain ⟨a, v, rfl, ha, q⟩ := h
    exact ⟨_, pss_one (ps_osV (pv 0) (pv 1)), _, rfl, _, rfl, a, C, rfl, T.ox, T.no, ha, q⟩
/-! ### checked: slots rules 0, index 1, rule 2 -/
abbrev sChecked : Stmt := top 49
theorem scChecked : FnScope ["rules", "index", "rule"] ["rules"] (defScope sChecked) := ⟨rfl, rfl, rfl, by decide +kernel, rfl, by decide +kernel, by decide +kernel⟩
/-- the end of a check: refused with a limit, or not -/
def LimOf (CM : Addr) (H : Hp) (ss : List Said) (Q : Hp → Prop) (E : XK) : Prop :=
  (∀ n, limS ss = some n → ∀ d H', Same H H' → H' d = some (.xd (ixF nLimit (.int n))) → H d = none → E (.ref CM) (some d) H') ∧ (limS ss = none → ∀ H', Same H H' → Q H')
def spChecked (K : Frag) (C CM : Addr) : Sp := fun vs H Q E => ∃ (t : Addr) (ps : List Addr) (ss : List Said), vs = [.ref t] ∧ SqT K H t (ps.map V.ref) ∧ RulesAt K C H ps ss ∧ ss.length ≤ 100000 ∧ LimOf CM H ss (Q (.ref t)) E
theorem ok_checked {f C CM fM : Addr} {fd fdM : FuncData} {u1 u2 u3 : Tok} (F : Fun K "checked" "checked" sChecked f fd) (B : Blt mg) (me : mg "enumerate" = none) (T : RTxt K mg C) (W : AOwn K C)
    (TM : ErrV K mg "TooMany" nLimit CM fM) (GM : FnOk P w K mg base CX0 1 fM fdM ["self", "limit"] (spErr nLimit CM)) (bM : Binds K fdM ["self", "limit"] [])
    (m1 : mg "RULES" = some (.int 12 u1)) (m2 : mg "STATES" = some (.int 6 u2)) (m3 : mg "WORDS" = some (.int 6 u3))
    (states_of : Own P w K mg base CX0 3 "states_of" ["rules"] (spStatesOf K C)) (words_of : Own P w K mg base CX0 3 "words_of" ["rules"] (spWordsOf K C)) :
    FnOk P w K mg base (L2.CX P w) 4 f fd ["rules"] (spChecked K C CM) := by
  refine F.okX scChecked (fun vs H Q E h => ?_) (fun cdv A outer s0 H vs Q E hr h => ?_)
  · obtain ⟨t, ps, ss, rfl, _⟩ := h
    rfl
  · obtain ⟨t, ps, ss, rfl, ht, hA, few, qE, qN⟩ := h
    have hr2 : Room 2 _ := hr.mono (by decide)
    refine ⟨_, (pss_cons (ps_for (L2.passes_of rfl) rfl (pi_enumT (by rfl) me (pa_cons (pv 0) pa_nil)) (pg_tup (n := 2) rfl (pgs_cons (pg_name (i := 1) scChecked.nd rfl (Or.inl rfl)) (pgs_cons (pg_name (i := 2) scChecked.nd rfl (Or.inl rfl)) pgs_nil)))
        (pss_one (ps_if (pt_not (pt_val (pe_callB (call_isI W) (by rfl) B.isinstance_ (by decide +kernel) (pa_cons (pv 2) (pa_cons (pe_glob (v := .ref C) (by rfl) T.mgC rfl) pa_nil))))) (pss_one ps_dead) pss_nil)))
      (pss_cons (ps_if (pt_cmpR op_gt (pe_callB call_len_seq (by rfl) B.len_ (by decide +kernel) (pa_cons (pv 0) pa_nil)) (pe_glob (v := .int 12) (by rfl) m1 ⟨_, rfl⟩) (nomark _)) (pss_one (ps_raise rfl (takes_of rfl rfl rfl rfl) (pmk_oeV TM.ox TM.iC TM.tI GM hr2 bM .nil pass0 (by rfl) TM.mgC (by exact (pa_cons (pe_glob (v := .int 12) (by rfl) m1 ⟨_, rfl⟩) pa_nil))))) pss_nil)
      (pss_cons (ps_if (pt_cmpR op_gt (pe_callB call_len_seq (by rfl) B.len_ (by decide +kernel) (pa_cons (pe_call states_of.g hr rfl states_of.mg states_of.kp states_of.b .nil pass0 (pa_cons (pv 0) pa_nil)) pa_nil)) (pe_glob (v := .int 6) (by rfl) m2 ⟨_, rfl⟩) (nomark _)) (pss_one (ps_raise rfl (takes_of rfl rfl rfl rfl) (pmk_oeV TM.ox TM.iC TM.tI GM hr2 bM .nil pass0 (by rfl) TM.mgC (by exact (pa_cons (pe_glob (v := .int 6) (by rfl) m2 ⟨_, rfl⟩) pa_nil))))) pss_nil)
      (pss_cons (ps_if (pt_cmpR op_gt (pe_callB call_len_seq (by rfl) B.len_ (by decide +kernel) (pa_cons (pe_call words_of.g hr rfl words_of.mg words_of.kp words_of.b .nil pass0 (pa_cons (pv 0) pa_nil)) pa_nil)) (pe_glob (v := .int 6) (by rfl) m3 ⟨_, rfl⟩) (nomark _)) (pss_one (ps_raise rfl (takes_of rfl rfl rfl rfl) (pmk_oeV TM.ox TM.iC TM.tI GM hr2 bM .nil pass0 (by rfl) TM.mgC (by exact (pa_cons (pe_glob (v := .int 6) (by rfl) m3 ⟨_, rfl⟩) pa_nil))))) pss_nil)
      (pss_one (ps_ret (pe_callTy call_tuple_of (by rfl) B.tuple_ (by decide +kernel) (pa_cons (pv 0) pa_nil)))))))), ?_⟩
    have sz : ∀ n, n ≤ 100000 → n ≤ sizeLine := fun n h => Nat.le_trans h (by show 100000 ≤ sizeLine; decide)
    have hl := hA.1
    refine ⟨_, rfl, t, _, rfl, ht, for_it (walk_enumT (xs := ps.map V.ref)) (fun i σ G => ∃ o1 o2 : Option V, σ = [some (.ref t), o1, o2] ∧ Same H G) ⟨none, none, rfl, Same.refl H⟩ (fun i σ G _ h => by
      obtain ⟨_, _, _, s⟩ := h
      exact same_seqT s ht) ?_ ?_⟩
    · rintro i x σ G G' hi ⟨o1, o2, rfl, sG⟩ ⟨pr, u, v, rfl, np, rfl, ei, ev⟩
      cases ei
      obtain ⟨p, s, rfl, hp, hs, hS, hok⟩ := (hA.same sG).get ev
      have s2 := same_new (o := .tup [.int (i : Nat), .ref p]) np
      obtain ⟨dx, _, _, _, _, _, hp', _⟩ := (hS.same s2).ex
      exact ⟨pr, _, rfl, .inl (.inl upd_same), rfl, _, _, rfl, _, _, rfl, rfl, _, rfl, p, dx, _, rfl, hp', _, rfl, iteF ⟨_, _, rfl, sG.trans s2⟩⟩
    · rintro σ G ⟨o1, o2, rfl, sG⟩
      have htG := same_seqT sG ht
      have hAG := hA.same sG
      refine ⟨_, rfl, t, _, rfl, .inr htG, _, _, rfl, rfl, _, rfl, if_is (fun e => ?_) (fun e => ?_)⟩
      · have lim : limS ss = some 12 := by
          unfold limS
          rw [if_pos (by have := of_decide_eq_true e; rw [List.length_map] at this; omega)]
        refine ⟨by show 1 ≤ 1000; decide, fun a na => err_use na fun d nd => ?_⟩
        exact qE 12 lim d _ (sG.trans (same_new nd)) upd_same (sG.free nd)
      have few12 : ss.length ≤ 12 := by
        have := of_decide_eq_false e
        rw [List.length_map] at this
        omega
      refine ⟨_, rfl, t, ps, ss, rfl, htG, hAG, by omega, fun ys r G2 hs hn hm hr s2 => ⟨r, _, rfl, .inr hr, _, _, rfl, rfl, _, rfl, if_is (fun e => ?_) (fun e => ?_)⟩⟩
      · have lim : limS ss = some 6 := by
          unfold limS
          have := of_decide_eq_true e
          rw [List.length_map, dd_len hn hm] at this
          rw [if_neg (by omega), if_pos (by omega)]
        refine ⟨by show 1 ≤ 1000; decide, fun a na => err_use na fun d nd => ?_⟩
        have sA := sG.trans s2
        exact qE 6 lim d _ (sA.trans (same_new nd)) upd_same (sA.free nd)
      have few6 : (dd (statesL ss)).length ≤ 6 := by
        have := of_decide_eq_false e
        rw [List.length_map, dd_len hn hm] at this
        omega
      have sA := sG.trans s2
      refine ⟨_, rfl, t, ps, ss, rfl, same_seqT s2 htG, hAG.same s2, by omega, fun ys r G3 hs hn hm hr s3 => ⟨r, _, rfl, .inr hr, _, _, rfl, rfl, _, rfl, if_is (fun e => ?_) (fun e => ?_)⟩⟩
      · have lim : limS ss = some 6 := by
          unfold limS
          have := of_decide_eq_true e
          rw [List.length_map, dd_len hn hm] at this
          rw [if_neg (by omega), if_neg (by omega), if_pos (by omega)]
        refine ⟨by show 1 ≤ 1000; decide, fun a na => err_use na fun d nd => ?_⟩
        have sB := sA.trans s3
        exact qE 6 lim d _ (sB.trans (same_new nd)) upd_same (sB.free nd)
      have lim : limS ss = none := by
        unfold limS
        have := of_decide_eq_false e
        rw [List.length_map, dd_len hn hm] at this
        rw [if_neg (by omega), if_neg (by omega), if_neg (by omega)]
      exact ⟨_, rfl, t, _, rfl, .inr ⟨same_seqT s3 (same_seqT s2 htG), qN lim G3 (sA.trans s3)⟩⟩
end
end RL

/-! == of tuples whose items are instances with their own ==; what the items' == leaves is kept. -/
namespace PySem.SeqAt
open AutoSeq1 (wpAny_loadPart')
open MeetsSeq MeetsSeq2 MeetsSeq3 SeqRoads2
/-- y == x answers b and keeps J -/
def EqJ (prog : Program) (w : World) (A : Around) (J : Shared → Prop) (y x : Value) (b : Bool) : Prop := ∀ (E : Value → Shared → Prop) (Q : Bool → Shared → Prop) (s : Shared), J s → (∀ s', J s' → Q b s') → wpAny (model prog w) A (eqBool y x) Q E s
section
variable {prog : Program} {w : World}
theorem tuple_eqJ (J : Shared → Prop) (l b : Addr) (items items2 : Array Value) (n n2 : Nat) (dd dd2 : Option Addr) (sl sl2 : Array (Option Value)) (e : Nat → Bool) :
    MeetsIn prog w (Builtin.«tuple.__eq__» ⟨[.ref l, .ref b], []⟩)
      (fun A R s => s.heap.get? l = some { cls := .type "tuple", dict := dd, data := .seq items n, slots := sl } ∧ s.heap.get? b = some { cls := .type "tuple", dict := dd2, data := .seq items2 n2, slots := sl2 } ∧
        J s ∧ (∀ j (h1 : j < items.size) (h2 : j < items2.size), EqJ prog w A.in1 J items[j] items2[j] (e j)) ∧
        ∀ s', J s' → R (.ok (.ret (.bool ((List.range (min items.size items2.size)).all e && items.size == items2.size)))) s') :=
  .of_wp fun A R s h => by
    obtain ⟨hp, g, d, tk, os⟩ := s; obtain ⟨hl, hb, hJ, he, h⟩ := h
    have f2 := AutoSeq1.sub_tuple_tuple
    have hZ : (items.toList.zip items2.toList).length = min items.size items2.size := by simp
    wp_walk using wpAny_loadPart' hl, wpAny_loadPart' hb, wpAny_forIn_list _ (fun rest b s' => b.1 = none ∧ J s' ∧ ∃ i, rest = (items.toList.zip items2.toList).drop i ∧
      ∀ s'', J s'' → R (.ok (.ret (.bool (((List.range (min items.size items2.size)).drop i).all e && items.size == items2.size)))) s'') _
    case turn =>
      rintro ⟨y, x⟩ rest b s' ⟨hb', hJ', i, hz, hR⟩
      have hlt : i < (items.toList.zip items2.toList).length := by
        rcases Nat.lt_or_ge i (items.toList.zip items2.toList).length with h' | h'
        · exact h'
        · rw [List.drop_of_length_le h'] at hz; cases hz
      have hm : i < min items.size items2.size := hZ ▸ hlt
      have h1 : i < items.size := Nat.lt_of_lt_of_le hm (Nat.min_le_left _ _)
      have h2 : i < items2.size := Nat.lt_of_lt_of_le hm (Nat.min_le_right _ _)
      rw [List.drop_eq_getElem_cons hlt] at hz
      injection hz with hyx hrest
      have hy : y = items[i] := by have := congrArg Prod.fst hyx; simpa using this
      have hx : x = items2[i] := by have := congrArg Prod.snd hyx; simpa using this
      subst hy hx
      have hd : (List.range (min items.size items2.size)).drop i = i :: (List.range (min items.size items2.size)).drop (i + 1) := by simp [List.drop_eq_getElem_cons, hm]
      rw [hd, List.all_cons] at hR
      refine wpAny_bind (he i h1 h2 _ _ s' hJ' fun s2 hJ2 => ?_)
      cases hy : e i with
      | true =>
        rw [hy] at hR
        wp_walk
        exact ⟨rfl, hJ2, i + 1, hrest, by simpa using hR⟩
      | false =>
        rw [hy] at hR
        wp_walk
        exact ⟨_, rfl, by simpa using hR s2 hJ2⟩
    case fin =>
      rintro ⟨b1, b2⟩ s' ⟨hb', hJ', i, hz, hR⟩
      simp only at hb'
      subst hb'
      have hge : min items.size items2.size ≤ i := by
        rcases Nat.lt_or_ge i (items.toList.zip items2.toList).length with h' | h'
        · rw [List.drop_eq_getElem_cons h'] at hz; cases hz
        · exact hZ ▸ h'
      rw [List.drop_of_length_le (by simpa using hge)] at hR
      wp_walk
      exact ⟨_, rfl, by simpa [Builtin.Tuple.tupleCompareSizes] using hR s' hJ'⟩
    case h =>
      exact ⟨rfl, hJ, 0, by simp, by simpa using h⟩
theorem rcJ_tuples {J : Shared → Prop} {A : Around} {s : Shared} {l b : Addr} {items items2 : Array Value} {n n2 : Nat} {dd dd2 : Option Addr} {sl sl2 : Array (Option Value)} {e : Nat → Bool} (hl : s.heap.get? l = some { cls := .type "tuple", dict := dd, data := .seq items n, slots := sl }) (hb : s.heap.get? b = some { cls := .type "tuple", dict := dd2, data := .seq items2 n2, slots := sl2 }) (hJ : J s) (hu : A.units < cLine)
    (he : ∀ j (h1 : j < items.size) (h2 : j < items2.size), EqJ prog w A.in1 J items[j] items2[j] (e j)) (E Q : Value → Shared → Prop) (h : ∀ s', J s' → Q (.bool ((List.range (min items.size items2.size)).all e && items.size == items2.size)) s') : wpAny (model prog w) A (richCompare .Eq (.ref l) (.ref b)) Q E s := by
  have ta : s.TypeIs (.ref l) "tuple" := ⟨_, hl, rfl⟩
  have tb : s.TypeIs (.ref b) "tuple" := ⟨_, hb, rfl⟩
  exact wpAny_richCompare_same_room (op := .Eq) ta tb F.slot_tuple_eq (call_meetsIn F.slot_tuple_eq ta F.entry_tuple_eq (F.args_tuple_eq_2 _ _) (tuple_eqJ J l b items items2 n n2 dd dd2 sl sl2 e)
    ⟨hl, hb, hJ, he, fun s' q => show Value.bool _ ≠ Value.notImplemented ∧ Q _ s' from ⟨(fun x => nomatch x), h s' q⟩⟩) hu
end
end PySem.SeqAt
namespace GR
open PySem PySem.W PySem.Spec PySem.Calls PyProof.Rows L2 SX
section
variable {X : Cx} {C f : Addr} {fd : FuncData} {ps : List Str} {n : Nat} {sp : Sp}
theorem vals_ref : ∀ {xs : List Addr} {us : List Value}, Vals (xs.map V.ref) us → ∀ j (h : j < us.length) (hx : j < xs.length), us[j] = Value.ref xs[j]
  | [], _, _, _, _, hx => absurd hx (Nat.not_lt_zero _)
  | x :: xs, _, .cons r rs, 0, _, _ => r
  | x :: xs, _, .cons r rs, j + 1, h, hx => vals_ref rs j (Nat.lt_of_succ_lt_succ h) (Nat.lt_of_succ_lt_succ hx)
/-- the items' own ==, kept -/
theorem eqJ_own {pins : List (Addr × Obj)} {σ : L2.St} {H : Hp} {a b dx dy : Addr} {fs gs : List (Str × V)} {t : Bool} (at_ : findIn X.K (.ref C) "__eq__" = some (some (.ref f))) (isF : isFn X.K (.ref f) = true)
    (F : FnOk X.prog X.w X.K X.mg X.base CX0 n f fd ps sp) (hb : Binds X.K fd ps []) (room : Room (n + 1) X.A) (ha : H a = some (.ins C dx fs)) (hb' : H b = some (.ins C dy gs))
    (q : sp [.ref a, .ref b] H (fun z H' => H' = H ∧ z = .bl t) E0) : SeqAt.EqJ X.prog X.w X.A.in1 (fun s => L2.Inv X pins σ H s) (.ref a) (.ref b) (decide (a = b) || t) := by
  intro E Q s I fin
  unfold eqBool
  refine wpAny_holding ?_
  refine wpAny_ite_split (fun hab => ?_) (fun hab => ?_)
  · have e : a = b := by have := eq_of_beq hab; injection this
    rw [decide_eq_true e, Bool.true_or] at fin
    wp_walk
    exact fin s I
  · have e : a ≠ b := fun e => hab (by rw [e]; simp)
    rw [decide_eq_false e, Bool.false_or] at fin
    obtain ⟨_, J, _⟩ := ins_get I.hok ha
    obtain ⟨_, J', _⟩ := ins_get I.hok hb'
    obtain ⟨od, J, _⟩ := J.look
    obtain ⟨od', J', _⟩ := J'.look
    obtain ⟨m, hF⟩ := I.fr
    have room1 : Room n X.A.in1 := room.in1
    refine wpAny_bind (cmp_K (op := .Eq) (tb := .ref C) room1.units0 hF I.ok.mod.kin J J'.type (by simp [notFirst]) at_ isF ?_)
    have bs := hb s [.ref a, .ref b] I.kIn (by rw [List.append_nil]; exact F.len _ _ _ _ q)
    refine wpAny_call (codeAny_mono (F.run X.A.in1 X.stack s H ⟨[.ref a, .ref b], []⟩ [.ref a, .ref b] [.ref a, .ref b] _ E0 room1 I.env0.in1 bs (.cons rfl (.cons rfl .nil)) q) ?_)
    rintro (e | fl) s' h
    · exact (show False from h).elim
    cases fl with
    | next => exact (show False from h).elim
    | brk => exact (show False from h).elim
    | cont => exact (show False from h).elim
    | ret r =>
      obtain ⟨z, H', I', rz, eH, ez⟩ := I.after h
      subst eH ez
      cases (show r = Value.bool t from rz)
      exact wpAny_truthy_bool (fin s' I')
/-- == of two tuples of such instances -/
def rEqIs (K : Frag) (C : Addr) (sp : Sp) : R2 := fun x y H Q => ∃ (a b : Addr) (xs ys : List Addr) (e : Nat → Bool), x = .ref a ∧ y = .ref b ∧ SqT K H a (xs.map V.ref) ∧ SqT K H b (ys.map V.ref) ∧
  (∀ p ∈ xs, ∃ dx fs, H p = some (.ins C dx fs)) ∧ (∀ p ∈ ys, ∃ dx fs, H p = some (.ins C dx fs)) ∧ (∀ j p q, xs[j]? = some p → ys[j]? = some q → sp [.ref p, .ref q] H (fun z H' => H' = H ∧ z = .bl (e j)) E0) ∧
  Q (.bl ((List.range (min xs.length ys.length)).all (fun j => decide (xs[j]? = ys[j]?) || e j) && decide (xs.length = ys.length))) H
theorem op_eqIs (at_ : findIn X.K (.ref C) "__eq__" = some (some (.ref f))) (isF : isFn X.K (.ref f) = true) (F : FnOk X.prog X.w X.K X.mg X.base CX0 n f fd ps sp) (hb : Binds X.K fd ps []) (room : Room (n + 1) X.A) : OpR X (compareOp .Eq) (rEqIs X.K C sp) := by
  intro pins s σ H x y v u Q I rx ry ⟨a, b, xs, ys, e, ex, ey, ha, hb2, iX, iY, q, fin⟩
  subst ex; subst ey
  cases (show v = Value.ref a from rx); cases (show u = Value.ref b from ry)
  obtain ⟨i1, r1, t1, _⟩ := I.tuple ha
  obtain ⟨i2, r2, t2, _⟩ := I.tuple hb2
  obtain ⟨⟨cls, dd, data, sl⟩, ho, hc, m, hd⟩ := t1
  obtain ⟨⟨cls2, dd2, data2, sl2⟩, ho2, hc2, m2, hd2⟩ := t2
  simp only at hc hd hc2 hd2
  subst hc hd hc2 hd2
  have l1 : i1.length = xs.length := by rw [← r1.length, List.length_map]
  have l2 : i2.length = ys.length := by rw [← r2.length, List.length_map]
  have g1 : ∀ j (h : j < i1.length), ∃ hx : j < xs.length, i1[j] = Value.ref xs[j] := fun j h => by
    have hx : j < xs.length := by omega
    exact ⟨hx, vals_ref r1 j h hx⟩
  have g2 : ∀ j (h : j < i2.length), ∃ hx : j < ys.length, i2[j] = Value.ref ys[j] := fun j h => by
    have hx : j < ys.length := by omega
    exact ⟨hx, vals_ref r2 j h hx⟩
  show wpAny _ _ (richCompare .Eq (.ref a) (.ref b)) _ _ _
  refine SeqAt.rcJ_tuples (J := fun s => L2.Inv X pins σ H s) (e := fun j => decide (xs[j]? = ys[j]?) || e j) ho ho2 I room.units0 (fun j h1 h2 => ?_) _ _ fun s' I' => ?_
  · have h1' : j < i1.length := by simpa using h1
    have h2' : j < i2.length := by simpa using h2
    obtain ⟨hx, e1⟩ := g1 j h1'
    obtain ⟨hy, e2⟩ := g2 j h2'
    have f1 : i1.toArray[j] = Value.ref xs[j] := by simpa using e1
    have f2 : i2.toArray[j] = Value.ref ys[j] := by simpa using e2
    have x1 := List.getElem?_eq_getElem hx
    have x2 := List.getElem?_eq_getElem hy
    rw [f1, f2, x1, x2]
    have de : decide (some xs[j] = some ys[j]) = decide (xs[j] = ys[j]) := by
      by_cases h : xs[j] = ys[j] <;> simp [h]
    rw [de]
    obtain ⟨dx, fs, p1⟩ := iX _ (List.getElem_mem hx)
    obtain ⟨dy, gs, p2⟩ := iY _ (List.getElem_mem hy)
    exact eqJ_own at_ isF F hb room p1 p2 (q j _ _ x1 x2)
  · refine ⟨.bl _, H, I', rfl, ?_⟩
    rw [List.size_toArray, List.size_toArray, l1, l2]
    have : (xs.length == ys.length) = decide (xs.length = ys.length) := by
      by_cases h : xs.length = ys.length <;> simp [h]
    rw [this]
    exact fin
end
end GR

-- NOMAP
namespace RL
open PySem L2 SX AddrMath VA PySem.W GR TxSet
/-- the text of a rule, as it is said -/
def textS (s : Said) : Str := ruleS s.1 (.tuple s.2.1) (goalSD s.2.2.1) s.2.2.2
def eqS : Option Said → Option Said → Bool
  | some a, some b => PyData.eqv (keyD a.1 (.tuple a.2.1) (goalSD a.2.2.1) a.2.2.2) (keyD b.1 (.tuple b.2.1) (goalSD b.2.2.1) b.2.2.2)
  | _, _ => true
structure BTxt (K : Frag) (mg : Str → Option Value) (CB : Addr) : Prop where
  cl : Cls K CB
  nR : NoAttr K CB "_rules"
  nD : NoAttr K CB "_reader"
  mgC : mg "Book" = some (.ref CB)
abbrev nRules : Str := "_rules"
abbrev nReader : Str := "_reader"
def bF (t : Addr) : List (Str × V) := [(nRules, .ref t), (nReader, .non)]
/-- a book of these rules stands at b -/
def BookAt (K : Frag) (C CB : Addr) (H : Hp) (b t : Addr) (ps : List Addr) (ss : List Said) : Prop := (∃ dx, H b = some (.ins CB dx (bF t))) ∧ SqT K H t (ps.map V.ref) ∧ RulesAt K C H ps ss
theorem BookAt.same {K : Frag} {C CB : Addr} {H H' : Hp} {b t : Addr} {ps : List Addr} {ss : List Said} (h : BookAt K C CB H b t ps ss) (s : Same H H') : BookAt K C CB H' b t ps ss := by
  obtain ⟨⟨dx, h1⟩, h2, h3⟩ := h
  exact ⟨⟨dx, s _ _ h1⟩, same_seqT s h2, h3.same s⟩
section
variable {P : Program} {w : World} {K : Frag} {mg : Str → Option Value} {base : Heap}
/-- a rule stays where another instance changes -/
theorem rule_put {C CB b dx p : Addr} {H : Hp} {fs gs : List (Str × V)} {z : Str} {pd gd : PyData} {x : Bool} (hb : H b = some (.ins CB dx fs)) (hf : fs.lookup nState = none) (h : RuleAt K C H p z pd gd x) : RuleAt K C (upd H b (.ins CB dx gs)) p z pd gd x := by
  obtain ⟨dx', tP, tW, tK, gV, ws, hp, hP, hG, hW, a1, a2, a3, hK⟩ := h.ex
  have ne : p ≠ b := fun e => by
    rw [e, hb] at hp
    cases hp
    cases hf
  have k : Kp H (upd H b (.ins CB dx gs)) := kp_put hb rfl
  have nt : ∀ {t : Addr} {xs : List V}, H t = some (.tup xs) → (upd H b (.ins CB dx gs)) t = some (.tup xs) := fun {t xs} e => by
    rw [upd_ne (fun z => by rw [z, hb] at e; cases e)]
    exact e
  exact ⟨dx', tP, tW, tK, gV, ws, (upd_ne ne).trans hp, k.sqT hP, goal_at_kp hG k, nt hW, a1, a2, a3, nt hK⟩
theorem rules_put {C CB b dx : Addr} {H : Hp} {fs gs : List (Str × V)} {ps : List Addr} {ss : List Said} (hb : H b = some (.ins CB dx fs)) (hf : fs.lookup nState = none) (h : RulesAt K C H ps ss) : RulesAt K C (upd H b (.ins CB dx gs)) ps ss :=
  ⟨h.1, fun i p s a e => ⟨rule_put hb hf (h.2 i p s a e).1, (h.2 i p s a e).2⟩⟩
/-! ### Book.__init__: slots self 0, rules 1 -/
abbrev sBookInit : Stmt := inClass (top 50) 0
theorem scBookInit : FnScope ["self", "rules"] ["self", "rules"] (defScope sBookInit) := ⟨rfl, rfl, rfl, by decide +kernel, rfl, by decide +kernel, by decide +kernel⟩
/-- what the constructor is promised: self and the tuple of the rules -/
def spBInit0 (K : Frag) (C CB CM : Addr) : Sp := fun vs H Q E => ∃ (b t dx : Addr) (ps : List Addr) (ss : List Said), vs = [.ref b, .ref t] ∧ H b = some (.ins CB dx []) ∧ SqT K H t (ps.map V.ref) ∧ RulesAt K C H ps ss ∧ ss.length ≤ 100000 ∧
  (∀ n, limS ss = some n → ∀ d H', Same H H' → H' d = some (.xd (ixF nLimit (.int n))) → H d = none → E (.ref CM) (some d) H') ∧
  (limS ss = none → ∀ H', BookAt K C CB H' b t ps ss → (∀ x o, H x = some o → x ≠ b → H' x = some o) → Q .non H')
def spBInit (K : Frag) (C CB CM : Addr) : Sp := fun vs H Q E => ∃ ws rest, vs = ws ++ rest ∧ ws.length = ["self"].length ∧ rest.length ≤ sizeLine ∧ ∀ p, H p = Option.none → spBInit0 K C CB CM (ws ++ [V.ref p]) (upd H p (.tup rest)) Q E
theorem ok_binit {f C CB CM : Addr} {fd : FuncData} (F : Fun K "__init__" "Book.__init__" sBookInit f fd) (TB : BTxt K mg CB) (checked : Own P w K mg base (L2.CX P w) 4 "checked" ["rules"] (spChecked K C CM)) : FnR P w K mg base (L2.CX P w) 5 f (spBInit K C CB CM) := by
  obtain ⟨oc, od, kV, doc, pm, an, cdv, ct, osl, rfl, lk, hcd⟩ := F.ex
  refine StX.fn_star (ps := ["self"]) (pv := "rules") lk hcd scBookInit StX.cxUp (StX.bind_star1 (B := fun us => bindArgs _ ⟨us, []⟩) (fun a => by rfl) (fun a r rs => by rfl)) fun A outer s0 H vs Q E hr h => ?_
  obtain ⟨b, t, dx, ps, ss, rfl, hb, ht, hA, few, qE, qN⟩ := h
  refine ⟨_, (pss_cons (ps_fld (pv 0) (pe_callS checked.g hr rfl checked.mg checked.kp checked.b (fun σ => passAt (takes_of rfl rfl rfl rfl) σ) (pa_cons (pv 1) pa_nil)) rfl)
      (pss_one (ps_fld (pv 0) pe_non rfl))), ?_⟩
  refine ⟨_, rfl, t, ps, ss, rfl, ht, hA, few, qE, fun hn H2 s2 => ?_⟩
  have hb2 := s2 _ _ hb
  refine ⟨_, rfl, b, CB, dx, _, rfl, hb2, TB.cl, TB.nR, (by show 0 < 1000; decide), ?_⟩
  refine hp_is (H' := upd H2 b (.ins CB dx [(nRules, .ref t)])) rfl ?_
  have g1 : (upd H2 b (.ins CB dx [(nRules, .ref t)])) b = some (.ins CB dx [(nRules, .ref t)]) := upd_same
  have A1 : RulesAt K C (upd H2 b (.ins CB dx [(nRules, .ref t)])) ps ss := rules_put hb2 rfl (hA.same s2)
  have k1 : Kp H2 (upd H2 b (.ins CB dx [(nRules, .ref t)])) := kp_put hb2 rfl
  have t1 := k1.sqT (same_seqT s2 ht)
  have b1 : ∀ x o, H x = some o → x ≠ b → (upd H2 b (.ins CB dx [(nRules, .ref t)])) x = some o := fun x o e n => by rw [upd_ne n]; exact s2 _ _ e
  generalize upd H2 b (.ins CB dx [(nRules, .ref t)]) = G1 at g1 A1 t1 b1 ⊢
  refine ⟨_, rfl, b, CB, dx, _, rfl, g1, TB.cl, TB.nD, (by show 1 < 1000; decide), ?_⟩
  refine hp_is (H' := upd G1 b (.ins CB dx (bF t))) rfl ?_
  have k2 : Kp G1 (upd G1 b (.ins CB dx (bF t))) := kp_put g1 rfl
  exact qN hn _ ⟨⟨dx, upd_same⟩, k2.sqT t1, rules_put g1 rfl A1⟩ fun x o e n => by rw [upd_ne n]; exact b1 x o e n
end
end RL

namespace RL
open PySem L2 SX AddrMath VA
section
variable {P : Program} {w : World} {K : PySem.W.Frag} {mg : Str → Option Value} {base : Heap}
/-! ### _law_made_rule: slots one 0, state 1, pattern 2, goal 3, exact 4, begin 5 -/
theorem ent_okn {d : PyData} (e : isEntD d = true) {n : Nat} : okD n d = true := by
  have := ent_ok7 e
  rcases ent_cases e with ⟨k, rfl⟩ | ⟨x', rfl, _⟩
  · rw [okD]
  · rw [okD] at this ⊢
    exact this
theorem ents_lst {H : Hp} {l : Addr} {es : List PyData} (h : SqL K H l (es.map entV)) (e : es.all isEntD = true) (few : es.length ≤ 1000) {n : Nat} : Dp K H (.ref l) (.list es) ∧ okD (n + 1) (.list es) = true :=
  ⟨.lst h (ents_dp e), (ok_seq few fun d hd => ent_okn (List.all_eq_true.mp e d hd)).1⟩
theorem are_lst {m : Int} {b : PyData} (h : areEntD m b = true) : areEntD m (.list (itemsD b)) = true := by
  obtain ⟨_, h2, h3⟩ := areEnt_parts h
  show (true && (decide (((itemsD b).length : Int) ≤ m) && (itemsD b).all isEntD)) = true
  rw [h3, decide_eq_true h2]
  rfl
theorem rule_tup {C p : Addr} {H : Hp} {z y : Str} {es : List PyData} {b : PyData} {x : Bool} (h : RuleAt K C H p z (.list es) (.tuple [.str y, .list (itemsD b)]) x) : RuleAt K C H p z (.tuple es) (.tuple [.str y, b]) x := ⟨h.ex⟩
theorem rule_tup0 {C p : Addr} {H : Hp} {z : Str} {es : List PyData} {x : Bool} (h : RuleAt K C H p z (.list es) .none x) : RuleAt K C H p z (.tuple es) .none x := ⟨h.ex⟩
theorem pass_none {X : Cx} : Passes (L2.CX P w) X E0 := fun _ _ _ _ _ _ _ h => by
  obtain ⟨_, _, _, _, _, _, _, _, _, _, _, _, h⟩ := h
  exact h.elim
theorem wrong_none {s p g : PyData} {x : Bool} (h1 : isWordD s = true) (h2 : areEntD 2 p = true) (h3 : isGoalD g p = true) : wrongD s p g (.bool x) = none := by
  unfold wrongD
  rw [h1, h2, h3]
  rfl
theorem same_ins {H : Hp} {y dy C : Addr} (ny : H y = none) (nd : H dy = none) : Same H (upd (upd H dy (.own y)) y (.ins C dy [])) := fun b o e => by
  rw [upd_ne (ne_of_none e ny), upd_ne (ne_of_none e nd)]
  exact e
end
end RL

namespace RL
open PySem L2 SX AddrMath VA
section
variable {P : Program} {w : World} {K : PySem.W.Frag} {mg : Str → Option Value} {base : Heap}
abbrev sMade : Stmt := top 64
theorem scMade : FnScope ["_law_one", "_law_state", "_law_pattern", "_law_goal", "_law_exact", "_law_begin"] ["_law_one"] (defScope sMade) := ⟨rfl, rfl, rfl, by decide +kernel, rfl, by decide +kernel, by decide +kernel⟩
def spMade (K : PySem.W.Frag) (C : Addr) : Sp := fun vs H Q _ => ∃ (a : Addr) (z : Str) (es : List PyData) (gd : PyData) (x : Bool), vs = [.ref a] ∧ PlainAt K H a z es gd x ∧ okRule z es gd ∧ ∀ p H', RuleAt K C H' p z (.tuple es) gd x → Same H H' → Q (.ref p) H'
theorem ok_made {f fI C CE : Addr} {fd fdI : FuncData} {gI : List Value → List Value → List Value} (F : Fun K "_law_made_rule" "_law_made_rule" sMade f fd) (T : RTxt K mg C) (B : Blt mg)
    (MI : Mk K C fI) (GI : FnOk P w K mg base (L2.CX P w) 6 fI fdI ["self", "state", "pattern", "goal", "is_exact"] (spRInit K C CE)) (bn : KBn K fdI ["self", "state", "pattern", "goal", "is_exact"] 4 ["is_exact"] gI (fun vs zs => vs ++ zs)) :
    FnOk P w K mg base CX0 8 f fd ["_law_one"] (spMade K C) := by
  refine F.ok scMade (fun vs H Q E h => ?_) (fun cdv A outer s0 H vs Q E hr h => ?_)
  · obtain ⟨a, z, es, gd, x, rfl, _⟩ := h
    rfl
  · obtain ⟨a, z, es, gd, x, rfl, hA, ok, q⟩ := h
    refine ⟨_, (pss_cons (ps_asg (pv 0) (pg_tup rfl (pgs_cons (pg_name (i := 1) scMade.nd rfl (Or.inl rfl)) (pgs_cons (pg_name (i := 2) scMade.nd rfl (Or.inl rfl)) (pgs_cons (pg_name (i := 3) scMade.nd rfl (Or.inl rfl)) (pgs_cons (pg_name (i := 4) scMade.nd rfl (Or.inl rfl)) pgs_nil))))))
      (pss_cons (ps_set (i := 5) scMade.nd rfl (Or.inl rfl) (pe_ifExp (pt_cmpR op_isN (pv 3) pe_non (nomark _)) pe_non (pe_tup (pa_cons (pe_ix ix_tup (pv 3) pe_int (fun _ _ => rfl)) (pa_cons (pe_callTy call_lstA (by rfl) B.list_ (by decide +kernel) (pa_cons (pe_ix ix_tup (pv 3) pe_int (fun _ _ => rfl)) pa_nil)) pa_nil)))))
      (pss_one (ps_ret (pe_makeN (n := 3) MI GI hr (by rfl) T.mgC bn pass_none (pa_cons (pv 1) (pa_cons (pe_callTy call_lstA (by rfl) B.list_ (by decide +kernel) (pa_cons (pv 2) pa_nil)) (pa_cons (pv 5) pa_nil))) (pk_cons (pv 4) pk_nil)))))), ?_⟩
    obtain ⟨tP, gV, hA1, hP, hG⟩ := hA
    obtain ⟨o1, o2, o3, o4⟩ := ok
    have vz : ∀ G, Vx K G (.str z) (.str z) := fun G => str_vx o1
    have vb : ∀ G, Vx K G (.bl x) (.bool x) := fun G => .inl ⟨.bl x, by rw [okD]⟩
    have w1 : isWordD (.str z) = true := o1
    have w2 : areEntD 2 (.list es) = true := by
      show (true && (decide ((es.length : Int) ≤ 2) && es.all isEntD)) = true
      rw [o2, decide_eq_true (by omega)]
      rfl
    refine ⟨_, rfl, a, _, rfl, hA1, rfl, _, _, rfl, _, _, rfl, _, _, rfl, _, _, rfl, rfl, ?_⟩
    have fin : ∀ (G : Hp) (l : Addr) (gv : V) (gd' : PyData) (p dx : Addr), Same H G → SqL K G l (es.map entV) → Dp K G gv gd' → okD 8 gd' = true → isGoalD gd' (.list es) = true → (∀ p H', RuleAt K C H' p z (.list es) gd' x → RuleAt K C H' p z (.tuple es) gd x) → G p = none → G dx = none → dx ≠ p →
        spRInit K C CE [.ref p, .str z, .ref l, gv, .bl x] (upd (upd G dx (.own p)) p (.ins C dx [])) (fun v H3 => v = .non ∧ Q (.ref p) H3) E0 := fun G l gv gd' p dx sG hl hgv okg ig cv np nd ne => by
      have sI : Same G (upd (upd G dx (.own p)) p (.ins C dx [])) := same_ins np nd
      obtain ⟨l1, l2⟩ := ents_lst (n := 7) (sI.seq hl) o2 (by omega)
      refine ⟨p, dx, .str z, .ref l, gv, .bl x, .str z, .list es, gd', .bool x, rfl, upd_same, vz _, .inl ⟨l1, l2⟩, .inl ⟨dp_same sI hgv, okg⟩, vb _, fun f hf => ?_, fun z' x' _ ez ex H' fr hR => ?_⟩
      · rw [wrong_none w1 w2 ig] at hf
        cases hf
      · cases ez
        cases ex
        exact ⟨rfl, q p H' (cv p H' hR) fun b o e => fr b o (sI _ _ (sG _ _ e)) (ne_of_none (sG _ _ e) np)⟩
    rcases goal_parts o4 with rfl | ⟨y, b, rfl, gy, gb⟩
    · cases (show gV = .non from hG)
      refine ⟨_, rfl, rfl, _, rfl, iteT ⟨_, rfl, _, rfl, tP, _, rfl, .inr hP, fun l nl => ⟨_, rfl, _, rfl, rfl, rfl, fun p dx np ndx ne => ?_⟩⟩⟩
      exact fin _ l .non .none p dx (same_new nl) (.inl (.inl upd_same)) .non (by rw [okD]) rfl (fun _ _ h => rule_tup0 h) np ndx ne
    · obtain ⟨g, tb, rfl, hg, htb⟩ := hG
      obtain ⟨_, b2, b3⟩ := areEnt_parts gb
      refine ⟨_, rfl, rfl, _, rfl, iteF ⟨_, rfl, g, _, 0, _, rfl, rfl, .inl (.inl hg), rfl, _, rfl, g, _, 1, _, rfl, rfl, .inl (.inl hg), rfl, tb, _, rfl, .inr htb, fun l1 n1 => ⟨by show 2 ≤ sizeLine; decide, fun g2 n2 => ⟨_, rfl, _, rfl, tP, es.map entV, rfl, .inr (same_seqT (same_new n2) (same_seqT (same_new n1) hP)), fun l nl => ⟨_, rfl, _, rfl, rfl, rfl, fun p dx np ndx ne => ?_⟩⟩⟩⟩⟩
      have s1 := same_new (o := .lst ((itemsD b).map entV)) n1
      have u1 : (upd H l1 (.lst ((itemsD b).map entV))) l1 = some (.lst ((itemsD b).map entV)) := upd_same
      generalize upd H l1 (.lst ((itemsD b).map entV)) = G1 at s1 u1 n2 nl np ndx ⊢
      have s2 := same_new (o := .tup [.str y, .ref l1]) n2
      have u2 : (upd G1 g2 (.tup [.str y, .ref l1])) g2 = some (.tup [.str y, .ref l1]) := upd_same
      generalize upd G1 g2 (.tup [.str y, .ref l1]) = G2 at s2 u2 nl np ndx ⊢
      have s3 := same_new (o := .lst (es.map entV)) nl
      obtain ⟨d1, d2⟩ := ents_lst (n := 6) (.inl (.inl (s3 _ _ (s2 _ _ u1)))) b3 (by omega)
      have dg : Dp K (upd G2 l (.lst (es.map entV))) (.ref g2) (.tuple [.str y, .list (itemsD b)]) := .tup (.inl (.inl (s3 _ _ u2))) (.cons (.str y) (.cons d1 .nil))
      have okg : okD 8 (.tuple [.str y, .list (itemsD b)]) = true := (ok_seq (n := 7) (by show 2 ≤ 1000; decide) fun e he => by
        simp only [List.mem_cons, List.not_mem_nil, or_false] at he
        rcases he with rfl | rfl
        · exact ent_okn (wrd_ent gy)
        · exact d2).2
      have o4' : (isW y.cps.toList && (areEntD 4 b && (itemsD b).all fun e => isWordD e || inD e es)) = true := o4
      rw [Bool.and_eq_true, Bool.and_eq_true] at o4'
      have ig : isGoalD (.tuple [.str y, .list (itemsD b)]) (.list es) = true := by
        show (isW y.cps.toList && (areEntD 4 (.list (itemsD b)) && (itemsD b).all fun e => isWordD e || inD e es)) = true
        rw [o4'.1, are_lst gb, o4'.2.2]
        rfl
      exact fin _ l (.ref g2) (.tuple [.str y, .list (itemsD b)]) p dx ((s1.trans s2).trans s3) (.inl (.inl upd_same)) dg okg ig (fun _ _ h => rule_tup h) np ndx ne
end
end RL

/-! f(k = v, ..): a def of the text, by keywords alone. -/
namespace VA
open PySem L2 SX AddrMath
def tCallK0 (m : Nat) (sp : Sp) (gV : List V → List V → List V) (E : XK) (tk : TA) : TE := fun σ H Q => tk σ H fun zs H1 => zs.length = m ∧ sp (gV [] zs) H1 Q E
section
variable {X : Cx} {CX : CXT} {k : Nat} {f : Addr} {fd : FuncData} {ps ks : List Str} {sp : Sp} {E : XK} {x : Str} {p pos : Pos} {kws : List Keyword} {tk : TA} {g : List Value → List Value → List Value} {gV : List V → List V → List V}
theorem call_k0 {pn : List (Addr × Obj)} {σ : L2.St} {H : Hp} {s : Shared} {Q : VK} {ws : List Value} {zs : List V} (F : FnOk X.prog X.w X.K X.mg X.base CX k f fd ps sp) (room : Room k X.A) (bn : KBn X.K fd ps 0 ks g gV) (pa : Passes CX X E) (J : Inv X pn σ H s) (rz : Vals zs ws) (l2 : zs.length = ks.length)
    (want : sp (gV [] zs) H Q E) : wpAny (model X.prog X.w) X.A (call (.ref f) [] (ks.zip ws)) (EP X pn σ Q) X.xe s := by
  refine wpAny_call (codeAny_mono (F.run X.A X.stack s H ⟨[], ks.zip ws⟩ (g [] ws) _ Q E room J.env0 (bn.to s [] ws J.kIn rfl (rz.length.symm.trans l2)) (bn.rel .nil rz) want) ?_)
  rintro (e | fl) s' h
  · exact pa _ _ _ _ _ _ J h
  cases fl with
  | next => exact (show False from h).elim
  | brk => exact (show False from h).elim
  | cont => exact (show False from h).elim
  | ret u => exact J.after h
theorem pe_callK0 (F : FnOk X.prog X.w X.K X.mg X.base CX k f fd ps sp) (room : Room k X.A) (hg : Gl X x) (hm : X.mg x = some (.ref f)) (hk : PySem.W.keepIn X.K (.ref f) = true) (bn : KBn X.K fd ps 0 ks g gV) (pa : Passes CX X E)
    (hkw : PK X kws tk) (hall : (backToKw pos (keywordEach kws X.env)).all (·.1.isSome) = true := by rfl) (hks : (backToKw pos (keywordEach kws X.env)).filterMap (·.1) = ks := by rfl)
    (hdb : (x == ("__debug__" : Str)) = false := by decide)
    (hpl : ((backTo pos (starEach [] X.env)).any (·.1) || (backToKw pos (keywordEach kws X.env)).any (·.1.isNone)) = false := by rfl) :
    PE X (.Call (.Name x p) [] kws pos) (tCallK0 ks.length sp gV E tk) := by
  refine ⟨fun pn s σ H Q J want => ?_⟩
  refine wpAny_Call_Name_kw (ld_glob J hg hm ?_ hdb)
  refine PySem.W.callWith_KW0 J.ok.mod.kin hk hall (thn (hkw.run pos pn s σ H _ J want) fun ws s2 ⟨zs, H2, J2, rz, l2, q2⟩ => ⟨J2.kIn, ?_⟩) hpl
  rw [hks]
  exact call_k0 F room bn pa J2 rz l2 q2
end
theorem passes_of {X : Cx} {E : XK} (t : Takes X fun cls d _ H => E cls d H) : Passes (L2.CX X.prog X.w) X E := fun pins σ H s e s' I h => passAt t σ pins H s e s' I h
end VA

-- NOMAP
namespace RL
open PySem L2 SX AddrMath VA PySem.W GR TxSet
abbrev nl : Str := "\n"
theorem text_len {s : Said} (ok : okS s) : (textS s).length ≤ 82 := (rule_read (x := s.2.2.2) ok).2.1
theorem sum_le {α : Type} {f : α → Nat} {m : Nat} : ∀ {l : List α}, (∀ x ∈ l, f x ≤ m) → (l.map f).sum ≤ m * l.length
  | [], _ => Nat.zero_le _
  | x :: l, h => by
    have := h x (List.mem_cons_self ..)
    have ih := sum_le (l := l) fun z hz => h z (List.mem_cons_of_mem _ hz)
    rw [List.map_cons, List.sum_cons, List.length_cons, Nat.mul_add, Nat.mul_one]
    omega
theorem RulesAt.oks {K : Frag} {C : Addr} {H : Hp} {ps : List Addr} {ss : List Said} (h : RulesAt K C H ps ss) : ∀ s ∈ ss, okS s := fun s hs => by
  obtain ⟨i, hi, e⟩ := List.getElem_of_mem hs
  have hp : i < ps.length := by rw [h.1]; exact hi
  exact (h.2 i ps[i] s (List.getElem?_eq_getElem hp) (by rw [← e]; exact List.getElem?_eq_getElem hi)).2
section
variable {P : Program} {w : World} {K : Frag} {mg : Str → Option Value} {base : Heap}
/-! ### Book.of: slots cls 0, rules 1 -/
abbrev sBookOf : Stmt := inClass (top 50) 1
theorem scBookOf : FnScope ["cls", "rules"] ["cls", "rules"] (defScope sBookOf) := ⟨rfl, rfl, rfl, by decide +kernel, rfl, by decide +kernel, by decide +kernel⟩
/-- the end of a book made of these rules -/
def BookOf (K : Frag) (C CB CM : Addr) (H : Hp) (ps : List Addr) (ss : List Said) (Q : VK) (E : XK) : Prop :=
  (∀ n, limS ss = some n → ∀ d H', Same H H' → H' d = some (.xd (ixF nLimit (.int n))) → H d = none → E (.ref CM) (some d) H') ∧
  (limS ss = none → ∀ b t H', BookAt K C CB H' b t ps ss → Same H H' → H b = none → Q (.ref b) H')
def spBOf (K : Frag) (C CB CM : Addr) : Sp := fun vs H Q E => ∃ (l : Addr) (ps : List Addr) (ss : List Said), vs = [.ref CB, .ref l] ∧ SqA K H l (ps.map V.ref) ∧ RulesAt K C H ps ss ∧ ss.length ≤ 100000 ∧ BookOf K C CB CM H ps ss Q E
/-- Book's constructor on these rules -/
theorem binit_of {C CB CM o dx : Addr} {H : Hp} {ps : List Addr} {ss : List Said} {Q : VK} {E : XK} (no : H o = none) (nd : H dx = none) (ne : dx ≠ o) (hA : RulesAt K C H ps ss) (few : ss.length ≤ 100000) (h : BookOf K C CB CM H ps ss Q E) :
    spBInit K C CB CM (V.ref o :: ps.map V.ref) (upd (upd H dx (.own o)) o (.ins CB dx [])) (fun v H2 => v = .non ∧ Q (.ref o) H2) E := by
  obtain ⟨qE, qN⟩ := h
  have sI : Same H (upd (upd H dx (.own o)) o (.ins CB dx [])) := same_ins no nd
  refine ⟨[.ref o], ps.map V.ref, rfl, rfl, size_ok (by rw [List.length_map, hA.1]; omega), fun p hp => ?_⟩
  have sT := sI.trans (same_new (o := .tup (ps.map V.ref)) hp)
  have op : (upd (upd (upd H dx (.own o)) o (.ins CB dx [])) p (.tup (ps.map V.ref))) o = some (.ins CB dx []) := by
    have e : p ≠ o := fun e => by rw [e, upd_same] at hp; cases hp
    rw [upd_ne (Ne.symm e), upd_same]
  refine ⟨o, p, dx, ps, ss, rfl, op, .inl (.inl upd_same), hA.same sT, few, fun n hn d H' s' hd nd' => ?_, fun hn H' hB keep => ⟨rfl, ?_⟩⟩
  · refine qE n hn d H' (sT.trans s') hd ?_
    exact sT.free nd'
  · refine qN hn o p H' hB (fun x u hx => keep x u (sT _ _ hx) (ne_of_none hx no)) no
theorem ok_bof {f fB C CB CM : Addr} {fd : FuncData} (F : Fun K "of" "Book.of" sBookOf f fd) (MB : Mk K CB fB) (FB : FnR P w K mg base (L2.CX P w) 5 fB (spBInit K C CB CM)) : FnOk P w K mg base (L2.CX P w) 7 f fd ["cls", "rules"] (spBOf K C CB CM) := by
  refine F.okX scBookOf (fun vs H Q E h => ?_) (fun cdv A outer s0 H vs Q E hr h => ?_)
  · obtain ⟨l, ps, ss, rfl, _⟩ := h
    rfl
  · obtain ⟨l, ps, ss, rfl, hl, hA, few, h⟩ := h
    refine ⟨_, (pss_one (ps_ret (pe_makeLS (i := 0) MB FB hr rfl (.inl rfl) (passes_of (takes_of rfl rfl rfl rfl)) (pv 1)))), ?_⟩
    exact ⟨rfl, _, rfl, l, _, rfl, hl.symm, fun o dx no nd ne => binit_of no nd ne hA few h⟩
/-! ### Book.rules -/
abbrev sBookRules : Stmt := inClass (top 50) 2
theorem scBookRules : FnScope ["self"] ["self"] (defScope sBookRules) := ⟨rfl, rfl, rfl, by decide +kernel, rfl, by decide +kernel, by decide +kernel⟩
theorem ok_brules {f CB : Addr} {fd : FuncData} (F : Fun K "rules" "Book.rules" sBookRules f fd) (TB : BTxt K mg CB) : FnOk P w K mg base CX0 1 f fd ["self"] (spGet CB nRules) := by
  refine F.ok scBookRules (fun vs H Q E h => ?_) (fun cdv A outer s0 H vs Q E hr h => ?_)
  · obtain ⟨p, dx, fs, v, rfl, _⟩ := h
    rfl
  · obtain ⟨p, dx, fs, v, rfl, hp, l, q⟩ := h
    exact ⟨_, pss_one (ps_ret (pe_fld (pv 0) rfl)), _, rfl, p, CB, dx, fs, v, rfl, hp, TB.cl, TB.nR, l, q⟩
/-! ### Book.text: slots self 0, rule 1 -/
abbrev sBookText : Stmt := inClass (top 50) 25
theorem scBookText : FnScope ["self", "rule"] ["self"] (defScope sBookText) := ⟨rfl, rfl, rfl, by decide +kernel, rfl, by decide +kernel, by decide +kernel⟩
def spBText (K : Frag) (C CB : Addr) : Sp := fun vs H Q _ => ∃ (b t : Addr) (ps : List Addr) (ss : List Said), vs = [.ref b] ∧ BookAt K C CB H b t ps ss ∧ ss.length ≤ 1000 ∧ ∀ H', Same H H' → Q (.str (Txt.join nl (ss.map textS))) H'
theorem ok_btext {f fT C CB : Addr} {fd fdT : FuncData} (F : Fun K "text" "Book.text" sBookText f fd) (T : RTxt K mg C) (TB : BTxt K mg CB) (mT : Meth K C "text" fT) (gT : FnOk P w K mg base CX0 4 fT fdT ["self"] (spRTextX K C)) (bT : Binds K fdT ["self"] []) : FnOk P w K mg base CX0 5 f fd ["self"] (spBText K C CB) := by
  refine F.ok scBookText (fun vs H Q E h => ?_) (fun cdv A outer s0 H vs Q E hr h => ?_)
  · obtain ⟨b, t, ps, ss, rfl, _⟩ := h
    rfl
  · obtain ⟨b, t, ps, ss, rfl, ⟨⟨dx, hb⟩, ht, hA⟩, few, q⟩ := h
    refine ⟨_, (pss_one (ps_ret (pe_join pe_str (pe_lc (own := [("rule", 1)]) (g := gName 1) (tt := tYes) rfl scBookText.nd (pi_seq (pe_fld (pv 0) rfl))
          (blkOk_by (own := [("rule", 1)]) (N := ["self", "rule"]) (sc := defScope sBookText) (by decide +kernel))
          (fun _ _ _ _ _ => (pg_name (i := 1) scBookText.nd rfl (Or.inl rfl))) (fun _ _ _ _ _ => pts_nil)
          (fun _ _ _ _ _ => (pe_meth0 (pv 1) T.cl mT gT hr bT .nil pass0)))))), ?_⟩
    refine ⟨⟨_, rfl⟩, _, rfl, b, CB, dx, _, _, rfl, hb, TB.cl, TB.nR, rfl, ?_⟩
    refine seq_opt (.inr ht) (by rw [List.length_map, hA.1]; omega) (fun i => ss[i]?.bind fun s => some (V.str (textS s))) ?hw (fun i x hx G sG => ?_) fun D H1 nD hD s1 => ?_
    case hw => intro _; rfl
    · obtain ⟨p, s, rfl, hp, hs, hS, hok⟩ := (hA.same sG).get hx
      refine ⟨fun R hR => no_test fun H' s' => by have := hR H' s'; rw [hs] at this; exact this, fun y hy G2 s2 R hR => ?_⟩
      rw [hs] at hy
      cases hy
      have hS2 := hS.same s2
      obtain ⟨dx', tP, tW, tK, gV, ws, hp', _⟩ := hS2.ex
      exact ⟨_, rfl, p, dx', _, rfl, hp', rfl, p, s.1, .tuple s.2.1, goalSD s.2.2.1, s.2.2.2, rfl, hS2, hok.1, hok.2.1, by show s.2.1.length ≤ 4; have := hok.2.2.1; omega, hok.2.2.2, fun H' s' => hR H' s'⟩
    rw [rules_fm hA] at hD
    have e1 : ss.filterMap (fun s => some (V.str (textS s))) = (ss.map textS).map V.str := by
      rw [List.filterMap_eq_map', List.map_map]
      rfl
    rw [e1] at hD
    refine ⟨_, D, ss.map textS, rfl, rfl, .inl (.inl (.inl hD)), ?_, q H1 s1⟩
    have sm : ((ss.map textS).map (fun x => x.length)).sum ≤ 82 * ss.length := by
      rw [List.map_map]
      exact sum_le fun s hs => text_len (hA.oks s hs)
    have l1 : nl.length = 1 := by decide +kernel
    show _ + _ * nl.length ≤ _
    rw [l1]
    refine Nat.le_trans (m := 100000) ?_ (by show 100000 ≤ sizeLine; decide)
    rw [List.length_map]
    omega
/-! ### Book.__eq__: slots self 0, other 1 -/
abbrev sBookEq : Stmt := inClass (top 50) 17
theorem scBookEq : FnScope ["self", "other"] ["self", "other"] (defScope sBookEq) := ⟨rfl, rfl, rfl, by decide +kernel, rfl, by decide +kernel, by decide +kernel⟩
/-- whether two lists of rules are equal, item by item -/
def eqB (ps qs : List Addr) (ss rs : List Said) : Bool := (List.range (min ps.length qs.length)).all (fun j => decide (ps[j]? = qs[j]?) || eqS ss[j]? rs[j]?) && decide (ps.length = qs.length)
def spBEq (K : Frag) (C CB : Addr) : Sp := fun vs H Q _ => ∃ (b c t u : Addr) (ps qs : List Addr) (ss rs : List Said), vs = [.ref b, .ref c] ∧ BookAt K C CB H b t ps ss ∧ BookAt K C CB H c u qs rs ∧ Q (.bl (eqB ps qs ss rs)) H
theorem RuleS.ins {C p : Addr} {H : Hp} {s : Said} (h : RuleS K C H p s) : ∃ dx fs, H p = some (.ins C dx fs) := by
  obtain ⟨dx, _, _, _, _, _, hp, _⟩ := h.ex
  exact ⟨dx, _, hp⟩
theorem keyS_ok {s : Said} (ok : okS s) : okD 9 (keyD s.1 (.tuple s.2.1) (goalSD s.2.2.1) s.2.2.2) = true := by
  refine (ok_seq (n := 8) (by show 4 ≤ 1000; decide) fun e he => ?_).2
  simp only [List.mem_cons, List.not_mem_nil, or_false] at he
  rcases he with rfl | rfl | rfl | rfl
  · exact word_okN ok.1
  · exact ok_long (n := 7) (by show s.2.1.length ≤ 4002; have := ok.2.2.1; omega) ok.2.1
  · rcases goal_parts ok.2.2.2 with e | ⟨y, b, e, gy, gb⟩
    · rw [e]
      show okD 8 .none = true
      rw [okD]
    · obtain ⟨_, b2, b3⟩ := areEnt_parts gb
      rw [e]
      refine (ok_seq (n := 7) (by show 2 ≤ 1000; decide) fun e he => ?_).2
      simp only [List.mem_cons, List.not_mem_nil, or_false] at he
      rcases he with rfl | rfl
      · exact word_okN gy
      · exact ok_long (n := 6) (by omega) b3
  · rw [okD]
theorem keyS_sh {s : Said} (ok : okS s) : SeqAt.shaped (keyD s.1 (.tuple s.2.1) (goalSD s.2.2.1) s.2.2.2) = true := ok_shaped (keyS_ok ok) (by decide)
theorem begS_all {s : Said} (ok : okS s) : (begD (goalSD s.2.2.1)).all isEntD = true := by
  rcases goal_parts ok.2.2.2 with e | ⟨y, b, e, gy, gb⟩
  · rw [e]
    rfl
  · rw [e]
    exact (areEnt_parts gb).2.2
theorem eqB_same {C : Addr} {H : Hp} {ps qs : List Addr} {ss : List Said} (h1 : RulesAt K C H ps ss) (h2 : RulesAt K C H qs ss) : eqB ps qs ss ss = true := by
  unfold eqB
  rw [Bool.and_eq_true]
  refine ⟨List.all_eq_true.mpr fun j hj => ?_, decide_eq_true (h1.1.trans h2.1.symm)⟩
  have hj' : j < ss.length := by
    have := List.mem_range.mp hj
    have := h1.1
    omega
  rw [List.getElem?_eq_getElem hj']
  have : eqS (some ss[j]) (some ss[j]) = true := SeqAt.eqv_refl _ (ok_lay (keyS_ok (h1.oks _ (List.getElem_mem hj')))).1
  rw [this, Bool.or_true]
theorem ok_beq {f fE C CB : Addr} {fd fdE : FuncData} (F : Fun K "__eq__" "Book.__eq__" sBookEq f fd) (TB : BTxt K mg CB) (WB : AOwn K CB) (B : Blt mg) (gE : FnOk P w K mg base CX0 1 fE fdE ["self", "other"] (spREq K C)) (bE : Binds K fdE ["self", "other"] [])
    (aE : PySem.W.findIn K (.ref C) "__eq__" = some (some (.ref fE))) (iE : PySem.W.isFn K (.ref fE) = true) : FnOk P w K mg base CX0 3 f fd ["self", "other"] (spBEq K C CB) := by
  refine F.ok scBookEq (fun vs H Q E h => ?_) (fun cdv A outer s0 H vs Q E hr h => ?_)
  · obtain ⟨b, c, t, u, ps, qs, ss, rs, rfl, _⟩ := h
    rfl
  · obtain ⟨b, c, t, u, ps, qs, ss, rs, rfl, ⟨⟨dx, hb⟩, ht, hA⟩, ⟨⟨dy, hc⟩, hu, hA2⟩, q⟩ := h
    refine ⟨_, pss_cons (ps_if (pt_not (pt_val (pe_callB (call_isI WB) (by rfl) B.isinstance_ (by decide +kernel) (pa_cons (pv 1) (pa_cons (pe_glob (v := .ref CB) (by rfl) TB.mgC rfl) pa_nil))))) (pss_one ps_dead) pss_nil)
      (pss_one (ps_ret (pe_cmpR (op_eqIs aE iE gE bE (hr.mono (by decide))) (pe_fld (pv 0) rfl) (pe_fld (pv 1) rfl) (nomark _)))), ?_⟩
    refine ⟨_, rfl, c, dy, _, rfl, hc, _, rfl, iteF ⟨_, rfl, b, CB, dx, _, _, rfl, hb, TB.cl, TB.nR, rfl, _, rfl, c, CB, dy, _, _, rfl, hc, TB.cl, TB.nR, rfl, t, u, ps, qs, fun j => eqS ss[j]? rs[j]?, rfl, rfl, ht, hu, fun p hp => ?_, fun p hp => ?_, fun j p p2 e1 e2 => ?_, q⟩⟩
    · obtain ⟨i, hi, rfl⟩ := List.getElem_of_mem hp
      have hs : i < ss.length := by rw [← hA.1]; exact hi
      exact (hA.2 i _ _ (List.getElem?_eq_getElem hi) (List.getElem?_eq_getElem hs)).1.ins
    · obtain ⟨i, hi, rfl⟩ := List.getElem_of_mem hp
      have hs : i < rs.length := by rw [← hA2.1]; exact hi
      exact (hA2.2 i _ _ (List.getElem?_eq_getElem hi) (List.getElem?_eq_getElem hs)).1.ins
    · have i1 : j < ps.length := by
        rcases Nat.lt_or_ge j ps.length with h | h
        · exact h
        · rw [List.getElem?_eq_none h] at e1; cases e1
      have i2 : j < qs.length := by
        rcases Nat.lt_or_ge j qs.length with h | h
        · exact h
        · rw [List.getElem?_eq_none h] at e2; cases e2
      have j1 : j < ss.length := by rw [← hA.1]; exact i1
      have j2 : j < rs.length := by rw [← hA2.1]; exact i2
      have s1 := List.getElem?_eq_getElem j1
      have s2 := List.getElem?_eq_getElem j2
      obtain ⟨r1, o1⟩ := hA.2 j p _ e1 s1
      obtain ⟨r2, o2⟩ := hA2.2 j p2 _ e2 s2
      refine ⟨p, p2, _, _, _, _, _, _, _, _, rfl, r1, r2, o1.2.1, begS_all o1, o2.2.1, begS_all o2, keyS_sh o1, keyS_sh o2, rfl, ?_⟩
      show V.bl _ = V.bl (eqS ss[j]? rs[j]?)
      rw [s1, s2]
      rfl
end
end RL

/-! A comprehension of one clause whose element may raise: the exception passes on to the def. -/
namespace LR
open PySem PySem.Spec PyProof.Rows L2
/-- noting looks at an env's frame alone -/
theorem note_as {v : Value} {e1 e2 : Env} (h : e1.frame = e2.frame) : noteFrame v e1 = noteFrame v e2 := by
  unfold noteFrame PySem.frameOf
  rw [h]
/-- the loop's post, with the env it ran in -/
def postF (Mo : Model) (Ar : Around) (Er : Value → Shared → Prop) (use : Option (Value → Sem Unit)) (Qf : Value → Shared → Prop) (acc : Value) (ce : Env) (r : Result) (t : Shared) : Prop :=
  match r, use with
  | .ok _, none => ∃ m, t.heap.Ns ce.locals m ∧ ∀ g, Heap.SameBut ce.locals t.heap g → Qf acc { t with heap := g }
  | .ok _, some u => wpAny Mo Ar (u acc) (fun _ t2 => ∃ m, t2.heap.Ns ce.locals m ∧ ∀ g, Heap.SameBut ce.locals t2.heap g → Qf .none { t2 with heap := g }) Er t
  | .error x, _ => ∃ m, t.heap.Ns ce.locals m ∧ ∀ g, Heap.SameBut ce.locals t.heap g → ∀ c2 : Env, c2.locals = ce.locals → c2.frame = ce.frame → wpAny Mo Ar (passOn "comprehension.variables-let-go" x c2 : Sem Value) (fun _ _ => False) Er { t with heap := g }
theorem comp_run {Mo : Model} {Ar : Around} {Er : Value → Shared → Prop} {t : Shared} {ev : Env} {e : Expr} {scope : Scope} {pos : Pos} {mkAcc first : Sem Value} {cl1 : Comprehension} {cls : List Comprehension} {cap : List (Str × Addr)} {use : Option (Value → Sem Unit)} {Qf : Value → Shared → Prop}
    (c1 : clausesOf e = cl1 :: cls) (c2 : ∀ x, foldedSetIterable cl1.iter ev x = pure x) (c3 : closureFor scope ev = pure cap) (c4 : scope.kind = .function) (c5 : ∀ x ∈ scope.names, x.2 = .local → scope.names.lookup x.1 = some .local)
    (go : wpAny Mo Ar first (fun x t1 => wpAny Mo Ar (pyIter x) (fun it t2 => wpAny Mo Ar mkAcc (fun acc t3 => wpAny Mo Ar (newFunctionEnv scope ev.globals cap [] ev.qual none .none (some ev))
      (fun ce t4 => codeAny Mo Ar (.compStart e 0 it acc { ce with scope := relabel scope ev }) (postF Mo Ar Er use Qf acc ce) t4) Er t3) Er t2) Er t1) Er t) :
    wpAny Mo Ar (comprehension e scope ev pos mkAcc false first use) Qf Er t := by
  unfold comprehension
  rw [c3, c1]
  have keepE : ∀ {u : Value} {r : Shared}, Er u r → Er u r := fun z => z
  refine wpAny_bind (wpAny_mono go (fun x t1 h1 => ?_) fun _ _ z => z)
  refine wpAny_bind (wpAny_standAt (wpAny_bind (wpAny_of_eq (c2 x) (wpAny_bind (wpAny_holding (wpAny_mono h1 (fun it t2 h2 => ?_) fun _ _ z => z))))))
  refine wpAny_standIf (wpAny_bind (wpAny_mono h2 (fun acc t3 h3 => ?_) fun _ _ z => z))
  refine wpAny_bind (wpAny_pure (wpAny_bind (wpAny_mono h3 (fun ce t4 h4 => ?_) fun _ _ z => z)))
  dsimp only
  have seen : ∀ y ∈ (scope.names.filter fun y => (y.2 == .local || y.2 == .cell) && y.1 != (".0" : Str)).reverse, y.2 = .local → Env.kindOf { ce with scope := relabel scope ev } y.1 = some .local :=
    fun y hy hl => lookup_relabel_local (c5 y (List.mem_filter.mp (List.mem_reverse.mp hy)).1 hl)
  refine wpAny_holding (wpAny_bind (wpAny_attempt (wpAny_holding (wpAny_run (codeAny_mono h4 fun r t5 h5 => ?_)))))
  cases r with
  | ok fl =>
    cases use with
    | none =>
      obtain ⟨m, ns, k⟩ := h5
      exact wpAny_bind (wpAny_holding (wpAny_comp_letGo (cenv := { ce with scope := relabel scope ev }) c4 _ t5 m seen ns fun g m' _ sb => wpAny_pure (k g sb)))
    | some u =>
      refine wpAny_bind (wpAny_rule (wpAny_bind (wpAny_holding (wpAny_mono h5 (fun _ t6 h6 => ?_) fun _ _ z => z))))
      obtain ⟨m, ns, k⟩ := h6
      refine wpAny_bind (wpAny_comp_letGo (cenv := { ce with scope := relabel scope ev }) c4 _ t6 m (fun y hy hl => ?_) ns fun g m' _ sb => wpAny_pure (k g sb))
      rcases List.mem_append.mp hy with z | z
      · exact seen y (List.mem_of_mem_drop z) hl
      · exact seen y (List.mem_of_mem_take z) hl
  | error x =>
    have h6 : ∃ m, t5.heap.Ns ce.locals m ∧ ∀ g, Heap.SameBut ce.locals t5.heap g → ∀ c2 : Env, c2.locals = ce.locals → c2.frame = ce.frame → wpAny Mo Ar (passOn "comprehension.variables-let-go" x c2 : Sem Value) (fun _ _ => False) Er { t5 with heap := g } := by cases use <;> exact h5
    obtain ⟨m, ns, k⟩ := h6
    exact wpAny_bind (wpAny_holding (wpAny_comp_letGo (cenv := { ce with scope := relabel scope ev }) c4 _ t5 m seen ns fun g m' _ sb => wpAny_mono (k g sb _ rfl rfl) (fun _ _ z => z.elim) fun _ _ z => z))
/-- frames stay where another object changes -/
theorem frames_but {h g base : Heap} {C : Addr} (nb : base.get? C ≠ none) (sb : ∀ b, b ≠ C → g.get? b = h.get? b) : ∀ {l : List Env}, h.FunFrames base l → g.FunFrames base l
  | [], _ => trivial
  | _ :: _, ⟨k1, ⟨L, o, k2, k3, k4, k5⟩, r⟩ => ⟨k1, ⟨L, o, k2, k3, (sb L fun e => nb (by rw [← e]; exact k3)).trans k4, k5⟩, frames_but nb sb r⟩
section
variable {X : Cx} {W : WX} {E : XK}
/-- what comes out of a call, in flight: the state without it, and its ground -/
theorem air_of_call {pins : List (Addr × Obj)} {σ : L2.St} {H : Hp} {t t' : Shared} {u : Value} (I : Inv X pins σ H t) (c : CX X.prog X.w X.stack H t E u t') :
    ∃ (a : Addr) (B : Heap) (tI : Shared) (H' : Hp) (cls : Value) (d : Option Addr), u = .ref a ∧ Inv X pins σ H' tI ∧ (∀ b o, tI.heap.get? b = some o → b ∉ frs X.stack → B.get? b = some o) ∧ tI.heap.UpToSlots t'.heap ∧
      HandSPX.FlyingZ B X.stack a (Zc cls d) t'.heap ∧ H' a = none ∧ t'.os = tI.os ∧ AllBare t'.gens ∧ E cls d H' := by
  obtain ⟨a, B, H', cls, d, rfl, fl, hok, ub, na, os, ag, hE⟩ := c
  obtain ⟨G, g1, g2⟩ := restrict t'.heap fun b => (B.get? b).isSome || decide (b ∈ frs X.stack)
  have inB : ∀ b o, B.get? b = some o → G.get? b = some o := fun b o z => (g1 b (by simp [z])).trans (fl.1 b o z)
  have onS : ∀ b, b ∈ frs X.stack → G.get? b = t'.heap.get? b := fun b hb => g1 b (by simp [hb])
  have out : ∀ b o, G.get? b = some o → t'.heap.get? b = some o ∧ ((B.get? b).isSome = true ∨ b ∈ frs X.stack) := fun b o z => by
    cases q : ((B.get? b).isSome || decide (b ∈ frs X.stack)) with
    | false => rw [g2 b q] at z; cases z
    | true => rw [g1 b q] at z; exact ⟨z, by simpa [Bool.or_eq_true] using q⟩
  refine ⟨a, B, { t with heap := G, gens := t'.gens, drawn := t'.drawn, toks := t'.toks }, H', cls, d, rfl, ?_, fun b o z nb => ?_, Heap.UpToSlots.of_keeps fun b o z => (out b o z).1, fl, na, os, ag, hE⟩
  · refine I.call (ch := []) ⟨fun b o z n nb _ => inB b o (ub.keep b o z n nb), fun b o z n nb _ => ?_, fun b o z n _ => ub.free b o z n, fun b o z _ => ?_, ub.tups, ub.frzs, ub.tbls⟩ (hok.kept inB) ag (fun _ z => nomatch z)
    · obtain ⟨sl, q⟩ := ub.slot b o z nb
      exact ⟨sl, (onS b nb).trans q⟩
    · by_cases nb : b ∈ frs X.stack
      · obtain ⟨sl, q⟩ := ub.slot b o z nb
        exact ⟨_, (onS b nb).trans q⟩
      · obtain ⟨o', q⟩ := ub.there b o z nb
        exact ⟨o', inB b o' q⟩
  · obtain ⟨z1, z2⟩ := out b o z
    rcases z2 with z2 | z2
    · obtain ⟨o', q⟩ := Option.isSome_iff_exists.mp z2
      have k := fl.1 b o' q
      rw [z1] at k
      cases k
      exact q
    · exact absurd z2 nb
/-- what comes out of a call within the block passes on to the def -/
theorem block_passes {scope : Scope} {cap : List (Str × Addr)} {fp : List Addr} {pins : List (Addr × Obj)} {σ : L2.St} {H3 : Hp} {t3 : Shared} {use : Option (Value → Sem Unit)} {Qf : Value → Shared → Prop} {acc : Value} (tk : Takes X W) (hW : ∀ cls d H, E cls d H → W cls d σ H) (st : X.stack = X.env :: X.outer) (fr : X.env.frame = some X.env.locals)
    (I3 : Inv X pins σ H3 t3) (f3 : ∀ b ∈ fp, FpOk X pins H3 b ∧ b < t3.heap.objs.size) :
    Passes (CX X.prog X.w) ((X.blk t3 H3 scope (compEnvC scope cap t3.heap.objs.size X.env) fp).wish fun e t => notedBy (model X.prog X.w) X.A (compEnvC scope cap t3.heap.objs.size X.env) (fun e t => postF (model X.prog X.w) X.A X.xe use Qf acc (compEnvC scope cap t3.heap.objs.size X.env) (.error e) t) e t) E := by
  intro pb σb Hb tb e t' Ib c
  obtain ⟨a, B, tI, H', cls, d, rfl, I1, nb, up, fl, na, os, ag, w⟩ := air_of_call Ib c
  have I1u := I1.unwish
  have hfr : X.A.frames = some (X.env :: X.outer) := by rw [← st]; exact I3.ok.frames
  have nC : H' t3.heap.objs.size = none := I1u.free
  have I7 : Inv X pins σ H' tI := I3.call' (ch := fp) I1u.os I1u.base I1u.hok I1u.bare fun b hb => ⟨(f3 b hb).1.2.2.2.1, (f3 b hb).1.2.1, (f3 b hb).1.2.2.2.2.1, (f3 b hb).1.2.2.2.2.2⟩
  obtain ⟨m, ns, _⟩ := I1u.loc
  have ns : tI.heap.Ns t3.heap.objs.size m := ns
  have apart : t3.heap.objs.size ∉ frs X.stack := fun hm => by
    obtain ⟨_, o, ho, _⟩ := I3.stack.mem hm
    exact absurd (Heap.lt_size ho) (Nat.lt_irrefl _)
  have inC : ∃ o, B.get? t3.heap.objs.size = some o := by
    obtain ⟨o, _, _, ho, _⟩ := ns
    exact ⟨o, nb _ o ho apart⟩
  obtain ⟨oC, hoC⟩ := inC
  have bC : B.get? t3.heap.objs.size ≠ none := by rw [hoC]; exact fun z => by cases z
  generalize hC : t3.heap.objs.size = C at *
  show wpAny _ _ (noteFrame (.ref a) (compEnvC scope cap C X.env)) _ _ _
  rw [note_as (show (compEnvC scope cap C X.env).frame = X.env.frame from rfl)]
  refine HandSPX.looks_onZ Zc.steady hfr fr (by rw [← st]; exact fl) fun h1 held up1 => ?_
  obtain ⟨k1, k2, k3, oe, vs, T, oT, ts, k4, k5, k6, k7, k8, k9, k10, k11, k12⟩ := held
  have ns1 : h1.Ns C m := ns.at fun o ho => k1 C o (nb C o ho apart)
  have aC : a ≠ C := fun z => bC (by rw [← z]; exact k2)
  have TC : T ≠ C := fun z => bC (by rw [← z]; exact k8)
  show ∃ m, h1.Ns C m ∧ _
  refine ⟨m, ns1, fun g sb c2 e1 e2 => ?_⟩
  have e2' : c2.frame = some X.env.locals := e2.trans fr
  have hid : ∀ {b : Addr} {o : Obj}, (B.hide C).get? b = some o → b ≠ C ∧ B.get? b = some o := fun {b o} z => ⟨(fun q => by rw [q, Heap.hide_self] at z; cases z), Heap.of_hide z⟩
  have hno : ∀ {b : Addr}, B.get? b = none → (B.hide C).get? b = none := fun {b} z => by
    cases q : (B.hide C).get? b with
    | none => rfl
    | some o => rw [(hid q).2] at z; cases z
  have heldg : HandSPX.HeldZ (B.hide C) (X.env :: X.outer) a (Zc cls d) X.env.locals g := by
    refine ⟨fun b o z => (sb.2 b (hid z).1).trans (k1 b o (hid z).2), hno k2, ?_, oe, vs, T, oT, ts, (sb.2 a aC).trans k4, k5, k6, k7, hno k8, k9, (sb.2 T TC).trans k10, k11, k12⟩
    refine funFrames_none (frames_but bC (fun b n => sb.2 b n) k3) fun L hL => hno ?_
    exact (k3.mem hL).1
  unfold PySem.passOn
  refine wpAny_bind (wpAny_field (show g.get? a = some oe from (sb.2 a aC).trans k4) k6 k7 ?_)
  rw [if_neg (by simp)]
  rw [e2']
  refine wpAny_bind (HandSPX.setFlight_onZ (s := { t' with heap := g }) heldg fun h2 held2 up2 => wpAny_throw ?_)
  have f := I3.fpOk (b := C) (by rw [hC]; exact Nat.le_refl _) nC
  obtain ⟨f0, f1, f2, f4, f5, f6⟩ := f
  refine tk _ _ ⟨a, B.hide C, { tI with heap := tI.heap.hide C }, pins, σ, H', cls, d, rfl, I7.turned (t' := tI.toks) (fun b o n z => (Heap.hide_ne _ n).trans z) f0 f1 f4 f5 f6, fun b o z n => ?_, fun b o z n => ?_, .inr (.inr ?_), na, os, ag, hW _ _ _ w⟩
  · have zb : b ≠ C := fun q => by rw [q, Heap.hide_self] at z; cases z
    exact (Heap.hide_ne _ zb).trans (nb b o (Heap.of_hide z) n)
  · have zb : b ≠ C := fun q => by rw [q, Heap.hide_self] at z; cases z
    obtain ⟨s1, q1⟩ := up b o (Heap.of_hide z) n
    obtain ⟨s2, q2⟩ := up1 b _ q1 n
    obtain ⟨s3, q3⟩ := up2 b _ ((sb.2 b zb).trans q2) n
    exact ⟨s3, q3⟩
  · rw [st]
    exact held2
/-- [e for x in xs if ..], whose element may raise -/
theorem lcR_core {pins : List (Addr × Obj)} {t : Shared} {σ : L2.St} {H : Hp} {Q : VK} {elt tg iter : Expr} {ifs : List Expr} {scope : Scope} {own : List (Str × Nat)} {pos pos' : Pos} {wi : TI} {g : TG} {tt : TT} {te : TE} {use : Option (Value → Sem Unit)} {Qf : Value → Shared → Prop}
    (tk : Takes X W) (hW : ∀ cls d H, E cls d H → W cls d σ H) (st : X.stack = X.env :: X.outer) (fr : X.env.frame = some X.env.locals) (hc : X.calm = true) (hN : X.N.Nodup) (I : Inv X pins σ H t) (hi : PI X tg iter wi) (ok : BlkOk X.N X.env.scope scope own)
    (hg : ∀ (t : Shared) (H : Hp) (C : Addr) (cl : List (Str × Addr)) (fp : List Addr), PG (X.blk t H scope (compEnvC scope cl C X.env) fp) tg g) (ht : ∀ (t : Shared) (H : Hp) (C : Addr) (cl : List (Str × Addr)) (fp : List Addr), PTs (X.blk t H scope (compEnvC scope cl C X.env) fp) ifs tt)
    (he : ∀ (t : Shared) (H : Hp) (C : Addr) (cl : List (Str × Addr)) (fp : List Addr) (xe : Value → Shared → Prop), Passes (CX X.prog X.w) ((X.blk t H scope (compEnvC scope cl C X.env) fp).wish xe) E → PE ((X.blk t H scope (compEnvC scope cl C X.env) fp).wish xe) elt te) (hs : ∀ x, foldedSetIterable iter X.env x = pure x)
    (h : tLc wi g tt te (own.map (·.2)) σ H Q)
    (hRR : ∀ D C s' m H', Inv X pins σ H' s' → Q (.ref D) H' → s'.heap.Ns C m → FpOk X pins H' C → ∀ ce : Env, ce.locals = C → postF (model X.prog X.w) X.A X.xe use Qf (.ref D) ce (.ok .next) s') :
    wpAny (model X.prog X.w) X.A (comprehension (.ListComp elt [⟨tg, iter, ifs, 0⟩] scope pos) scope X.env pos' (newList []) false (eval iter X.env) use) Qf X.xe t := by
  have caps : ∀ y ∈ scope.names, y.2 = .free → ∃ c, X.env.cells.lookup y.1 = some c := fun y hy e => (ok.free y hy e).elim (fun k => I.ok.has _ (.inl k)) fun k => I.ok.has _ (.inr k)
  refine comp_run (use := use) rfl hs (closure_ok caps) ok.kind (fun y hy e => by rw [ok.uniq y hy, e]) (thn (hi.run pins t σ H _ I h) fun xv t1 hx => thn hx fun itv t2 h2 => ?_)
  obtain ⟨it, fp, tn, J, H2, rfl, I2, T, st2, f2, q⟩ := h2
  refine wpAny_newObj_type (newEnv_comp ?_) (by show 0 ≤ sizeLine; decide)
  generalize hD : t2.heap.objs.size = D
  have freeD : H2 D = none := I2.hok.fresh (Nat.le_of_eq hD)
  obtain ⟨W1, ⟨m0, w0⟩, turn⟩ := q D freeD
  generalize e3 : ({ t2 with heap := t2.heap.push { cls := .type "list", data := .seq ([] : List Value).toArray } } : Shared) = t3
  have h3 : t3.heap = t2.heap.push { cls := .type "list", data := .seq ([] : List Value).toArray } := by rw [← e3]
  have I3 : Inv X pins σ (upd H2 D (.lst [])) t3 := by
    subst e3 hD
    exact I2.laid (t' := t2.toks) (fun b o z => Heap.get?_push_of_some _ z) (Nat.le_refl _) ⟨Nat.zero_le _, [], 0, .nil, Heap.get?_push_size _ rfl⟩
  have f3 : ∀ b ∈ fp, FpOk X pins (upd H2 D (.lst [])) b ∧ b < t3.heap.objs.size := fun b hb => by
    obtain ⟨o, z, _⟩ := T.obj _ _ st2 b hb
    have lt := Heap.lt_size z
    refine ⟨⟨(upd_ne (by rw [← hD]; exact Nat.ne_of_lt lt)).trans (f2 b hb).1, (f2 b hb).2⟩, ?_⟩
    rw [h3, Heap.size_push]
    exact Nat.lt_succ_of_lt lt
  have st3 : tn 0 t3.heap := T.keep _ _ _ st2 fun b _ o z => by rw [h3]; exact Heap.get?_push_of_some _ z
  have I4 := block_start I3 ok hN f3
  have nfp : ∀ b ∈ fp, (upd H2 D (.lst [])) b = none := fun b hb => (f3 b hb).1.1
  have pass := block_passes (scope := scope) (cap := cellsFrom (t3.heap.objs.size + 1) scope.names (cloFrom X.env.cells scope.names [])) (use := use) (Qf := Qf) (acc := .ref D) tk hW st fr I3 f3
  have pg := hg t3 (upd H2 D (.lst [])) t3.heap.objs.size (cellsFrom (t3.heap.objs.size + 1) scope.names (cloFrom X.env.cells scope.names [])) fp
  have pt := ht t3 (upd H2 D (.lst [])) t3.heap.objs.size (cellsFrom (t3.heap.objs.size + 1) scope.names (cloFrom X.env.cells scope.names [])) fp
  have pe := he t3 (upd H2 D (.lst [])) t3.heap.objs.size (cellsFrom (t3.heap.objs.size + 1) scope.names (cloFrom X.env.cells scope.names [])) fp _ pass
  show codeAny _ _ (.compStart (.ListComp elt [⟨tg, iter, ifs, 0⟩] scope pos) 0 (.ref it) (.ref D) (compEnvC scope (cellsFrom (t3.heap.objs.size + 1) scope.names (cloFrom X.env.cells scope.names [])) t3.heap.objs.size X.env)) (postF (model X.prog X.w) X.A X.xe use Qf (.ref D) (compEnvC scope (cellsFrom (t3.heap.objs.size + 1) scope.names (cloFrom X.env.cells scope.names [])) t3.heap.objs.size X.env)) { t3 with heap := pushCells (t3.heap.push { cls := .type "dict", data := .dict #[] }) scope.names }
  clear pass
  generalize hce : compEnvC scope (cellsFrom (t3.heap.objs.size + 1) scope.names (cloFrom X.env.cells scope.names [])) t3.heap.objs.size X.env = ce at I4 pg pt pe ⊢
  have cL : ce.locals = t3.heap.objs.size := by rw [← hce]; rfl
  generalize hH3 : upd H2 D (.lst []) = H3 at I3 I4 pg pt pe w0 nfp f3
  generalize e4 : ({ t3 with heap := pushCells (t3.heap.push { cls := .type "dict", data := .dict #[] }) scope.names } : Shared) = t4 at I4 ⊢
  have st4 : tn 0 t4.heap := T.keep _ _ _ st3 fun b _ o z => by rw [← e4]; exact pushCells_keeps _ _ _ _ (Heap.get?_push_of_some _ z)
  have still : ∀ {σ' : L2.St} {H' : Hp} {s' : Shared}, Inv (X.blk t3 H3 scope ce fp) [] σ' H' s' → (∀ b ∈ fp, H' b = none) → ∀ b ∈ fp, FpOk (X.blk t3 H3 scope ce fp) [] H' b := fun {σ' H' s'} J' n b hb =>
    ⟨n b hb, (J'.ok.exf b hb).1, J'.ok.exfs b hb, .inl hb, fun x c z => (J'.ok.exf b hb).2 x c z, fun p hp => absurd (show p ∈ ([] : List (Addr × Obj)) ++ [] from hp) (by simp)⟩
  have loop : codeAny (model X.prog X.w) X.A (.compLoop (.ListComp elt [⟨tg, iter, ifs, 0⟩] scope pos) 0 (.ref it) (.ref D) ce) (postF (model X.prog X.w) X.A X.xe use Qf (.ref D) ce) t4 := by
    refine compLoop_any (fun n r => ∃ i H', Inv (X.blk t3 H3 scope ce fp) [] (wipe σ (own.map (·.2))) H' r ∧ tn i r.heap ∧ (∀ b ∈ fp, H' b = none) ∧ W1 i n H') ?_ m0 ⟨0, H3, I4, st4, nfp, w0⟩
    rintro n t5 ⟨i, H5, I5, st5, n5, w5⟩
    rcases turn i n H5 w5 with ⟨stop, qq⟩ | ⟨go, Nx, less, step⟩
    · refine thnF (T.done (X.blk t3 H3 scope ce fp) rfl rfl rfl hc i [] t5 _ H5 (fun _ _ => False) I5 (still I5 n5) st5 stop) fun r t6 ⟨hr, I6⟩ => ?_
      subst hr
      have I7 : Inv X pins σ H5 t6 := I3.call' (ch := fp) I6.os I6.base I6.hok I6.bare fun b hb => ⟨(f3 b hb).1.2.2.2.1, (f3 b hb).1.2.1, (f3 b hb).1.2.2.2.2.1, (f3 b hb).1.2.2.2.2.2⟩
      have nC : H5 t3.heap.objs.size = none := (congrArg H5 cL).symm.trans I6.free
      obtain ⟨m, ns, _⟩ := I6.loc
      have ns : t6.heap.Ns ce.locals m := ns
      exact hRR D ce.locals t6 m H5 I7 qq ns (by rw [cL]; exact I3.fpOk (Nat.le_refl _) nC) ce rfl
    · refine thnF (T.item (X.blk t3 H3 scope ce fp) rfl rfl rfl hc i [] t5 _ H5 (fun _ _ => False) I5 (still I5 n5) st5 go) fun r t6 ⟨u, hr, h6⟩ => ?_
      subst hr
      refine thnF h6 fun _ t7 ⟨x, H7, I7, r7, y7, st7, n7⟩ => ?_
      have J7 := I7.pinned (still I7 n7) (T.obj _ _ st7)
      refine thnF (pg.run _ t7 _ H7 x u _ J7 r7 (step x H7 y7)) fun _ t8 ⟨σ8, H8, I8, hw8, q8⟩ => ?_
      refine thnF (pt.run _ t8 σ8 H8 _ I8 q8) fun b t9 ⟨H9, I9, q9⟩ => ?_
      have onward : ∀ {s' : Shared} {H' : Hp}, Inv (X.blk t3 H3 scope ce fp) ([] ++ pinsAt fp t7.heap) σ8 H' s' → Nx H' → ∃ m, m < n ∧ ∃ i H', Inv (X.blk t3 H3 scope ce fp) [] (wipe σ (own.map (·.2))) H' s' ∧ tn i s'.heap ∧ (∀ b ∈ fp, H' b = none) ∧ W1 i m H' := fun {s' H'} J' nx => by
        obtain ⟨m', lt, w'⟩ := less H' nx
        have same : ∀ b ∈ fp, ∀ o, t7.heap.get? b = some o → s'.heap.get? b = some o ∧ H' b = none := fun b hb o z =>
          let k := J'.pin (b, o) (List.mem_append_right _ (List.mem_append_right _ (mem_pinsAt hb z)))
          ⟨k.1, k.2.1⟩
        refine ⟨m', lt, i + 1, H', (J'.unpinned (pins := [])).weak (by rw [← hw8, wipe_length]) (fun j v z => ?_), T.keep _ _ _ st7 fun b hb o z => (same b hb o z).1, fun b hb => ?_, w'⟩
        · rw [← hw8] at z
          exact (wipe_some z).1
        · obtain ⟨o, z, _⟩ := T.obj _ _ st7 b hb
          exact (same b hb o z).2
      cases b with
      | false =>
        simp only [Bool.false_eq_true, if_false] at q9 ⊢
        exact onward I9 q9
      | true =>
        simp only [if_true] at q9 ⊢
        refine thn (pe.run _ t9 σ8 H9 _ (I9.wish _) q9) fun z t10 ⟨yv, H10, I10, r10, acc, hD10, hz10, nx⟩ => ?_
        exact app_ok (X := X.blk t3 H3 scope ce fp) I10.unwish hD10 hz10 r10 fun t11 I11 => onward I11 nx
  exact codeAny_compStart_list loop (T.self X.A 0 _ _ _ st4 loop)
/-- name = [e for x in xs if ..] on one line, the name a local, whose element may raise -/
theorem ps_setLcR {i : Nat} {y : Str} {py : Pos} {elt tg iter : Expr} {ifs : List Expr} {scope : Scope} {own : List (Str × Nat)} {pos spos : Pos} {wi : TI} {g : TG} {tt : TT} {te : TE} (tk : Takes X fun cls d _ H => E cls d H) (st : X.stack = X.env :: X.outer) (fr : X.env.frame = some X.env.locals)
    (hc : X.calm = true) (hN : X.N.Nodup) (hy : X.N[i]? = some y) (hyl : X.env.scope.names.lookup y = some .local) (sw : swapsWith (.ListComp elt [⟨tg, iter, ifs, 0⟩] scope pos) (some (.Name y py)) spos.line X.env = pure true) (hi : PI X tg iter wi) (ok : BlkOk X.N X.env.scope scope own)
    (hg : ∀ (t : Shared) (H : Hp) (C : Addr) (cl : List (Str × Addr)) (fp : List Addr), PG (X.blk t H scope (compEnvC scope cl C X.env) fp) tg g) (ht : ∀ (t : Shared) (H : Hp) (C : Addr) (cl : List (Str × Addr)) (fp : List Addr), PTs (X.blk t H scope (compEnvC scope cl C X.env) fp) ifs tt)
    (he : ∀ (t : Shared) (H : Hp) (C : Addr) (cl : List (Str × Addr)) (fp : List Addr) (xe : Value → Shared → Prop), Passes (CX X.prog X.w) ((X.blk t H scope (compEnvC scope cl C X.env) fp).wish xe) E → PE ((X.blk t H scope (compEnvC scope cl C X.env) fp).wish xe) elt te) (hs : ∀ x, foldedSetIterable iter X.env x = pure x := by intro _; rfl) :
    PS X (.Assign [.Name y py] (.ListComp elt [⟨tg, iter, ifs, 0⟩] scope pos) spos) (tAsg (tLc wi g tt te (own.map (·.2))) (gName i)) := by
  refine ⟨fun pins t σ H D I h => ?_⟩
  rw [exec_Assign_Name_used _ _ _ _ sw]
  refine wpAny_bind (wpAny_standAt (wpAny_bind ?_))
  show wpAny _ X.A (do let _ ← comprehension (.ListComp elt [⟨tg, iter, ifs, 0⟩] scope pos) scope X.env (firstIterPos [⟨tg, iter, ifs, 0⟩] pos) (newList []) false (eval iter X.env) (some (assign (.Name y py) X.env))) _ _ t
  have h : tLc wi g tt te (own.map (·.2)) σ H (fun x H1 => gName i x σ H1 D.nx) := h
  refine wpAny_bind (thn (lcR_core (Qf := fun _ r => SP X pins D .next r) tk (fun _ _ _ z => z) st fr hc hN I hi ok hg ht he hs h fun L C r m H' I' q ns f ce eC => ?_) fun _ r z => wpAny_pure (wpAny_pure z))
  show wpAny _ _ (assign (.Name y py) X.env (.ref L)) _ _ _
  subst eC
  refine wpAny_assign_Name (store_ok2 (v := V.ref L) I' hN hy (.inl hyl) rfl (fun r2 I2 ⟨a, sb, ha⟩ => ?_) (.inr hyl))
  obtain ⟨f0, f1, f2, f3, f4, f5⟩ := f
  have ne : ce.locals ≠ a := by
    rcases ha with z | z
    · rw [z]; exact f1
    · exact fun e => f4 y a z e.symm
  exact ⟨m, ns.sameBut sb ne, fun g2 sb2 => ⟨_, H', I2.turned (t' := r2.toks) (fun b o hb z => (sb2.2 b hb).trans z) f0 f1 f3 f4 f5, q⟩⟩
end
end LR

-- NOMAP
namespace RL
open PySem L2 SX AddrMath VA PySem.W GR TxSet
/-! ## a book's text, read -/
inductive BR where
  | text (i : Nat)
  | rule (f : Str)
  | many (n : Int)
  | made (ss : List Said)
def linesP (z : Str) : List Str := if z = ("" : Str) then [] else Txt.split z nl
def bad (ls : List Str) : Option Nat := ls.findIdx? fun l => (ruleP l).isNone
def saids (ls : List Str) : List Said := ls.filterMap ruleP
def linesB (ls : List Str) : BR := match bad ls with
  | some i => .text i
  | none => match (saids ls).findSome? wrongS with
    | some f => .rule f
    | none => match limS (saids ls) with
      | some n => .many n
      | none => .made (saids ls)
def readB : V → BR
  | .str z => linesB (linesP z)
  | _ => .text 0
/-- a text of a book that is not too long, or what is no text -/
def TextB (K : Frag) (H : Hp) (v : V) : Prop := (∃ d, Vx K H v d ∧ isStrD d = false) ∨ ∃ z, v = .str z ∧ z.length ≤ 1000000 ∧ (linesP z).length ≤ 50000 ∧ ∀ l ∈ linesP z, l.length ≤ 4000
theorem bad_at {ls : List Str} {i : Nat} (hi : i < ls.length) (h : ruleP ls[i] = none) (k : ∀ j (hj : j < i), ruleP (ls[j]'(by omega)) ≠ none) : bad ls = some i := by
  unfold bad
  rw [List.findIdx?_eq_some_iff_getElem]
  refine ⟨hi, by rw [h]; rfl, fun j hj => ?_⟩
  cases e : ruleP (ls[j]'(by omega)) with
  | none => exact absurd e (k j hj)
  | some s => simp
theorem bad_none {ls : List Str} (k : ∀ j (hj : j < ls.length), ruleP ls[j] ≠ none) : bad ls = none := by
  unfold bad
  rw [List.findIdx?_eq_none_iff]
  intro x hx
  obtain ⟨j, hj, rfl⟩ := List.getElem_of_mem hx
  cases e : ruleP ls[j] with
  | none => exact absurd e (k j hj)
  | some s => rfl
theorem said_take {ls : List Str} {i : Nat} {l : Str} {s : Said} (hl : ls[i]? = some l) (hs : ruleP l = some s) : saids (ls.take (i + 1)) = saids (ls.take i) ++ [s] := by
  unfold saids
  rw [take_snoc hl, List.filterMap_append, List.filterMap_cons, hs, List.filterMap_nil]
theorem said_pre (ls : List Str) (i : Nat) : saids ls = saids (ls.take i) ++ saids (ls.drop i) := by
  unfold saids
  rw [← List.filterMap_append, List.take_append_drop]
theorem some_pre {α β : Type} {f : α → Option β} {xs ys : List α} {x : α} {b : β} (h : ∀ z ∈ xs, f z = none) (e : f x = some b) : (xs ++ x :: ys).findSome? f = some b := by
  rw [List.findSome?_append, List.findSome?_eq_none_iff.mpr h, Option.none_or, List.findSome?_cons, e]
/-- a rule stays where a list changes -/
theorem rule_but {K : Frag} {C D p : Addr} {H H' : Hp} {xs : List V} {z : Str} {pd gd : PyData} {x : Bool} (hD : H D = some (.lst xs)) (b : But D H H') (h : RuleAt K C H p z pd gd x) : RuleAt K C H' p z pd gd x := by
  obtain ⟨dx', tP, tW, tK, gV, ws, hp, hP, hG, hW, a1, a2, a3, hK⟩ := h.ex
  have ne : ∀ {a : Addr} {o : HO}, H a = some o → (∀ ys, o ≠ .lst ys) → a ≠ D := fun e n z => by
    rw [z, hD] at e
    exact n xs (Option.some.inj e).symm
  have kt : ∀ {t : Addr} {ys : List V}, SqT K H t ys → SqT K H' t ys := fun {t ys} h => by
    rcases h with (h | ⟨u, h⟩) | h
    · exact .inl (.inl (b _ _ h (ne h fun _ q => by cases q)))
    · exact .inl (.inr ⟨u, b _ _ h (ne h fun _ q => by cases q)⟩)
    · exact .inr h
  have kg : GoalAt K H' gV gd := by
    match gd, hG with
    | .none, h => exact h
    | .tuple [.str y, c], h =>
      obtain ⟨g, tb, e, h1, h2⟩ := h
      exact ⟨g, tb, e, b _ _ h1 (ne h1 fun _ q => by cases q), kt h2⟩
  exact ⟨dx', tP, tW, tK, gV, ws, b _ _ hp (ne hp fun _ q => by cases q), kt hP, kg, b _ _ hW (ne hW fun _ q => by cases q), a1, a2, a3, b _ _ hK (ne hK fun _ q => by cases q)⟩
theorem rules_but {K : Frag} {C D : Addr} {H H' : Hp} {xs : List V} {ps : List Addr} {ss : List Said} (hD : H D = some (.lst xs)) (b : But D H H') (h : RulesAt K C H ps ss) : RulesAt K C H' ps ss :=
  ⟨h.1, fun i p s a e => ⟨rule_but hD b (h.2 i p s a e).1, (h.2 i p s a e).2⟩⟩
theorem rules_snoc {K : Frag} {C p : Addr} {H : Hp} {ps : List Addr} {ss : List Said} {s : Said} (h : RulesAt K C H ps ss) (hS : RuleS K C H p s) (ok : okS s) : RulesAt K C H (ps ++ [p]) (ss ++ [s]) := by
  refine ⟨by rw [List.length_append, List.length_append, h.1]; rfl, fun i q r hq hr => ?_⟩
  rcases Nat.lt_or_ge i ps.length with c | c
  · rw [List.getElem?_append_left c] at hq
    rw [List.getElem?_append_left (by rw [← h.1]; exact c)] at hr
    exact h.2 i q r hq hr
  · rw [List.getElem?_append_right c] at hq
    rw [List.getElem?_append_right (by rw [← h.1]; exact c)] at hr
    have e0 : i - ps.length = 0 := by
      rcases Nat.eq_zero_or_pos (i - ps.length) with e | e
      · exact e
      · rw [List.getElem?_eq_none (by show 1 ≤ i - ps.length; exact e)] at hq
        cases hq
    rw [e0] at hq
    rw [← h.1, e0] at hr
    cases hq
    cases hr
    exact ⟨hS, ok⟩
section
variable {P : Program} {w : World} {K : Frag} {mg : Str → Option Value} {base : Heap}
/-! ### Book.read: slots cls 0, text 1, lines 2, index 3, line 4, rules 5 -/
abbrev sBookRead : Stmt := inClass (top 50) 26
abbrev NBR : List Str := ["cls", "text", "lines", "index", "line", "rules"]
theorem scBookRead : FnScope NBR ["cls", "text"] (defScope sBookRead) := ⟨rfl, rfl, rfl, by decide +kernel, rfl, by decide +kernel, by decide +kernel⟩
def spBRead (K : Frag) (C CB CE CT CM : Addr) : Sp := fun vs H Q E => ∃ v, vs = [.ref CB, v] ∧ TextB K H v ∧
  (∀ i : Nat, readB v = .text i → ∀ d H', Same H H' → H' d = some (.xd (ixF nIndex (.int i))) → H d = none → E (.ref CT) (some d) H') ∧
  (∀ f, readB v = .rule f → ∀ d H', Same H H' → H' d = some (.xd (ixF nField (.str f))) → H d = none → E (.ref CE) (some d) H') ∧
  (∀ n, readB v = .many n → ∀ d H', Same H H' → H' d = some (.xd (ixF nLimit (.int n))) → H d = none → E (.ref CM) (some d) H') ∧
  (∀ ss, readB v = .made ss → ∀ b t ps H', BookAt K C CB H' b t ps ss → Same H H' → H b = none → Q (.ref b) H')
/-- text.split("\n") if text != "" else [] -/
def tLines (K : Frag) : TE := fun σ H Q => ∃ z : Str, σ[1]? = some (some (.str z)) ∧ z.length ≤ 1000000 ∧ ∀ a, H a = none → Q (.ref a) (upd H a (.lst ((linesP z).map V.str)))
theorem ok_bread {f fB C CB CE CT CM fT pR fR : Addr} {fd fdT fdR : FuncData} {mc : Value} (F : Fun K "read" "Book.read" sBookRead f fd) (B : Blt mg) (me : mg "enumerate" = none) (T : RTxt K mg C) (parsed : Own P w K mg base CX0 4 "parsed" ["text", "is_free"] (spParsed K))
    (TT : ErrC K mg "InvalidText" nIndex CT fT) (GT : FnOk P w K mg base CX0 1 fT fdT ["self", "index"] (spErr nIndex CT)) (bT : Binds K fdT ["self", "index"] [])
    (rdc : ClX.CRead K C mc) (cmr : ClX.CMet K C mc "read" pR fR) (GR : FnOk P w K mg base (L2.CX P w) 8 fR fdR ["cls", "text"] (spRead K C CE CT)) (bR : Binds K fdR ["cls", "text"] [])
    (MB : Mk K CB fB) (FB : FnR P w K mg base (L2.CX P w) 5 fB (spBInit K C CB CM)) : FnOk P w K mg base (L2.CX P w) 9 f fd ["cls", "text"] (spBRead K C CB CE CT CM) := by
  refine F.okX scBookRead (fun vs H Q E h => ?_) (fun cdv A outer s0 H vs Q E hr h => ?_)
  · obtain ⟨v, rfl, _⟩ := h
    rfl
  · obtain ⟨v, rfl, hv, qT, qR, qN, qM⟩ := h
    have hr2 : Room 2 _ := hr.mono (by decide)
    refine ⟨_, (pss_cons (ps_if (pt_not (pt_val (pe_callB call_isi (by rfl) B.isinstance_ (by decide +kernel) (pa_cons (pv 1) (pa_cons (pe_bltn (v := .ty "str") (by rfl) B.str_ (by decide +kernel) rfl) pa_nil))))) (pss_one (ps_raise rfl (takes_of rfl rfl rfl rfl) (pmk_oex TT.ox TT.iC TT.tI GT hr2 bT .nil pass0 (by rfl) TT.mgC (by exact (pa_cons pe_int pa_nil))))) pss_nil)
      (pss_cons (ps_set (i := 2) scBookRead.nd rfl (Or.inl rfl) (pe_by (tLines K) (pe_ifExp (pt_cmpR op_ne (pv 1) pe_str (nomark _)) (pe_split (pv 1) pe_str) (pe_lst pa_nil)) (fun σ H Q h => ?lines)))
      (pss_cons (ps_for (L2.passes_of rfl) rfl (pi_enum (by rfl) me (pa_cons (pv 2) pa_nil)) (pg_tup (n := 2) rfl (pgs_cons (pg_name (i := 3) scBookRead.nd rfl (Or.inl rfl)) (pgs_cons (pg_name (i := 4) scBookRead.nd rfl (Or.inl rfl)) pgs_nil)))
        (pss_one (ps_if (pt_cmpR op_isN (pe_call parsed.g (hr.mono (by decide)) rfl parsed.mg parsed.kp parsed.b .nil pass0 (pa_cons (pv 4) (pa_cons pe_bl pa_nil))) pe_non (nomark _)) (pss_one (ps_raise rfl (takes_of rfl rfl rfl rfl) (pmk_oex TT.ox TT.iC TT.tI GT hr2 bT .nil pass0 (by rfl) TT.mgC (by exact (pa_cons (pv 3) pa_nil))))) pss_nil)))
      (pss_cons (LR.ps_setLcR (i := 5) (E := E) (own := [("line", 4)]) (g := gName 4) (tt := tYes) (takes_of rfl rfl rfl rfl) rfl rfl rfl scBookRead.nd rfl rfl (sw_true rfl rfl rfl (by decide +kernel)) (pi_seq (pv 2))
          (blkOk_by (own := [("line", 4)]) (N := NBR) (sc := defScope sBookRead) (by decide +kernel))
          (fun _ _ _ _ _ => (pg_name (i := 4) scBookRead.nd rfl (Or.inl rfl))) (fun _ _ _ _ _ => pts_nil)
          (fun _ _ _ _ _ xe hp => (pe_cmethS (E := fun _ => E) (pe_glob (v := .ref C) (by rfl) T.mgC rfl) rdc cmr GR hr bR (fun σ pins H s e s' I c => hp pins σ H s e s' I c) (pa_cons (pv 4) pa_nil))))
      (pss_one (ps_ret (pe_makeLS (i := 0) MB FB (hr.mono (by decide)) rfl (.inl rfl) (passes_of (takes_of rfl rfl rfl rfl)) (pv 5)))))))), ?_⟩
    case lines =>
      obtain ⟨z, e1, hz, k⟩ := h
      refine ⟨_, e1, rfl, _, rfl, ?_⟩
      unfold linesP at k
      by_cases c : z = ("" : Str)
      · rw [decide_eq_true (congrArg V.str c)]
        refine iteF ⟨Nat.zero_le _, fun a na => ?_⟩
        have := k a na
        rw [if_pos c] at this
        exact this
      · rw [decide_eq_false fun e => c (V.str.inj e)]
        refine iteT ⟨_, e1, ⟨_, rfl⟩, z, nl, rfl, rfl, rfl, Nat.le_trans (m := 2000000) (by omega) (by show 2000000 ≤ sizeLine; decide), fun a na => ?_⟩
        have := k a na
        rw [if_neg c] at this
        exact this
    rcases hv with ⟨d, hv, ns⟩ | ⟨z, rfl, hz, few, hls⟩
    · refine ⟨_, rfl, _, _, _, _, isStrD d, rfl, .ty "str", hv.ty, kitStr d, _, rfl, ?_⟩
      rw [ns]
      refine iteT ⟨by show 1 ≤ 1000; decide, fun a na => err_use na fun d2 nd => ?_⟩
      have e0 : readB v = .text 0 := by
        rcases hv with ⟨h, _⟩ | ⟨a, kvs, rfl, _⟩
        · cases h <;> first | rfl | cases ns
        · rfl
      exact qT 0 e0 d2 _ (same_new nd) upd_same nd
    · refine ⟨_, rfl, _, _, _, _, true, rfl, .ty "str", .base (.str z), kitStr (.str z), _, rfl, iteF ?_⟩
      have eB : readB (.str z) = linesB (linesP z) := rfl
      rw [eB] at qT qR qN qM
      refine ⟨z, rfl, hz, fun la na => ?_⟩
      have s1 : Same H (upd H la (.lst ((linesP z).map V.str))) := same_new na
      have h1 : (upd H la (.lst ((linesP z).map V.str))) la = some (.lst ((linesP z).map V.str)) := upd_same
      generalize upd H la (.lst ((linesP z).map V.str)) = H1 at s1 h1 ⊢
      generalize linesP z = ls at few hls qT qR qN qM h1 ⊢
      clear eB hz
      refine ⟨_, rfl, la, _, rfl, .inl (.inl h1), for_it (walk_enum (xs := ls.map V.str)) (fun i σ G => ∃ o3 o4 o5 : Option V, σ = [some (.ref CB), some (.str z), some (.ref la), o3, o4, o5] ∧ Same H1 G ∧ ∀ j (hj : j < ls.length), j < i → ruleP ls[j] ≠ none) ⟨none, none, none, rfl, Same.refl H1, fun j _ h => absurd h (Nat.not_lt_zero _)⟩ (fun i σ G _ h => by
        obtain ⟨_, _, _, _, s, _⟩ := h
        exact .inl (.inl (s _ _ h1))) ?_ ?_⟩
      · rintro i x σ G G' hi ⟨o3, o4, o5, rfl, sG, hk⟩ ⟨pr, u, v, rfl, np, rfl, ei, ev⟩
        cases ei
        have hi' : i < ls.length := by rw [List.length_map] at hi; exact hi
        have ev' : (ls.map V.str)[i]? = some v := ev
        rw [List.getElem?_map, List.getElem?_eq_getElem hi'] at ev'
        cases ev'
        have s2 := same_new (o := .tup [.int (i : Nat), .str ls[i]]) np
        refine ⟨pr, _, rfl, .inl (.inl upd_same), rfl, _, _, rfl, _, _, rfl, rfl, ?_⟩
        refine ⟨_, rfl, .str ls[i], rfl, .inr ⟨_, rfl, hls _ (List.getElem_mem hi')⟩, fun u G2 s3 hu => ⟨rfl, _, rfl, ?_⟩⟩
        have sA := (sG.trans s2).trans s3
        have eR : readP (.str ls[i]) = ruleP ls[i] := rfl
        rw [eR] at hu
        cases e : ruleP ls[i] with
        | none =>
          rw [e] at hu
          obtain rfl : u = .non := hu
          refine iteT ⟨_, rfl, by show 1 ≤ 1000; decide, fun a na => err_use na fun d2 nd => ?_⟩
          have bd : bad ls = some i := bad_at hi' e fun j hj => hk j (by omega) hj
          have lb : linesB ls = .text i := by unfold linesB; rw [bd]
          exact qT i lb d2 _ ((s1.trans sA).trans (same_new nd)) upd_same ((s1.trans sA).free nd)
        | some s =>
          rw [e] at hu
          obtain ⟨z1, es, g, b⟩ := s
          obtain ⟨r, tp, gv, rfl, _⟩ := hu
          refine iteF ⟨_, _, _, rfl, sA, fun j hj hlt => ?_⟩
          rcases Nat.lt_or_ge j i with c | c
          · exact hk j hj c
          · obtain rfl : j = i := by omega
            rw [e]
            exact fun z => by cases z
      · rintro σ G ⟨o3, o4, o5, rfl, sG, hk⟩
        rw [List.length_map] at hk
        have bd : bad ls = none := bad_none fun j hj => hk j hj hj
        have sH := s1.trans sG
        refine ⟨_, rfl, la, rfl, .inl ⟨⟨_, .inl (.inl (sG _ _ h1))⟩, fun D nD => ?_⟩⟩
        refine lc_list (K := K) (a := la) (xs := ls.map V.str) (fun i G2 => Same G G2 ∧ ∃ ps : List Addr, G2 D = some (.lst (ps.map V.ref)) ∧ RulesAt K C G2 ps (saids (ls.take i)) ∧ ps.length = i ∧ ∀ s ∈ saids (ls.take i), wrongS s = none) ⟨same_new nD, [], upd_same, ⟨rfl, fun i p s e => by cases e⟩, rfl, fun s hs => by cases hs⟩ (fun i G2 _ h => .inl (.inl (h.1 _ _ (sG _ _ h1)))) ?_ ?_
        · rintro i x G2 hx ⟨s2, ps, hD, hA, hl, hw⟩
          rw [List.getElem?_map] at hx
          cases el : ls[i]? with
          | none => rw [el] at hx; cases hx
          | some l =>
            rw [el] at hx
            cases hx
            have hi : i < ls.length := by
              rcases Nat.lt_or_ge i ls.length with h | h
              · exact h
              · rw [List.getElem?_eq_none h] at el; cases el
            have el' : ls[i] = l := by
              have := List.getElem?_eq_getElem hi
              rw [el] at this
              exact (Option.some.inj this).symm
            have nn := hk i hi hi
            rw [el'] at nn
            obtain ⟨s, es⟩ := Option.ne_none_iff_exists'.mp nn
            have st := said_take el es
            refine ⟨rfl, no_test fun G3 s3 => iteT ?_⟩
            have sG3 := (sH.trans s2).trans s3
            refine ⟨rfl, _, rfl, .str l, rfl, .inr ⟨l, rfl, hls l (List.mem_of_getElem? el)⟩, fun hn => absurd (hn.symm.trans es) (fun z => by cases z), fun r hr3 => ?_⟩
            obtain rfl : r = s := Option.some.inj (hr3.symm.trans es)
            refine ⟨fun f hf d2 H' s4 hd nd => ?_, fun hn p H' s4 np hR => ?_⟩
            · have fs : (saids ls).findSome? wrongS = some f := by
                rw [said_pre ls (i + 1), st, List.append_assoc]
                exact some_pre hw hf
              have lb : linesB ls = .rule f := by unfold linesB; rw [bd]; show (match (saids ls).findSome? wrongS with | some f => BR.rule f | none => _) = _; rw [fs]
              exact qR f lb d2 H' (sG3.trans s4) hd (sG3.free nd)
            · have hD4 := s4 _ _ (s3 _ _ hD)
              have hA4 := rules_snoc ((hA.same s3).same s4) hR (wrong_ok hn)
              refine ⟨_, hD4, size_lt (by rw [List.length_map]; omega), fun b o hb => ?_, ps ++ [p], ?_, ?_, ?_, ?_⟩
              · rw [upd_ne (ne_of_none hb nD)]
                exact s4 _ _ (s3 _ _ (s2 _ _ hb))
              · rw [upd_same, List.map_append]
                rfl
              · rw [st]
                exact rules_but hD4 But.upd hA4
              · rw [List.length_append, hl]
                rfl
              · rw [st]
                intro s hs
                rcases List.mem_append.mp hs with h | h
                · exact hw s h
                · rw [List.mem_singleton.mp h]
                  exact hn
        · rintro G2 ⟨s2, ps, hD, hA, hl, hw⟩
          rw [List.length_map, List.take_length] at hA hw
          have sH2 := sH.trans s2
          have fs : (saids ls).findSome? wrongS = none := List.findSome?_eq_none_iff.mpr hw
          refine ⟨rfl, _, rfl, D, _, rfl, .inr (.inl (.inl hD)), fun o dx no nd ne => binit_of no nd ne hA (by rw [← hA.1, hl, List.length_map]; omega) ⟨fun n hn d2 H' s4 hd nd2 => ?_, fun hn b t H' hB s4 nb => ?_⟩⟩
          · have lb : linesB ls = .many n := by
              unfold linesB
              rw [bd]
              show (match (saids ls).findSome? wrongS with | some f => BR.rule f | none => _) = _
              rw [fs]
              show (match limS (saids ls) with | some n => BR.many n | none => _) = _
              rw [hn]
            exact qN n lb d2 H' (sH2.trans s4) hd (sH2.free nd2)
          · have lb : linesB ls = .made (saids ls) := by
              unfold linesB
              rw [bd]
              show (match (saids ls).findSome? wrongS with | some f => BR.rule f | none => _) = _
              rw [fs]
              show (match limS (saids ls) with | some n => BR.many n | none => _) = _
              rw [hn]
            exact qM _ lb b t ps H' hB (sH2.trans s4) (sH2.free nb)
end
end RL

-- NOMAP
namespace RL
open PySem L2 SX AddrMath VA
/-! Entries and rules that the law draws: their texts are those given. -/
section
variable {P : Program} {w : World} {K : PySem.W.Frag} {mg : Str → Option Value} {base : Heap}
def spEntryM : Sp := fun vs H Q _ => ∃ (d c wa : Addr) (ss : List Str) (n : Nat), vs = [.ref d, .ref wa] ∧ PenAt H d c n ∧ n ≤ 800000 ∧ LW H wa ss ∧ 0 < ss.length ∧ ss.length ≤ 100 ∧
  ∀ (e : PyData) (H' : Hp), isEntD e = true → (∀ u, e = .str u → u ∈ ss) → PenAt H' d c (n + 2) → But d H H' → Q (entV e) H'
theorem ok_entryM {f : Addr} {fd : FuncData} (F : Fun K "_law_entry" "_law_entry" sEntry f fd) (draw : Own P w K mg base CX0 1 "_law_draw" ["_law_pen_here", "_law_many"] spDraw) (pick : Own P w K mg base CX0 2 "_law_pick" ["_law_pen_here", "_law_items"] spPick) :
    FnOk P w K mg base CX0 3 f fd ["_law_pen_here", "_law_words_here"] spEntryM := by
  refine F.ok scEntry (fun vs H Q E h => ?_) (fun cdv A outer s H vs Q E hr h => ?_)
  · obtain ⟨d, c, wa, ss, n, rfl, _⟩ := h
    rfl
  · obtain ⟨d, c, wa, ss, n, rfl, p, hn, hw, h0, h1, q⟩ := h
    refine ⟨_, (pss_cons (ps_set (i := 2) scEntry.nd rfl (Or.inl rfl) (pe_call draw.g (hr.mono (by decide)) rfl draw.mg draw.kp draw.b .nil pass0 (pa_cons (pv 0) (pa_cons pe_int pa_nil))))
      (pss_one (ps_ret (pe_ifExp (pt_cmpR op_lt (pv 2) pe_int (nomark _)) (pe_ix ix_list (pe_lst (pa_cons pe_int (pa_cons pe_int (pa_cons pe_int pa_nil)))) (pv 2) (fun _ _ => rfl)) (pe_call pick.g (hr.mono (by decide)) rfl pick.mg pick.kp pick.b .nil pass0 (pa_cons (pv 0) (pa_cons (pv 1) pa_nil))))))), ?_⟩
    refine ⟨_, rfl, d, c, n, 5, rfl, p, by omega, by decide, by decide, fun j H1 j0 j1 p1 b1 => ?_⟩
    refine ⟨_, rfl, _, _, rfl, rfl, _, rfl, if_is (fun e => ?_) (fun e => ?_)⟩
    · have e' := of_decide_eq_true e
      refine ⟨by show 3 ≤ sizeLine; decide, fun l nl => ⟨_, rfl, l, _, j, (if j = 2 then V.int 2 else V.int 1), rfl, rfl, .inl (.inl upd_same), ?_, ?_⟩⟩
      · have : j = 0 ∨ j = 1 ∨ j = 2 := by omega
        rcases this with rfl | rfl | rfl <;> rfl
      · by_cases z : j = 2
        · rw [if_pos z]
          exact q (.int 2) _ rfl (fun _ z => by cases z) ((p1.keep (same_new nl)).mono (by omega)) (b1.trans (but_of (same_new nl)))
        · rw [if_neg z]
          exact q (.int 1) _ rfl (fun _ z => by cases z) ((p1.keep (same_new nl)).mono (by omega)) (b1.trans (but_of (same_new nl)))
    · have hw1 := hw.but p b1
      refine ⟨_, rfl, _, rfl, d, c, n + 1, _, rfl, p1, by omega, .inl ⟨wa, _, rfl, hw1.1, by rw [List.length_map]; exact h0, by rw [List.length_map]; omega, fun v H2 hv p2 b2 => ?_⟩⟩
      obtain ⟨z, hz, rfl⟩ := List.mem_map.mp hv
      exact q (.str z) H2 (wrd_ent (List.all_eq_true.mp hw.2 z hz)) (fun u e => by cases e; exact hz) (p2.mono (by omega)) (b1.trans b2)
def spRuleM (K : PySem.W.Frag) : Sp := fun vs H Q _ => ∃ (d c sa wa : Addr) (ss ws : List Str) (n : Nat), vs = [.ref d, .ref sa, .ref wa] ∧ PenAt H d c n ∧ n ≤ 700000 ∧ LW H sa ss ∧ LW H wa ws ∧ 0 < ss.length ∧ ss.length ≤ 100 ∧ 0 < ws.length ∧ ws.length ≤ 90 ∧
  ∀ (a : Addr) (z : Str) (es : List PyData) (gd : PyData) (x : Bool) (H' : Hp), okRule z es gd → z ∈ ss → (∀ y b, gd = .tuple [.str y, b] → y ∈ ss) → (∀ u, .str u ∈ es ++ begD gd → u ∈ ws) → PlainAt K H' a z es gd x → PenAt H' d c (n + 60) → But d H H' → Q (.ref a) H'
theorem ok_ruleM {f : Addr} {fd : FuncData} (F : Fun K "_law_rule" "_law_rule" sRule f fd) (B : Blt mg) (draw : Own P w K mg base CX0 1 "_law_draw" ["_law_pen_here", "_law_many"] spDraw) (pick : Own P w K mg base CX0 2 "_law_pick" ["_law_pen_here", "_law_items"] spPick)
    (entry : Own P w K mg base CX0 3 "_law_entry" ["_law_pen_here", "_law_words_here"] spEntryM) (is_integer : Own P w K mg base CX0 1 "_law_is_integer" ["_law_value"] (spIsInt K)) : FnOk P w K mg base CX0 4 f fd ["_law_pen_here", "_law_states", "_law_words_here"] (spRuleM K) := by
  refine F.ok scRule (fun vs H Q E h => ?_) (fun cdv A outer s0 H vs Q E hr h => ?_)
  · obtain ⟨d, c, sa, wa, ss, ws, n, rfl, _⟩ := h
    rfl
  · obtain ⟨d, c, sa, wa, ss, ws, n, rfl, p, hn, hs, hw, s0l, s1l, w0l, w1l, q⟩ := h
    have hr2 : Room 2 _ := hr.mono (by decide)
    have hr1 : Room 1 _ := hr.mono (by decide)
    refine ⟨_, (pss_cons (L2.ps_par3 (by rfl) scRule.nd (i := 3) (j := 4) (l := 5) rfl rfl rfl (by decide) (by decide) (by decide) rfl rfl rfl (pa_cons (pe_call pick.g hr2 rfl pick.mg pick.kp pick.b .nil pass0 (pa_cons (pv 0) (pa_cons (pv 1) pa_nil))) (pa_cons (pe_call pick.g hr2 rfl pick.mg pick.kp pick.b .nil pass0 (pa_cons (pv 0) (pa_cons (pv 1) pa_nil))) (pa_cons (pe_call pick.g hr2 rfl pick.mg pick.kp pick.b .nil pass0 (pa_cons (pv 0) (pa_cons (pv 2) pa_nil))) pa_nil))) (by rfl))
      (pss_cons (ps_set (i := 7) scRule.nd rfl (Or.inl rfl) (pe_callTy call_tupA (by rfl) B.tuple_ (by decide +kernel) (pa_cons (pe_lc (own := [("_law_k", 6)]) (g := gName 6) (tt := tYes) rfl scRule.nd (pi_range1 (by rfl) B.range_ (pa_cons (pe_call pick.g hr2 rfl pick.mg pick.kp pick.b .nil pass0 (pa_cons (pv 0) (pa_cons (litL (K := K) (lits_cons lit_int (lits_cons lit_int (lits_cons lit_int (lits_cons lit_int (lits_cons lit_int (lits_cons lit_int lits_nil)))))) (by decide)) pa_nil))) pa_nil))
          (blkOk_by (own := [("_law_k", 6)]) (N := ["_law_pen_here", "_law_states", "_law_words_here", "_law_state", "_law_other", "_law_word", "_law_k", "_law_pattern", "_law_sort", "_law_exact", "_law_entry_here", "_law_some", "_law_beginning"]) (sc := defScope sRule) (by decide +kernel))
          (fun _ _ _ _ _ => (pg_name (i := 6) scRule.nd rfl (Or.inl rfl))) (fun _ _ _ _ _ => pts_nil)
          (fun _ _ _ _ _ => (pe_call entry.g hr rfl entry.mg entry.kp entry.b .nil pass0 (pa_cons (pv 0) (pa_cons (pv 2) pa_nil))))) pa_nil)))
      (pss_cons (ps_par (by rfl) scRule.nd (i := 8) (j := 9) rfl rfl (by decide) rfl rfl (pa_cons (pe_call draw.g hr1 rfl draw.mg draw.kp draw.b .nil pass0 (pa_cons (pv 0) (pa_cons pe_int pa_nil))) (pa_cons (pe_cmpR op_eq (pe_call draw.g hr1 rfl draw.mg draw.kp draw.b .nil pass0 (pa_cons (pv 0) (pa_cons pe_int pa_nil))) pe_int (nomark _)) pa_nil)) (by rfl))
      (pss_cons (ps_if (pt_cmpR op_eq (pv 8) pe_int (nomark _)) (pss_one (ps_ret (pe_tup (pa_cons (pv 3) (pa_cons (pv 7) (pa_cons pe_non (pa_cons (pv 9) pa_nil))))))) pss_nil)
      (pss_cons (ps_if (pt_cmpR op_eq (pv 8) pe_int (nomark _)) (pss_one (ps_ret (pe_tup (pa_cons (pv 3) (pa_cons (pe_tup (pa_cons (pv 5) pa_nil)) (pa_cons (pe_tup (pa_cons (pv 4) (pa_cons (pe_tup pa_nil) pa_nil))) (pa_cons pe_bl pa_nil))))))) pss_nil)
      (pss_cons (ps_if (pt_cmpR op_eq (pv 8) pe_int (nomark _)) (pss_one (ps_ret (pe_tup (pa_cons (pv 3) (pa_cons (lit_tup (K := K) (lits_cons lit_int (lits_cons lit_int lits_nil)) (by decide)) (pa_cons (pe_tup (pa_cons (pv 4) (pa_cons (pe_call pick.g hr2 rfl pick.mg pick.kp pick.b .nil pass0 (pa_cons (pv 0) (pa_cons (pe_lst (pa_cons (lit_tup (K := K) (lits_cons lit_int lits_nil) (by decide)) (pa_cons (lit_tup (K := K) (lits_cons lit_int lits_nil) (by decide)) (pa_cons (lit_tup (K := K) (lits_cons lit_int (lits_cons lit_int lits_nil)) (by decide)) (pa_cons (pe_tup (pa_cons pe_int (pa_cons (pv 5) pa_nil))) pa_nil))))) pa_nil))) pa_nil))) (pa_cons pe_bl pa_nil))))))) pss_nil)
      (pss_cons (ps_if (pt_cmpR op_eq (pv 8) pe_int (nomark _)) (pss_one (ps_ret (pe_tup (pa_cons (pv 3) (pa_cons (lit_tup (K := K) (lits_cons lit_int (lits_cons lit_int lits_nil)) (by decide)) (pa_cons (pe_call pick.g hr2 rfl pick.mg pick.kp pick.b .nil pass0 (pa_cons (pv 0) (pa_cons (pe_lst (pa_cons pe_non (pa_cons (pe_tup (pa_cons (pv 4) (pa_cons (lit_tup (K := K) (lits_cons lit_int lits_nil) (by decide)) pa_nil))) (pa_cons (pe_tup (pa_cons (pv 4) (pa_cons (pe_tup (pa_cons (pv 5) pa_nil)) pa_nil))) pa_nil)))) pa_nil))) (pa_cons pe_bl pa_nil))))))) pss_nil)
      (pss_cons (ps_set (i := 11) scRule.nd rfl (Or.inr rfl) (pe_op op_cat (pe_callTy call_lstA (by rfl) B.list_ (by decide +kernel) (pa_cons (pv 2) pa_nil)) (pe_lc (own := [("_law_entry_here", 10)]) (g := gName 10) rfl scRule.nd (pi_seq (pv 7))
          (blkOk_by (own := [("_law_entry_here", 10)]) (N := ["_law_pen_here", "_law_states", "_law_words_here", "_law_state", "_law_other", "_law_word", "_law_k", "_law_pattern", "_law_sort", "_law_exact", "_law_entry_here", "_law_some", "_law_beginning"]) (sc := defScope sRule) (by decide +kernel))
          (fun _ _ _ _ _ => (pg_name (i := 10) scRule.nd rfl (Or.inl rfl))) (fun _ _ _ _ _ => pts_one (pt_val (pe_call is_integer.g hr1 rfl is_integer.mg is_integer.kp is_integer.b .nil pass0 (pa_cons (pv 10) pa_nil))))
          (fun _ _ _ _ _ => (pv 10)))))
      (pss_cons (ps_set (i := 12) scRule.nd rfl (Or.inl rfl) (pe_callTy call_tupA (by rfl) B.tuple_ (by decide +kernel) (pa_cons (pe_lc (own := [("_law_k", 6)]) (g := gName 6) (tt := tYes) rfl scRule.nd (pi_range1 (by rfl) B.range_ (pa_cons (pe_call pick.g hr2 rfl pick.mg pick.kp pick.b .nil pass0 (pa_cons (pv 0) (pa_cons (litL (K := K) (lits_cons lit_int (lits_cons lit_int (lits_cons lit_int (lits_cons lit_int (lits_cons lit_int (lits_cons lit_int (lits_cons lit_int lits_nil))))))) (by decide)) pa_nil))) pa_nil))
          (blkOk_by (own := [("_law_k", 6)]) (N := ["_law_pen_here", "_law_states", "_law_words_here", "_law_state", "_law_other", "_law_word", "_law_k", "_law_pattern", "_law_sort", "_law_exact", "_law_entry_here", "_law_some", "_law_beginning"]) (sc := defScope sRule) (by decide +kernel))
          (fun _ _ _ _ _ => (pg_name (i := 6) scRule.nd rfl (Or.inl rfl))) (fun _ _ _ _ _ => pts_nil)
          (fun _ _ _ _ _ => (pe_call pick.g hr2 rfl pick.mg pick.kp pick.b .nil pass0 (pa_cons (pv 0) (pa_cons (pv 11) pa_nil))))) pa_nil)))
      (pss_one (ps_ret (pe_tup (pa_cons (pv 3) (pa_cons (pv 7) (pa_cons (pe_tup (pa_cons (pv 4) (pa_cons (pv 12) pa_nil))) (pa_cons (pv 9) pa_nil)))))))))))))))), ?_⟩
    -- the words
    refine ⟨_, rfl, _, rfl, d, c, n, _, rfl, p, by omega, .inl ⟨sa, _, rfl, hs.1, by rw [List.length_map]; exact s0l, by rw [List.length_map]; omega, fun v1 H1 m1 p1 b1 => ?_⟩⟩
    refine ⟨_, rfl, _, rfl, d, c, _, _, rfl, p1, by omega, .inl ⟨sa, _, rfl, (hs.but p b1).1, by rw [List.length_map]; exact s0l, by rw [List.length_map]; omega, fun v2 H2 m2 p2 b2 => ?_⟩⟩
    have hw2 := (hw.but p b1).but p1 b2
    refine ⟨_, rfl, _, rfl, d, c, _, _, rfl, p2, by omega, .inl ⟨wa, _, rfl, hw2.1, by rw [List.length_map]; exact w0l, by rw [List.length_map]; omega, fun v3 H3 m3 p3 b3 => ?_⟩⟩
    obtain ⟨z, hz, rfl⟩ := List.mem_map.mp m1
    obtain ⟨y, hy, rfl⟩ := List.mem_map.mp m2
    obtain ⟨x, hx, rfl⟩ := List.mem_map.mp m3
    have hz' := List.all_eq_true.mp hs.2 z hz
    have hy' := List.all_eq_true.mp hs.2 y hy
    have hx' := List.all_eq_true.mp hw.2 x hx
    refine ⟨_, _, _, rfl, ?_⟩
    have hw3 := hw2.but p2 b3
    have b30 : But d H H3 := (b1.trans b2).trans b3
    have p30 := p3
    clear b1 b2 b3 p1 p2 p3 hw2 m1 m2 m3
    have done : ∀ (G : Hp) (m : Nat) (tP : Addr) (es : List PyData) (gd : PyData) (gV : V) (x : Bool), m ≤ 60 → PenAt G d c (n + m) → But d H G → SqT K G tP (es.map entV) → GoalAt K G gV gd → okRule z es gd → (gd = .none ∨ ∃ b, gd = .tuple [.str y, b]) → (∀ u, .str u ∈ es ++ begD gd → u ∈ ws) → ∀ a, G a = none → Q (.ref a) (upd G a (.tup [.str z, .ref tP, gV, .bl x])) := fun G m tP es gd gV x hm pG bG hP hG ok hgd hmem a na =>
      q a z es gd x _ ok hz (fun y' b' e => by
        rcases hgd with rfl | ⟨b, rfl⟩
        · cases e
        · cases e
          exact hy) hmem ⟨tP, gV, .inl (.inl upd_same), same_seqT (same_new na) hP, goal_at_kp hG (kp_same (same_new na))⟩ ((pG.keep (same_new na)).mono (by omega)) (bG.trans (but_of (same_new na)))
    -- the pattern
    refine ⟨_, rfl, fun l xs HL hl dl _ sl nl => ?_⟩
    have lx : xs.length = 6 := dps_len dl
    refine ⟨d, c, _, _, rfl, p30.keep sl, by omega, .inl ⟨l, xs, rfl, hl, by omega, by omega, fun v H5 mv p5 b5 => ?_⟩⟩
    obtain ⟨N, rfl, hN⟩ : ∃ N : Nat, v = .int (N : Int) ∧ N ≤ 2 := by
      obtain ⟨e, he, hv⟩ := dps_at dl mv
      simp only [List.mem_cons, List.not_mem_nil, or_false] at he
      rcases he with rfl | rfl | rfl | rfl | rfl | rfl <;> cases hv
      · exact ⟨0, rfl, by decide⟩
      · exact ⟨1, rfl, by decide⟩
      · exact ⟨1, rfl, by decide⟩
      · exact ⟨2, rfl, by decide⟩
      · exact ⟨2, rfl, by decide⟩
      · exact ⟨2, rfl, by decide⟩
    have hw5 := (hw3.same sl).but (p30.keep sl) b5
    have b50 : But d H H5 := (b30.trans (but_of sl)).trans b5
    refine ⟨(N : Int), rfl, by omega, by omega, fun D nD => ?_⟩
    refine lc_pen (N := N) (m := 2) (ok := fun e => ∀ u, e = .str u → u ∈ ws) p5 nD (by omega) (fun _ => rfl) (fun i G hi bG pG R hR => ?_) fun es H6 le he hem hD p6 b6 => ?_
    · exact ⟨_, rfl, _, rfl, d, c, wa, ws, _, rfl, pG, by omega, hw5.but p5 bG, w0l, by omega, fun e G' ee em p' b' => hR e G' ee em p' b'⟩
    refine ⟨D, _, rfl, .inl (.inl (.inl hD)), fun tP H7 hP s7 => ?_⟩
    have b70 : But d H H7 := (b50.trans b6).trans (but_of s7)
    have p7 := p6.keep s7
    have hw7 := (hw5.but p5 b6).same s7
    have p7' : PenAt H7 d c (n + 10) := p7.mono (by omega)
    clear b30 p30 hw3 hl dl sl nl p5 b5 mv hw5 b50 nD hD p6 b6 s7 p7
    -- sort, exact
    refine ⟨_, rfl, d, c, _, 9, rfl, p7', by omega, by decide, by decide, fun j H8 j0 j1 p8 b8 => ⟨_, rfl, d, c, _, 5, rfl, p8, by omega, by decide, by decide, fun k H9 k0 k1 p9 b9 => ⟨rfl, _, _, rfl, ?_⟩⟩⟩
    generalize decide (V.int k = V.int 0) = xe
    have b90 : But d H H9 := (b70.trans b8).trans b9
    have hw9 := (hw7.but p7' b8).but p8 b9
    have hP9 := (pen_kp p8 b9).sqT ((pen_kp p7' b8).sqT hP)
    have p9' : PenAt H9 d c (n + 12) := p9.mono (by omega)
    clear b70 p7' hw7 hP b8 b9 p8 p9 k0 k1
    have le2 : es.length ≤ 2 := by omega
    -- 0
    refine ⟨_, rfl, rfl, _, rfl, if_is (fun e => ?_) (fun e => ?_)⟩
    · exact ⟨_, rfl, _, rfl, _, rfl, by show 4 ≤ sizeLine; decide, done H9 12 tP es .none .non xe (by decide) p9' b90 hP9 rfl ⟨hz', he, le2, rfl⟩ (.inl rfl) (fun u hu => hem _ (by simpa [begD] using hu) u rfl)⟩
    -- 1
    refine ⟨_, rfl, rfl, _, rfl, if_is (fun e1 => ?_) (fun e1 => ?_)⟩
    · refine ⟨_, rfl, _, rfl, by show 1 ≤ sizeLine; decide, fun t1 n1 => ⟨_, rfl, by show 0 ≤ sizeLine; decide, fun t2 n2 => ⟨by show 2 ≤ sizeLine; decide, fun t3 n3 => ⟨by show 4 ≤ sizeLine; decide, ?_⟩⟩⟩⟩
      have s1 := same_new (o := .tup [.str x]) n1
      have u1 : (upd H9 t1 (.tup [.str x])) t1 = some (.tup [.str x]) := upd_same
      generalize upd H9 t1 (.tup [.str x]) = G1 at s1 u1 n2 n3 ⊢
      have s2 := same_new (o := .tup []) n2
      have u2 : (upd G1 t2 (.tup [])) t2 = some (.tup []) := upd_same
      generalize upd G1 t2 (.tup []) = G2 at s2 u2 n3 ⊢
      have s3 := same_new (o := .tup [.str y, .ref t2]) n3
      have sa := (s1.trans s2).trans s3
      exact done _ 12 t1 [.str x] (.tuple [.str y, .tuple []]) (.ref t3) false (by decide) (p9'.keep sa) (b90.trans (but_of sa)) (.inl (.inl (s3 _ _ (s2 _ _ u1)))) ⟨t3, t2, rfl, upd_same, .inl (.inl (s3 _ _ u2))⟩ ⟨hz', by rw [List.all_cons, wrd_ent hx']; rfl, by show 1 ≤ 2; decide, goal_ok hy' rfl (by decide) (fun i hi => absurd hi List.not_mem_nil)⟩ (.inr ⟨_, rfl⟩) (fun u hu => by
        simp [begD, itemsD] at hu
        rw [hu]
        exact hx)
    -- 2
    have onlyI : ∀ (bs : List PyData), (∀ e ∈ bs, e = .int 1 ∨ e = .int 2 ∨ ∃ u, e = .str u) → ∀ i, PyData.int i ∈ bs → PyData.int i ∈ [PyData.int 1, PyData.int 2] := fun bs hb i hi => by
      rcases hb _ hi with h | h | ⟨u, h⟩ <;> cases h
      · exact List.mem_cons_self
      · exact List.mem_cons_of_mem _ List.mem_cons_self
    refine ⟨_, rfl, rfl, _, rfl, if_is (fun e2 => ?_) (fun e2 => ?_)⟩
    · refine ⟨_, rfl, fun v1 G1 h1 _ s1 => ⟨_, rfl, _, rfl, fun va Ga ha _ sa => fun vb Gb hb _ sb => fun vc Gc hc _ sc => ⟨_, rfl, by show 2 ≤ sizeLine; decide, fun t4 n4 => ⟨by show 4 ≤ sizeLine; decide, fun l nl => ?_⟩⟩⟩⟩
      have s4 := same_new (o := .tup [.int 2, .str x]) n4
      have u4 : (upd Gc t4 (.tup [.int 2, .str x])) t4 = some (.tup [.int 2, .str x]) := upd_same
      generalize upd Gc t4 (.tup [.int 2, .str x]) = G4 at s4 u4 nl ⊢
      have s5 := same_new (o := .lst [va, vb, vc, .ref t4]) nl
      have u5 : (upd G4 l (.lst [va, vb, vc, .ref t4])) l = some (.lst [va, vb, vc, .ref t4]) := upd_same
      generalize upd G4 l (.lst [va, vb, vc, .ref t4]) = G5 at s5 u5 ⊢
      have sAll : Same H9 G5 := ((((s1.trans sa).trans sb).trans sc).trans s4).trans s5
      refine ⟨d, c, _, _, rfl, p9'.keep sAll, by omega, .inl ⟨l, _, rfl, u5, by show 0 < 4; decide, by show 4 < 1000000; decide, fun v H10 mv p10 b10 => ⟨by show 2 ≤ sizeLine; decide, fun g ng => ⟨by show 4 ≤ sizeLine; decide, ?_⟩⟩⟩⟩
      have kk := pen_kp (p9'.keep sAll) b10
      obtain ⟨tP1, rfl, hP1⟩ := dp_ents (dp_kp kk (dp_same ((((sa.trans sb).trans sc).trans s4).trans s5) h1)) rfl
      obtain ⟨bs, tb, rfl, hb1, hb2, hb3, hb4, hb5⟩ : ∃ (bs : List PyData) (tb : Addr), v = .ref tb ∧ SqT K H10 tb (bs.map entV) ∧ bs.all isEntD = true ∧ bs.length ≤ 4 ∧ (∀ e ∈ bs, e = .int 1 ∨ e = .int 2 ∨ ∃ u, e = .str u) ∧ ∀ u, PyData.str u ∈ bs → u ∈ ws := by
        simp only [List.mem_cons, List.not_mem_nil, or_false] at mv
        rcases mv with rfl | rfl | rfl | rfl
        · obtain ⟨tb, e, k⟩ := dp_ents (dp_kp kk (dp_same (((sb.trans sc).trans s4).trans s5) ha)) rfl
          exact ⟨_, tb, e, k, rfl, by decide, by simp, by simp⟩
        · obtain ⟨tb, e, k⟩ := dp_ents (dp_kp kk (dp_same ((sc.trans s4).trans s5) hb)) rfl
          exact ⟨_, tb, e, k, rfl, by decide, by simp, by simp⟩
        · obtain ⟨tb, e, k⟩ := dp_ents (dp_kp kk (dp_same (s4.trans s5) hc)) rfl
          exact ⟨_, tb, e, k, rfl, by decide, by simp, by simp⟩
        · exact ⟨[.int 2, .str x], t4, rfl, kk.sqT (.inl (.inl (s5 _ _ u4))), by rw [List.all_cons, List.all_cons, wrd_ent hx']; rfl, by show 2 ≤ 4; decide, by simp, fun u hu => by
            simp at hu
            rw [hu]
            exact hx⟩
      have sg := same_new (o := .tup [.str y, .ref tb]) ng
      exact done _ 13 tP1 [.int 1, .int 2] (.tuple [.str y, .tuple bs]) (.ref g) false (by decide) (p10.keep sg) (((b90.trans (but_of sAll)).trans b10).trans (but_of sg)) (same_seqT sg hP1) ⟨g, tb, rfl, upd_same, same_seqT sg hb1⟩ ⟨hz', rfl, by decide, goal_ok hy' hb2 hb3 (onlyI bs hb4)⟩ (.inr ⟨_, rfl⟩) (fun u hu => by
        simp [begD, itemsD] at hu
        exact hb5 u hu)
    -- 3
    refine ⟨_, rfl, rfl, _, rfl, if_is (fun e3 => ?_) (fun e3 => ?_)⟩
    · refine ⟨_, rfl, fun v1 G1 h1 _ s1 => ⟨_, rfl, _, rfl, fun va Ga ha _ sa => ⟨by show 2 ≤ sizeLine; decide, fun t2 n2 => ⟨_, rfl, _, rfl, by show 1 ≤ sizeLine; decide, fun t3 n3 => ⟨by show 2 ≤ sizeLine; decide, fun t4 n4 => ⟨by show 3 ≤ sizeLine; decide, fun l nl => ?_⟩⟩⟩⟩⟩⟩
      have s2 := same_new (o := .tup [.str y, va]) n2
      have u2 : (upd Ga t2 (.tup [.str y, va])) t2 = some (.tup [.str y, va]) := upd_same
      generalize upd Ga t2 (.tup [.str y, va]) = G2 at s2 u2 n3 n4 nl ⊢
      have s3 := same_new (o := .tup [.str x]) n3
      have u3 : (upd G2 t3 (.tup [.str x])) t3 = some (.tup [.str x]) := upd_same
      generalize upd G2 t3 (.tup [.str x]) = G3 at s3 u3 n4 nl ⊢
      have s4 := same_new (o := .tup [.str y, .ref t3]) n4
      have u4 : (upd G3 t4 (.tup [.str y, .ref t3])) t4 = some (.tup [.str y, .ref t3]) := upd_same
      generalize upd G3 t4 (.tup [.str y, .ref t3]) = G4 at s4 u4 nl ⊢
      have s5 := same_new (o := .lst [.non, .ref t2, .ref t4]) nl
      have u5 : (upd G4 l (.lst [.non, .ref t2, .ref t4])) l = some (.lst [.non, .ref t2, .ref t4]) := upd_same
      generalize upd G4 l (.lst [.non, .ref t2, .ref t4]) = G5 at s5 u5 ⊢
      have sAll : Same H9 G5 := ((((s1.trans sa).trans s2).trans s3).trans s4).trans s5
      refine ⟨d, c, _, _, rfl, p9'.keep sAll, by omega, .inl ⟨l, _, rfl, u5, by show 0 < 3; decide, by show 3 < 1000000; decide, fun v H10 mv p10 b10 => ⟨by show 4 ≤ sizeLine; decide, ?_⟩⟩⟩
      have kk := pen_kp (p9'.keep sAll) b10
      obtain ⟨tP1, rfl, hP1⟩ := dp_ents (dp_kp kk (dp_same ((((sa.trans s2).trans s3).trans s4).trans s5) h1)) rfl
      have bb := (b90.trans (but_of sAll)).trans b10
      simp only [List.mem_cons, List.not_mem_nil, or_false] at mv
      rcases mv with rfl | rfl | rfl
      · exact done H10 13 tP1 [.int 1, .int 1] .none .non false (by decide) p10 bb hP1 rfl ⟨hz', rfl, by decide, rfl⟩ (.inl rfl) (fun u hu => by simp [begD] at hu)
      · obtain ⟨tb, rfl, k⟩ := dp_ents (dp_kp kk (dp_same (((s2.trans s3).trans s4).trans s5) ha)) rfl
        exact done H10 13 tP1 [.int 1, .int 1] (.tuple [.str y, .tuple [.int 1]]) (.ref t2) false (by decide) p10 bb hP1 ⟨t2, tb, rfl, kk _ _ (s5 _ _ (s4 _ _ (s3 _ _ u2))) rfl, k⟩ ⟨hz', rfl, by decide, goal_ok hy' rfl (by decide) (fun i hi => by simp at hi; simp [hi])⟩ (.inr ⟨_, rfl⟩) (fun u hu => by simp [begD, itemsD] at hu)
      · exact done H10 13 tP1 [.int 1, .int 1] (.tuple [.str y, .tuple [.str x]]) (.ref t4) false (by decide) p10 bb hP1 ⟨t4, t3, rfl, kk _ _ (s5 _ _ u4) rfl, kk.sqT (.inl (.inl (s5 _ _ (s4 _ _ u3))))⟩ ⟨hz', rfl, by decide, goal_ok hy' (by rw [List.all_cons, wrd_ent hx']; rfl) (by show 1 ≤ 4; decide) (fun i hi => by simp at hi)⟩ (.inr ⟨_, rfl⟩) (fun u hu => by
          simp [begD, itemsD] at hu
          rw [hu]
          exact hx)
    -- any
    refine ⟨_, rfl, wa, _, rfl, .inl (.inl (.inl hw9.1)), fun l1 n1 => ⟨_, rfl, ?_⟩⟩
    have s1 := same_new (o := .lst (tV ws)) n1
    have u1 : (upd H9 l1 (.lst (tV ws))) l1 = some (.lst (tV ws)) := upd_same
    generalize upd H9 l1 (.lst (tV ws)) = G1 at s1 u1 ⊢
    refine seq_map (.inr (same_seqT s1 hP9)) (by rw [List.length_map]; omega) intV (fun x => x) ?hw (fun v hm G s => ⟨fun R hR => ?_, fun _ G3 s3 R hR => ⟨_, rfl, hR G3 (Same.refl G3)⟩⟩) fun D G2 nD hD s2 => ?_
    case hw => intro _; rfl
    · obtain ⟨e, hee, rfl⟩ := List.mem_map.mp hm
      have he' := List.all_eq_true.mp he e hee
      have vx : Vx K G (entV e) e := .inl ⟨ent_dp he', ok_mono (by decide) (ent_ok7 he')⟩
      have := hR G (Same.refl G)
      rw [int_ent e he'] at this
      exact ⟨_, rfl, entV e, e, rfl, vx, _, rfl, this⟩
    rw [ints_of he] at hD
    have lf : (es.filter isIntD).length ≤ 2 := Nat.le_trans (List.length_filter_le ..) le2
    refine ⟨l1, D, _, _, rfl, rfl, s2 _ _ u1, hD, ?_, fun sm nm => ?_⟩
    · rw [List.length_map, List.length_map]
      exact Nat.le_trans (m := 100) (by omega) (by show 100 ≤ sizeLine; decide)
    obtain ⟨xs2, ex2⟩ : ∃ xs2 : List PyData, xs2 = ws.map PyData.str ++ es.filter isIntD := ⟨_, rfl⟩
    have exs : tV ws ++ (es.filter isIntD).map entV = xs2.map entV := by
      rw [ex2, List.map_append, List.map_map]
      rfl
    have lx2 : 0 < xs2.length ∧ xs2.length ≤ 100 := by
      rw [ex2, List.length_append, List.length_map]
      omega
    have ax2 : ∀ e ∈ xs2, isEntD e = true ∧ (∀ i, e = .int i → .int i ∈ es) ∧ ∀ u, e = .str u → u ∈ ws := by
      intro e hee
      rw [ex2] at hee
      rcases List.mem_append.mp hee with h | h
      · obtain ⟨u, hu, rfl⟩ := List.mem_map.mp h
        exact ⟨wrd_ent (List.all_eq_true.mp hw9.2 u hu), ⟨fun i z => (by cases z), fun v z => (by cases z; exact hu)⟩⟩
      · have := (List.mem_filter.mp h).1
        exact ⟨List.all_eq_true.mp he e this, ⟨fun i z => (by rw [← z]; exact this), fun u z => hem e this u z⟩⟩
    rw [exs]
    have s3 := same_new (o := .lst (xs2.map entV)) nm
    have u3 : (upd G2 sm (.lst (xs2.map entV))) sm = some (.lst (xs2.map entV)) := upd_same
    have sG := (s1.trans s2).trans s3
    generalize upd G2 sm (.lst (xs2.map entV)) = G3 at s3 u3 sG ⊢
    have pG := p9'.keep sG
    have bG := b90.trans (but_of sG)
    have hPG := same_seqT sG hP9
    clear hD u1 n1 nD nm s1 s2 s3 hP9 p9' b90 hw9
    -- the beginning
    refine ⟨_, rfl, fun l xs GL hl dl _ sl nl => ?_⟩
    have lx : xs.length = 7 := dps_len dl
    refine ⟨d, c, _, _, rfl, pG.keep sl, by omega, .inl ⟨l, xs, rfl, hl, by omega, by omega, fun v G5 mv p5 b5 => ?_⟩⟩
    obtain ⟨M, rfl, hM⟩ : ∃ N : Nat, v = .int (N : Int) ∧ N ≤ 4 := by
      obtain ⟨e, hee, hv⟩ := dps_at dl mv
      simp only [List.mem_cons, List.not_mem_nil, or_false] at hee
      rcases hee with rfl | rfl | rfl | rfl | rfl | rfl | rfl <;> cases hv
      · exact ⟨0, rfl, by decide⟩
      · exact ⟨1, rfl, by decide⟩
      · exact ⟨1, rfl, by decide⟩
      · exact ⟨2, rfl, by decide⟩
      · exact ⟨2, rfl, by decide⟩
      · exact ⟨3, rfl, by decide⟩
      · exact ⟨4, rfl, by decide⟩
    have u5 := b5 _ _ (sl _ _ u3) (lst_ne (sl _ _ u3) (pG.keep sl))
    have bG5 : But d H G5 := (bG.trans (but_of sl)).trans b5
    have hP5 := (pen_kp (pG.keep sl) b5).sqT (same_seqT sl hPG)
    refine ⟨(M : Int), rfl, by omega, by omega, fun D nD => ?_⟩
    refine lc_pen (N := M) (m := 1) (ok := fun e => e ∈ xs2) p5 nD (by omega) (fun _ => rfl) (fun i G hi bG pG R hR => ?_) fun bs H6 lb hb hbo hD p6 b6 => ?_
    · refine ⟨_, rfl, _, rfl, d, c, _, _, rfl, pG, by omega, .inl ⟨sm, _, rfl, bG _ _ u5 (lst_ne u5 p5), by rw [List.length_map]; exact lx2.1, by rw [List.length_map]; omega, fun v G' mv p' b' => ?_⟩⟩
      obtain ⟨e, hee, rfl⟩ := List.mem_map.mp mv
      exact hR e G' (ax2 e hee).1 hee p' b'
    refine ⟨D, _, rfl, .inl (.inl (.inl hD)), fun tB H7 hB s7 => ?_⟩
    refine ⟨_, rfl, _, rfl, _, rfl, _, rfl, by show 2 ≤ sizeLine; decide, fun g ng => ⟨_, rfl, by show 4 ≤ sizeLine; decide, ?_⟩⟩
    have sg := same_new (o := .tup [.str y, .ref tB]) ng
    have hP7 := same_seqT sg (same_seqT s7 ((pen_kp p5 b6).sqT hP5))
    exact done _ 30 tP es (.tuple [.str y, .tuple bs]) (.ref g) xe (by decide) (((p6.keep s7).keep sg).mono (by omega)) (((bG5.trans b6).trans (but_of s7)).trans (but_of sg)) hP7 ⟨g, tB, rfl, upd_same, same_seqT sg hB⟩ ⟨hz', he, le2, goal_ok hy' hb (by omega) (fun i hi => (ax2 _ (hbo _ hi)).2.1 i rfl)⟩ (.inr ⟨_, rfl⟩) (fun u hu => by
      rcases List.mem_append.mp hu with h | h
      · exact hem _ h u rfl
      · exact (ax2 _ (hbo _ h)).2.2 u rfl)
end
end RL

-- NOMAP
namespace RL
open PySem L2 SX AddrMath VA PySem.W GR TxSet
/-! ## rules that the law draws -/
def PlainS (K : Frag) (H : Hp) (a : Addr) (s : Said) : Prop := PlainAt K H a s.1 s.2.1 (goalSD s.2.2.1) s.2.2.2
/-- a rule of these states and these words -/
def ofS (ss ws : List Str) (s : Said) : Prop := s.1 ∈ ss ∧ (∀ g, s.2.2.1 = some g → g.1 ∈ ss) ∧ ∀ u ∈ wordsS s, u ∈ ws
def PlainsAt (K : Frag) (H : Hp) (ss ws : List Str) (as : List Addr) (L : List Said) : Prop := as.length = L.length ∧ ∀ (i : Nat) (a : Addr) (s : Said), as[i]? = some a → L[i]? = some s → PlainS K H a s ∧ okS s ∧ ofS ss ws s
theorem goal_at_D {K : Frag} {H : Hp} {gV : V} {gd : PyData} (h : GoalAt K H gV gd) : GoalAt K H gV (goalSD (goalP gd)) := by
  rw [goalS_P]
  match gd, h with
  | .none, h => exact h
  | .tuple [.str y, b], ⟨g, tb, e, h1, h2⟩ => exact ⟨g, tb, e, h1, h2⟩
theorem plain_S {K : Frag} {H : Hp} {a : Addr} {z : Str} {es : List PyData} {gd : PyData} {x : Bool} (h : PlainAt K H a z es gd x) : PlainS K H a (z, es, goalP gd, x) := by
  obtain ⟨tP, gV, h1, h2, h3⟩ := h
  exact ⟨tP, gV, h1, h2, goal_at_D h3⟩
theorem ok_S {z : Str} {es : List PyData} {gd : PyData} {x : Bool} (ok : okRule z es gd) : okS (z, es, goalP gd, x) := by
  obtain ⟨o1, o2, o3, o4⟩ := ok
  refine ⟨o1, o2, o3, ?_⟩
  show isGoalD (goalSD (goalP gd)) (.tuple es) = true
  rcases goal_parts o4 with rfl | ⟨y, b, rfl, gy, gb⟩
  · rfl
  · obtain ⟨b1, b2, b3⟩ := areEnt_parts gb
    have o4' : (isW y.cps.toList && (areEntD 4 b && (itemsD b).all fun e => isWordD e || inD e es)) = true := o4
    rw [Bool.and_eq_true, Bool.and_eq_true] at o4'
    show (isW y.cps.toList && (areEntD 4 (.tuple (itemsD b)) && (itemsD b).all fun e => isWordD e || inD e es)) = true
    have ar : areEntD 4 (.tuple (itemsD b)) = true := by
      show (true && (decide (((itemsD b).length : Int) ≤ 4) && (itemsD b).all isEntD)) = true
      rw [b3, decide_eq_true (by omega)]
      rfl
    rw [o4'.1, ar, o4'.2.2]
    rfl
theorem beg_D {z : Str} {es : List PyData} {gd : PyData} (ok : okRule z es gd) : begD (goalSD (goalP gd)) = begD gd := by
  rcases goal_parts ok.2.2.2 with rfl | ⟨y, b, rfl, _, _⟩ <;> rfl
theorem of_S {ss ws : List Str} {z : Str} {es : List PyData} {gd : PyData} {x : Bool} (ok : okRule z es gd) (h1 : z ∈ ss) (h2 : ∀ y b, gd = .tuple [.str y, b] → y ∈ ss) (h3 : ∀ u, PyData.str u ∈ es ++ begD gd → u ∈ ws) : ofS ss ws (z, es, goalP gd, x) := by
  refine ⟨h1, fun g e => ?_, fun u hu => ?_⟩
  · rcases goal_parts ok.2.2.2 with rfl | ⟨y, b, rfl, _, _⟩
    · cases e
    · cases e
      exact h2 y b rfl
  · have hu' := mem_strsD.mp hu
    rw [show begD (goalSD (z, es, goalP gd, x).2.2.1) = begD gd from beg_D ok] at hu'
    exact h3 u hu'
theorem lim_none {ss ws : List Str} {L : List Said} (h : ∀ s ∈ L, ofS ss ws s) (l12 : L.length ≤ 12) (l1 : ss.length ≤ 6) (l2 : ws.length ≤ 6) : limS L = none := by
  have h1 : (dd (statesL L)).length ≤ ss.length := nd_le (dd_nd _) fun z hz => by
    have hz := dd_mem.mp hz
    unfold statesL at hz
    rcases List.mem_append.mp hz with hz | hz
    · obtain ⟨s, hs, rfl⟩ := List.mem_map.mp hz
      exact (h s hs).1
    · obtain ⟨s, hs, e⟩ := List.mem_filterMap.mp hz
      cases e2 : s.2.2.1 with
      | none => rw [e2] at e; cases e
      | some g =>
        rw [e2] at e
        cases e
        exact (h s hs).2.1 g e2
  have h2 : (dd (wordsL L)).length ≤ ws.length := nd_le (dd_nd _) fun z hz => by
    have hz := dd_mem.mp hz
    obtain ⟨s, hs, hu⟩ := List.mem_flatMap.mp hz
    exact (h s hs).2.2 z hu
  unfold limS
  rw [if_neg (by omega), if_neg (by omega), if_neg (by omega)]
theorem plainS_kp {K : Frag} {H H' : Hp} {a : Addr} {s : Said} (h : PlainS K H a s) (k : Kp H H') : PlainS K H' a s := by
  obtain ⟨tP, gV, h1, h2, h3⟩ := h
  exact ⟨tP, gV, k.sqT h1, k.sqT h2, goal_at_kp h3 k⟩
theorem plainsAt_kp {K : Frag} {H H' : Hp} {ss ws : List Str} {as : List Addr} {L : List Said} (h : PlainsAt K H ss ws as L) (k : Kp H H') : PlainsAt K H' ss ws as L := ⟨h.1, fun i a s e1 e2 => ⟨plainS_kp (h.2 i a s e1 e2).1 k, (h.2 i a s e1 e2).2⟩⟩
theorem plainS_but {K : Frag} {D a : Addr} {H H' : Hp} {xs : List V} {s : Said} (hD : H D = some (.lst xs)) (b : But D H H') (h : PlainS K H a s) : PlainS K H' a s := by
  obtain ⟨tP, gV, h1, h2, hG⟩ := h
  have ne : ∀ {a : Addr} {o : HO}, H a = some o → (∀ ys, o ≠ .lst ys) → a ≠ D := fun e n z => by
    rw [z, hD] at e
    exact n xs (Option.some.inj e).symm
  have kt : ∀ {t : Addr} {ys : List V}, SqT K H t ys → SqT K H' t ys := fun {t ys} h => by
    rcases h with (h | ⟨u, h⟩) | h
    · exact .inl (.inl (b _ _ h (ne h fun _ q => by cases q)))
    · exact .inl (.inr ⟨u, b _ _ h (ne h fun _ q => by cases q)⟩)
    · exact .inr h
  have kg : GoalAt K H' gV (goalSD s.2.2.1) := by
    obtain ⟨z, es, g, x⟩ := s
    match g, hG with
    | none, h => exact h
    | some (y, c), h =>
      obtain ⟨g, tb, e, h1, h2⟩ := h
      exact ⟨g, tb, e, b _ _ h1 (ne h1 fun _ q => by cases q), kt h2⟩
  exact ⟨tP, gV, kt h1, kt h2, kg⟩
theorem plains_snoc {K : Frag} {a : Addr} {H : Hp} {ss ws : List Str} {as : List Addr} {L : List Said} {s : Said} (h : PlainsAt K H ss ws as L) (k : PlainS K H a s ∧ okS s ∧ ofS ss ws s) : PlainsAt K H ss ws (as ++ [a]) (L ++ [s]) := by
  refine ⟨by rw [List.length_append, List.length_append, h.1]; rfl, fun i q r hq hr => ?_⟩
  rcases Nat.lt_or_ge i as.length with c | c
  · rw [List.getElem?_append_left c] at hq
    rw [List.getElem?_append_left (by rw [← h.1]; exact c)] at hr
    exact h.2 i q r hq hr
  · rw [List.getElem?_append_right c] at hq
    rw [List.getElem?_append_right (by rw [← h.1]; exact c)] at hr
    have e0 : i - as.length = 0 := by
      rcases Nat.eq_zero_or_pos (i - as.length) with e | e
      · exact e
      · rw [List.getElem?_eq_none (by show 1 ≤ i - as.length; exact e)] at hq
        cases hq
    rw [e0] at hq
    rw [← h.1, e0] at hr
    cases hq
    cases hr
    exact k
theorem plainsAt_but {K : Frag} {D : Addr} {H H' : Hp} {xs : List V} {ss ws : List Str} {as : List Addr} {L : List Said} (hD : H D = some (.lst xs)) (b : But D H H') (h : PlainsAt K H ss ws as L) : PlainsAt K H' ss ws as L := ⟨h.1, fun i a s e1 e2 => ⟨plainS_but hD b (h.2 i a s e1 e2).1, (h.2 i a s e1 e2).2⟩⟩
section
variable {P : Program} {w : World} {K : Frag} {mg : Str → Option Value} {base : Heap}
/-! ### _law_rules: slots _law_pen_here 0, _law_states 1, _law_words_here 2, _law_most 3, _law_k 4 -/
abbrev sLRules : Stmt := top 63
theorem scLRules : FnScope ["_law_pen_here", "_law_states", "_law_words_here", "_law_most", "_law_k"] ["_law_pen_here", "_law_states", "_law_words_here", "_law_most"] (defScope sLRules) := ⟨rfl, rfl, rfl, by decide +kernel, rfl, by decide +kernel, by decide +kernel⟩
def spRules (K : Frag) : Sp := fun vs H Q _ => ∃ (d c sa wa : Addr) (ss ws : List Str) (n most : Nat), vs = [.ref d, .ref sa, .ref wa, .int (most : Int)] ∧ PenAt H d c n ∧ n ≤ 600000 ∧ LW H sa ss ∧ LW H wa ws ∧ 0 < ss.length ∧ ss.length ≤ 100 ∧ 0 < ws.length ∧ ws.length ≤ 90 ∧ 0 < most ∧ most ≤ 20 ∧
  ∀ (l : Addr) (as : List Addr) (L : List Said) (H' : Hp), H' l = some (.lst (as.map V.ref)) → PlainsAt K H' ss ws as L → L.length ≤ most → PenAt H' d c (n + 1 + 60 * most) → But d H H' → Q (.ref l) H'
theorem ok_lrules {f : Addr} {fd : FuncData} (F : Fun K "_law_rules" "_law_rules" sLRules f fd) (B : Blt mg) (draw : Own P w K mg base CX0 1 "_law_draw" ["_law_pen_here", "_law_many"] spDraw)
    (rule : Own P w K mg base CX0 4 "_law_rule" ["_law_pen_here", "_law_states", "_law_words_here"] (spRuleM K)) : FnOk P w K mg base CX0 5 f fd ["_law_pen_here", "_law_states", "_law_words_here", "_law_most"] (spRules K) := by
  refine F.ok scLRules (fun vs H Q E h => ?_) (fun cdv A outer s0 H vs Q E hr h => ?_)
  · obtain ⟨d, c, sa, wa, ss, ws, n, m, rfl, _⟩ := h
    rfl
  · obtain ⟨d, c, sa, wa, ss, ws, n, m, rfl, p, hn, hs, hw, s0l, s1l, w0l, w1l, m0, m1, q⟩ := h
    refine ⟨_, (pss_one (ps_ret (pe_lc (own := [("_law_k", 4)]) (g := gName 4) (tt := tYes) rfl scLRules.nd (pi_range1 (by rfl) B.range_ (pa_cons (pe_op op_add pe_int (pe_call draw.g (hr.mono (by decide)) rfl draw.mg draw.kp draw.b .nil pass0 (pa_cons (pv 0) (pa_cons (pv 3) pa_nil)))) pa_nil))
          (blkOk_by (own := [("_law_k", 4)]) (N := ["_law_pen_here", "_law_states", "_law_words_here", "_law_most", "_law_k"]) (sc := defScope sLRules) (by decide +kernel))
          (fun _ _ _ _ _ => (pg_name (i := 4) scLRules.nd rfl (Or.inl rfl))) (fun _ _ _ _ _ => pts_nil)
          (fun _ _ _ _ _ => (pe_call rule.g (hr.mono (by decide)) rfl rule.mg rule.kp rule.b .nil pass0 (pa_cons (pv 0) (pa_cons (pv 1) (pa_cons (pv 2) pa_nil)))))))), ?_⟩
    refine ⟨_, rfl, _, rfl, d, c, n, (m : Int), rfl, p, by omega, by omega, by omega, fun j H1 j0 j1 p1 b1 => ?_⟩
    obtain ⟨N, rfl, hN⟩ : ∃ N : Nat, j = (N : Int) ∧ N < m := ⟨j.toNat, by omega, by omega⟩
    refine ⟨_, _, rfl, rfl, (1 + (N : Int)), rfl, by omega, by omega, fun D nD => ?_⟩
    have hs1 := hs.but p b1
    have hw1 := hw.but p b1
    have hDd : D ≠ d := fun z => p1.ne (by rw [← z]; exact nD)
    have hDc : D ≠ c := fun z => p1.neC (by rw [← z]; exact nD)
    refine lc_range (lo := 0) (n := (1 + N)) (fun i G => PenAt G d c (n + 1 + 60 * i) ∧ But d H1 G ∧ ∃ (as : List Addr) (L : List Said), G D = some (.lst (as.map V.ref)) ∧ L.length = i ∧ PlainsAt K G ss ws as L)
      ⟨(p1.keep (same_new nD)).mono (by omega), but_of (same_new nD), [], [], upd_same, rfl, rfl, fun i a s e => by cases e⟩ ?_ ?_
    · rintro i G hi ⟨p2, b2, as, L, hD, hL, hA⟩
      refine ⟨rfl, no_test fun G2 s2 => iteT ?_⟩
      have b20 := b2.trans (but_of s2)
      have p20 := p2.keep s2
      refine ⟨_, rfl, _, rfl, _, rfl, d, c, sa, wa, ss, ws, _, rfl, p20, by omega, hs1.but p1 b20, hw1.but p1 b20, s0l, s1l, w0l, w1l, fun a z es gd x G3 ok k1 k2 k3 hP p3 b3 => ?_⟩
      have hD2 := s2 _ _ hD
      have hD3 := b3 _ _ hD2 hDd
      have hA3 : PlainsAt K G3 ss ws as L := plainsAt_kp hA ((kp_same s2).trans (pen_kp p20 b3))
      have hA4 := plains_snoc hA3 ⟨plain_S hP, ok_S ok, of_S ok k1 k2 k3⟩
      refine ⟨_, hD3, size_lt (by rw [List.length_map, hA.1, hL]; omega), ?_, ((b20.trans b3)).put nD, as ++ [a], L ++ [(z, es, goalP gd, x)], ?_, ?_, plainsAt_but hD3 But.upd hA4⟩
      · exact (p3.mono (by omega)).put hDd hDc
      · rw [upd_same, List.map_append]
        rfl
      · rw [List.length_append, hL]
        rfl
    · rintro G ⟨p2, b2, as, L, hD, hL, hA⟩
      exact q D as L G hD hA (by omega) (p2.mono (by omega)) (b1.trans b2)
/-! ### _law_made: slots _law_rules_here 0, _law_one 1 -/
abbrev sLMade : Stmt := top 65
theorem scLMade : FnScope ["_law_rules_here", "_law_one"] ["_law_rules_here"] (defScope sLMade) := ⟨rfl, rfl, rfl, by decide +kernel, rfl, by decide +kernel, by decide +kernel⟩
def spLMade (K : Frag) (C CB : Addr) : Sp := fun vs H Q _ => ∃ (l : Addr) (ss ws : List Str) (as : List Addr) (L : List Said), vs = [.ref l] ∧ H l = some (.lst (as.map V.ref)) ∧ PlainsAt K H ss ws as L ∧ L.length ≤ 12 ∧ ss.length ≤ 6 ∧ ws.length ≤ 6 ∧
  ∀ b t ps H', BookAt K C CB H' b t ps L → Same H H' → Q (.ref b) H'
theorem rule_S {C p : Addr} {H : Hp} {s : Said} (h : RuleAt K C H p s.1 (.tuple s.2.1) (goalSD s.2.2.1) s.2.2.2) : RuleS K C H p s := h
theorem ok_lmade {f C CB CM pO fO : Addr} {fd fdO : FuncData} {mc : Value} (F : Fun K "_law_made" "_law_made" sLMade f fd) (TB : BTxt K mg CB)
    (made_rule : Own P w K mg base CX0 8 "_law_made_rule" ["_law_one"] (spMade K C))
    (rdc : ClX.CRead K CB mc) (cmo : ClX.CMet K CB mc "of" pO fO) (GO : FnOk P w K mg base (L2.CX P w) 7 fO fdO ["cls", "rules"] (spBOf K C CB CM)) (bO : Binds K fdO ["cls", "rules"] []) : FnOk P w K mg base CX0 9 f fd ["_law_rules_here"] (spLMade K C CB) := by
  refine F.ok scLMade (fun vs H Q E h => ?_) (fun cdv A outer s0 H vs Q E hr h => ?_)
  · obtain ⟨l, ss, ws, as, L, rfl, _⟩ := h
    rfl
  · obtain ⟨l, ss, ws, as, L, rfl, hl, hA, few, ls, lw, q⟩ := h
    refine ⟨_, (pss_one (ps_ret (pe_cmethS (E := fun _ => E0) (pe_glob (v := .ref CB) (by rfl) TB.mgC rfl) rdc cmo GO (hr.mono (by decide)) bO (fun σ pins H s e s' I c => pass_none pins σ H s e s' I c) (pa_cons (pe_lc (own := [("_law_one", 1)]) (g := gName 1) (tt := tYes) rfl scLMade.nd (pi_seq (pv 0))
          (blkOk_by (own := [("_law_one", 1)]) (N := ["_law_rules_here", "_law_one"]) (sc := defScope sLMade) (by decide +kernel))
          (fun _ _ _ _ _ => (pg_name (i := 1) scLMade.nd rfl (Or.inl rfl))) (fun _ _ _ _ _ => pts_nil)
          (fun _ _ _ _ _ => (pe_call made_rule.g hr rfl made_rule.mg made_rule.kp made_rule.b .nil pass0 (pa_cons (pv 1) pa_nil)))) pa_nil)))), ?_⟩
    refine ⟨rfl, _, rfl, l, rfl, .inl ⟨⟨_, .inl (.inl hl)⟩, fun D nD => ?_⟩⟩
    refine lc_list (K := K) (a := l) (xs := as.map V.ref) (fun i G => Same H G ∧ ∃ ps : List Addr, G D = some (.lst (ps.map V.ref)) ∧ RulesAt K C G ps (L.take i) ∧ ps.length = i) ⟨same_new nD, [], upd_same, ⟨rfl, fun i p s e => by cases e⟩, rfl⟩ (fun i G _ h => .inl (.inl (h.1 _ _ hl))) ?_ ?_
    · rintro i v G hx ⟨sG, ps, hD, hR, hlen⟩
      rw [List.getElem?_map] at hx
      cases ea : as[i]? with
      | none => rw [ea] at hx; cases hx
      | some a =>
        rw [ea] at hx
        cases hx
        have hi : i < as.length := by
          rcases Nat.lt_or_ge i as.length with h | h
          · exact h
          · rw [List.getElem?_eq_none h] at ea; cases ea
        have hiL : i < L.length := by rw [← hA.1]; exact hi
        have es : L[i]? = some L[i] := List.getElem?_eq_getElem hiL
        obtain ⟨hP, hok, _⟩ := hA.2 i a _ ea es
        generalize L[i] = s at es hP hok
        refine ⟨rfl, no_test fun G2 s2 => iteT ⟨_, rfl, a, s.1, s.2.1, goalSD s.2.2.1, s.2.2.2, rfl, plainS_kp hP (kp_same (sG.trans s2)), hok, fun p G3 hRu s3 => ?_⟩⟩
        have hD3 := s3 _ _ (s2 _ _ hD)
        have hR3 := rules_snoc ((hR.same s2).same s3) (rule_S hRu) hok
        refine ⟨_, hD3, size_lt (by rw [List.length_map, hlen]; have := hA.1; omega), fun b o hb => ?_, ps ++ [p], ?_, ?_, ?_⟩
        · rw [upd_ne (ne_of_none hb nD)]
          exact s3 _ _ (s2 _ _ (sG _ _ hb))
        · rw [upd_same, List.map_append]
          rfl
        · rw [take_snoc es]
          exact rules_but hD3 But.upd hR3
        · rw [List.length_append, hlen]
          rfl
    · rintro G ⟨sG, ps, hD, hR, hlen⟩
      rw [List.length_map, hA.1, List.take_length] at hR
      refine ⟨D, ps, L, rfl, .inl (.inl (.inl hD)), hR, by omega, fun n hn => ?_, fun hn b t H' hB s' nb => q b t ps H' hB (sG.trans s')⟩
      rw [lim_none (fun s hs => by
        obtain ⟨i, hi, e⟩ := List.getElem_of_mem hs
        have ha : i < as.length := by rw [hA.1]; exact hi
        exact (hA.2 i as[i] s (List.getElem?_eq_getElem ha) (by rw [← e]; exact List.getElem?_eq_getElem hi)).2.2) (by omega) ls lw] at hn
      cases hn
end
end RL

/-! What is kept in a law that draws from a pen and makes lambdas. -/
namespace RL
open PySem L2 SX AddrMath VA LamX
def notTb : HO → Bool
  | .tbl _ => false
  | _ => true
/-- kept, whatever the pen (at d) and the tables of code objects do -/
def Kd (d : Addr) (H H' : Hp) : Prop := ∀ b o, H b = some o → b ≠ d → notTb o = true → H' b = some o
theorem kd_same {d : Addr} {H H' : Hp} (s : Same H H') : Kd d H H' := fun b o e _ _ => s b o e
theorem kd_but {d : Addr} {H H' : Hp} (s : But d H H') : Kd d H H' := fun b o e n _ => s b o e n
theorem kd_ext {d : Addr} {H H' : Hp} (s : ExtN H H') : Kd d H H' := fun b o e _ n => s b o e fun ps z => by rw [z] at n; cases n
theorem Kd.trans {d : Addr} {H H' H2 : Hp} (s : Kd d H H') (r : Kd d H' H2) : Kd d H H2 := fun b o e n t => r b o (s b o e n t) n t
theorem pen_ext {H H' : Hp} {d c : Addr} {n : Nat} (p : PenAt H d c n) (s : ExtN H H') : PenAt H' d c n := by
  obtain ⟨ns, k, r, h1, h2, h3⟩ := p
  exact ⟨ns, k, r, s _ _ h1 (fun _ z => by cases z), s _ _ h2 (fun _ z => by cases z), h3⟩
theorem tabs_same {T : List (Addr × Str)} {H H' : Hp} (h : Tabs T H) (s : Same H H') : Tabs T H' := fun p hp => (h p hp).ext s
theorem tabs_but {T : List (Addr × Str)} {H H' : Hp} {d c : Addr} {n : Nat} (h : Tabs T H) (p : PenAt H d c n) (s : But d H H') : Tabs T H' := fun q hq => by
  obtain ⟨ns, k, r, h1, _⟩ := p
  obtain ⟨ps, e, t, f⟩ := h q hq
  refine ⟨ps, s _ _ e (ne_of e h1 fun z => by cases z), t, fun pos cv hc => ?_⟩
  obtain ⟨u, rfl, hu⟩ := f pos cv hc
  exact ⟨u, rfl, s _ _ hu (ne_of hu h1 fun z => by cases z)⟩
def notDk : HO → Bool
  | .dK _ => false
  | .tbl _ => false
  | _ => true
/-- what is neither a dict nor a table is kept -/
theorem Kd.at_ {d c : Addr} {n : Nat} {H H' : Hp} (k : Kd d H H') (p : PenAt H d c n) {b : Addr} {o : HO} (h : H b = some o) (nd : notDk o = true) : H' b = some o := by
  obtain ⟨ns, s, r, h1, _⟩ := p
  exact k b o h (ne_of h h1 fun z => by rw [z] at nd; cases nd) (by cases o <;> first | rfl | cases nd)
theorem Kd.kp {d c : Addr} {n : Nat} {H H' : Hp} (k : Kd d H H') (p : PenAt H d c n) : Kp H H' := fun b o h s => k.at_ p h (by cases o <;> first | rfl | cases s)
theorem vy_kd {K : PySem.W.Frag} {H H' : Hp} {d c : Addr} {n : Nat} {v : V} (h : Vy K H d v) (p : PenAt H d c n) (k : Kd d H H') : Vy K H' d v := by
  rcases h with ⟨x, hx, o⟩ | ⟨a, kvs, e, nd, ha⟩
  · exact .inl ⟨x, dp_kp (k.kp p) hx, o⟩
  · exact .inr ⟨a, kvs, e, nd, k a _ ha nd rfl⟩
end RL

/-! The end of a row whose law makes lambdas and knows that no repr is under way. -/
namespace GR
open PySem PySem.Spec PyProof.Rows L2 SX
section
variable {pr : Program} {wo : World} {F : PySem.W.Frag} {gl gb : Str → Option Value} {tabs : List (Addr × Addr)} {s : Shared} {H : Hp} {sc : Addr}
/-- a table of the list -/
abbrev IsTab (tabs : List (Addr × Addr)) (b : Addr) : Prop := ∃ p ∈ tabs, p.2 = b
/-- the heap behind the top with the script and the tables in view -/
theorem quiet_tabs {n : Nat} {at_ : Addr} {fd : FuncData} {x : Str} {sp : Sp} {its : Array Value}
    (inF : F.In s.heap) (nsm : s.heap.Ns mainGlobals gl) (nsb : s.heap.Ns builtinsNs gb) (bb : ∀ y : Str, y ≠ "__name__" → gb y = bootBuiltins y) (lim : s.heap.NoLimit) (ng : s.gens = #[])
    (mb : ∃ (m : Addr) (o : Obj), gl "__builtins__" = some (.ref m) ∧ m ≠ builtinsNs ∧ s.heap.get? m = some o ∧ o.cls = .type "module" ∧ o.dict = some builtinsNs ∧ o.data = .plain)
    (empty : ∀ p ∈ tabs, s.heap.get? p.2 = some { cls := .none, data := .fields #[] }) (off : ∀ p ∈ tabs, F.lookup p.2 = none) (codes : ∀ p ∈ tabs, PySem.W.CodeHd s.heap p.1 p.2)
    (atS : s.heap.get? sc = some { cls := .type "list", data := .seq its }) (room : Room n callerA)
    (D : ∀ b0 : Heap, F.In b0 → b0.Ns mainGlobals gl → (∀ p ∈ tabs, LamX.TabB b0 gl p.1 p.2) → FnQ pr wo F gl b0 n at_ fd [x] sp) (binds : ∀ (s : Shared) (u : Value), BindsTo s fd ⟨[u], []⟩ [(x, u)])
    (want : sp [.ref sc] H (fun v _ => v = .bl true) fun _ _ _ => False)
    (seeT : ∀ p ∈ tabs, H p.2 = some (.tbl #[])) (kinds : ∀ b, H b = none ∨ IsTab tabs b ∨ ∃ o xs, H b = some (.frz o (.lst xs))) (ok : HOk pr wo H s.heap) (isS : ∀ b, H b ≠ none → b = sc ∨ IsTab tabs b) (away : H sc ≠ none → F.lookup sc = none) :
    codeAny (model pr wo) callerA (.call (.ref at_) ⟨[.ref sc], []⟩) (fun r s' => r = .ok (.ret (.bool true)) ∧ OldK s.heap s'.heap ∧ s'.os = s.os ∧ AllBare s'.gens) s := by
  have tabO : ∀ {b}, IsTab tabs b → s.heap.get? b = some { cls := .none, data := .fields #[] } := by
    rintro b ⟨p, hp, rfl⟩
    exact empty p hp
  -- what is neither the script nor a table stands in the base
  have seen : ∀ {b : Addr} {o : Obj}, s.heap.get? b = some o → ((∃ v k, o.data = .seq v k) → H b = none) → o.data ≠ .fields #[] → (hidT s.heap H).get? b = some o := fun {b o} e h1 h2 => hidT_get e (by
    cases q : H b with
    | none => rfl
    | some u =>
      exfalso
      rcases isS b (by rw [q]; exact fun z => nomatch z) with rfl | tb
      · rw [h1 ⟨its, _, by rw [atS] at e; cases e; rfl⟩] at q
        cases q
      · rw [tabO tb] at e
        cases e
        exact h2 rfl)
  have names : ∀ {b : Addr} {m : Str → Option Value}, s.heap.Ns b m → (hidT s.heap H).Ns b m := by
    rintro b m ⟨o, es, ep, e, d, rest⟩
    exact ⟨o, es, ep, seen e (fun ⟨_, _, z⟩ => by rw [d] at z; cases z) (fun z => by rw [d] at z; cases z), d, rest⟩
  have inB : F.In (hidT s.heap H) := fun b o e => hidT_get (inF b o e) (by
    cases q : H b with
    | none => rfl
    | some u =>
      exfalso
      rcases isS b (by rw [q]; exact fun z => nomatch z) with rfl | ⟨p, hp, rfl⟩
      · rw [away (by rw [q]; exact fun z => nomatch z)] at e
        cases e
      · rw [off p hp] at e
        cases e)
  have made : ∀ p ∈ tabs, LamX.TabB (hidT s.heap H) gl p.1 p.2 := by
    intro p hp
    have ep := empty p hp
    obtain ⟨o, vs, t1, t2, t3, t4, t5, t6, t7, c1, c2, c3, c4, rest⟩ := codes p hp
    obtain ⟨m, om, m1, m2, m3, m4, m5, m6⟩ := mb
    obtain ⟨og, eg, kg, g1, g2, _⟩ := nsm
    refine ⟨⟨o, vs, t1, t2, t3, t4, t5, t6, t7, seen c1 (fun ⟨_, _, z⟩ => by rw [c3] at z; cases z) (fun z => by rw [c3] at z; cases z; simp at c4), c2, c3, c4, rest⟩, ⟨m, om, m1, m2, fun q => ?_, fun q => ?_, seen m3 (fun ⟨_, _, z⟩ => by rw [m6] at z; cases z) (fun z => by rw [m6] at z; cases z), m4, m5, m6⟩, fun q => ?_⟩
    · rw [q, g1] at m3
      cases m3
      rw [g2] at m6
      cases m6
    · rw [q, ep] at m3
      cases m3
      cases m6
    · rw [q, ep] at g1
      cases g1
      cases g2
  have e0 : Env0 pr wo F gl (hidT s.heap H) callerA [] s H := by
    refine ⟨rfl, ⟨inB, names nsm, ⟨gb, names nsb, bb⟩, ?_⟩, fun b o e => of_hidT e, Nat.le_of_eq (hidT_size _ _), trivial, ?_, ok, .of_eq ng⟩
    · obtain ⟨mc, h1, h2⟩ := lim
      exact ⟨mc, names h1, h2⟩
    · intro b hb
      cases (show b ∈ ([] : List Addr) from hb)
  refine codeAny_mono ((D _ inB (names nsm) made).runs callerA [] s H ⟨[.ref sc], []⟩ [.ref sc] [.ref sc] _ _ rfl room e0 (binds s (.ref sc)) (.cons rfl .nil) want) ?_
  rintro (e | fl) s' h
  · exact (show False from h).elim
  cases fl with
  | next => exact (show False from h).elim
  | brk => exact (show False from h).elim
  | cont => exact (show False from h).elim
  | ret u =>
    obtain ⟨v, H', os, bare, un, ok', rel, q⟩ := h
    cases (show v = V.bl true from q)
    cases (show u = Value.bool true from rel)
    have stays : ∀ b o, ¬ IsTab tabs b → s.heap.get? b = some o → s'.heap.get? b = some o := fun b o nt e => by
      cases q : H b with
      | none => exact un.keep b o e q (fun z => by cases (show b ∈ ([] : List Addr) from z)) (by simp)
      | some u =>
        rcases kinds b with z | z | ⟨ob, xs, z⟩
        · rw [q] at z
          cases z
        · exact absurd z nt
        · have p1 := (ok b _ z).1
          have p2 := (ok' b _ (un.frzs b ob _ z)).1
          rw [e] at p1
          cases p1
          exact p2
    have more : ∀ {b}, IsTab tabs b → ∃ ys : Array Value, s'.heap.get? b = some { cls := .none, data := .fields ys } := by
      rintro b ⟨p, hp, rfl⟩
      obtain ⟨ys, z⟩ := un.tbls p.2 #[] (seeT p hp)
      exact ⟨_, ok' p.2 _ z⟩
    refine ⟨rfl, ⟨fun b o e => ?_, fun b o e => ?_⟩, os, bare⟩
    · by_cases tb : IsTab tabs b
      · obtain ⟨ys, hy⟩ := more tb
        have t0 := tabO tb
        obtain ⟨p, hp, rfl⟩ := tb
        rw [e] at t0
        cases t0
        exact .inr (.inl ⟨((codes p hp).tab (empty p hp)).isCodeTable, rfl, #[], ys, rfl, by rw [Array.empty_append]; exact hy⟩)
      · exact .inl (stays b o tb e)
    · by_cases tb : IsTab tabs b
      · obtain ⟨ys, hy⟩ := more tb
        exact ⟨_, hy⟩
      · exact ⟨o, stays b o tb e⟩
end
end GR

/-! The end of a row whose law makes lambdas: the law's own table of code objects. -/
namespace GR
open PySem PySem.Spec PyProof.Rows L2 SX
section
variable {pr : Program} {wo : World} {F : PySem.W.Frag} {gl : Str → Option Value} {b0 : Heap}
theorem quiet_fnC {x qual : Str} {st : Stmt} {at_ c : Addr} {fd : FuncData} {N names : List Str} {n : Nat} {sp : Sp} (D : ∃ oc od kV doc pm an ct osl, fd = PySem.W.fnOf x qual (defArgs st) (defBody st) (defScope st) .none kV doc pm an (.ref c) ct ∧ F.lookup at_ = some ⟨oc, od, .func fd, osl⟩ ∧ PySem.W.codeIn F (.ref c) qual = true) (S : FnScope N names (defScope st))
    (many : ∀ vs H Q E, sp vs H Q E → vs.length = names.length)
    (body : ∀ (Ar : Around) (fs : List Env) (s : Shared) (H : Hp) (vs : List V) (Q : VK) (E : XK), Quiet Ar →
      Room n (Ar.deeper (envOfC qual (defScope st) s.heap.objs.size at_ (.ref c))) → sp vs H Q E →
      ∃ t, PSs (cxOf CX0 pr wo F gl b0 N qual (defScope st) at_ (.ref c) Ar fs s H E).nox (defBody st) t ∧
        t { nx := fun _ H' => Q .non H', rt := Q } (start N vs) H) :
    FnQ pr wo F gl b0 (n + 1) at_ fd names sp := by
  obtain ⟨oc, od, kV, doc, pm, an, ct, osl, rfl, here, code⟩ := D
  refine ⟨many, ?_⟩
  intro Ar fs s H gs us vs Q E quiet room e0 binds rel want
  have FX : F.In s.heap := e0.mod.kin.keeps (fun b o e => (e0.bs b o e).1)
  have lim : s.heap.NoLimit := e0.mod.nolimit.keeps (fun b o e => (e0.bs b o e).1)
  refine codeAny_call_function room.depth (FX _ _ here) rfl S.co S.gen rfl (PySem.W.codeRec_of FX code) (binds _ _ _ _ ?_)
  refine wpAny_newFunctionEnv_cells S.kind ?_ (fun en en_is s1 inside => ?_)
  · rintro ⟨nm, v⟩ mem
    rcases S.par nm (List.of_mem_zip mem).1 with q | q
    · exact Or.inl q
    · exact Or.inr ⟨q, PySem.W.cellsFrom_some _ _ _ (Or.inl q)⟩
  subst en_is
  refine ⟨lim.keeps inside.toInCall.keep, codeAny_func ?_⟩
  obtain ⟨t, reads, does⟩ := body Ar fs s H vs Q E quiet (room.deeper _) want
  have I0 := inv_start (CX := CX0) (E := E) S room.hd e0 (many _ _ _ _ want) rel inside
  refine wpAny_mono (reads.nox.run [] s1 (start N vs) H _ I0 does) ?_ (fun _ _ h => h)
  intro fl s' ends
  cases fl with
  | next =>
    obtain ⟨σ', H', J, q⟩ := ends
    exact ⟨V.non, H', J.os, J.bare, J.base, J.hok, rfl, q⟩
  | ret u =>
    obtain ⟨v, σ', H', J, rv, q⟩ := ends
    exact ⟨v, H', J.os, J.bare, J.base, J.hok, rv, q⟩
  | brk =>
    obtain ⟨_, _, _, z⟩ := ends
    exact z.elim
  | cont =>
    obtain ⟨_, _, _, z⟩ := ends
    exact z.elim
end
theorem walk_tab {l : PySem.W.OpenLaw} {most n : Nat} {q : Program} {loose : List Str} {XP : (Str → Option Value) → Heap → Prop} {YP : World → Heap → Prop} {d : DefRec} {F : Params → PySem.W.Frag} {sp : Addr → World → Sp} {x : Str}
    (hm : l.most = some most) (small : most ≤ sizeLine) (nd : d.params.defaults = []) (room : Room n callerA) (hany : ((recsOf q).any fun e => e.name == d.name) = true)
    (hY : ∀ (wo : World) (h : Heap), YP wo h → (F wo.params).In h)
    (D : ∀ (wo : World) (gl : Str → Option Value) (at_ : Addr) (h : Heap), (F wo.params).In h → h.Ns mainGlobals gl → gl d.name = some (.ref at_) →
      ∃ (fd : FuncData) (c P : Addr) (o : Obj) (vs : Array Value) (e : Value) (dd : Option Addr) (sl : Array (Option Value)), (F wo.params).lookup at_ = some o ∧ o.data = .func fd ∧ fd.code = .ref c ∧ (F wo.params).lookup c = some ⟨e, dd, .fields vs, sl⟩ ∧ vs[11]? = some (.ref P) ∧
        (F wo.params).lookup P = none ∧ (∀ (s : Shared) (u : Value), BindsTo s fd ⟨[u], []⟩ [(x, u)]) ∧
        ∀ b0 : Heap, (F wo.params).In b0 → b0.Ns mainGlobals gl → LamX.TabB b0 gl c P → FnQ l.prog wo (F wo.params) gl b0 n at_ fd [x] (sp P wo))
    (want : ∀ (wo : World) (H : Hp) (sc P : Addr) (ns : List Int), ns.length ≤ most → SqL (F wo.params) H sc (ns.map V.int) → H P = some (.tbl #[]) → sp P wo [.ref sc] H (fun v _ => v = .bl true) fun _ _ _ => False) :
    PySem.W.WalkO q loose XP YP l.row.toRowW d [] (fun f vs => PySem.call f vs) := by
  refine Att.attach_call hm nd ?_
  intro wo s₀ s gl gb at_ o pm cd doc sc vs ns G Y ho hd hcd hgl atS areI len ng
  have inF := hY wo _ Y
  obtain ⟨fd, c, P, o', vs', e', dd', sl', k1, k2, k3, k4, k5, k6, binds, D0⟩ := D wo gl at_ _ inF G.T.g hgl
  have rv := vals_ints areI
  have lenV := areI.length
  have small' : ns.length ≤ sizeLine := Nat.le_trans len small
  -- the table is empty
  obtain ⟨empty, hcode⟩ : s.heap.get? P = some { cls := .none, data := .fields #[] } ∧ PySem.W.CodeHd s.heap c P := by
    obtain ⟨e, he, hn⟩ := List.any_eq_true.mp hany
    obtain ⟨a2, o2, fd2, c2, P2, t1, t2, t3, t4, t5, t6⟩ := G.T.tab e he
    rw [beq_iff_eq.mp hn, hgl] at t1
    have e1 : at_ = a2 := Value.ref.inj (Option.some.inj t1)
    subst e1
    have e2 : o' = o2 := Option.some.inj ((inF _ _ k1).symm.trans t2)
    subst e2
    have e3 : fd = fd2 := Data.func.inj (k2.symm.trans t3)
    subst e3
    have e4 : c = c2 := Value.ref.inj (k3.symm.trans t4)
    subst e4
    obtain ⟨⟨oc, vc, u1, u2, u3, u4⟩, u5⟩ := t6
    have e5 := Option.some.inj ((inF _ _ k4).symm.trans u1)
    subst e5
    have e6 : vs' = vc := Data.fields.inj u3
    subst e6
    have e7 : P = P2 := Value.ref.inj (Option.some.inj (k5.symm.trans u4))
    subst e7
    obtain ⟨o5, v5, file, tf, flags, tg, inF', text, tt, op, w1, w2, w3, w4, w5, w6, w7, w8, w9, w10, w11⟩ := t5
    have e8 := Option.some.inj ((inF _ _ k4).symm.trans w1)
    subst e8
    have e9 : vs' = v5 := Data.fields.inj w2
    subst e9
    exact ⟨u5, _, _, file, tf, flags, tg, inF', text, tt, w1, u2, w2, k5, w3, w4, w5, w6, w7, w11⟩
  have nP : P ≠ sc := fun z => by
    have e1 := Option.some.inj (empty.symm.trans (by rw [z]; exact atS))
    have e2 := congrArg Obj.data e1
    cases e2
  have kP : ¬ (F wo.params).lookup sc = none → ∀ b, (F wo.params).lookup b ≠ none → b ≠ P := fun _ b h z => h (by rw [z]; exact k6)
  have tabsOk : ∀ {R : Addr × Addr → Prop}, R (c, P) → ∀ p ∈ [(c, P)], R p := fun {R} h p hp => by rw [List.mem_singleton.mp hp]; exact h
  have go := fun (H : Hp) (seen : SqL (F wo.params) H sc (ns.map V.int)) (seeP : H P = some (.tbl #[])) (kinds : ∀ b, H b = none ∨ b = P ∨ ∃ o xs, H b = some (.frz o (.lst xs))) (ok : HOk l.prog wo H s.heap) (isS : ∀ b, H b ≠ none → b = sc ∨ b = P) (away : H sc ≠ none → (F wo.params).lookup sc = none) =>
    quiet_tabs (pr := l.prog) (wo := wo) (F := F wo.params) (tabs := [(c, P)]) (H := H) (sc := sc) (sp := sp P wo) inF G.T.g G.T.b G.T.builtins G.T.nolimit ng G.T.bmain (tabsOk (R := fun p => s.heap.get? p.2 = _) empty) (tabsOk (R := fun p => (F wo.params).lookup p.2 = none) k6) (tabsOk (R := fun p => PySem.W.CodeHd s.heap p.1 p.2) hcode) atS room
      (fun b0 h1 h2 h3 => D0 b0 h1 h2 (h3 (c, P) (List.mem_singleton.mpr rfl))) binds (want wo H sc P ns len seen seeP) (tabsOk (R := fun p => H p.2 = some (.tbl #[])) seeP)
      (fun b => (kinds b).imp id (Or.imp (fun z => ⟨(c, P), List.mem_singleton.mpr rfl, z.symm⟩) id)) ok (fun b h => (isS b h).imp id fun z => ⟨(c, P), List.mem_singleton.mpr rfl, z.symm⟩) away
  by_cases known : (F wo.params).lookup sc = none
  · refine go (fun b => if b = P then some (.tbl #[]) else if b = sc then some (.frz { cls := .type "list", data := .seq vs.toArray } (.lst (ns.map V.int))) else none) (Or.inl (Or.inr ⟨{ cls := .type "list", data := .seq vs.toArray }, (if_neg (Ne.symm nP)).trans (if_pos rfl)⟩)) (if_pos rfl) (fun b => ?_) ?_ (fun b ne => ?_) (fun _ => known)
    · by_cases e : b = P
      · exact Or.inr (Or.inl e)
      · by_cases e2 : b = sc
        · exact Or.inr (Or.inr ⟨_, _, (if_neg e).trans (if_pos e2)⟩)
        · exact Or.inl ((if_neg e).trans (if_neg e2))
    · intro b u e
      by_cases e1 : b = P
      · have e' := (if_pos e1).symm.trans e
        cases e'
        subst e1
        exact empty
      · by_cases eq : b = sc
        · have e' := ((if_neg e1).trans (if_pos eq)).symm.trans e
          cases e'
          subst eq
          exact ⟨atS, by rw [List.length_map]; exact small', vs, _, rv, atS⟩
        · have e' := ((if_neg e1).trans (if_neg eq)).symm.trans e
          cases e'
    · by_cases e : b = P
      · exact Or.inr e
      · by_cases eq : b = sc
        · exact Or.inl eq
        · exact absurd ((if_neg e).trans (if_neg eq)) ne
  · obtain ⟨o', ho'⟩ := Option.ne_none_iff_exists'.mp known
    have e := (atS.symm.trans (inF sc o' ho'))
    cases e
    refine go (fun b => if b = P then some (.tbl #[]) else none) (Or.inr ⟨_, vs.toArray, _, ho', rfl, rfl, rfl, by rw [List.size_toArray, lenV]; exact small', by simpa using rv⟩) (if_pos rfl) (fun b => ?_) ?_ (fun b ne => ?_) (fun ne => ?_)
    · by_cases e : b = P
      · exact Or.inr (Or.inl e)
      · exact Or.inl (if_neg e)
    · intro b u e
      by_cases e1 : b = P
      · have e' := (if_pos e1).symm.trans e
        cases e'
        subst e1
        exact empty
      · have e' := (if_neg e1).symm.trans e
        cases e'
    · by_cases e : b = P
      · exact Or.inr e
      · exact absurd (if_neg e) ne
    · exact absurd (if_neg (Ne.symm nP)) ne
end GR

/-! Several except clauses that all keep the error under one name (slot j). -/
namespace TM
open PySem PySem.Spec PyProof.Rows L2
abbrev SuR := Addr → Value → Option Addr → TS
/-- the ends behind a clause: the name is gone -/
def gone (D : Ends) (j : Nat) : Ends := ⟨fun τ G => D.nx (τ.set j none) G, D.rt, fun τ G => D.bk (τ.set j none) G, fun τ G => D.ct (τ.set j none) G⟩
/-- what the clauses wish, one behind the other -/
def wAll (F : PySem.W.Frag) (out : WX) (D : Ends) (j : Nat) : List (Value × SuR) → WX
  | [] => out
  | p :: more => fun k dd τ G => ∃ hit, PySem.W.exmOne F k p.1 = some hit ∧ (hit = true → ∀ a, G a = none → p.2 a k dd (gone D j) (τ.set j (some (.ref a))) G) ∧ (hit = false → wAll F out D j more k dd τ G)
inductive Cls (X : Cx) (m : Str) : List ExceptHandler → List (Value × SuR) → Prop
  | nil : Cls X m [] []
  | cons {y : Str} {c : Value} {su : SuR} {b0 : Stmt} {rest : List Stmt} {p1 p2 : Pos} {hs : List ExceptHandler} {ps : List (Value × SuR)} (named : Names X y c)
      (runs : ∀ a oe k dd pn, Zc k dd oe → (∃ vs, oe.data = .fields vs) → PSs (X.suite a ((a, oe) :: pn)) (b0 :: rest) (su a k dd)) (tail : Cls X m hs ps) :
      Cls X m (.ExceptHandler (some (.Name y p1)) (some m) (b0 :: rest) p2 :: hs) ((c, su) :: ps)
section
variable {X : Cx} {m : Str} {j : Nat} {out : WX} {pins : List (Addr × Obj)} {D : Ends}
theorem noFr {a : Addr} {B : Heap} {es : List Env} {h : Heap} {o : Obj} {vs : Array Value} (ff : h.FunFrames B es) (ea : h.get? a = some o) (ed : o.data = .fields vs) : a ∉ frs es := fun mem => by
  obtain ⟨_, o2, e2, notF⟩ := ff.mem mem
  rw [ea] at e2
  cases e2
  exact notF _ ed
theorem clauses {hs : List ExceptHandler} {ps : List (Value × SuR)} (C : Cls X m hs ps) (stk : X.stack = X.env :: X.outer) (frm : X.env.frame = some X.env.locals) (nd : X.N.Nodup) (slot : X.N[j]? = some m) (loc : X.env.kindOf m = some .local)
    (tk : Takes X out) (ok : X.Ok) {B hp : Heap} {a : Addr} {k : Value} {dd : Option Addr} {τ : L2.St} {G : Hp} {sI sN : Shared} (J : Inv X pins τ G sI) (nb : ∀ b o, sI.heap.get? b = some o → b ∉ frs X.stack → B.get? b = some o)
    (up : sI.heap.UpToSlots hp) (os : sN.os = sI.os) (ag : AllBare sN.gens) (fl : HandSPX.FlyingZ B (X.env :: X.outer) a (Zc k dd) hp) (ea : G a = none) (w : wAll X.K out D j ps k dd τ G) :
    wpAny (model X.prog X.w) X.A (handleBy (.ref a) X.env hs) (SP X pins D) X.xe { sN with heap := hp } := by
  obtain ⟨ob, vs, g1, g2, g3⟩ := fl.there
  have far := noFr fl.2.2.1 g1 g3
  have offL : a ≠ X.env.locals := fun z => far (List.mem_filterMap.mpr ⟨X.env, List.mem_cons_self, by rw [frm, z]⟩)
  have offF : a ∉ X.fs := fun mem => by
    obtain ⟨e, me, q⟩ := List.mem_filterMap.mp mem
    exact far (List.mem_filterMap.mpr ⟨e, List.mem_cons_of_mem _ me, q⟩)
  have S0 := (J.landed (s' := { sN with heap := hp }) nb fl.1 up os ag).suite g1 g3 ea offL offF
  induction C with
  | nil =>
    refine wpAny_handleBy_nil ?_
    obtain ⟨_, _, _, oe, us, T, _, _, u1, _, u3, u4, _⟩ := id fl
    unfold PySem.passOn
    refine wpAny_bind (wpAny_field u1 u3 u4 ?_)
    rw [if_neg (by simp : ¬ ((Value.ref T == Value.none) = true))]
    have last : wpAny (model X.prog X.w) X.A (setFlight (.ref a) X.env.frame)
        (fun _ t => wpAny (model X.prog X.w) X.A (throw (.ref a) : Sem Flow) (SP X pins D) X.xe t) X.xe { sN with heap := hp } := by
      rw [frm]
      refine HandSPX.setFlight_upZ fl fun hq held more => wpAny_throw (tk _ _ ?_)
      exact ⟨a, B, sI, pins, τ, G, k, dd, rfl, J, nb, up.trans more, .inr (.inr (by rw [stk]; exact held)), ea, os, ag, w⟩
    first
      | exact wpAny_bind (wpAny_pure (wpAny_bind last))
      | exact wpAny_bind last
  | @cons y c su b0 rest p1 p2 hs' ps' named runs tail ih =>
    obtain ⟨hit, eh, yes, no⟩ := w
    refine wpAny_handleBy_cons (codeAny_handlers_test ?_) (fun z => by cases z)
    have ty : PySem.W.Looks (model X.prog X.w) hp (typeOf (.ref a)) k := fun _ _ _ _ kp q => wpAny_typeOf_ref (kp _ _ g1) (by rw [g2.1]; exact q)
    have match_ := PySem.W.exm_one (M := model X.prog X.w) ((J.landed (s' := { sN with heap := hp }) nb fl.1 up os ag).kIn) ty eh
    have name : ∀ {Q : Value → Shared → Prop} {E : Value → Shared → Prop}, Q c { sN with heap := hp } →
        wpAny (model X.prog X.w) (X.A.mark (some (.ref a))) (eval (.Name y p1) X.env) Q E { sN with heap := hp } := fun {Q E} q => by
      obtain ⟨gl, notD, isM | ⟨noM, isB, notN⟩⟩ := named
      · exact ld_glob (X := X.suite a ((a, ob) :: (X.pn ++ pins))) S0 gl isM q notD
      · exact ld_blt (X := X.suite a ((a, ob) :: (X.pn ++ pins))) S0 gl noM isB q notN notD
    refine name (match_.here ?_)
    cases hit with
    | true =>
      refine codeAny_handlers_suite_as (HandSPX.lands_againZ fl fun hq fq upq => ?_)
      obtain ⟨oq, vq, q1, q2, q3⟩ := fq.there
      have Sq := (J.landed (s' := { sN with heap := hq }) nb fq.1 (up.trans upq) os ag).suite q1 q3 ea offL offF
      refine store_ok (X := X.suite a ((a, oq) :: (X.pn ++ pins))) (v := .ref a) Sq nd slot (.inl loc) rfl (fun s5 S5 => ?_) (.inr loc)
      refine wpAny_mono ((runs a oq k dd (X.pn ++ pins) q2 ⟨_, q3⟩).run [] s5 _ G _ S5 (yes rfl a ea)) (fun f s6 ends => ?_) (fun _ _ z => z.elim)
      have off : ∀ {τ6 : L2.St} {G6 : Hp} {R : Shared → Prop}, Inv (X.suite a ((a, oq) :: (X.pn ++ pins))) [] τ6 G6 s6 → (∀ s7, Inv X pins (τ6.set j none) G6 s7 → R s7) →
          wpAny (model X.prog X.w) X.A (do bindName X.env m .none; unbindBehindTheSuite X.env m p2) (fun _ s7 => R s7) X.xe s6 := fun {_ _ _} S6 r => gone_ok (S6.unsuite ok) nd slot loc r
      cases f with
      | next =>
        obtain ⟨_, _, S6, r⟩ := ends
        exact off S6 fun _ J7 => ⟨_, _, J7, r⟩
      | brk =>
        obtain ⟨_, _, S6, r⟩ := ends
        exact off S6 fun _ J7 => ⟨_, _, J7, r⟩
      | cont =>
        obtain ⟨_, _, S6, r⟩ := ends
        exact off S6 fun _ J7 => ⟨_, _, J7, r⟩
      | ret u =>
        obtain ⟨_, _, _, S6, rv, r⟩ := ends
        exact off S6 fun _ J7 => ⟨_, _, _, J7, rv, r⟩
    | false =>
      show wpAny _ X.A (handleBy (.ref a) X.env hs') _ _ _
      exact ih (no rfl)
variable {body : List Stmt} {h₀ : ExceptHandler} {hds : List ExceptHandler} {l : List (Value × SuR)} {pos : Pos} {tb : WX → TS}
theorem ps_try_all (stk : X.stack = X.env :: X.outer) (frm : X.env.frame = some X.env.locals) (nd : X.N.Nodup) (slot : X.N[j]? = some m) (loc : X.env.kindOf m = some .local) (tk : Takes X out)
    (reads : ∀ (W : WX) (pn : List (Addr × Obj)) (xe : Value → Shared → Prop), Takes (X.tr pn xe) W → PassesOwn (model X.prog X.w) X.A X.env xe → PSs (X.tr pn xe) body (tb W)) (C : Cls X m (h₀ :: hds) l) :
    PS X (.Try body (h₀ :: hds) [] [] pos) (fun D σ H => tb (wAll X.K out D j l) D σ H) := by
  refine ⟨fun pins s σ H D I want => ?_⟩
  have ok := I.ok
  have frames : X.A.frames = some (X.env :: X.outer) := by rw [ok.frames, stk]
  have run := (reads (wAll X.K out D j l) (X.pn ++ pins)
    (fun e t => wpAny (model X.prog X.w) X.A (noteFrame e X.env) (fun _ t2 => wpAny (model X.prog X.w) X.A (setFlight e none)
      (fun _ t3 => wpAny (model X.prog X.w) X.A (handleBy e X.env (h₀ :: hds)) (SP X pins D) X.xe t3) X.xe t2) X.xe t) (fun u s' x => ?_) PassesOwn.looking).run [] s σ H D (I.toTry _) want
  · refine wpAny_Try_except (wpAny_mono run (fun f t ends => ?_) (fun _ _ z => z))
    cases f with
    | next =>
      obtain ⟨τ, G, J, r⟩ := ends
      exact wpAny_execs_nil ⟨τ, G, J.ofTry ok, r⟩
    | brk =>
      obtain ⟨τ, G, J, r⟩ := ends
      exact ⟨τ, G, J.ofTry ok, r⟩
    | cont =>
      obtain ⟨τ, G, J, r⟩ := ends
      exact ⟨τ, G, J.ofTry ok, r⟩
    | ret u =>
      obtain ⟨v, τ, G, J, rv, r⟩ := ends
      exact ⟨v, τ, G, J.ofTry ok, rv, r⟩
  · obtain ⟨a, B, sI, pins', τ, G, k, dd, rfl, J0, nb, up, sky, ea, os, ag, w⟩ := x
    have sky2 : Sky B (X.env :: X.outer) a (Zc k dd) X.env.locals s'.heap := by rw [← stk]; exact sky
    show wpAny _ X.A (noteFrame (.ref a) X.env) _ _ _
    exact Sky.land Zc.steady frames frm sky2 fun hq fq upq => clauses C stk frm nd slot loc tk ok (J0.ofTry ok) nb (up.trans upq) os ag fq ea w
end
end TM

-- NOMAP
namespace RL
open PySem L2 SX AddrMath VA PySem.W GR TxSet LamX
/-! ### _law_told: slots _law_call 0, _law_one 1, e 2 -/
abbrev sTold : Stmt := top 66
theorem scTold : FnScope ["_law_call", "_law_one", "e"] ["_law_call"] (defScope sTold) := ⟨rfl, rfl, rfl, by decide +kernel, rfl, by decide +kernel, by decide +kernel⟩
/-- an index, as it is written -/
abbrev nat_T (i : Nat) : Str := Str.ofString (toString (i : Int))
/-- what is told of a call: a book's rules' texts, or the error with its field -/
def ttTold (K : Frag) (C CB CE CT CM : Addr) (tl : XK → Hp → VK → Prop) (H : Hp) (Q : VK) : Prop := ∀ (E : XK) (Q' : VK),
  (∀ (d : Addr) (i : Nat) H', i ≤ 1000000 → H' d = some (.xd (ixF nIndex (.int i))) → (∀ l, H' l = none → Q (.ref l) (upd H' l (.tup [.str "text", .str (nat_T i)]))) → E (.ref CT) (some d) H') →
  (∀ d f H', H' d = some (.xd (ixF nField (.str f))) → (∀ l, H' l = none → Q (.ref l) (upd H' l (.tup [.str "rule", .str f]))) → E (.ref CE) (some d) H') →
  (∀ d n H', H' d = some (.xd (ixF nLimit (.int n))) → (∀ l, H' l = none → Q (.ref l) (upd H' l (.tup [.str "many", .int n]))) → E (.ref CM) (some d) H') →
  (∀ b t ps ss H', BookAt K C CB H' b t ps ss → ss.length ≤ 1000 → (∀ D l H2, Same H' H2 → H2 D = some (.lst ((ss.map textS).map V.str)) → H2 l = none → Q (.ref l) (upd H2 l (.tup [.str "read", .ref D]))) → Q' (.ref b) H') → tl E H Q'
theorem takes_len {X : Cx} {W : WX} (t : Takes X W) : Takes X (fun cls d σ H => σ.length = X.N.length → W cls d σ H) := fun u s' ⟨a, B, sI, pins, σ, H, cls, d, e, I, h1, h2, h3, h4, h5, h6, h7⟩ => t u s' ⟨a, B, sI, pins, σ, H, cls, d, e, I, h1, h2, h3, h4, h5, h6, h7 I.len⟩
theorem set_three {σ : L2.St} {v : Option V} (h : σ.length = 3) : (σ.set 2 v)[2]? = some v := by
  match σ, h with
  | [_, _, _], _ => rfl
theorem few_log {i : Nat} (h : i ≤ 1000000) : (i : Int).natAbs.log2 < 1920 := by
  rw [Int.natAbs_natCast]
  rcases Nat.eq_zero_or_pos i with rfl | h0
  · decide
  · exact (Nat.log2_lt (by omega)).mpr (Nat.lt_of_le_of_lt h (by decide +kernel))
/-- the three errors, as the law catches them -/
structure ErrsB (K : Frag) (mg : Str → Option Value) (CE fE CT fT CM fM : Addr) : Prop where
  TE : ErrC K mg "InvalidRule" nField CE fE
  TT : ErrC K mg "InvalidText" nIndex CT fT
  TM : ErrV K mg "TooMany" nLimit CM fM
  xfE : XfC K CE
  xfT : XfC K CT
  xfM : XfC K CM
  eTT : PySem.W.exmOne K (.ref CT) (.ref CT) = some true
  eET : PySem.W.exmOne K (.ref CE) (.ref CT) = some false
  eEE : PySem.W.exmOne K (.ref CE) (.ref CE) = some true
  eMT : PySem.W.exmOne K (.ref CM) (.ref CT) = some false
  eME : PySem.W.exmOne K (.ref CM) (.ref CE) = some false
  eMM : PySem.W.exmOne K (.ref CM) (.ref CM) = some true
theorem gives_told {X : Cx} {g C CB CE CT CM fE fT fM fX : Addr} {fdX : FuncData} {cdg : Value} {q : Str} (EB : ErrsB X.K X.mg CE fE CT fT CM fM) (T : RTxt X.K X.mg C) (TB : BTxt X.K X.mg CB)
    (brules : OwnP X.prog X.w X.K X.mg X.base CB "rules" (spGet CB nRules)) (mT : Meth X.K C "text" fX) (gT : FnOk X.prog X.w X.K X.mg X.base CX0 4 fX fdX ["self"] (spRTextX X.K C)) (bT : Binds X.K fdX ["self"] [])
    (mr : X.mg "repr" = none) (hr : Room 5 X.A) : GivesTo X ["_law_call", "_law_one", "e"] "_law_told" (defScope sTold) g cdg (defBody sTold) "_law_call" q (ttTold X.K C CB CE CT CM) := by
  intro f c' s H Q tl call hc tt
  have hr2 := fun env => hr.deeper env
  refine ⟨_, pss_one (TM.ps_try_all (j := 2) (out := fun _ _ _ _ => False) rfl rfl scTold.nd rfl rfl L2.takes0
      (fun W pn xe tk _ => pss_one (ps_ret (pe_tup (pa_cons pe_str (pa_cons (pe_lc (own := [("_law_one", 1)]) (g := gName 1) (tt := tYes) rfl scTold.nd (pi_seqK (K := X.K) (by rfl) (pe_prop (call _ pn xe (fun cls d H' => ∀ σ' : L2.St, σ'.length = 3 → W cls d σ' H') _ _ (takes_len tk) (fun _ _ σ' _ h l => h σ' l)) TB.cl brules.prop brules.ok ((hr2 _).mono (by decide)) brules.b .nil pass0 (by rfl)))
          (blkOk_by (own := [("_law_one", 1)]) (N := ["_law_call", "_law_one", "e"]) (sc := defScope sTold) (by decide +kernel))
          (fun _ _ _ _ _ => (pg_name (i := 1) scTold.nd rfl (Or.inl rfl))) (fun _ _ _ _ _ => pts_nil)
          (fun _ _ _ _ _ => (pe_meth0 (pv 1) T.cl mT gT (hr2 _) bT .nil pass0))) pa_nil)))))
      (.cons ⟨rfl, by decide, Or.inl EB.TT.mgC⟩ (fun a oe cls d pn hz hf => pss_one (ps_ret (pe_tup (pa_cons pe_str (pa_cons (pe_callB SkE.call_repr_int (by rfl) mr (by decide +kernel) (pa_cons (pe_xf EB.xfT EB.TT.no hz hf (pv 2)) pa_nil)) pa_nil)))))
      (.cons ⟨rfl, by decide, Or.inl EB.TE.mgC⟩ (fun a oe cls d pn hz hf => pss_one (ps_ret (pe_tup (pa_cons pe_str (pa_cons (pe_xf EB.xfE EB.TE.no hz hf (pv 2)) pa_nil)))))
      (.cons ⟨rfl, by decide, Or.inl EB.TM.mgC⟩ (fun a oe cls d pn hz hf => pss_one (ps_ret (pe_tup (pa_cons pe_str (pa_cons (pe_xf EB.xfM EB.TM.no hz hf (pv 2)) pa_nil)))))
      .nil)))), ?_⟩
  have ixl : ∀ (n : Str) (v : V), (ixF n v).lookup n = some v := fun n v => by
    rw [lookup_put, if_pos rfl]
  refine ⟨rfl, hc, tt _ _ (fun d i H' few hd h => ?_) (fun d f' H' hd h => ?_) (fun d n H' hd h => ?_) (fun b t ps ss H' hB few h => ?_)⟩
  · intro σ' len
    refine ⟨true, EB.eTT, fun _ a na => ?_, fun z => Bool.noConfusion z⟩
    exact ⟨_, set_three len, rfl, rfl, d, _, _, rfl, hd, ixl _ _, i, rfl, few_log few, by show 2 ≤ sizeLine; decide, fun l nl => h l nl⟩
  · intro σ' len
    refine ⟨false, EB.eET, fun z => Bool.noConfusion z, fun _ => ⟨true, EB.eEE, fun _ a na => ?_, fun z => Bool.noConfusion z⟩⟩
    exact ⟨_, set_three len, rfl, rfl, d, _, _, rfl, hd, ixl _ _, by show 2 ≤ sizeLine; decide, fun l nl => h l nl⟩
  · intro σ' len
    refine ⟨false, EB.eMT, fun z => Bool.noConfusion z, fun _ => ⟨false, EB.eME, fun z => Bool.noConfusion z, fun _ => ⟨true, EB.eMM, fun _ a na => ?_, fun z => Bool.noConfusion z⟩⟩⟩
    exact ⟨_, set_three len, rfl, rfl, d, _, _, rfl, hd, ixl _ _, by show 2 ≤ sizeLine; decide, fun l nl => h l nl⟩
  · obtain ⟨⟨dx, hb⟩, ht, hA⟩ := hB
    refine ⟨b, dx, _, rfl, hb, b, dx, _, _, rfl, hb, rfl, ?_⟩
    refine seq_opt (.inr ht) (by rw [List.length_map, hA.1]; omega) (fun i => ss[i]?.bind fun s => some (V.str (textS s))) ?hw (fun i x hx G sG => ?_) fun D H1 nD hD s1 => ?_
    case hw => intro _; rfl
    · obtain ⟨p, s, rfl, hp, hs, hS, hok⟩ := (hA.same sG).get hx
      refine ⟨fun R hR => no_test fun H' s' => by have := hR H' s'; rw [hs] at this; exact this, fun y hy G2 s2 R hR => ?_⟩
      rw [hs] at hy
      cases hy
      have hS2 := hS.same s2
      obtain ⟨dx', tP, tW, tK, gV, ws, hp', _⟩ := hS2.ex
      exact ⟨_, rfl, p, dx', _, rfl, hp', rfl, p, s.1, .tuple s.2.1, goalSD s.2.2.1, s.2.2.2, rfl, hS2, hok.1, hok.2.1, by show s.2.1.length ≤ 4; have := hok.2.2.1; omega, hok.2.2.2, fun H' s' => hR H' s'⟩
    rw [rules_fm hA] at hD
    have e1 : ss.filterMap (fun s => some (V.str (textS s))) = (ss.map textS).map V.str := by
      rw [List.filterMap_eq_map', List.map_map]
      rfl
    rw [e1] at hD
    exact ⟨by show 2 ≤ sizeLine; decide, fun l nl => h D l H1 s1 hD nl⟩
end RL

-- NOMAP
namespace RL
open PySem L2 SX AddrMath VA PySem.W GR TxSet LamX
/-- the def that calls a lambda, as it stands -/
structure TellAt (K : Frag) (mg : Str → Option Value) (g : Addr) (oc : Value) (od : Option Addr) (dV kV doc pm : Value) (an : Option Addr) (cdv ct : Value) (sl : Array (Option Value)) : Prop where
  hm : mg "_law_told" = some (.ref g)
  hk : PySem.W.keepIn K (.ref g) = true
  lk : List.lookup g K = some ⟨oc, od, .func (PySem.W.fnOf "_law_told" "_law_told" (defArgs sTold) (defBody sTold) (defScope sTold) dV kV doc pm an cdv ct), sl⟩
  hcg : PySem.W.codeIn K cdv "_law_told" = true
  hb : Binds K (PySem.W.fnOf "_law_told" "_law_told" (defArgs sTold) (defBody sTold) (defScope sTold) dV kV doc pm an cdv ct) ["_law_call"] []
abbrev qLaw : Str := (Str.ofString "law" ++ Str.ofString ".<locals>.") ++ Str.ofString "<lambda>"
abbrev qDue : Str := (Str.ofString "_law_due" ++ Str.ofString ".<locals>.") ++ Str.ofString "<lambda>"
/-- what is told: of a book that is made, of one that is refused, of a text that is none -/
def OutB (K : Frag) (H : Hp) (o : BR) (v : V) : Prop := ∃ l, v = .ref l ∧ match o with
  | .text i => SqT K H l [.str "text", .str (nat_T i)]
  | .rule f => SqT K H l [.str "rule", .str f]
  | .many n => SqT K H l [.str "many", .int n]
  | .made ss => ∃ t, SqT K H l [.str "read", .ref t] ∧ SqL K H t ((ss.map textS).map V.str)
theorem made_few {ss : List Said} (h : limS ss = none) : ss.length ≤ 12 := by
  unfold limS at h
  by_cases c : 12 < ss.length
  · rw [if_pos c] at h
    cases h
  · omega
theorem rule_ext {K : Frag} {C p : Addr} {H H' : Hp} {z : Str} {pd gd : PyData} {x : Bool} (b : ExtN H H') (h : RuleAt K C H p z pd gd x) : RuleAt K C H' p z pd gd x := by
  obtain ⟨dx', tP, tW, tK, gV, ws, hp, hP, hG, hW, a1, a2, a3, hK⟩ := h.ex
  have kp : Kp H H' := fun c o e s => b c o e fun ps z => by rw [z] at s; cases s
  exact ⟨dx', tP, tW, tK, gV, ws, b _ _ hp (fun _ q => by cases q), kp.sqT hP, goal_at_kp hG kp, b _ _ hW (fun _ q => by cases q), a1, a2, a3, b _ _ hK (fun _ q => by cases q)⟩
theorem rules_ext {K : Frag} {C : Addr} {H H' : Hp} {ps : List Addr} {ss : List Said} (b : ExtN H H') (h : RulesAt K C H ps ss) : RulesAt K C H' ps ss := ⟨h.1, fun i p s a e => ⟨rule_ext b (h.2 i p s a e).1, (h.2 i p s a e).2⟩⟩
/-- the rules among these that are right; what is wrong with the others -/
def goodS (L : List Said) : List Said := L.filter fun s => (wrongS s).isNone
def badS (L : List Said) : List Str := L.filterMap wrongS
theorem good_snoc {L : List Said} {s : Said} (h : wrongS s = none) : goodS (L ++ [s]) = goodS L ++ [s] ∧ badS (L ++ [s]) = badS L := by
  unfold goodS badS
  rw [List.filter_append, List.filterMap_append]
  refine ⟨?_, ?_⟩
  · rw [List.filter_cons, if_pos (by rw [h]; rfl), List.filter_nil]
  · rw [List.filterMap_cons, h, List.filterMap_nil, List.append_nil]
theorem bad_snoc {L : List Said} {s : Said} {f : Str} (h : wrongS s = some f) : goodS (L ++ [s]) = goodS L ∧ badS (L ++ [s]) = badS L ++ [f] := by
  unfold goodS badS
  rw [List.filter_append, List.filterMap_append]
  refine ⟨?_, ?_⟩
  · rw [List.filter_cons, if_neg (by rw [h]; simp), List.filter_nil, List.append_nil]
  · rw [List.filterMap_cons, h, List.filterMap_nil]
theorem good_all {L : List Said} (h : badS L = []) : goodS L = L := by
  unfold goodS
  rw [List.filter_eq_self]
  intro s hs
  have := List.filterMap_eq_nil_iff.mp (show L.filterMap wrongS = [] from h) s hs
  rw [this]
  rfl
theorem linesB_text {ls : List Str} {i : Nat} (h : bad ls = some i) : linesB ls = .text i := by
  unfold linesB
  rw [h]
theorem linesB_rule {ls : List Str} {f : Str} (h : bad ls = none) (k : (saids ls).findSome? wrongS = some f) : linesB ls = .rule f := by
  unfold linesB
  rw [h]
  show (match (saids ls).findSome? wrongS with | some f => BR.rule f | none => _) = _
  rw [k]
theorem linesB_many {ls : List Str} {n : Int} (h : bad ls = none) (k : (saids ls).findSome? wrongS = none) (l : limS (saids ls) = some n) : linesB ls = .many n := by
  unfold linesB
  rw [h]
  show (match (saids ls).findSome? wrongS with | some f => BR.rule f | none => _) = _
  rw [k]
  show (match limS (saids ls) with | some n => BR.many n | none => _) = _
  rw [l]
theorem linesB_made {ls : List Str} (h : bad ls = none) (k : (saids ls).findSome? wrongS = none) (l : limS (saids ls) = none) : linesB ls = .made (saids ls) := by
  unfold linesB
  rw [h]
  show (match (saids ls).findSome? wrongS with | some f => BR.rule f | none => _) = _
  rw [k]
  show (match limS (saids ls) with | some n => BR.many n | none => _) = _
  rw [l]
section
variable {P : Program} {w : World} {K : Frag} {mg : Str → Option Value} {base : Heap}
/-! ### _law_due: slots _law_text 0, _law_lines 1, _law_made_here 2, _law_wrong 3, _law_k 4, e 5 cells _law_made_here -/
abbrev sDue : Stmt := top 67
abbrev ND : List Str := ["_law_text", "_law_lines", "_law_made_here", "_law_wrong", "_law_k", "e"]
theorem scDue : FnScope ND ["_law_text"] (defScope sDue) := ⟨rfl, rfl, rfl, by decide +kernel, rfl, by decide +kernel, by decide +kernel⟩
/-- _law_text.split("\n") if _law_text != "" else [] -/
def tLines0 : TE := fun σ H Q => ∃ z : Str, σ[0]? = some (some (.str z)) ∧ z.length ≤ 1000000 ∧ ∀ a, H a = none → Q (.ref a) (upd H a (.lst ((linesP z).map V.str)))
/-- what the two clauses of the walk wish -/
def wDue (K : Frag) (CE CT : Addr) (D : Ends) : WX := TM.wAll K (fun _ _ _ _ => False) D 5
  [(.ref CT, fun a cls d => tRet (tIf (tTest (tOp rEq (tXf a cls d CT nIndex (tVar 5)) (tC (.int 0))))
      (tTup (tCons (tC (.str "text")) (tCons (tCB (fun xs H Q => ∃ i, xs = [V.int i] ∧ i.natAbs.log2 < 1920 ∧ Q (V.str (Str.ofString (toString i))) H) (tCons (tVar 4) tNil)) tNil)))
      (tTup (tCons (tC (.str "odd")) (tCons (tC (.str "")) tNil))))),
   (.ref CE, fun a cls d => tDrop (tBM K "list" rAppend (tVar 3) (tCons (tXf a cls d CE nField (tVar 5)) tNil)))]
/-- the walk's body -/
def tTryDue (K : Frag) (C CE CT : Addr) : TS := fun D σ H => tDrop (tBM K "list" rAppend (tVar 2) (tCons (tCMethS C (spRead K C CE CT) (fun σ cls d H => wDue K CE CT D cls d σ H) (tC (.ref C)) (tCons (tOp (rIxL K) (tVar 1) (tVar 4)) tNil)) tNil)) D σ H
def spDue (K : Frag) (Pl Pd : Addr) : Sp := fun vs H Q _ => ∃ (v : V) (d c : Addr) (n : Nat), vs = [v] ∧ TextB K H v ∧ PenAt H d c n ∧ Tabs [(Pl, qLaw), (Pd, qDue)] H ∧
  ∀ u H', OutB K H' (readB v) u → PenAt H' d c n → Tabs [(Pl, qLaw), (Pd, qDue)] H' → Kd d H H' → Q u H'
theorem ok_due {f cD Pl Pd C CB CE CT CM fE fT fM fX gR pR fR pO fO : Addr} {fd fdX fdR fdO : FuncData} {mcR mcB : Value} (D : ∃ oc od kV doc pm an ct osl, fd = PySem.W.fnOf "_law_due" "_law_due" (defArgs sDue) (defBody sDue) (defScope sDue) .none kV doc pm an (.ref cD) ct ∧ K.lookup f = some ⟨oc, od, .func fd, osl⟩ ∧ PySem.W.codeIn K (.ref cD) "_law_due" = true)
    (B : Blt mg) (T : RTxt K mg C) (TB : BTxt K mg CB) (EB : ErrsB K mg CE fE CT fT CM fM)
    (brules : OwnP P w K mg base CB "rules" (spGet CB nRules)) (mT : Meth K C "text" fX) (gT : FnOk P w K mg base CX0 4 fX fdX ["self"] (spRTextX K C)) (bT : Binds K fdX ["self"] [])
    (rdc : ClX.CRead K C mcR) (cmr : ClX.CMet K C mcR "read" pR fR) (GR : FnOk P w K mg base (L2.CX P w) 8 fR fdR ["cls", "text"] (spRead K C CE CT)) (bR : Binds K fdR ["cls", "text"] [])
    (rdb : ClX.CRead K CB mcB) (cmo : ClX.CMet K CB mcB "of" pO fO) (GO : FnOk P w K mg base (L2.CX P w) 7 fO fdO ["cls", "rules"] (spBOf K C CB CM)) (bO : Binds K fdO ["cls", "rules"] [])
    {oc dV kV doc pm cdv ct : Value} {od an : Option Addr} {sl : Array (Option Value)} (FF : TellAt K mg gR oc od dV kV doc pm an cdv ct sl) (TD : TabB base mg cD Pd) (ne : Pl ≠ Pd) : FnQ P w K mg base 13 f fd ["_law_text"] (spDue K Pl Pd) := by
  refine quiet_fnC D scDue (fun vs H Q E h => ?_) (fun Ar fs s0 H vs Q E quiet hr h => ?_)
  · obtain ⟨v, d, c, n, rfl, _⟩ := h
    rfl
  · obtain ⟨v, d, c, n, rfl, hv, p, tb, q⟩ := h
    have un : (Ar.deeper (PyProof.Rows.envOfC "_law_due" (defScope sDue) s0.heap.objs.size f (.ref cD))).units < cLine := by
      have := hr.units
      omega
    refine ⟨_, (pss_cons (ps_if (pt_not (pt_val (pe_callB call_isi (by rfl) B.isinstance_ (by decide +kernel) (pa_cons (pv 0) (pa_cons (pe_bltn (v := .ty "str") (by rfl) B.str_ (by decide +kernel) rfl) pa_nil))))) (pss_one (ps_ret (pe_tup (pa_cons pe_str (pa_cons pe_str pa_nil))))) pss_nil)
      (pss_cons (ps_asg (pe_tup (pa_cons (pe_by tLines0 (pe_ifExp (pt_cmpR op_ne (pv 0) pe_str (nomark _)) (pe_split (pv 0) pe_str) (pe_lst pa_nil)) (fun σ H Q h => ?lines)) (pa_cons (pe_lst pa_nil) (pa_cons (pe_lst pa_nil) pa_nil)))) (pg_tup rfl (pgs_cons (pg_name (i := 1) scDue.nd rfl (Or.inl rfl)) (pgs_cons (pg_name (i := 2) scDue.nd rfl (Or.inr rfl)) (pgs_cons (pg_name (i := 3) scDue.nd rfl (Or.inl rfl)) pgs_nil)))))
      (pss_cons (ps_for PassesOwn.never rfl (pi_range1 (by rfl) B.range_ (pa_cons (pe_callB call_len_seq (by rfl) B.len_ (by decide +kernel) (pa_cons (pv 1) pa_nil)) pa_nil)) (pg_name (i := 4) scDue.nd rfl (Or.inl rfl))
        (pss_one (ps_by (tTryDue K C CE CT) (TM.ps_try_all (j := 5) (out := fun _ _ _ _ => False) rfl rfl scDue.nd rfl rfl L2.takes0
          (fun W pn xe tk _ => pss_one (ps_expr (pe_by (tBM K "list" rAppend (tVar 2) (tCons (tCMethS C (spRead K C CE CT) (fun σ cls d H => W cls d σ H) (tC (.ref C)) (tCons (tOp (rIxL K) (tVar 1) (tVar 4)) tNil)) tNil)) (pe_bm PySem.F.plainAttrs_list PySem.F.slot_list_append PySem.F.type_list_append mt_append (pv 2) (pa_cons (pe_cmethS (E := fun σ cls d H => W cls d σ H) (pe_glob (v := .ref C) (by rfl) T.mgC rfl) rdc cmr GR (hr.mono (by decide)) bR (fun σ => passAt tk σ) (pa_cons (pe_ix ix_list (pv 1) (pv 4) (fun _ _ => rfl)) pa_nil)) pa_nil)) (fun _ _ _ h => h))))
          (.cons ⟨rfl, by decide, Or.inl EB.TT.mgC⟩ (fun a oe cls d pn hz hf => pss_one (ps_ret (pe_ifExp (pt_cmpR op_eq (pe_xf EB.xfT EB.TT.no hz hf (pv 5)) pe_int (nomark _)) (pe_tup (pa_cons pe_str (pa_cons (pe_callB SkE.call_repr_int (by rfl) B.repr_ (by decide +kernel) (pa_cons (pv 4) pa_nil)) pa_nil))) (pe_tup (pa_cons pe_str (pa_cons pe_str pa_nil))))))
          (.cons ⟨rfl, by decide, Or.inl EB.TE.mgC⟩ (fun a oe cls d pn hz hf => pss_one (ps_expr (pe_by (tBM K "list" rAppend (tVar 3) (tCons (tXf a cls d CE nField (tVar 5)) tNil)) (pe_bm PySem.F.plainAttrs_list PySem.F.slot_list_append PySem.F.type_list_append mt_append (pv 3) (pa_cons (pe_xf EB.xfE EB.TE.no hz hf (pv 5)) pa_nil)) (fun _ _ _ h => h))))
          .nil))) (fun _ _ _ h => h))))
      (pss_cons (ps_if (pt_cmpR (op_neNil un) (pv 3) (pe_lst pa_nil) (nomark _)) (pss_one (ps_ret (pe_tup (pa_cons pe_str (pa_cons (pe_ix ix_list (pv 3) pe_int (fun _ _ => rfl)) pa_nil))))) pss_nil)
      (pss_one (ps_ret (pe_lamcall (x := "_law_told") (T := [(Pl, qLaw), (Pd, qDue)]) (k := 8) (by rfl) FF.hm FF.hk FF.lk FF.hcg FF.hb scTold rfl (Or.inl rfl)
          (gives_told (X := (cxOf CX0 P w K mg base ND "_law_due" (defScope sDue) f (.ref cD) Ar fs s0 H E).nox) EB T TB brules mT gT bT B.repr_ (hr.mono (by decide)))
          TD rfl (List.mem_cons_of_mem _ (List.mem_singleton.mpr rfl)) ?huniq (hr.mono (by decide)) (lamS_by (sc := defScope sDue) (by decide +kernel)) rfl (fun _ _ _ _ _ => rfl)
          (fun _ _ _ _ E _ _ hr4 => pe_cmethS (E := fun _ => E) (pe_glob (v := .ref CB) (by rfl) TB.mgC rfl) rdb cmo GO (hr4.mono (by decide)) bO (fun σ pins H s e s' I c => passes_of (takes_of rfl rfl rfl rfl) pins σ H s e s' I c) (pa_cons (pv 2) pa_nil))))))))), ?_⟩
    case huniq =>
      intro p hp e
      rcases List.mem_cons.mp hp with rfl | hp
      · exact absurd e ne
      · rw [List.mem_singleton.mp hp]
        rfl
    case lines =>
      obtain ⟨z, e1, hz, k⟩ := h
      refine ⟨_, e1, rfl, _, rfl, ?_⟩
      unfold linesP at k
      by_cases c : z = ("" : Str)
      · rw [decide_eq_true (congrArg V.str c)]
        refine iteF ⟨Nat.zero_le _, fun a na => ?_⟩
        have := k a na
        rw [if_pos c] at this
        exact this
      · rw [decide_eq_false fun e => c (V.str.inj e)]
        refine iteT ⟨_, e1, ⟨_, rfl⟩, z, nl, rfl, rfl, rfl, Nat.le_trans (m := 2000000) (by omega) (by show 2000000 ≤ sizeLine; decide), fun a na => ?_⟩
        have := k a na
        rw [if_neg c] at this
        exact this
    have e0 : nat_T 0 = Str.ofString "0" := by decide +kernel
    rcases hv with ⟨x, hv, ns⟩ | ⟨z, rfl, hz, few, hls⟩
    · refine ⟨_, rfl, _, _, _, _, isStrD x, rfl, .ty "str", hv.ty, kitStr x, _, rfl, ?_⟩
      rw [ns]
      refine iteT ⟨by show 2 ≤ sizeLine; decide, fun l nl => ?_⟩
      have e1 : readB v = .text 0 := by
        rcases hv with ⟨h, _⟩ | ⟨a, kvs, rfl, _⟩
        · cases h <;> first | rfl | cases ns
        · rfl
      have s2 := same_new (o := .tup [.str "text", .str "0"]) nl
      refine q _ _ ⟨l, rfl, ?_⟩ (p.keep s2) (tabs_same tb s2) (kd_same s2)
      rw [e1]
      show SqT K _ l [.str "text", .str (nat_T 0)]
      rw [e0]
      exact .inl (.inl upd_same)
    · refine ⟨_, rfl, _, _, _, _, true, rfl, .ty "str", .base (.str z), kitStr (.str z), _, rfl, iteF ?_⟩
      have eB : readB (.str z) = linesB (linesP z) := rfl
      rw [eB] at q
      refine ⟨z, rfl, hz, fun la na => ⟨Nat.zero_le _, fun ma nm => ⟨Nat.zero_le _, fun wa nw => ⟨by show 3 ≤ sizeLine; decide, fun tp nt => ⟨tp, _, rfl, .inl (.inl upd_same), rfl, _, _, rfl, _, _, rfl, _, _, rfl, rfl, ?_⟩⟩⟩⟩⟩
      have s1 : Same H (upd H la (.lst ((linesP z).map V.str))) := same_new na
      have h1 : (upd H la (.lst ((linesP z).map V.str))) la = some (.lst ((linesP z).map V.str)) := upd_same
      generalize upd H la (.lst ((linesP z).map V.str)) = H1 at s1 h1 nm nw nt ⊢
      generalize linesP z = ls at few hls q h1 ⊢
      clear eB hz
      have s2 := same_new (o := .lst []) nm
      have h2 : (upd H1 ma (.lst [])) ma = some (.lst []) := upd_same
      generalize upd H1 ma (.lst []) = H2 at s2 h2 nw nt ⊢
      have s3 := same_new (o := .lst []) nw
      have h3 : (upd H2 wa (.lst [])) wa = some (.lst []) := upd_same
      generalize upd H2 wa (.lst []) = H3 at s3 h3 nt ⊢
      have s4 := same_new (o := .tup [.ref la, .ref ma, .ref wa]) nt
      have sA : Same H1 _ := (s2.trans s3).trans s4
      have hla := sA _ _ h1
      have hma := s4 _ _ (s3 _ _ h2)
      have hwa := s4 _ _ h3
      have nma : H ma = none := s1.free nm
      have nwa : H wa = none := (s1.trans s2).free nw
      have m1 : ma ≠ la := fun e => by rw [e, h1] at nm; cases nm
      have w1 : wa ≠ la := fun e => by rw [e, s2 _ _ h1] at nw; cases nw
      have w2 : wa ≠ ma := fun e => by rw [e, h2] at nw; cases nw
      have sH : Same H _ := s1.trans sA
      clear sA s1 s2 s3 s4 h1 h2 h3 nm nw nt
      generalize upd H3 tp (.tup [.ref la, .ref ma, .ref wa]) = G0 at hla hma hwa sH ⊢
      clear na
      refine ⟨_, rfl, la, _, rfl, .inl (.inl (.inl hla)), ((ls.map V.str).length : Int), rfl, by omega, by rw [List.length_map]; omega, ?_⟩
      refine for_range (n := ((ls.map V.str).length : Int).toNat) (fun i σ G => ∃ o4 o5 : Option V, ∃ ps : List Addr, σ = [some (.str z), some (.ref la), some (.ref ma), some (.ref wa), o4, o5] ∧ Same H G ∧ G la = some (.lst (ls.map V.str)) ∧ G ma = some (.lst (ps.map V.ref)) ∧ G wa = some (.lst ((badS (saids (ls.take i))).map V.str)) ∧ RulesAt K C G ps (goodS (saids (ls.take i))) ∧ ∀ j (hj : j < ls.length), j < i → ruleP ls[j] ≠ none) ⟨none, none, [], rfl, sH, hla, hma, hwa, ⟨rfl, fun i p s e => by cases e⟩, fun j _ h => absurd h (Nat.not_lt_zero _)⟩ ?_ ?_
      · rintro i σ G hi ⟨o4, o5, ps, rfl, sG, hl, hm, hw, hA, hk⟩
        have hi' : i < ls.length := by rw [List.length_map] at hi; omega
        have el : ls[i]? = some ls[i] := List.getElem?_eq_getElem hi'
        have ps50 : ps.length ≤ 50000 := by
          rw [hA.1]
          refine Nat.le_trans (List.length_filter_le _ _) (Nat.le_trans (List.length_filterMap_le _ _) ?_)
          rw [List.length_take]
          omega
        have wr50 : (badS (saids (ls.take i))).length ≤ 50000 := by
          refine Nat.le_trans (List.length_filterMap_le _ _) (Nat.le_trans (List.length_filterMap_le _ _) ?_)
          rw [List.length_take]
          omega
        rw [show (0 : Int) + (i : Int) = i from Int.zero_add _]
        have ixl : ∀ (n : Str) (v : V), (ixF n v).lookup n = some v := fun n v => by
          rw [lookup_put, if_pos rfl]
        refine ⟨_, rfl, .inl ⟨rfl, _, .inl (.inl hm)⟩, rfl, _, rfl, _, rfl, la, _, (i : Int), .str ls[i], rfl, rfl, .inl (.inl hl), ?_, ?_⟩
        · refine atI_nat ?_
          rw [List.getElem?_map, el]
          rfl
        have eR : readP (.str ls[i]) = ruleP ls[i] := rfl
        refine ⟨.str ls[i], rfl, .inr ⟨_, rfl, hls _ (List.getElem_mem hi')⟩, fun hn d' G2 s2 hd nd => ?_, fun s hs => ?_⟩
        · rw [eR] at hn
          have bd : bad ls = some i := bad_at hi' hn fun j hj => hk j (by omega) hj
          refine ⟨true, EB.eTT, fun _ a na => ?_, fun z => Bool.noConfusion z⟩
          refine ⟨_, rfl, rfl, rfl, d', _, _, rfl, hd, ixl _ _, rfl, _, rfl, if_is (fun _ => ⟨_, rfl, (i : Int), rfl, few_log (by omega), by show 2 ≤ sizeLine; decide, fun l nl => ?_⟩) (fun e => absurd rfl (of_decide_eq_false e))⟩
          have s3 := (sG.trans s2).trans (same_new (o := .tup [.str "text", .str (nat_T i)]) nl)
          refine q _ _ ⟨l, rfl, ?_⟩ (p.keep s3) (tabs_same tb s3) (kd_same s3)
          rw [linesB_text bd]
          exact .inl (.inl upd_same)
        · rw [eR] at hs
          have st := said_take el hs
          have hk' : ∀ j (hj : j < ls.length), j < i + 1 → ruleP ls[j] ≠ none := fun j hj hlt => by
            rcases Nat.lt_or_ge j i with c | c
            · exact hk j hj c
            · obtain rfl : j = i := by omega
              rw [hs]
              exact fun z => by cases z
          refine ⟨fun f hf d' G2 s2 hd nd => ?_, fun hn p2 G2 s2 np hR => ?_⟩
          · obtain ⟨g1, g2⟩ := bad_snoc (L := saids (ls.take i)) hf
            refine ⟨false, EB.eET, fun z => Bool.noConfusion z, fun _ => ⟨true, EB.eEE, fun _ a na => ?_, fun z => Bool.noConfusion z⟩⟩
            have hw2 := s2 _ _ hw
            refine ⟨_, rfl, .inl ⟨rfl, _, .inl (.inl hw2)⟩, _, rfl, rfl, rfl, d', _, _, rfl, hd, ixl _ _, wa, _, _, rfl, rfl, hw2, size_lt (by rw [List.length_map]; omega), ?_⟩
            have bw : But wa G2 (upd G2 wa (.lst ((badS (saids (ls.take i))).map V.str ++ [.str f]))) := But.upd
            refine ⟨_, _, ps, rfl, ?_, ?_, ?_, ?_, ?_, hk'⟩
            · exact fun b o hb => bw _ _ (s2 _ _ (sG _ _ hb)) (ne_of_none hb nwa)
            · exact bw _ _ (s2 _ _ hl) w1.symm
            · exact bw _ _ (s2 _ _ hm) w2.symm
            · rw [upd_same, st, g2, List.map_append]
              rfl
            · rw [st, g1]
              exact rules_but hw2 bw (hA.same s2)
          · obtain ⟨g1, g2⟩ := good_snoc (L := saids (ls.take i)) hn
            have hm2 := s2 _ _ hm
            have bm : But ma G2 (upd G2 ma (.lst (ps.map V.ref ++ [.ref p2]))) := But.upd
            refine ⟨ma, _, _, rfl, rfl, hm2, size_lt (by rw [List.length_map]; omega), _, _, ps ++ [p2], rfl, ?_, ?_, ?_, ?_, ?_, hk'⟩
            · exact fun b o hb => bm _ _ (s2 _ _ (sG _ _ hb)) (ne_of_none hb nma)
            · exact bm _ _ (s2 _ _ hl) m1.symm
            · rw [upd_same, List.map_append]
              rfl
            · rw [st, g2]
              exact bm _ _ (s2 _ _ hw) w2
            · rw [st, g1]
              exact rules_but hm2 bm (rules_snoc (hA.same s2) hR (wrong_ok hn))
      · rintro σ G ⟨o4, o5, ps, rfl, sG, hl, hm, hw, hA, hk⟩
        rw [show ((ls.map V.str).length : Int).toNat = ls.length from by rw [List.length_map]; omega] at hw hA hk
        rw [List.take_length] at hw hA
        have bd : bad ls = none := bad_none fun j hj => hk j hj hj
        refine ⟨_, rfl, Nat.zero_le _, fun e nE => ⟨wa, e, _, rfl, rfl, (same_new nE) _ _ hw, upd_same, _, rfl, ?_⟩⟩
        have sE := same_new (o := .lst []) nE
        have sGE := sG.trans sE
        cases hb : badS (saids ls) with
        | cons f r =>
          have fs : (saids ls).findSome? wrongS = some f := by
            rw [← List.head?_filterMap]
            show (badS (saids ls)).head? = _
            rw [hb]
            rfl
          rw [hb] at hw
          refine iteT ⟨_, rfl, wa, _, 0, .str f, rfl, rfl, .inl (.inl (sE _ _ hw)), atI_nat (xs := (f :: r).map V.str) (j := 0) rfl, by show 2 ≤ sizeLine; decide, fun l nl => ?_⟩
          have s3 := sGE.trans (same_new (o := .tup [.str "rule", .str f]) nl)
          refine q _ _ ⟨l, rfl, ?_⟩ (p.keep s3) (tabs_same tb s3) (kd_same s3)
          rw [linesB_rule bd fs]
          exact .inl (.inl upd_same)
        | nil =>
          have fs : (saids ls).findSome? wrongS = none := by
            rw [← List.head?_filterMap]
            show (badS (saids ls)).head? = _
            rw [hb]
            rfl
          rw [good_all hb] at hA
          refine iteF ⟨tabs_same tb sGE, fun G2 x4 tb4 E' Q' eT eE eM hQ => ?_⟩
          have p4 := pen_ext (p.keep sGE) x4
          have k4 : Kd d H G2 := (kd_same sGE).trans (kd_ext x4)
          have hm4 := x4 _ _ (sE _ _ hm) (fun _ z => by cases z)
          have hA4 := rules_ext x4 (hA.same sE)
          refine ⟨rfl, _, rfl, ma, ps, saids ls, rfl, .inl (.inl (.inl hm4)), hA4, ?_, fun n hn d' G3 s3 hd nd => ?_, fun hn b t G3 hB s3 nb => ?_⟩
          · exact Nat.le_trans (List.length_filterMap_le _ _) (by omega)
          · refine eM d' n G3 hd fun l nl => ?_
            have s5 := s3.trans (same_new (o := .tup [.str "many", .int n]) nl)
            refine q _ _ ⟨l, rfl, ?_⟩ (p4.keep s5) (tabs_same tb4 s5) (k4.trans (kd_same s5))
            rw [linesB_many bd fs hn]
            exact .inl (.inl upd_same)
          · refine hQ b t ps _ G3 hB (by have := made_few hn; omega) fun D l G4 s4 hD nl => ?_
            have s6 := same_new (o := .tup [.str "read", .ref D]) nl
            have s5 := (s3.trans s4).trans s6
            refine q _ _ ⟨l, rfl, ?_⟩ (p4.keep s5) (tabs_same tb4 s5) (k4.trans (kd_same s5))
            rw [linesB_made bd fs hn]
            exact ⟨D, .inl (.inl upd_same), .inl (.inl (s6 _ _ hD))⟩
end
end RL

-- NOMAP
namespace RL
open PySem L2 SX AddrMath VA PySem.W GR TxSet
/-! ## lines, joined and cut -/
/-- the longest run without a line's end, n signs of it before -/
def mxr : Nat → List Nat → Nat
  | n, [] => n
  | n, c :: r => if c = 10 then max n (mxr 0 r) else mxr (n + 1) r
theorem mxr_cut (l : List Nat) : ∀ q n, mxr n (q ++ 10 :: l) ≤ max (n + q.length) (mxr 0 l)
  | [], n => by
    show (if 10 = 10 then max n (mxr 0 l) else mxr (n + 1) l) ≤ _
    rw [if_pos rfl]
    show max n (mxr 0 l) ≤ max (n + 0) (mxr 0 l)
    omega
  | c :: q, n => by
    show (if c = 10 then max n (mxr 0 (q ++ 10 :: l)) else mxr (n + 1) (q ++ 10 :: l)) ≤ max (n + (q.length + 1)) (mxr 0 l)
    have h0 := mxr_cut l q 0
    have h1 := mxr_cut l q (n + 1)
    split <;> omega
theorem mxr_len : ∀ q n, mxr n q ≤ n + q.length
  | [], n => Nat.le_refl _
  | c :: q, n => by
    show (if c = 10 then max n (mxr 0 q) else mxr (n + 1) q) ≤ n + (q.length + 1)
    have h0 := mxr_len q 0
    have h1 := mxr_len q (n + 1)
    split <;> omega
theorem mxr_join {m : Nat} : ∀ {qs : List (List Nat)}, (∀ q ∈ qs, q.length ≤ m) → mxr 0 (TL.joinL [10] qs) ≤ m
  | [], _ => Nat.zero_le _
  | [p], h => by
    have := mxr_len p 0
    have := h p (List.mem_cons_self ..)
    show mxr 0 p ≤ m
    omega
  | p :: q :: r, h => by
    show mxr 0 (p ++ ([10] ++ TL.joinL [10] (q :: r))) ≤ m
    have h1 := mxr_cut (TL.joinL [10] (q :: r)) p 0
    have h2 := mxr_join (m := m) (qs := q :: r) fun z hz => h z (List.mem_cons_of_mem _ hz)
    have h3 := h p (List.mem_cons_self ..)
    show mxr 0 (p ++ 10 :: TL.joinL [10] (q :: r)) ≤ m
    omega
theorem pre_ten (c : Nat) (r : List Nat) : TL.pre [10] (c :: r) = decide (c = 10) := by
  show ((c :: r).take 1 == [10]) = _
  rw [List.take_succ_cons, List.take_zero]
  by_cases e : c = 10
  · rw [e]
    rfl
  · rw [decide_eq_false e]
    show ([c] == [10]) = false
    simp [e]
theorem spl_run_le : ∀ (l acc p : List Nat), p ∈ TL.spl [10] 0 acc l → p.length ≤ mxr acc.length l
  | [], acc, p, h => by
    rw [TL.spl_nil] at h
    rw [List.mem_singleton.mp h]
    exact Nat.le_refl _
  | c :: r, acc, p, h => by
    show p.length ≤ (if c = 10 then max acc.length (mxr 0 r) else mxr (acc.length + 1) r)
    by_cases e : c = 10
    · rw [if_pos e]
      rw [TL.spl_hit (by rw [pre_ten, decide_eq_true e])] at h
      rcases List.mem_cons.mp h with rfl | h
      · omega
      · have := spl_run_le r [] p h
        have l0 : ([] : List Nat).length = 0 := rfl
        rw [l0] at this
        omega
    · rw [if_neg e]
      rw [TL.spl_miss (by rw [pre_ten, decide_eq_false e])] at h
      have := spl_run_le r (acc ++ [c]) p h
      rw [List.length_append] at this
      exact this
theorem nl_tl : TL.tl nl = [10] := by decide +kernel
theorem join_len : ∀ ys : List Str, (PySem.Str.join nl ys).length ≤ wgt ys
  | [] => Nat.zero_le _
  | [p] => by
    show p.length ≤ wgt [p]
    exact Nat.le_of_succ_le (wgt_mem (List.mem_singleton.mpr rfl))
  | p :: q :: r => by
    show (p ++ nl ++ PySem.Str.join nl (q :: r)).length ≤ _
    have ih := join_len (q :: r)
    have l1 : nl.length = 1 := by decide +kernel
    rw [str_len_app, str_len_app, l1]
    have e : wgt (p :: q :: r) = (p.length + 1) + wgt (q :: r) := rfl
    omega
theorem join_len1 : ∀ (y : Str) (ys : List Str), (PySem.Str.join nl (y :: ys)).length + 1 ≤ wgt (y :: ys)
  | p, [] => by
    show p.length + 1 ≤ (p.length + 1) + 0
    omega
  | p, q :: r => by
    show (p ++ nl ++ PySem.Str.join nl (q :: r)).length + 1 ≤ _
    have ih := join_len1 q r
    have l1 : nl.length = 1 := by decide +kernel
    rw [str_len_app, str_len_app, l1]
    have e : wgt (p :: q :: r) = (p.length + 1) + wgt (q :: r) := rfl
    omega
/-- the lines of lines that are joined: no longer, no heavier -/
theorem lines_join {ys : List Str} {m : Nat} (h : ∀ y ∈ ys, y.length ≤ m) : wgt (linesP (Txt.join nl ys)) ≤ wgt ys ∧ ∀ y ∈ linesP (Txt.join nl ys), y.length ≤ m := by
  unfold linesP
  by_cases c : Txt.join nl ys = ("" : Str)
  · rw [if_pos c]
    exact ⟨Nat.zero_le _, fun y hy => by cases hy⟩
  · rw [if_neg c]
    refine ⟨?_, fun y hy => ?_⟩
    · match ys, c with
      | [], c => exact absurd (by decide +kernel) c
      | y :: r, c =>
        have h1 := PyProof.Rows.split_weight (Txt.join nl (y :: r)) nl (by decide +kernel)
        rw [← wgt_sum] at h1
        have h2 := join_len1 y r
        rw [← TL.join_eq] at h2
        omega
    · have hm : TL.tl y ∈ (Txt.split (Txt.join nl ys) nl).map TL.tl := List.mem_map.mpr ⟨y, hy, rfl⟩
      rw [TL.split_spl _ nl (by rw [nl_tl]; simp) (TL.kind_ok (by decide +kernel)), nl_tl, TL.join_eq, TL.tl_join, nl_tl] at hm
      have h1 := spl_run_le _ _ _ hm
      have h2 := mxr_join (m := m) (qs := ys.map TL.tl) fun q hq => by
        obtain ⟨z, hz, rfl⟩ := List.mem_map.mp hq
        rw [← TL.len_tl]
        exact h z hz
      rw [TL.len_tl]
      exact Nat.le_trans h1 h2
/-! ## rules' texts, joined and read -/
theorem path_no10 {es : List PyData} (h : es.all isEntD = true) (x : Bool) : 10 ∉ TL.tl (pathS es x) := fun hc => by
  rw [path_tl h x] at hc
  rcases List.mem_cons.mp hc with h1 | h1
  · cases h1
  · rcases mem_join h1 with h2 | ⟨p, hp, h2⟩
    · cases List.mem_singleton.mp h2
    · obtain ⟨y, hy, rfl⟩ := List.mem_map.mp hp
      rcases List.mem_append.mp hy with hy | hy
      · obtain ⟨e, he, rfl⟩ := List.mem_map.mp hy
        exact (entT_no (c := 10) (List.all_eq_true.mp h e he) (by decide)).1 h2
      · cases x with
        | true => cases hy
        | false =>
          rw [List.mem_singleton.mp hy, dots_tl] at h2
          simp at h2
theorem text_no10 {s : Said} (ok : okS s) : 10 ∉ TL.tl (textS s) ∧ ∃ c, c ∈ TL.tl (textS s) := by
  obtain ⟨z, es, g, x⟩ := s
  obtain ⟨o1, o2, o3, o4⟩ := ok
  have e0 : TL.tl Str.empty = [] := by decide +kernel
  have e1 : TL.tl (Str.ofString " ") = [32] := by decide +kernel
  have e6 : TL.tl (Str.ofString " stays") = [32, 115, 116, 97, 121, 115] := by decide +kernel
  have e4 : TL.tl (Str.ofString " to ") = [32, 116, 111, 32] := by decide +kernel
  have fz := word_no (c := 10) (z := z) o1 (by decide)
  have fp := path_no10 o2 x
  match g, o4 with
  | none, _ =>
    show 10 ∉ TL.tl (Str.empty ++ (Str.empty ++ z ++ Str.ofString " " ++ pathS es x) ++ Str.ofString " stays") ∧ ∃ c, c ∈ TL.tl (Str.empty ++ (Str.empty ++ z ++ Str.ofString " " ++ pathS es x) ++ Str.ofString " stays")
    simp only [TL.tl_append, e0, e1, e6, List.nil_append, List.mem_append]
    refine ⟨?_, 32, .inl (.inl (.inr (by simp)))⟩
    rintro (((h | h) | h) | h)
    · exact fz h
    · simp at h
    · exact fp h
    · simp at h
  | some (d, bs), o4 =>
    obtain ⟨_, _, hq⟩ := goal_parts o4 |>.resolve_left (fun e => by cases e)
    obtain ⟨e, gy, gb⟩ := hq
    cases e
    obtain ⟨_, _, b3⟩ := areEnt_parts gb
    have fd := word_no (c := 10) (z := d) gy (by decide)
    have fq := path_no10 b3 x
    show 10 ∉ TL.tl (Str.empty ++ (Str.empty ++ z ++ Str.ofString " " ++ pathS es x) ++ Str.ofString " to " ++ d ++ Str.ofString " " ++ pathS bs x) ∧ ∃ c, c ∈ TL.tl (Str.empty ++ (Str.empty ++ z ++ Str.ofString " " ++ pathS es x) ++ Str.ofString " to " ++ d ++ Str.ofString " " ++ pathS bs x)
    simp only [TL.tl_append, e0, e1, e4, List.nil_append, List.mem_append]
    refine ⟨?_, 32, .inl (.inr (by simp))⟩
    rintro (((((((h | h) | h) | h) | h) | h) | h))
    · exact fz h
    · simp at h
    · exact fp h
    · simp at h
    · exact fd h
    · simp at h
    · exact fq h
theorem goalP_S (g : Option (Str × List PyData)) : goalP (goalSD g) = g := by
  match g with
  | none => rfl
  | some (d, es) => rfl
theorem text_read {s : Said} (ok : okS s) : ruleP (textS s) = some s := by
  obtain ⟨z, es, g, x⟩ := s
  have h := (rule_read (x := x) ok).1
  rw [goalP_S] at h
  exact h
theorem ok_wrong {s : Said} (ok : okS s) : wrongS s = none := by
  obtain ⟨z, es, g, x⟩ := s
  obtain ⟨o1, o2, o3, o4⟩ := ok
  show wrongD (.str z) (.tuple es) (goalSD g) (.bool x) = none
  refine wrong_none o1 ?_ o4
  show (true && (decide ((es.length : Int) ≤ 2) && es.all isEntD)) = true
  have o3' : es.length ≤ 2 := o3
  have o2' : es.all isEntD = true := o2
  rw [o2', decide_eq_true (by omega)]
  rfl
theorem lines_text {ss : List Said} (ok : ∀ s ∈ ss, okS s) : linesP (Txt.join nl (ss.map textS)) = ss.map textS := by
  match ss, ok with
  | [], _ =>
    have e : Txt.join nl (([] : List Said).map textS) = ("" : Str) := by decide +kernel
    unfold linesP
    rw [if_pos e]
    rfl
  | s :: r, ok =>
    have ne : Txt.join nl ((s :: r).map textS) ≠ ("" : Str) := fun e => by
      obtain ⟨_, c, hc⟩ := text_no10 (ok s (List.mem_cons_self ..))
      have h1 := congrArg TL.tl e
      rw [TL.join_eq, TL.tl_join, nl_tl] at h1
      have h2 := mem_joinL (s := [10]) (ps := ((s :: r).map textS).map TL.tl) (List.mem_map.mpr ⟨textS s, List.mem_map.mpr ⟨s, List.mem_cons_self .., rfl⟩, rfl⟩) hc
      rw [h1] at h2
      have h3 : TL.tl ("" : Str) = [] := by decide +kernel
      rw [h3] at h2
      cases h2
    unfold linesP
    rw [if_neg ne]
    exact TL.split_join (s := 10) (S := []) nl_tl (by decide +kernel) (by simp) fun p hp => by
      obtain ⟨t, ht, rfl⟩ := List.mem_map.mp hp
      exact (text_no10 (ok t ht)).1
theorem saids_text : ∀ {ss : List Said}, (∀ s ∈ ss, okS s) → saids (ss.map textS) = ss ∧ bad (ss.map textS) = none
  | [], _ => ⟨rfl, rfl⟩
  | s :: r, ok => by
    have h := text_read (ok s (List.mem_cons_self ..))
    obtain ⟨h1, h2⟩ := saids_text (ss := r) fun t ht => ok t (List.mem_cons_of_mem _ ht)
    refine ⟨?_, ?_⟩
    · unfold saids at h1 ⊢
      rw [List.map_cons, List.filterMap_cons, h, h1]
    · refine bad_none fun j hj => ?_
      have hj' : j < (s :: r).length := by rw [← List.length_map (f := textS)]; exact hj
      rw [List.getElem_map]
      rw [text_read (ok _ (List.getElem_mem hj'))]
      exact fun z => by cases z
/-- what is written of a book is read as the book -/
theorem book_read {ss : List Said} (ok : ∀ s ∈ ss, okS s) (l : limS ss = none) : readB (.str (Txt.join nl (ss.map textS))) = .made ss := by
  show linesB (linesP (Txt.join nl (ss.map textS))) = _
  rw [lines_text ok]
  obtain ⟨h1, h2⟩ := saids_text ok
  have h3 : (saids (ss.map textS)).findSome? wrongS = none := by
    rw [h1]
    exact List.findSome?_eq_none_iff.mpr fun s hs => ok_wrong (ok s hs)
  have := linesB_made h2 h3 (by rw [h1]; exact l)
  rw [h1] at this
  exact this
/-- a text that is not too long -/
def SmallB (z : Str) : Prop := z.length ≤ 1000000 ∧ (linesP z).length ≤ 50000 ∧ ∀ l ∈ linesP z, l.length ≤ 4000
theorem small_join {ys : List Str} {m : Nat} (h : ∀ y ∈ ys, y.length ≤ m) (hm : m ≤ 4000) (hw : wgt ys ≤ 50000) : SmallB (Txt.join nl ys) := by
  obtain ⟨h1, h2⟩ := lines_join h
  have h3 := join_len ys
  rw [← TL.join_eq] at h3
  have h4 := wgt_len (linesP (Txt.join nl ys))
  exact ⟨by omega, by omega, fun l hl => by have := h2 l hl; omega⟩
theorem small_any {z : Str} (h : z.length ≤ 4000) : SmallB z := by
  unfold SmallB linesP
  by_cases c : z = ("" : Str)
  · rw [if_pos c]
    exact ⟨by omega, Nat.zero_le _, fun l hl => by cases hl⟩
  · rw [if_neg c]
    have h1 := PyProof.Rows.split_weight z nl (by decide +kernel)
    rw [← wgt_sum] at h1
    have h4 := wgt_len (Txt.split z nl)
    exact ⟨by omega, by omega, fun l hl => by have := wgt_mem hl; omega⟩
end RL

-- NOMAP
namespace RL
open PySem L2 SX AddrMath VA PySem.W GR TxSet
abbrev odd7 : List V := [.str "", .str "s /.. stays", .str "s /1/1/1/.. stays", .str "s /a to t /1", .str "s /1 to t /2", .str "s stays", .str "t /2/.. to t /2/..", .str " "]
abbrev odd8 : List V := odd7 ++ [.str "s / to s /"]
theorem odd_len {v : V} (h : v ∈ odd8) : ∃ z : Str, v = .str z ∧ z.length ≤ 20 := by
  simp only [odd8, odd7, List.cons_append, List.nil_append, List.mem_cons, List.not_mem_nil, or_false] at h
  rcases h with rfl | rfl | rfl | rfl | rfl | rfl | rfl | rfl | rfl <;> exact ⟨_, rfl, by decide +kernel⟩
abbrev end5 : List V := [.str " ", .str "/", .str "..", .str "x", .str "\n"]
theorem end_len {v : V} (h : v ∈ end5) : ∃ z : Str, v = .str z ∧ z.length ≤ 2 := by
  simp only [end5, List.mem_cons, List.not_mem_nil, or_false] at h
  rcases h with rfl | rfl | rfl | rfl | rfl <;> exact ⟨_, rfl, by decide +kernel⟩
theorem wgt_at {ls : List Str} {k : Nat} {x : Str} (h : ls[k]? = some x) : wgt (ls.take k) + (x.length + 1) + wgt (ls.drop (k + 1)) ≤ wgt ls := by
  have e : ls = ls.take k ++ (x :: ls.drop (k + 1)) := by
    obtain ⟨h1, h2⟩ := List.getElem?_eq_some_iff.mp h
    rw [← h2, ← List.drop_eq_getElem_cons h1, List.take_append_drop]
  have e3 := congrArg wgt e
  rw [wgt_app] at e3
  have e4 : wgt (x :: ls.drop (k + 1)) = (x.length + 1) + wgt (ls.drop (k + 1)) := rfl
  omega
section
variable {P : Program} {w : World} {K : Frag} {mg : Str → Option Value} {base : Heap}
/-! ### _law_bent: slots _law_pen_here 0, _law_lines 1, _law_at 2, _law_way 3, _law_odd 4 -/
abbrev sBent : Stmt := top 68
theorem scBent : FnScope ["_law_pen_here", "_law_lines", "_law_at", "_law_way", "_law_odd"] ["_law_pen_here", "_law_lines"] (defScope sBent) := ⟨rfl, rfl, rfl, by decide +kernel, rfl, by decide +kernel, by decide +kernel⟩
def spBent : Sp := fun vs H Q _ => ∃ (d c la : Addr) (ls : List Str) (n m : Nat), vs = [.ref d, .ref la] ∧ PenAt H d c n ∧ n ≤ 800000 ∧ H la = some (.lst (ls.map V.str)) ∧ 0 < ls.length ∧ wgt ls ≤ 100000 ∧ 20 ≤ m ∧ m ≤ 4000 ∧ (∀ y ∈ ls, y.length ≤ m) ∧
  ∀ (l2 : Addr) (l3 : List Str) (H' : Hp), H' l2 = some (.lst (l3.map V.str)) → (∀ y ∈ l3, y.length ≤ m + 2) → wgt l3 ≤ 2 * wgt ls + 40 → PenAt H' d c (n + 3) → But d H H' → Q (.ref l2) H'
theorem ok_bent {f : Addr} {fd : FuncData} (F : Fun K "_law_bent" "_law_bent" sBent f fd) (B : Blt mg) (draw : Own P w K mg base CX0 1 "_law_draw" ["_law_pen_here", "_law_many"] spDraw) (pick : Own P w K mg base CX0 2 "_law_pick" ["_law_pen_here", "_law_items"] spPick) :
    FnOk P w K mg base CX0 3 f fd ["_law_pen_here", "_law_lines"] spBent := by
  refine F.ok scBent (fun vs H Q E h => ?_) (fun cdv A outer s0 H vs Q E hr h => ?_)
  · obtain ⟨d, c, la, ls, n, m, rfl, _⟩ := h
    rfl
  · obtain ⟨d, c, la, ls, n, m, rfl, p, hn, hl, l0, wl, m0, m1, hm, q⟩ := h
    refine ⟨_, (pss_cons (ps_par (by rfl) scBent.nd (i := 2) (j := 3) rfl rfl (by decide) rfl rfl (pa_cons (pe_call draw.g (hr.mono (by decide)) rfl draw.mg draw.kp draw.b .nil pass0 (pa_cons (pv 0) (pa_cons (pe_callB call_len_seq (by rfl) B.len_ (by decide +kernel) (pa_cons (pv 1) pa_nil)) pa_nil))) (pa_cons (pe_call draw.g (hr.mono (by decide)) rfl draw.mg draw.kp draw.b .nil pass0 (pa_cons (pv 0) (pa_cons pe_int pa_nil))) pa_nil)) (by rfl))
      (pss_cons (ps_set (i := 4) scBent.nd rfl (Or.inl rfl) (pe_lst (pa_cons pe_str (pa_cons pe_str (pa_cons pe_str (pa_cons pe_str (pa_cons pe_str (pa_cons pe_str (pa_cons pe_str (pa_cons pe_str pa_nil))))))))))
      (pss_cons (ps_expr (pe_bm PySem.F.plainAttrs_list PySem.F.slot_list_append PySem.F.type_list_append mt_append (pv 4) (pa_cons pe_str pa_nil)))
      (pss_cons (ps_if (pt_cmpR op_eq (pv 3) pe_int (nomark _)) (pss_one (ps_ret (pe_op op_cat (pe_slice sl_list (pv 1) po_none (po_some (pv 2))) (pe_slice sl_list (pv 1) (po_some (pe_op op_add (pv 2) pe_int)) po_none)))) pss_nil)
      (pss_cons (ps_if (pt_cmpR op_eq (pv 3) pe_int (nomark _)) (pss_one (ps_ret (pe_op op_cat (pe_op op_cat (pe_slice sl_list (pv 1) po_none (po_some (pv 2))) (pe_lst (pa_cons (pe_call pick.g (hr.mono (by decide)) rfl pick.mg pick.kp pick.b .nil pass0 (pa_cons (pv 0) (pa_cons (pv 4) pa_nil))) pa_nil))) (pe_slice sl_list (pv 1) (po_some (pv 2)) po_none)))) pss_nil)
      (pss_cons (ps_if (pt_cmpR op_eq (pv 3) pe_int (nomark _)) (pss_one (ps_ret (pe_op op_cat (pe_op op_cat (pe_slice sl_list (pv 1) po_none (po_some (pv 2))) (pe_lst (pa_cons (pe_call pick.g (hr.mono (by decide)) rfl pick.mg pick.kp pick.b .nil pass0 (pa_cons (pv 0) (pa_cons (pv 4) pa_nil))) pa_nil))) (pe_slice sl_list (pv 1) (po_some (pe_op op_add (pv 2) pe_int)) po_none)))) pss_nil)
      (pss_cons (ps_if (pt_cmpR op_eq (pv 3) pe_int (nomark _)) (pss_one (ps_ret (pe_op op_cat (pv 1) (pe_slice sl_list (pv 1) (po_some (pv 2)) po_none)))) pss_nil)
      (pss_cons (ps_if (pt_cmpR op_eq (pv 3) pe_int (nomark _)) (pss_one (ps_ret (pe_op op_cat (pe_slice sl_list (pv 1) (po_some (pv 2)) po_none) (pe_slice sl_list (pv 1) po_none (po_some (pv 2)))))) pss_nil)
      (pss_one (ps_ret (pe_op op_cat (pe_op op_cat (pe_slice sl_list (pv 1) po_none (po_some (pv 2))) (pe_lst (pa_cons (pe_op op_add_str (pe_ix ix_list (pv 1) (pv 2) (fun _ _ => rfl)) (pe_call pick.g (hr.mono (by decide)) rfl pick.mg pick.kp pick.b .nil pass0 (pa_cons (pv 0) (pa_cons (pe_lst (pa_cons pe_str (pa_cons pe_str (pa_cons pe_str (pa_cons pe_str (pa_cons pe_str pa_nil)))))) pa_nil)))) pa_nil))) (pe_slice sl_list (pv 1) (po_some (pe_op op_add (pv 2) pe_int)) po_none)))))))))))), ?_⟩
    have lw := wgt_len ls
    refine ⟨_, rfl, _, rfl, la, _, rfl, .inl (.inl (.inl hl)), d, c, n, _, rfl, p, by omega, by rw [List.length_map]; omega, by rw [List.length_map]; omega, fun j H1 j0 j1 p1 b1 => ?_⟩
    rw [List.length_map] at j1
    have hl1 := b1 _ _ hl (lst_ne hl p)
    refine ⟨_, rfl, d, c, n + 1, 6, rfl, p1, by omega, by decide, by decide, fun wy H2 w0 w1 p2 b2 => ?_⟩
    have hl2 := b2 _ _ hl1 (lst_ne hl1 p1)
    have bA : But d H H2 := b1.trans b2
    obtain ⟨k, rfl⟩ : ∃ k : Nat, j = (k : Int) := ⟨j.toNat, by omega⟩
    have hk : k < ls.length := by omega
    clear hl1 p1 b1 b2 j0 j1
    refine ⟨_, _, rfl, by show 8 ≤ sizeLine; decide, fun lo no => ⟨_, rfl, .inl ⟨rfl, _, .inl (.inl upd_same)⟩, lo, _, _, rfl, rfl, upd_same, size_lt (by show 8 ≤ 1000000; decide), ?_⟩⟩
    have n1 : lo ≠ d := fun e => p2.ne (by rw [← e]; exact no)
    have n2 : lo ≠ c := fun e => p2.neC (by rw [← e]; exact no)
    have n3 : lo ≠ la := fun e => by rw [e, hl2] at no; cases no
    have sO : Same H2 (upd H2 lo (.lst odd7)) := same_new no
    have pG : PenAt (upd (upd H2 lo (.lst odd7)) lo (.lst odd8)) d c (n + 2) := (p2.keep sO).put n1 n2
    have bG : But d H (upd (upd H2 lo (.lst odd7)) lo (.lst odd8)) := bA.trans ((but_of sO).put no)
    have hlG : (upd (upd H2 lo (.lst odd7)) lo (.lst odd8)) la = some (.lst (ls.map V.str)) := (upd_ne (Ne.symm n3)).trans (sO _ _ hl2)
    have loG : (upd (upd H2 lo (.lst odd7)) lo (.lst odd8)) lo = some (.lst odd8) := upd_same
    generalize upd (upd H2 lo (.lst odd7)) lo (.lst odd8) = G at pG bG hlG loG ⊢
    clear n1 n2 n3 sO no
    have ct : cutV (ls.map V.str) none (some (k : Int)) = (ls.take k).map V.str := by rw [cut_to, List.map_take]
    have cf : cutV (ls.map V.str) (some (k : Int)) none = (ls.drop k).map V.str := by rw [cut_from, List.map_drop]
    have cf1 : cutV (ls.map V.str) (some ((k : Int) + 1)) none = (ls.drop (k + 1)).map V.str := by
      rw [show ((k : Int) + 1) = ((k + 1 : Nat) : Int) by omega, cut_from, List.map_drop]
    have big1 : (ls.map V.str).length + 1 ≤ sizeLine := Nat.le_trans (m := 200000) (by rw [List.length_map]; omega) (by show 200000 ≤ sizeLine; decide)
    have big2 : ((ls.map V.str).length + 1) + (ls.map V.str).length ≤ sizeLine := Nat.le_trans (m := 300000) (by rw [List.length_map]; omega) (by show 300000 ≤ sizeLine; decide)
    have big3 : (ls.map V.str).length + (ls.map V.str).length ≤ sizeLine := Nat.le_trans (m := 300000) (by rw [List.length_map]; omega) (by show 300000 ≤ sizeLine; decide)
    have fin : ∀ (G' : Hp) (l : Addr) (ys : List Str), But d H G' → PenAt G' d c (n + 3) → G' l = some (.lst (ys.map V.str)) → (∀ y ∈ ys, y ∈ ls ∨ y.length ≤ 20 ∨ ∃ x ∈ ls, y.length ≤ x.length + 2) → wgt ys ≤ 2 * wgt ls + 40 → Q (.ref l) G' := fun G' l ys b p h hy hw => by
      refine q l ys G' h (fun y h => ?_) hw p b
      rcases hy y h with h | h | ⟨x, hx, h⟩
      · have := hm y h
        omega
      · omega
      · have := hm x hx
        omega
    -- 0
    refine ⟨_, rfl, rfl, _, rfl, if_is (fun _ => ?_) (fun _ => ?_)⟩
    · refine ⟨_, rfl, _, rfl, _, rfl, la, _, rfl, .inl (.inl hlG), fun l1 n1 => ⟨_, rfl, _, rfl, _, _, rfl, rfl, _, rfl, la, _, rfl, .inl (.inl (same_new n1 _ _ hlG)), fun l2 n2 => ⟨l1, l2, _, _, rfl, rfl, same_new n2 _ _ upd_same, upd_same, ?_, fun l3 n3 => ?_⟩⟩⟩
      · exact Nat.le_trans (Nat.add_le_add (cutV_length _ _ _) (cutV_length _ _ _)) big3
      · have s3 := ((same_new n1).trans (same_new n2)).trans (same_new (o := .lst (cutV (ls.map V.str) none (some (k : Int)) ++ cutV (ls.map V.str) (some ((k : Int) + 1)) none)) n3)
        refine fin _ l3 (ls.take k ++ ls.drop (k + 1)) (bG.trans (but_of s3)) ((pG.keep s3).mono (by omega)) ?_ (fun y hy => ?_) ?_
        · rw [upd_same, ct, cf1, List.map_append]
        · rcases List.mem_append.mp hy with h | h
          · exact .inl (List.mem_of_mem_take h)
          · exact .inl (List.mem_of_mem_drop h)
        · have e1 := wgt_take k ls
          have e2 := wgt_drop (k + 1) ls
          rw [wgt_app]
          omega
    -- 1
    refine ⟨_, rfl, rfl, _, rfl, if_is (fun _ => ?_) (fun _ => ?_)⟩
    · refine ⟨_, rfl, _, rfl, _, rfl, la, _, rfl, .inl (.inl hlG), fun l1 n1 => ⟨_, rfl, _, rfl, d, c, n + 2, _, rfl, pG.keep (same_new n1), by omega, .inl ⟨lo, odd8, rfl, same_new n1 _ _ loG, by show 0 < 9; decide, by show 9 < 1000000; decide, fun sv H5 hsv p5 b5 => ?_⟩⟩⟩
      obtain ⟨sg, rfl, sg1⟩ := odd_len hsv
      have sL : Same G (upd G l1 (.lst (cutV (ls.map V.str) none (some (k : Int))))) := same_new n1
      have pG1 := pG.keep sL
      have u1 : (upd G l1 (.lst (cutV (ls.map V.str) none (some (k : Int))))) l1 = some (.lst (cutV (ls.map V.str) none (some (k : Int)))) := upd_same
      have h15 := b5 _ _ u1 (lst_ne u1 pG1)
      have hl5 := b5 _ _ (sL _ _ hlG) (lst_ne (sL _ _ hlG) pG1)
      refine ⟨by show 1 ≤ sizeLine; decide, fun l2 n2 => ⟨l1, l2, _, _, rfl, rfl, same_new n2 _ _ h15, upd_same, ?_, fun l3 n3 => ?_⟩⟩
      · exact Nat.le_trans (Nat.add_le_add (cutV_length _ _ _) (Nat.le_refl 1)) big1
      · have s3 := (same_new (o := .lst [.str sg]) n2).trans (same_new (o := .lst (cutV (ls.map V.str) none (some (k : Int)) ++ [.str sg])) n3)
        refine ⟨_, rfl, _, rfl, _, rfl, la, _, rfl, .inl (.inl (s3 _ _ hl5)), fun l4 n4 => ⟨l3, l4, _, _, rfl, rfl, same_new n4 _ _ upd_same, upd_same, ?_, fun l5 n5 => ?_⟩⟩
        · refine Nat.le_trans (Nat.add_le_add (b := (ls.map V.str).length + 1) ?_ (cutV_length _ _ _)) big2
          rw [List.length_append]
          exact Nat.add_le_add (cutV_length _ _ _) (Nat.le_refl 1)
        · have s5 := (s3.trans (same_new n4)).trans (same_new (o := .lst ((cutV (ls.map V.str) none (some (k : Int)) ++ [.str sg]) ++ cutV (ls.map V.str) (some (k : Int)) none)) n5)
          refine fin _ l5 ((ls.take k ++ [sg]) ++ ls.drop k) ((bG.trans (but_of sL)).trans (b5.trans (but_of s5))) ((p5.keep s5).mono (by omega)) ?_ (fun y hy => ?_) ?_
          · rw [upd_same, ct, cf, List.map_append, List.map_append]
            rfl
          · rcases List.mem_append.mp hy with h | h
            · rcases List.mem_append.mp h with h | h
              · exact .inl (List.mem_of_mem_take h)
              · exact .inr (.inl (by rw [List.mem_singleton.mp h]; exact sg1))
            · exact .inl (List.mem_of_mem_drop h)
          · have e1 := wgt_take k ls
            have e2 := wgt_drop k ls
            rw [wgt_app, wgt_app]
            have e3 : wgt [sg] = (sg.length + 1) + 0 := rfl
            omega
    -- 2
    refine ⟨_, rfl, rfl, _, rfl, if_is (fun _ => ?_) (fun _ => ?_)⟩
    · refine ⟨_, rfl, _, rfl, _, rfl, la, _, rfl, .inl (.inl hlG), fun l1 n1 => ⟨_, rfl, _, rfl, d, c, n + 2, _, rfl, pG.keep (same_new n1), by omega, .inl ⟨lo, odd8, rfl, same_new n1 _ _ loG, by show 0 < 9; decide, by show 9 < 1000000; decide, fun sv H5 hsv p5 b5 => ?_⟩⟩⟩
      obtain ⟨sg, rfl, sg1⟩ := odd_len hsv
      have sL : Same G (upd G l1 (.lst (cutV (ls.map V.str) none (some (k : Int))))) := same_new n1
      have pG1 := pG.keep sL
      have u1 : (upd G l1 (.lst (cutV (ls.map V.str) none (some (k : Int))))) l1 = some (.lst (cutV (ls.map V.str) none (some (k : Int)))) := upd_same
      have h15 := b5 _ _ u1 (lst_ne u1 pG1)
      have hl5 := b5 _ _ (sL _ _ hlG) (lst_ne (sL _ _ hlG) pG1)
      refine ⟨by show 1 ≤ sizeLine; decide, fun l2 n2 => ⟨l1, l2, _, _, rfl, rfl, same_new n2 _ _ h15, upd_same, ?_, fun l3 n3 => ?_⟩⟩
      · exact Nat.le_trans (Nat.add_le_add (cutV_length _ _ _) (Nat.le_refl 1)) big1
      · have s3 := (same_new (o := .lst [.str sg]) n2).trans (same_new (o := .lst (cutV (ls.map V.str) none (some (k : Int)) ++ [.str sg])) n3)
        refine ⟨_, rfl, _, rfl, _, _, rfl, rfl, _, rfl, la, _, rfl, .inl (.inl (s3 _ _ hl5)), fun l4 n4 => ⟨l3, l4, _, _, rfl, rfl, same_new n4 _ _ upd_same, upd_same, ?_, fun l5 n5 => ?_⟩⟩
        · refine Nat.le_trans (Nat.add_le_add (b := (ls.map V.str).length + 1) ?_ (cutV_length _ _ _)) big2
          rw [List.length_append]
          exact Nat.add_le_add (cutV_length _ _ _) (Nat.le_refl 1)
        · have s5 := (s3.trans (same_new n4)).trans (same_new (o := .lst ((cutV (ls.map V.str) none (some (k : Int)) ++ [.str sg]) ++ cutV (ls.map V.str) (some ((k : Int) + 1)) none)) n5)
          refine fin _ l5 ((ls.take k ++ [sg]) ++ ls.drop (k + 1)) ((bG.trans (but_of sL)).trans (b5.trans (but_of s5))) ((p5.keep s5).mono (by omega)) ?_ (fun y hy => ?_) ?_
          · rw [upd_same, ct, cf1, List.map_append, List.map_append]
            rfl
          · rcases List.mem_append.mp hy with h | h
            · rcases List.mem_append.mp h with h | h
              · exact .inl (List.mem_of_mem_take h)
              · exact .inr (.inl (by rw [List.mem_singleton.mp h]; exact sg1))
            · exact .inl (List.mem_of_mem_drop h)
          · have e1 := wgt_take k ls
            have e2 := wgt_drop (k + 1) ls
            rw [wgt_app, wgt_app]
            have e3 : wgt [sg] = (sg.length + 1) + 0 := rfl
            omega
    -- 3
    refine ⟨_, rfl, rfl, _, rfl, if_is (fun _ => ?_) (fun _ => ?_)⟩
    · refine ⟨_, rfl, _, rfl, _, rfl, _, rfl, la, _, rfl, .inl (.inl hlG), fun l2 n2 => ⟨la, l2, _, _, rfl, rfl, same_new n2 _ _ hlG, upd_same, ?_, fun l3 n3 => ?_⟩⟩
      · exact Nat.le_trans (Nat.add_le_add (Nat.le_refl _) (cutV_length _ _ _)) big3
      · have s3 := (same_new n2).trans (same_new (o := .lst (ls.map V.str ++ cutV (ls.map V.str) (some (k : Int)) none)) n3)
        refine fin _ l3 (ls ++ ls.drop k) (bG.trans (but_of s3)) ((pG.keep s3).mono (by omega)) ?_ (fun y hy => ?_) ?_
        · rw [upd_same, cf, List.map_append]
        · rcases List.mem_append.mp hy with h | h
          · exact .inl h
          · exact .inl (List.mem_of_mem_drop h)
        · have e2 := wgt_drop k ls
          rw [wgt_app]
          omega
    -- 4
    refine ⟨_, rfl, rfl, _, rfl, if_is (fun _ => ?_) (fun _ => ?_)⟩
    · refine ⟨_, rfl, _, rfl, _, rfl, la, _, rfl, .inl (.inl hlG), fun l1 n1 => ⟨_, rfl, _, rfl, _, rfl, la, _, rfl, .inl (.inl (same_new n1 _ _ hlG)), fun l2 n2 => ⟨l1, l2, _, _, rfl, rfl, same_new n2 _ _ upd_same, upd_same, ?_, fun l3 n3 => ?_⟩⟩⟩
      · exact Nat.le_trans (Nat.add_le_add (cutV_length _ _ _) (cutV_length _ _ _)) big3
      · have s3 := ((same_new n1).trans (same_new n2)).trans (same_new (o := .lst (cutV (ls.map V.str) (some (k : Int)) none ++ cutV (ls.map V.str) none (some (k : Int)))) n3)
        refine fin _ l3 (ls.drop k ++ ls.take k) (bG.trans (but_of s3)) ((pG.keep s3).mono (by omega)) ?_ (fun y hy => ?_) ?_
        · rw [upd_same, ct, cf, List.map_append]
        · rcases List.mem_append.mp hy with h | h
          · exact .inl (List.mem_of_mem_drop h)
          · exact .inl (List.mem_of_mem_take h)
        · have e1 := wgt_take k ls
          have e2 := wgt_drop k ls
          rw [wgt_app]
          omega
    -- 5
    have ek : ls[k]? = some ls[k] := List.getElem?_eq_getElem hk
    have mk : ls[k] ∈ ls := List.getElem_mem hk
    generalize ls[k] = x at ek mk
    have hx := hm x mk
    refine ⟨_, rfl, _, rfl, _, rfl, la, _, rfl, .inl (.inl hlG), fun l1 n1 => ⟨_, rfl, _, rfl, la, _, (k : Int), .str x, rfl, rfl, .inl (.inl (same_new n1 _ _ hlG)), ?_, _, rfl, by show 5 ≤ sizeLine; decide, fun le nE => ⟨d, c, n + 2, _, rfl, pG.keep ((same_new n1).trans (same_new nE)), by omega, .inl ⟨le, end5, rfl, upd_same, by show 0 < 5; decide, by show 5 < 1000000; decide, fun sv H5 hsv p5 b5 => ?_⟩⟩⟩⟩
    · refine atI_nat ?_
      rw [List.getElem?_map, ek]
      rfl
    obtain ⟨sg, rfl, sg1⟩ := end_len hsv
    have sL : Same G (upd G l1 (.lst (cutV (ls.map V.str) none (some (k : Int))))) := same_new n1
    have u1 : (upd G l1 (.lst (cutV (ls.map V.str) none (some (k : Int))))) l1 = some (.lst (cutV (ls.map V.str) none (some (k : Int)))) := upd_same
    have sE := same_new (o := .lst end5) nE
    have pG1 := pG.keep (sL.trans sE)
    have h15 := b5 _ _ (sE _ _ u1) (lst_ne (sE _ _ u1) pG1)
    have hl5 := b5 _ _ (sE _ _ (sL _ _ hlG)) (lst_ne (sE _ _ (sL _ _ hlG)) pG1)
    refine ⟨_, _, rfl, rfl, Nat.le_trans (m := 5000) (by omega) (by show 5000 ≤ sizeLine; decide), by show 1 ≤ sizeLine; decide, fun l2 n2 => ⟨l1, l2, _, _, rfl, rfl, same_new n2 _ _ h15, upd_same, ?_, fun l3 n3 => ?_⟩⟩
    · exact Nat.le_trans (Nat.add_le_add (cutV_length _ _ _) (Nat.le_refl 1)) big1
    · have s3 := (same_new (o := .lst [.str (x ++ sg)]) n2).trans (same_new (o := .lst (cutV (ls.map V.str) none (some (k : Int)) ++ [.str (x ++ sg)])) n3)
      refine ⟨_, rfl, _, rfl, _, _, rfl, rfl, _, rfl, la, _, rfl, .inl (.inl (s3 _ _ hl5)), fun l4 n4 => ⟨l3, l4, _, _, rfl, rfl, same_new n4 _ _ upd_same, upd_same, ?_, fun l5 n5 => ?_⟩⟩
      · refine Nat.le_trans (Nat.add_le_add (b := (ls.map V.str).length + 1) ?_ (cutV_length _ _ _)) big2
        rw [List.length_append]
        exact Nat.add_le_add (cutV_length _ _ _) (Nat.le_refl 1)
      · have s5 := (s3.trans (same_new n4)).trans (same_new (o := .lst ((cutV (ls.map V.str) none (some (k : Int)) ++ [.str (x ++ sg)]) ++ cutV (ls.map V.str) (some ((k : Int) + 1)) none)) n5)
        have lx : (x ++ sg).length = x.length + sg.length := str_len_app x sg
        refine fin _ l5 ((ls.take k ++ [x ++ sg]) ++ ls.drop (k + 1)) (((bG.trans (but_of sL)).trans (but_of sE)).trans (b5.trans (but_of s5))) ((p5.keep s5).mono (by omega)) ?_ (fun y hy => ?_) ?_
        · rw [upd_same, ct, cf1, List.map_append, List.map_append]
          rfl
        · rcases List.mem_append.mp hy with h | h
          · rcases List.mem_append.mp h with h | h
            · exact .inl (List.mem_of_mem_take h)
            · refine .inr (.inr ⟨x, mk, ?_⟩)
              rw [List.mem_singleton.mp h]
              omega
          · exact .inl (List.mem_of_mem_drop h)
        · have e1 := wgt_at ek
          rw [wgt_app, wgt_app]
          have e3 : wgt [x ++ sg] = ((x ++ sg).length + 1) + 0 := rfl
          omega
end
end RL

/-! == of two instances with their own ==. -/
namespace GR
open PySem PySem.W PySem.Spec PySem.Calls PyProof.Rows L2 SX
section
variable {X : Cx} {C f : Addr} {fd : FuncData} {ps : List Str} {n : Nat} {sp : Sp}
def rEqOwn (C : Addr) (sp : Sp) : R2 := fun x y H Q => ∃ (a b dx dy : Addr) (fs gs : List (Str × V)), x = .ref a ∧ y = .ref b ∧ H a = some (.ins C dx fs) ∧ H b = some (.ins C dy gs) ∧ sp [x, y] H (fun z H' => ∃ t, z = .bl t ∧ Q (.bl t) H') E0
theorem own_eqI (at_ : findIn X.K (.ref C) "__eq__" = some (some (.ref f))) (isF : isFn X.K (.ref f) = true)
    (F : FnOk X.prog X.w X.K X.mg X.base CX0 n f fd ps sp) (hb : Binds X.K fd ps []) (room : Room n X.A) : OpR X (compareOp .Eq) (rEqOwn C sp) := by
  intro pins s σ H x y v u Q I rx ry ⟨a, b, dx, dy, fs, gs, ex, ey, ha, hb', q⟩
  subst ex; subst ey
  cases (show v = Value.ref a from rx); cases (show u = Value.ref b from ry)
  obtain ⟨_, J, _⟩ := ins_get I.hok ha
  obtain ⟨_, J', _⟩ := ins_get I.hok hb'
  obtain ⟨od, J, _⟩ := J.look
  obtain ⟨od', J', _⟩ := J'.look
  obtain ⟨m, hF⟩ := I.fr
  show wpAny (model X.prog X.w) X.A (richCompare .Eq (.ref a) (.ref b)) (EP X pins σ Q) X.xe s
  refine cmp_K (op := .Eq) (tb := .ref C) room.units0 hF I.ok.mod.kin J J'.type (by simp [notFirst]) at_ isF ?_
  have bs := hb s [.ref a, .ref b] I.kIn (by rw [List.append_nil]; exact F.len _ _ _ _ q)
  refine wpAny_call (codeAny_mono (F.run X.A X.stack s H ⟨[.ref a, .ref b], []⟩ [.ref a, .ref b] [.ref a, .ref b] _ E0 room I.env0 bs (.cons rfl (.cons rfl .nil)) q) ?_)
  rintro (e | fl) s' h
  · exact (show False from h).elim
  cases fl with
  | next => exact (show False from h).elim
  | brk => exact (show False from h).elim
  | cont => exact (show False from h).elim
  | ret r =>
    obtain ⟨z, H', I', rz, t, ez, qz⟩ := I.after h
    subst ez
    cases (show r = Value.bool t from rz)
    exact ⟨.bl t, H', I', rfl, qz⟩
end
end GR

-- NOMAP
namespace RL
open PySem L2 SX AddrMath VA PySem.W GR TxSet LamX
/-! ## what is told of a book, as data -/
def outBD : BR → PyData
  | .text i => .tuple [.str "text", .str (nat_T i)]
  | .rule f => .tuple [.str "rule", .str f]
  | .many n => .tuple [.str "many", .int n]
  | .made ss => .tuple [.str "read", .list ((ss.map textS).map PyData.str)]
theorem strOk_of (s : String) : PyData.strOk (Str.ofString s) = true := by
  show (Str.ofString s).cps.all (· < 0x110000) = true
  rw [← Array.all_toList, List.all_eq_true]
  intro c hc
  have hc' : c ∈ TL.tl (Str.ofString s) := hc
  rw [TL.tl_ofString] at hc'
  obtain ⟨x, _, rfl⟩ := List.mem_map.mp hc'
  have v := x.valid
  have e : x.toNat = x.val.toNat := rfl
  rw [e]
  refine decide_eq_true ?_
  rcases v with h | h
  · have : x.val.toNat < 0xd800 := h
    omega
  · exact h.2
theorem strOk_sgn {z : Str} (h : sgn z) : PyData.strOk z = true := by
  show z.cps.all (· < 0x110000) = true
  rw [← Array.all_toList, List.all_eq_true]
  exact fun c hc => decide_eq_true (h c hc)
theorem lay_strs : ∀ {zs : List Str}, (∀ z ∈ zs, PyData.strOk z = true) → PyData.canLayAll0 (zs.map PyData.str) = true ∧ PyData.depthAll (zs.map PyData.str) ≤ 1
  | [], _ => ⟨by rw [List.map_nil, PyData.canLayAll0], by rw [List.map_nil, PyData.depthAll]; omega⟩
  | z :: r, h => by
    obtain ⟨h1, h2⟩ := lay_strs (zs := r) fun y hy => h y (List.mem_cons_of_mem _ hy)
    have hz := h z (List.mem_cons_self ..)
    refine ⟨?_, ?_⟩
    · rw [List.map_cons, PyData.canLayAll0, h1, PyData.canLay0, hz]
      rfl
    · rw [List.map_cons, PyData.depthAll]
      have : PyData.depth (.str z) ≤ 1 := by simp [PyData.depth]
      omega
theorem lay_ok {d : PyData} (h : d.canLay0 = true) (k : d.depth ≤ 64) : SeqAt.shaped d = true ∧ PyData.eqv d d = true := by
  refine ⟨?_, SeqAt.eqv_refl _ h⟩
  unfold SeqAt.shaped
  rw [h, decide_eq_true k]
  rfl
/-- what is read of a text -/
def FitB (o : BR) : Prop := (∀ i, o = .text i → i ≤ 1000000) ∧ ∀ ss, o = .made ss → (∀ s ∈ ss, okS s) ∧ limS ss = none
theorem wrong_fieldS {s : Said} {f : Str} (h : wrongS s = some f) : PyData.strOk f = true := by
  unfold wrongS wrongD at h
  by_cases a : isWordD (.str s.1) = false
  · rw [if_pos a] at h
    cases h
    decide +kernel
  · rw [if_neg a] at h
    by_cases b : areEntD 2 (.tuple s.2.1) = false
    · rw [if_pos b] at h
      cases h
      decide +kernel
    · rw [if_neg b] at h
      by_cases c : isGoalD (goalSD s.2.2.1) (.tuple s.2.1) = false
      · rw [if_pos c] at h
        cases h
        decide +kernel
      · rw [if_neg c] at h
        cases h
theorem linesB_cases (ls : List Str) : (∃ i, bad ls = some i ∧ linesB ls = .text i) ∨ (∃ f, (saids ls).findSome? wrongS = some f ∧ linesB ls = .rule f) ∨ (∃ n, linesB ls = .many n) ∨ ((saids ls).findSome? wrongS = none ∧ limS (saids ls) = none ∧ linesB ls = .made (saids ls)) := by
  cases h : bad ls with
  | some i => exact .inl ⟨i, rfl, linesB_text h⟩
  | none =>
    cases k : (saids ls).findSome? wrongS with
    | some f => exact .inr (.inl ⟨f, rfl, linesB_rule h k⟩)
    | none =>
      cases l : limS (saids ls) with
      | some n => exact .inr (.inr (.inl ⟨n, linesB_many h k l⟩))
      | none => exact .inr (.inr (.inr ⟨rfl, rfl, linesB_made h k l⟩))
theorem fit_lines {ls : List Str} (h : ls.length ≤ 50000) : FitB (linesB ls) := by
  refine ⟨fun i e => ?_, fun ss e => ?_⟩
  · rcases linesB_cases ls with ⟨j, b, hj⟩ | ⟨f, _, hf⟩ | ⟨n, hn⟩ | ⟨_, _, hm⟩
    · rw [hj] at e
      cases e
      unfold bad at b
      rw [List.findIdx?_eq_some_iff_getElem] at b
      obtain ⟨hi, _⟩ := b
      omega
    · rw [hf] at e; cases e
    · rw [hn] at e; cases e
    · rw [hm] at e; cases e
  · rcases linesB_cases ls with ⟨j, b, hj⟩ | ⟨f, _, hf⟩ | ⟨n, hn⟩ | ⟨w, l, hm⟩
    · rw [hj] at e; cases e
    · rw [hf] at e; cases e
    · rw [hn] at e; cases e
    · rw [hm] at e
      cases e
      exact ⟨fun s hs => wrong_ok (List.findSome?_eq_none_iff.mp w s hs), l⟩
theorem fit_B {K : Frag} {H : Hp} {v : V} (h : TextB K H v) : FitB (readB v) := by
  rcases h with ⟨x, hv, ns⟩ | ⟨z, rfl, hz, few, hls⟩
  · have e1 : readB v = .text 0 := by
      rcases hv with ⟨h, _⟩ | ⟨a, kvs, rfl, _⟩
      · cases h <;> first | rfl | cases ns
      · rfl
    rw [e1]
    exact ⟨fun i e => by cases e; omega, fun ss e => by cases e⟩
  · exact fit_lines few
/-- the field of a rule that is refused -/
def FldB (o : BR) : Prop := ∀ f, o = .rule f → PyData.strOk f = true
theorem fld_B (v : V) : FldB (readB v) := by
  intro f e
  cases v with
  | str z =>
    have e' : linesB (linesP z) = .rule f := e
    rcases linesB_cases (linesP z) with ⟨j, b, hj⟩ | ⟨g, w, hf⟩ | ⟨n, hn⟩ | ⟨w, l, hm⟩
    · rw [hj] at e'; cases e'
    · rw [hf] at e'
      cases e'
      obtain ⟨s, _, hs⟩ := List.exists_of_findSome?_eq_some w
      exact wrong_fieldS hs
    · rw [hn] at e'; cases e'
    · rw [hm] at e'; cases e'
  | _ => cases e
theorem out_lay {o : BR} (f : FitB o) (g : FldB o) : SeqAt.shaped (outBD o) = true ∧ PyData.eqv (outBD o) (outBD o) = true := by
  cases o with
  | text i =>
    refine lay_ok ?_ ?_
    · show PyData.canLay0 (.tuple [.str "text", .str (nat_T i)]) = true
      rw [PyData.canLay0, PyData.canLayAll0, PyData.canLayAll0, PyData.canLayAll0, PyData.canLay0, PyData.canLay0, strOk_of, strOk_of]
      rfl
    · show PyData.depth (.tuple [.str "text", .str (nat_T i)]) ≤ 64
      simp [PyData.depth, PyData.depthAll]
  | rule fd =>
    refine lay_ok ?_ ?_
    · show PyData.canLay0 (.tuple [.str "rule", .str fd]) = true
      rw [PyData.canLay0, PyData.canLayAll0, PyData.canLayAll0, PyData.canLayAll0, PyData.canLay0, PyData.canLay0, strOk_of, g fd rfl]
      rfl
    · show PyData.depth (.tuple [.str "rule", .str fd]) ≤ 64
      simp [PyData.depth, PyData.depthAll]
  | many n =>
    refine lay_ok ?_ ?_
    · show PyData.canLay0 (.tuple [.str "many", .int n]) = true
      rw [PyData.canLay0, PyData.canLayAll0, PyData.canLayAll0, PyData.canLayAll0, PyData.canLay0, PyData.canLay0, strOk_of]
      rfl
    · show PyData.depth (.tuple [.str "many", .int n]) ≤ 64
      simp [PyData.depth, PyData.depthAll]
  | made ss =>
    obtain ⟨h1, h2⟩ := lay_strs (zs := ss.map textS) fun z hz => by
      obtain ⟨s, hs, rfl⟩ := List.mem_map.mp hz
      exact strOk_sgn (rule_read (x := s.2.2.2) ((f.2 ss rfl).1 s hs)).2.2
    refine lay_ok ?_ ?_
    · show PyData.canLay0 (.tuple [.str "read", .list ((ss.map textS).map PyData.str)]) = true
      rw [PyData.canLay0, PyData.canLayAll0, PyData.canLayAll0, PyData.canLayAll0, PyData.canLay0, PyData.canLay0, strOk_of, h1]
      rfl
    · show PyData.depth (.tuple [.str "read", .list ((ss.map textS).map PyData.str)]) ≤ 64
      rw [PyData.depth, PyData.depthAll, PyData.depthAll, PyData.depthAll, PyData.depth, PyData.depth]
      omega
theorem dp_strL {K : Frag} {H : Hp} : ∀ zs : List Str, DpAll K H (zs.map V.str) (zs.map PyData.str)
  | [] => .nil
  | z :: r => .cons (.str z) (dp_strL r)
theorem outB_dp {K : Frag} {H : Hp} {o : BR} {v : V} (h : OutB K H o v) : Dp K H v (outBD o) := by
  obtain ⟨l, rfl, h⟩ := h
  cases o with
  | text i => exact .tup h (.cons (.str _) (.cons (.str _) .nil))
  | rule f => exact .tup h (.cons (.str _) (.cons (.str _) .nil))
  | many n => exact .tup h (.cons (.str _) (.cons (.int _) .nil))
  | made ss =>
    obtain ⟨t, h1, h2⟩ := h
    exact .tup h1 (.cons (.str _) (.cons (.lst h2 (dp_strL _)) .nil))
theorem OutB.kd {K : Frag} {H H' : Hp} {d c : Addr} {n : Nat} {o : BR} {v : V} (h : OutB K H o v) (p : PenAt H d c n) (k : Kd d H H') : OutB K H' o v := by
  have kk := k.kp p
  obtain ⟨l, rfl, h⟩ := h
  refine ⟨l, rfl, ?_⟩
  cases o with
  | text i => exact kk.sqT h
  | rule f => exact kk.sqT h
  | many n => exact kk.sqT h
  | made ss =>
    obtain ⟨t, h1, h2⟩ := h
    exact ⟨t, kk.sqT h1, kk.sqL h2⟩
/-- a text, or any value, whatever the pen does -/
def TxtB (K : Frag) (H : Hp) (d : Addr) (v : V) : Prop := Vy K H d v ∨ ∃ z, v = .str z ∧ SmallB z
theorem TxtB.tb {K : Frag} {H : Hp} {d : Addr} {v : V} (h : TxtB K H d v) : TextB K H v := by
  rcases h with (⟨x, hx, ox⟩ | ⟨a, kvs, rfl, _, ha⟩) | ⟨z, e, h⟩
  · cases hs : isStrD x with
    | false => exact .inl ⟨x, .inl ⟨hx, ox⟩, hs⟩
    | true =>
      match x, hs, hx, ox with
      | .str z, _, hx, ox =>
        cases hx
        rw [okD, Bool.and_eq_true, decide_eq_true_eq] at ox
        exact .inr ⟨z, rfl, small_any (by omega)⟩
  · exact .inl ⟨.dict [], .inr ⟨a, kvs, rfl, ha, rfl⟩, rfl⟩
  · exact .inr ⟨z, e, h⟩
theorem TxtB.kd {K : Frag} {H H' : Hp} {d c : Addr} {n : Nat} {v : V} (h : TxtB K H d v) (p : PenAt H d c n) (k : Kd d H H') : TxtB K H' d v := by
  rcases h with h | h
  · exact .inl (vy_kd h p k)
  · exact .inr h
/-- _law_told(lambda: Book.read(x)), x in slot j -/
def tTold (K : Frag) (T : List (Addr × Str)) (j : Nat) : TE := fun σ H Q => ∃ (d c : Addr) (n : Nat) (v : V), σ[j]? = some (some v) ∧ TxtB K H d v ∧ PenAt H d c n ∧ Tabs T H ∧ ∀ u H', OutB K H' (readB v) u → PenAt H' d c n → Tabs T H' → Kd d H H' → Q u H'
/-- what a read book is told as -/
theorem told_sp {K : Frag} {C CB CE CT CM d c : Addr} {n : Nat} {v : V} {T : List (Addr × Str)} {H G : Hp} {Q : VK} {E' : XK} {Q' : VK} (hv : TxtB K G d v) (p : PenAt G d c n) (tb : Tabs T G) (k0 : Kd d H G)
    (nx : ∀ u H', OutB K H' (readB v) u → PenAt H' d c n → Tabs T H' → Kd d H H' → Q u H')
    (eT : ∀ (d : Addr) (i : Nat) H', i ≤ 1000000 → H' d = some (.xd (ixF nIndex (.int i))) → (∀ l, H' l = none → Q (.ref l) (upd H' l (.tup [.str "text", .str (nat_T i)]))) → E' (.ref CT) (some d) H')
    (eE : ∀ d f H', H' d = some (.xd (ixF nField (.str f))) → (∀ l, H' l = none → Q (.ref l) (upd H' l (.tup [.str "rule", .str f]))) → E' (.ref CE) (some d) H')
    (eM : ∀ d n H', H' d = some (.xd (ixF nLimit (.int n))) → (∀ l, H' l = none → Q (.ref l) (upd H' l (.tup [.str "many", .int n]))) → E' (.ref CM) (some d) H')
    (hQ : ∀ b t ps ss H', BookAt K C CB H' b t ps ss → ss.length ≤ 1000 → (∀ D l H2, Same H' H2 → H2 D = some (.lst ((ss.map textS).map V.str)) → H2 l = none → Q (.ref l) (upd H2 l (.tup [.str "read", .ref D]))) → Q' (.ref b) H') : spBRead K C CB CE CT CM [.ref CB, v] G Q' E' := by
  have fit := fit_B hv.tb
  refine ⟨v, rfl, hv.tb, fun i hi d' H' s' hd nd => ?_, fun f hf d' H' s' hd nd => ?_, fun m hm d' H' s' hd nd => ?_, fun ss hs b t ps H' hB s' nb => ?_⟩
  · refine eT d' i H' (fit.1 i hi) hd fun l nl => ?_
    have sG := s'.trans (same_new (o := .tup [.str "text", .str (nat_T i)]) nl)
    refine nx _ _ ⟨l, rfl, ?_⟩ (p.keep sG) (tabs_same tb sG) (k0.trans (kd_same sG))
    rw [hi]
    exact .inl (.inl upd_same)
  · refine eE d' f H' hd fun l nl => ?_
    have sG := s'.trans (same_new (o := .tup [.str "rule", .str f]) nl)
    refine nx _ _ ⟨l, rfl, ?_⟩ (p.keep sG) (tabs_same tb sG) (k0.trans (kd_same sG))
    rw [hf]
    exact .inl (.inl upd_same)
  · refine eM d' m H' hd fun l nl => ?_
    have sG := s'.trans (same_new (o := .tup [.str "many", .int m]) nl)
    refine nx _ _ ⟨l, rfl, ?_⟩ (p.keep sG) (tabs_same tb sG) (k0.trans (kd_same sG))
    rw [hm]
    exact .inl (.inl upd_same)
  · have few := made_few (fit.2 ss hs).2
    refine hQ b t ps ss H' hB (by omega) fun D l H2 s2 hD nl => ?_
    have s6 := same_new (o := .tup [.str "read", .ref D]) nl
    have sG := (s'.trans s2).trans s6
    refine nx _ _ ⟨l, rfl, ?_⟩ (p.keep sG) (tabs_same tb sG) (k0.trans (kd_same sG))
    rw [hs]
    exact ⟨D, .inl (.inl upd_same), .inl (.inl (s6 _ _ hD))⟩
theorem told_tt {K : Frag} {T : List (Addr × Str)} {C CB CE CT CM : Addr} {j : Nat} {σ : L2.St} {H : Hp} {Q : VK} (h : tTold K T j σ H Q) :
    Tabs T H ∧ ∀ H1, ExtN H H1 → Tabs T H1 → ttTold K C CB CE CT CM (fun E H' Q' => V.ref CB = V.ref CB ∧ ∃ u, σ[j]? = some (some u) ∧ spBRead K C CB CE CT CM [.ref CB, u] H' Q' E) H1 Q := by
  obtain ⟨d, c, n, v, e, hv, p, tb, nx⟩ := h
  refine ⟨tb, fun G xt tbG E' Q' eT eE eM hQ => ?_⟩
  have kG := kd_ext (d := d) xt
  exact ⟨rfl, v, e, told_sp (hv.kd p kG) (pen_ext p xt) tbG kG nx eT eE eM hQ⟩
end RL

namespace RL
open PySem L2 SX AddrMath VA
section
variable {P : Program} {w : World} {K : PySem.W.Frag} {mg : Str → Option Value} {base : Heap}
/-! ### _law_any_value: slots _law_pen_here 0, _law_some 1 -/
abbrev sAnyValue : Stmt := top 59
theorem scAnyValue : FnScope ["_law_pen_here", "_law_some"] ["_law_pen_here"] (defScope sAnyValue) := ⟨rfl, rfl, rfl, by decide +kernel, rfl, by decide +kernel, by decide +kernel⟩
def spAny (K : PySem.W.Frag) : Sp := fun vs H Q _ => ∃ (d c : Addr) (n : Nat), vs = [.ref d] ∧ PenAt H d c n ∧ n ≤ 900000 ∧ ∀ (v : V) (H' : Hp), Vy K H' d v → PenAt H' d c (n + 1) → But d H H' → Q v H'
theorem ok_any {f : Addr} {fd : FuncData} (F : Fun K "_law_any_value" "_law_any_value" sAnyValue f fd) (pick : Own P w K mg base CX0 2 "_law_pick" ["_law_pen_here", "_law_items"] spPick) : FnOk P w K mg base CX0 3 f fd ["_law_pen_here"] (spAny K) := by
  refine F.ok scAnyValue (fun vs H Q E h => ?_) (fun cdv A outer s0 H vs Q E hr h => ?_)
  · obtain ⟨d, c, n, rfl, _⟩ := h
    rfl
  · obtain ⟨d, c, n, rfl, p, hn, q⟩ := h
    refine ⟨_, (pss_cons (ps_set (i := 1) scAnyValue.nd rfl (Or.inl rfl) (anyL (K := K) (n := 18) (anys_cons (any_lit lit_non rfl) (anys_cons (any_lit lit_bl rfl) (anys_cons (any_lit lit_bl rfl) (anys_cons (any_lit lit_int rfl) (anys_cons (any_lit lit_int rfl) (anys_cons (any_lit lit_int rfl) (anys_cons (any_lit lit_int rfl) (anys_cons (any_lit lit_neg rfl) (anys_cons (any_lit (lit_pow ⟨by decide, by decide, by decide⟩) rfl)
          (anys_cons (any_lit lit_str (by decide +kernel)) (anys_cons (any_lit lit_str (by decide +kernel)) (anys_cons (any_lit lit_str (by decide +kernel)) (anys_cons (any_lit lit_str (by decide +kernel)) (anys_cons (any_lit lit_str (by decide +kernel)) (anys_cons (any_lit lit_str (by decide +kernel)) (anys_cons (any_lit lit_str (by decide +kernel)) (anys_cons (any_lit (lit_tup lits_nil (by decide)) (by decide +kernel)) (anys_cons (any_lit (lit_tup (lits_cons lit_str lits_nil) (by decide)) (by decide +kernel)) anys_nil)))))))))))))))))) (by decide)))
      (pss_cons (ps_set (i := 1) scAnyValue.nd rfl (Or.inl rfl) (pe_op op_cat (pv 1) (anyL (K := K) (n := 12) (anys_cons (any_lit (lit_lst lits_nil (by decide)) (by decide +kernel)) (anys_cons (any_lit (lit_lst (lits_cons lit_str lits_nil) (by decide)) (by decide +kernel)) (anys_cons (any_lit (lit_lst (lits_cons lit_int lits_nil) (by decide)) (by decide +kernel)) (anys_cons (any_dict pe_dnewK) (anys_cons (any_disp (pe_disp (pps_cons pe_str pe_int pps_nil) (by rfl) (by rfl) (fun z => by cases z) (by decide)))
          (anys_cons (any_lit (lit_tup (lits_cons lit_int (lits_cons lit_int lits_nil)) (by decide)) (by decide +kernel)) (anys_cons (any_lit (lit_tup (lits_cons lit_str (lits_cons (lit_tup lits_nil (by decide)) lits_nil)) (by decide)) (by decide +kernel)) (anys_cons (any_lit (lit_tup (lits_cons lit_non lits_nil) (by decide)) (by decide +kernel)) (anys_cons (any_lit (lit_tup (lits_cons lit_str (lits_cons lit_int lits_nil)) (by decide)) (by decide +kernel))
          (anys_cons (any_lit (lit_lst (lits_cons (lit_lst (lits_cons lit_str lits_nil) (by decide)) lits_nil) (by decide)) (by decide +kernel)) (anys_cons (any_lit (lit_tup (lits_cons (lit_tup (lits_cons lit_str lits_nil) (by decide)) lits_nil) (by decide)) (by decide +kernel)) (anys_cons (any_lit lit_str (by decide +kernel)) anys_nil)))))))))))) (by decide))))
      (pss_cons (ps_set (i := 1) scAnyValue.nd rfl (Or.inl rfl) (pe_op op_cat (pv 1) (anyL (K := K) (n := 2) (anys_cons (any_lit lit_str (by decide +kernel)) (anys_cons (any_lit lit_str (by decide +kernel)) anys_nil)) (by decide))))
      (pss_one (ps_ret (pe_call pick.g (hr.mono (by decide)) rfl pick.mg pick.kp pick.b .nil pass0 (pa_cons (pv 0) (pa_cons (pv 1) pa_nil)))))))), ?_⟩
    have np := p.ne
    intro a1 xs1 H1 h1 v1 l1 s1 n1
    refine ⟨_, rfl, ?_⟩
    intro a2 xs2 H2 h2 v2 l2 s2 n2
    refine ⟨a1, a2, xs1, xs2, rfl, rfl, s2 _ _ h1, h2, size_ok (by omega), fun a3 n3 => ?_⟩
    refine ⟨_, rfl, ?_⟩
    intro a4 xs4 H4 h4 v4 l4 s4 n4
    have s3 : Same H2 (upd H2 a3 (.lst (xs1 ++ xs2))) := same_new n3
    refine ⟨a3, a4, xs1 ++ xs2, xs4, rfl, rfl, s4 _ _ upd_same, h4, size_ok (by rw [List.length_append]; omega), fun a5 n5 => ?_⟩
    have s5 : Same H4 (upd H4 a5 (.lst (xs1 ++ xs2 ++ xs4))) := same_new n5
    have all : Same H (upd H4 a5 (.lst (xs1 ++ xs2 ++ xs4))) := (((s1.trans s2).trans s3).trans s4).trans s5
    refine ⟨_, rfl, _, rfl, d, c, n, _, rfl, p.keep all, by omega, .inl ⟨a5, _, rfl, upd_same, by rw [List.length_append, List.length_append]; omega, by rw [List.length_append, List.length_append]; omega, fun v H' hv p' b' => ?_⟩⟩
    refine q v H' ?_ p' ((but_of all).trans b')
    have nd : ∀ {G : Hp}, Same H G → G d ≠ none := fun {G} s z => np (s.free z)
    have fin : ∀ {G : Hp}, Fresh G v → H d ≠ none → Same H G → (∃ x, Vx K (upd H4 a5 (.lst (xs1 ++ xs2 ++ xs4))) v x) → Vy K (upd H4 a5 (.lst (xs1 ++ xs2 ++ xs4))) d v := fun {G} f _ s h => vy_of f (nd s) h
    refine Vy.but ?_ (p.keep all) b'
    rcases List.mem_append.mp hv with hv | hv
    · rcases List.mem_append.mp hv with hv | hv
      · obtain ⟨f, x, hx⟩ := v1 v hv
        exact fin f np (Same.refl H) ⟨x, (((hx.same s2).same s3).same s4).same s5⟩
      · obtain ⟨f, x, hx⟩ := v2 v hv
        exact fin f np s1 ⟨x, ((hx.same s3).same s4).same s5⟩
    · obtain ⟨f, x, hx⟩ := v4 v hv
      exact fin f np ((s1.trans s2).trans s3) ⟨x, hx.same s5⟩
end
end RL

-- NOMAP
namespace RL
open PySem L2 SX AddrMath VA PySem.W GR TxSet LamX
section
variable {P : Program} {w : World} {K : Frag} {mg : Str → Option Value} {base : Heap}
/-! ### law: slots _law_script 0, _law_pen_here 1, _law_turn 2, _law_words_here 3, _law_book 4, _law_one 5, _law_lines 6, _law_again 7, _law_text 8, _law_odd 9 cells _law_odd, _law_text -/
abbrev sLaw : Stmt := top 69
abbrev NL : List Str := ["_law_script", "_law_pen_here", "_law_turn", "_law_words_here", "_law_book", "_law_one", "_law_lines", "_law_again", "_law_text", "_law_odd"]
theorem scLaw : FnScope NL ["_law_script"] (defScope sLaw) := ⟨rfl, rfl, rfl, by decide +kernel, rfl, by decide +kernel, by decide +kernel⟩
def spLaw (K : PySem.W.Frag) (Pl Pd : Addr) : Sp := fun vs H Q _ => ∃ (a : Addr) (ns : List Int), vs = [.ref a] ∧ SqL K H a (ns.map V.int) ∧ ns.length ≤ 63 ∧ H Pl = some (.tbl #[]) ∧ H Pd = some (.tbl #[]) ∧ ∀ H', Q (.bl true) H'
/-- _law_told(lambda: Book.read("\n")) -/
def tToldC (K : Frag) (T : List (Addr × Str)) : TE := fun _ H Q => ∃ (d c : Addr) (n : Nat), PenAt H d c n ∧ Tabs T H ∧ ∀ u H', OutB K H' (readB (.str nl)) u → PenAt H' d c n → Tabs T H' → Kd d H H' → Q u H'
theorem told_tc {T : List (Addr × Str)} {C CB CE CT CM : Addr} {σ : L2.St} {H : Hp} {Q : VK} (h : tToldC K T σ H Q) :
    Tabs T H ∧ ∀ H1, ExtN H H1 → Tabs T H1 → ttTold K C CB CE CT CM (fun E H' Q' => V.ref CB = V.ref CB ∧ spBRead K C CB CE CT CM [.ref CB, .str nl] H' Q' E) H1 Q := by
  obtain ⟨d, c, n, p, tb, nx⟩ := h
  refine ⟨tb, fun G xt tbG E' Q' eT eE eM hQ => ?_⟩
  have kG := kd_ext (d := d) xt
  exact ⟨rfl, told_sp (.inr ⟨_, rfl, small_any (by decide +kernel)⟩) (pen_ext p xt) tbG kG nx eT eE eM hQ⟩
theorem read_nl : readB (.str nl) = .text 0 := by
  have e1 : linesP nl = [("" : Str), ("" : Str)] := by
    unfold linesP
    rw [if_neg (by decide +kernel)]
    decide +kernel
  have e2 : (ruleP ("" : Str)).isNone = true := by decide +kernel
  show linesB (linesP nl) = _
  rw [e1]
  exact linesB_text (bad_at (i := 0) (by show 0 < 2; decide) (Option.isNone_iff_eq_none.mp e2) fun j hj => absurd hj (Nat.not_lt_zero _))
/-- Book() -/
def tNewBook (K : Frag) (C CB : Addr) : TE := fun _ H Q => ∀ b t H', BookAt K C CB H' b t [] [] → Same H H' → H b = none → Q (.ref b) H'
theorem new_book {C CB CM : Addr} {E : XK} {σ : L2.St} {H : Hp} {Q : VK} (h : tNewBook K C CB σ H Q) : tMakeR0 CB (spBInit K C CB CM) E σ H Q := fun o dx no nd ne =>
  binit_of (Q := Q) (ps := []) (ss := []) no nd ne ⟨rfl, fun i p s e => by cases e⟩ (Nat.zero_le _) ⟨fun n hn => (by cases hn), fun _ b t H' hB s nb => h b t H' hB s nb⟩
/-- _law_text.split("\n") if _law_text != "" else [] -/
def tLines8 : TE := fun σ H Q => ∃ z : Str, σ[8]? = some (some (.str z)) ∧ z.length ≤ 1000000 ∧ ∀ a, H a = none → Q (.ref a) (upd H a (.lst ((linesP z).map V.str)))
/-- _law_bent(_law_pen_here, _law_lines) if _law_lines != [] else ["s / stays"] -/
def tBend : TE := fun σ H Q => ∃ (d c la : Addr) (ls : List Str) (n m : Nat), σ[1]? = some (some (.ref d)) ∧ σ[6]? = some (some (.ref la)) ∧ PenAt H d c n ∧ n ≤ 800000 ∧ H la = some (.lst (ls.map V.str)) ∧ wgt ls ≤ 100000 ∧ 20 ≤ m ∧ m ≤ 4000 ∧ (∀ y ∈ ls, y.length ≤ m) ∧
  ∀ (l2 : Addr) (l3 : List Str) (H' : Hp), H' l2 = some (.lst (l3.map V.str)) → (∀ y ∈ l3, y.length ≤ m + 2) → wgt l3 ≤ 2 * wgt ls + 40 → PenAt H' d c (n + 3) → But d H H' → Q (.ref l2) H'
theorem q_law {f cL Pl Pd C CB CE CT CM fE fT fM fX fBT fQ fR pR fB gR fD : Addr} {fd fdX fdBT fdQ fdR fdD : FuncData} {mcB : Value}
    (D : ∃ oc od kV doc pm an ct osl, fd = PySem.W.fnOf "law" "law" (defArgs sLaw) (defBody sLaw) (defScope sLaw) .none kV doc pm an (.ref cL) ct ∧ K.lookup f = some ⟨oc, od, .func fd, osl⟩ ∧ PySem.W.codeIn K (.ref cL) "law" = true)
    (B : Blt mg) (T : RTxt K mg C) (TB : BTxt K mg CB) (EB : ErrsB K mg CE fE CT fT CM fM) (pen : Own P w K mg base CX0 1 "_law_pen" ["_law_script"] (spPen K)) (words : Own P w K mg base CX0 3 "_law_words" ["_law_pen_here", "_law_many"] spWords)
    (lrules : Own P w K mg base CX0 5 "_law_rules" ["_law_pen_here", "_law_states", "_law_words_here", "_law_most"] (spRules K)) (lmade : Own P w K mg base CX0 9 "_law_made" ["_law_rules_here"] (spLMade K C CB)) (bent : Own P w K mg base CX0 3 "_law_bent" ["_law_pen_here", "_law_lines"] spBent) (any_value : Own P w K mg base CX0 3 "_law_any_value" ["_law_pen_here"] (spAny K))
    (brules : OwnP P w K mg base CB "rules" (spGet CB nRules)) (mT : Meth K C "text" fX) (gT : FnOk P w K mg base CX0 4 fX fdX ["self"] (spRTextX K C)) (bT : Binds K fdX ["self"] [])
    (mBT : Meth K CB "text" fBT) (gBT : FnOk P w K mg base CX0 5 fBT fdBT ["self"] (spBText K C CB)) (bBT : Binds K fdBT ["self"] [])
    (gE : FnOk P w K mg base CX0 3 fQ fdQ ["self", "other"] (spBEq K C CB)) (bE : Binds K fdQ ["self", "other"] [])
    (aE : PySem.W.findIn K (.ref CB) "__eq__" = some (some (.ref fQ))) (iE : PySem.W.isFn K (.ref fQ) = true) (nE : PySem.W.findIn K (.ref CB) "__ne__" = some (some (.builtin "object.__ne__"))) (oE : PySem.W.subIn K (.ref CB) (.type "object") = some true)
    (rdb : ClX.CRead K CB mcB) (cmr : ClX.CMet K CB mcB "read" pR fR) (GR : FnOk P w K mg base (L2.CX P w) 9 fR fdR ["cls", "text"] (spBRead K C CB CE CT CM)) (bR : Binds K fdR ["cls", "text"] [])
    (MB : Mk K CB fB) (FB : FnR P w K mg base (L2.CX P w) 5 fB (spBInit K C CB CM))
    {oc dV kV doc pm cdv ct : Value} {od an : Option Addr} {sl : Array (Option Value)} (FF : TellAt K mg gR oc od dV kV doc pm an cdv ct sl) (TBl : TabB base mg cL Pl) (ne : Pl ≠ Pd)
    (gX : FnQ P w K mg base 13 fD fdD ["_law_text"] (spDue K Pl Pd)) (mX : mg "_law_due" = some (.ref fD)) (kX : PySem.W.keepIn K (.ref fD) = true) (bX : Binds K fdD ["_law_text"] []) :
    FnQ P w K mg base 15 f fd ["_law_script"] (spLaw K Pl Pd) := by
  refine quiet_fnC D scLaw (fun vs H Q E h => ?_) (fun Ar fs s0 H vs Q E quiet hr h => ?_)
  · obtain ⟨a, ns, rfl, _⟩ := h
    rfl
  · obtain ⟨a, ns, rfl, hS, hlen, hT1, hT2, q⟩ := h
    have hq := quiet_deeper (e := PyProof.Rows.envOfC "law" (defScope sLaw) s0.heap.objs.size f (.ref cL)) quiet
    have un : (Ar.deeper (PyProof.Rows.envOfC "law" (defScope sLaw) s0.heap.objs.size f (.ref cL))).units < cLine := by
      have := hr.units
      omega
    have huniq : ∀ p ∈ [(Pl, qLaw), (Pd, qDue)], p.1 = Pl → p.2 = qLaw := by
      intro p hp e
      rcases List.mem_cons.mp hp with rfl | hp
      · rfl
      · rw [List.mem_singleton.mp hp] at e
        exact absurd e.symm ne
    have given := gives_told (q := qLaw) (g := gR) (cdg := cdv) (X := (cxOf CX0 P w K mg base NL "law" (defScope sLaw) f (.ref cL) Ar fs s0 H E).nox) EB T TB brules mT gT bT B.repr_ (hr.mono (by decide))
    refine ⟨_, (pss_cons (ps_set (i := 1) scLaw.nd rfl (Or.inl rfl) (pe_call pen.g (hr.mono (by decide)) rfl pen.mg pen.kp pen.b .nil pass0 (pa_cons (pv 0) pa_nil)))
      (pss_cons (ps_for PassesOwn.never rfl (pi_range1 (by rfl) B.range_ (pa_cons (pe_op op_add pe_int (pe_callB (call_min2 rfl) (by rfl) B.min_ (by decide +kernel) (pa_cons pe_int (pa_cons (pe_callB call_len_seq (by rfl) B.len_ (by decide +kernel) (pa_cons (pv 0) pa_nil)) pa_nil)))) pa_nil)) (pg_name (i := 2) scLaw.nd rfl (Or.inl rfl))
        (pss_cons (ps_set (i := 3) scLaw.nd rfl (Or.inl rfl) (pe_call words.g (hr.mono (by decide)) rfl words.mg words.kp words.b .nil pass0 (pa_cons (pv 1) (pa_cons pe_int pa_nil))))
        (pss_cons (ps_set (i := 4) scLaw.nd rfl (Or.inl rfl) (pe_call lmade.g (hr.mono (by decide)) rfl lmade.mg lmade.kp lmade.b .nil pass0 (pa_cons (pe_call lrules.g (hr.mono (by decide)) rfl lrules.mg lrules.kp lrules.b .nil pass0 (pa_cons (pv 1) (pa_cons (pe_slice sl_list (pv 3) po_none (po_some pe_int)) (pa_cons (pe_slice sl_list (pv 3) (po_some pe_int) po_none) (pa_cons pe_int pa_nil))))) pa_nil)))
        (pss_cons (ps_setLc (i := 6) (own := [("_law_one", 5)]) (g := gName 5) (tt := tYes) rfl scLaw.nd rfl rfl (sw_true rfl rfl rfl (by decide +kernel)) (pi_seq (pe_prop (pv 4) TB.cl brules.prop brules.ok (hr.mono (by decide)) brules.b .nil pass0 (by rfl)))
          (blkOk_by (own := [("_law_one", 5)]) (N := NL) (sc := defScope sLaw) (by decide +kernel))
          (fun _ _ _ _ _ => (pg_name (i := 5) scLaw.nd rfl (Or.inl rfl))) (fun _ _ _ _ _ => pts_nil)
          (fun _ _ _ _ _ => (pe_meth0 (pv 5) T.cl mT gT (hr.mono (by decide)) bT .nil pass0)))
        (pss_cons (ps_if (PW.pt (pw_or (pt_cmpR op_ne (pe_meth0 (pv 4) TB.cl mBT gBT (hr.mono (by decide)) bBT .nil pass0) (pe_join pe_str (pv 6)) (nomark _)) (pw_or1 (pt_cmpR (own_ne aE iE nE oE gE bE (hr.mono (by decide))) (pe_cmethS (E := fun _ => E0) (pe_glob (v := .ref CB) (by rfl) TB.mgC rfl) rdb cmr GR (hr.mono (by decide)) bR (fun σ pins H s e s' I c => pass_none pins σ H s e s' I c) (pa_cons (pe_meth0 (pv 4) TB.cl mBT gBT (hr.mono (by decide)) bBT .nil pass0) pa_nil)) (pv 4) (nomark _))))) (pss_one (ps_ret pe_bl)) pss_nil)
        (pss_cons (ps_for PassesOwn.never rfl (pi_range1 (by rfl) B.range_ (pa_cons pe_int pa_nil)) (pg_name (i := 7) scLaw.nd rfl (Or.inl rfl))
          (pss_cons (ps_set (i := 6) scLaw.nd rfl (Or.inl rfl) (pe_by tBend (pe_ifExp (pt_cmpR (op_neNil un) (pv 6) (pe_lst pa_nil) (nomark _)) (pe_call bent.g (hr.mono (by decide)) rfl bent.mg bent.kp bent.b .nil pass0 (pa_cons (pv 1) (pa_cons (pv 6) pa_nil))) (pe_lst (pa_cons pe_str pa_nil))) (fun σ H Q h => ?bend)))
          (pss_cons (ps_set (i := 8) scLaw.nd rfl (Or.inr rfl) (pe_join pe_str (pv 6)))
          (pss_cons (ps_set (i := 6) scLaw.nd rfl (Or.inl rfl) (pe_by tLines8 (pe_ifExp (pt_cmpR op_ne (pv 8) pe_str (nomark _)) (pe_split (pv 8) pe_str) (pe_lst pa_nil)) (fun σ H Q h => ?lines)))
          (pss_one (ps_if (pt_cmpR (op_neD hr.units) (pe_by (tTold K [(Pl, qLaw), (Pd, qDue)] 8) (pe_lamcall (x := "_law_told") (T := [(Pl, qLaw), (Pd, qDue)]) (k := 10) (by rfl) FF.hm FF.hk FF.lk FF.hcg FF.hb scTold rfl (Or.inl rfl) given TBl rfl (List.mem_cons_self ..) huniq (hr.mono (by decide)) (lamS_by (sc := defScope sLaw) (by decide +kernel)) rfl (fun _ _ _ _ _ => rfl)
          (fun _ _ _ _ E _ _ hr4 => pe_cmethS (E := fun _ => E) (pe_glob (v := .ref CB) (by rfl) TB.mgC rfl) rdb cmr GR (hr4.mono (by decide)) bR (fun σ pins H s e s' I c => passes_of (takes_of rfl rfl rfl rfl) pins σ H s e s' I c) (pa_cons (pv 8) pa_nil))) (fun _ _ _ h => told_tt h)) (pe_callQ gX hq (hr.mono (by decide)) (by rfl) mX kX bX (pa_cons (pv 8) pa_nil)) (nomark _)) (pss_one (ps_ret pe_bl)) pss_nil))))))
        (pss_cons (ps_set (i := 9) scLaw.nd rfl (Or.inr rfl) (pe_call any_value.g (hr.mono (by decide)) rfl any_value.mg any_value.kp any_value.b .nil pass0 (pa_cons (pv 1) pa_nil)))
        (pss_one (ps_if (pt_cmpR (op_neD hr.units) (pe_by (tTold K [(Pl, qLaw), (Pd, qDue)] 9) (pe_lamcall (x := "_law_told") (T := [(Pl, qLaw), (Pd, qDue)]) (k := 10) (by rfl) FF.hm FF.hk FF.lk FF.hcg FF.hb scTold rfl (Or.inl rfl) given TBl rfl (List.mem_cons_self ..) huniq (hr.mono (by decide)) (lamS_by (sc := defScope sLaw) (by decide +kernel)) rfl (fun _ _ _ _ _ => rfl)
          (fun _ _ _ _ E _ _ hr4 => pe_cmethS (E := fun _ => E) (pe_glob (v := .ref CB) (by rfl) TB.mgC rfl) rdb cmr GR (hr4.mono (by decide)) bR (fun σ pins H s e s' I c => passes_of (takes_of rfl rfl rfl rfl) pins σ H s e s' I c) (pa_cons (pv 9) pa_nil))) (fun _ _ _ h => told_tt h)) (pe_callQ gX hq (hr.mono (by decide)) (by rfl) mX kX bX (pa_cons (pv 9) pa_nil)) (nomark _)) (pss_one (ps_ret pe_bl)) pss_nil)))))))))
      (pss_one (ps_ret (pe_and (pe_cmpR (own_eqI aE iE gE bE (hr.mono (by decide))) (pe_cmethS (E := fun _ => E0) (pe_glob (v := .ref CB) (by rfl) TB.mgC rfl) rdb cmr GR (hr.mono (by decide)) bR (fun σ pins H s e s' I c => pass_none pins σ H s e s' I c) (pa_cons pe_str pa_nil)) (pe_by (tNewBook K C CB) (pe_makeR0 (E := E0) MB FB (hr.mono (by decide)) (by rfl) TB.mgC pass_none) (fun _ _ _ h => new_book h)) (nomark _)) (pe_and (pe_cmpR op_eq (pe_meth0 (pe_by (tNewBook K C CB) (pe_makeR0 (E := E0) MB FB (hr.mono (by decide)) (by rfl) TB.mgC pass_none) (fun _ _ _ h => new_book h)) TB.cl mBT gBT (hr.mono (by decide)) bBT .nil pass0) pe_str (nomark _)) (pe_one (pe_cmpR (op_eqD hr.units) (pe_by (tToldC K [(Pl, qLaw), (Pd, qDue)]) (pe_lamcall (x := "_law_told") (T := [(Pl, qLaw), (Pd, qDue)]) (k := 10) (by rfl) FF.hm FF.hk FF.lk FF.hcg FF.hb scTold rfl (Or.inl rfl) given TBl rfl (List.mem_cons_self ..) huniq (hr.mono (by decide)) (lamS_by (sc := defScope sLaw) (by decide +kernel)) rfl (fun _ _ _ _ _ => rfl)
          (fun _ _ _ _ E _ _ hr4 => pe_cmethS (E := fun _ => E) (pe_glob (v := .ref CB) (by rfl) TB.mgC rfl) rdb cmr GR (hr4.mono (by decide)) bR (fun σ pins H s e s' I c => passes_of (takes_of rfl rfl rfl rfl) pins σ H s e s' I c) (pa_cons pe_str pa_nil))) (fun _ _ _ h => told_tc h)) (pe_tup (pa_cons pe_str (pa_cons pe_str pa_nil))) (nomark _))))))))), ?_⟩
    case lines =>
      obtain ⟨z, e1, hz, k⟩ := h
      refine ⟨_, e1, rfl, _, rfl, ?_⟩
      unfold linesP at k
      by_cases c : z = ("" : Str)
      · rw [decide_eq_true (congrArg V.str c)]
        refine iteF ⟨Nat.zero_le _, fun a na => ?_⟩
        have := k a na
        rw [if_pos c] at this
        exact this
      · rw [decide_eq_false fun e => c (V.str.inj e)]
        refine iteT ⟨_, e1, ⟨_, rfl⟩, z, nl, rfl, rfl, rfl, Nat.le_trans (m := 2000000) (by omega) (by show 2000000 ≤ sizeLine; decide), fun a na => ?_⟩
        have := k a na
        rw [if_neg c] at this
        exact this
    case bend =>
      obtain ⟨d, c, la, ls, n, m, e1, e6, p, hn, hl, wl, m0, m1, hm, k⟩ := h
      refine ⟨_, e6, Nat.zero_le _, fun e nE => ⟨la, e, _, rfl, rfl, (same_new nE) _ _ hl, upd_same, _, rfl, ?_⟩⟩
      have sE := same_new (o := .lst []) nE
      cases ls with
      | nil =>
        refine iteF ⟨by show 1 ≤ sizeLine; decide, fun l2 n2 => ?_⟩
        have s2 := sE.trans (same_new (o := .lst [.str "s / stays"]) n2)
        refine k l2 [Str.ofString "s / stays"] _ upd_same (fun y hy => ?_) ?_ ((p.keep s2).mono (by omega)) (but_of s2)
        · rw [List.mem_singleton.mp hy]
          refine Nat.le_trans (m := 20) (by decide +kernel) (by omega)
        · exact Nat.le_trans (m := 40) (by decide +kernel) (by omega)
      | cons y r =>
        exact iteT ⟨_, e1, _, e6, d, c, la, y :: r, n, m, rfl, p.keep sE, hn, sE _ _ hl, Nat.succ_pos _, wl, m0, m1, hm, fun l2 l3 H' a1 a2 a3 a4 a5 => k l2 l3 H' a1 a2 a3 a4 ((but_of sE).trans a5)⟩
    refine ⟨_, rfl, a, ns, rfl, hS, hlen, fun d c H0 p0 s0' nd => ?_⟩
    have tb0 : Tabs [(Pl, qLaw), (Pd, qDue)] H0 := fun p hp => by
      rcases List.mem_cons.mp hp with rfl | hp
      · exact TabS.nil (s0' _ _ hT1)
      · rw [List.mem_singleton.mp hp]
        exact TabS.nil (s0' _ _ hT2)
    refine ⟨_, rfl, a, _, rfl, .inl (s0'.seq hS), _, _, rfl, _, _, rfl, rfl, ?_⟩
    obtain ⟨N, hN, hN1⟩ : ∃ N : Nat, (4 : Int) + (if ((ns.map V.int).length : Int) < 4 then ((ns.map V.int).length : Int) else 4) = (N : Int) ∧ N ≤ 8 := by
      by_cases h : ((ns.map V.int).length : Int) < 4
      · rw [if_pos h]
        exact ⟨4 + (ns.map V.int).length, by omega, by omega⟩
      · rw [if_neg h]
        exact ⟨8, by decide, by decide⟩
    refine ⟨(N : Int), ?_, by omega, by omega, for_range (n := (N : Int).toNat) (fun i σ H' => ∃ o2 o3 o4 o5 o6 o7 o8 o9 : Option V, σ = [some (.ref a), some (.ref d), o2, o3, o4, o5, o6, o7, o8, o9] ∧ PenAt H' d c (i * 400) ∧ Tabs [(Pl, qLaw), (Pd, qDue)] H') ⟨none, none, none, none, none, none, none, none, rfl, p0.mono (Nat.zero_le _), tb0⟩ ?_ ?_⟩
    · rw [← hN]
    · rintro i σ G hi ⟨o2, o3, o4, o5, o6, o7, o8, o9, rfl, p, tb⟩
      have hi' : i ≤ 8 := by omega
      clear tb0 p0 s0' nd hT1 hT2 hS
      -- words
      refine ⟨_, rfl, d, c, i * 400, 6, rfl, p, by omega, by decide, fun la wl H1 lw hW hla na p1 b1 => ?_⟩
      have tb1 := tabs_but tb p b1
      obtain ⟨w0, w1, w2, w3, w4, w5, rfl⟩ : ∃ w0 w1 w2 w3 w4 w5, wl = [w0, w1, w2, w3, w4, w5] := by
        match wl, lw with
        | [w0, w1, w2, w3, w4, w5], _ => exact ⟨w0, w1, w2, w3, w4, w5, rfl⟩
      have wd : ∀ u, isW u = true → wrd (S u) = true := fun u h => by
        show isW (S u).cps.toList = true
        rw [show (S u).cps.toList = u by simp [S], h]
      have W0 := wd _ (hW w0 (by simp))
      have W1 := wd _ (hW w1 (by simp))
      have W2 := wd _ (hW w2 (by simp))
      have W3 := wd _ (hW w3 (by simp))
      have W4 := wd _ (hW w4 (by simp))
      have W5 := wd _ (hW w5 (by simp))
      have hla1 : H1 la = some (.lst (tV [S w0, S w1, S w2, S w3, S w4, S w5])) := hla
      clear hW hla wd
      generalize S w0 = z0 at W0 hla1
      generalize S w1 = z1 at W1 hla1
      generalize S w2 = z2 at W2 hla1
      generalize S w3 = z3 at W3 hla1
      generalize S w4 = z4 at W4 hla1
      generalize S w5 = z5 at W5 hla1
      have c1 : cutV (tV [z0, z1, z2, z3, z4, z5]) none (some 3) = tV [z0, z1, z2] := rfl
      have c2 : cutV (tV [z0, z1, z2, z3, z4, z5]) (some 3) none = tV [z3, z4, z5] := rfl
      -- the book
      refine ⟨_, rfl, _, rfl, 3, rfl, la, _, rfl, .inl (.inl hla1), fun sa n1 => ?_⟩
      rw [c1]
      have s1 := same_new (o := .lst (tV [z0, z1, z2])) n1
      have u1 : (upd H1 sa (.lst (tV [z0, z1, z2]))) sa = some (.lst (tV [z0, z1, z2])) := upd_same
      generalize upd H1 sa (.lst (tV [z0, z1, z2])) = H2 at s1 u1 ⊢
      refine ⟨_, rfl, 3, rfl, la, _, rfl, .inl (.inl (s1 _ _ hla1)), fun wa n2 => ?_⟩
      rw [c2]
      have s2 := same_new (o := .lst (tV [z3, z4, z5])) n2
      have u2 : (upd H2 wa (.lst (tV [z3, z4, z5]))) wa = some (.lst (tV [z3, z4, z5])) := upd_same
      generalize upd H2 wa (.lst (tV [z3, z4, z5])) = H3 at s2 u2 ⊢
      have p3 := (p1.keep s1).keep s2
      have tb3 := tabs_same (tabs_same tb1 s1) s2
      refine ⟨d, c, sa, wa, [z0, z1, z2], [z3, z4, z5], _, 5, rfl, p3, by omega, ⟨s2 _ _ u1, by rw [List.all_cons, List.all_cons, List.all_cons, W0, W1, W2]; rfl⟩, ⟨u2, by rw [List.all_cons, List.all_cons, List.all_cons, W3, W4, W5]; rfl⟩, by show 0 < 3; decide, by show 3 ≤ 100; decide, by show 0 < 3; decide, by show 3 ≤ 90; decide, by decide, by decide, fun l as L H4 hl4 hA hL p4 b4 => ?_⟩
      have tb4 := tabs_but tb3 p3 b4
      have hlim : limS L = none := lim_none (fun s hs => by
        obtain ⟨i, hi, e⟩ := List.getElem_of_mem hs
        have ha : i < as.length := by rw [hA.1]; exact hi
        exact (hA.2 i as[i] s (List.getElem?_eq_getElem ha) (by rw [← e]; exact List.getElem?_eq_getElem hi)).2.2) (by omega) (by show 3 ≤ 6; decide) (by show 3 ≤ 6; decide)
      refine ⟨l, _, _, as, L, rfl, hl4, hA, by omega, by show 3 ≤ 6; decide, by show 3 ≤ 6; decide, fun b t ps H5 hB s5 => ?_⟩
      have tb5 := tabs_same tb4 s5
      have p5 := p4.keep s5
      have hok := hB.2.2.oks
      clear u1 u2 s1 s2 c1 c2 hla1 W0 W1 W2 W3 W4 W5 b4 p3 tb3 p1 b1 tb1 lw p tb hl4 hA s5 p4 tb4
      -- its rules' texts
      obtain ⟨⟨dx, hb⟩, ht, hR⟩ := id hB
      refine ⟨_, rfl, b, dx, _, rfl, hb, b, dx, _, _, rfl, hb, rfl, ?_⟩
      refine seq_opt (.inr ht) (by rw [List.length_map, hR.1]; omega) (fun i => L[i]?.bind fun s => some (V.str (textS s))) ?hw (fun i x hx G sG => ?_) fun D H6 nD hD s6 => ?_
      case hw => intro _; rfl
      · obtain ⟨p, s, rfl, hp, hs, hS, hok⟩ := (hR.same sG).get hx
        refine ⟨fun R hR => no_test fun H' s' => by have := hR H' s'; rw [hs] at this; exact this, fun y hy G2 s2 R hR => ?_⟩
        rw [hs] at hy
        cases hy
        have hS2 := hS.same s2
        obtain ⟨dx', tP, tW, tK, gV, ws, hp', _⟩ := hS2.ex
        exact ⟨_, rfl, p, dx', _, rfl, hp', rfl, p, s.1, .tuple s.2.1, goalSD s.2.2.1, s.2.2.2, rfl, hS2, hok.1, hok.2.1, by show s.2.1.length ≤ 4; have := hok.2.2.1; omega, hok.2.2.2, fun H' s' => hR H' s'⟩
      rw [rules_fm hR] at hD
      have e1 : L.filterMap (fun s => some (V.str (textS s))) = (L.map textS).map V.str := by
        rw [List.filterMap_eq_map', List.map_map]
        rfl
      rw [e1] at hD
      have hB6 := hB.same s6
      have p6 := p5.keep s6
      have tb6 := tabs_same tb5 s6
      clear hB hb ht hR p5 tb5 s6 nD e1
      have tl : ∀ y ∈ L.map textS, y.length ≤ 82 := fun y hy => by
        obtain ⟨s, hs, rfl⟩ := List.mem_map.mp hy
        exact text_len (hok s hs)
      have wl : wgt (L.map textS) ≤ 415 := by
        have h := sum_le (f := fun y : Str => y.length + 1) (m := 83) (l := L.map textS) fun y hy => by have := tl y hy; omega
        rw [List.length_map] at h
        have : wgt (L.map textS) ≤ 83 * L.length := h
        omega
      have small : SmallB (Txt.join nl (L.map textS)) := small_join tl (by omega) (by omega)
      have rd := book_read hok hlim
      -- text, read
      obtain ⟨⟨dy, hb⟩, ht, hR⟩ := id hB6
      refine ⟨_, rfl, b, dy, _, rfl, hb, rfl, b, t, ps, L, rfl, hB6, by omega, fun H7 s7 => ?_⟩
      refine ⟨⟨_, rfl⟩, _, rfl, _, D, L.map textS, rfl, rfl, .inl (.inl (.inl (s7 _ _ hD))), ?_, ?_⟩
      · have l1 : nl.length = 1 := by decide +kernel
        show _ + _ * nl.length ≤ _
        rw [l1, Nat.mul_one]
        have e := wgt_sum (L.map textS)
        exact Nat.le_trans (m := 1000) (by omega) (by show 1000 ≤ sizeLine; decide)
      refine ⟨rfl, _, rfl, ?_⟩
      rw [decide_eq_true rfl]
      refine iteF ?_
      have hB7 := hB6.same s7
      refine ⟨rfl, _, rfl, b, dy, _, rfl, s7 _ _ hb, rfl, b, t, ps, L, rfl, hB7, by omega, fun H8 s8 => ?_⟩
      refine ⟨_, rfl, .inr ⟨_, rfl, small⟩, fun i hi => absurd (hi.symm.trans rd) (by intro z; cases z), fun f hf => absurd (hf.symm.trans rd) (by intro z; cases z), fun n hn => absurd (hn.symm.trans rd) (by intro z; cases z), fun ss hs b2 t2 ps2 H9 hB2 s9 nb2 => ?_⟩
      obtain rfl : L = ss := by
        have := rd.symm.trans hs
        injection this
      have hB9 := (hB7.same s8).same s9
      obtain ⟨⟨dx2, hb2⟩, _, hR2⟩ := id hB2
      obtain ⟨⟨dx9, hb9⟩, _, hR9⟩ := id hB9
      refine ⟨_, rfl, b2, b, dx2, dx9, _, _, rfl, rfl, hb2, hb9, b2, b, t2, t, ps2, ps, L, L, rfl, hB2, hB9, _, rfl, ?_⟩
      rw [eqB_same hR2 hR9]
      refine ⟨_, rfl, iteF ?_⟩
      have s69 := (s7.trans s8).trans s9
      have hD9 := s69 _ _ hD
      have p9 := p6.keep s69
      have tb9 := tabs_same tb6 s69
      clear hB6 hB7 hB9 hB2 hR2 hR9 hb2 hb9 hb ht hR s7 s8 s9 s69 hs nb2 p6 tb6 hD rd hok
      -- five changes
      refine ⟨5, rfl, by decide, by decide, for_range (n := 5) (fun k σ H' => ∃ o2 o3 o4 o5 o7 o8 o9 : Option V, ∃ (la : Addr) (ls : List Str), σ = [some (.ref a), some (.ref d), o2, o3, o4, o5, some (.ref la), o7, o8, o9] ∧ H' la = some (.lst (ls.map V.str)) ∧ (∀ y ∈ ls, y.length ≤ 82 + 2 * k) ∧ wgt ls + 40 ≤ 455 * 2 ^ k ∧ PenAt H' d c (i * 400 + 320 + k * 4) ∧ Tabs [(Pl, qLaw), (Pd, qDue)] H') ⟨_, _, _, _, _, _, _, D, L.map textS, rfl, hD9, tl, by show _ ≤ 455 * 1; omega, p9.mono (by omega), tb9⟩ ?_ ?_⟩
      · rintro k σ G2 hk ⟨o2, o3, o4, o5, o7, o8, o9, la, ls, rfl, hl, lm, lw, p, tb⟩
        have hk4 : 2 ^ k ≤ 16 := Nat.pow_le_pow_right (n := 2) (by decide) (show k ≤ 4 by omega)
        have e2 : 2 ^ (k + 1) = 2 ^ k * 2 := Nat.pow_succ ..
        refine ⟨d, c, la, ls, _, 82 + 2 * k, rfl, rfl, p, by omega, hl, by omega, by omega, by omega, lm, fun l2 l3 H10 hl2 lm2 lw2 p10 b10 => ?_⟩
        have tb10 := tabs_but tb p b10
        have sm : SmallB (Txt.join nl l3) := small_join lm2 (by omega) (by omega)
        have lj := lines_join lm2
        refine ⟨⟨_, rfl⟩, _, rfl, _, l2, l3, rfl, rfl, .inl (.inl (.inl hl2)), ?_, ?_⟩
        · have l1 : nl.length = 1 := by decide +kernel
          show _ + _ * nl.length ≤ _
          rw [l1, Nat.mul_one]
          have e := wgt_sum l3
          exact Nat.le_trans (m := 100000) (by omega) (by show 100000 ≤ sizeLine; decide)
        generalize Txt.join nl l3 = z at sm lj ⊢
        refine ⟨z, rfl, sm.1, fun l4 n4 => ?_⟩
        have s4 := same_new (o := .lst ((linesP z).map V.str)) n4
        have u4 : (upd H10 l4 (.lst ((linesP z).map V.str))) l4 = some (.lst ((linesP z).map V.str)) := upd_same
        have p11 := p10.keep s4
        have tb11 := tabs_same tb10 s4
        generalize upd H10 l4 (.lst ((linesP z).map V.str)) = H11 at s4 u4 p11 tb11 ⊢
        refine ⟨d, c, _, .str z, rfl, .inr ⟨z, rfl, sm⟩, p11, tb11, fun v1 H12 hv1 p12 tb12 k12 => ?_⟩
        refine ⟨_, rfl, .str z, d, c, _, rfl, .inr ⟨z, rfl, sm⟩, p12, tb12, fun v2 H13 hv2 p13 tb13 k13 => ?_⟩
        have ko := out_lay (fit_B (K := K) (H := H13) (v := .str z) (.inr ⟨z, rfl, sm⟩)) (fld_B (.str z))
        refine ⟨_, _, outB_dp (hv1.kd p12 k13), outB_dp hv2, ko.1, ko.1, _, rfl, ?_⟩
        rw [ko.2]
        exact iteF ⟨_, _, _, _, _, _, _, l4, linesP z, rfl, k13.at_ p12 (k12.at_ p11 u4 rfl) rfl, fun y hy => Nat.le_trans (lj.2 y hy) (by omega), by have := lj.1; omega, p13.mono (by omega), tb13⟩
      · rintro σ G2 ⟨o2, o3, o4, o5, o7, o8, o9, la, ls, rfl, _, _, _, p, tb⟩
        -- any value
        refine ⟨_, rfl, d, c, _, rfl, p, by omega, fun v H10 hv p10 b10 => ?_⟩
        have tb10 := tabs_but tb p b10
        refine ⟨d, c, _, v, rfl, .inl hv, p10, tb10, fun v1 H11 hv1 p11 tb11 k11 => ?_⟩
        have tx : TxtB K H11 d v := (TxtB.kd (.inl hv) p10 k11)
        refine ⟨_, rfl, v, d, c, _, rfl, tx.tb, p11, tb11, fun v2 H12 hv2 p12 tb12 k12 => ?_⟩
        have ko := out_lay (fit_B tx.tb) (fld_B v)
        refine ⟨_, _, outB_dp (hv1.kd p11 k12), outB_dp hv2, ko.1, ko.1, _, rfl, ?_⟩
        rw [ko.2]
        exact iteF ⟨_, _, _, _, _, _, _, _, rfl, p12.mono (by omega), tb12⟩
    · rintro σ G ⟨o2, o3, o4, o5, o6, o7, o8, o9, rfl, p, tb⟩
      -- the last row
      have e0 : linesP ("" : Str) = [] := by
        unfold linesP
        rw [if_pos rfl]
      have r0 : readB (.str ("" : Str)) = .made [] := by
        show linesB (linesP ("" : Str)) = _
        rw [e0]
        exact linesB_made (ls := []) rfl rfl rfl
      have A0 : ∀ G, RulesAt K C G [] [] := fun G => ⟨rfl, fun i p s e => by cases e⟩
      refine ⟨rfl, .str ("" : Str), rfl, .inr ⟨_, rfl, small_any (Nat.zero_le _)⟩, fun i hi => absurd (hi.symm.trans r0) (by intro z; cases z), fun f hf => absurd (hf.symm.trans r0) (by intro z; cases z), fun n hn => absurd (hn.symm.trans r0) (by intro z; cases z), fun ss hs b t ps H1 hB s1 nb => ?_⟩
      obtain rfl : [] = ss := by
        have := r0.symm.trans hs
        injection this
      refine fun b2 t2 H2 hB2 s2 nb2 => ?_
      have hB' := hB.same s2
      obtain ⟨⟨dx1, hb1⟩, _, hR1⟩ := id hB'
      obtain ⟨⟨dx2, hb2⟩, _, hR2⟩ := id hB2
      refine ⟨b, b2, dx1, dx2, _, _, rfl, rfl, hb1, hb2, b, b2, t, t2, ps, [], [], [], rfl, hB', hB2, _, rfl, ?_⟩
      rw [eqB_same hR1 hR2]
      refine ⟨true, rfl, iteT ?_⟩
      refine fun b3 t3 H3 hB3 s3 nb3 => ?_
      obtain ⟨⟨dx3, hb3⟩, _, _⟩ := id hB3
      refine ⟨b3, dx3, _, rfl, hb3, rfl, b3, t3, [], [], rfl, hB3, Nat.zero_le _, fun H4 s4 => ⟨rfl, _, rfl, ?_⟩⟩
      have ej : Txt.join nl (([] : List Said).map textS) = Str.ofString "" := by decide +kernel
      rw [ej, decide_eq_true rfl]
      have sA := ((s1.trans s2).trans s3).trans s4
      refine iteT ⟨d, c, _, p.keep sA, tabs_same tb sA, fun u H5 hu p5 tb5 k5 => ⟨by show 2 ≤ sizeLine; decide, fun l nl5 => ?_⟩⟩
      have s6 := same_new (o := .tup [.str "text", .str "0"]) nl5
      rw [read_nl] at hu
      have en : nat_T 0 = Str.ofString "0" := by decide +kernel
      have ko := out_lay (o := .text 0) ⟨fun i e => (by cases e; decide), fun ss e => (by cases e)⟩ (fun f e => by cases e)
      refine ⟨_, _, outB_dp (hu.kd p5 (kd_same s6)), .tup (.inl (.inl upd_same)) (.cons (.str _) (.cons (.str _) .nil)), ko.1, ?_, ?_⟩
      · rw [← en]
        exact ko.1
      · rw [← en]
        show Q (.bl (PyData.eqv (outBD (.text 0)) (outBD (.text 0)))) _
        rw [ko.2]
        exact q _
end
end RL

/-! The end of a row some of whose defs make lambdas: each such def's own table of code objects. -/
namespace GR
open PySem PySem.Spec PyProof.Rows L2 SX
/-- the def of this name has its code object at c and the table of it at P -/
def TabOf (F : PySem.W.Frag) (gl : Str → Option Value) (nm : Str) (c P : Addr) : Prop := ∃ (at_ : Addr) (o : Obj) (fd : FuncData) (vs : Array Value) (e : Value) (dd : Option Addr) (sl : Array (Option Value)),
  gl nm = some (.ref at_) ∧ F.lookup at_ = some o ∧ o.data = .func fd ∧ fd.code = .ref c ∧ F.lookup c = some ⟨e, dd, .fields vs, sl⟩ ∧ vs[11]? = some (.ref P) ∧ F.lookup P = none
theorem walk_tabs {l : PySem.W.OpenLaw} {most n : Nat} {q : Program} {loose : List Str} {XP : (Str → Option Value) → Heap → Prop} {YP : World → Heap → Prop} {d : DefRec} {F : Params → PySem.W.Frag} {sp : List (Addr × Addr) → World → Sp} {x : Str} {names : List Str}
    (hm : l.most = some most) (small : most ≤ sizeLine) (nd : d.params.defaults = []) (room : Room n callerA) (recs : ∀ nm ∈ names, ((recsOf q).any fun e => e.name == nm) = true)
    (hY : ∀ (wo : World) (h : Heap), YP wo h → (F wo.params).In h)
    (D : ∀ (wo : World) (gl : Str → Option Value) (at_ : Addr) (h : Heap), (F wo.params).In h → h.Ns mainGlobals gl → gl d.name = some (.ref at_) →
      ∃ (fd : FuncData) (ts : List (Addr × Addr)), (∀ p ∈ ts, ∃ nm ∈ names, TabOf (F wo.params) gl nm p.1 p.2) ∧ (∀ (s : Shared) (u : Value), BindsTo s fd ⟨[u], []⟩ [(x, u)]) ∧
        ∀ b0 : Heap, (F wo.params).In b0 → b0.Ns mainGlobals gl → (∀ p ∈ ts, LamX.TabB b0 gl p.1 p.2) → FnQ l.prog wo (F wo.params) gl b0 n at_ fd [x] (sp ts wo))
    (want : ∀ (wo : World) (H : Hp) (sc : Addr) (ts : List (Addr × Addr)) (ns : List Int), ns.length ≤ most → SqL (F wo.params) H sc (ns.map V.int) → (∀ p ∈ ts, H p.2 = some (.tbl #[])) → sp ts wo [.ref sc] H (fun v _ => v = .bl true) fun _ _ _ => False) :
    PySem.W.WalkO q loose XP YP l.row.toRowW d [] (fun f vs => PySem.call f vs) := by
  refine Att.attach_call hm nd ?_
  intro wo s₀ s gl gb at_ o pm cd doc sc vs ns G Y ho hd hcd hgl atS areI len ng
  have inF := hY wo _ Y
  obtain ⟨fd, ts, tabs, binds, D0⟩ := D wo gl at_ _ inF G.T.g hgl
  have rv := vals_ints areI
  have lenV := areI.length
  have small' : ns.length ≤ sizeLine := Nat.le_trans len small
  have facts : ∀ p ∈ ts, s.heap.get? p.2 = some { cls := .none, data := .fields #[] } ∧ (F wo.params).lookup p.2 = none ∧ PySem.W.CodeHd s.heap p.1 p.2 := by
    intro p hp
    obtain ⟨nm, mem, a1, ob, fu, xs, e', dd', sl', k0, k1, k2, k3, k4, k5, k6⟩ := tabs p hp
    obtain ⟨c, P⟩ := p
    dsimp only at k3 k5 k6 ⊢
    obtain ⟨e, he, hn⟩ := List.any_eq_true.mp (recs nm mem)
    obtain ⟨a2, o2, fd2, c2, P2, t1, t2, t3, t4, t5, t6⟩ := G.T.tab e he
    rw [beq_iff_eq.mp hn, k0] at t1
    obtain rfl : a1 = a2 := Value.ref.inj (Option.some.inj t1)
    obtain rfl : ob = o2 := Option.some.inj ((inF _ _ k1).symm.trans t2)
    obtain rfl : fu = fd2 := Data.func.inj (k2.symm.trans t3)
    obtain rfl : c = c2 := Value.ref.inj (k3.symm.trans t4)
    obtain ⟨⟨oc, vc, u1, u2, u3, u4⟩, u5⟩ := t6
    obtain rfl := Option.some.inj ((inF _ _ k4).symm.trans u1)
    obtain rfl : xs = vc := Data.fields.inj u3
    obtain rfl : P = P2 := Value.ref.inj (Option.some.inj (k5.symm.trans u4))
    obtain ⟨o5, v5, file, tf, flags, tg, code_, text, tt, op, w1, w2, w3, w4, w5, w6, w7, w8, w9, w10, w11⟩ := t5
    obtain rfl := Option.some.inj ((inF _ _ k4).symm.trans w1)
    obtain rfl : xs = v5 := Data.fields.inj w2
    exact ⟨u5, k6, _, _, file, tf, flags, tg, code_, text, tt, w1, u2, w2, k5, w3, w4, w5, w6, w7, w11⟩
  have apart : ∀ p ∈ ts, p.2 ≠ sc := fun p hp z => by
    have e1 := Option.some.inj ((facts p hp).1.symm.trans (by rw [z]; exact atS))
    have e2 := congrArg Obj.data e1
    cases e2
  have go := fun (H : Hp) (seen : SqL (F wo.params) H sc (ns.map V.int)) (seeT : ∀ p ∈ ts, H p.2 = some (.tbl #[])) (kinds : ∀ b, H b = none ∨ IsTab ts b ∨ ∃ o xs, H b = some (.frz o (.lst xs))) (ok : HOk l.prog wo H s.heap) (isS : ∀ b, H b ≠ none → b = sc ∨ IsTab ts b) (away : H sc ≠ none → (F wo.params).lookup sc = none) =>
    quiet_tabs (pr := l.prog) (wo := wo) (F := F wo.params) (tabs := ts) (H := H) (sc := sc) (sp := sp ts wo) inF G.T.g G.T.b G.T.builtins G.T.nolimit ng G.T.bmain (fun p hp => (facts p hp).1) (fun p hp => (facts p hp).2.1) (fun p hp => (facts p hp).2.2) atS room
      D0 binds (want wo H sc ts ns len seen seeT) seeT kinds ok isS away
  have isT : ∀ {b : Addr}, b ∈ ts.map (·.2) → IsTab ts b := fun hb => by
    obtain ⟨p, hp, e⟩ := List.mem_map.mp hb
    exact ⟨p, hp, e⟩
  have notT : sc ∉ ts.map (·.2) := fun hb => by
    obtain ⟨p, hp, e⟩ := List.mem_map.mp hb
    exact apart p hp e
  have emptyT : ∀ {b : Addr}, b ∈ ts.map (·.2) → s.heap.get? b = some { cls := .none, data := .fields #[] } := fun hb => by
    obtain ⟨p, hp, rfl⟩ := List.mem_map.mp hb
    exact (facts p hp).1
  by_cases known : (F wo.params).lookup sc = none
  · refine go (fun b => if b ∈ ts.map (·.2) then some (.tbl #[]) else if b = sc then some (.frz { cls := .type "list", data := .seq vs.toArray } (.lst (ns.map V.int))) else none) (Or.inl (Or.inr ⟨{ cls := .type "list", data := .seq vs.toArray }, (if_neg notT).trans (if_pos rfl)⟩)) (fun p hp => if_pos (List.mem_map.mpr ⟨p, hp, rfl⟩)) (fun b => ?_) ?_ (fun b ne => ?_) (fun _ => known)
    · by_cases e : b ∈ ts.map (·.2)
      · exact Or.inr (Or.inl (isT e))
      · by_cases e2 : b = sc
        · exact Or.inr (Or.inr ⟨_, _, (if_neg e).trans (if_pos e2)⟩)
        · exact Or.inl ((if_neg e).trans (if_neg e2))
    · intro b u e
      by_cases e1 : b ∈ ts.map (·.2)
      · cases (if_pos e1).symm.trans e
        exact emptyT e1
      · by_cases e2 : b = sc
        · cases ((if_neg e1).trans (if_pos e2)).symm.trans e
          subst e2
          exact ⟨atS, by rw [List.length_map]; exact small', vs, _, rv, atS⟩
        · cases ((if_neg e1).trans (if_neg e2)).symm.trans e
    · by_cases e : b ∈ ts.map (·.2)
      · exact Or.inr (isT e)
      · by_cases e2 : b = sc
        · exact Or.inl e2
        · exact absurd ((if_neg e).trans (if_neg e2)) ne
  · obtain ⟨o', ho'⟩ := Option.ne_none_iff_exists'.mp known
    cases (atS.symm.trans (inF sc o' ho'))
    refine go (fun b => if b ∈ ts.map (·.2) then some (.tbl #[]) else none) (Or.inr ⟨_, vs.toArray, _, ho', rfl, rfl, rfl, by rw [List.size_toArray, lenV]; exact small', by simpa using rv⟩) (fun p hp => if_pos (List.mem_map.mpr ⟨p, hp, rfl⟩)) (fun b => ?_) ?_ (fun b ne => ?_) (fun ne => ?_)
    · by_cases e : b ∈ ts.map (·.2)
      · exact Or.inr (Or.inl (isT e))
      · exact Or.inl (if_neg e)
    · intro b u e
      by_cases e1 : b ∈ ts.map (·.2)
      · cases (if_pos e1).symm.trans e
        exact emptyT e1
      · cases (if_neg e1).symm.trans e
    · by_cases e : b ∈ ts.map (·.2)
      · exact Or.inr (isT e)
      · exact absurd (if_neg e) ne
    · exact absurd (if_neg notT) ne
end GR

-- NOMAP
namespace RL
open PySem L2 SX AddrMath VA LamX GR TxSet
theorem kit_me {K : PySem.W.Frag} {S : Addr} : PySem.W.kitOne K (.ref S) (.ref S) = some true := by
  unfold PySem.W.kitOne
  rw [if_pos (by simp)]
theorem vals_app {a b : List V} {x y : List Value} (h1 : Vals a x) (h2 : Vals b y) : Vals (a ++ b) (x ++ y) := by
  induction h1 with
  | nil => exact h2
  | cons h _ ih => exact .cons h ih
theorem exm_own {K : PySem.W.Frag} {S : Addr} (h1 : PySem.W.subIn K (.ref S) (.type "BaseException") = some true) (h2 : PySem.W.hasDictIn K S = true) (h3 : PySem.W.typeIn K (.ref S) = some (.type "type")) (h4 : PySem.W.subIn K (.ref S) (.ref S) = some true) :
    PySem.W.exmOne K (.ref S) (.ref S) = some true := PySem.W.exm_ref h1 h2 h3 h4
theorem kit_own {K : PySem.W.Frag} {S : Addr} (h : PySem.W.subIn K (.ref S) (.type "ValueError") = some true) : PySem.W.kitOne K (.ref S) (.type "ValueError") = some true := by
  unfold PySem.W.kitOne
  rw [if_neg (by intro z; cases (beq_iff_eq.mp z))]
  show (if PySem.W.kitMeta "ValueError" = true then PySem.W.subIn K (.ref S) (.type "ValueError") else none) = some true
  rw [if_pos (by decide +kernel)]
  exact h
def own_mk {P : Program} {w : World} {K : PySem.W.Frag} {mg : Str → Option Value} {base : Heap} {CX : CXT} {n : Nat} {x : Str} {ps : List Str} {sp : Sp} {f : Addr} {fd : FuncData} (g : FnOk P w K mg base CX n f fd ps sp) (m : mg x = some (.ref f)) (k : PySem.W.keepIn K (.ref f) = true) (b : Binds K fd ps []) : Own P w K mg base CX n x ps sp := ⟨f, fd, g, m, k, b⟩
def prop_mk {P : Program} {w : World} {K : PySem.W.Frag} {mg : Str → Option Value} {base : Heap} {C p g : Addr} {n : Str} {sp : Sp} {fd : FuncData} (a : PySem.W.findIn K (.ref C) n = some (some (.ref p))) (gt : PySem.W.specialIn K (.ref p) "__get__" = some (some (.builtin "property.__get__"))) (t : PySem.W.takesIn K (.ref p) = some true) {r : List Value} (rc : PySem.W.recIn K p "property" = some (.ref g :: r))
    (ok : FnOk P w K mg base CX0 1 g fd ["self"] sp) (b : Binds K fd ["self"] []) : OwnP P w K mg base C n sp := ⟨p, g, fd, ⟨a, gt, t, ⟨r, rc⟩⟩, ok, b⟩
theorem kit_no {K : PySem.W.Frag} {t : Value} {S : Addr} (n : ¬ (t == Value.ref S) = true) (ic : PySem.W.isClsIn K S = true) (ty : PySem.W.typeIn K (.ref S) = some (.type "type")) (h : PySem.W.subIn K t (.ref S) = some false) : PySem.W.kitOne K t (.ref S) = some false := by
  unfold PySem.W.kitOne
  rw [if_neg n]
  have ic' : (PySem.W.clsIn K S).isSome = true := ic
  unfold PySem.W.kitCls
  simp [ic', ty, h]
section
variable {P : Program} {w : World} {K : PySem.W.Frag} {mg : Str → Option Value} {base : Heap}
abbrev sRWords : Stmt := inClass (top 43) 5
theorem scRWords : FnScope ["self"] ["self"] (defScope sRWords) := ⟨rfl, rfl, rfl, by decide +kernel, rfl, by decide +kernel, by decide +kernel⟩
theorem ok_rwords {f C : Addr} {fd : FuncData} (F : Fun K "words" "Rule.words" sRWords f fd) (T : RTxt K mg C) : FnOk P w K mg base CX0 1 f fd ["self"] (spGet C nWords) := by
  refine F.ok scRWords (fun vs H Q E h => ?_) (fun cdv A outer s0 H vs Q E hr h => ?_)
  · obtain ⟨p, dx, fs, v, rfl, _⟩ := h
    rfl
  · obtain ⟨p, dx, fs, v, rfl, hp, l, q⟩ := h
    exact ⟨_, pss_one (ps_ret (pe_fld (pv 0) rfl)), _, rfl, p, C, dx, fs, v, rfl, hp, T.cl, T.nW, l, q⟩
end

def spOf (K : PySem.W.Frag) (ts : List (Addr × Addr)) : Sp := match ts with
  | [p, q] => spLaw K p.2 q.2
  | _ => fun _ _ _ _ => True
theorem all_mk {l : PySem.W.OpenLaw} {w : World} {K : PySem.W.Frag} {h : Heap} {mg : Str → Option Value} {fa : Addr} (X : K.In h) (G : h.Ns mainGlobals mg) (hfa : mg "law" = some (.ref fa))
    {hd C CB fis_word fis_integer fis_hole fare_entries fis_goal CE fErr CT fTx CM fMn fcheck_parts fcopied_goal fwords_named fInit TD KD prState frState prPattern frPattern prGoal frGoal prExact frExact prWords frWords frEq fnumber_in fhole_in fparsed_path fparsed pRd fRd fpath_text frule_text frText fstates_of fwords_of fchecked fBin pbOf fbOf pbRules fbRules fbText fbEq pbRd fbRd fpen fdraw fpick fwords fany_value flint fentry frule flrules fmade flmade fbent ftold fdue flaw cL Pl cI Pi : Addr} {odis_word anis_word odis_integer anis_integer odis_hole anis_hole odare_entries anare_entries odis_goal anis_goal odErr anErr odTx anTx odMn anMn odcheck_parts ancheck_parts odcopied_goal ancopied_goal odwords_named anwords_named odInit anInit odT odrState anrState odrPattern anrPattern odrGoal anrGoal odrExact anrExact odrWords anrWords odrEq anrEq odnumber_in annumber_in odhole_in anhole_in odparsed_path anparsed_path odparsed anparsed odRd anRd odpath_text anpath_text odrule_text anrule_text odrText anrText odstates_of anstates_of odwords_of anwords_of odchecked anchecked odBin anBin odbOf anbOf odbRules anbRules odbText anbText odbEq anbEq odbRd anbRd odpen anpen oddraw andraw odpick anpick odwords anwords odany_value anany_value odlint anlint odentry anentry odrule anrule odlrules anlrules odmade anmade odlmade anlmade odbent anbent odtold antold oddue andue odlaw anlaw ddcL ddcI : Option Addr} {slis_word slis_integer slis_hole slare_entries slis_goal slErr slTx slMn slcheck_parts slcopied_goal slwords_named slInit slT slrState slrPattern slrGoal slrExact slrWords slrEq slnumber_in slhole_in slparsed_path slparsed slRd slpath_text slrule_text slrText slstates_of slwords_of slchecked slBin slbOf slbRules slbText slbEq slbRd slpen sldraw slpick slwords slany_value sllint slentry slrule sllrules slmade sllmade slbent sltold sldue sllaw slcL slcI : Array (Option Value)} {ocis_word dcis_word pmis_word cdis_word ctis_word kVis_word ocis_integer dcis_integer pmis_integer cdis_integer ctis_integer kVis_integer ocis_hole dcis_hole pmis_hole cdis_hole ctis_hole kVis_hole ocare_entries dcare_entries pmare_entries cdare_entries ctare_entries kVare_entries ocis_goal dcis_goal pmis_goal cdis_goal ctis_goal kVis_goal ocErr dcErr pmErr cdErr ctErr kVErr ocTx dcTx pmTx cdTx ctTx kVTx ocMn dcMn pmMn cdMn ctMn kVMn occheck_parts dccheck_parts pmcheck_parts cdcheck_parts ctcheck_parts kVcheck_parts occopied_goal dccopied_goal pmcopied_goal cdcopied_goal ctcopied_goal kVcopied_goal ocwords_named dcwords_named pmwords_named cdwords_named ctwords_named kVwords_named ocInit dcInit pmInit cdInit ctInit ocT ocrState dcrState pmrState cdrState ctrState kVrState ocrPattern dcrPattern pmrPattern cdrPattern ctrPattern kVrPattern ocrGoal dcrGoal pmrGoal cdrGoal ctrGoal kVrGoal ocrExact dcrExact pmrExact cdrExact ctrExact kVrExact ocrWords dcrWords pmrWords cdrWords ctrWords kVrWords ocrEq dcrEq pmrEq cdrEq ctrEq kVrEq ocnumber_in dcnumber_in pmnumber_in cdnumber_in ctnumber_in kVnumber_in ochole_in dchole_in pmhole_in cdhole_in cthole_in kVhole_in ocparsed_path dcparsed_path pmparsed_path cdparsed_path ctparsed_path kVparsed_path ocparsed dcparsed pmparsed cdparsed ctparsed kVparsed ocRd dcRd pmRd cdRd ctRd kVRd ocpath_text dcpath_text pmpath_text cdpath_text ctpath_text kVpath_text ocrule_text dcrule_text pmrule_text cdrule_text ctrule_text kVrule_text ocrText dcrText pmrText cdrText ctrText kVrText ocstates_of dcstates_of pmstates_of cdstates_of ctstates_of kVstates_of ocwords_of dcwords_of pmwords_of cdwords_of ctwords_of kVwords_of occhecked dcchecked pmchecked cdchecked ctchecked kVchecked ocBin dcBin pmBin cdBin ctBin kVBin ocbOf dcbOf pmbOf cdbOf ctbOf kVbOf ocbRules dcbRules pmbRules cdbRules ctbRules kVbRules ocbText dcbText pmbText cdbText ctbText kVbText ocbEq dcbEq pmbEq cdbEq ctbEq kVbEq ocbRd dcbRd pmbRd cdbRd ctbRd kVbRd ocpen dcpen pmpen cdpen ctpen kVpen ocdraw dcdraw pmdraw cddraw ctdraw kVdraw ocpick dcpick pmpick cdpick ctpick kVpick ocwords dcwords pmwords cdwords ctwords kVwords ocany_value dcany_value pmany_value cdany_value ctany_value kVany_value oclint dclint pmlint cdlint ctlint kVlint ocentry dcentry pmentry cdentry ctentry kVentry ocrule dcrule pmrule cdrule ctrule kVrule oclrules dclrules pmlrules cdlrules ctlrules kVlrules ocmade dcmade pmmade cdmade ctmade kVmade oclmade dclmade pmlmade cdlmade ctlmade kVlmade ocbent dcbent pmbent cdbent ctbent kVbent octold dctold pmtold cdtold cttold kVtold ocdue dcdue pmdue ctdue kVdue oclaw dclaw pmlaw ctlaw kVlaw ecL ecI : Value} {nH nT : Nat} {tk8 tk2 tk4 tk100 tkR tkS tkW : Tok} {es : Array DictEntry} {rrState rrPattern rrGoal rrExact rrWords rRd rbOf rbRules rbRd : List Value}  {nmErr qErr : Str} {NNErr : Addr} {bsErr : List Value} {snErr : List Str} {subErr : List Value} {abErr : Bool} {colErr : Option Bool} {ddErr : Option Addr} {m0Err m1Err m2Err m3Err m5Err : Option Value} {nmTx qTx : Str} {NNTx : Addr} {bsTx : List Value} {snTx : List Str} {subTx : List Value} {abTx : Bool} {colTx : Option Bool} {ddTx : Option Addr} {m0Tx m1Tx m2Tx m3Tx m5Tx : Option Value} {nmMn qMn : Str} {NNMn : Addr} {bsMn : List Value} {snMn : List Str} {subMn : List Value} {abMn : Bool} {colMn : Option Bool} {ddMn : Option Addr} {m0Mn m1Mn m2Mn m3Mn m5Mn : Option Value} {vscL : Array Value} {vscI : Array Value}
    (zisinstance : PySem.W.nsIn K mainGlobals "isinstance" = some none)
    (zstr : PySem.W.nsIn K mainGlobals "str" = some none)
    (zint : PySem.W.nsIn K mainGlobals "int" = some none)
    (zbool : PySem.W.nsIn K mainGlobals "bool" = some none)
    (zlist : PySem.W.nsIn K mainGlobals "list" = some none)
    (ztuple : PySem.W.nsIn K mainGlobals "tuple" = some none)
    (zlen : PySem.W.nsIn K mainGlobals "len" = some none)
    (zall : PySem.W.nsIn K mainGlobals "all" = some none)
    (zsorted : PySem.W.nsIn K mainGlobals "sorted" = some none)
    (zset : PySem.W.nsIn K mainGlobals "set" = some none)
    (zrange : PySem.W.nsIn K mainGlobals "range" = some none)
    (zmin : PySem.W.nsIn K mainGlobals "min" = some none)
    (zrepr : PySem.W.nsIn K mainGlobals "repr" = some none)
    (zzip : PySem.W.nsIn K mainGlobals "zip" = some none)
    (zenumerate : PySem.W.nsIn K mainGlobals "enumerate" = some none)
    (aLETTERS : PySem.W.nsIn K mainGlobals "LETTERS" = some (some (.int 8 tk8)))
    (aPATTERN : PySem.W.nsIn K mainGlobals "PATTERN" = some (some (.int 2 tk2)))
    (aBEGINNING : PySem.W.nsIn K mainGlobals "BEGINNING" = some (some (.int 4 tk4)))
    (aHOLE_DIGITS : PySem.W.nsIn K mainGlobals "HOLE_DIGITS" = some (some (.int 100 tk100)))
    (aRULES : PySem.W.nsIn K mainGlobals "RULES" = some (some (.int 12 tkR)))
    (aSTATES : PySem.W.nsIn K mainGlobals "STATES" = some (some (.int 6 tkS)))
    (aWORDS : PySem.W.nsIn K mainGlobals "WORDS" = some (some (.int 6 tkW)))
    (aH : PySem.W.nsIn K mainGlobals "HOLES" = some (some (.ref hd)))
    (lH : K.lookup hd = some ⟨.type "dict", none, .dict es nH, #[]⟩)
    (nH0 : (hd == sysModules) = false)
    (zH : es.size = 2)
    (litH : PySem.W.KeysLit w.params es.toList)
    (rowH : TxRows holeRows es.toList)
    (mC : PySem.W.nsIn K mainGlobals "Rule" = some (some (.ref C)))
    (pgC : PySem.W.plainGet K C Str.empty = true)
    (hdC : PySem.W.hasDictIn K C = true)
    (poC : PySem.W.plainOver K C = true)
    (saC : PySem.W.findIn K (.ref C) "__setattr__" = some (some (.builtin "object.__setattr__")))
    (mkC : PySem.W.makesIn K C = true)
    (kcC : PySem.W.keepIn K (.ref C) = true)
    (nC_state : PySem.W.findIn K (.ref C) "_state" = some none)
    (nC_pattern : PySem.W.findIn K (.ref C) "_pattern" = some none)
    (nC_goal : PySem.W.findIn K (.ref C) "_goal" = some none)
    (nC_is_exact : PySem.W.findIn K (.ref C) "_is_exact" = some none)
    (nC_words : PySem.W.findIn K (.ref C) "_words" = some none)
    (nC_key : PySem.W.findIn K (.ref C) "_key" = some none)
    (icC : PySem.W.isClsIn K C = true)
    (pcC : PySem.W.plainGet K C "__class__" = true)
    (clC : PySem.W.findIn K (.ref C) "__class__" = some (some (.builtin "object.__class__")))
    (moC : PySem.W.mroIn K C (.type "object") = some true)
    (clg : PySem.W.specialIn K (.builtin "object.__class__") "__get__" = some (some (.builtin "getset_descriptor.__get__")))
    (clt : PySem.W.takesIn K (.builtin "object.__class__") = some true)
    (mCB : PySem.W.nsIn K mainGlobals "Book" = some (some (.ref CB)))
    (pgCB : PySem.W.plainGet K CB Str.empty = true)
    (hdCB : PySem.W.hasDictIn K CB = true)
    (poCB : PySem.W.plainOver K CB = true)
    (saCB : PySem.W.findIn K (.ref CB) "__setattr__" = some (some (.builtin "object.__setattr__")))
    (mkCB : PySem.W.makesIn K CB = true)
    (kcCB : PySem.W.keepIn K (.ref CB) = true)
    (nCB_rules : PySem.W.findIn K (.ref CB) "_rules" = some none)
    (nCB_reader : PySem.W.findIn K (.ref CB) "_reader" = some none)
    (icCB : PySem.W.isClsIn K CB = true)
    (pcCB : PySem.W.plainGet K CB "__class__" = true)
    (clCB : PySem.W.findIn K (.ref CB) "__class__" = some (some (.builtin "object.__class__")))
    (moCB : PySem.W.mroIn K CB (.type "object") = some true)
    (ais_word : PySem.W.nsIn K mainGlobals "is_word" = some (some (.ref fis_word)))
    (lis_word : K.lookup fis_word = some ⟨ocis_word, odis_word, .func (PySem.W.fnOf "is_word" "is_word" (defArgs sIsWord) (defBody sIsWord) (defScope sIsWord) .none kVis_word dcis_word pmis_word anis_word cdis_word ctis_word), slis_word⟩) (cis_word : PySem.W.codeIn K cdis_word "is_word" = true) (kis_word : PySem.W.keepIn K (.ref fis_word) = true)
    (ais_integer : PySem.W.nsIn K mainGlobals "is_integer" = some (some (.ref fis_integer)))
    (lis_integer : K.lookup fis_integer = some ⟨ocis_integer, odis_integer, .func (PySem.W.fnOf "is_integer" "is_integer" (defArgs sIsInteger) (defBody sIsInteger) (defScope sIsInteger) .none kVis_integer dcis_integer pmis_integer anis_integer cdis_integer ctis_integer), slis_integer⟩) (cis_integer : PySem.W.codeIn K cdis_integer "is_integer" = true) (kis_integer : PySem.W.keepIn K (.ref fis_integer) = true)
    (ais_hole : PySem.W.nsIn K mainGlobals "is_hole" = some (some (.ref fis_hole)))
    (lis_hole : K.lookup fis_hole = some ⟨ocis_hole, odis_hole, .func (PySem.W.fnOf "is_hole" "is_hole" (defArgs sIsHole) (defBody sIsHole) (defScope sIsHole) .none kVis_hole dcis_hole pmis_hole anis_hole cdis_hole ctis_hole), slis_hole⟩) (cis_hole : PySem.W.codeIn K cdis_hole "is_hole" = true) (kis_hole : PySem.W.keepIn K (.ref fis_hole) = true)
    (aare_entries : PySem.W.nsIn K mainGlobals "are_entries" = some (some (.ref fare_entries)))
    (lare_entries : K.lookup fare_entries = some ⟨ocare_entries, odare_entries, .func (PySem.W.fnOf "are_entries" "are_entries" (defArgs sAreEntries) (defBody sAreEntries) (defScope sAreEntries) .none kVare_entries dcare_entries pmare_entries anare_entries cdare_entries ctare_entries), slare_entries⟩) (care_entries : PySem.W.codeIn K cdare_entries "are_entries" = true) (kare_entries : PySem.W.keepIn K (.ref fare_entries) = true)
    (ais_goal : PySem.W.nsIn K mainGlobals "is_goal" = some (some (.ref fis_goal)))
    (lis_goal : K.lookup fis_goal = some ⟨ocis_goal, odis_goal, .func (PySem.W.fnOf "is_goal" "is_goal" (defArgs sIsGoal) (defBody sIsGoal) (defScope sIsGoal) .none kVis_goal dcis_goal pmis_goal anis_goal cdis_goal ctis_goal), slis_goal⟩) (cis_goal : PySem.W.codeIn K cdis_goal "is_goal" = true) (kis_goal : PySem.W.keepIn K (.ref fis_goal) = true)
    (mCE : PySem.W.nsIn K mainGlobals "InvalidRule" = some (some (.ref CE)))
    (xErr : K.lookup CE = some (excClassObj nmErr qErr CE NNErr bsErr [.type "ValueError", .type "Exception", .type "BaseException", .type "object"] true snErr subErr abErr colErr ddErr m0Err m1Err m2Err m3Err m5Err "ValueError.__new__"))
    (saErr : PySem.W.findIn K (.ref CE) "__setattr__" = some (some (.builtin "object.__setattr__")))
    (exErr : PySem.W.subIn K (.ref CE) (.type "BaseException") = some true)
    (tyErr : PySem.W.typeIn K (.ref CE) = some (.type "type"))
    (kcErr : PySem.W.keepIn K (.ref CE) = true)
    (aErr : PySem.W.findIn K (.ref CE) "__init__" = some (some (.ref fErr)))
    (tErr : PySem.W.typeIn K (.ref fErr) = some (.type "function"))
    (lErr : K.lookup fErr = some ⟨ocErr, odErr, .func (PySem.W.fnOf "__init__" "InvalidRule.__init__" (defArgs sErr) (defBody sErr) (defScope sErr) .none kVErr dcErr pmErr anErr cdErr ctErr), slErr⟩) (cErr : PySem.W.codeIn K cdErr "InvalidRule.__init__" = true) (kErr : PySem.W.keepIn K (.ref fErr) = true)
    (noErr : PySem.W.findIn K (.ref CE) "field" = some none)
    (gaErr : PySem.W.findIn K (.ref CE) "__getattribute__" = some (some (.builtin "BaseException.__getattribute__")))
    (ggErr : PySem.W.findIn K (.ref CE) "__getattr__" = some none)
    (hdErr : PySem.W.hasDictIn K CE = true)
    (clErr : PySem.W.findIn K (.ref CE) "__class__" = some (some (.builtin "object.__class__")))
    (moErr : PySem.W.mroIn K CE (.type "object") = some true)
    (sVErr : PySem.W.subIn K (.ref CE) (.type "ValueError") = some true)
    (sEErr : PySem.W.subIn K (.ref CE) (.ref CE) = some true)
    (mCT : PySem.W.nsIn K mainGlobals "InvalidText" = some (some (.ref CT)))
    (xTx : K.lookup CT = some (excClassObj nmTx qTx CT NNTx bsTx [.type "ValueError", .type "Exception", .type "BaseException", .type "object"] true snTx subTx abTx colTx ddTx m0Tx m1Tx m2Tx m3Tx m5Tx "ValueError.__new__"))
    (saTx : PySem.W.findIn K (.ref CT) "__setattr__" = some (some (.builtin "object.__setattr__")))
    (exTx : PySem.W.subIn K (.ref CT) (.type "BaseException") = some true)
    (tyTx : PySem.W.typeIn K (.ref CT) = some (.type "type"))
    (kcTx : PySem.W.keepIn K (.ref CT) = true)
    (aTx : PySem.W.findIn K (.ref CT) "__init__" = some (some (.ref fTx)))
    (tTx : PySem.W.typeIn K (.ref fTx) = some (.type "function"))
    (lTx : K.lookup fTx = some ⟨ocTx, odTx, .func (PySem.W.fnOf "__init__" "InvalidText.__init__" (defArgs sErrT) (defBody sErrT) (defScope sErrT) .none kVTx dcTx pmTx anTx cdTx ctTx), slTx⟩) (cTx : PySem.W.codeIn K cdTx "InvalidText.__init__" = true) (kTx : PySem.W.keepIn K (.ref fTx) = true)
    (noTx : PySem.W.findIn K (.ref CT) "index" = some none)
    (gaTx : PySem.W.findIn K (.ref CT) "__getattribute__" = some (some (.builtin "BaseException.__getattribute__")))
    (ggTx : PySem.W.findIn K (.ref CT) "__getattr__" = some none)
    (hdTx : PySem.W.hasDictIn K CT = true)
    (clTx : PySem.W.findIn K (.ref CT) "__class__" = some (some (.builtin "object.__class__")))
    (moTx : PySem.W.mroIn K CT (.type "object") = some true)
    (sVTx : PySem.W.subIn K (.ref CT) (.type "ValueError") = some true)
    (sETx : PySem.W.subIn K (.ref CT) (.ref CT) = some true)
    (mCM : PySem.W.nsIn K mainGlobals "TooMany" = some (some (.ref CM)))
    (xMn : K.lookup CM = some (excClassObj nmMn qMn CM NNMn bsMn [.type "OverflowError", .type "ArithmeticError", .type "Exception", .type "BaseException", .type "object"] true snMn subMn abMn colMn ddMn m0Mn m1Mn m2Mn m3Mn m5Mn "OverflowError.__new__"))
    (saMn : PySem.W.findIn K (.ref CM) "__setattr__" = some (some (.builtin "object.__setattr__")))
    (exMn : PySem.W.subIn K (.ref CM) (.type "BaseException") = some true)
    (tyMn : PySem.W.typeIn K (.ref CM) = some (.type "type"))
    (kcMn : PySem.W.keepIn K (.ref CM) = true)
    (aMn : PySem.W.findIn K (.ref CM) "__init__" = some (some (.ref fMn)))
    (tMn : PySem.W.typeIn K (.ref fMn) = some (.type "function"))
    (lMn : K.lookup fMn = some ⟨ocMn, odMn, .func (PySem.W.fnOf "__init__" "TooMany.__init__" (defArgs sErrM) (defBody sErrM) (defScope sErrM) .none kVMn dcMn pmMn anMn cdMn ctMn), slMn⟩) (cMn : PySem.W.codeIn K cdMn "TooMany.__init__" = true) (kMn : PySem.W.keepIn K (.ref fMn) = true)
    (noMn : PySem.W.findIn K (.ref CM) "limit" = some none)
    (gaMn : PySem.W.findIn K (.ref CM) "__getattribute__" = some (some (.builtin "BaseException.__getattribute__")))
    (ggMn : PySem.W.findIn K (.ref CM) "__getattr__" = some none)
    (hdMn : PySem.W.hasDictIn K CM = true)
    (clMn : PySem.W.findIn K (.ref CM) "__class__" = some (some (.builtin "object.__class__")))
    (moMn : PySem.W.mroIn K CM (.type "object") = some true)
    (sVMn : PySem.W.subIn K (.ref CM) (.type "OverflowError") = some true)
    (sEMn : PySem.W.subIn K (.ref CM) (.ref CM) = some true)
    (sET : PySem.W.subIn K (.ref CE) (.ref CT) = some false)
    (sMT : PySem.W.subIn K (.ref CM) (.ref CT) = some false)
    (sME : PySem.W.subIn K (.ref CM) (.ref CE) = some false)
    (acheck_parts : PySem.W.nsIn K mainGlobals "check_parts" = some (some (.ref fcheck_parts)))
    (lcheck_parts : K.lookup fcheck_parts = some ⟨occheck_parts, odcheck_parts, .func (PySem.W.fnOf "check_parts" "check_parts" (defArgs sCheckParts) (defBody sCheckParts) (defScope sCheckParts) .none kVcheck_parts dccheck_parts pmcheck_parts ancheck_parts cdcheck_parts ctcheck_parts), slcheck_parts⟩) (ccheck_parts : PySem.W.codeIn K cdcheck_parts "check_parts" = true) (kcheck_parts : PySem.W.keepIn K (.ref fcheck_parts) = true)
    (acopied_goal : PySem.W.nsIn K mainGlobals "copied_goal" = some (some (.ref fcopied_goal)))
    (lcopied_goal : K.lookup fcopied_goal = some ⟨occopied_goal, odcopied_goal, .func (PySem.W.fnOf "copied_goal" "copied_goal" (defArgs sCopiedGoal) (defBody sCopiedGoal) (defScope sCopiedGoal) .none kVcopied_goal dccopied_goal pmcopied_goal ancopied_goal cdcopied_goal ctcopied_goal), slcopied_goal⟩) (ccopied_goal : PySem.W.codeIn K cdcopied_goal "copied_goal" = true) (kcopied_goal : PySem.W.keepIn K (.ref fcopied_goal) = true)
    (awords_named : PySem.W.nsIn K mainGlobals "words_named" = some (some (.ref fwords_named)))
    (lwords_named : K.lookup fwords_named = some ⟨ocwords_named, odwords_named, .func (PySem.W.fnOf "words_named" "words_named" (defArgs sWordsNamed) (defBody sWordsNamed) (defScope sWordsNamed) .none kVwords_named dcwords_named pmwords_named anwords_named cdwords_named ctwords_named), slwords_named⟩) (cwords_named : PySem.W.codeIn K cdwords_named "words_named" = true) (kwords_named : PySem.W.keepIn K (.ref fwords_named) = true)
    (bInit : PySem.W.findIn K (.ref C) "__init__" = some (some (.ref fInit)))
    (iInit : PySem.W.isFn K (.ref fInit) = true)
    (lInit : K.lookup fInit = some ⟨ocInit, odInit, .func (PySem.W.fnOf "__init__" "Rule.__init__" (defArgs sRuleInit) (defBody sRuleInit) (defScope sRuleInit) (.ref TD) (.ref KD) dcInit pmInit anInit cdInit ctInit), slInit⟩) (cInit : PySem.W.codeIn K cdInit "Rule.__init__" = true) (kInit : PySem.W.keepIn K (.ref fInit) = true)
    (lTD : K.lookup TD = some ⟨ocT, odT, .seq [Value.none].toArray nT, slT⟩)
    (lKD : PySem.W.nsIn K KD "is_exact" = some (some (.bool false)))
    (arState : PySem.W.findIn K (.ref C) "state" = some (some (.ref prState)))
    (grState : PySem.W.specialIn K (.ref prState) "__get__" = some (some (.builtin "property.__get__")))
    (trState : PySem.W.takesIn K (.ref prState) = some true)
    (r_rState : PySem.W.recIn K prState "property" = some (.ref frState :: rrState))
    (lrState : K.lookup frState = some ⟨ocrState, odrState, .func (PySem.W.fnOf "state" "Rule.state" (defArgs sRState) (defBody sRState) (defScope sRState) .none kVrState dcrState pmrState anrState cdrState ctrState), slrState⟩) (crState : PySem.W.codeIn K cdrState "Rule.state" = true) (krState : PySem.W.keepIn K (.ref frState) = true)
    (arPattern : PySem.W.findIn K (.ref C) "pattern" = some (some (.ref prPattern)))
    (grPattern : PySem.W.specialIn K (.ref prPattern) "__get__" = some (some (.builtin "property.__get__")))
    (trPattern : PySem.W.takesIn K (.ref prPattern) = some true)
    (r_rPattern : PySem.W.recIn K prPattern "property" = some (.ref frPattern :: rrPattern))
    (lrPattern : K.lookup frPattern = some ⟨ocrPattern, odrPattern, .func (PySem.W.fnOf "pattern" "Rule.pattern" (defArgs sRPattern) (defBody sRPattern) (defScope sRPattern) .none kVrPattern dcrPattern pmrPattern anrPattern cdrPattern ctrPattern), slrPattern⟩) (crPattern : PySem.W.codeIn K cdrPattern "Rule.pattern" = true) (krPattern : PySem.W.keepIn K (.ref frPattern) = true)
    (arGoal : PySem.W.findIn K (.ref C) "goal" = some (some (.ref prGoal)))
    (grGoal : PySem.W.specialIn K (.ref prGoal) "__get__" = some (some (.builtin "property.__get__")))
    (trGoal : PySem.W.takesIn K (.ref prGoal) = some true)
    (r_rGoal : PySem.W.recIn K prGoal "property" = some (.ref frGoal :: rrGoal))
    (lrGoal : K.lookup frGoal = some ⟨ocrGoal, odrGoal, .func (PySem.W.fnOf "goal" "Rule.goal" (defArgs sRGoal) (defBody sRGoal) (defScope sRGoal) .none kVrGoal dcrGoal pmrGoal anrGoal cdrGoal ctrGoal), slrGoal⟩) (crGoal : PySem.W.codeIn K cdrGoal "Rule.goal" = true) (krGoal : PySem.W.keepIn K (.ref frGoal) = true)
    (arExact : PySem.W.findIn K (.ref C) "is_exact" = some (some (.ref prExact)))
    (grExact : PySem.W.specialIn K (.ref prExact) "__get__" = some (some (.builtin "property.__get__")))
    (trExact : PySem.W.takesIn K (.ref prExact) = some true)
    (r_rExact : PySem.W.recIn K prExact "property" = some (.ref frExact :: rrExact))
    (lrExact : K.lookup frExact = some ⟨ocrExact, odrExact, .func (PySem.W.fnOf "is_exact" "Rule.is_exact" (defArgs sRExact) (defBody sRExact) (defScope sRExact) .none kVrExact dcrExact pmrExact anrExact cdrExact ctrExact), slrExact⟩) (crExact : PySem.W.codeIn K cdrExact "Rule.is_exact" = true) (krExact : PySem.W.keepIn K (.ref frExact) = true)
    (arWords : PySem.W.findIn K (.ref C) "words" = some (some (.ref prWords)))
    (grWords : PySem.W.specialIn K (.ref prWords) "__get__" = some (some (.builtin "property.__get__")))
    (trWords : PySem.W.takesIn K (.ref prWords) = some true)
    (r_rWords : PySem.W.recIn K prWords "property" = some (.ref frWords :: rrWords))
    (lrWords : K.lookup frWords = some ⟨ocrWords, odrWords, .func (PySem.W.fnOf "words" "Rule.words" (defArgs sRWords) (defBody sRWords) (defScope sRWords) .none kVrWords dcrWords pmrWords anrWords cdrWords ctrWords), slrWords⟩) (crWords : PySem.W.codeIn K cdrWords "Rule.words" = true) (krWords : PySem.W.keepIn K (.ref frWords) = true)
    (tyC : PySem.W.typeIn K (.ref C) = some (.type "type"))
    (ssC : PySem.W.subIn K (.type "str") (.ref C) = some false)
    (stC : PySem.W.subIn K (.type "tuple") (.ref C) = some false)
    (arEq : PySem.W.findIn K (.ref C) "__eq__" = some (some (.ref frEq)))
    (irEq : PySem.W.isFn K (.ref frEq) = true)
    (lrEq : K.lookup frEq = some ⟨ocrEq, odrEq, .func (PySem.W.fnOf "__eq__" "Rule.__eq__" (defArgs sREq) (defBody sREq) (defScope sREq) .none kVrEq dcrEq pmrEq anrEq cdrEq ctrEq), slrEq⟩) (crEq : PySem.W.codeIn K cdrEq "Rule.__eq__" = true) (krEq : PySem.W.keepIn K (.ref frEq) = true)
    (anumber_in : PySem.W.nsIn K mainGlobals "number_in" = some (some (.ref fnumber_in)))
    (lnumber_in : K.lookup fnumber_in = some ⟨ocnumber_in, odnumber_in, .func (PySem.W.fnOf "number_in" "number_in" (defArgs sNumberIn) (defBody sNumberIn) (defScope sNumberIn) .none kVnumber_in dcnumber_in pmnumber_in annumber_in cdnumber_in ctnumber_in), slnumber_in⟩) (cnumber_in : PySem.W.codeIn K cdnumber_in "number_in" = true) (knumber_in : PySem.W.keepIn K (.ref fnumber_in) = true)
    (ahole_in : PySem.W.nsIn K mainGlobals "hole_in" = some (some (.ref fhole_in)))
    (lhole_in : K.lookup fhole_in = some ⟨ochole_in, odhole_in, .func (PySem.W.fnOf "hole_in" "hole_in" (defArgs sHoleIn) (defBody sHoleIn) (defScope sHoleIn) .none kVhole_in dchole_in pmhole_in anhole_in cdhole_in cthole_in), slhole_in⟩) (chole_in : PySem.W.codeIn K cdhole_in "hole_in" = true) (khole_in : PySem.W.keepIn K (.ref fhole_in) = true)
    (aparsed_path : PySem.W.nsIn K mainGlobals "parsed_path" = some (some (.ref fparsed_path)))
    (lparsed_path : K.lookup fparsed_path = some ⟨ocparsed_path, odparsed_path, .func (PySem.W.fnOf "parsed_path" "parsed_path" (defArgs sParsedPath) (defBody sParsedPath) (defScope sParsedPath) .none kVparsed_path dcparsed_path pmparsed_path anparsed_path cdparsed_path ctparsed_path), slparsed_path⟩) (cparsed_path : PySem.W.codeIn K cdparsed_path "parsed_path" = true) (kparsed_path : PySem.W.keepIn K (.ref fparsed_path) = true)
    (aparsed : PySem.W.nsIn K mainGlobals "parsed" = some (some (.ref fparsed)))
    (lparsed : K.lookup fparsed = some ⟨ocparsed, odparsed, .func (PySem.W.fnOf "parsed" "parsed" (defArgs sParsed) (defBody sParsed) (defScope sParsed) .none kVparsed dcparsed pmparsed anparsed cdparsed ctparsed), slparsed⟩) (cparsed : PySem.W.codeIn K cdparsed "parsed" = true) (kparsed : PySem.W.keepIn K (.ref fparsed) = true)
    (rdC : PySem.W.readsIn K C (.type "type") = true)
    (gaC : PySem.W.specialIn K (.ref C) "__getattribute__" = some (some (.builtin "type.__getattribute__")))
    (rdCB : PySem.W.readsIn K CB (.type "type") = true)
    (gaCB : PySem.W.specialIn K (.ref CB) "__getattribute__" = some (some (.builtin "type.__getattribute__")))
    (aRd : PySem.W.findCls K (.ref C) (.type "type") "read" = some (.get (.builtin "classmethod.__get__") (.ref pRd) .none (.ref C)))
    (r_Rd : PySem.W.recIn K pRd "classmethod" = some (.ref fRd :: rRd))
    (fiRd : PySem.W.fnIn K fRd = true)
    (lRd : K.lookup fRd = some ⟨ocRd, odRd, .func (PySem.W.fnOf "read" "Rule.read" (defArgs sRuleRead) (defBody sRuleRead) (defScope sRuleRead) .none kVRd dcRd pmRd anRd cdRd ctRd), slRd⟩) (cRd : PySem.W.codeIn K cdRd "Rule.read" = true) (kRd : PySem.W.keepIn K (.ref fRd) = true)
    (apath_text : PySem.W.nsIn K mainGlobals "path_text" = some (some (.ref fpath_text)))
    (lpath_text : K.lookup fpath_text = some ⟨ocpath_text, odpath_text, .func (PySem.W.fnOf "path_text" "path_text" (defArgs sPathText) (defBody sPathText) (defScope sPathText) .none kVpath_text dcpath_text pmpath_text anpath_text cdpath_text ctpath_text), slpath_text⟩) (cpath_text : PySem.W.codeIn K cdpath_text "path_text" = true) (kpath_text : PySem.W.keepIn K (.ref fpath_text) = true)
    (arule_text : PySem.W.nsIn K mainGlobals "rule_text" = some (some (.ref frule_text)))
    (lrule_text : K.lookup frule_text = some ⟨ocrule_text, odrule_text, .func (PySem.W.fnOf "rule_text" "rule_text" (defArgs sRuleText) (defBody sRuleText) (defScope sRuleText) .none kVrule_text dcrule_text pmrule_text anrule_text cdrule_text ctrule_text), slrule_text⟩) (crule_text : PySem.W.codeIn K cdrule_text "rule_text" = true) (krule_text : PySem.W.keepIn K (.ref frule_text) = true)
    (arText : PySem.W.findIn K (.ref C) "text" = some (some (.ref frText)))
    (irText : PySem.W.isFn K (.ref frText) = true)
    (lrText : K.lookup frText = some ⟨ocrText, odrText, .func (PySem.W.fnOf "text" "Rule.text" (defArgs sRText) (defBody sRText) (defScope sRText) .none kVrText dcrText pmrText anrText cdrText ctrText), slrText⟩) (crText : PySem.W.codeIn K cdrText "Rule.text" = true) (krText : PySem.W.keepIn K (.ref frText) = true)
    (astates_of : PySem.W.nsIn K mainGlobals "states_of" = some (some (.ref fstates_of)))
    (lstates_of : K.lookup fstates_of = some ⟨ocstates_of, odstates_of, .func (PySem.W.fnOf "states_of" "states_of" (defArgs sStatesOf) (defBody sStatesOf) (defScope sStatesOf) .none kVstates_of dcstates_of pmstates_of anstates_of cdstates_of ctstates_of), slstates_of⟩) (cstates_of : PySem.W.codeIn K cdstates_of "states_of" = true) (kstates_of : PySem.W.keepIn K (.ref fstates_of) = true)
    (awords_of : PySem.W.nsIn K mainGlobals "words_of" = some (some (.ref fwords_of)))
    (lwords_of : K.lookup fwords_of = some ⟨ocwords_of, odwords_of, .func (PySem.W.fnOf "words_of" "words_of" (defArgs sWordsOf) (defBody sWordsOf) (defScope sWordsOf) .none kVwords_of dcwords_of pmwords_of anwords_of cdwords_of ctwords_of), slwords_of⟩) (cwords_of : PySem.W.codeIn K cdwords_of "words_of" = true) (kwords_of : PySem.W.keepIn K (.ref fwords_of) = true)
    (achecked : PySem.W.nsIn K mainGlobals "checked" = some (some (.ref fchecked)))
    (lchecked : K.lookup fchecked = some ⟨occhecked, odchecked, .func (PySem.W.fnOf "checked" "checked" (defArgs sChecked) (defBody sChecked) (defScope sChecked) .none kVchecked dcchecked pmchecked anchecked cdchecked ctchecked), slchecked⟩) (cchecked : PySem.W.codeIn K cdchecked "checked" = true) (kchecked : PySem.W.keepIn K (.ref fchecked) = true)
    (bBin : PySem.W.findIn K (.ref CB) "__init__" = some (some (.ref fBin)))
    (iBin : PySem.W.isFn K (.ref fBin) = true)
    (lBin : K.lookup fBin = some ⟨ocBin, odBin, .func (PySem.W.fnOf "__init__" "Book.__init__" (defArgs sBookInit) (defBody sBookInit) (defScope sBookInit) .none kVBin dcBin pmBin anBin cdBin ctBin), slBin⟩) (cBin : PySem.W.codeIn K cdBin "Book.__init__" = true) (kBin : PySem.W.keepIn K (.ref fBin) = true)
    (abOf : PySem.W.findCls K (.ref CB) (.type "type") "of" = some (.get (.builtin "classmethod.__get__") (.ref pbOf) .none (.ref CB)))
    (r_bOf : PySem.W.recIn K pbOf "classmethod" = some (.ref fbOf :: rbOf))
    (fibOf : PySem.W.fnIn K fbOf = true)
    (lbOf : K.lookup fbOf = some ⟨ocbOf, odbOf, .func (PySem.W.fnOf "of" "Book.of" (defArgs sBookOf) (defBody sBookOf) (defScope sBookOf) .none kVbOf dcbOf pmbOf anbOf cdbOf ctbOf), slbOf⟩) (cbOf : PySem.W.codeIn K cdbOf "Book.of" = true) (kbOf : PySem.W.keepIn K (.ref fbOf) = true)
    (abRules : PySem.W.findIn K (.ref CB) "rules" = some (some (.ref pbRules)))
    (gbRules : PySem.W.specialIn K (.ref pbRules) "__get__" = some (some (.builtin "property.__get__")))
    (tbRules : PySem.W.takesIn K (.ref pbRules) = some true)
    (r_bRules : PySem.W.recIn K pbRules "property" = some (.ref fbRules :: rbRules))
    (lbRules : K.lookup fbRules = some ⟨ocbRules, odbRules, .func (PySem.W.fnOf "rules" "Book.rules" (defArgs sBookRules) (defBody sBookRules) (defScope sBookRules) .none kVbRules dcbRules pmbRules anbRules cdbRules ctbRules), slbRules⟩) (cbRules : PySem.W.codeIn K cdbRules "Book.rules" = true) (kbRules : PySem.W.keepIn K (.ref fbRules) = true)
    (abText : PySem.W.findIn K (.ref CB) "text" = some (some (.ref fbText)))
    (ibText : PySem.W.isFn K (.ref fbText) = true)
    (lbText : K.lookup fbText = some ⟨ocbText, odbText, .func (PySem.W.fnOf "text" "Book.text" (defArgs sBookText) (defBody sBookText) (defScope sBookText) .none kVbText dcbText pmbText anbText cdbText ctbText), slbText⟩) (cbText : PySem.W.codeIn K cdbText "Book.text" = true) (kbText : PySem.W.keepIn K (.ref fbText) = true)
    (abEq : PySem.W.findIn K (.ref CB) "__eq__" = some (some (.ref fbEq)))
    (ibEq : PySem.W.isFn K (.ref fbEq) = true)
    (lbEq : K.lookup fbEq = some ⟨ocbEq, odbEq, .func (PySem.W.fnOf "__eq__" "Book.__eq__" (defArgs sBookEq) (defBody sBookEq) (defScope sBookEq) .none kVbEq dcbEq pmbEq anbEq cdbEq ctbEq), slbEq⟩) (cbEq : PySem.W.codeIn K cdbEq "Book.__eq__" = true) (kbEq : PySem.W.keepIn K (.ref fbEq) = true)
    (neCB : PySem.W.findIn K (.ref CB) "__ne__" = some (some (.builtin "object.__ne__")))
    (obCB : PySem.W.subIn K (.ref CB) (.type "object") = some true)
    (abRd : PySem.W.findCls K (.ref CB) (.type "type") "read" = some (.get (.builtin "classmethod.__get__") (.ref pbRd) .none (.ref CB)))
    (r_bRd : PySem.W.recIn K pbRd "classmethod" = some (.ref fbRd :: rbRd))
    (fibRd : PySem.W.fnIn K fbRd = true)
    (lbRd : K.lookup fbRd = some ⟨ocbRd, odbRd, .func (PySem.W.fnOf "read" "Book.read" (defArgs sBookRead) (defBody sBookRead) (defScope sBookRead) .none kVbRd dcbRd pmbRd anbRd cdbRd ctbRd), slbRd⟩) (cbRd : PySem.W.codeIn K cdbRd "Book.read" = true) (kbRd : PySem.W.keepIn K (.ref fbRd) = true)
    (apen : PySem.W.nsIn K mainGlobals "_law_pen" = some (some (.ref fpen)))
    (lpen : K.lookup fpen = some ⟨ocpen, odpen, .func (PySem.W.fnOf "_law_pen" "_law_pen" (defArgs sPen) (defBody sPen) (defScope sPen) .none kVpen dcpen pmpen anpen cdpen ctpen), slpen⟩) (cpen : PySem.W.codeIn K cdpen "_law_pen" = true) (kpen : PySem.W.keepIn K (.ref fpen) = true)
    (adraw : PySem.W.nsIn K mainGlobals "_law_draw" = some (some (.ref fdraw)))
    (ldraw : K.lookup fdraw = some ⟨ocdraw, oddraw, .func (PySem.W.fnOf "_law_draw" "_law_draw" (defArgs sDraw) (defBody sDraw) (defScope sDraw) .none kVdraw dcdraw pmdraw andraw cddraw ctdraw), sldraw⟩) (cdraw : PySem.W.codeIn K cddraw "_law_draw" = true) (kdraw : PySem.W.keepIn K (.ref fdraw) = true)
    (apick : PySem.W.nsIn K mainGlobals "_law_pick" = some (some (.ref fpick)))
    (lpick : K.lookup fpick = some ⟨ocpick, odpick, .func (PySem.W.fnOf "_law_pick" "_law_pick" (defArgs sPick) (defBody sPick) (defScope sPick) .none kVpick dcpick pmpick anpick cdpick ctpick), slpick⟩) (cpick : PySem.W.codeIn K cdpick "_law_pick" = true) (kpick : PySem.W.keepIn K (.ref fpick) = true)
    (awords : PySem.W.nsIn K mainGlobals "_law_words" = some (some (.ref fwords)))
    (lwords : K.lookup fwords = some ⟨ocwords, odwords, .func (PySem.W.fnOf "_law_words" "_law_words" (defArgs sWords) (defBody sWords) (defScope sWords) .none kVwords dcwords pmwords anwords cdwords ctwords), slwords⟩) (cwords : PySem.W.codeIn K cdwords "_law_words" = true) (kwords : PySem.W.keepIn K (.ref fwords) = true)
    (aany_value : PySem.W.nsIn K mainGlobals "_law_any_value" = some (some (.ref fany_value)))
    (lany_value : K.lookup fany_value = some ⟨ocany_value, odany_value, .func (PySem.W.fnOf "_law_any_value" "_law_any_value" (defArgs sAnyValue) (defBody sAnyValue) (defScope sAnyValue) .none kVany_value dcany_value pmany_value anany_value cdany_value ctany_value), slany_value⟩) (cany_value : PySem.W.codeIn K cdany_value "_law_any_value" = true) (kany_value : PySem.W.keepIn K (.ref fany_value) = true)
    (alint : PySem.W.nsIn K mainGlobals "_law_is_integer" = some (some (.ref flint)))
    (llint : K.lookup flint = some ⟨oclint, odlint, .func (PySem.W.fnOf "_law_is_integer" "_law_is_integer" (defArgs sLIsInt) (defBody sLIsInt) (defScope sLIsInt) .none kVlint dclint pmlint anlint cdlint ctlint), sllint⟩) (clint : PySem.W.codeIn K cdlint "_law_is_integer" = true) (klint : PySem.W.keepIn K (.ref flint) = true)
    (aentry : PySem.W.nsIn K mainGlobals "_law_entry" = some (some (.ref fentry)))
    (lentry : K.lookup fentry = some ⟨ocentry, odentry, .func (PySem.W.fnOf "_law_entry" "_law_entry" (defArgs sEntry) (defBody sEntry) (defScope sEntry) .none kVentry dcentry pmentry anentry cdentry ctentry), slentry⟩) (centry : PySem.W.codeIn K cdentry "_law_entry" = true) (kentry : PySem.W.keepIn K (.ref fentry) = true)
    (arule : PySem.W.nsIn K mainGlobals "_law_rule" = some (some (.ref frule)))
    (lrule : K.lookup frule = some ⟨ocrule, odrule, .func (PySem.W.fnOf "_law_rule" "_law_rule" (defArgs sRule) (defBody sRule) (defScope sRule) .none kVrule dcrule pmrule anrule cdrule ctrule), slrule⟩) (crule : PySem.W.codeIn K cdrule "_law_rule" = true) (krule : PySem.W.keepIn K (.ref frule) = true)
    (alrules : PySem.W.nsIn K mainGlobals "_law_rules" = some (some (.ref flrules)))
    (llrules : K.lookup flrules = some ⟨oclrules, odlrules, .func (PySem.W.fnOf "_law_rules" "_law_rules" (defArgs sLRules) (defBody sLRules) (defScope sLRules) .none kVlrules dclrules pmlrules anlrules cdlrules ctlrules), sllrules⟩) (clrules : PySem.W.codeIn K cdlrules "_law_rules" = true) (klrules : PySem.W.keepIn K (.ref flrules) = true)
    (amade : PySem.W.nsIn K mainGlobals "_law_made_rule" = some (some (.ref fmade)))
    (lmade : K.lookup fmade = some ⟨ocmade, odmade, .func (PySem.W.fnOf "_law_made_rule" "_law_made_rule" (defArgs sMade) (defBody sMade) (defScope sMade) .none kVmade dcmade pmmade anmade cdmade ctmade), slmade⟩) (cmade : PySem.W.codeIn K cdmade "_law_made_rule" = true) (kmade : PySem.W.keepIn K (.ref fmade) = true)
    (almade : PySem.W.nsIn K mainGlobals "_law_made" = some (some (.ref flmade)))
    (llmade : K.lookup flmade = some ⟨oclmade, odlmade, .func (PySem.W.fnOf "_law_made" "_law_made" (defArgs sLMade) (defBody sLMade) (defScope sLMade) .none kVlmade dclmade pmlmade anlmade cdlmade ctlmade), sllmade⟩) (clmade : PySem.W.codeIn K cdlmade "_law_made" = true) (klmade : PySem.W.keepIn K (.ref flmade) = true)
    (abent : PySem.W.nsIn K mainGlobals "_law_bent" = some (some (.ref fbent)))
    (lbent : K.lookup fbent = some ⟨ocbent, odbent, .func (PySem.W.fnOf "_law_bent" "_law_bent" (defArgs sBent) (defBody sBent) (defScope sBent) .none kVbent dcbent pmbent anbent cdbent ctbent), slbent⟩) (cbent : PySem.W.codeIn K cdbent "_law_bent" = true) (kbent : PySem.W.keepIn K (.ref fbent) = true)
    (atold : PySem.W.nsIn K mainGlobals "_law_told" = some (some (.ref ftold)))
    (ltold : K.lookup ftold = some ⟨octold, odtold, .func (PySem.W.fnOf "_law_told" "_law_told" (defArgs sTold) (defBody sTold) (defScope sTold) .none kVtold dctold pmtold antold cdtold cttold), sltold⟩) (ctold : PySem.W.codeIn K cdtold "_law_told" = true) (ktold : PySem.W.keepIn K (.ref ftold) = true)
    (adue : PySem.W.nsIn K mainGlobals "_law_due" = some (some (.ref fdue)))
    (ldue : K.lookup fdue = some ⟨ocdue, oddue, .func (PySem.W.fnOf "_law_due" "_law_due" (defArgs sDue) (defBody sDue) (defScope sDue) .none kVdue dcdue pmdue andue (.ref cI) ctdue), sldue⟩) (cdue : PySem.W.codeIn K (.ref cI) "_law_due" = true) (kdue : PySem.W.keepIn K (.ref fdue) = true)
    (alaw : PySem.W.nsIn K mainGlobals "law" = some (some (.ref flaw)))
    (llaw : K.lookup flaw = some ⟨oclaw, odlaw, .func (PySem.W.fnOf "law" "law" (defArgs sLaw) (defBody sLaw) (defScope sLaw) .none kVlaw dclaw pmlaw anlaw (.ref cL) ctlaw), sllaw⟩) (claw : PySem.W.codeIn K (.ref cL) "law" = true) (klaw : PySem.W.keepIn K (.ref flaw) = true)
    (lcL : K.lookup cL = some ⟨ecL, ddcL, .fields vscL, slcL⟩)
    (hPl : vscL[11]? = some (.ref Pl))
    (lPl : K.lookup Pl = none)
    (lcI : K.lookup cI = some ⟨ecI, ddcI, .fields vscI, slcI⟩)
    (hPi : vscI[11]? = some (.ref Pi))
    (lPi : K.lookup Pi = none)
    (nePP : Pl ≠ Pi) :
    ∃ (fd : FuncData) (ts : List (Addr × Addr)), (∀ p ∈ ts, ∃ nm ∈ (["law", "_law_due"] : List Str), TabOf K mg nm p.1 p.2) ∧ (∀ (s : Shared) (u : Value), BindsTo s fd ⟨[u], []⟩ [("_law_script", u)]) ∧
      ∀ base : Heap, K.In base → base.Ns mainGlobals mg → (∀ p ∈ ts, LamX.TabB base mg p.1 p.2) → FnQ l.prog w K mg base 15 fa fd ["_law_script"] (spOf K ts) := by
  have e := hfa.symm.trans (PySem.W.mg_of X G alaw)
  cases e
  have B : Blt mg := ⟨PySem.W.mg_none_of X G zisinstance, PySem.W.mg_none_of X G zstr, PySem.W.mg_none_of X G zint, PySem.W.mg_none_of X G zbool, PySem.W.mg_none_of X G zlist, PySem.W.mg_none_of X G ztuple, PySem.W.mg_none_of X G zlen, PySem.W.mg_none_of X G zall, PySem.W.mg_none_of X G zsorted, PySem.W.mg_none_of X G zset, PySem.W.mg_none_of X G zrange, PySem.W.mg_none_of X G zmin, PySem.W.mg_none_of X G zrepr, PySem.W.mg_none_of X G zzip⟩
  have meE : mg "enumerate" = none := PySem.W.mg_none_of X G zenumerate
  have Z : Holes K mg hd es nH := ⟨PySem.W.mg_of X G aH, lH, nH0, zH⟩
  have TDh : TxDict K w hd holeRows := ⟨nH0, es, nH, lH, litH, rowH⟩
  have T : RTxt K mg C := ⟨⟨pgC, hdC, poC, saC⟩, nC_state, nC_pattern, nC_goal, nC_is_exact, nC_words, nC_key, PySem.W.mg_of X G mC⟩
  have WC : AOwn K C := ⟨icC, pcC, clC, clg, clt, moC, kit_me⟩
  have TB : BTxt K mg CB := ⟨⟨pgCB, hdCB, poCB, saCB⟩, nCB_rules, nCB_reader, PySem.W.mg_of X G mCB⟩
  have WCB : AOwn K CB := ⟨icCB, pcCB, clCB, clg, clt, moCB, kit_me⟩
  have Fis_word := fun_mk (st := sIsWord) lis_word cis_word kis_word
  have bis_word := Fis_word.binds (ps := ["value"]) fun _ _ _ _ _ _ us hl => match us, hl with | [_], _ => rfl
  have Fis_integer := fun_mk (st := sIsInteger) lis_integer cis_integer kis_integer
  have bis_integer := Fis_integer.binds (ps := ["value"]) fun _ _ _ _ _ _ us hl => match us, hl with | [_], _ => rfl
  have Fis_hole := fun_mk (st := sIsHole) lis_hole cis_hole kis_hole
  have bis_hole := Fis_hole.binds (ps := ["value", "is_free"]) fun _ _ _ _ _ _ us hl => match us, hl with | [_, _], _ => rfl
  have Fare_entries := fun_mk (st := sAreEntries) lare_entries care_entries kare_entries
  have bare_entries := Fare_entries.binds (ps := ["value", "most", "is_free"]) fun _ _ _ _ _ _ us hl => match us, hl with | [_, _, _], _ => rfl
  have Fis_goal := fun_mk (st := sIsGoal) lis_goal cis_goal kis_goal
  have bis_goal := Fis_goal.binds (ps := ["value", "pattern", "is_free"]) fun _ _ _ _ _ _ us hl => match us, hl with | [_, _, _], _ => rfl
  have FErr := fun_mk (st := sErr) lErr cErr kErr
  have bErr := FErr.binds (ps := ["self", "field"]) fun _ _ _ _ _ _ us hl => match us, hl with | [_, _], _ => rfl
  have TErr : ErrC K mg "InvalidRule" nField CE fErr := ⟨⟨⟨nmErr, qErr, NNErr, bsErr, _, snErr, subErr, abErr, colErr, ddErr, m0Err, m1Err, m2Err, m3Err, m5Err, xErr, by decide +kernel⟩, saErr, exErr, tyErr, kcErr⟩, aErr, tErr, noErr, PySem.W.mg_of X G mCE⟩
  have FTx := fun_mk (st := sErrT) lTx cTx kTx
  have bTx := FTx.binds (ps := ["self", "index"]) fun _ _ _ _ _ _ us hl => match us, hl with | [_, _], _ => rfl
  have TTx : ErrC K mg "InvalidText" nIndex CT fTx := ⟨⟨⟨nmTx, qTx, NNTx, bsTx, _, snTx, subTx, abTx, colTx, ddTx, m0Tx, m1Tx, m2Tx, m3Tx, m5Tx, xTx, by decide +kernel⟩, saTx, exTx, tyTx, kcTx⟩, aTx, tTx, noTx, PySem.W.mg_of X G mCT⟩
  have FMn := fun_mk (st := sErrM) lMn cMn kMn
  have bMn := FMn.binds (ps := ["self", "limit"]) fun _ _ _ _ _ _ us hl => match us, hl with | [_, _], _ => rfl
  have TMn : ErrV K mg "TooMany" nLimit CM fMn := ⟨⟨⟨nmMn, qMn, NNMn, bsMn, snMn, subMn, abMn, colMn, ddMn, m0Mn, m1Mn, m2Mn, m3Mn, m5Mn, xMn⟩, saMn, exMn, tyMn, kcMn⟩, aMn, tMn, noMn, PySem.W.mg_of X G mCM⟩
  have Fcheck_parts := fun_mk (st := sCheckParts) lcheck_parts ccheck_parts kcheck_parts
  have bcheck_parts := Fcheck_parts.binds (ps := ["state", "pattern", "goal", "is_exact", "is_free"]) fun _ _ _ _ _ _ us hl => match us, hl with | [_, _, _, _, _], _ => rfl
  have Fcopied_goal := fun_mk (st := sCopiedGoal) lcopied_goal ccopied_goal kcopied_goal
  have bcopied_goal := Fcopied_goal.binds (ps := ["goal"]) fun _ _ _ _ _ _ us hl => match us, hl with | [_], _ => rfl
  have Fwords_named := fun_mk (st := sWordsNamed) lwords_named cwords_named kwords_named
  have bwords_named := Fwords_named.binds (ps := ["pattern", "goal"]) fun _ _ _ _ _ _ us hl => match us, hl with | [_, _], _ => rfl
  have FInit : FunD K "__init__" "Rule.__init__" (defArgs sRuleInit) (defBody sRuleInit) (defScope sRuleInit) [.non] [("is_exact", .bl false)] fInit (PySem.W.fnOf "__init__" "Rule.__init__" (defArgs sRuleInit) (defBody sRuleInit) (defScope sRuleInit) (.ref TD) (.ref KD) dcInit pmInit anInit cdInit ctInit) :=
    ⟨⟨ocInit, odInit, _, _, dcInit, pmInit, anInit, cdInit, ctInit, slInit, rfl, lInit, cInit, .inr ⟨by simp, TD, _, [Value.none], nT, rfl, lTD, rfl, .cons rfl .nil⟩, .inr ⟨KD, rfl, fun z hz => by
      cases List.mem_singleton.mp hz
      exact ⟨_, lKD, rfl⟩⟩⟩, kInit⟩
  obtain ⟨itsI, mvI, bnInit⟩ := FInit.kbinds (ps := ["self", "state", "pattern", "goal", "is_exact"]) 4 ["is_exact"] [] (fun us its mv ws => us ++ ws) (by simp) (by simp) (fun _ hz => nomatch hz) (fun h1 _ _ h4 => vals_app h1 h4)
    (fun TT DD doc pm an cdv ct us its mv ws h1 h2 h3 h4 => match us, h1, its, h2, mv, h3, ws, h4 with | [_, _, _, _], _, [_], _, [], _, [_], _ => ⟨_, rfl, rfl⟩)
  have MI : Mk K C fInit := ⟨mkC, bInit, iInit, kcC⟩
  have FrState := fun_mk (st := sRState) lrState crState krState
  have brState := FrState.binds (ps := ["self"]) fun _ _ _ _ _ _ us hl => match us, hl with | [_], _ => rfl
  have FrPattern := fun_mk (st := sRPattern) lrPattern crPattern krPattern
  have brPattern := FrPattern.binds (ps := ["self"]) fun _ _ _ _ _ _ us hl => match us, hl with | [_], _ => rfl
  have FrGoal := fun_mk (st := sRGoal) lrGoal crGoal krGoal
  have brGoal := FrGoal.binds (ps := ["self"]) fun _ _ _ _ _ _ us hl => match us, hl with | [_], _ => rfl
  have FrExact := fun_mk (st := sRExact) lrExact crExact krExact
  have brExact := FrExact.binds (ps := ["self"]) fun _ _ _ _ _ _ us hl => match us, hl with | [_], _ => rfl
  have FrWords := fun_mk (st := sRWords) lrWords crWords krWords
  have brWords := FrWords.binds (ps := ["self"]) fun _ _ _ _ _ _ us hl => match us, hl with | [_], _ => rfl
  have WR : ROwn K C := ⟨WC, kit_no (by intro z; cases (beq_iff_eq.mp z)) icC tyC ssC, kit_no (by intro z; cases (beq_iff_eq.mp z)) icC tyC stC⟩
  have FrEq := fun_mk (st := sREq) lrEq crEq krEq
  have brEq := FrEq.binds (ps := ["self", "other"]) fun _ _ _ _ _ _ us hl => match us, hl with | [_, _], _ => rfl
  have Fnumber_in := fun_mk (st := sNumberIn) lnumber_in cnumber_in knumber_in
  have bnumber_in := Fnumber_in.binds (ps := ["text", "digits"]) fun _ _ _ _ _ _ us hl => match us, hl with | [_, _], _ => rfl
  have Fhole_in := fun_mk (st := sHoleIn) lhole_in chole_in khole_in
  have bhole_in := Fhole_in.binds (ps := ["part", "is_free"]) fun _ _ _ _ _ _ us hl => match us, hl with | [_, _], _ => rfl
  have Fparsed_path := fun_mk (st := sParsedPath) lparsed_path cparsed_path kparsed_path
  have bparsed_path := Fparsed_path.binds (ps := ["text", "is_free"]) fun _ _ _ _ _ _ us hl => match us, hl with | [_, _], _ => rfl
  have Fparsed := fun_mk (st := sParsed) lparsed cparsed kparsed
  have bparsed := Fparsed.binds (ps := ["text", "is_free"]) fun _ _ _ _ _ _ us hl => match us, hl with | [_, _], _ => rfl
  have FRd := fun_mk (st := sRuleRead) lRd cRd kRd
  have bRd := FRd.binds (ps := ["cls", "text"]) fun _ _ _ _ _ _ us hl => match us, hl with | [_, _], _ => rfl
  have Fpath_text := fun_mk (st := sPathText) lpath_text cpath_text kpath_text
  have bpath_text := Fpath_text.binds (ps := ["entries", "is_exact"]) fun _ _ _ _ _ _ us hl => match us, hl with | [_, _], _ => rfl
  have Frule_text := fun_mk (st := sRuleText) lrule_text crule_text krule_text
  have brule_text := Frule_text.binds (ps := ["rule"]) fun _ _ _ _ _ _ us hl => match us, hl with | [_], _ => rfl
  have FrText := fun_mk (st := sRText) lrText crText krText
  have brText := FrText.binds (ps := ["self"]) fun _ _ _ _ _ _ us hl => match us, hl with | [_], _ => rfl
  have MrText : Meth K C "text" frText := ⟨arText, irText, krText⟩
  have Fstates_of := fun_mk (st := sStatesOf) lstates_of cstates_of kstates_of
  have bstates_of := Fstates_of.binds (ps := ["rules"]) fun _ _ _ _ _ _ us hl => match us, hl with | [_], _ => rfl
  have Fwords_of := fun_mk (st := sWordsOf) lwords_of cwords_of kwords_of
  have bwords_of := Fwords_of.binds (ps := ["rules"]) fun _ _ _ _ _ _ us hl => match us, hl with | [_], _ => rfl
  have Fchecked := fun_mk (st := sChecked) lchecked cchecked kchecked
  have bchecked := Fchecked.binds (ps := ["rules"]) fun _ _ _ _ _ _ us hl => match us, hl with | [_], _ => rfl
  have FBin := fun_mk (st := sBookInit) lBin cBin kBin
  have MB : Mk K CB fBin := ⟨mkCB, bBin, iBin, kcCB⟩
  have FbOf := fun_mk (st := sBookOf) lbOf cbOf kbOf
  have bbOf := FbOf.binds (ps := ["cls", "rules"]) fun _ _ _ _ _ _ us hl => match us, hl with | [_, _], _ => rfl
  have FbRules := fun_mk (st := sBookRules) lbRules cbRules kbRules
  have bbRules := FbRules.binds (ps := ["self"]) fun _ _ _ _ _ _ us hl => match us, hl with | [_], _ => rfl
  have FbText := fun_mk (st := sBookText) lbText cbText kbText
  have bbText := FbText.binds (ps := ["self"]) fun _ _ _ _ _ _ us hl => match us, hl with | [_], _ => rfl
  have MbText : Meth K CB "text" fbText := ⟨abText, ibText, kbText⟩
  have FbEq := fun_mk (st := sBookEq) lbEq cbEq kbEq
  have bbEq := FbEq.binds (ps := ["self", "other"]) fun _ _ _ _ _ _ us hl => match us, hl with | [_, _], _ => rfl
  have FbRd := fun_mk (st := sBookRead) lbRd cbRd kbRd
  have bbRd := FbRd.binds (ps := ["cls", "text"]) fun _ _ _ _ _ _ us hl => match us, hl with | [_, _], _ => rfl
  have Fpen := fun_mk (st := sPen) lpen cpen kpen
  have bpen := Fpen.binds (ps := ["_law_script"]) fun _ _ _ _ _ _ us hl => match us, hl with | [_], _ => rfl
  have Fdraw := fun_mk (st := sDraw) ldraw cdraw kdraw
  have bdraw := Fdraw.binds (ps := ["_law_pen_here", "_law_many"]) fun _ _ _ _ _ _ us hl => match us, hl with | [_, _], _ => rfl
  have Fpick := fun_mk (st := sPick) lpick cpick kpick
  have bpick := Fpick.binds (ps := ["_law_pen_here", "_law_items"]) fun _ _ _ _ _ _ us hl => match us, hl with | [_, _], _ => rfl
  have Fwords := fun_mk (st := sWords) lwords cwords kwords
  have bwords := Fwords.binds (ps := ["_law_pen_here", "_law_many"]) fun _ _ _ _ _ _ us hl => match us, hl with | [_, _], _ => rfl
  have Fany_value := fun_mk (st := sAnyValue) lany_value cany_value kany_value
  have bany_value := Fany_value.binds (ps := ["_law_pen_here"]) fun _ _ _ _ _ _ us hl => match us, hl with | [_], _ => rfl
  have Flint := fun_mk (st := sLIsInt) llint clint klint
  have blint := Flint.binds (ps := ["_law_value"]) fun _ _ _ _ _ _ us hl => match us, hl with | [_], _ => rfl
  have Fentry := fun_mk (st := sEntry) lentry centry kentry
  have bentry := Fentry.binds (ps := ["_law_pen_here", "_law_words_here"]) fun _ _ _ _ _ _ us hl => match us, hl with | [_, _], _ => rfl
  have Frule := fun_mk (st := sRule) lrule crule krule
  have brule := Frule.binds (ps := ["_law_pen_here", "_law_states", "_law_words_here"]) fun _ _ _ _ _ _ us hl => match us, hl with | [_, _, _], _ => rfl
  have Flrules := fun_mk (st := sLRules) llrules clrules klrules
  have blrules := Flrules.binds (ps := ["_law_pen_here", "_law_states", "_law_words_here", "_law_most"]) fun _ _ _ _ _ _ us hl => match us, hl with | [_, _, _, _], _ => rfl
  have Fmade := fun_mk (st := sMade) lmade cmade kmade
  have bmade := Fmade.binds (ps := ["_law_one"]) fun _ _ _ _ _ _ us hl => match us, hl with | [_], _ => rfl
  have Flmade := fun_mk (st := sLMade) llmade clmade klmade
  have blmade := Flmade.binds (ps := ["_law_rules_here"]) fun _ _ _ _ _ _ us hl => match us, hl with | [_], _ => rfl
  have Fbent := fun_mk (st := sBent) lbent cbent kbent
  have bbent := Fbent.binds (ps := ["_law_pen_here", "_law_lines"]) fun _ _ _ _ _ _ us hl => match us, hl with | [_, _], _ => rfl
  have Ftold := fun_mk (st := sTold) ltold ctold ktold
  have btold := Ftold.binds (ps := ["_law_call"]) fun _ _ _ _ _ _ us hl => match us, hl with | [_], _ => rfl
  have FF : TellAt K mg ftold octold odtold .none kVtold dctold pmtold antold cdtold cttold sltold := ⟨PySem.W.mg_of X G atold, ktold, ltold, ctold, btold⟩
  have EB : ErrsB K mg CE fErr CT fTx CM fMn := ⟨TErr, TTx, TMn, ⟨gaErr, ggErr, exErr, hdErr⟩, ⟨gaTx, ggTx, exTx, hdTx⟩, ⟨gaMn, ggMn, exMn, hdMn⟩, exm_own exTx hdTx tyTx sETx, PySem.W.exm_ref exTx hdTx tyTx sET, exm_own exErr hdErr tyErr sEErr, PySem.W.exm_ref exTx hdTx tyTx sMT, PySem.W.exm_ref exErr hdErr tyErr sME, exm_own exMn hdMn tyMn sEMn⟩
  have Fdue := fun_mk (st := sDue) ldue cdue kdue
  have bdue := Fdue.binds (ps := ["_law_text"]) fun _ _ _ _ _ _ us hl => match us, hl with | [_], _ => rfl
  have Flaw := fun_mk (st := sLaw) llaw claw klaw
  refine ⟨PySem.W.fnOf "law" "law" (defArgs sLaw) (defBody sLaw) (defScope sLaw) .none kVlaw dclaw pmlaw anlaw (.ref cL) ctlaw, [(cL, Pl), (cI, Pi)], fun p hp => ?_, fun s v => .of_eq rfl, fun base _ _ TT => ?_⟩
  · rcases List.mem_cons.mp hp with rfl | hp
    · exact ⟨"law", List.mem_cons_self .., _, _, _, _, _, _, _, hfa, llaw, rfl, rfl, lcL, hPl, lPl⟩
    · cases List.mem_singleton.mp hp
      exact ⟨"_law_due", List.mem_cons_of_mem _ (List.mem_singleton.mpr rfl), _, _, _, _, _, _, _, PySem.W.mg_of X G adue, ldue, rfl, rfl, lcI, hPi, lPi⟩
  have TBL := TT _ (List.mem_cons_self ..)
  have TBI := TT _ (List.mem_cons_of_mem _ (List.mem_singleton.mpr rfl))
  have gis_word := ok_isword (P := l.prog) (w := w) (base := base) Fis_word B (PySem.W.mg_of X G aLETTERS)
  let ois_word := own_mk gis_word (PySem.W.mg_of X G ais_word) kis_word bis_word
  have gis_wordS := ok_iswordS (P := l.prog) (w := w) (base := base) Fis_word B (PySem.W.mg_of X G aLETTERS)
  let ois_wordS := own_mk gis_wordS (PySem.W.mg_of X G ais_word) kis_word bis_word
  have gis_integer := ok_isint (P := l.prog) (w := w) (base := base) Fis_integer B
  let ois_integer := own_mk gis_integer (PySem.W.mg_of X G ais_integer) kis_integer bis_integer
  have gis_hole := ok_ishole Fis_hole B ois_integer Z
  let ois_hole := own_mk gis_hole (PySem.W.mg_of X G ais_hole) kis_hole bis_hole
  have gare_entries := ok_areent Fare_entries B ois_word ois_hole
  let oare_entries := own_mk gare_entries (PySem.W.mg_of X G aare_entries) kare_entries bare_entries
  have gis_goal := ok_isgoal Fis_goal B (PySem.W.mg_of X G aBEGINNING) ois_word oare_entries
  let ois_goal := own_mk gis_goal (PySem.W.mg_of X G ais_goal) kis_goal bis_goal
  have gErr := ok_err (P := l.prog) (w := w) (base := base) FErr TErr
  have gTx := ok_errt (P := l.prog) (w := w) (base := base) FTx TTx
  have gMn := ok_errm (P := l.prog) (w := w) (base := base) FMn TMn
  have gcheck_parts := ok_check Fcheck_parts B TErr gErr bErr (PySem.W.mg_of X G aPATTERN) ois_word oare_entries ois_goal
  let ocheck_parts := own_mk gcheck_parts (PySem.W.mg_of X G acheck_parts) kcheck_parts bcheck_parts
  have gcopied_goal := ok_copied (P := l.prog) (w := w) (base := base) Fcopied_goal B
  let ocopied_goal := own_mk gcopied_goal (PySem.W.mg_of X G acopied_goal) kcopied_goal bcopied_goal
  have gwords_named := ok_named Fwords_named B ois_word
  let owords_named := own_mk gwords_named (PySem.W.mg_of X G awords_named) kwords_named bwords_named
  have gInit := ok_rinit (fI := fInit) FInit T B ocheck_parts ocopied_goal owords_named
  have urState := ok_rstate (P := l.prog) (w := w) (base := base) FrState T
  let orState := prop_mk arState grState trState r_rState urState brState
  have urPattern := ok_rpattern (P := l.prog) (w := w) (base := base) FrPattern T
  let orPattern := prop_mk arPattern grPattern trPattern r_rPattern urPattern brPattern
  have urGoal := ok_rgoal (P := l.prog) (w := w) (base := base) FrGoal T
  let orGoal := prop_mk arGoal grGoal trGoal r_rGoal urGoal brGoal
  have urExact := ok_rexact (P := l.prog) (w := w) (base := base) FrExact T
  let orExact := prop_mk arExact grExact trExact r_rExact urExact brExact
  have urWords := ok_rwords (P := l.prog) (w := w) (base := base) FrWords T
  let orWords := prop_mk arWords grWords trWords r_rWords urWords brWords
  have grEq := ok_req (P := l.prog) (w := w) (base := base) FrEq T WR B
  have gnumber_in := ok_numin (mg := mg) (P := l.prog) (w := w) (base := base) Fnumber_in
  let onumber_in := own_mk gnumber_in (PySem.W.mg_of X G anumber_in) knumber_in bnumber_in
  have ghole_in := ok_holein (P := l.prog) (w := w) (base := base) Fhole_in onumber_in (PySem.W.mg_of X G aH) TDh (PySem.W.mg_of X G aHOLE_DIGITS)
  let ohole_in := own_mk ghole_in (PySem.W.mg_of X G ahole_in) khole_in bhole_in
  have gparsed_path := ok_parsedpath Fparsed_path B ois_wordS ohole_in
  let oparsed_path := own_mk gparsed_path (PySem.W.mg_of X G aparsed_path) kparsed_path bparsed_path
  have gparsed := ok_parsed Fparsed B ois_wordS oparsed_path
  let oparsed := own_mk gparsed (PySem.W.mg_of X G aparsed) kparsed bparsed
  have gRd := ok_ruleread FRd T oparsed TTx gTx bTx MI gInit bnInit
  have gpath_text := ok_pathtextX (mg := mg) (P := l.prog) (w := w) (base := base) Fpath_text
  let opath_text := own_mk gpath_text (PySem.W.mg_of X G apath_text) kpath_text bpath_text
  have grule_text := ok_ruletextX Frule_text T orState orPattern orGoal orExact opath_text
  let orule_text := own_mk grule_text (PySem.W.mg_of X G arule_text) krule_text brule_text
  have grText := ok_rtextX FrText orule_text
  have gstates_of := ok_statesof Fstates_of B T orState orGoal
  let ostates_of := own_mk gstates_of (PySem.W.mg_of X G astates_of) kstates_of bstates_of
  have gwords_of := ok_wordsof Fwords_of B T orWords
  let owords_of := own_mk gwords_of (PySem.W.mg_of X G awords_of) kwords_of bwords_of
  have gchecked := ok_checked Fchecked B meE T WC TMn gMn bMn (PySem.W.mg_of X G aRULES) (PySem.W.mg_of X G aSTATES) (PySem.W.mg_of X G aWORDS) ostates_of owords_of
  let ochecked := own_mk gchecked (PySem.W.mg_of X G achecked) kchecked bchecked
  have gBin := ok_binit FBin TB ochecked
  have gbOf := ok_bof FbOf MB gBin
  have ubRules := ok_brules (P := l.prog) (w := w) (base := base) FbRules TB
  let obRules := prop_mk abRules gbRules tbRules r_bRules ubRules bbRules
  have gbText := ok_btext FbText T TB MrText grText brText
  have gbEq := ok_beq FbEq TB WCB B grEq brEq arEq irEq
  have gbRd := ok_bread FbRd B meE T oparsed TTx gTx bTx ⟨rdC, gaC⟩ ⟨aRd, ⟨_, r_Rd⟩, fiRd⟩ gRd bRd MB gBin
  have gpen := ok_pen (P := l.prog) (w := w) (base := base) Fpen B.list_
  let open_ := own_mk gpen (PySem.W.mg_of X G apen) kpen bpen
  have gdraw := ok_draw (P := l.prog) (w := w) (base := base) Fdraw B.int_ B.len_
  let odraw := own_mk gdraw (PySem.W.mg_of X G adraw) kdraw bdraw
  have gpick := ok_pick Fpick gdraw ⟨PySem.W.mg_of X G adraw, kdraw⟩ bdraw B.len_
  let opick := own_mk gpick (PySem.W.mg_of X G apick) kpick bpick
  have gwords := ok_words Fwords gdraw ⟨PySem.W.mg_of X G adraw, kdraw⟩ bdraw gpick ⟨PySem.W.mg_of X G apick, kpick⟩ bpick B.len_ B.range_ B.int_
  let owords := own_mk gwords (PySem.W.mg_of X G awords) kwords bwords
  have gany_value := ok_any Fany_value opick
  let oany_value := own_mk gany_value (PySem.W.mg_of X G aany_value) kany_value bany_value
  have glint := ok_lint (P := l.prog) (w := w) (base := base) Flint B
  let olint := own_mk glint (PySem.W.mg_of X G alint) klint blint
  have gentry := ok_entryM Fentry odraw opick
  let oentry := own_mk gentry (PySem.W.mg_of X G aentry) kentry bentry
  have grule := ok_ruleM Frule B odraw opick oentry olint
  let orule := own_mk grule (PySem.W.mg_of X G arule) krule brule
  have glrules := ok_lrules Flrules B odraw orule
  let olrules := own_mk glrules (PySem.W.mg_of X G alrules) klrules blrules
  have gmade := ok_made Fmade T B MI gInit bnInit
  let omade := own_mk gmade (PySem.W.mg_of X G amade) kmade bmade
  have glmade := ok_lmade Flmade TB omade ⟨rdCB, gaCB⟩ ⟨abOf, ⟨_, r_bOf⟩, fibOf⟩ gbOf bbOf
  let olmade := own_mk glmade (PySem.W.mg_of X G almade) klmade blmade
  have gbent := ok_bent Fbent B odraw opick
  let obent := own_mk gbent (PySem.W.mg_of X G abent) kbent bbent
  have gI := ok_due (Pl := Pl) ⟨_, _, _, _, _, _, _, _, rfl, ldue, cdue⟩ B T TB EB obRules MrText grText brText ⟨rdC, gaC⟩ ⟨aRd, ⟨_, r_Rd⟩, fiRd⟩ gRd bRd ⟨rdCB, gaCB⟩ ⟨abOf, ⟨_, r_bOf⟩, fibOf⟩ gbOf bbOf FF TBI nePP
  exact q_law ⟨_, _, _, _, _, _, _, _, rfl, llaw, claw⟩ B T TB EB open_ owords olrules olmade obent oany_value obRules MrText grText brText MbText gbText bbText gbEq bbEq abEq ibEq neCB obCB ⟨rdCB, gaCB⟩ ⟨abRd, ⟨_, r_bRd⟩, fibRd⟩ gbRd bbRd MB gBin FF TBL nePP gI (PySem.W.mg_of X G adue) kdue bdue
theorem walk {l : PySem.W.OpenLaw} {q : Program} {loose : List Str} {XP : (Str → Option Value) → Heap → Prop} {YP : World → Heap → Prop} {d : DefRec} {K : Params → PySem.W.Frag} (hn : l.most = some 63) (hdf : d.params.defaults = []) (recs : ∀ nm ∈ (["law", "_law_due"] : List Str), ((PyProof.Rows.recsOf q).any fun e => e.name == nm) = true)
    (hY : ∀ (w : World) (h : Heap), YP w h → (K w.params).In h)
    (F : ∀ (w : World) (mg : Str → Option Value) (fa : Addr) (h : Heap), (K w.params).In h → h.Ns mainGlobals mg → mg d.name = some (.ref fa) →
      ∃ (fd : FuncData) (ts : List (Addr × Addr)), (∀ p ∈ ts, ∃ nm ∈ (["law", "_law_due"] : List Str), TabOf (K w.params) mg nm p.1 p.2) ∧ (∀ (s : Shared) (u : Value), BindsTo s fd ⟨[u], []⟩ [("_law_script", u)]) ∧
        ∀ base : Heap, (K w.params).In base → base.Ns mainGlobals mg → (∀ p ∈ ts, LamX.TabB base mg p.1 p.2) → FnQ l.prog w (K w.params) mg base 15 fa fd ["_law_script"] (spOf (K w.params) ts)) :
    PySem.W.WalkO q loose XP YP l.row.toRowW d [] (fun f vs => PySem.call f vs) :=
  walk_tabs (most := 63) (n := 15) (x := "_law_script") (sp := fun ts w => spOf (K w.params) ts) hn (by decide) hdf ⟨rfl, by decide, by decide⟩ recs hY F fun w H a ts ns hl hS hP => by
    match ts, hP with
    | [p, q], hP => exact ⟨a, ns, rfl, hS, hl, hP _ (List.mem_cons_self ..), hP _ (List.mem_cons_of_mem _ (List.mem_singleton.mpr rfl)), fun _ => rfl⟩
    | [], _ => exact trivial
    | [_], _ => exact trivial
    | _ :: _ :: _ :: _, _ => exact trivial
end RL

/-! Names that are taken: the head makes no twins of its largest trees then (its compiled file stays below the size that is kept). -/
def PySem.W.Fast.tw2550708431953080016 : Unit := ()
def PySem.W.Fast.tw868277338385176234 : Unit := ()
def PySem.W.Fast.tw10616333170995985507 : Unit := ()
def PySem.W.Fast.tw10671027630649134253 : Unit := ()
def PySem.W.Fast.tw18082261487409620097 : Unit := ()

-- NOMAP
open PySem PySem.W PyProof.Rows
set_option maxRecDepth 100000 in
set_option maxHeartbeats 0 in
theorem PySem.Challenge.cw_sentonward_k11_whole_book_texts_holds : PySem.Challenge.rw_sentonward_k11_whole_book_texts.Holds := by
  w_on; o_law; k_head; (case hw => w_witness2)
  k_fill
  refine RL.walk (l := PySem.Challenge.rw_sentonward_k11_whole_book_texts) rfl rfl (by decide +kernel) (fun w h Y => PySem.W.km_in_of Y) ?F
  case F =>
    intro w mg fa h KX G hmg
    refine' RL.all_mk KX G hmg ?zisinstance ?zstr ?zint ?zbool ?zlist ?ztuple ?zlen ?zall ?zsorted ?zset ?zrange ?zmin ?zrepr ?zzip ?zenumerate ?aLETTERS ?aPATTERN ?aBEGINNING ?aHOLE_DIGITS ?aRULES ?aSTATES ?aWORDS ?aH ?lH ?nH0 ?zH ?litH ?rowH ?mC ?pgC ?hdC ?poC ?saC ?mkC ?kcC ?nC_state ?nC_pattern ?nC_goal ?nC_is_exact ?nC_words ?nC_key ?icC ?pcC ?clC ?moC ?clg ?clt ?mCB ?pgCB ?hdCB ?poCB ?saCB ?mkCB ?kcCB ?nCB_rules ?nCB_reader ?icCB ?pcCB ?clCB ?moCB ?ais_word ?lis_word ?cis_word ?kis_word ?ais_integer ?lis_integer ?cis_integer ?kis_integer ?ais_hole ?lis_hole ?cis_hole ?kis_hole ?aare_entries ?lare_entries ?care_entries ?kare_entries ?ais_goal ?lis_goal ?cis_goal ?kis_goal ?mCE ?xErr ?saErr ?exErr ?tyErr ?kcErr ?aErr ?tErr ?lErr ?cErr ?kErr ?noErr ?gaErr ?ggErr ?hdErr ?clErr ?moErr ?sVErr ?sEErr ?mCT ?xTx ?saTx ?exTx ?tyTx ?kcTx ?aTx ?tTx ?lTx ?cTx ?kTx ?noTx ?gaTx ?ggTx ?hdTx ?clTx ?moTx ?sVTx ?sETx ?mCM ?xMn ?saMn ?exMn ?tyMn ?kcMn ?aMn ?tMn ?lMn ?cMn ?kMn ?noMn ?gaMn ?ggMn ?hdMn ?clMn ?moMn ?sVMn ?sEMn ?sET ?sMT ?sME ?acheck_parts ?lcheck_parts ?ccheck_parts ?kcheck_parts ?acopied_goal ?lcopied_goal ?ccopied_goal ?kcopied_goal ?awords_named ?lwords_named ?cwords_named ?kwords_named ?bInit ?iInit ?lInit ?cInit ?kInit ?lTD ?lKD ?arState ?grState ?trState ?r_rState ?lrState ?crState ?krState ?arPattern ?grPattern ?trPattern ?r_rPattern ?lrPattern ?crPattern ?krPattern ?arGoal ?grGoal ?trGoal ?r_rGoal ?lrGoal ?crGoal ?krGoal ?arExact ?grExact ?trExact ?r_rExact ?lrExact ?crExact ?krExact ?arWords ?grWords ?trWords ?r_rWords ?lrWords ?crWords ?krWords ?tyC ?ssC ?stC ?arEq ?irEq ?lrEq ?crEq ?krEq ?anumber_in ?lnumber_in ?cnumber_in ?knumber_in ?ahole_in ?lhole_in ?chole_in ?khole_in ?aparsed_path ?lparsed_path ?cparsed_path ?kparsed_path ?aparsed ?lparsed ?cparsed ?kparsed ?rdC ?gaC ?rdCB ?gaCB ?aRd ?r_Rd ?fiRd ?lRd ?cRd ?kRd ?apath_text ?lpath_text ?cpath_text ?kpath_text ?arule_text ?lrule_text ?crule_text ?krule_text ?arText ?irText ?lrText ?crText ?krText ?astates_of ?lstates_of ?cstates_of ?kstates_of ?awords_of ?lwords_of ?cwords_of ?kwords_of ?achecked ?lchecked ?cchecked ?kchecked ?bBin ?iBin ?lBin ?cBin ?kBin ?abOf ?r_bOf ?fibOf ?lbOf ?cbOf ?kbOf ?abRules ?gbRules ?tbRules ?r_bRules ?lbRules ?cbRules ?kbRules ?abText ?ibText ?lbText ?cbText ?kbText ?abEq ?ibEq ?lbEq ?cbEq ?kbEq ?neCB ?obCB ?abRd ?r_bRd ?fibRd ?lbRd ?cbRd ?kbRd ?apen ?lpen ?cpen ?kpen ?adraw ?ldraw ?cdraw ?kdraw ?apick ?lpick ?cpick ?kpick ?awords ?lwords ?cwords ?kwords ?aany_value ?lany_value ?cany_value ?kany_value ?alint ?llint ?clint ?klint ?aentry ?lentry ?centry ?kentry ?arule ?lrule ?crule ?krule ?alrules ?llrules ?clrules ?klrules ?amade ?lmade ?cmade ?kmade ?almade ?llmade ?clmade ?klmade ?abent ?lbent ?cbent ?kbent ?atold ?ltold ?ctold ?ktold ?adue ?ldue ?cdue ?kdue ?alaw ?llaw ?claw ?klaw ?lcL ?hPl ?lPl ?lcI ?hPi ?lPi ?nePP
    (case zisinstance => k_is)
    (case zstr => k_is)
    (case zint => k_is)
    (case zbool => k_is)
    (case zlist => k_is)
    (case ztuple => k_is)
    (case zlen => k_is)
    (case zall => k_is)
    (case zsorted => k_is)
    (case zset => k_is)
    (case zrange => k_is)
    (case zmin => k_is)
    (case zrepr => k_is)
    (case zzip => k_is)
    (case zenumerate => k_is)
    (case aLETTERS => k_is)
    (case aPATTERN => k_is)
    (case aBEGINNING => k_is)
    (case aHOLE_DIGITS => k_is)
    (case aRULES => k_is)
    (case aSTATES => k_is)
    (case aWORDS => k_is)
    (case aH => k_is)
    (case lH => k_is)
    (case nH0 => first | rfl | decide +kernel)
    (case zH => first | rfl | decide +kernel)
    (case litH => exact ⟨⟨_, _, rfl, rfl⟩, ⟨_, _, rfl, rfl⟩, True.intro⟩)
    (case rowH => exact ⟨⟨_, rfl⟩, ⟨_, rfl⟩, ⟨_, rfl⟩, ⟨_, rfl⟩, True.intro⟩)
    (case mC => k_is)
    (case pgC => k_is)
    (case hdC => k_is)
    (case poC => k_is)
    (case saC => k_is)
    (case mkC => k_is)
    (case kcC => k_is)
    (case nC_state => k_is)
    (case nC_pattern => k_is)
    (case nC_goal => k_is)
    (case nC_is_exact => k_is)
    (case nC_words => k_is)
    (case nC_key => k_is)
    (case icC => k_is)
    (case pcC => k_is)
    (case clC => k_is)
    (case moC => k_is)
    (case clg => k_is)
    (case clt => k_is)
    (case mCB => k_is)
    (case pgCB => k_is)
    (case hdCB => k_is)
    (case poCB => k_is)
    (case saCB => k_is)
    (case mkCB => k_is)
    (case kcCB => k_is)
    (case nCB_rules => k_is)
    (case nCB_reader => k_is)
    (case icCB => k_is)
    (case pcCB => k_is)
    (case clCB => k_is)
    (case moCB => k_is)
    (case ais_word => k_is)
    (case lis_word => k_is)
    (case cis_word => k_is)
    (case kis_word => k_is)
    (case ais_integer => k_is)
    (case lis_integer => k_is)
    (case cis_integer => k_is)
    (case kis_integer => k_is)
    (case ais_hole => k_is)
    (case lis_hole => k_is)
    (case cis_hole => k_is)
    (case kis_hole => k_is)
    (case aare_entries => k_is)
    (case lare_entries => k_is)
    (case care_entries => k_is)
    (case kare_entries => k_is)
    (case ais_goal => k_is)
    (case lis_goal => k_is)
    (case cis_goal => k_is)
    (case kis_goal => k_is)
    (case mCE => k_is)
    (case xErr => k_is)
    (case saErr => k_is)
    (case exErr => k_is)
    (case tyErr => k_is)
    (case kcErr => k_is)
    (case aErr => k_is)
    (case tErr => k_is)
    (case lErr => k_is)
    (case cErr => k_is)
    (case kErr => k_is)
    (case noErr => k_is)
    (case gaErr => k_is)
    (case ggErr => k_is)
    (case hdErr => k_is)
    (case clErr => k_is)
    (case moErr => k_is)
    (case sVErr => k_is)
    (case sEErr => k_is)
    (case mCT => k_is)
    (case xTx => k_is)
    (case saTx => k_is)
    (case exTx => k_is)
    (case tyTx => k_is)
    (case kcTx => k_is)
    (case aTx => k_is)
    (case tTx => k_is)
    (case lTx => k_is)
    (case cTx => k_is)
    (case kTx => k_is)
    (case noTx => k_is)
    (case gaTx => k_is)
    (case ggTx => k_is)
    (case hdTx => k_is)
    (case clTx => k_is)
    (case moTx => k_is)
    (case sVTx => k_is)
    (case sETx => k_is)
    (case mCM => k_is)
    (case xMn => k_is)
    (case saMn => k_is)
    (case exMn => k_is)
    (case tyMn => k_is)
    (case kcMn => k_is)
    (case aMn => k_is)
    (case tMn => k_is)
    (case lMn => k_is)
    (case cMn => k_is)
    (case kMn => k_is)
    (case noMn => k_is)
    (case gaMn => k_is)
    (case ggMn => k_is)
    (case hdMn => k_is)
    (case clMn => k_is)
    (case moMn => k_is)
    (case sVMn => k_is)
    (case sEMn => k_is)
    (case sET => k_is)
    (case sMT => k_is)
    (case sME => k_is)
    (case acheck_parts => k_is)
    (case lcheck_parts => k_is)
    (case ccheck_parts => k_is)
    (case kcheck_parts => k_is)
    (case acopied_goal => k_is)
    (case lcopied_goal => k_is)
    (case ccopied_goal => k_is)
    (case kcopied_goal => k_is)
    (case awords_named => k_is)
    (case lwords_named => k_is)
    (case cwords_named => k_is)
    (case kwords_named => k_is)
    (case bInit => k_is)
    (case iInit => k_is)
    (case lInit => k_is)
    (case cInit => k_is)
    (case kInit => k_is)
    (case lTD => k_is)
    (case lKD => k_is)
    (case arState => k_is)
    (case grState => k_is)
    (case trState => k_is)
    (case r_rState => k_is)
    (case lrState => k_is)
    (case crState => k_is)
    (case krState => k_is)
    (case arPattern => k_is)
    (case grPattern => k_is)
    (case trPattern => k_is)
    (case r_rPattern => k_is)
    (case lrPattern => k_is)
    (case crPattern => k_is)
    (case krPattern => k_is)
    (case arGoal => k_is)
    (case grGoal => k_is)
    (case trGoal => k_is)
    (case r_rGoal => k_is)
    (case lrGoal => k_is)
    (case crGoal => k_is)
    (case krGoal => k_is)
    (case arExact => k_is)
    (case grExact => k_is)
    (case trExact => k_is)
    (case r_rExact => k_is)
    (case lrExact => k_is)
    (case crExact => k_is)
    (case krExact => k_is)
    (case arWords => k_is)
    (case grWords => k_is)
    (case trWords => k_is)
    (case r_rWords => k_is)
    (case lrWords => k_is)
    (case crWords => k_is)
    (case krWords => k_is)
    (case tyC => k_is)
    (case ssC => k_is)
    (case stC => k_is)
    (case arEq => k_is)
    (case irEq => k_is)
    (case lrEq => k_is)
    (case crEq => k_is)
    (case krEq => k_is)
    (case anumber_in => k_is)
    (case lnumber_in => k_is)
    (case cnumber_in => k_is)
    (case knumber_in => k_is)
    (case ahole_in => k_is)
    (case lhole_in => k_is)
    (case chole_in => k_is)
    (case khole_in => k_is)
    (case aparsed_path => k_is)
    (case lparsed_path => k_is)
    (case cparsed_path => k_is)
    (case kparsed_path => k_is)
    (case aparsed => k_is)
    (case lparsed => k_is)
    (case cparsed => k_is)
    (case kparsed => k_is)
    (case rdC => k_is)
    (case gaC => k_is)
    (case rdCB => k_is)
    (case gaCB => k_is)
    (case aRd => k_is)
    (case r_Rd => k_is)
    (case fiRd => k_is)
    (case lRd => k_is)
    (case cRd => k_is)
    (case kRd => k_is)
    (case apath_text => k_is)
    (case lpath_text => k_is)
    (case cpath_text => k_is)
    (case kpath_text => k_is)
    (case arule_text => k_is)
    (case lrule_text => k_is)
    (case crule_text => k_is)
    (case krule_text => k_is)
    (case arText => k_is)
    (case irText => k_is)
    (case lrText => k_is)
    (case crText => k_is)
    (case krText => k_is)
    (case astates_of => k_is)
    (case lstates_of => k_is)
    (case cstates_of => k_is)
    (case kstates_of => k_is)
    (case awords_of => k_is)
    (case lwords_of => k_is)
    (case cwords_of => k_is)
    (case kwords_of => k_is)
    (case achecked => k_is)
    (case lchecked => k_is)
    (case cchecked => k_is)
    (case kchecked => k_is)
    (case bBin => k_is)
    (case iBin => k_is)
    (case lBin => k_is)
    (case cBin => k_is)
    (case kBin => k_is)
    (case abOf => k_is)
    (case r_bOf => k_is)
    (case fibOf => k_is)
    (case lbOf => k_is)
    (case cbOf => k_is)
    (case kbOf => k_is)
    (case abRules => k_is)
    (case gbRules => k_is)
    (case tbRules => k_is)
    (case r_bRules => k_is)
    (case lbRules => k_is)
    (case cbRules => k_is)
    (case kbRules => k_is)
    (case abText => k_is)
    (case ibText => k_is)
    (case lbText => k_is)
    (case cbText => k_is)
    (case kbText => k_is)
    (case abEq => k_is)
    (case ibEq => k_is)
    (case lbEq => k_is)
    (case cbEq => k_is)
    (case kbEq => k_is)
    (case neCB => k_is)
    (case obCB => k_is)
    (case abRd => k_is)
    (case r_bRd => k_is)
    (case fibRd => k_is)
    (case lbRd => k_is)
    (case cbRd => k_is)
    (case kbRd => k_is)
    (case apen => k_is)
    (case lpen => k_is)
    (case cpen => k_is)
    (case kpen => k_is)
    (case adraw => k_is)
    (case ldraw => k_is)
    (case cdraw => k_is)
    (case kdraw => k_is)
    (case apick => k_is)
    (case lpick => k_is)
    (case cpick => k_is)
    (case kpick => k_is)
    (case awords => k_is)
    (case lwords => k_is)
    (case cwords => k_is)
    (case kwords => k_is)
    (case aany_value => k_is)
    (case lany_value => k_is)
    (case cany_value => k_is)
    (case kany_value => k_is)
    (case alint => k_is)
    (case llint => k_is)
    (case clint => k_is)
    (case klint => k_is)
    (case aentry => k_is)
    (case lentry => k_is)
    (case centry => k_is)
    (case kentry => k_is)
    (case arule => k_is)
    (case lrule => k_is)
    (case crule => k_is)
    (case krule => k_is)
    (case alrules => k_is)
    (case llrules => k_is)
    (case clrules => k_is)
    (case klrules => k_is)
    (case amade => k_is)
    (case lmade => k_is)
    (case cmade => k_is)
    (case kmade => k_is)
    (case almade => k_is)
    (case llmade => k_is)
    (case clmade => k_is)
    (case klmade => k_is)
    (case abent => k_is)
    (case lbent => k_is)
    (case cbent => k_is)
    (case kbent => k_is)
    (case atold => k_is)
    (case ltold => k_is)
    (case ctold => k_is)
    (case ktold => k_is)
    (case adue => k_is)
    (case ldue => k_is)
    (case cdue => k_is)
    (case kdue => k_is)
    (case alaw => k_is)
    (case llaw => k_is)
    (case claw => k_is)
    (case klaw => k_is)
    (case lcL => k_is)
    (case hPl => first | rfl | decide +kernel | k_is)
    (case lPl => first | rfl | decide +kernel | k_is)
    (case lcI => k_is)
    (case hPi => first | rfl | decide +kernel | k_is)
    (case lPi => first | rfl | decide +kernel | k_is)
    (case nePP => first | decide | decide +kernel)

