import PyProof.Rows.All
import Wide.All
import OpenK.AllK
import Wide.FinOn
import Open.SpecLaws
import KE.OsHead
import KE.OsGo
import HandS.ForSpec
import PyFlatLaws
import HandS.Comp
import HandS.Iter
import HandS.Walk
import HandS.Flow
import KE.GoesEnumKw
import PySem.Challenge.RW_pickedletters_s01_answers
set_option linter.unusedVariables false
/-! The mathematics: readers, what is told, what is skipped. -/
namespace Pk
open Ha01
def chain (ts : List Term) : Term := ts.foldr .more .none_
def pchain (ps : List Pat) : Pat := ps.foldr .more .none_
def ptold : Pat → List Nat
  | .num n => [0, n]
  | .word w => [1, w]
  | .token k => [2, k]
  | .any => [4]
  | .name v => [5, v]
  | .row r => 3 :: psize r :: ptold r
  | .none_ => []
  | .more a r => ptold a ++ ptold r
where psize : Pat → Nat
  | .more _ r => psize r + 1
  | _ => 0
theorem size_chain : ∀ ts : List Term, size (chain ts) = ts.length
  | [] => rfl
  | t :: ts => by
    show size (chain ts) + 1 = ts.length + 1
    rw [size_chain ts]
theorem psize_chain : ∀ ts : List Pat, ptold.psize (pchain ts) = ts.length
  | [] => rfl
  | t :: ts => by
    show ptold.psize (pchain ts) + 1 = ts.length + 1
    rw [psize_chain ts]
theorem told_chain : ∀ ts : List Term, told (chain ts) = ts.flatMap told
  | [] => rfl
  | t :: ts => by
    show told t ++ told (chain ts) = _
    rw [told_chain ts, List.flatMap_cons]
theorem ptold_chain : ∀ ts : List Pat, ptold (pchain ts) = ts.flatMap ptold
  | [] => rfl
  | t :: ts => by
    show ptold t ++ ptold (pchain ts) = _
    rw [ptold_chain ts, List.flatMap_cons]
theorem told_row (ts : List Term) : told (.row (chain ts)) = 3 :: ts.length :: ts.flatMap told := by
  show 3 :: size (chain ts) :: told (chain ts) = _
  rw [size_chain, told_chain]
theorem ptold_row (ts : List Pat) : ptold (.row (pchain ts)) = 3 :: ts.length :: ts.flatMap ptold := by
  show 3 :: ptold.psize (pchain ts) :: ptold (pchain ts) = _
  rw [psize_chain, ptold_chain]
/-- so many things, one behind another -/
def many {α : Type} (g : List Nat → Option (α × List Nat)) : Nat → List Nat → Option (List α × List Nat)
  | 0, l => some ([], l)
  | n + 1, l => (g l).bind fun z => (many g n z.2).map fun w => (z.1 :: w.1, w.2)
theorem fold_none {α : Type} (g : List Nat → Option (α × List Nat)) : ∀ L : List Nat, L.foldl (fun (x : Option (List α × List Nat)) _ => x.bind fun y => (g y.2).map fun z => (z.1 :: y.1, z.2)) none = none
  | [] => rfl
  | _ :: L => fold_none g L
theorem fold_many {α : Type} (g : List Nat → Option (α × List Nat)) : ∀ (L : List Nat) (acc : List α) (r : List Nat),
    L.foldl (fun (x : Option (List α × List Nat)) _ => x.bind fun y => (g y.2).map fun z => (z.1 :: y.1, z.2)) (some (acc, r)) = (many g L.length r).map fun w => (w.1.reverse ++ acc, w.2)
  | [], acc, r => by simp [many]
  | _ :: L, acc, r => by
    rw [List.foldl_cons]
    show List.foldl _ ((g r).map fun z => (z.1 :: acc, z.2)) L = _
    show _ = ((g r).bind fun z => (many g L.length z.2).map fun w => (z.1 :: w.1, w.2)).map _
    cases e : g r with
    | none => exact fold_none g L
    | some z =>
      show List.foldl _ (some (z.1 :: acc, z.2)) L = ((many g L.length z.2).map fun w => (z.1 :: w.1, w.2)).map _
      rw [fold_many g L (z.1 :: acc) z.2]
      cases many g L.length z.2 with
      | none => rfl
      | some w => simp
theorem range_many {α : Type} (g : List Nat → Option (α × List Nat)) (n : Nat) (r : List Nat) :
    (List.range n).foldl (fun (x : Option (List α × List Nat)) _ => x.bind fun y => (g y.2).map fun z => (z.1 :: y.1, z.2)) (some ([], r)) = (many g n r).map fun w => (w.1.reverse, w.2) := by
  rw [fold_many, List.length_range]
  simp
theorem rt_row (f n : Nat) (r : List Nat) : readTerm (f + 1) (3 :: n :: r) = if 8 < n then none else (many (readTerm f) n r).map fun w => (.row (chain w.1), w.2) := by
  rw [readTerm]
  by_cases h : 8 < n
  · rw [if_pos h, if_pos h]
  · rw [if_neg h, if_neg h, range_many]
    cases many (readTerm f) n r with
    | none => rfl
    | some w =>
      show some (Term.row (List.foldl _ .none_ w.1.reverse), w.2) = some (Term.row (chain w.1), w.2)
      rw [List.foldl_reverse]
      rfl
theorem rp_row (f n : Nat) (r : List Nat) : readPat (f + 1) (3 :: n :: r) = if 8 < n then none else (many (readPat f) n r).map fun w => (.row (pchain w.1), w.2) := by
  rw [readPat]
  by_cases h : 8 < n
  · rw [if_pos h, if_pos h]
  · rw [if_neg h, if_neg h, range_many]
    cases many (readPat f) n r with
    | none => rfl
    | some w =>
      show some (Pat.row (List.foldl _ .none_ w.1.reverse), w.2) = some (Pat.row (pchain w.1), w.2)
      rw [List.foldl_reverse]
      rfl
/-- a whole term, so deep at the most -/
inductive GoodT : Nat → Term → Prop
  | num {f n : Nat} (h : n ≤ 1000000) : GoodT (f + 1) (.num n)
  | word {f n : Nat} (h : n ≤ 99) : GoodT (f + 1) (.word n)
  | token {f n : Nat} (h : n ≤ 1000) : GoodT (f + 1) (.token n)
  | row {f : Nat} {ts : List Term} (h : ts.length ≤ 8) (hs : ∀ t ∈ ts, GoodT f t) : GoodT (f + 1) (.row (chain ts))
inductive GoodP : Nat → Pat → Prop
  | num {f n : Nat} (h : n ≤ 1000000) : GoodP (f + 1) (.num n)
  | word {f n : Nat} (h : n ≤ 99) : GoodP (f + 1) (.word n)
  | token {f n : Nat} (h : n ≤ 1000) : GoodP (f + 1) (.token n)
  | any {f : Nat} : GoodP (f + 1) .any
  | name {f n : Nat} (h : n ≤ 9) : GoodP (f + 1) (.name n)
  | row {f : Nat} {ts : List Pat} (h : ts.length ≤ 8) (hs : ∀ t ∈ ts, GoodP f t) : GoodP (f + 1) (.row (pchain ts))
theorem GoodT.succ {f : Nat} {t : Term} (h : GoodT f t) : GoodT (f + 1) t := by
  induction h with
  | num h => exact .num h
  | word h => exact .word h
  | token h => exact .token h
  | row h _ ih => exact .row h ih
theorem GoodT.mono {f g : Nat} {t : Term} (h : GoodT f t) (hg : f ≤ g) : GoodT g t := by
  induction hg with
  | refl => exact h
  | step _ ih => exact ih.succ
/-! reading: what is read is what is told -/
theorem many_sound {α : Type} {g : List Nat → Option (α × List Nat)} {td : α → List Nat} {G : α → Prop} (hg : ∀ l t r, g l = some (t, r) → G t ∧ l = td t ++ r) :
    ∀ (n : Nat) (l : List Nat) (ts : List α) (r : List Nat), many g n l = some (ts, r) → ts.length = n ∧ (∀ t ∈ ts, G t) ∧ l = ts.flatMap td ++ r
  | 0, l, ts, r, h => by
    have e : (([] : List α), l) = (ts, r) := Option.some.inj h
    cases e
    exact ⟨rfl, fun t h => (by cases h), rfl⟩
  | n + 1, l, ts, r, h => by
    have h' : ((g l).bind fun z => (many g n z.2).map fun w => (z.1 :: w.1, w.2)) = some (ts, r) := h
    cases e : g l with
    | none =>
      rw [e] at h'
      cases h'
    | some z =>
      rw [e] at h'
      have h2 : ((many g n z.2).map fun w => (z.1 :: w.1, w.2)) = some (ts, r) := h'
      cases e2 : many g n z.2 with
      | none =>
        rw [e2] at h2
        cases h2
      | some w =>
        rw [e2] at h2
        have e3 : (z.1 :: w.1, w.2) = (ts, r) := Option.some.inj h2
        cases e3
        obtain ⟨a1, a2, a3⟩ := many_sound hg n z.2 w.1 w.2 e2
        obtain ⟨b1, b2⟩ := hg l z.1 z.2 e
        refine ⟨by simp [a1], fun t ht => ?_, by rw [b2, a3]; simp⟩
        cases ht with
        | head => exact b1
        | tail _ ht => exact a2 t ht
theorem many_full {α : Type} {g : List Nat → Option (α × List Nat)} {td : α → List Nat} : ∀ (ts : List α) (r : List Nat), (∀ t ∈ ts, ∀ r, g (td t ++ r) = some (t, r)) → many g ts.length (ts.flatMap td ++ r) = some (ts, r)
  | [], r, _ => rfl
  | t :: ts, r, h => by
    show (((g _).bind fun z => (many g ts.length z.2).map fun w => (z.1 :: w.1, w.2)) : Option (List α × List Nat)) = _
    rw [List.flatMap_cons, List.append_assoc, h t (List.mem_cons_self ..)]
    show ((many g ts.length (ts.flatMap td ++ r)).map fun w => (t :: w.1, w.2)) = _
    rw [many_full ts r fun t' ht => h t' (List.mem_cons_of_mem _ ht)]
    rfl
theorem rt_sound : ∀ (f : Nat) (l : List Nat) (t : Term) (r : List Nat), readTerm f l = some (t, r) → GoodT f t ∧ l = told t ++ r
  | 0, l, t, r, h => by rw [readTerm] at h; cases h
  | f + 1, l, t, r, h => by
    match l, h with
    | 0 :: n :: r', h =>
      rw [readTerm] at h
      split at h
      · rename_i hn
        cases h
        exact ⟨.num hn, rfl⟩
      · cases h
    | 1 :: n :: r', h =>
      rw [readTerm] at h
      split at h
      · rename_i hn
        cases h
        exact ⟨.word hn, rfl⟩
      · cases h
    | 2 :: n :: r', h =>
      rw [readTerm] at h
      split at h
      · rename_i hn
        cases h
        exact ⟨.token hn, rfl⟩
      · cases h
    | 3 :: n :: r', h =>
      rw [rt_row] at h
      split at h
      · cases h
      · rename_i hn
        cases e : many (readTerm f) n r' with
        | none =>
          rw [e] at h
          cases h
        | some w =>
          rw [e] at h
          cases h
          obtain ⟨a1, a2, a3⟩ := many_sound (td := told) (G := GoodT f) (rt_sound f) n r' w.1 w.2 e
          refine ⟨.row (by omega) a2, ?_⟩
          rw [told_row, a1, a3]
          rfl
    | [], h => simp [readTerm] at h
    | [_], h => 
      rename_i a
      match a, h with
      | 0, h => simp [readTerm] at h
      | 1, h => simp [readTerm] at h
      | 2, h => simp [readTerm] at h
      | 3, h => simp [readTerm] at h
      | _ + 4, h => simp [readTerm] at h
    | (_ + 4) :: _ :: _, h => simp [readTerm] at h
theorem rt_full {f : Nat} {t : Term} (h : GoodT f t) : ∀ r, readTerm f (told t ++ r) = some (t, r) := by
  induction h with
  | num h => intro r; show readTerm _ (0 :: _ :: r) = _; rw [readTerm, if_pos h]
  | word h => intro r; show readTerm _ (1 :: _ :: r) = _; rw [readTerm, if_pos h]
  | token h => intro r; show readTerm _ (2 :: _ :: r) = _; rw [readTerm, if_pos h]
  | row h hs ih =>
    intro r
    rw [told_row]
    show readTerm _ (3 :: _ :: (_ ++ r)) = _
    rw [rt_row, if_neg (by omega), many_full _ r ih]
    rfl
theorem rp_sound : ∀ (f : Nat) (l : List Nat) (t : Pat) (r : List Nat), readPat f l = some (t, r) → GoodP f t ∧ l = ptold t ++ r
  | 0, l, t, r, h => by rw [readPat] at h; cases h
  | f + 1, l, t, r, h => by
    match l, h with
    | 0 :: n :: r', h =>
      rw [readPat] at h
      split at h
      · rename_i hn
        cases h
        exact ⟨.num hn, rfl⟩
      · cases h
    | 1 :: n :: r', h =>
      rw [readPat] at h
      split at h
      · rename_i hn
        cases h
        exact ⟨.word hn, rfl⟩
      · cases h
    | 2 :: n :: r', h =>
      rw [readPat] at h
      split at h
      · rename_i hn
        cases h
        exact ⟨.token hn, rfl⟩
      · cases h
    | 3 :: n :: r', h =>
      rw [rp_row] at h
      split at h
      · cases h
      · rename_i hn
        cases e : many (readPat f) n r' with
        | none =>
          rw [e] at h
          cases h
        | some w =>
          rw [e] at h
          cases h
          obtain ⟨a1, a2, a3⟩ := many_sound (td := ptold) (G := GoodP f) (rp_sound f) n r' w.1 w.2 e
          refine ⟨.row (by omega) a2, ?_⟩
          rw [ptold_row, a1, a3]
          rfl
    | 4 :: r', h =>
      simp [readPat] at h
      obtain ⟨h1, h2⟩ := h
      subst h1 h2
      exact ⟨.any, rfl⟩
    | 5 :: n :: r', h =>
      rw [readPat] at h
      split at h
      · rename_i hn
        cases h
        exact ⟨.name hn, rfl⟩
      · cases h
    | [], h => simp [readPat] at h
    | [0], h => simp [readPat] at h
    | [1], h => simp [readPat] at h
    | [2], h => simp [readPat] at h
    | [3], h => simp [readPat] at h
    | [5], h => simp [readPat] at h
    | (_ + 6) :: _, h => simp [readPat] at h
theorem told_inj {t u : Term} {f : Nat} (ht : GoodT f t) (hu : GoodT f u) (h : told t = told u) : t = u := by
  have a := rt_full ht []
  have b := rt_full hu []
  rw [h] at a
  have c := a.symm.trans b
  cases c
  rfl
/-! skipping -/
def high : Nat → Nat
  | 0 => 1000000
  | 1 => 99
  | 2 => 1000
  | 3 => 8
  | 5 => 9
  | _ => 0
def skipMany (g : List Nat → Option (List Nat)) : Nat → List Nat → Option (List Nat)
  | 0, l => some l
  | n + 1, l => (g l).bind (skipMany g n)
/-- is a part told at the beginning? -/
def partOk (last : Nat) : List Nat → Bool
  | [] => false
  | k :: r => decide (k ≤ last) && (k == 4 || match r with
    | [] => false
    | v :: _ => decide (v ≤ high k))
def partLen (k : Nat) : Nat := if k = 4 then 1 else 2
def skip (last : Nat) : Nat → List Nat → Option (List Nat)
  | 0, _ => none
  | f + 1, l => if partOk last l = true then (if l.headD 0 = 3 then skipMany (skip last f) (l.getD 1 0) (l.drop 2) else some (l.drop (partLen (l.headD 0)))) else none
theorem skip_0 (last : Nat) (l : List Nat) : skip last 0 l = none := rfl
theorem skip_s (last f : Nat) (l : List Nat) : skip last (f + 1) l = if partOk last l = true then (if l.headD 0 = 3 then skipMany (skip last f) (l.getD 1 0) (l.drop 2) else some (l.drop (partLen (l.headD 0)))) else none := rfl
theorem many_skip {α : Type} {g : List Nat → Option (α × List Nat)} {s : List Nat → Option (List Nat)} (h : ∀ l, (g l).map (·.2) = s l) : ∀ (n : Nat) (l : List Nat), (many g n l).map (·.2) = skipMany s n l
  | 0, l => rfl
  | n + 1, l => by
    show ((g l).bind fun z => (many g n z.2).map fun w => (z.1 :: w.1, w.2)).map _ = (s l).bind _
    rw [← h l]
    cases g l with
    | none => rfl
    | some z =>
      show ((many g n z.2).map fun w => (z.1 :: w.1, w.2)).map _ = skipMany s n z.2
      rw [← many_skip h n z.2]
      cases many g n z.2 <;> rfl
theorem rt_skip : ∀ (f : Nat) (l : List Nat), (readTerm f l).map (·.2) = skip 3 f l
  | 0, l => by rw [readTerm, skip_0]; rfl
  | f + 1, l => by
    match l with
    | 0 :: n :: r' => rw [readTerm, skip_s]; by_cases h : n ≤ 1000000 <;> simp [partOk, high, partLen, h]
    | 1 :: n :: r' => rw [readTerm, skip_s]; by_cases h : n ≤ 99 <;> simp [partOk, high, partLen, h]
    | 2 :: n :: r' => rw [readTerm, skip_s]; by_cases h : n ≤ 1000 <;> simp [partOk, high, partLen, h]
    | 3 :: n :: r' =>
      rw [rt_row, skip_s]
      by_cases h : n ≤ 8
      · rw [if_neg (by omega), if_pos (by simp [partOk, high, h]), ← many_skip (rt_skip f)]
        show _ = Option.map (·.2) (many (readTerm f) n r')
        cases many (readTerm f) n r' <;> rfl
      · rw [if_pos (by omega), if_neg (by simp [partOk, high, h])]
        rfl
    | [] => simp [readTerm, skip_s, partOk]
    | [0] => simp [readTerm, skip_s, partOk]
    | [1] => simp [readTerm, skip_s, partOk]
    | [2] => simp [readTerm, skip_s, partOk]
    | [3] => simp [readTerm, skip_s, partOk]
    | (k + 4) :: r => 
      have e : ¬ (k + 4 ≤ 3) := by omega
      simp [readTerm, skip_s, partOk, e]
theorem rp_skip : ∀ (f : Nat) (l : List Nat), (readPat f l).map (·.2) = skip 5 f l
  | 0, l => by rw [readPat, skip_0]; rfl
  | f + 1, l => by
    match l with
    | 0 :: n :: r' => rw [readPat, skip_s]; by_cases h : n ≤ 1000000 <;> simp [partOk, high, partLen, h]
    | 1 :: n :: r' => rw [readPat, skip_s]; by_cases h : n ≤ 99 <;> simp [partOk, high, partLen, h]
    | 2 :: n :: r' => rw [readPat, skip_s]; by_cases h : n ≤ 1000 <;> simp [partOk, high, partLen, h]
    | 3 :: n :: r' =>
      rw [rp_row, skip_s]
      by_cases h : n ≤ 8
      · rw [if_neg (by omega), if_pos (by simp [partOk, high, h]), ← many_skip (rp_skip f)]
        show _ = Option.map (·.2) (many (readPat f) n r')
        cases many (readPat f) n r' <;> rfl
      · rw [if_pos (by omega), if_neg (by simp [partOk, high, h])]
        rfl
    | 4 :: r' => simp [readPat, skip_s, partOk, partLen]
    | 5 :: n :: r' => rw [readPat, skip_s]; by_cases h : n ≤ 9 <;> simp [partOk, high, partLen, h]
    | [] => simp [readPat, skip_s, partOk]
    | [0] => simp [readPat, skip_s, partOk]
    | [1] => simp [readPat, skip_s, partOk]
    | [2] => simp [readPat, skip_s, partOk]
    | [3] => simp [readPat, skip_s, partOk]
    | [5] => simp [readPat, skip_s, partOk]
    | (k + 6) :: r =>
      have e : ¬ (k + 6 ≤ 5) := by omega
      simp [readPat, skip_s, partOk, e]
theorem skip_told {f : Nat} {t : Term} (h : GoodT f t) (r : List Nat) : skip 3 f (told t ++ r) = some r := by
  rw [← rt_skip, rt_full h]
  rfl
/-- a stack of how many are lacking, the innermost first -/
def skipS (last : Nat) : List Nat → List Nat → Option (List Nat)
  | [], l => some l
  | c :: s, l => (skipMany (skip last (8 - s.length)) c l).bind (skipS last s)
theorem skipS_one (last : Nat) (l : List Nat) : skipS last [1] l = skip last 8 l := by
  show ((skip last 8 l).bind fun x => some x).bind (fun x => some x) = _
  cases skip last 8 l <;> rfl
theorem skipS_zero (last : Nat) (s l : List Nat) : skipS last (0 :: s) l = skipS last s l := rfl
theorem skipS_deep (last c : Nat) (s l : List Nat) (h : 8 ≤ s.length) : skipS last ((c + 1) :: s) l = none := by
  show (((skip last (8 - s.length) l).bind _).bind _) = none
  rw [show 8 - s.length = 0 by omega, skip_0]
  rfl
theorem skipS_bad (last c : Nat) (s l : List Nat) (h : partOk last l = false) : skipS last ((c + 1) :: s) l = none := by
  show (((skip last (8 - s.length) l).bind _).bind _) = none
  cases 8 - s.length with
  | zero => rw [skip_0]; rfl
  | succ f =>
    rw [skip_s, if_neg (by rw [h]; decide)]
    rfl
theorem skipS_part (last c k : Nat) (s r : List Nat) (hs : s.length < 8) (h : partOk last (k :: r) = true) (hk : k ≠ 3) : skipS last ((c + 1) :: s) (k :: r) = skipS last (c :: s) ((k :: r).drop (partLen k)) := by
  show (((skip last (8 - s.length) (k :: r)).bind (skipMany (skip last (8 - s.length)) c)).bind _) = ((skipMany (skip last (8 - s.length)) c _).bind _)
  rw [show 8 - s.length = (7 - s.length) + 1 by omega]
  have e : skip last (7 - s.length + 1) (k :: r) = some ((k :: r).drop (partLen k)) := by
    rw [skip_s, if_pos h, if_neg (show ¬ (k :: r).headD 0 = 3 from hk)]
    rfl
  rw [e]
  rfl
theorem skipS_row (last c v : Nat) (s r : List Nat) (hs : s.length < 8) (h : partOk last (3 :: v :: r) = true) : skipS last ((c + 1) :: s) (3 :: v :: r) = skipS last (v :: c :: s) r := by
  show (((skip last (8 - s.length) (3 :: v :: r)).bind (skipMany (skip last (8 - s.length)) c)).bind _) = ((skipMany (skip last (8 - (s.length + 1))) v r).bind fun l => (skipMany (skip last (8 - s.length)) c l).bind (skipS last s))
  have e : skip last (8 - s.length) (3 :: v :: r) = skipMany (skip last (8 - (s.length + 1))) v r := by
    rw [show 8 - s.length = (8 - (s.length + 1)) + 1 by omega, skip_s, if_pos h]
    rfl
  rw [e, Option.bind_assoc]
end Pk

set_option linter.unusedVariables false
/-! The mathematics: work lists, fitting, tests, clauses. -/
namespace Pk
open Ha01
theorem below_chain (b : Nat) : ∀ ts : List Term, tokensBelow b (chain ts) = ts.all (tokensBelow b)
  | [] => rfl
  | t :: ts => by
    show (tokensBelow b t && tokensBelow b (chain ts)) = _
    rw [below_chain b ts, List.all_cons]
theorem part_T {f : Nat} {t : Term} (h : GoodT f t) : ∃ (k v : Nat) (us : List Term), told t = k :: v :: us.flatMap told ∧ (∀ u ∈ us, GoodT f u) ∧
    ((k = 2 ∧ t = .token v ∧ us = []) ∨ (k ≠ 2 ∧ ∀ b, tokensBelow b t = us.all (tokensBelow b))) := by
  cases h with
  | @num f n h => exact ⟨0, n, [], rfl, fun _ h => (by cases h), .inr ⟨by decide, fun _ => rfl⟩⟩
  | @word f n h => exact ⟨1, n, [], rfl, fun _ h => (by cases h), .inr ⟨by decide, fun _ => rfl⟩⟩
  | @token f n h => exact ⟨2, n, [], rfl, fun _ h => (by cases h), .inl ⟨rfl, rfl, rfl⟩⟩
  | @row f us h hs => exact ⟨3, us.length, us, told_row us, fun u hu => (hs u hu).succ, .inr ⟨by decide, fun b => below_chain b us⟩⟩
theorem flat_even {ts : List Term} (h : ∀ t ∈ ts, ∃ m, (told t).length = 2 * m) : ∃ m, (ts.flatMap told).length = 2 * m := by
  induction ts with
  | nil => exact ⟨0, rfl⟩
  | cons t ts ih =>
    obtain ⟨a, ha⟩ := h t (List.mem_cons_self ..)
    obtain ⟨b, hb⟩ := ih fun u hu => h u (List.mem_cons_of_mem _ hu)
    exact ⟨a + b, by rw [List.flatMap_cons, List.length_append, ha, hb]; omega⟩
theorem told_even {f : Nat} {t : Term} (h : GoodT f t) : ∃ m, (told t).length = 2 * m := by
  induction h with
  | num h => exact ⟨1, rfl⟩
  | word h => exact ⟨1, rfl⟩
  | token h => exact ⟨1, rfl⟩
  | row h hs ih =>
    obtain ⟨m, hm⟩ := flat_even ih
    exact ⟨m + 1, by rw [told_row, List.length_cons, List.length_cons, hm]; omega⟩
theorem asks_chain (k : Nat) (e : Names) : ∀ ps : List Pat, asks k e (pchain ps) = ps.any (asks k e)
  | [] => rfl
  | p :: ps => by
    show (asks k e p || asks k e (pchain ps)) = _
    rw [asks_chain k e ps, List.any_cons]
theorem GoodP.succ {f : Nat} {t : Pat} (h : GoodP f t) : GoodP (f + 1) t := by
  induction h with
  | num h => exact .num h
  | word h => exact .word h
  | token h => exact .token h
  | any => exact .any
  | name h => exact .name h
  | row h _ ih => exact .row h ih
theorem part_P {f : Nat} {p : Pat} (h : GoodP f p) : (p = .any) ∨ ∃ (k v : Nat) (ps : List Pat), ptold p = k :: v :: ps.flatMap ptold ∧ k ≠ 4 ∧ (∀ u ∈ ps, GoodP f u) ∧ (k = 5 → v ≤ 9) ∧
    ∀ tk e, asks tk e p = ((decide (k = 2 ∧ v = tk)) || ((decide (k = 5) && (valueOf e v == some (.token tk))) || ps.any (asks tk e))) := by
  cases h with
  | @num f n h => exact .inr ⟨0, n, [], rfl, by decide, fun _ h => (by cases h), fun h => (by cases h), fun tk e => by simp [asks]⟩
  | @word f n h => exact .inr ⟨1, n, [], rfl, by decide, fun _ h => (by cases h), fun h => (by cases h), fun tk e => by simp [asks]⟩
  | @token f n h =>
    refine .inr ⟨2, n, [], rfl, by decide, fun _ h => (by cases h), fun h => (by cases h), fun tk e => ?_⟩
    show (tk == n) = _
    by_cases c : n = tk
    · simp [c]
    · simp [c]
      exact fun q => c q.symm
  | any => exact .inl rfl
  | @name f n h => exact .inr ⟨5, n, [], rfl, by decide, fun _ h => (by cases h), fun _ => h, fun tk e => by simp [asks]⟩
  | @row f ps h hs => exact .inr ⟨3, ps.length, ps, ptold_row ps, by decide, fun u hu => (hs u hu).succ, fun h => (by cases h), fun tk e => by
      show asks tk e (pchain ps) = _
      rw [asks_chain]
      simp⟩
/-! fitting -/
def fitsAll : List (Pat × Term) → Names → Option Names
  | [], e => some e
  | (p, t) :: w, e => (fits p t e).bind (fitsAll w)
theorem fitsAll_app : ∀ (a b : List (Pat × Term)) (e : Names), fitsAll (a ++ b) e = (fitsAll a e).bind (fitsAll b)
  | [], b, e => rfl
  | (p, t) :: a, b, e => by
    show (fits p t e).bind (fitsAll (a ++ b)) = ((fits p t e).bind (fitsAll a)).bind (fitsAll b)
    rw [Option.bind_assoc]
    congr 1
    funext x
    exact fitsAll_app a b x
theorem fits_chain : ∀ (ps : List Pat) (ts : List Term) (e : Names), fits (pchain ps) (chain ts) e = if ps.length = ts.length then fitsAll (ps.zip ts) e else none
  | [], [], e => by simp [pchain, chain, fits, fitsAll]
  | [], t :: ts, e => by simp [pchain, chain, fits]
  | p :: ps, [], e => by simp [pchain, chain, fits]
  | p :: ps, t :: ts, e => by
    show (fits p t e).bind (fun x => fits (pchain ps) (chain ts) x) = _
    by_cases h : ps.length = ts.length
    · rw [if_pos (by simp [h])]
      show _ = (fits p t e).bind (fitsAll (ps.zip ts))
      congr 1
      funext x
      rw [fits_chain ps ts x, if_pos h]
    · rw [if_neg (by simp [h])]
      cases fits p t e with
      | none => rfl
      | some x =>
        show fits (pchain ps) (chain ts) x = none
        rw [fits_chain ps ts x, if_neg h]
theorem fit_any (t : Term) (w : List (Pat × Term)) (e : Names) : fitsAll ((.any, t) :: w) e = fitsAll w e := by
  show (fits .any t e).bind (fitsAll w) = _
  have : fits .any t e = some e := by cases t <;> rfl
  rw [this]
  rfl
theorem fit_name (v : Nat) (t : Term) (w : List (Pat × Term)) (e : Names) : fitsAll ((.name v, t) :: w) e = match valueOf e v with
    | some u => if u = t then fitsAll w e else none
    | none => fitsAll w (e.set v (some t)) := by
  show (fits (.name v) t e).bind (fitsAll w) = _
  have : fits (.name v) t e = match valueOf e v with
    | some u => if u = t then some e else none
    | none => some (e.set v (some t)) := by cases t <;> rfl
  rw [this]
  cases valueOf e v with
  | none => rfl
  | some u =>
    show (if u = t then some e else none).bind _ = if u = t then _ else _
    by_cases h : u = t
    · rw [if_pos h, if_pos h]; rfl
    · rw [if_neg h, if_neg h]; rfl
theorem fit_same {p : Pat} {t : Term} (h : ∀ e, fits p t e = some e) (w : List (Pat × Term)) (e : Names) : fitsAll ((p, t) :: w) e = fitsAll w e := by
  show (fits p t e).bind (fitsAll w) = _
  rw [h e]
  rfl
theorem fit_part {f g : Nat} {p : Pat} {t : Term} (hp : GoodP f p) (h4 : p ≠ .any) (h5 : ∀ v, p ≠ .name v) (ht : GoodT g t) : ∃ (k v : Nat) (ps : List Pat) (k' v' : Nat) (ts : List Term),
    ptold p = k :: v :: ps.flatMap ptold ∧ told t = k' :: v' :: ts.flatMap told ∧ k ≠ 4 ∧ k ≠ 5 ∧ (∀ u ∈ ps, GoodP f u) ∧ (∀ u ∈ ts, GoodT g u) ∧
    (k = k' → v = v' → ps.length = ts.length ∧ ∀ w e, fitsAll ((p, t) :: w) e = fitsAll (ps.zip ts ++ w) e) ∧ (¬ (k = k' ∧ v = v') → ∀ e, fits p t e = none) := by
  have nP : ∀ u ∈ ([] : List Pat), GoodP f u := fun _ h => (by cases h)
  have nT : ∀ u ∈ ([] : List Term), GoodT g u := fun _ h => (by cases h)
  cases hp with
  | any => exact absurd rfl h4
  | name h => exact absurd rfl (h5 _)
  | @num _ n h =>
    cases ht with
    | @num _ m h' => exact ⟨0, n, [], 0, m, [], rfl, rfl, by decide, by decide, nP, nT, fun _ e => ⟨rfl, fit_same fun e' => by simp [fits, e]⟩, fun c e => by
        have : ¬ n = m := fun q => c ⟨rfl, q⟩
        simp [fits, this]⟩
    | @word _ m h' => exact ⟨0, n, [], 1, m, [], rfl, rfl, by decide, by decide, nP, nT, fun q => (by cases q), fun c e => by simp [fits]⟩
    | @token _ m h' => exact ⟨0, n, [], 2, m, [], rfl, rfl, by decide, by decide, nP, nT, fun q => (by cases q), fun c e => by simp [fits]⟩
    | @row _ ts h' hs => exact ⟨0, n, [], 3, ts.length, ts, rfl, told_row ts, by decide, by decide, nP, fun u hu => (hs u hu).succ, fun q => (by cases q), fun c e => by simp [fits]⟩
  | @word _ n h =>
    cases ht with
    | @num _ m h' => exact ⟨1, n, [], 0, m, [], rfl, rfl, by decide, by decide, nP, nT, fun q => (by cases q), fun c e => by simp [fits]⟩
    | @word _ m h' => exact ⟨1, n, [], 1, m, [], rfl, rfl, by decide, by decide, nP, nT, fun _ e => ⟨rfl, fit_same fun e' => by simp [fits, e]⟩, fun c e => by
        have : ¬ n = m := fun q => c ⟨rfl, q⟩
        simp [fits, this]⟩
    | @token _ m h' => exact ⟨1, n, [], 2, m, [], rfl, rfl, by decide, by decide, nP, nT, fun q => (by cases q), fun c e => by simp [fits]⟩
    | @row _ ts h' hs => exact ⟨1, n, [], 3, ts.length, ts, rfl, told_row ts, by decide, by decide, nP, fun u hu => (hs u hu).succ, fun q => (by cases q), fun c e => by simp [fits]⟩
  | @token _ n h =>
    cases ht with
    | @num _ m h' => exact ⟨2, n, [], 0, m, [], rfl, rfl, by decide, by decide, nP, nT, fun q => (by cases q), fun c e => by simp [fits]⟩
    | @word _ m h' => exact ⟨2, n, [], 1, m, [], rfl, rfl, by decide, by decide, nP, nT, fun q => (by cases q), fun c e => by simp [fits]⟩
    | @token _ m h' => exact ⟨2, n, [], 2, m, [], rfl, rfl, by decide, by decide, nP, nT, fun _ e => ⟨rfl, fit_same fun e' => by simp [fits, e]⟩, fun c e => by
        have : ¬ n = m := fun q => c ⟨rfl, q⟩
        simp [fits, this]⟩
    | @row _ ts h' hs => exact ⟨2, n, [], 3, ts.length, ts, rfl, told_row ts, by decide, by decide, nP, fun u hu => (hs u hu).succ, fun q => (by cases q), fun c e => by simp [fits]⟩
  | @row _ ps h hps =>
    have aP : ∀ u ∈ ps, GoodP _ u := fun u hu => (hps u hu).succ
    cases ht with
    | @num _ m h' => exact ⟨3, ps.length, ps, 0, m, [], ptold_row ps, rfl, by decide, by decide, aP, nT, fun q => (by cases q), fun c e => by simp [fits]⟩
    | @word _ m h' => exact ⟨3, ps.length, ps, 1, m, [], ptold_row ps, rfl, by decide, by decide, aP, nT, fun q => (by cases q), fun c e => by simp [fits]⟩
    | @token _ m h' => exact ⟨3, ps.length, ps, 2, m, [], ptold_row ps, rfl, by decide, by decide, aP, nT, fun q => (by cases q), fun c e => by simp [fits]⟩
    | @row _ ts h' hs =>
      refine ⟨3, ps.length, ps, 3, ts.length, ts, ptold_row ps, told_row ts, by decide, by decide, aP, fun u hu => (hs u hu).succ, fun _ q => ⟨q, fun w e => ?_⟩, fun c e => ?_⟩
      · rw [fitsAll_app]
        show (fits (pchain ps) (chain ts) e).bind _ = _
        rw [fits_chain, if_pos q]
      · show fits (pchain ps) (chain ts) e = none
        rw [fits_chain, if_neg fun q => c ⟨rfl, q⟩]
theorem zip_fst : ∀ (ps : List Pat) (ts : List Term), ps.length = ts.length → (ps.zip ts).flatMap (fun x => ptold x.1) = ps.flatMap ptold
  | [], [], _ => rfl
  | p :: ps, t :: ts, h => by
    show ptold p ++ (ps.zip ts).flatMap _ = _
    rw [zip_fst ps ts (by simpa using h), List.flatMap_cons]
  | [], _ :: _, h => by cases h
  | _ :: _, [], h => by cases h
theorem zip_snd : ∀ (ps : List Pat) (ts : List Term), ps.length = ts.length → (ps.zip ts).flatMap (fun x => told x.2) = ts.flatMap told
  | [], [], _ => rfl
  | p :: ps, t :: ts, h => by
    show told t ++ (ps.zip ts).flatMap _ = _
    rw [zip_snd ps ts (by simpa using h), List.flatMap_cons]
  | [], _ :: _, h => by cases h
  | _ :: _, [], h => by cases h
/-! tests -/
def tl (x : Test) : List Nat := [x.what, x.name, x.n]
def okTest (x : Test) : Bool := decide (x.what ≤ 7) && (decide (x.name ≤ 9) && (decide (x.what ≠ 7) || decide (x.n ≤ 9)))
def trip : Nat → List Nat → List Test
  | n + 1, w :: v :: k :: r => ⟨w, v, k⟩ :: trip n r
  | _, _ => []
theorem tests_short : ∀ (n : Nat) (l : List Nat), l.length < 3 * n → readTests n l = none
  | 0, l, h => by omega
  | n + 1, [], h => by simp [readTests]
  | n + 1, [_], h => by simp [readTests]
  | n + 1, [_, _], h => by simp [readTests]
  | n + 1, w :: v :: k :: r, h => by
    rw [readTests]
    split
    · rfl
    · rw [tests_short n r (by simp at h; omega)]
      rfl
theorem trip_len : ∀ (n : Nat) (l : List Nat), 3 * n ≤ l.length → (trip n l).length = n
  | 0, l, h => by simp [trip]
  | n + 1, [], h => by simp at h
  | n + 1, [_], h => by simp at h; omega
  | n + 1, [_, _], h => by simp at h; omega
  | n + 1, w :: v :: k :: r, h => by
    show (trip n r).length + 1 = n + 1
    rw [trip_len n r (by simp at h; omega)]
theorem tests_eq : ∀ (n : Nat) (l : List Nat), 3 * n ≤ l.length → readTests n l = if (trip n l).all okTest = true then some (trip n l, l.drop (3 * n)) else none
  | 0, l, h => by simp [trip, readTests]
  | n + 1, [], h => by simp at h
  | n + 1, [_], h => by simp at h; omega
  | n + 1, [_, _], h => by simp at h; omega
  | n + 1, w :: v :: k :: r, h => by
    rw [readTests, tests_eq n r (by simp at h; omega)]
    show _ = if (okTest ⟨w, v, k⟩ && (trip n r).all okTest) = true then some (⟨w, v, k⟩ :: trip n r, _) else none
    have ed : List.drop (3 * (n + 1)) (w :: v :: k :: r) = r.drop (3 * n) := by
      rw [show 3 * (n + 1) = 3 * n + 3 by omega]
      rfl
    rw [ed]
    by_cases c : 7 < w ∨ 9 < v ∨ (w = 7 ∧ 9 < k)
    · rw [if_pos c]
      have : okTest ⟨w, v, k⟩ = false := by
        unfold okTest
        simp
        omega
      rw [this]
      simp
    · rw [if_neg c]
      have : okTest ⟨w, v, k⟩ = true := by
        unfold okTest
        simp
        omega
      rw [this]
      by_cases d : (trip n r).all okTest = true
      · simp [d]
      · simp [d]
theorem trip_at : ∀ (n : Nat) (l : List Nat) (i : Nat), i < n → 3 * n ≤ l.length → ∃ x, (trip n l)[i]? = some x ∧ (l.drop (3 * i)).take 3 = tl x
  | 0, l, i, hi, h => by omega
  | n + 1, [], i, hi, h => by simp at h
  | n + 1, [_], i, hi, h => by simp at h; omega
  | n + 1, [_, _], i, hi, h => by simp at h; omega
  | n + 1, w :: v :: k :: r, 0, hi, h => ⟨⟨w, v, k⟩, rfl, rfl⟩
  | n + 1, w :: v :: k :: r, i + 1, hi, h => by
    obtain ⟨x, h1, h2⟩ := trip_at n r i (by omega) (by simp at h; omega)
    refine ⟨x, h1, ?_⟩
    rw [show 3 * (i + 1) = 3 * i + 3 by omega]
    exact h2
/-- the tests whose count stands first -/
def testsOf : List Nat → Option (List Test × List Nat)
  | [] => none
  | n :: r => if 4 < n then none else readTests n r
/-! clauses -/
theorem clauses_step (f : Nat) (x : Nat) (l : List Nat) : readClauses (f + 1) (x :: l) = (readPat 8 (x :: l)).bind fun p => (testsOf p.2).bind fun t => (readClauses f t.2).map fun c => ⟨p.1, t.1⟩ :: c := by
  rw [readClauses]
  rotate_left
  · intro h
    cases h
  congr 1
  funext p
  cases h : p.2 with
  | nil => rfl
  | cons n r =>
    show _ = (if 4 < n then none else readTests n r).bind _
    by_cases c : 4 < n
    · simp [c]
    · simp [c]
theorem tests_inv {l : List Nat} {ts : List Test} {r2 : List Nat} (h : testsOf l = some (ts, r2)) : ∃ (n : Nat) (r1 : List Nat), l = n :: r1 ∧ n ≤ 4 ∧ ts.length = n ∧ 3 * n ≤ r1.length ∧ r2 = r1.drop (3 * n) ∧ ts.all okTest = true := by
  cases l with
  | nil => cases h
  | cons n r1 =>
    have h' : (if 4 < n then none else readTests n r1) = some (ts, r2) := h
    by_cases c : 4 < n
    · rw [if_pos c] at h'
      cases h'
    · rw [if_neg c] at h'
      by_cases d : 3 * n ≤ r1.length
      · rw [tests_eq n r1 d] at h'
        by_cases e : (trip n r1).all okTest = true
        · rw [if_pos e] at h'
          cases h'
          exact ⟨n, r1, rfl, by omega, trip_len n r1 d, d, rfl, e⟩
        · rw [if_neg e] at h'
          cases h'
      · rw [tests_short n r1 (by omega)] at h'
        cases h'
end Pk
namespace Pk
open Ha01
theorem holds_none {e : Names} {x : Test} (h : valueOf e x.name = none) : holds e x = false := by
  unfold holds
  rw [h]
theorem holds_some {f : Nat} {e : Names} {x : Test} {t : Term} (h : valueOf e x.name = some t) (g : GoodT f t) (hw : x.what ≤ 7) : ∃ (k v : Nat) (us : List Term), told t = k :: v :: us.flatMap told ∧
    holds e x = if x.what = 7 then (valueOf e x.n == some t) else if x.what = 6 then (decide (k = 3) && decide (v = x.n)) else if x.what = 5 then decide (k = 2) else if x.what = 4 then decide (k = 1) else if k ≠ 0 then false
      else if x.what = 0 then decide (v = x.n) else if x.what = 1 then decide (v < x.n) else if x.what = 2 then decide (x.n < v) else decide (x.what = 3) := by
  obtain ⟨w, nm, n⟩ := x
  dsimp only at h hw ⊢
  unfold holds
  dsimp only
  rw [h]
  have bd : ∀ a b : Nat, (a == b) = decide (a = b) := fun a b => rfl
  cases g with
  | @num f m g =>
    refine ⟨0, m, [], rfl, ?_⟩
    match w, hw with
    | 0, _ => simp [bd]
    | 1, _ => simp
    | 2, _ => simp
    | 3, _ => simp
    | 4, _ => simp
    | 5, _ => simp
    | 6, _ => simp
    | 7, _ => simp
  | @word f m g =>
    refine ⟨1, m, [], rfl, ?_⟩
    match w, hw with
    | 0, _ => simp
    | 1, _ => simp
    | 2, _ => simp
    | 3, _ => simp
    | 4, _ => simp
    | 5, _ => simp
    | 6, _ => simp
    | 7, _ => simp
  | @token f m g =>
    refine ⟨2, m, [], rfl, ?_⟩
    match w, hw with
    | 0, _ => simp
    | 1, _ => simp
    | 2, _ => simp
    | 3, _ => simp
    | 4, _ => simp
    | 5, _ => simp
    | 6, _ => simp
    | 7, _ => simp
  | @row f us g gs =>
    refine ⟨3, us.length, us, told_row us, ?_⟩
    match w, hw with
    | 0, _ => simp
    | 1, _ => simp
    | 2, _ => simp
    | 3, _ => simp
    | 4, _ => simp
    | 5, _ => simp
    | 6, _ => simp [bd, size_chain]
    | 7, _ => simp
end Pk
namespace Pk
open Ha01
theorem term_inv {l : List Nat} {t : Term} (h : term? l = some t) : GoodT 8 t ∧ l = told t ∧ l.length ≤ 60 := by
  unfold term? at h
  by_cases c : 60 < l.length
  · rw [if_pos c] at h
    cases h
  · rw [if_neg c] at h
    cases e : readTerm 8 l with
    | none =>
      rw [e] at h
      cases h
    | some x =>
      obtain ⟨u, r⟩ := x
      rw [e] at h
      cases r with
      | cons y r => cases h
      | nil =>
        cases h
        obtain ⟨a, b⟩ := rt_sound 8 l t [] e
        exact ⟨a, by rw [b, List.append_nil], by omega⟩
theorem clauses_le {l : List Nat} {cs : List Clause} (h : clauses? l = some cs) : cs.length ≤ 6 ∧ cs ≠ [] := by
  unfold clauses? at h
  by_cases c : 100 < l.length
  · rw [if_pos c] at h
    cases h
  · rw [if_neg c] at h
    cases e : readClauses (l.length + 1) l with
    | none =>
      rw [e] at h
      cases h
    | some x =>
      rw [e] at h
      have h' : (if x = [] ∨ 6 < x.length then none else some x) = some cs := h
      by_cases d : x = [] ∨ 6 < x.length
      · rw [if_pos d] at h'
        cases h'
      · rw [if_neg d] at h'
        cases h'
        exact ⟨by omega, fun z => d (.inl z)⟩
end Pk

set_option linter.unusedVariables false
set_option maxRecDepth 100000
/-! The outer list: calls one behind another. -/
namespace Pk
open Ha01
/-- a call as it is handed in -/
def flat : Call → List Nat
  | .begin_ => [0]
  | .send l => 1 :: l.length :: l
  | .receive e n l => 2 :: e :: n :: l.length :: l
  | .ticks n => [3, n]
  | .halt_ => [4]
  | .token => [5]
  | .names => [6]
  | .forget v => [7, v]
  | .box => [8]
  | .counts => [9]
def inB : Call → Prop
  | .send l => l.length ≤ 64
  | .receive _ _ l => l.length ≤ 104
  | _ => True
def runC : St → List Call → List (List Int)
  | _, [] => []
  | s, x :: r => (step s x).2 :: runC (step s x).1 r
theorem nat_of {z : Int} (h : PyInside.within 0 4294967295 z = true) : ∃ n : Nat, z = (n : Int) ∧ Ha01Neutral.nat z = true := by
  unfold PyInside.within at h
  simp at h
  refine ⟨z.toNat, by omega, ?_⟩
  unfold Ha01Neutral.nat
  simp
  omega
theorem nats_of : ∀ {r : List Int}, r.all (PyInside.within 0 4294967295) = true → ∃ l : List Nat, r = Ha01.ints l ∧ r.all Ha01Neutral.nat = true ∧ r.map Int.toNat = l
  | [], _ => ⟨[], rfl, rfl, rfl⟩
  | z :: r, h => by
    rw [List.all_cons, Bool.and_eq_true] at h
    obtain ⟨n, e, hn⟩ := nat_of h.1
    obtain ⟨l, el, hl, hm⟩ := nats_of h.2
    refine ⟨n :: l, ?_, ?_, ?_⟩
    · rw [e, el]
      rfl
    · rw [List.all_cons, hn, hl]
      rfl
    · rw [List.map_cons, hm, e, Int.toNat_natCast]
theorem ints_len (l : List Nat) : (Ha01.ints l).length = l.length := List.length_map ..
theorem lit_0 (s : St) : Ha01Neutral.step s (PyHa01.whole [[0]]) = step s .begin_ := by
  unfold Ha01Neutral.step
  rw [show Ha01Neutral.callOf (PyHa01.whole [[0]]) = some .begin_ by decide +kernel]
theorem lit_4 (s : St) : Ha01Neutral.step s (PyHa01.whole [[4]]) = step s .halt_ := by
  unfold Ha01Neutral.step
  rw [show Ha01Neutral.callOf (PyHa01.whole [[4]]) = some .halt_ by decide +kernel]
theorem lit_5 (s : St) : Ha01Neutral.step s (PyHa01.whole [[5]]) = step s .token := by
  unfold Ha01Neutral.step
  rw [show Ha01Neutral.callOf (PyHa01.whole [[5]]) = some .token by decide +kernel]
theorem lit_6 (s : St) : Ha01Neutral.step s (PyHa01.whole [[6]]) = step s .names := by
  unfold Ha01Neutral.step
  rw [show Ha01Neutral.callOf (PyHa01.whole [[6]]) = some .names by decide +kernel]
theorem lit_8 (s : St) : Ha01Neutral.step s (PyHa01.whole [[8]]) = step s .box := by
  unfold Ha01Neutral.step
  rw [show Ha01Neutral.callOf (PyHa01.whole [[8]]) = some .box by decide +kernel]
theorem lit_9 (s : St) : Ha01Neutral.step s (PyHa01.whole [[9]]) = step s .counts := by
  unfold Ha01Neutral.step
  rw [show Ha01Neutral.callOf (PyHa01.whole [[9]]) = some .counts by decide +kernel]
theorem bd_1 {r : List Int} (h : PyInside.call PyHa01.bound [[1], r] = true) : r.length ≤ 64 ∧ r.all (PyInside.within 0 4294967295) = true := by
  simp [PyInside.call, PyInside.each, PyInside.lists, PyHa01.bound] at h
  exact ⟨h.1, by simpa using h.2⟩
theorem bd_2 {e n : Int} {r : List Int} (h : PyInside.call PyHa01.bound [[2, e, n], r] = true) : PyInside.within 0 4294967295 e = true ∧ PyInside.within 0 4294967295 n = true ∧ r.length ≤ 104 ∧ r.all (PyInside.within 0 4294967295) = true := by
  simp [PyInside.call, PyInside.each, PyInside.lists, PyHa01.bound] at h
  exact ⟨h.1.1, h.1.2, h.2.1, by simpa using h.2.2⟩
theorem bd_3 {n : Int} (h : PyInside.call PyHa01.bound [[3, n]] = true) : PyInside.within 0 4294967295 n = true := by
  simpa [PyInside.call, PyInside.each, PyInside.lists, PyHa01.bound] using h
theorem bd_7 {n : Int} (h : PyInside.call PyHa01.bound [[7, n]] = true) : PyInside.within 0 4294967295 n = true := by
  simpa [PyInside.call, PyInside.each, PyInside.lists, PyHa01.bound] using h
theorem st_of {c d : List (List Int)} {x : Call} (hw : PyHa01.whole c = d) (ha : d.all (fun r => r.all Ha01Neutral.nat) = true) (hi : Ha01Neutral.callIn (d.map fun r => r.map Int.toNat) = some x) (s : St) : Ha01Neutral.step s (PyHa01.whole c) = step s x := by
  have e : Ha01Neutral.callOf d = some x := by
    unfold Ha01Neutral.callOf
    rw [ha]
    exact hi
  unfold Ha01Neutral.step
  rw [hw, e]
theorem nat_small (n : Nat) (h : n ≤ 9) : Ha01Neutral.nat (n : Int) = true := by
  unfold Ha01Neutral.nat
  simp
  omega
theorem call_1 {l : List Nat} (hn : (Ha01.ints l).all Ha01Neutral.nat = true) (hm : (Ha01.ints l).map Int.toNat = l) (s : St) : Ha01Neutral.step s (PyHa01.whole [[1], Ha01.ints l]) = step s (.send l) := by
  refine st_of (d := [[1], Ha01.ints l]) rfl ?_ ?_ s
  · have e1 : Ha01Neutral.nat 1 = true := nat_small 1 (by decide)
    simp only [List.all_cons, List.all_nil, hn, e1, Bool.and_true]
  · rw [show List.map (fun r => List.map Int.toNat r) [[1], Ha01.ints l] = [[1], (Ha01.ints l).map Int.toNat] from rfl, hm]
    rfl
theorem call_2 {en nn : Nat} {l : List Nat} (he : Ha01Neutral.nat (en : Int) = true) (hnn : Ha01Neutral.nat (nn : Int) = true) (hn : (Ha01.ints l).all Ha01Neutral.nat = true) (hm : (Ha01.ints l).map Int.toNat = l) (s : St) : Ha01Neutral.step s (PyHa01.whole [[2, (en : Int), (nn : Int)], Ha01.ints l]) = step s (.receive en nn l) := by
  refine st_of (d := [[2, (en : Int), (nn : Int)], Ha01.ints l]) rfl ?_ ?_ s
  · have e1 : Ha01Neutral.nat 2 = true := nat_small 2 (by decide)
    simp only [List.all_cons, List.all_nil, hn, e1, he, hnn, Bool.and_true]
  · rw [show List.map (fun r => List.map Int.toNat r) [[2, (en : Int), (nn : Int)], Ha01.ints l] = [[2, (en : Int).toNat, (nn : Int).toNat], (Ha01.ints l).map Int.toNat] from rfl, hm, Int.toNat_natCast, Int.toNat_natCast]
    rfl
theorem call_3 {nn : Nat} (hnn : Ha01Neutral.nat (nn : Int) = true) (s : St) : Ha01Neutral.step s (PyHa01.whole [[3, (nn : Int)]]) = step s (.ticks nn) := by
  refine st_of (d := [[3, (nn : Int)]]) rfl ?_ ?_ s
  · have e1 : Ha01Neutral.nat 3 = true := nat_small 3 (by decide)
    simp only [List.all_cons, List.all_nil, e1, hnn, Bool.and_true]
  · rw [List.map_cons, List.map_cons, List.map_cons, Int.toNat_natCast]
    rfl
theorem call_7 {nn : Nat} (hnn : Ha01Neutral.nat (nn : Int) = true) (s : St) : Ha01Neutral.step s (PyHa01.whole [[7, (nn : Int)]]) = step s (.forget nn) := by
  refine st_of (d := [[7, (nn : Int)]]) rfl ?_ ?_ s
  · have e1 : Ha01Neutral.nat 7 = true := nat_small 7 (by decide)
    simp only [List.all_cons, List.all_nil, e1, hnn, Bool.and_true]
  · rw [List.map_cons, List.map_cons, List.map_cons, Int.toNat_natCast]
    rfl
theorem call_cases {c : List (List Int)} (h : PyFlat.okCall PyHa01.shape c) (hb : PyInside.call PyHa01.bound c = true) :
    ∃ x : Call, inB x ∧ PyFlat.put1 c = Ha01.ints (flat x) ∧ ∀ s, Ha01Neutral.step s (PyHa01.whole c) = step s x := by
  obtain ⟨p, a, xs, rfl, hs⟩ := h
  unfold PyHa01.shape at hs
  by_cases c0 : p = 0
  · subst c0
    rw [if_pos rfl] at hs
    have e := Option.some.inj hs
    have e1 : a = [] := List.eq_nil_of_length_eq_zero (Prod.mk.inj e).1.symm
    have e2 : xs = [] := List.eq_nil_of_length_eq_zero (Prod.mk.inj e).2.symm
    subst e1 e2
    exact ⟨.begin_, trivial, rfl, lit_0⟩
  rw [if_neg c0] at hs
  by_cases c1 : p = 1
  · subst c1
    rw [if_pos rfl] at hs
    have e := Option.some.inj hs
    have e1 : a = [] := List.eq_nil_of_length_eq_zero (Prod.mk.inj e).1.symm
    subst e1
    match xs, (Prod.mk.inj e).2.symm, hb with
    | [r], _, hb =>
      obtain ⟨h64, hall⟩ := bd_1 hb
      obtain ⟨l, rfl, hn, hm⟩ := nats_of hall
      refine ⟨.send l, by rw [ints_len] at h64; exact h64, ?_, call_1 hn hm⟩
      show [1] ++ (((Ha01.ints l).length : Int) :: (Ha01.ints l) ++ []) = Ha01.ints (1 :: l.length :: l)
      rw [ints_len, List.append_nil]
      rfl
  rw [if_neg c1] at hs
  by_cases c2 : p = 2
  · subst c2
    rw [if_pos rfl] at hs
    have e := Option.some.inj hs
    match a, xs, (Prod.mk.inj e).1.symm, (Prod.mk.inj e).2.symm, hb with
    | [e', n'], [r], _, _, hb =>
      obtain ⟨b1, b2, b3, b4⟩ := bd_2 hb
      obtain ⟨en, rfl, he⟩ := nat_of b1
      obtain ⟨nn, rfl, hnn⟩ := nat_of b2
      obtain ⟨l, rfl, hn, hm⟩ := nats_of b4
      refine ⟨.receive en nn l, by rw [ints_len] at b3; exact b3, ?_, call_2 he hnn hn hm⟩
      show [2, (en : Int), (nn : Int)] ++ (((Ha01.ints l).length : Int) :: (Ha01.ints l) ++ []) = Ha01.ints (2 :: en :: nn :: l.length :: l)
      rw [ints_len, List.append_nil]
      rfl
  rw [if_neg c2] at hs
  by_cases c3 : p = 3
  · subst c3
    rw [if_pos rfl] at hs
    have e := Option.some.inj hs
    match a, xs, (Prod.mk.inj e).1.symm, (Prod.mk.inj e).2.symm, hb with
    | [n'], [], _, _, hb =>
      obtain ⟨nn, rfl, hnn⟩ := nat_of (bd_3 hb)
      exact ⟨.ticks nn, trivial, rfl, call_3 hnn⟩
  rw [if_neg c3] at hs
  by_cases c4 : p = 4
  · subst c4
    rw [if_pos rfl] at hs
    have e := Option.some.inj hs
    have e1 : a = [] := List.eq_nil_of_length_eq_zero (Prod.mk.inj e).1.symm
    have e2 : xs = [] := List.eq_nil_of_length_eq_zero (Prod.mk.inj e).2.symm
    subst e1 e2
    exact ⟨.halt_, trivial, rfl, lit_4⟩
  rw [if_neg c4] at hs
  by_cases c5 : p = 5
  · subst c5
    rw [if_pos rfl] at hs
    have e := Option.some.inj hs
    have e1 : a = [] := List.eq_nil_of_length_eq_zero (Prod.mk.inj e).1.symm
    have e2 : xs = [] := List.eq_nil_of_length_eq_zero (Prod.mk.inj e).2.symm
    subst e1 e2
    exact ⟨.token, trivial, rfl, lit_5⟩
  rw [if_neg c5] at hs
  by_cases c6 : p = 6
  · subst c6
    rw [if_pos rfl] at hs
    have e := Option.some.inj hs
    have e1 : a = [] := List.eq_nil_of_length_eq_zero (Prod.mk.inj e).1.symm
    have e2 : xs = [] := List.eq_nil_of_length_eq_zero (Prod.mk.inj e).2.symm
    subst e1 e2
    exact ⟨.names, trivial, rfl, lit_6⟩
  rw [if_neg c6] at hs
  by_cases c7 : p = 7
  · subst c7
    rw [if_pos rfl] at hs
    have e := Option.some.inj hs
    match a, xs, (Prod.mk.inj e).1.symm, (Prod.mk.inj e).2.symm, hb with
    | [n'], [], _, _, hb =>
      obtain ⟨nn, rfl, hnn⟩ := nat_of (bd_7 hb)
      exact ⟨.forget nn, trivial, rfl, call_7 hnn⟩
  rw [if_neg c7] at hs
  by_cases c8 : p = 8
  · subst c8
    rw [if_pos rfl] at hs
    have e := Option.some.inj hs
    have e1 : a = [] := List.eq_nil_of_length_eq_zero (Prod.mk.inj e).1.symm
    have e2 : xs = [] := List.eq_nil_of_length_eq_zero (Prod.mk.inj e).2.symm
    subst e1 e2
    exact ⟨.box, trivial, rfl, lit_8⟩
  rw [if_neg c8] at hs
  by_cases c9 : p = 9
  · subst c9
    rw [if_pos rfl] at hs
    have e := Option.some.inj hs
    have e1 : a = [] := List.eq_nil_of_length_eq_zero (Prod.mk.inj e).1.symm
    have e2 : xs = [] := List.eq_nil_of_length_eq_zero (Prod.mk.inj e).2.symm
    subst e1 e2
    exact ⟨.counts, trivial, rfl, lit_9⟩
  rw [if_neg c9] at hs
  cases hs
theorem ints_app (a b : List Nat) : Ha01.ints (a ++ b) = Ha01.ints a ++ Ha01.ints b := List.map_append ..
theorem calls_all : ∀ (raw : List (List (List Int))), (∀ c ∈ raw, PyFlat.okCall PyHa01.shape c) → PyInside.calls PyHa01.bound raw = true →
    ∃ xs : List Call, xs.length = raw.length ∧ (∀ x ∈ xs, inB x) ∧ PyFlat.put raw = Ha01.ints (xs.flatMap flat) ∧ ∀ s, PyFlat.played Ha01Neutral.step s (raw.map PyHa01.whole) = runC s xs
  | [], _, _ => ⟨[], rfl, fun _ h => (by cases h), rfl, fun _ => rfl⟩
  | c :: raw, h, hb => by
    have hb' : (PyInside.call PyHa01.bound c && raw.all (PyInside.call PyHa01.bound)) = true := hb
    rw [Bool.and_eq_true] at hb'
    obtain ⟨x, i1, i2, i3⟩ := call_cases (h c (List.mem_cons_self ..)) hb'.1
    obtain ⟨xs, j1, j2, j3, j4⟩ := calls_all raw (fun d hd => h d (List.mem_cons_of_mem _ hd)) hb'.2
    refine ⟨x :: xs, by simp [j1], fun y hy => ?_, ?_, fun s => ?_⟩
    · cases hy with
      | head => exact i1
      | tail _ hy => exact j2 y hy
    · show PyFlat.put1 c ++ PyFlat.put raw = _
      rw [i2, j3, List.flatMap_cons, ints_app]
    · show (Ha01Neutral.step s (PyHa01.whole c)).2 :: PyFlat.played Ha01Neutral.step (Ha01Neutral.step s (PyHa01.whole c)).1 (raw.map PyHa01.whole) = (step s x).2 :: runC (step s x).1 xs
      rw [i3 s, j4]
theorem asked_inv {ns : List Int} (h : PyHa01.answers_asked ns = true) : ∃ xs : List Call, xs.length ≤ 60 ∧ (∀ x ∈ xs, inB x) ∧ ns = Ha01.ints (xs.flatMap flat) ∧ PyHa01.answers ns = PyFlat.told (runC init xs) ∧ (PyHa01.answers ns).length ≤ 10000000 := by
  unfold PyHa01.answers_asked at h
  cases e : PyFlat.calls PyHa01.shape ns.length ns with
  | none =>
    rw [e] at h
    cases h
  | some raw =>
    rw [e] at h
    simp only [Bool.and_eq_true] at h
    obtain ⟨⟨⟨⟨_, h60⟩, hin⟩, _⟩, hsh⟩ := h
    obtain ⟨e1, e2⟩ := PyFlat.put_calls _ _ _ e
    obtain ⟨xs, j1, j2, j3, j4⟩ := calls_all raw e2 hin
    refine ⟨xs, ?_, j2, by rw [e1, j3], ?_, ?_⟩
    · unfold PyFlat.atMost at h60
      simp at h60
      omega
    · unfold PyHa01.answers PyHa01.calls
      rw [e]
      show PyFlat.told (PyFlat.played Ha01Neutral.step Ha01.init (raw.map PyHa01.whole)) = _
      rw [j4]
    · unfold PyFlat.short at hsh
      simpa using hsh
end Pk
namespace Pk
open Ha01
def kd : Call → Nat
  | .begin_ => 0
  | .send _ => 1
  | .receive _ _ _ => 2
  | .ticks _ => 3
  | .halt_ => 4
  | .token => 5
  | .names => 6
  | .forget _ => 7
  | .box => 8
  | .counts => 9
def argsOf : Call → List Nat
  | .receive e n _ => [e, n]
  | .ticks n => [n]
  | .forget v => [v]
  | _ => []
def rowOf : Call → Option (List Nat)
  | .send l => some l
  | .receive _ _ l => some l
  | _ => none
def rowTold : Option (List Nat) → List Nat
  | none => []
  | some l => l.length :: l
theorem flat_eq (x : Call) : flat x = kd x :: (argsOf x ++ rowTold (rowOf x)) := by cases x <;> rfl
def nbT : List Nat := [0, 0, 2, 1, 0, 0, 0, 1, 0, 0]
def rbT : List Nat := [0, 1, 1, 0, 0, 0, 0, 0, 0, 0]
theorem nb_at (x : Call) : nbT[kd x]? = some (argsOf x).length := by cases x <;> rfl
theorem rb_at (x : Call) : rbT[kd x]? = some (if (rowOf x).isSome = true then 1 else 0) := by cases x <;> rfl
/-- what answer leaves: a new process has been made ahead of it where the call is begin -/
def stepA (s : St) (x : Call) : St × List Int := match x with
  | .begin_ => (s, [0])
  | y => step s y
theorem stepA_begin (s : St) : stepA init .begin_ = step s .begin_ := rfl
theorem stepA_else {x : Call} (s : St) (h : kd x ≠ 0) : stepA s x = step s x := by
  cases x <;> first | rfl | exact absurd rfl h
theorem kd_zero {x : Call} (h : kd x = 0) : x = .begin_ := by cases x <;> first | rfl | cases h
theorem told_cons (a : List Int) (l : List (List Int)) : PyFlat.told (a :: l) = ((a.length : Int) :: a) ++ PyFlat.told l := by
  unfold PyFlat.told
  rw [List.flatMap_cons]
end Pk

set_option Elab.async false
set_option linter.all false
set_option maxRecDepth 100000
set_option maxHeartbeats 2000000
/-! Helpers over the hand layer: lists of plain numbers, a read for an augmented store, module constants. -/
namespace Pk
open PySem PySem.Spec PyProof.Rows L2
/-- plain numbers as values -/
def vI (l : List Nat) : List V := l.map fun (n : Nat) => V.int (n : Int)
/-- a list of plain numbers is to be read at a -/
def NL (K : PySem.W.Frag) (H : Hp) (a : Addr) (l : List Nat) : Prop := SqL K H a (vI l)
theorem vI_len (l : List Nat) : (vI l).length = l.length := List.length_map ..
theorem vI_get {l : List Nat} {i n : Nat} (h : l[i]? = some n) : (vI l)[i]? = some (V.int (n : Int)) := by
  unfold vI
  rw [List.getElem?_map, h]
  rfl
theorem vI_at {l : List Nat} {i n : Nat} (h : l[i]? = some n) : atI (vI l) (i : Int) = some (V.int (n : Int)) := atI_nat (vI_get h)
theorem NL.same {K : PySem.W.Frag} {H H' : Hp} {a : Addr} {l : List Nat} (h : NL K H a l) (s : Same H H') : NL K H' a l := s.seq h
theorem Same.new {H : Hp} {p : Addr} {o : HO} (h : H p = none) : Same H (upd H p o) := fun b u e => by
  rw [upd_ne (ne_of_none e h)]
  exact e
/-- o[i] of a list, as a value that is stored anew -/
theorem get_list {X : Cx} : PGet X (rIxL X.K) := by
  intro pins s σ H o i ov iv Q I ro ri h
  obtain ⟨p, xs, k, z, rfl, rfl, hq, he, q⟩ := h
  cases ro
  obtain ⟨t, rfl⟩ := ri
  obtain ⟨its, r, pl, _⟩ := I.list hq
  obtain ⟨j, h1, h2, h3, h4, h5⟩ := atI_get he
  obtain ⟨u, eu, ru⟩ := r.get h2
  have hl := r.length
  have hn := line63
  by_cases h0 : 0 ≤ k
  · have hj : k.toNat = j := by rw [seqIndex_of h0 h5] at h1; exact Option.some.inj h1
    exact wpAny_getItem_list pl.isList h0 (by omega) (by rw [hj]; simpa using eu) ⟨z, H, I, ru, q⟩
  · have hj : (k + (its.toArray.size : Int)).toNat = j := by
      rw [seqIndex_neg (by omega) h4] at h1
      rw [List.size_toArray, ← hl]; exact Option.some.inj h1
    exact wpAny_getItem_list_neg pl.isList (by omega) (by rw [List.size_toArray] <;> omega) (by omega) (by rw [hj]; simpa using eu) ⟨z, H, I, ru, q⟩
/-- a whole number of the module's top -/
def GI (mg : Str → Option Value) (x : Str) (n : Int) : Prop := ∃ t, mg x = some (.int n t)
theorem pe_gi {X : Cx} {x : Str} {n : Int} {pos : Pos} (h : GI X.mg x n) (hg : Gl X x := by rfl) (hd : (x == ("__debug__" : Str)) = false := by decide) : PE X (.Name x pos) (tC (.int n)) := by
  obtain ⟨t, h⟩ := h
  exact pe_glob hg h ⟨_, rfl⟩ hd
/-- a def of the top as it stands: its text, its name, how its arguments bind -/
structure Df (K : PySem.W.Frag) (mg : Str → Option Value) (x : Str) (st : Stmt) (ps : List Str) (f : Addr) (fd : FuncData) : Prop where
  F : Fun K x x st f fd
  g : mg x = some (.ref f)
  b : Binds K fd ps []
theorem ixN_last (n : Nat) : ixN (n + 1) (-1) = some n := by
  unfold ixN
  rw [if_neg (by decide), if_pos (by omega)]
  congr 1
  omega
theorem set_last {α : Type} (xs : List α) (v u : α) : (xs ++ [v]).set xs.length u = xs ++ [u] := by simp
theorem vI_app (a b : List Nat) : vI (a ++ b) = vI a ++ vI b := List.map_append ..
/-! equality of told lists -/
def dI (l : List Nat) : PyData := .list (l.map fun (n : Nat) => PyData.int (n : Int))
theorem dp_vI (K : PySem.W.Frag) (H : Hp) : ∀ l : List Nat, DpAll K H (vI l) (l.map fun (n : Nat) => PyData.int (n : Int))
  | [] => .nil
  | n :: l => .cons (.int _) (dp_vI K H l)
theorem NL.dp {K : PySem.W.Frag} {H : Hp} {a : Addr} {l : List Nat} (h : NL K H a l) : Dp K H (.ref a) (dI l) := .lst h (dp_vI K H l)
theorem lay_dI : ∀ l : List Nat, PyData.canLayAll0 (l.map fun (n : Nat) => PyData.int (n : Int)) = true
  | [] => rfl
  | n :: l => lay_dI l
theorem deep_dI : ∀ l : List Nat, PyData.depthAll (l.map fun (n : Nat) => PyData.int (n : Int)) = 0
  | [] => rfl
  | n :: l => by
    show max 0 (PyData.depthAll _) = 0
    rw [deep_dI l]
    rfl
theorem shaped_dI (l : List Nat) : SeqAt.shaped (dI l) = true := by
  unfold SeqAt.shaped
  rw [Bool.and_eq_true]
  refine ⟨lay_dI l, decide_eq_true ?_⟩
  show PyData.depthAll _ + 1 ≤ 64
  rw [deep_dI]
  decide
theorem eqvs_dI : ∀ l m : List Nat, PyData.eqvAll (l.map fun (n : Nat) => PyData.int (n : Int)) (m.map fun (n : Nat) => PyData.int (n : Int)) = decide (l = m)
  | [], [] => rfl
  | [], _ :: _ => rfl
  | _ :: _, [] => rfl
  | a :: l, b :: m => by
    show (((a : Int) == (b : Int)) && PyData.eqvAll _ _) = _
    rw [eqvs_dI l m]
    by_cases h : a = b
    · subst h
      simp
    · have : ¬ ((a : Int) = (b : Int)) := by omega
      simp [h, this]
theorem eqv_dI (l m : List Nat) : PyData.eqv (dI l) (dI m) = decide (l = m) := eqvs_dI l m
/-- a range with a step of 2 or 3, upwards -/
theorem rg_up {i j c : Int} {n : Nat} (hi : 0 ≤ i) (hi' : i < 2 ^ 40) (hj : j < 2 ^ 40) (hj' : 0 ≤ j) (hc : c = 2 ∨ c = 3) (hn : j - i = c * n) : RgC i j c n := by
  have hsz : Builtin.Range.rangeSize i j c = n := by
    unfold Builtin.Range.rangeSize
    rcases hc with rfl | rfl
    · rw [if_pos (by decide)]
      by_cases h : i < j
      · rw [if_pos h]; omega
      · rw [if_neg h]; omega
    · rw [if_pos (by decide)]
      by_cases h : i < j
      · rw [if_pos h]; omega
      · rw [if_neg h]; omega
  refine ⟨by omega, by omega, ?_, hsz⟩
  unfold Builtin.Range.small
  rw [hsz]
  have h0 : c > 0 := by omega
  have hb : c * (n : Int) ≤ 2 ^ 40 ∧ (n : Int) ≤ 2 ^ 40 := by
    rcases hc with rfl | rfl
    · omega
    · omega
  simp only [Builtin.Range.rangeFitsLong, Bool.and_eq_true, Bool.or_eq_true, decide_eq_true_eq, beq_iff_eq, h0, if_true]
  omega
/-- a list of plain numbers that stands in the heap by itself -/
def NR (H : Hp) (a : Addr) (l : List Nat) : Prop := H a = some (.lst (vI l))
theorem NR.same {H H' : Hp} {a : Addr} {l : List Nat} (h : NR H a l) (s : Same H H') : NR H' a l := s _ _ h
theorem NR.nl {K : PySem.W.Frag} {H : Hp} {a : Addr} {l : List Nat} (h : NR H a l) : NL K H a l := SqL.of h
/-- a name's value, or none -/
def NmV (K : PySem.W.Frag) (H : Hp) (v : V) (o : Option Ha01.Term) : Prop := match o with
  | none => v = .non
  | some t => ∃ a, v = .ref a ∧ NR H a (Ha01.told t) ∧ GoodT 8 t
/-- the ten names' values, in a list -/
structure NmAt (K : PySem.W.Frag) (H : Hp) (e : Ha01.Names) (vs : List V) : Prop where
  len : e.length = 10
  vlen : vs.length = 10
  at_ : ∀ (i : Nat) (v : V) (o : Option Ha01.Term), vs[i]? = some v → e[i]? = some o → NmV K H v o
theorem NmV.same {K : PySem.W.Frag} {H H' : Hp} {v : V} {o : Option Ha01.Term} (h : NmV K H v o) (s : Same H H') : NmV K H' v o := by
  cases o with
  | none => exact h
  | some t =>
    obtain ⟨a, e, n, g⟩ := h
    exact ⟨a, e, n.same s, g⟩
theorem NmAt.same {K : PySem.W.Frag} {H H' : Hp} {e : Ha01.Names} {vs : List V} (h : NmAt K H e vs) (s : Same H H') : NmAt K H' e vs := ⟨h.len, h.vlen, fun i v o a b => (h.at_ i v o a b).same s⟩
theorem NmAt.get {K : PySem.W.Frag} {H : Hp} {e : Ha01.Names} {vs : List V} (h : NmAt K H e vs) {i : Nat} (hi : i ≤ 9) : ∃ v, vs[i]? = some v ∧ NmV K H v (Ha01.valueOf e i) := by
  have h1 : i < vs.length := by rw [h.vlen]; omega
  have h2 : i < e.length := by rw [h.len]; omega
  refine ⟨vs[i], List.getElem?_eq_getElem h1, ?_⟩
  have := h.at_ i vs[i] e[i] (List.getElem?_eq_getElem h1) (List.getElem?_eq_getElem h2)
  unfold Ha01.valueOf
  rw [List.getD_eq_getElem?_getD, List.getElem?_eq_getElem h2]
  exact this
/-- a name's value as data -/
def dN : Option Ha01.Term → PyData
  | none => .none
  | some t => dI (Ha01.told t)
theorem NmV.dp {K : PySem.W.Frag} {H : Hp} {v : V} {o : Option Ha01.Term} (h : NmV K H v o) : Dp K H v (dN o) := by
  cases o with
  | none =>
    cases (h : v = .non)
    exact .non
  | some t =>
    obtain ⟨a, rfl, n, g⟩ := h
    exact n.nl.dp
theorem shaped_dN (o : Option Ha01.Term) : SeqAt.shaped (dN o) = true := by
  cases o with
  | none => rfl
  | some t => exact shaped_dI _
theorem NmV.good {K : PySem.W.Frag} {H : Hp} {v : V} {t : Ha01.Term} (h : NmV K H v (some t)) : GoodT 8 t := by
  obtain ⟨_, _, _, g⟩ := h
  exact g
/-- slices of a list of plain numbers -/
theorem cut_vI (l : List Nat) (i j : Nat) (hi : i ≤ l.length) : cutV (vI l) (some (i : Int)) (some (j : Int)) = vI ((l.drop i).take (j - i)) := by
  unfold cutV
  rw [vI_len, HT.sIx_nat, HT.sIx_nat, show min i l.length = i by omega]
  unfold vI
  rw [List.map_take, List.map_drop, List.take_eq_take_iff, List.length_drop, List.length_map]
  omega
theorem cut_from (l : List Nat) (i : Nat) (hi : i ≤ l.length) : cutV (vI l) (some (i : Int)) none = vI (l.drop i) := by
  unfold cutV
  rw [vI_len, HT.sIx_nat, HT.sIx_none, show min i l.length = i by omega]
  unfold vI
  rw [List.map_drop, List.take_of_length_le (by rw [List.length_drop, List.length_map]; omega)]
theorem cut2 {L r : List Nat} {i x y : Nat} (hi : i ≤ L.length) (h : L.drop i = x :: y :: r) : cutV (vI L) (some (i : Int)) (some ((i : Int) + 2)) = vI [x, y] := by
  rw [show ((i : Int) + 2) = ((i + 2 : Nat) : Int) by rfl, cut_vI _ _ _ hi, h, show i + 2 - i = 2 by omega]
  rfl
theorem NmAt.set {K : PySem.W.Frag} {H : Hp} {e : Ha01.Names} {vs : List V} (h : NmAt K H e vs) {i : Nat} {v : V} {o : Option Ha01.Term} (n : NmV K H v o) : NmAt K H (e.set i o) (vs.set i v) := by
  refine ⟨by rw [List.length_set]; exact h.len, by rw [List.length_set]; exact h.vlen, fun j u q hu hq => ?_⟩
  by_cases c : i = j
  · subst c
    have h1 : i < vs.length := by
      have := (List.getElem?_eq_some_iff.mp hu).1
      rw [List.length_set] at this
      exact this
    have h2 : i < e.length := by rw [h.len, ← h.vlen]; exact h1
    rw [List.getElem?_set_self h1] at hu
    rw [List.getElem?_set_self h2] at hq
    cases hu
    cases hq
    exact n
  · rw [List.getElem?_set_ne c] at hu hq
    exact h.at_ j u q hu hq
/-! what is new in a heap; two heaps as one -/
def Nw (H H' : Hp) : Hp := fun a => match H a with
  | none => H' a
  | some _ => none
def Jn (G N : Hp) : Hp := fun a => match G a with
  | some o => some o
  | none => N a
theorem nw_some {H H' : Hp} {a : Addr} {o : HO} : Nw H H' a = some o ↔ H a = none ∧ H' a = some o := by
  unfold Nw
  cases H a with
  | none => simp
  | some u => simp
theorem nw_sub (H H' : Hp) : Same (Nw H H') H' := fun a o e => (nw_some.mp e).2
theorem nw_mono {H H1 H2 : Hp} (s : Same H1 H2) : Same (Nw H H1) (Nw H H2) := fun a o e => nw_some.mpr ⟨(nw_some.mp e).1, s a o (nw_some.mp e).2⟩
theorem nw_late {H H1 H2 : Hp} (d : ∀ a, H1 a = none → H a = none) : Same (Nw H1 H2) (Nw H H2) := fun a o e => nw_some.mpr ⟨d a (nw_some.mp e).1, (nw_some.mp e).2⟩
theorem nw_upd {H H1 : Hp} {D : Addr} {o : HO} (h : H D ≠ none) : Same (Nw H H1) (Nw H (upd H1 D o)) := fun a u e => by
  have ⟨h1, h2⟩ := nw_some.mp e
  refine nw_some.mpr ⟨h1, ?_⟩
  rw [upd_ne (fun q => h (by rw [← q]; exact h1))]
  exact h2
theorem nw_none {H H' : Hp} {a : Addr} (h : H a ≠ none) : Nw H H' a = none := by
  unfold Nw
  cases e : H a with
  | none => exact absurd e h
  | some u => rfl
theorem jn_left (G N : Hp) : Same G (Jn G N) := fun a o e => by
  unfold Jn
  rw [e]
theorem jn_right {G N : Hp} (d : ∀ a o, N a = some o → G a = none) : Same N (Jn G N) := fun a o e => by
  unfold Jn
  rw [d a o e]
  exact e
theorem jn_mono {G N N' : Hp} (s : Same N N') : Same (Jn G N) (Jn G N') := fun a o e => by
  unfold Jn at e ⊢
  cases h : G a with
  | none => rw [h] at e; exact s a o e
  | some u => rw [h] at e; exact e
theorem jn_sub {G N H : Hp} (s : Same G H) (t : Same N H) : Same (Jn G N) H := fun a o e => by
  unfold Jn at e
  cases h : G a with
  | none => rw [h] at e; exact t a o e
  | some u =>
    rw [h] at e
    cases e
    exact s a _ h
theorem jn_none {G N : Hp} {a : Addr} (h : G a = none) (n : N a = none) : Jn G N a = none := by
  unfold Jn
  rw [h]
  exact n
theorem some_ne {H : Hp} {a : Addr} {o : HO} (h : H a = some o) : H a ≠ none := fun q => by rw [h] at q; cases q
/-! lists of objects -/
structure RefsAt {α : Type} (R : Addr → α → Prop) (as : List Addr) (xs : List α) : Prop where
  len : as.length = xs.length
  at_ : ∀ (j : Nat) (a : Addr) (x : α), as[j]? = some a → xs[j]? = some x → R a x
theorem RefsAt.nil {α : Type} {R : Addr → α → Prop} : RefsAt R [] [] := ⟨rfl, fun j a x h => by simp at h⟩
theorem RefsAt.mono {α : Type} {R S : Addr → α → Prop} {as : List Addr} {xs : List α} (h : RefsAt R as xs) (m : ∀ a x, x ∈ xs → R a x → S a x) : RefsAt S as xs :=
  ⟨h.len, fun j a x ha hx => m a x (List.mem_of_getElem? hx) (h.at_ j a x ha hx)⟩
theorem RefsAt.get {α : Type} {R : Addr → α → Prop} {as : List Addr} {xs : List α} (h : RefsAt R as xs) {j : Nat} {x : α} (hx : xs[j]? = some x) : ∃ a, as[j]? = some a ∧ R a x := by
  have hj : j < as.length := by rw [h.len]; exact (List.getElem?_eq_some_iff.mp hx).1
  exact ⟨as[j], List.getElem?_eq_getElem hj, h.at_ j _ x (List.getElem?_eq_getElem hj) hx⟩
theorem RefsAt.snoc {α : Type} {R : Addr → α → Prop} {as : List Addr} {xs : List α} {a : Addr} {x : α} (h : RefsAt R as xs) (r : R a x) : RefsAt R (as ++ [a]) (xs ++ [x]) := by
  refine ⟨by simp [h.len], fun j b y hb hy => ?_⟩
  by_cases c : j < as.length
  · rw [List.getElem?_append_left c] at hb
    rw [List.getElem?_append_left (by rw [← h.len]; exact c)] at hy
    exact h.at_ j b y hb hy
  · rw [List.getElem?_append_right (by omega)] at hb
    rw [List.getElem?_append_right (by rw [← h.len]; omega), ← h.len] at hy
    have e : j - as.length = 0 := by
      cases e : j - as.length with
      | zero => rfl
      | succ n => rw [e] at hb; simp at hb
    rw [e] at hb hy
    cases hb
    cases hy
    exact r
theorem RefsAt.erase {α : Type} {R : Addr → α → Prop} {as : List Addr} {xs : List α} (h : RefsAt R as xs) (i : Nat) : RefsAt R (as.eraseIdx i) (xs.eraseIdx i) := by
  refine ⟨by rw [List.length_eraseIdx, List.length_eraseIdx, h.len], fun j a x ha hx => ?_⟩
  rw [List.getElem?_eraseIdx] at ha hx
  by_cases c : j < i
  · rw [if_pos c] at ha hx
    exact h.at_ j a x ha hx
  · rw [if_neg c] at ha hx
    exact h.at_ (j + 1) a x ha hx
theorem take_more {α : Type} : ∀ {l : List α} {i : Nat} {x : α}, l[i]? = some x → l.take (i + 1) = l.take i ++ [x]
  | [], _, _, h => by simp at h
  | a :: l, 0, x, h => by
    cases h
    rfl
  | a :: l, i + 1, x, h => congrArg (List.cons a) (take_more (l := l) (i := i) h)
theorem refs_get {as : List Addr} {i : Nat} {v : V} (h : (as.map V.ref)[i]? = some v) : ∃ a, as[i]? = some a ∧ v = V.ref a := by
  rw [List.getElem?_map] at h
  cases e : as[i]? with
  | none => rw [e] at h; cases h
  | some a => rw [e] at h; exact ⟨a, rfl, (Option.some.inj h).symm⟩
theorem refs_at {as : List Addr} {i : Nat} {a : Addr} (h : as[i]? = some a) : (as.map V.ref)[i]? = some (V.ref a) := by
  rw [List.getElem?_map, h]
  rfl
/-- tests as they lie -/
def TestsAt (K : PySem.W.Frag) (H : Hp) (q : Addr) (ts : List Ha01.Test) : Prop := ∃ as : List Addr, SqL K H q (as.map V.ref) ∧ RefsAt (fun a x => NL K H a (tl x)) as ts
theorem TestsAt.same {K : PySem.W.Frag} {H H' : Hp} {q : Addr} {ts : List Ha01.Test} (h : TestsAt K H q ts) (s : Same H H') : TestsAt K H' q ts := by
  obtain ⟨as, a, b⟩ := h
  exact ⟨as, s.seq a, b.mono fun _ _ _ n => NL.same n s⟩
theorem Same.tup {K : PySem.W.Frag} {H H' : Hp} {a : Addr} {xs : List V} (e : Same H H') (h : SqT K H a xs) : SqT K H' a xs := by
  rcases h with (h | ⟨o, h⟩) | h
  · exact .inl (.inl (e _ _ h))
  · exact .inl (.inr ⟨o, e _ _ h⟩)
  · exact .inr h
/-- a clause as it lies -/
def ClAt (K : PySem.W.Frag) (H : Hp) (a : Addr) (c : Ha01.Clause) : Prop := ∃ p q : Addr, SqT K H a [.ref p, .ref q] ∧ NL K H p (ptold c.pat) ∧ GoodP 8 c.pat ∧ TestsAt K H q c.tests ∧ c.tests.all okTest = true ∧ c.tests.length ≤ 4
theorem ClAt.same {K : PySem.W.Frag} {H H' : Hp} {a : Addr} {c : Ha01.Clause} (h : ClAt K H a c) (s : Same H H') : ClAt K H' a c := by
  obtain ⟨p, q, h1, h2, h3, h4, h5⟩ := h
  exact ⟨p, q, Same.tup s h1, h2.same s, h3, h4.same s, h5⟩
def CsAt (K : PySem.W.Frag) (H : Hp) (q : Addr) (cs : List Ha01.Clause) : Prop := ∃ as : List Addr, SqL K H q (as.map V.ref) ∧ RefsAt (fun a c => ClAt K H a c) as cs
theorem CsAt.same {K : PySem.W.Frag} {H H' : Hp} {q : Addr} {cs : List Ha01.Clause} (h : CsAt K H q cs) (s : Same H H') : CsAt K H' q cs := by
  obtain ⟨as, a, b⟩ := h
  exact ⟨as, s.seq a, b.mono fun _ _ _ n => ClAt.same n s⟩
def top (i : Nat) : Stmt := PySem.Challenge.pw_pickedletters_s01_answers.main.body.getD i (.Pass ⟨0, 0, 0, 0⟩)
end Pk

set_option Elab.async false
set_option linter.all false
set_option maxRecDepth 100000
set_option maxHeartbeats 2000000
/-! terms.py -/
namespace Pk
open PySem PySem.Spec PyProof.Rows L2
abbrev sPartLen : Stmt := top 10
abbrev sIsPart : Stmt := top 11
abbrev sEndOf : Stmt := top 12
abbrev sIsTerm : Stmt := top 13
abbrev sHasTok : Stmt := top 14
abbrev sAsks : Stmt := top 15
/-- what the top of the module has: constants, the tuple HIGHEST, the names that stay Python's own -/
structure Tx (K : PySem.W.Frag) (mg : Str → Option Value) : Prop where
  len : mg "len" = none
  range : mg "range" = none
  NUMBER : GI mg "NUMBER" 0
  WORD : GI mg "WORD" 1
  TOKEN : GI mg "TOKEN" 2
  ROW : GI mg "ROW" 3
  ANYTHING : GI mg "ANYTHING" 4
  NAME : GI mg "NAME" 5
  DEEPEST : GI mg "DEEPEST" 8
  LONGEST_TERM : GI mg "LONGEST_TERM" 60
  HIGHEST : ∃ a, mg "HIGHEST" = some (.ref a) ∧ ∀ H : Hp, SqT K H a (vI [1000000, 99, 1000, 8, 0, 9])
theorem high_at {k : Nat} (h : k ≤ 5) : atI (vI [1000000, 99, 1000, 8, 0, 9]) (k : Int) = some (V.int (high k : Nat)) := by
  match k, h with
  | 0, _ => rfl
  | 1, _ => rfl
  | 2, _ => rfl
  | 3, _ => rfl
  | 4, _ => rfl
  | 5, _ => rfl
/-! promises -/
def spPartLen : Sp := fun vs H Q _ => ∃ k : Nat, vs = [.int (k : Int)] ∧ Q (.int (partLen k : Nat)) H
def spIsPart (K : PySem.W.Frag) : Sp := fun vs H Q _ => ∃ (a : Addr) (l : List Nat) (i last : Nat), vs = [.ref a, .int (i : Int), .int (last : Int)] ∧ NL K H a l ∧ last ≤ 5 ∧ Q (.bl (partOk last (l.drop i))) H
def endV (n : Nat) (r : Option (List Nat)) : V := match r with
  | none => .non
  | some r => .int ((n - r.length : Nat) : Int)
def spEndOf (K : PySem.W.Frag) : Sp := fun vs H Q _ => ∃ (a : Addr) (l : List Nat) (i last : Nat), vs = [.ref a, .int (i : Int), .int (last : Int)] ∧ NL K H a l ∧ last ≤ 5 ∧ i ≤ l.length ∧
  ∀ H' : Hp, Same H H' → Q (endV l.length (skip last 8 (l.drop i))) H'
section
variable {P : Program} {w : World} {K : PySem.W.Frag} {mg : Str → Option Value} {base : Heap}
theorem scPartLen : FnScope ["kind"] ["kind"] (defScope sPartLen) := ⟨rfl, rfl, rfl, by decide +kernel, rfl, by decide +kernel, by decide +kernel⟩
theorem okPartLen {f : Addr} {fd : FuncData} (F : Fun K "part_length" "part_length" sPartLen f fd) (T : Tx K mg) : FnOk P w K mg base CX0 1 f fd ["kind"] spPartLen := by
  refine F.ok scPartLen (fun vs H Q E h => ?_) (fun cdv A outer s H vs Q E hr h => ?_)
  · obtain ⟨k, rfl, _⟩ := h
    rfl
  · obtain ⟨k, rfl, q⟩ := h
    refine ⟨_, pss_one (ps_ret (pe_ifExp (pt_cmpR op_eq (pv 0) (pe_gi T.ANYTHING) (nomark _)) pe_int pe_int)), ?_⟩
    refine ⟨_, rfl, rfl, _, rfl, ?_⟩
    unfold partLen at q
    by_cases h : k = 4
    · subst h
      exact iteT q
    · rw [if_neg h] at q
      rw [decide_eq_false (by intro e; cases e; exact h rfl)]
      exact iteF q
theorem scIsPart : FnScope ["told", "place", "last_kind"] ["told", "place", "last_kind"] (defScope sIsPart) := ⟨rfl, rfl, rfl, by decide +kernel, rfl, by decide +kernel, by decide +kernel⟩
theorem okIsPart {f : Addr} {fd : FuncData} (F : Fun K "is_part" "is_part" sIsPart f fd) (T : Tx K mg) : FnOk P w K mg base CX0 1 f fd ["told", "place", "last_kind"] (spIsPart K) := by
  refine F.ok scIsPart (fun vs H Q E h => ?_) (fun cdv A outer s H vs Q E hr h => ?_)
  · obtain ⟨a, l, i, last, rfl, _⟩ := h
    rfl
  · obtain ⟨a, l, i, last, rfl, hl, h5, q⟩ := h
    obtain ⟨aH, gH, tH⟩ := T.HIGHEST
    refine ⟨_, pss_cons (ps_if (PW.pt (pw_or (pt_cmpR op_ge (pv 1) (pe_callB call_len_seq (by rfl) T.len PySem.boot_len (pa_cons (pv 0) pa_nil)) (nomark _))
          (pw_or1 (pt_cmpR op_gt (pe_ix ix_list (pv 0) (pv 1) (fun _ _ => rfl)) (pv 2) (nomark _))))) (pss_one (ps_ret pe_bl)) pss_nil)
      (pss_cons (ps_if (pt_cmpR op_eq (pe_ix ix_list (pv 0) (pv 1) (fun _ _ => rfl)) (pe_gi T.ANYTHING) (nomark _)) (pss_one (ps_ret pe_bl)) pss_nil)
      (pss_one (ps_ret (pe_and (pe_cmpR op_lt (pe_op op_add (pv 1) pe_int) (pe_callB call_len_seq (by rfl) T.len PySem.boot_len (pa_cons (pv 0) pa_nil)) (nomark _))
        (pe_one (pe_cmpR op_le (pe_ix ix_list (pv 0) (pe_op op_add (pv 1) pe_int) (fun _ _ => rfl)) (pe_ix ix_tup (pe_glob (v := .ref aH) (by rfl) gH rfl) (pe_ix ix_list (pv 0) (pv 1) (fun _ _ => rfl)) (fun _ _ => rfl)) (nomark _))))))), ?_⟩
    refine ⟨_, rfl, _, rfl, a, _, rfl, .inl hl, _, _, rfl, rfl, _, rfl, ?_⟩
    rw [vI_len]
    by_cases h1 : l.length ≤ i
    · rw [decide_eq_true (by omega)]
      rw [List.drop_eq_nil_of_le h1] at q
      exact iteT (iteT q)
    · rw [decide_eq_false (by omega)]
      refine iteF ?_
      have hi : i < l.length := by omega
      obtain ⟨k, r, e1⟩ : ∃ k r, l.drop i = k :: r := ⟨_, _, List.drop_eq_getElem_cons hi⟩
      have e2 : l[i]? = some k := by rw [← List.head?_drop, e1]; rfl
      rw [e1] at q
      refine ⟨_, rfl, _, rfl, a, _, _, _, rfl, rfl, hl, vI_at e2, _, rfl, _, _, rfl, rfl, _, rfl, ?_⟩
      by_cases h2 : k ≤ last
      · rw [decide_eq_false (by omega)]
        refine iteF ⟨_, rfl, _, rfl, a, _, _, _, rfl, rfl, hl, vI_at e2, rfl, _, rfl, ?_⟩
        by_cases h3 : k = 4
        · subst h3
          refine iteT ?_
          show Q _ H
          have e : partOk last (4 :: r) = true := by simp [partOk, h2]
          rw [e] at q
          exact q
        · rw [decide_eq_false (by intro e; cases e; exact h3 rfl)]
          refine iteF ?_
          refine ⟨_, rfl, _, _, rfl, rfl, _, rfl, a, _, rfl, .inl hl, _, _, rfl, rfl, _, rfl, ?_⟩
          rw [vI_len]
          by_cases h4 : i + 1 < l.length
          · rw [decide_eq_true (by omega)]
            refine iteT ?_
            obtain ⟨v, r', e3⟩ : ∃ v r', r = v :: r' := by
              cases r with
              | nil =>
                have := congrArg List.length e1
                simp at this
                omega
              | cons v r' => exact ⟨v, r', rfl⟩
            have e4 : l[i + 1]? = some v := by
              have e5 : (l.drop i)[1]? = some v := by rw [e1, e3]; rfl
              rw [List.getElem?_drop] at e5
              exact e5
            refine ⟨_, rfl, _, rfl, _, _, rfl, rfl, a, _, _, _, rfl, rfl, hl, vI_at (i := i + 1) e4, _, rfl, _, rfl, a, _, _, _, rfl, rfl, hl, vI_at e2, aH, _, _, _, rfl, rfl, tH _, high_at (by omega), _, _, rfl, rfl, ?_⟩
            have e : partOk last (k :: r) = decide ((v : Int) ≤ ((high k : Nat) : Int)) := by
              rw [e3]
              simp [partOk, h2, h3]
            rw [e] at q
            exact q
          · rw [decide_eq_false (by omega)]
            refine iteF ?_
            have e3 : r = [] := by
              have := congrArg List.length e1
              simp at this
              cases r with
              | nil => rfl
              | cons v r' => simp at this; omega
            have e : partOk last (k :: r) = false := by
              rw [e3]
              simp [partOk, h3]
            rw [e] at q
            exact q
      · rw [decide_eq_true (by omega)]
        have e : partOk last (k :: r) = false := by simp [partOk, h2]
        rw [e] at q
        exact iteT q
theorem scEndOf : FnScope ["told", "start", "last_kind", "place", "lacking", "kind"] ["told", "start", "last_kind"] (defScope sEndOf) := ⟨rfl, rfl, rfl, by decide +kernel, rfl, by decide +kernel, by decide +kernel⟩
/-- the stack as the program keeps it: the innermost last -/
def stk (st : List Nat) : HO := .lst (vI st.reverse)
theorem stk_cons (c : Nat) (s : List Nat) : stk (c :: s) = .lst (vI s.reverse ++ [V.int (c : Int)]) := by
  unfold stk
  rw [List.reverse_cons, vI_app]
  rfl
theorem stk_len (st : List Nat) : (vI st.reverse).length = st.length := by rw [vI_len, List.length_reverse]
theorem okEndOf {f fP fL : Addr} {fd fdP fdL : FuncData} (F : Fun K "end_of" "end_of" sEndOf f fd) (T : Tx K mg) (DP : Df K mg "is_part" sIsPart ["told", "place", "last_kind"] fP fdP) (DL : Df K mg "part_length" sPartLen ["kind"] fL fdL) :
    FnOk P w K mg base CX0 2 f fd ["told", "start", "last_kind"] (spEndOf K) := by
  have GP : FnOk P w K mg base CX0 1 fP fdP _ (spIsPart K) := okIsPart DP.F T
  have GL : FnOk P w K mg base CX0 1 fL fdL _ spPartLen := okPartLen DL.F T
  refine F.ok scEndOf (fun vs H Q E h => ?_) (fun cdv A outer s H vs Q E hr h => ?_)
  · obtain ⟨a, l, i, last, rfl, _⟩ := h
    rfl
  · obtain ⟨a, l, i, last, rfl, hl, h5, hi, k⟩ := h
    refine ⟨_, pss_cons (ps_set (i := 3) scEndOf.nd rfl (Or.inl rfl) (pv 1))
      (pss_cons (ps_set (i := 4) scEndOf.nd rfl (Or.inl rfl) (pe_lst (pa_cons pe_int pa_nil)))
      (pss_cons (ps_while PassesOwn.never (pt_cmpR op_gt (pe_callB call_len_seq (by rfl) T.len PySem.boot_len (pa_cons (pv 4) pa_nil)) pe_int (nomark _))
        (pss_cons (ps_if (PW.pt (pw_or (pt_cmpR op_gt (pe_callB call_len_seq (by rfl) T.len PySem.boot_len (pa_cons (pv 4) pa_nil)) (pe_gi T.DEEPEST) (nomark _))
            (pw_or1 (pt_not (pt_val (pe_call GP hr (by rfl) DP.g DP.F.kp DP.b .nil pass0 (pa_cons (pv 0) (pa_cons (pv 3) (pa_cons (pv 2) pa_nil))))))))) (pss_one (ps_ret pe_non)) pss_nil)
        (pss_cons (ps_set (i := 5) scEndOf.nd rfl (Or.inl rfl) (pe_ix ix_list (pv 0) (pv 3) (fun _ _ => rfl)))
        (pss_cons (ps_augS (pv 4) (pe_un un_neg pe_int) get_list pe_int ip_sub set_list)
        (pss_cons (ps_if (pt_cmpR op_eq (pv 5) (pe_gi T.ROW) (nomark _))
            (pss_one (ps_expr (pe_bm PySem.F.plainAttrs_list PySem.F.slot_list_append PySem.F.type_list_append mt_append (pv 4) (pa_cons (pe_ix ix_list (pv 0) (pe_op op_add (pv 3) pe_int) (fun _ _ => rfl)) pa_nil)))) pss_nil)
        (pss_cons (ps_while PassesOwn.never (PW.pt (pw_and (pt_cmpR op_gt (pe_callB call_len_seq (by rfl) T.len PySem.boot_len (pa_cons (pv 4) pa_nil)) pe_int (nomark _))
            (pw_and1 (pt_cmpR op_eq (pe_ix ix_list (pv 4) (pe_un un_neg pe_int) (fun _ _ => rfl)) pe_int (nomark _)))))
            (pss_one (ps_expr (pe_bm0 PySem.F.plainAttrs_list PySem.F.slot_list_pop PySem.F.type_list_pop mt_pop (pv 4)))))
        (pss_one (ps_aug (i := 3) scEndOf.nd rfl (Or.inl rfl) (pe_call GL hr (by rfl) DL.g DL.F.kp DL.b .nil pass0 (pa_cons (pv 5) pa_nil)) ip_add))))))))
      (pss_one (ps_ret (pv 3))))), ?_⟩
    refine ⟨_, rfl, (by show 1 ≤ sizeLine; decide), fun q hq => ?_⟩
    -- the loop
    refine ⟨fun m σ H' => ∃ (st : List Nat) (pl : Nat) (kv : Option V), σ = [some (.ref a), some (.int (i : Int)), some (.int (last : Int)), some (.int (pl : Int)), some (.ref q), kv] ∧ m = l.length - pl ∧ Same H H' ∧ H' q = some (stk st) ∧ pl ≤ l.length ∧
        skipS last st (l.drop pl) = skip last 8 (l.drop i) ∧ st.length ≤ 9 ∧ (∀ c s, st = c :: s → 1 ≤ c),
      ⟨_, [1], i, none, rfl, rfl, Same.new hq, upd_same, hi, skipS_one _ _, by decide, fun c s e => by cases e; decide⟩, ?_⟩
    rintro m σ H1 ⟨st, pl, kv, rfl, rfl, sm, hQ, hpl, hsk, h9, hhd⟩
    refine ⟨_, rfl, q, _, rfl, .inl (SqL.of hQ), _, _, rfl, rfl, _, rfl, ?_⟩
    rw [stk_len]
    cases st with
    | nil =>
      refine iteF ?_
      refine ⟨_, rfl, ?_⟩
      have e := k H1 sm
      rw [← hsk] at e
      have e2 : endV l.length (skipS last [] (l.drop pl)) = .int (pl : Int) := by
        show V.int ((l.length - (l.drop pl).length : Nat) : Int) = _
        rw [List.length_drop, show l.length - (l.length - pl) = pl by omega]
      rw [e2] at e
      exact e
    | cons c1 s =>
      obtain ⟨c, rfl⟩ : ∃ c, c1 = c + 1 := ⟨c1 - 1, by have := hhd c1 s rfl; omega⟩
      rw [decide_eq_true (by show (0 : Int) < ((s.length + 1 : Nat) : Int); omega)]
      refine iteT ⟨fun σ' H' => ∃ m', m' < l.length - pl ∧ ∃ (st : List Nat) (pl : Nat) (kv : Option V), σ' = [some (.ref a), some (.int (i : Int)), some (.int (last : Int)), some (.int (pl : Int)), some (.ref q), kv] ∧ m' = l.length - pl ∧ Same H H' ∧ H' q = some (stk st) ∧ pl ≤ l.length ∧
        skipS last st (l.drop pl) = skip last 8 (l.drop i) ∧ st.length ≤ 9 ∧ (∀ c s, st = c :: s → 1 ≤ c), fun _ _ z => z, ?_⟩
      refine ⟨_, rfl, q, _, rfl, .inl (SqL.of hQ), _, _, rfl, rfl, _, rfl, ?_⟩
      rw [stk_len]
      by_cases hd8 : 8 ≤ s.length
      · rw [decide_eq_true (by show (8 : Int) < ((s.length + 1 : Nat) : Int); omega)]
        refine iteT (iteT ?_)
        have e := k H1 sm
        rw [← hsk, skipS_deep _ _ _ _ hd8] at e
        exact e
      · rw [decide_eq_false (by show ¬ (8 : Int) < ((s.length + 1 : Nat) : Int); omega)]
        refine iteF ?_
        have hl1 : NL K H1 a l := hl.same sm
        refine ⟨_, rfl, _, rfl, _, rfl, a, l, pl, last, rfl, hl1, h5, _, rfl, ?_⟩
        cases hp : partOk last (l.drop pl) with
        | false =>
          refine iteT ?_
          have e := k H1 sm
          rw [← hsk, skipS_bad _ _ _ _ hp] at e
          exact e
        | true =>
          refine iteF ?_
          have hlt : pl < l.length := by
            by_cases hh : pl < l.length
            · exact hh
            · rw [List.drop_eq_nil_of_le (by omega)] at hp
              cases hp
          obtain ⟨kd, r, e1⟩ : ∃ kd r, l.drop pl = kd :: r := ⟨_, _, List.drop_eq_getElem_cons hlt⟩
          have e2 : l[pl]? = some kd := by rw [← List.head?_drop, e1]; rfl
          have hlen : l.length - pl = r.length + 1 := by rw [← List.length_drop, e1]; rfl
          have hgo : pl + partLen kd ≤ l.length := by
            unfold partLen
            by_cases h4 : kd = 4
            · rw [if_pos h4]; omega
            · rw [if_neg h4]
              cases r with
              | nil =>
                rw [e1] at hp
                simp [partOk, h4] at hp
              | cons v r' => simp at hlen; omega
          have hpos : 1 ≤ partLen kd := by unfold partLen; split <;> omega
          -- kind = told[place]
          refine ⟨_, rfl, _, rfl, a, _, _, _, rfl, rfl, hl1, vI_at e2, ?_⟩
          -- lacking[-1] -= 1
          rw [stk_cons] at hQ
          refine ⟨_, rfl, _, rfl, q, _, _, _, rfl, rfl, SqL.of hQ, atI_last _ _, _, _, rfl, rfl, q, _, _, _, rfl, rfl, hQ, (by rw [List.length_append]; exact ixN_last _), ?_⟩
          rw [set_last, show V.int (((c + 1 : Nat) : Int) - 1) = V.int (c : Int) by congr 1; omega, ← stk_cons]
          have sm2 : Same H (upd H1 q (stk (c :: s))) := fun b o e => by
            rw [upd_ne (ne_of_none e hq)]
            exact sm b o e
          -- what the inner loop leaves
          have inner : ∀ (st2 : List Nat) (H2 : Hp), Same H H2 → H2 q = some (stk st2) → st2.length ≤ 9 → skipS last st2 (l.drop (pl + partLen kd)) = skip last 8 (l.drop i) →
              ∀ (N : Ends), (∀ (st3 : List Nat) (H3 : Hp), Same H H3 → H3 q = some (stk st3) → st3.length ≤ 9 → skipS last st3 (l.drop (pl + partLen kd)) = skip last 8 (l.drop i) → (∀ c s, st3 = c :: s → 1 ≤ c) →
                N.nx [some (.ref a), some (.int (i : Int)), some (.int (last : Int)), some (.int (pl : Int)), some (.ref q), some (.int (kd : Int))] H3) →
              tWhile (tAnd (tTest (tOp (rI0 fun i j => .bl (decide (j < i))) (tCB (fun xs H Q => ∃ p ys, xs = [V.ref p] ∧ (SqL K H p ys ∨ SqT K H p ys) ∧ Q (V.int ys.length) H) (tCons (tVar 4) tNil)) (tC (.int 0))))
                  (tTest (tOp rEq (tOp (rIxL K) (tVar 4) (tUn (rU fun i => .int (-i)) (tC (.int 1)))) (tC (.int 0)))))
                (tDrop (tBM0 K "list" rPop (tVar 4))) N [some (.ref a), some (.int (i : Int)), some (.int (last : Int)), some (.int (pl : Int)), some (.ref q), some (.int (kd : Int))] H2 := by
            intro st2 H2 s2 hq2 hn2 hk2 N hN
            refine ⟨fun m σ H' => ∃ st3, σ = [some (.ref a), some (.int (i : Int)), some (.int (last : Int)), some (.int (pl : Int)), some (.ref q), some (.int (kd : Int))] ∧ m = st3.length ∧ Same H H' ∧ H' q = some (stk st3) ∧ st3.length ≤ 9 ∧ skipS last st3 (l.drop (pl + partLen kd)) = skip last 8 (l.drop i),
              ⟨_, st2, rfl, rfl, s2, hq2, hn2, hk2⟩, ?_⟩
            rintro m σ H3 ⟨st3, rfl, rfl, s3, hq3, hn3, hk3⟩
            refine ⟨_, rfl, q, _, rfl, .inl (SqL.of hq3), _, _, rfl, rfl, _, rfl, ?_⟩
            rw [stk_len]
            cases st3 with
            | nil => exact iteF (iteF (hN [] H3 s3 hq3 hn3 hk3 fun c s e => by cases e))
            | cons d s3' =>
              rw [decide_eq_true (by show (0 : Int) < ((s3'.length + 1 : Nat) : Int); omega)]
              refine iteT ?_
              have hq3' := hq3
              rw [stk_cons] at hq3'
              refine ⟨_, rfl, _, rfl, q, _, _, _, rfl, rfl, SqL.of hq3', atI_last _ _, rfl, _, rfl, ?_⟩
              by_cases hd0 : d = 0
              · subst hd0
                refine iteT ⟨fun σ' H' => ∃ m', m' < s3'.length + 1 ∧ ∃ st3, σ' = [some (.ref a), some (.int (i : Int)), some (.int (last : Int)), some (.int (pl : Int)), some (.ref q), some (.int (kd : Int))] ∧ m' = st3.length ∧ Same H H' ∧ H' q = some (stk st3) ∧ st3.length ≤ 9 ∧ skipS last st3 (l.drop (pl + partLen kd)) = skip last 8 (l.drop i), fun _ _ z => z, ?_⟩
                refine ⟨_, rfl, .inl ⟨rfl, _, SqL.of hq3'⟩, q, _, _, rfl, rfl, hq3', (by rw [List.length_append]; exact List.getElem?_concat_length), ?_⟩
                rw [List.dropLast_concat]
                refine ⟨s3'.length, by omega, s3', rfl, rfl, fun b o e => ?_, upd_same, by simp at hn3; omega, hk3⟩
                rw [upd_ne (ne_of_none e hq)]
                exact s3 b o e
              · rw [decide_eq_false (by intro e; cases e; exact hd0 rfl)]
                exact iteF (hN _ H3 s3 hq3 hn3 hk3 fun c s e => by cases e; omega)
          -- behind it: place += part_length(kind)
          have fin : ∀ (st3 : List Nat) (H3 : Hp), Same H H3 → H3 q = some (stk st3) → st3.length ≤ 9 → skipS last st3 (l.drop (pl + partLen kd)) = skip last 8 (l.drop i) → (∀ c s, st3 = c :: s → 1 ≤ c) →
              ∃ m', m' < l.length - pl ∧ ∃ (st : List Nat) (pl' : Nat) (kv : Option V), [some (V.ref a), some (.int (i : Int)), some (.int (last : Int)), some (.int ((pl : Int) + (partLen kd : Nat))), some (.ref q), some (.int (kd : Int))] = [some (.ref a), some (.int (i : Int)), some (.int (last : Int)), some (.int (pl' : Int)), some (.ref q), kv] ∧ m' = l.length - pl' ∧ Same H H3 ∧ H3 q = some (stk st) ∧ pl' ≤ l.length ∧
                skipS last st (l.drop pl') = skip last 8 (l.drop i) ∧ st.length ≤ 9 ∧ (∀ c s, st = c :: s → 1 ≤ c) := by
            intro st3 H3 s3 hq3 hn3 hk3 hh3
            exact ⟨l.length - (pl + partLen kd), by omega, st3, pl + partLen kd, _, rfl, rfl, s3, hq3, hgo, hk3, hn3, hh3⟩
          refine ⟨_, rfl, rfl, _, rfl, ?_⟩
          rw [e1] at hp hsk
          by_cases h3 : kd = 3
          · subst h3
            refine iteT ?_
            cases r with
            | nil => simp [partOk] at hp
            | cons v r' =>
              have e4 : l[pl + 1]? = some v := by
                have e5 : (l.drop pl)[1]? = some v := by rw [e1]; rfl
                rw [List.getElem?_drop] at e5
                exact e5
              have hv : skipS last (v :: c :: s) (l.drop (pl + partLen 3)) = skip last 8 (l.drop i) := by
                rw [← hsk, skipS_row _ _ _ _ _ (by omega) hp]
                congr 1
                show l.drop (pl + 2) = r'
                rw [← List.drop_drop, e1]
                rfl
              refine ⟨_, rfl, .inl ⟨rfl, _, SqL.of upd_same⟩, _, rfl, _, rfl, _, _, rfl, rfl, a, _, _, _, rfl, rfl, hl.same sm2, vI_at (i := pl + 1) e4, q, _, _, rfl, rfl, upd_same, (by rw [stk_len]; exact small1000 (by simp; simp at h9; omega)), ?_⟩
              rw [show HO.lst (vI (c :: s).reverse ++ [V.int (v : Int)]) = stk (v :: c :: s) from (stk_cons v (c :: s)).symm]
              refine inner (v :: c :: s) _ (fun b o e => ?_) upd_same (by simp; omega) hv _ fun st3 H3 s3 hq3 hn3 hk3 hh3 => ?_
              · rw [upd_ne (ne_of_none e hq)]
                exact sm2 b o e
              · exact ⟨_, rfl, _, rfl, 3, rfl, _, _, rfl, rfl, fin st3 H3 s3 hq3 hn3 hk3 hh3⟩
          · rw [decide_eq_false (by intro e; cases e; exact h3 rfl)]
            refine iteF ?_
            have hv : skipS last (c :: s) (l.drop (pl + partLen kd)) = skip last 8 (l.drop i) := by
              rw [← hsk, skipS_part _ _ _ _ _ (by omega) hp h3, ← List.drop_drop, e1]
            refine inner (c :: s) _ sm2 upd_same (by simpa using h9) hv _ fun st3 H3 s3 hq3 hn3 hk3 hh3 => ?_
            exact ⟨_, rfl, _, rfl, kd, rfl, _, _, rfl, rfl, fin st3 H3 s3 hq3 hn3 hk3 hh3⟩
/-! is_term -/
def spIsTerm (K : PySem.W.Frag) : Sp := fun vs H Q _ => ∃ (a : Addr) (l : List Nat), vs = [.ref a] ∧ NL K H a l ∧ ∀ H' : Hp, Same H H' → Q (.bl (Ha01.term? l).isSome) H'
theorem term_long {l : List Nat} (h : 60 < l.length) : Ha01.term? l = none := by
  unfold Ha01.term?
  rw [if_pos h]
theorem term_some {l : List Nat} (h : ¬ 60 < l.length) : (Ha01.term? l).isSome = decide (endV l.length (skip 3 8 l) = .int (l.length : Int)) := by
  unfold Ha01.term?
  rw [if_neg h, ← rt_skip]
  cases e : Ha01.readTerm 8 l with
  | none =>
    show false = _
    exact (decide_eq_false (by intro q; cases q)).symm
  | some x =>
    obtain ⟨t, r⟩ := x
    have hs := (rt_sound 8 l t r e).2
    have hlen : r.length ≤ l.length := by rw [hs, List.length_append]; omega
    show _ = decide (V.int ((l.length - r.length : Nat) : Int) = V.int (l.length : Int))
    cases r with
    | nil => simp
    | cons y r =>
      show false = _
      refine (decide_eq_false (fun q => ?_)).symm
      have := V.int.inj q
      simp at hlen this
      omega
theorem scIsTerm : FnScope ["told"] ["told"] (defScope sIsTerm) := ⟨rfl, rfl, rfl, by decide +kernel, rfl, by decide +kernel, by decide +kernel⟩
theorem okIsTerm {f fE : Addr} {fd fdE : FuncData} (F : Fun K "is_term" "is_term" sIsTerm f fd) (T : Tx K mg) (DE : Df K mg "end_of" sEndOf ["told", "start", "last_kind"] fE fdE) (GE : FnOk P w K mg base CX0 2 fE fdE ["told", "start", "last_kind"] (spEndOf K)) :
    FnOk P w K mg base CX0 3 f fd ["told"] (spIsTerm K) := by
  refine F.ok scIsTerm (fun vs H Q E h => ?_) (fun cdv A outer s H vs Q E hr h => ?_)
  · obtain ⟨a, l, rfl, _⟩ := h
    rfl
  · obtain ⟨a, l, rfl, hl, k⟩ := h
    refine ⟨_, pss_one (ps_ret (pe_and (pe_cmpR op_le (pe_callB call_len_seq (by rfl) T.len PySem.boot_len (pa_cons (pv 0) pa_nil)) (pe_gi T.LONGEST_TERM) (nomark _))
      (pe_one (pe_cmpR op_eq (pe_call GE hr (by rfl) DE.g DE.F.kp DE.b .nil pass0 (pa_cons (pv 0) (pa_cons pe_int (pa_cons (pe_gi T.ROW) pa_nil)))) (pe_callB call_len_seq (by rfl) T.len PySem.boot_len (pa_cons (pv 0) pa_nil)) (nomark _))))), ?_⟩
    refine ⟨_, rfl, a, _, rfl, .inl hl, _, _, rfl, rfl, _, rfl, ?_⟩
    rw [vI_len]
    by_cases h : 60 < l.length
    · rw [decide_eq_false (by omega)]
      have q := k H (Same.refl H)
      rw [term_long h] at q
      exact iteF q
    · rw [decide_eq_true (by omega)]
      refine iteT ⟨_, rfl, a, l, 0, 3, rfl, hl, by decide, Nat.zero_le _, fun H' sm => ?_⟩
      refine ⟨_, rfl, a, _, rfl, .inl (hl.same sm), ?_⟩
      rw [vI_len]
      have q := k H' sm
      rw [term_some h] at q
      refine ⟨?_, q⟩
      show scal (endV l.length (skip 3 8 l)) _ = true
      cases skip 3 8 l <;> rfl
/-! has_token_from -/
def spHasTok (K : PySem.W.Frag) : Sp := fun vs H Q _ => ∃ (a : Addr) (t : Ha01.Term) (b : Nat), vs = [.ref a, .int (b : Int)] ∧ NL K H a (Ha01.told t) ∧ GoodT 8 t ∧ (Ha01.told t).length ≤ 60 ∧ Q (.bl (!Ha01.tokensBelow b t)) H
theorem scHasTok : FnScope ["term", "first", "place"] ["term", "first"] (defScope sHasTok) := ⟨rfl, rfl, rfl, by decide +kernel, rfl, by decide +kernel, by decide +kernel⟩
theorem okHasTok {f : Addr} {fd : FuncData} (F : Fun K "has_token_from" "has_token_from" sHasTok f fd) (T : Tx K mg) : FnOk P w K mg base CX0 1 f fd ["term", "first"] (spHasTok K) := by
  refine F.ok scHasTok (fun vs H Q E h => ?_) (fun cdv A outer s H vs Q E hr h => ?_)
  · obtain ⟨a, t, b, rfl, _⟩ := h
    rfl
  · obtain ⟨a, t, b, rfl, hl, hg, h60, k⟩ := h
    refine ⟨_, pss_cons (ps_for PassesOwn.never rfl (pi_range3 rfl T.range (pa_cons pe_int (pa_cons (pe_callB call_len_seq (by rfl) T.len PySem.boot_len (pa_cons (pv 0) pa_nil)) (pa_cons pe_int pa_nil)))) (pg_name (i := 2) scHasTok.nd rfl (Or.inl rfl))
        (pss_one (ps_if (PW.pt (pw_and (pt_cmpR op_eq (pe_ix ix_list (pv 0) (pv 2) (fun _ _ => rfl)) (pe_gi T.TOKEN) (nomark _))
          (pw_and1 (pt_cmpR op_ge (pe_ix ix_list (pv 0) (pe_op op_add (pv 2) pe_int) (fun _ _ => rfl)) (pv 1) (nomark _))))) (pss_one (ps_ret pe_bl)) pss_nil)))
      (pss_one (ps_ret pe_bl)), ?_⟩
    obtain ⟨n, hn⟩ := told_even hg
    generalize hL : Ha01.told t = L at hl hn h60
    refine ⟨_, rfl, a, _, rfl, .inl hl, 0, (L.length : Int), 2, n, by rw [vI_len], rg_up (by decide) (by decide) (by omega) (by omega) (.inl rfl) (by omega), ?_⟩
    refine for_rangeC (lo := 0) (c := 2) (n := n) (fun i σ H' => ∃ (v : Option V) (ts : List Ha01.Term), σ = [some (.ref a), some (.int (b : Int)), v] ∧ H' = H ∧ L.drop (2 * i) = ts.flatMap Ha01.told ∧ (∀ u ∈ ts, GoodT 8 u) ∧ Ha01.tokensBelow b t = ts.all (Ha01.tokensBelow b))
      ⟨none, [t], rfl, rfl, by simp [hL], (fun u hu => by rw [List.mem_singleton.mp hu]; exact hg), by simp⟩ ?_ ?_
    · rintro i σ H' hi ⟨v, ts, rfl, rfl, hd, hts, hb⟩
      cases ts with
      | nil =>
        have := congrArg List.length hd
        rw [List.length_drop] at this
        simp at this
        omega
      | cons u ts =>
        obtain ⟨kd, x, us, hu, hus, hcase⟩ := part_T (hts u (List.mem_cons_self ..))
        rw [List.flatMap_cons, hu] at hd
        have e1 : L[2 * i]? = some kd := by rw [← List.head?_drop, hd]; rfl
        have e2 : L[2 * i + 1]? = some x := by
          have : (L.drop (2 * i))[1]? = some x := by rw [hd]; rfl
          rw [List.getElem?_drop] at this
          exact this
        have e3 : L.drop (2 * (i + 1)) = (us ++ ts).flatMap Ha01.told := by
          rw [show 2 * (i + 1) = 2 * i + 2 by omega, ← List.drop_drop, hd, List.flatMap_append]
          rfl
        have ei : (0 : Int) + (i : Nat) * 2 = ((2 * i : Nat) : Int) := by omega
        rw [ei]
        have next : ∀ σ', σ' = [some (V.ref a), some (.int (b : Int)), some (.int ((2 * i : Nat) : Int))] → Ha01.tokensBelow b u = us.all (Ha01.tokensBelow b) →
            ∃ (v : Option V) (ts : List Ha01.Term), σ' = [some (.ref a), some (.int (b : Int)), v] ∧ H' = H' ∧ L.drop (2 * (i + 1)) = ts.flatMap Ha01.told ∧ (∀ u ∈ ts, GoodT 8 u) ∧ Ha01.tokensBelow b t = ts.all (Ha01.tokensBelow b) := by
          rintro σ' rfl hbu
          refine ⟨_, us ++ ts, rfl, rfl, e3, fun y hy => ?_, ?_⟩
          · rcases List.mem_append.mp hy with h | h
            · exact hus y h
            · exact hts y (List.mem_cons_of_mem _ h)
          · rw [hb, List.all_cons, hbu, List.all_append]
        refine ⟨_, rfl, _, rfl, a, _, _, _, rfl, rfl, hl, vI_at e1, rfl, _, rfl, ?_⟩
        rcases hcase with ⟨hk, rfl, rfl⟩ | ⟨hk, hall⟩
        · subst hk
          refine iteT ⟨_, rfl, _, rfl, _, _, rfl, rfl, a, _, _, _, rfl, rfl, hl, vI_at (i := 2 * i + 1) e2, _, rfl, _, _, rfl, rfl, _, rfl, ?_⟩
          by_cases hx : b ≤ x
          · rw [decide_eq_true (by omega)]
            refine iteT ?_
            have : Ha01.tokensBelow b t = false := by
              rw [hb, List.all_cons]
              show (decide (x < b) && _) = false
              rw [decide_eq_false (by omega)]
              rfl
            rw [this] at k
            exact k
          · rw [decide_eq_false (by omega)]
            refine iteF (next _ rfl ?_)
            show decide (x < b) = true
            exact decide_eq_true (by omega)
        · rw [decide_eq_false (by intro e; cases e; exact hk rfl)]
          exact iteF (iteF (next _ rfl (hall b)))
    · rintro σ H' ⟨v, ts, rfl, rfl, hd, hts, hb⟩
      cases ts with
      | nil =>
        rw [hb] at k
        exact k
      | cons u ts =>
        obtain ⟨kd, x, us, hu, _, _⟩ := part_T (hts u (List.mem_cons_self ..))
        rw [List.flatMap_cons, hu] at hd
        have := congrArg List.length hd
        rw [List.length_drop] at this
        simp at this
        omega
/-! asks_for -/
def spAsks (K : PySem.W.Frag) : Sp := fun vs H Q _ => ∃ (a nm : Addr) (p : Ha01.Pat) (tk : Nat) (e : Ha01.Names) (us : List V), vs = [.ref a, .int (tk : Int), .ref nm] ∧ NL K H a (ptold p) ∧ GoodP 8 p ∧ SqL K H nm us ∧ NmAt K H e us ∧
  ∀ H' : Hp, Same H H' → Q (.bl (Ha01.asks tk e p)) H'
theorem ptold_pos {f : Nat} {p : Ha01.Pat} (h : GoodP f p) : 0 < (ptold p).length := by
  rcases part_P h with rfl | ⟨k, v, ps, e, _⟩
  · decide
  · rw [e]; exact Nat.succ_pos _
theorem eq_token {o : Option Ha01.Term} (h : ∀ t, o = some t → GoodT 8 t) (tk : Nat) : PyData.eqv (dN o) (dI [2, tk]) = (o == some (.token tk)) := by
  cases o with
  | none => rfl
  | some t =>
    show PyData.eqv (dI (Ha01.told t)) (dI [2, tk]) = _
    rw [eqv_dI]
    obtain ⟨k, v, us, hu, _, hc⟩ := part_T (h t rfl)
    by_cases ht : t = .token tk
    · subst ht
      simp [Ha01.told]
    · have : ¬ Ha01.told t = [2, tk] := by
        intro q
        rw [hu] at q
        have h1 := (List.cons.inj q).1
        have h2 := (List.cons.inj (List.cons.inj q).2).1
        rcases hc with ⟨_, e, _⟩ | ⟨hk, _⟩
        · rw [h2] at e
          exact ht e
        · exact hk h1
      simp [this, ht]
theorem scAsks : FnScope ["pattern", "token", "names", "wanted", "place", "part"] ["pattern", "token", "names"] (defScope sAsks) := ⟨rfl, rfl, rfl, by decide +kernel, rfl, by decide +kernel, by decide +kernel⟩
theorem okAsks {f fL : Addr} {fd fdL : FuncData} (F : Fun K "asks_for" "asks_for" sAsks f fd) (T : Tx K mg) (DL : Df K mg "part_length" sPartLen ["kind"] fL fdL) : FnOk P w K mg base CX0 2 f fd ["pattern", "token", "names"] (spAsks K) := by
  have GL : FnOk P w K mg base CX0 1 fL fdL _ spPartLen := okPartLen DL.F T
  refine F.ok scAsks (fun vs H Q E h => ?_) (fun cdv A outer s H vs Q E hr h => ?_)
  · obtain ⟨a, nm, p, tk, e, us, rfl, _⟩ := h
    rfl
  · obtain ⟨a, nm, p, tk, e, us, rfl, hl, hg, hn, hN, k⟩ := h
    refine ⟨_, pss_cons (ps_set (i := 3) scAsks.nd rfl (Or.inl rfl) (pe_lst (pa_cons (pe_gi T.TOKEN) (pa_cons (pv 1) pa_nil))))
      (pss_cons (ps_set (i := 4) scAsks.nd rfl (Or.inl rfl) pe_int)
      (pss_cons (ps_while PassesOwn.never (pt_cmpR op_lt (pv 4) (pe_callB call_len_seq (by rfl) T.len PySem.boot_len (pa_cons (pv 0) pa_nil)) (nomark _))
        (pss_cons (ps_set (i := 5) scAsks.nd rfl (Or.inl rfl) (pe_slice sl_list (pv 0) (po_some (pv 4)) (po_some (pe_op op_add (pv 4) (pe_call GL hr (by rfl) DL.g DL.F.kp DL.b .nil pass0 (pa_cons (pe_ix ix_list (pv 0) (pv 4) (fun _ _ => rfl)) pa_nil))))))
        (pss_cons (ps_if (PW.pt (pw_or (pt_cmpR (op_eqD hr.units) (pv 5) (pv 3) (nomark _)) (pw_or1 (PW.pt (pw_and (pt_cmpR op_eq (pe_ix ix_list (pv 5) pe_int (fun _ _ => rfl)) (pe_gi T.NAME) (nomark _))
          (pw_and1 (pt_cmpR (op_eqD hr.units) (pe_ix ix_list (pv 2) (pe_ix ix_list (pv 5) pe_int (fun _ _ => rfl)) (fun _ _ => rfl)) (pv 3) (nomark _)))))))) (pss_one (ps_ret pe_bl)) pss_nil)
        (pss_one (ps_aug (i := 4) scAsks.nd rfl (Or.inl rfl) (pe_callB call_len_seq (by rfl) T.len PySem.boot_len (pa_cons (pv 5) pa_nil)) ip_add)))))
      (pss_one (ps_ret pe_bl)))), ?_⟩
    generalize hL : ptold p = L at hl
    refine ⟨_, rfl, (by show 2 ≤ sizeLine; decide), fun wq hwq => ?_⟩
    refine ⟨fun m σ H' => ∃ (pl : Nat) (kv : Option V) (ps : List Ha01.Pat), σ = [some (.ref a), some (.int (tk : Int)), some (.ref nm), some (.ref wq), some (.int (pl : Int)), kv] ∧ m = L.length - pl ∧ Same H H' ∧ H' wq = some (.lst (vI [2, tk])) ∧
        pl ≤ L.length ∧ L.drop pl = ps.flatMap ptold ∧ (∀ u ∈ ps, GoodP 8 u) ∧ Ha01.asks tk e p = ps.any (Ha01.asks tk e),
      ⟨_, 0, none, [p], rfl, rfl, Same.new hwq, upd_same, Nat.zero_le _, by simp [hL], (fun u hu => by rw [List.mem_singleton.mp hu]; exact hg), by simp⟩, ?_⟩
    rintro m σ H1 ⟨pl, kv, ps, rfl, rfl, sm, hW, hpl, hd, hps, hb⟩
    refine ⟨_, rfl, _, rfl, a, _, rfl, .inl (hl.same sm), _, _, rfl, rfl, _, rfl, ?_⟩
    rw [vI_len]
    cases ps with
    | nil =>
      have hge : L.length ≤ pl := by
        have := congrArg List.length hd
        rw [List.length_drop] at this
        simp at this
        omega
      rw [decide_eq_false (by omega)]
      have q := k H1 sm
      rw [hb] at q
      exact iteF q
    | cons u ps =>
      have hup := ptold_pos (hps u (List.mem_cons_self ..))
      have hlen : L.length - pl = (ptold u).length + (ps.flatMap ptold).length := by
        rw [← List.length_drop, hd, List.flatMap_cons, List.length_append]
      rw [decide_eq_true (by omega)]
      refine iteT ⟨fun σ' H' => ∃ m', m' < L.length - pl ∧ ∃ (pl : Nat) (kv : Option V) (ps : List Ha01.Pat), σ' = [some (.ref a), some (.int (tk : Int)), some (.ref nm), some (.ref wq), some (.int (pl : Int)), kv] ∧ m' = L.length - pl ∧ Same H H' ∧ H' wq = some (.lst (vI [2, tk])) ∧
        pl ≤ L.length ∧ L.drop pl = ps.flatMap ptold ∧ (∀ u ∈ ps, GoodP 8 u) ∧ Ha01.asks tk e p = ps.any (Ha01.asks tk e), fun _ _ z => z, ?_⟩
      rw [List.flatMap_cons] at hd
      have nL := hl.same sm
      rcases part_P (hps u (List.mem_cons_self ..)) with rfl | ⟨kd, v, us', hu, hk4, hus, hk5, hask⟩
      · -- anything
        have e1 : L[pl]? = some 4 := by rw [← List.head?_drop, hd]; rfl
        refine ⟨_, rfl, _, rfl, _, rfl, _, rfl, _, rfl, _, rfl, a, _, _, _, rfl, rfl, nL, vI_at e1, 4, rfl, _, _, rfl, rfl, _, rfl, a, _, rfl, nL, fun pq hpq => ?_⟩
        have ec : cutV (vI L) (some (pl : Int)) (some ((pl : Int) + (partLen 4 : Nat))) = vI [4] := by
          rw [show ((pl : Int) + (partLen 4 : Nat)) = ((pl + 1 : Nat) : Int) by rfl, cut_vI _ _ _ hpl, hd, show pl + 1 - pl = 1 by omega]
          rfl
        rw [ec]
        have s2 : Same H1 (upd H1 pq (.lst (vI [4]))) := Same.new hpq
        have nW : NL K (upd H1 pq (.lst (vI [4]))) wq [2, tk] := SqL.of (s2 _ _ hW)
        have nP : NL K (upd H1 pq (.lst (vI [4]))) pq [4] := SqL.of upd_same
        refine ⟨_, rfl, _, rfl, _, _, nP.dp, nW.dp, shaped_dI _, shaped_dI _, _, rfl, ?_⟩
        rw [eqv_dI]
        refine iteF ⟨_, rfl, pq, _, 0, _, rfl, rfl, nP, vI_at (l := [4]) (i := 0) rfl, rfl, _, rfl, iteF (iteF ?_)⟩
        refine ⟨_, rfl, _, rfl, pq, _, rfl, .inl nP, _, _, rfl, rfl, ?_⟩
        refine ⟨L.length - (pl + 1), by omega, pl + 1, _, ps, rfl, rfl, sm.trans s2, s2 _ _ hW, (by have : (ptold Ha01.Pat.any).length = 1 := rfl; omega), ?_, fun x hx => hps x (List.mem_cons_of_mem _ hx), ?_⟩
        · rw [← List.drop_drop, hd]
          rfl
        · rw [hb, List.any_cons]
          rfl
      · rw [hu] at hd hlen
        rw [List.length_cons, List.length_cons] at hlen
        have e1 : L[pl]? = some kd := by rw [← List.head?_drop, hd]; rfl
        have ep : partLen kd = 2 := by unfold partLen; rw [if_neg hk4]
        refine ⟨_, rfl, _, rfl, _, rfl, _, rfl, _, rfl, _, rfl, a, _, _, _, rfl, rfl, nL, vI_at e1, kd, rfl, _, _, rfl, rfl, _, rfl, a, _, rfl, nL, fun pq hpq => ?_⟩
        have ec : cutV (vI L) (some (pl : Int)) (some ((pl : Int) + (partLen kd : Nat))) = vI [kd, v] := by
          rw [ep, show ((pl : Int) + (2 : Nat)) = ((pl + 2 : Nat) : Int) by rfl, cut_vI _ _ _ hpl, hd, show pl + 2 - pl = 2 by omega]
          rfl
        rw [ec]
        have s2 : Same H1 (upd H1 pq (.lst (vI [kd, v]))) := Same.new hpq
        have nW : NL K (upd H1 pq (.lst (vI [kd, v]))) wq [2, tk] := SqL.of (s2 _ _ hW)
        have nP : NL K (upd H1 pq (.lst (vI [kd, v]))) pq [kd, v] := SqL.of upd_same
        have sA : Same H (upd H1 pq (.lst (vI [kd, v]))) := sm.trans s2
        refine ⟨_, rfl, _, rfl, _, _, nP.dp, nW.dp, shaped_dI _, shaped_dI _, _, rfl, ?_⟩
        rw [eqv_dI]
        have yes : Ha01.asks tk e u = true → Q (.bl true) (upd H1 pq (.lst (vI [kd, v]))) := fun h => by
          have q := k _ sA
          rw [hb, List.any_cons, h] at q
          exact q
        have no : Ha01.asks tk e u = us'.any (Ha01.asks tk e) → ∃ m', m' < L.length - pl ∧ ∃ (pl' : Nat) (kv : Option V) (ps : List Ha01.Pat), [some (V.ref a), some (.int (tk : Int)), some (.ref nm), some (.ref wq), some (.int ((pl : Int) + (2 : Nat))), some (.ref pq)] = [some (.ref a), some (.int (tk : Int)), some (.ref nm), some (.ref wq), some (.int (pl' : Int)), kv] ∧ m' = L.length - pl' ∧ Same H (upd H1 pq (.lst (vI [kd, v]))) ∧ (upd H1 pq (.lst (vI [kd, v]))) wq = some (.lst (vI [2, tk])) ∧
            pl' ≤ L.length ∧ L.drop pl' = ps.flatMap ptold ∧ (∀ u ∈ ps, GoodP 8 u) ∧ Ha01.asks tk e p = ps.any (Ha01.asks tk e) := fun h => by
          refine ⟨L.length - (pl + 2), by omega, pl + 2, _, us' ++ ps, rfl, rfl, sA, s2 _ _ hW, (by omega), ?_, fun x hx => ?_, ?_⟩
          · rw [← List.drop_drop, hd, List.flatMap_append]
            rfl
          · rcases List.mem_append.mp hx with h | h
            · exact hus x h
            · exact hps x (List.mem_cons_of_mem _ h)
          · rw [hb, List.any_cons, h, List.any_append]
        by_cases c1 : [kd, v] = [2, tk]
        · rw [decide_eq_true c1]
          have h1 := (List.cons.inj c1).1
          have h2 := (List.cons.inj (List.cons.inj c1).2).1
          exact iteT (iteT (yes (by rw [hask]; simp [h1, h2])))
        · rw [decide_eq_false c1]
          have c1' : ¬ (kd = 2 ∧ v = tk) := fun ⟨x, y⟩ => c1 (by rw [x, y])
          refine iteF ⟨_, rfl, pq, _, 0, _, rfl, rfl, nP, vI_at (l := [kd, v]) (i := 0) rfl, rfl, _, rfl, ?_⟩
          by_cases c5 : kd = 5
          · subst c5
            obtain ⟨nv, hnv, hNv⟩ := hN.get (hk5 rfl)
            refine iteT ⟨_, rfl, _, rfl, pq, _, 1, _, rfl, rfl, nP, vI_at (l := [5, v]) (i := 1) rfl, nm, _, _, _, rfl, rfl, sA.seq hn, atI_nat hnv, _, rfl, _, _, (hNv.same sA).dp, nW.dp, shaped_dN _, shaped_dI _, _, rfl, ?_⟩
            rw [eq_token (fun t ht => by rw [ht] at hNv; exact hNv.good)]
            cases cv : (Ha01.valueOf e v == some (Ha01.Term.token tk)) with
            | true => exact iteT (yes (by rw [hask, cv]; simp))
            | false => exact iteF ⟨_, rfl, _, rfl, pq, _, rfl, .inl nP, _, _, rfl, rfl, no (by rw [hask, cv, decide_eq_false c1']; simp)⟩
          · rw [decide_eq_false (by intro q; cases q; exact c5 rfl)]
            exact iteF (iteF ⟨_, rfl, _, rfl, pq, _, rfl, .inl nP, _, _, rfl, rfl, no (by rw [hask, decide_eq_false c1', decide_eq_false c5]; simp)⟩)
end
end Pk

set_option Elab.async false
set_option linter.all false
set_option maxRecDepth 100000
set_option maxHeartbeats 2000000
/-! taking.py -/
namespace Pk
open PySem PySem.Spec PyProof.Rows L2
abbrev sIsTest : Stmt := top 29
abbrev sTests : Stmt := top 30
abbrev sClauses : Stmt := top 31
abbrev sFits : Stmt := top 32
abbrev sHolds : Stmt := top 33
abbrev sTakes : Stmt := top 34
abbrev sFirst : Stmt := top 35
structure Ty (K : PySem.W.Frag) (mg : Str → Option Value) : Prop extends Tx K mg where
  all : mg "all" = none
  list : mg "list" = none
  enumerate : mg "enumerate" = none
  LONGEST_CLAUSES : GI mg "LONGEST_CLAUSES" 100
  MOST_CLAUSES : GI mg "MOST_CLAUSES" 6
  MOST_TESTS : GI mg "MOST_TESTS" 4
  TEST_LENGTH : GI mg "TEST_LENGTH" 3
  IS_NUMBER_N : GI mg "IS_NUMBER_N" 0
  IS_NUMBER_BELOW : GI mg "IS_NUMBER_BELOW" 1
  IS_NUMBER_ABOVE : GI mg "IS_NUMBER_ABOVE" 2
  IS_NUMBER : GI mg "IS_NUMBER" 3
  IS_WORD : GI mg "IS_WORD" 4
  IS_TOKEN : GI mg "IS_TOKEN" 5
  IS_ROW_OF : GI mg "IS_ROW_OF" 6
  IS_VALUE_OF : GI mg "IS_VALUE_OF" 7
section
variable {P : Program} {w : World} {K : PySem.W.Frag} {mg : Str → Option Value} {base : Heap}
/-! is_test -/
def spIsTest (K : PySem.W.Frag) : Sp := fun vs H Q _ => ∃ (a : Addr) (x : Ha01.Test), vs = [.ref a] ∧ NL K H a (tl x) ∧ Q (.bl (okTest x)) H
theorem scIsTest : FnScope ["test"] ["test"] (defScope sIsTest) := ⟨rfl, rfl, rfl, by decide +kernel, rfl, by decide +kernel, by decide +kernel⟩
theorem okIsTest {f : Addr} {fd : FuncData} (F : Fun K "is_test" "is_test" sIsTest f fd) (T : Ty K mg) : FnOk P w K mg base CX0 1 f fd ["test"] (spIsTest K) := by
  refine F.ok scIsTest (fun vs H Q E h => ?_) (fun cdv A outer s H vs Q E hr h => ?_)
  · obtain ⟨a, x, rfl, _⟩ := h
    rfl
  · obtain ⟨a, x, rfl, hl, q⟩ := h
    obtain ⟨aH, gH, tH⟩ := T.HIGHEST
    refine ⟨_, pss_cons (ps_if (PW.pt (pw_or (pt_cmpR op_gt (pe_ix ix_list (pv 0) pe_int (fun _ _ => rfl)) (pe_gi T.IS_VALUE_OF) (nomark _))
        (pw_or1 (pt_cmpR op_gt (pe_ix ix_list (pv 0) pe_int (fun _ _ => rfl)) (pe_ix ix_tup (pe_glob (v := .ref aH) (by rfl) gH rfl) (pe_gi T.NAME) (fun _ _ => rfl)) (nomark _))))) (pss_one (ps_ret pe_bl)) pss_nil)
      (pss_one (ps_ret (pe_or (pe_cmpR op_ne (pe_ix ix_list (pv 0) pe_int (fun _ _ => rfl)) (pe_gi T.IS_VALUE_OF) (nomark _))
        (pe_one (pe_cmpR op_le (pe_ix ix_list (pv 0) pe_int (fun _ _ => rfl)) (pe_ix ix_tup (pe_glob (v := .ref aH) (by rfl) gH rfl) (pe_gi T.NAME) (fun _ _ => rfl)) (nomark _)))))), ?_⟩
    have i0 : atI (vI (tl x)) 0 = some (V.int (x.what : Int)) := vI_at (l := tl x) (i := 0) rfl
    have i1 : atI (vI (tl x)) 1 = some (V.int (x.name : Int)) := vI_at (l := tl x) (i := 1) rfl
    have i2 : atI (vI (tl x)) 2 = some (V.int (x.n : Int)) := vI_at (l := tl x) (i := 2) rfl
    have h9 : atI (vI [1000000, 99, 1000, 8, 0, 9]) 5 = some (V.int ((9 : Nat) : Int)) := rfl
    refine ⟨_, rfl, a, _, 0, _, rfl, rfl, hl, i0, _, _, rfl, rfl, _, rfl, ?_⟩
    unfold okTest at q
    by_cases c1 : x.what ≤ 7
    · rw [decide_eq_false (by omega)]
      rw [decide_eq_true c1, Bool.true_and] at q
      refine iteF ⟨_, rfl, a, _, 1, _, rfl, rfl, hl, i1, aH, _, 5, _, rfl, rfl, tH _, h9, _, _, rfl, rfl, _, rfl, ?_⟩
      by_cases c2 : x.name ≤ 9
      · rw [decide_eq_false (by omega)]
        rw [decide_eq_true c2, Bool.true_and] at q
        refine iteF ⟨_, rfl, a, _, 0, _, rfl, rfl, hl, i0, rfl, _, rfl, ?_⟩
        by_cases c3 : x.what = 7
        · rw [decide_eq_false (by omega), Bool.false_or] at q
          rw [decide_eq_true (by rw [c3]; rfl)]
          refine iteF ⟨_, rfl, a, _, 2, _, rfl, rfl, hl, i2, aH, _, 5, _, rfl, rfl, tH _, h9, _, _, rfl, rfl, ?_⟩
          have : decide ((x.n : Int) ≤ ((9 : Nat) : Int)) = decide (x.n ≤ 9) := by
            rw [decide_eq_decide]; omega
          show Q (.bl (decide ((x.n : Int) ≤ ((9 : Nat) : Int)))) H
          rw [this]
          exact q
        · rw [decide_eq_true (by omega), Bool.true_or] at q
          rw [decide_eq_false (by intro e; have := V.int.inj e; omega)]
          exact iteT q
      · rw [decide_eq_true (by omega)]
        rw [decide_eq_false c2, Bool.false_and] at q
        exact iteT q
    · rw [decide_eq_true (by omega)]
      rw [decide_eq_false c1, Bool.false_and] at q
      exact iteT (iteT q)
/-! tests_told -/
def spTests (K : PySem.W.Frag) : Sp := fun vs H Q _ => ∃ (a : Addr) (l : List Nat) (i : Nat), vs = [.ref a, .int (i : Int)] ∧ NL K H a l ∧ i ≤ l.length ∧ l.length ≤ 104 ∧
  (testsOf (l.drop i) = none → ∀ H', Same H H' → Q .non H') ∧
  (∀ ts r, testsOf (l.drop i) = some (ts, r) → ∀ H' q, Same H H' → TestsAt K (Nw H H') q ts → Q (.ref q) H')
theorem scTests : FnScope ["told", "start", "end", "tests", "place", "test"] ["told", "start"] (defScope sTests) := ⟨rfl, rfl, rfl, by decide +kernel, rfl, by decide +kernel, by decide +kernel⟩
theorem okTests {f fT : Addr} {fd fdT : FuncData} (F : Fun K "tests_told" "tests_told" sTests f fd) (T : Ty K mg) (DT : Df K mg "is_test" sIsTest ["test"] fT fdT) : FnOk P w K mg base CX0 2 f fd ["told", "start"] (spTests K) := by
  have GT : FnOk P w K mg base CX0 1 fT fdT ["test"] (spIsTest K) := okIsTest DT.F T
  refine F.ok scTests (fun vs H Q E h => ?_) (fun cdv A outer s H vs Q E hr h => ?_)
  · obtain ⟨a, l, i, rfl, _⟩ := h
    rfl
  · obtain ⟨a, l, i, rfl, hl, hi, h104, kN, kS⟩ := h
    refine ⟨_, pss_cons (ps_if (PW.pt (pw_or (pt_cmpR op_ge (pv 1) (pe_callB call_len_seq (by rfl) T.len PySem.boot_len (pa_cons (pv 0) pa_nil)) (nomark _))
        (pw_or1 (pt_cmpR op_gt (pe_ix ix_list (pv 0) (pv 1) (fun _ _ => rfl)) (pe_gi T.MOST_TESTS) (nomark _))))) (pss_one (ps_ret pe_non)) pss_nil)
      (pss_cons (ps_set (i := 2) scTests.nd rfl (Or.inl rfl) (pe_op op_add (pe_op op_add (pv 1) pe_int) (pe_op op_mul (pe_ix ix_list (pv 0) (pv 1) (fun _ _ => rfl)) (pe_gi T.TEST_LENGTH))))
      (pss_cons (ps_if (pt_cmpR op_gt (pv 2) (pe_callB call_len_seq (by rfl) T.len PySem.boot_len (pa_cons (pv 0) pa_nil)) (nomark _)) (pss_one (ps_ret pe_non)) pss_nil)
      (pss_cons (ps_setLc (i := 3) (own := [("place", 4)]) (g := gName 4) (tt := tYes) (te := tSl (rSlL K) (tVar 0) (tPart (tVar 4)) (tPart (tOp (rI0 fun i j => .int (i + j)) (tVar 4) (tC (.int 3))))) rfl scTests.nd rfl rfl (sw_true rfl rfl rfl (by decide +kernel))
          (pi_range3 rfl T.range (pa_cons (pe_op op_add (pv 1) pe_int) (pa_cons (pv 2) (pa_cons (pe_gi T.TEST_LENGTH) pa_nil))))
          (blkOk_by (own := [("place", 4)]) (N := ["told", "start", "end", "tests", "place", "test"]) (sc := defScope sTests) (by decide +kernel))
          (fun _ _ _ _ _ => pg_name (i := 4) scTests.nd rfl (Or.inl rfl)) (fun _ _ _ _ _ => pts_nil)
          (fun _ _ _ _ _ => pe_slice sl_list (pv 0) (po_some (pv 4)) (po_some (pe_op op_add (pv 4) (pe_gi T.TEST_LENGTH)))))
      (pss_one (ps_ret (pe_ifExp (pt_val (pe_callB (cr_all rfl) (by rfl) T.all (by decide +kernel) (pa_cons (pe_lc (own := [("test", 5)]) (g := gName 5) (tt := tYes) (te := tCall (spIsTest K) [] E0 (tCons (tVar 5) tNil)) rfl scTests.nd (pi_list (pv 3))
          (blkOk_by (own := [("test", 5)]) (N := ["told", "start", "end", "tests", "place", "test"]) (sc := defScope sTests) (by decide +kernel))
          (fun _ _ _ _ _ => pg_name (i := 5) scTests.nd rfl (Or.inl rfl)) (fun _ _ _ _ _ => pts_nil)
          (fun _ _ _ _ _ => pe_call GT hr (by rfl) DT.g DT.F.kp DT.b .nil pass0 (pa_cons (pv 5) pa_nil))) pa_nil))) (pv 3) pe_non)))))), ?_⟩
    refine ⟨_, rfl, _, rfl, a, _, rfl, .inl hl, _, _, rfl, rfl, _, rfl, ?_⟩
    rw [vI_len]
    by_cases c1 : l.length ≤ i
    · rw [decide_eq_true (by omega)]
      refine iteT (iteT (kN ?_ H (Same.refl H)))
      rw [List.drop_eq_nil_of_le c1]
      rfl
    · rw [decide_eq_false (by omega)]
      have hlt : i < l.length := by omega
      obtain ⟨n, r, e1⟩ : ∃ n r, l.drop i = n :: r := ⟨_, _, List.drop_eq_getElem_cons hlt⟩
      have e2 : l[i]? = some n := by rw [← List.head?_drop, e1]; rfl
      have e3 : r = l.drop (i + 1) := by rw [← List.drop_drop, e1]; rfl
      have hrl : r.length = l.length - (i + 1) := by rw [e3, List.length_drop]
      rw [e1] at kN kS
      refine iteF ⟨_, rfl, _, rfl, a, _, _, _, rfl, rfl, hl, vI_at e2, _, _, rfl, rfl, _, rfl, ?_⟩
      by_cases c2 : 4 < n
      · rw [decide_eq_true (by omega)]
        refine iteT (kN ?_ H (Same.refl H))
        show (if 4 < n then none else Ha01.readTests n r) = none
        rw [if_pos c2]
      · rw [decide_eq_false (by omega)]
        have eT : testsOf (n :: r) = Ha01.readTests n r := if_neg c2
        rw [eT] at kN kS
        refine iteF ⟨_, rfl, _, _, rfl, rfl, _, rfl, _, rfl, a, _, _, _, rfl, rfl, hl, vI_at e2, _, _, rfl, rfl, .inl ⟨by omega, by omega⟩, _, _, rfl, rfl, ?_⟩
        dsimp only
        rw [show ((i : Int) + 1 + (n : Int) * 3) = ((i + 1 + 3 * n : Nat) : Int) by omega]
        refine ⟨_, rfl, _, rfl, a, _, rfl, .inl hl, _, _, rfl, rfl, _, rfl, ?_⟩
        rw [vI_len]
        by_cases c3 : l.length < i + 1 + 3 * n
        · rw [decide_eq_true (by omega)]
          exact iteT (kN (tests_short n r (by omega)) H (Same.refl H))
        · rw [decide_eq_false (by omega)]
          have h3n : 3 * n ≤ r.length := by omega
          rw [tests_eq n r h3n] at kN kS
          have hTl : (trip n r).length = n := trip_len n r h3n
          refine iteF ⟨_, rfl, _, _, rfl, rfl, _, rfl, ((i + 1 : Nat) : Int), ((i + 1 + 3 * n : Nat) : Int), 3, n, rfl, rg_up (by omega) (by omega) (by omega) (by omega) (.inr rfl) (by omega), fun D hD => ?_⟩
          refine lc_it (walk_rangeC (lo := ((i + 1 : Nat) : Int)) (c := 3) (n := n)) (fun j H' => ∃ as : List Addr, Same H H' ∧ H' D = some (.lst (as.map V.ref)) ∧ RefsAt (fun b x => NL K (Nw (upd H D (.lst [])) H') b (tl x)) as ((trip n r).take j))
            ⟨[], Same.new hD, upd_same, RefsAt.nil⟩ (fun _ _ _ _ => trivial) ?_ ?_
          · rintro j x H1 H2 hj ⟨as, sm, hD1, hR⟩ ⟨rfl, rfl⟩
            obtain ⟨te, ht1, ht2⟩ := trip_at n r j hj h3n
            dsimp only
            rw [show (((i + 1 : Nat) : Int) + (j : Nat) * 3) = ((i + 1 + 3 * j : Nat) : Int) by omega]
            refine ⟨rfl, _, rfl, _, rfl, _, rfl, _, rfl, _, _, rfl, rfl, _, rfl, a, _, rfl, hl.same sm, fun p hp => ?_⟩
            have hpD : p ≠ D := fun q => by rw [q, hD1] at hp; cases hp
            have hU : (upd H D (.lst [])) D ≠ none := some_ne upd_same
            have ec : cutV (vI l) (some ((i + 1 + 3 * j : Nat) : Int)) (some (((i + 1 + 3 * j : Nat) : Int) + 3)) = vI (tl te) := by
              rw [show (((i + 1 + 3 * j : Nat) : Int) + 3) = ((i + 1 + 3 * j + 3 : Nat) : Int) by rfl, cut_vI _ _ _ (by omega), ← List.drop_drop, ← e3, show i + 1 + 3 * j + 3 - (i + 1 + 3 * j) = 3 by omega, ht2]
            rw [ec]
            refine ⟨_, (by rw [upd_ne hpD.symm]; exact hD1), (by rw [List.length_map, hR.len, List.length_take]; exact small1000 (by omega)), as ++ [p], fun b o e => ?_, (by rw [upd_same, List.map_append]; rfl), ?_⟩
            · rw [upd_ne (ne_of_none e hD), upd_ne (ne_of_none (sm b o e) hp)]
              exact sm b o e
            · rw [take_more ht1]
              refine RefsAt.snoc (hR.mono fun b x _ nb => (nb.same (nw_mono (Same.new hp))).same (nw_upd hU)) (SqL.of (nw_some.mpr ⟨?_, ?_⟩))
              · rw [upd_ne hpD]
                exact sm.free hp
              · rw [upd_ne hpD]
                exact upd_same
          · rintro H1 ⟨as, sm, hD1, hR⟩
            rw [List.take_of_length_le (by omega)] at hR
            -- all([..])
            have hTA : TestsAt K (Nw H H1) D (trip n r) := ⟨as, SqL.of (nw_some.mpr ⟨hD, hD1⟩), hR.mono fun _ _ _ x => x.same (nw_late fun c hc => by
                by_cases q : c = D
                · rw [q, upd_same] at hc; cases hc
                · rw [upd_ne q] at hc; exact hc)⟩
            refine ⟨_, rfl, D, rfl, ⟨_, SqL.of hD1⟩, fun B hB => ?_⟩
            refine lc_list (K := K) (a := D) (xs := as.map V.ref) (fun j H' => Same H1 H' ∧ H' B = some (.lst ((((trip n r).take j).map okTest).map V.bl)))
              ⟨Same.new hB, upd_same⟩ (fun j H' _ ⟨s2, _⟩ => s2.seq (SqL.of hD1)) ?_ ?_
            · rintro j x H2 hj ⟨s2, hB2⟩
              obtain ⟨b, hb, rfl⟩ := refs_get hj
              have hjn : j < n := by
                have := (List.getElem?_eq_some_iff.mp hb).1
                rw [hR.len, hTl] at this
                exact this
              obtain ⟨te, ht1, _⟩ := trip_at n r j hjn h3n
              have nb : NL K H1 b (tl te) := NL.same (hR.at_ j b te hb ht1) (nw_sub _ _)
              refine ⟨rfl, _, rfl, b, te, rfl, nb.same s2, _, hB2, (by rw [List.length_map, List.length_map, List.length_take]; exact small1000 (by omega)), ?_, ?_⟩
              · exact fun c o e => by rw [upd_ne (ne_of_none e hB)]; exact s2 c o e
              · rw [upd_same, take_more ht1, List.map_append, List.map_append]
                rfl
            · rintro H2 ⟨s2, hB2⟩
              rw [List.length_map, hR.len, List.take_length] at hB2
              refine ⟨B, _, rfl, SqL.of hB2, _, rfl, ?_⟩
              have eb : ((trip n r).map okTest).all id = (trip n r).all okTest := by rw [List.all_map]; rfl
              rw [eb]
              cases ca : (trip n r).all okTest with
              | true =>
                rw [if_pos ca] at kS
                exact iteT ⟨_, rfl, kS _ _ rfl H2 D (sm.trans s2) (hTA.same (nw_mono s2))⟩
              | false =>
                rw [if_neg (by rw [ca]; decide)] at kN
                exact iteF (kN rfl H2 (sm.trans s2))
/-! clauses_told -/
def spClauses (K : PySem.W.Frag) : Sp := fun vs H Q _ => ∃ (a : Addr) (l : List Nat), vs = [.ref a] ∧ NL K H a l ∧ l.length ≤ 104 ∧
  (Ha01.clauses? l = none → ∀ H', Same H H' → Q .non H') ∧
  (∀ cs, Ha01.clauses? l = some cs → ∀ H' q, Same H H' → CsAt K (Nw H H') q cs → Q (.ref q) H')
theorem upd_free {H : Hp} {q : Addr} {o : HO} (c : Addr) (hc : upd H q o c = none) : H c = none := by
  by_cases e : c = q
  · rw [e, upd_same] at hc; cases hc
  · rw [upd_ne e] at hc; exact hc
theorem scClauses : FnScope ["told", "clauses", "place", "pattern_end", "tests"] ["told"] (defScope sClauses) := ⟨rfl, rfl, rfl, by decide +kernel, rfl, by decide +kernel, by decide +kernel⟩
theorem okClauses {f fE fT : Addr} {fd fdE fdT : FuncData} (F : Fun K "clauses_told" "clauses_told" sClauses f fd) (T : Ty K mg) (DE : Df K mg "end_of" sEndOf ["told", "start", "last_kind"] fE fdE) (GE : FnOk P w K mg base CX0 2 fE fdE ["told", "start", "last_kind"] (spEndOf K))
    (DT : Df K mg "tests_told" sTests ["told", "start"] fT fdT) (GT : FnOk P w K mg base CX0 2 fT fdT ["told", "start"] (spTests K)) : FnOk P w K mg base CX0 3 f fd ["told"] (spClauses K) := by
  refine F.ok scClauses (fun vs H Q E h => ?_) (fun cdv A outer s H vs Q E hr h => ?_)
  · obtain ⟨a, l, rfl, _⟩ := h
    rfl
  · obtain ⟨a, l, rfl, hl, h104, kN, kS⟩ := h
    refine ⟨_, pss_cons (ps_if (pt_cmpR op_gt (pe_callB call_len_seq (by rfl) T.len PySem.boot_len (pa_cons (pv 0) pa_nil)) (pe_gi T.LONGEST_CLAUSES) (nomark _)) (pss_one (ps_ret pe_non)) pss_nil)
      (pss_cons (ps_set (i := 1) scClauses.nd rfl (Or.inl rfl) (pe_lst pa_nil))
      (pss_cons (ps_set (i := 2) scClauses.nd rfl (Or.inl rfl) pe_int)
      (pss_cons (ps_while PassesOwn.never (pt_cmpR op_lt (pv 2) (pe_callB call_len_seq (by rfl) T.len PySem.boot_len (pa_cons (pv 0) pa_nil)) (nomark _))
        (pss_cons (ps_set (i := 3) scClauses.nd rfl (Or.inl rfl) (pe_call GE hr (by rfl) DE.g DE.F.kp DE.b .nil pass0 (pa_cons (pv 0) (pa_cons (pv 2) (pa_cons (pe_gi T.NAME) pa_nil)))))
        (pss_cons (ps_if (pt_cmpR op_isN (pv 3) pe_non (nomark _)) (pss_one (ps_ret pe_non)) pss_nil)
        (pss_cons (ps_set (i := 4) scClauses.nd rfl (Or.inl rfl) (pe_call GT hr (by rfl) DT.g DT.F.kp DT.b .nil pass0 (pa_cons (pv 0) (pa_cons (pv 3) pa_nil))))
        (pss_cons (ps_if (pt_cmpR op_isN (pv 4) pe_non (nomark _)) (pss_one (ps_ret pe_non)) pss_nil)
        (pss_cons (ps_expr (pe_bm PySem.F.plainAttrs_list PySem.F.slot_list_append PySem.F.type_list_append mt_append (pv 1) (pa_cons (pe_tup (pa_cons (pe_slice sl_list (pv 0) (po_some (pv 2)) (po_some (pv 3))) (pa_cons (pv 4) pa_nil))) pa_nil)))
        (pss_one (ps_set (i := 2) scClauses.nd rfl (Or.inl rfl) (pe_op op_add (pe_op op_add (pv 3) pe_int) (pe_op op_mul (pe_callB call_len_seq (by rfl) T.len PySem.boot_len (pa_cons (pv 4) pa_nil)) (pe_gi T.TEST_LENGTH)))))))))))
      (pss_one (ps_ret (pe_ifExp (pt_chain op_le op_le pe_int (pe_callB call_len_seq (by rfl) T.len PySem.boot_len (pa_cons (pv 1) pa_nil)) (pe_gi T.MOST_CLAUSES)) (pv 1) pe_non)))))), ?_⟩
    refine ⟨_, rfl, a, _, rfl, .inl hl, _, _, rfl, rfl, _, rfl, ?_⟩
    rw [vI_len]
    unfold Ha01.clauses? at kN kS
    by_cases c1 : 100 < l.length
    · rw [decide_eq_true (by omega)]
      rw [if_pos c1] at kN
      exact iteT (kN rfl H (Same.refl H))
    · rw [decide_eq_false (by omega)]
      rw [if_neg c1] at kN kS
      refine iteF ⟨Nat.zero_le _, fun q hq => ?_⟩
      have hU : (upd H q (.lst [])) q ≠ none := some_ne upd_same
      refine ⟨fun m σ H' => ∃ (dn : List Ha01.Clause) (pl f : Nat) (as : List Addr) (v3 v4 : Option V), σ = [some (.ref a), some (.ref q), some (.int (pl : Int)), v3, v4] ∧ m = l.length - pl ∧ Same H H' ∧ H' q = some (.lst (as.map V.ref)) ∧
          RefsAt (fun b c => ClAt K (Nw (upd H q (.lst [])) H') b c) as dn ∧ pl ≤ l.length ∧ dn.length ≤ pl ∧ (l.drop pl).length < f ∧ Ha01.readClauses (l.length + 1) l = (Ha01.readClauses f (l.drop pl)).map (dn ++ ·),
        ⟨_, [], 0, l.length + 1, [], none, none, rfl, rfl, Same.new hq, upd_same, RefsAt.nil, Nat.zero_le _, Nat.le_refl _, by simp, by simp⟩, ?_⟩
      rintro m σ H1 ⟨dn, pl, f, as, v3, v4, rfl, rfl, sm, hq1, hR, hpl, hdn, hf, hrc⟩
      have nl := hl.same sm
      refine ⟨_, rfl, _, rfl, a, _, rfl, .inl nl, _, _, rfl, rfl, _, rfl, ?_⟩
      rw [vI_len]
      obtain ⟨f, rfl⟩ : ∃ g, f = g + 1 := ⟨f - 1, by omega⟩
      by_cases c2 : l.length ≤ pl
      · -- the end
        rw [decide_eq_false (by omega)]
        rw [List.drop_eq_nil_of_le c2] at hrc
        have hrc' : Ha01.readClauses (l.length + 1) l = some dn := by
          rw [hrc]
          show some (dn ++ []) = _
          rw [List.append_nil]
        rw [hrc'] at kN kS
        refine iteF ⟨_, rfl, q, _, rfl, .inl (SqL.of hq1), _, _, rfl, rfl, _, rfl, ?_⟩
        rw [List.length_map, hR.len]
        have no : (dn = [] ∨ 6 < dn.length) → Q .non H1 := fun c => kN (by show (if dn = [] ∨ 6 < dn.length then none else some dn) = none; rw [if_pos c]) H1 sm
        by_cases c3 : 1 ≤ dn.length
        · rw [decide_eq_true (by omega)]
          refine iteT ⟨_, _, rfl, rfl, _, rfl, ?_⟩
          by_cases c4 : dn.length ≤ 6
          · rw [decide_eq_true (by omega)]
            refine iteT ⟨_, rfl, kS dn ?_ H1 q sm ⟨as, SqL.of (nw_some.mpr ⟨hq, hq1⟩), hR.mono fun b c _ x => x.same (nw_late upd_free)⟩⟩
            show (if dn = [] ∨ 6 < dn.length then none else some dn) = some dn
            rw [if_neg]
            rintro (e | e)
            · rw [e] at c3; exact absurd c3 (by decide)
            · omega
          · rw [decide_eq_false (by omega)]
            exact iteF (no (.inr (by omega)))
        · rw [decide_eq_false (by omega)]
          refine iteF ⟨_, rfl, iteF (no (.inl ?_))⟩
          exact List.eq_nil_of_length_eq_zero (by omega)
      · rw [decide_eq_true (by omega)]
        refine iteT ⟨fun σ' H' => ∃ m', m' < l.length - pl ∧ ∃ (dn : List Ha01.Clause) (pl f : Nat) (as : List Addr) (v3 v4 : Option V), σ' = [some (.ref a), some (.ref q), some (.int (pl : Int)), v3, v4] ∧ m' = l.length - pl ∧ Same H H' ∧ H' q = some (.lst (as.map V.ref)) ∧
          RefsAt (fun b c => ClAt K (Nw (upd H q (.lst [])) H') b c) as dn ∧ pl ≤ l.length ∧ dn.length ≤ pl ∧ (l.drop pl).length < f ∧ Ha01.readClauses (l.length + 1) l = (Ha01.readClauses f (l.drop pl)).map (dn ++ ·), fun _ _ z => z, ?_⟩
        refine ⟨_, rfl, _, rfl, a, l, pl, 5, rfl, nl, by decide, hpl, fun H2 s2 => ?_⟩
        have sm2 := sm.trans s2
        obtain ⟨x, xs, ex⟩ : ∃ x xs, l.drop pl = x :: xs := ⟨_, _, List.drop_eq_getElem_cons (by omega)⟩
        have hstep := clauses_step f x xs
        rw [← ex] at hstep
        rw [← rp_skip]
        cases ep : Ha01.readPat 8 (l.drop pl) with
        | none =>
          refine ⟨_, rfl, rfl, _, rfl, iteT ?_⟩
          refine kN ?_ H2 sm2
          rw [hrc, hstep, ep]
          rfl
        | some pr =>
          obtain ⟨p, r⟩ := pr
          obtain ⟨gp, el⟩ := rp_sound 8 _ p r ep
          have hlen : l.length - pl = (ptold p).length + r.length := by rw [← List.length_drop, el, List.length_append]
          have epe : l.length - r.length = pl + (ptold p).length := by omega
          show tSeq _ _ _ (List.set _ 3 (some (V.int ((l.length - r.length : Nat) : Int)))) H2
          rw [epe]
          have er : l.drop (pl + (ptold p).length) = r := by rw [← List.drop_drop, el, List.drop_left]
          refine ⟨_, rfl, rfl, _, rfl, iteF ?_⟩
          refine ⟨_, rfl, _, rfl, a, l, pl + (ptold p).length, rfl, hl.same sm2, by omega, h104, fun en H3 s3 => ?_, fun ts r2 es H3 q3 s3 hT => ?_⟩
          · rw [er] at en
            refine ⟨_, rfl, rfl, _, rfl, iteT (kN ?_ H3 (sm2.trans s3))⟩
            rw [hrc, hstep, ep]
            show (((testsOf r).bind _).map _).bind _ = none
            rw [en]
            rfl
          · rw [er] at es
            obtain ⟨n, r1, rfl, h4, hts, h3n, rfl, hok⟩ := tests_inv es
            have sm3 := sm2.trans s3
            refine ⟨_, rfl, rfl, _, rfl, iteF ?_⟩
            have hq3 : H3 q = some (.lst (as.map V.ref)) := s3 _ _ (s2 _ _ hq1)
            refine ⟨_, rfl, .inl ⟨rfl, _, SqL.of hq3⟩, _, rfl, _, rfl, _, rfl, _, rfl, _, rfl, a, _, rfl, hl.same sm3, fun p4 hp4 => ?_⟩
            have ec : cutV (vI l) (some (pl : Int)) (some ((pl + (ptold p).length : Nat) : Int)) = vI (ptold p) := by
              rw [cut_vI _ _ _ hpl, el, show pl + (ptold p).length - pl = (ptold p).length by omega, List.take_left]
            rw [ec]
            refine ⟨_, rfl, (by show 2 ≤ sizeLine; decide), fun t5 ht5 => ?_⟩
            have s4 : Same H3 (upd H3 p4 (.lst (vI (ptold p)))) := Same.new hp4
            have s5 : Same (upd H3 p4 (.lst (vI (ptold p)))) (upd (upd H3 p4 (.lst (vI (ptold p)))) t5 (.tup [.ref p4, .ref q3])) := Same.new ht5
            have hq5 : (upd (upd H3 p4 (.lst (vI (ptold p)))) t5 (.tup [.ref p4, .ref q3])) q = some (.lst (as.map V.ref)) := s5 _ _ (s4 _ _ hq3)
            refine ⟨q, _, _, rfl, rfl, hq5, (by rw [List.length_map, hR.len]; exact small1000 (by omega)), ?_⟩
            generalize eH5 : upd (upd H3 p4 (.lst (vI (ptold p)))) t5 (.tup [.ref p4, .ref q3]) = H5 at s5 hq5
            have s35 : Same H3 H5 := s4.trans s5
            have hHq : (upd H q (.lst [])) q ≠ none := some_ne upd_same
            have fr : ∀ c, H3 c = none → (upd H q (.lst [])) c = none := fun c hc => by
              by_cases e : c = q
              · rw [e, hq3] at hc; cases hc
              · rw [upd_ne e]; exact sm3.free hc
            -- the next turn
            have hT6 : TestsAt K (upd H5 q (.lst (as.map V.ref ++ [V.ref t5]))) q3 ts := by
              have h1 : TestsAt K (Nw (upd H q (.lst [])) H5) q3 ts := hT.same ((nw_mono s35).trans (nw_late fun c hc => by
                by_cases e : c = q
                · rw [e, s2 _ _ hq1] at hc; cases hc
                · rw [upd_ne e]; exact sm2.free hc))
              exact (h1.same (nw_upd hHq)).same (nw_sub _ _)
            refine ⟨_, rfl, _, _, rfl, rfl, _, rfl, q3, _, rfl, .inl (hT6.choose_spec.1), _, _, rfl, rfl, .inl ?_, _, _, rfl, rfl, ?_⟩
            · rw [List.length_map, hT6.choose_spec.2.len, hts]
              exact ⟨by omega, by omega⟩
            · rw [List.length_map, hT6.choose_spec.2.len, hts]
              have hr1 : (n :: r1).length = r1.length + 1 := rfl
              rw [hr1] at hlen
              refine ⟨l.length - (pl + (ptold p).length + 1 + 3 * n), by omega, dn ++ [⟨p, ts⟩], pl + (ptold p).length + 1 + 3 * n, f, as ++ [t5], some (.int ((pl + (ptold p).length : Nat) : Int)), some (.ref q3), ?_, rfl, fun b o e => ?_, ?_, ?_, by omega, ?_, ?_, ?_⟩
              · show [_, _, some (V.int _), _, _] = _
                rw [show (((pl + (ptold p).length : Nat) : Int) + 1 + ((n : Nat) : Int) * 3) = ((pl + (ptold p).length + 1 + 3 * n : Nat) : Int) by omega]
              · rw [upd_ne (ne_of_none e hq)]
                exact s35 _ _ (sm3 _ _ e)
              · rw [upd_same, List.map_append]
                rfl
              · refine RefsAt.snoc (hR.mono fun b c _ x => (x.same (nw_mono (s2.trans (s3.trans s35)))).same (nw_upd hHq)) ?_
                have up : Same (Nw (upd H q (.lst [])) H5) (Nw (upd H q (.lst [])) (upd H5 q (.lst (as.map V.ref ++ [V.ref t5])))) := nw_upd hHq
                refine ⟨p4, q3, ?_, ?_, gp, ?_, hok, by rw [hts]; exact h4⟩
                · refine SqT.of (up _ _ (nw_some.mpr ⟨fr _ (s4.free ht5), ?_⟩))
                  rw [← eH5]
                  exact upd_same
                · refine NL.same (SqL.of (nw_some.mpr ⟨fr _ hp4, s5 _ _ upd_same⟩)) up
                · refine (hT.same ((nw_mono s35).trans (nw_late fun c hc => ?_))).same up
                  by_cases e : c = q
                  · rw [e, s2 _ _ hq1] at hc; cases hc
                  · rw [upd_ne e]; exact sm2.free hc
              · rw [List.length_append]
                show dn.length + 1 ≤ _
                omega
              · rw [List.length_drop]
                rw [List.length_drop] at hf
                omega
              · rw [hrc, hstep, ep]
                show (((testsOf (n :: r1)).bind _).map _) = _
                rw [es]
                have e2 : l.drop (pl + (ptold p).length + 1 + 3 * n) = r1.drop (3 * n) := by
                  rw [← List.drop_drop, ← List.drop_drop, er]
                  rfl
                rw [e2]
                show ((Ha01.readClauses f (r1.drop (3 * n))).map _).map _ = _
                cases Ha01.readClauses f (r1.drop (3 * n)) with
                | none => rfl
                | some cs => simp
/-! names_if_fits -/
def spFits (K : PySem.W.Frag) : Sp := fun vs H Q _ => ∃ (a b nm : Addr) (p : Ha01.Pat) (t : Ha01.Term) (e : Ha01.Names) (us : List V) (G : Hp), vs = [.ref a, .ref b, .ref nm] ∧ NL K H a (ptold p) ∧ GoodP 8 p ∧ NL K H b (Ha01.told t) ∧ GoodT 8 t ∧ SqL K H nm us ∧ Same G H ∧ NmAt K G e us ∧
  (Ha01.fits p t e = none → ∀ H', Same H H' → Q .non H') ∧
  (∀ e', Ha01.fits p t e = some e' → ∀ H' q us', Same H H' → H q = none → H' q = some (.lst us') → NmAt K (Jn G (Nw (upd H q (.lst [])) H')) e' us' → Q (.ref q) H')
theorem scFits : FnScope ["pattern", "letter", "names", "after", "place", "at", "kind", "name", "end"] ["pattern", "letter", "names"] (defScope sFits) := ⟨rfl, rfl, rfl, by decide +kernel, rfl, by decide +kernel, by decide +kernel⟩
theorem okFits {f fE : Addr} {fd fdE : FuncData} (F : Fun K "names_if_fits" "names_if_fits" sFits f fd) (T : Ty K mg) (DE : Df K mg "end_of" sEndOf ["told", "start", "last_kind"] fE fdE) (GE : FnOk P w K mg base CX0 2 fE fdE ["told", "start", "last_kind"] (spEndOf K)) :
    FnOk P w K mg base CX0 3 f fd ["pattern", "letter", "names"] (spFits K) := by
  refine F.ok scFits (fun vs H Q E h => ?_) (fun cdv A outer s H vs Q E hr h => ?_)
  · obtain ⟨a, b, nm, p, t, e, us, G, rfl, _⟩ := h
    rfl
  · obtain ⟨a, b, nm, p, t, e, us, G, rfl, hL, gp, hM, gt, hnm, hG, hN, kN, kS⟩ := h
    refine ⟨_, pss_cons (ps_set (i := 3) scFits.nd rfl (Or.inl rfl) (pe_callTy call_list_of (by rfl) T.list (by decide +kernel) (pa_cons (pv 2) pa_nil)))
      (pss_cons (ps_set (i := 4) scFits.nd rfl (Or.inl rfl) pe_int)
      (pss_cons (ps_set (i := 5) scFits.nd rfl (Or.inl rfl) pe_int)
      (pss_cons (ps_while PassesOwn.never (pt_cmpR op_lt (pv 4) (pe_callB call_len_seq (by rfl) T.len PySem.boot_len (pa_cons (pv 0) pa_nil)) (nomark _))
        (pss_cons (ps_set (i := 6) scFits.nd rfl (Or.inl rfl) (pe_ix ix_list (pv 0) (pv 4) (fun _ _ => rfl)))
        (pss_cons (ps_if (pt_cmpR op_eq (pv 6) (pe_gi T.ANYTHING) (nomark _))
          (pss_cons (ps_set (i := 5) scFits.nd rfl (Or.inl rfl) (pe_call GE hr (by rfl) DE.g DE.F.kp DE.b .nil pass0 (pa_cons (pv 1) (pa_cons (pv 5) (pa_cons (pe_gi T.ROW) pa_nil)))))
          (pss_cons (ps_aug (i := 4) scFits.nd rfl (Or.inl rfl) pe_int ip_add) (pss_one ps_continue))) pss_nil)
        (pss_cons (ps_if (pt_cmpR op_eq (pv 6) (pe_gi T.NAME) (nomark _))
          (pss_cons (ps_set (i := 7) scFits.nd rfl (Or.inl rfl) (pe_ix ix_list (pv 0) (pe_op op_add (pv 4) pe_int) (fun _ _ => rfl)))
          (pss_cons (ps_set (i := 8) scFits.nd rfl (Or.inl rfl) (pe_call GE hr (by rfl) DE.g DE.F.kp DE.b .nil pass0 (pa_cons (pv 1) (pa_cons (pv 5) (pa_cons (pe_gi T.ROW) pa_nil)))))
          (pss_cons (ps_if (pt_cmpR op_isN (pe_ix ix_list (pv 3) (pv 7) (fun _ _ => rfl)) pe_non (nomark _)) (pss_one (ps_asg (pe_slice sl_list (pv 1) (po_some (pv 5)) (po_some (pv 8))) (pg_sub (pv 3) (pv 7) set_list))) pss_nil)
          (pss_cons (ps_if (pt_cmpR (op_neD hr.units) (pe_ix ix_list (pv 3) (pv 7) (fun _ _ => rfl)) (pe_slice sl_list (pv 1) (po_some (pv 5)) (po_some (pv 8))) (nomark _)) (pss_one (ps_ret pe_non)) pss_nil)
          (pss_one (ps_set (i := 5) scFits.nd rfl (Or.inl rfl) (pv 8)))))))
          (pss_cons (ps_if (pt_cmpR (op_neD hr.units) (pe_slice sl_list (pv 0) (po_some (pv 4)) (po_some (pe_op op_add (pv 4) pe_int))) (pe_slice sl_list (pv 1) (po_some (pv 5)) (po_some (pe_op op_add (pv 5) pe_int))) (nomark _)) (pss_one (ps_ret pe_non)) pss_nil)
          (pss_one (ps_aug (i := 5) scFits.nd rfl (Or.inl rfl) pe_int ip_add))))
        (pss_one (ps_aug (i := 4) scFits.nd rfl (Or.inl rfl) pe_int ip_add))))))
      (pss_one (ps_ret (pv 3)))))), ?_⟩
    generalize eL : ptold p = L at hL
    generalize eM : Ha01.told t = M at hM
    refine ⟨_, rfl, nm, _, rfl, .inl hnm, fun q hq => ?_⟩
    have hGq : G q = none := hG.free hq
    have hU : (upd H q (.lst [])) q ≠ none := some_ne upd_same
    -- what holds between two turns
    let Pv : Nat → L2.St → Hp → Prop := fun m σ H' => ∃ (pl at_ : Nat) (wk : List (Ha01.Pat × Ha01.Term)) (e1 : Ha01.Names) (us1 : List V) (v6 v7 v8 : Option V), σ = [some (.ref a), some (.ref b), some (.ref nm), some (.ref q), some (.int (pl : Int)), some (.int (at_ : Int)), v6, v7, v8] ∧ m = L.length - pl ∧
      Same H H' ∧ H' q = some (.lst us1) ∧ NmAt K (Jn G (Nw (upd H q (.lst [])) H')) e1 us1 ∧ pl ≤ L.length ∧ at_ ≤ M.length ∧ L.drop pl = wk.flatMap (fun x => ptold x.1) ∧ M.drop at_ = wk.flatMap (fun x => Ha01.told x.2) ∧ (∀ x ∈ wk, GoodP 8 x.1 ∧ GoodT 8 x.2) ∧ fitsAll wk e1 = Ha01.fits p t e
    refine ⟨Pv, ⟨_, 0, 0, [(p, t)], e, us, none, none, none, rfl, rfl, Same.new hq, upd_same, hN.same (jn_left _ _), Nat.zero_le _, Nat.zero_le _, by simp [eL], by simp [eM], (fun x hx => by rw [List.mem_singleton.mp hx]; exact ⟨gp, gt⟩), ?_⟩, ?_⟩
    · show (Ha01.fits p t e).bind (fun x => some x) = _
      cases Ha01.fits p t e <;> rfl
    rintro m σ H1 ⟨pl, at_, wk, e1, us1, v6, v7, v8, rfl, rfl, sm, hq1, hN1, hpl, hat, hdL, hdM, hwk, hfit⟩
    have nL := hL.same sm
    have nM := hM.same sm
    refine ⟨_, rfl, _, rfl, a, _, rfl, .inl nL, _, _, rfl, rfl, _, rfl, ?_⟩
    rw [vI_len]
    cases wk with
    | nil =>
      have hge : L.length ≤ pl := by
        have := congrArg List.length hdL
        rw [List.length_drop] at this
        simp at this
        omega
      rw [decide_eq_false (by omega)]
      exact iteF ⟨_, rfl, kS e1 hfit.symm H1 q us1 sm hq hq1 hN1⟩
    | cons x wk =>
      obtain ⟨p1, t1⟩ := x
      have g1 : GoodP 8 p1 := (hwk _ (List.mem_cons_self ..)).1
      have g2 : GoodT 8 t1 := (hwk _ (List.mem_cons_self ..)).2
      have hwk' : ∀ x ∈ wk, GoodP 8 x.1 ∧ GoodT 8 x.2 := fun x hx => hwk x (List.mem_cons_of_mem _ hx)
      rw [List.flatMap_cons] at hdL hdM
      dsimp only at hdL hdM
      have hlenL : L.length - pl = (ptold p1).length + (wk.flatMap (fun x => ptold x.1)).length := by rw [← List.length_drop, hdL, List.length_append]
      have hlenM : M.length - at_ = (Ha01.told t1).length + (wk.flatMap (fun x => Ha01.told x.2)).length := by rw [← List.length_drop, hdM, List.length_append]
      have hpos := ptold_pos g1
      rw [decide_eq_true (by omega)]
      refine iteT ⟨fun σ' H' => ∃ m', m' < L.length - pl ∧ Pv m' σ' H', fun _ _ z => z, ?_⟩
      have eend : endV M.length (skip 3 8 (M.drop at_)) = .int ((at_ + (Ha01.told t1).length : Nat) : Int) := by
        rw [hdM, skip_told g2]
        show V.int ((M.length - _ : Nat) : Int) = _
        congr 2
        omega
      have edM : M.drop (at_ + (Ha01.told t1).length) = wk.flatMap (fun x => Ha01.told x.2) := by rw [← List.drop_drop, hdM, List.drop_left]
      have ecM : cutV (vI M) (some (at_ : Int)) (some ((at_ + (Ha01.told t1).length : Nat) : Int)) = vI (Ha01.told t1) := by
        rw [cut_vI _ _ _ hat, hdM, show at_ + (Ha01.told t1).length - at_ = (Ha01.told t1).length by omega, List.take_left]
      by_cases cA : p1 = .any
      · -- anything
        subst cA
        have e0 : L[pl]? = some 4 := by rw [← List.head?_drop, hdL]; rfl
        refine ⟨_, rfl, _, rfl, a, _, _, _, rfl, rfl, nL, vI_at e0, ?_⟩
        refine ⟨_, rfl, rfl, _, rfl, iteT ?_⟩
        refine ⟨_, rfl, _, rfl, b, M, at_, 3, rfl, nM, by decide, hat, fun H2 s2 => ?_⟩
        rw [eend]
        refine ⟨_, rfl, _, _, rfl, rfl, ?_⟩
        have h1 : (ptold Ha01.Pat.any).length = 1 := rfl
        refine ⟨L.length - (pl + 1), by omega, pl + 1, at_ + (Ha01.told t1).length, wk, e1, us1, _, _, _, rfl, rfl, sm.trans s2, s2 _ _ hq1, hN1.same (jn_mono (nw_mono s2)), by omega, by omega, ?_, edM, hwk', ?_⟩
        · rw [← List.drop_drop, hdL]
          rfl
        · rw [← hfit, fit_any]
      · by_cases cV : ∃ v, p1 = .name v
        · -- a name
          obtain ⟨v, rfl⟩ := cV
          have hv9 : v ≤ 9 := by cases g1; assumption
          have h2 : (ptold (Ha01.Pat.name v)).length = 2 := rfl
          have e0 : L[pl]? = some 5 := by rw [← List.head?_drop, hdL]; rfl
          have e0' : L[pl + 1]? = some v := by
            have : (L.drop pl)[1]? = some v := by rw [hdL]; rfl
            rw [List.getElem?_drop] at this
            exact this
          have edL : L.drop (pl + 2) = wk.flatMap (fun x => ptold x.1) := by
            rw [← List.drop_drop, hdL]
            rfl
          refine ⟨_, rfl, _, rfl, a, _, _, _, rfl, rfl, nL, vI_at e0, ?_⟩
          refine ⟨_, rfl, rfl, _, rfl, iteF ?_⟩
          refine ⟨_, rfl, rfl, _, rfl, iteT ?_⟩
          refine ⟨_, rfl, _, rfl, _, _, rfl, rfl, a, _, _, _, rfl, rfl, nL, vI_at (i := pl + 1) e0', ?_⟩
          refine ⟨_, rfl, _, rfl, b, M, at_, 3, rfl, nM, by decide, hat, fun H2 s2 => ?_⟩
          rw [eend]
          have hq2 := s2 _ _ hq1
          have hN2 := hN1.same (jn_mono (G := G) (nw_mono (H := upd H q (.lst [])) s2))
          obtain ⟨nv, hnv, hV⟩ := hN2.get hv9
          have sm2 := sm.trans s2
          have sJ : ∀ H3, Same H H3 → Same (Jn G (Nw (upd H q (.lst [])) H3)) H3 := fun H3 s => jn_sub (hG.trans s) (nw_sub _ _)
          refine ⟨_, rfl, _, rfl, q, _, _, _, rfl, rfl, SqL.of hq2, atI_nat hnv, rfl, _, rfl, ?_⟩
          rw [fit_name] at hfit
          cases cval : Ha01.valueOf e1 v with
          | none =>
            rw [cval] at hV hfit
            cases (hV : nv = .non)
            refine iteT ?_
            refine ⟨_, rfl, _, rfl, _, rfl, _, rfl, _, rfl, b, _, rfl, hM.same sm2, fun p6 hp6 => ?_⟩
            rw [ecM]
            have s3 : Same H2 (upd H2 p6 (.lst (vI (Ha01.told t1)))) := Same.new hp6
            have hq3 := s3 _ _ hq2
            have hp6q : p6 ≠ q := fun z => by rw [z, hq2] at hp6; cases hp6
            have hvl : v < us1.length := (List.getElem?_eq_some_iff.mp hnv).1
            refine ⟨_, rfl, _, rfl, q, _, _, v, rfl, rfl, hq3, (by unfold ixN; rw [if_pos (by omega), if_pos (by omega), Int.toNat_natCast]), ?_⟩
            generalize eH3 : upd H2 p6 (.lst (vI (Ha01.told t1))) = H3 at s3 hq3
            have s4 : Same H (upd H3 q (.lst (us1.set v (.ref p6)))) := fun c o z => by
              rw [upd_ne (ne_of_none z hq)]
              exact s3 _ _ (sm2 _ _ z)
            have hq4 : (upd H3 q (.lst (us1.set v (.ref p6)))) q = some (.lst (us1.set v (.ref p6))) := upd_same
            have hN3 : NmAt K (Jn G (Nw (upd H q (.lst [])) (upd H3 q (.lst (us1.set v (.ref p6)))))) e1 us1 := hN2.same (jn_mono ((nw_mono s3).trans (nw_upd hU)))
            have hV4 : NmV K (Jn G (Nw (upd H q (.lst [])) (upd H3 q (.lst (us1.set v (.ref p6)))))) (.ref p6) (some t1) := by
              refine ⟨p6, rfl, ?_, g2⟩
              refine jn_right (fun c o z => ?_) _ _ (nw_some.mpr ⟨?_, ?_⟩)
              · exact hG.free (upd_free c (nw_some.mp z).1)
              · rw [upd_ne hp6q]
                exact sm2.free hp6
              · rw [upd_ne hp6q, ← eH3]
                exact upd_same
            have hN4 := hN3.set (i := v) hV4
            generalize eH4 : upd H3 q (.lst (us1.set v (.ref p6))) = H4 at s4 hq4 hN4 hV4
            have n6 : NL K H4 p6 (Ha01.told t1) := by
              obtain ⟨_, z, n, _⟩ := hV4
              cases z
              exact (n.same (sJ H4 s4)).nl
            refine ⟨_, rfl, _, rfl, q, _, _, _, rfl, rfl, SqL.of hq4, atI_nat (List.getElem?_set_self hvl), _, rfl, _, rfl, _, rfl, _, rfl, _, rfl, b, _, rfl, hM.same s4, fun p7 hp7 => ?_⟩
            rw [ecM]
            have s5 : Same H4 (upd H4 p7 (.lst (vI (Ha01.told t1)))) := Same.new hp7
            have n7 : NL K (upd H4 p7 (.lst (vI (Ha01.told t1)))) p7 (Ha01.told t1) := SqL.of upd_same
            refine ⟨_, _, (n6.same s5).dp, n7.dp, shaped_dI _, shaped_dI _, _, rfl, ?_⟩
            rw [eqv_dI, decide_eq_true rfl]
            refine iteF ⟨_, rfl, _, rfl, _, _, rfl, rfl, ?_⟩
            exact ⟨L.length - (pl + 2), by omega, pl + 2, at_ + (Ha01.told t1).length, wk, e1.set v (some t1), us1.set v (.ref p6), _, _, _, rfl, rfl, s4.trans s5, s5 _ _ hq4, hN4.same (jn_mono (nw_mono s5)), by omega, by omega, edL, edM, hwk', hfit⟩
          | some u =>
            rw [cval] at hV hfit
            have gu := hV.good
            obtain ⟨a7, rfl, n7, _⟩ := hV
            have n7' : NL K H2 a7 (Ha01.told u) := (n7.same (sJ H2 sm2)).nl
            refine iteF ?_
            refine ⟨_, rfl, _, rfl, q, _, _, _, rfl, rfl, SqL.of hq2, atI_nat hnv, _, rfl, _, rfl, _, rfl, _, rfl, _, rfl, b, _, rfl, hM.same sm2, fun p7 hp7 => ?_⟩
            rw [ecM]
            have s5 : Same H2 (upd H2 p7 (.lst (vI (Ha01.told t1)))) := Same.new hp7
            have n8 : NL K (upd H2 p7 (.lst (vI (Ha01.told t1)))) p7 (Ha01.told t1) := SqL.of upd_same
            refine ⟨_, _, (n7'.same s5).dp, n8.dp, shaped_dI _, shaped_dI _, _, rfl, ?_⟩
            rw [eqv_dI]
            by_cases cu : u = t1
            · subst cu
              rw [decide_eq_true rfl]
              refine iteF ⟨_, rfl, _, rfl, _, _, rfl, rfl, ?_⟩
              refine ⟨L.length - (pl + 2), by omega, pl + 2, at_ + (Ha01.told u).length, wk, e1, us1, _, _, _, rfl, rfl, sm2.trans s5, s5 _ _ hq2, hN2.same (jn_mono (nw_mono s5)), by omega, by omega, edL, edM, hwk', ?_⟩
              rw [← hfit]
              exact (if_pos rfl).symm
            · rw [decide_eq_false fun z => cu (told_inj gu g2 z)]
              refine iteT (kN ?_ _ (sm2.trans s5))
              rw [← hfit]
              exact if_neg cu
        · -- any other part
          obtain ⟨k, v, ps, k', v', ts, hp1, ht1, hk4, hk5, hps, hts, hyes, hno⟩ := fit_part g1 cA (fun v z => cV ⟨v, z⟩) g2
          rw [hp1] at hdL hlenL
          rw [ht1] at hdM hlenM
          rw [List.length_cons, List.length_cons] at hlenL hlenM
          have e0 : L[pl]? = some k := by rw [← List.head?_drop, hdL]; rfl
          refine ⟨_, rfl, _, rfl, a, _, _, _, rfl, rfl, nL, vI_at e0, ?_⟩
          refine ⟨_, rfl, rfl, _, rfl, ?_⟩
          rw [decide_eq_false (by intro z; cases z; exact hk4 rfl)]
          refine iteF ⟨_, rfl, rfl, _, rfl, ?_⟩
          rw [decide_eq_false (by intro z; cases z; exact hk5 rfl)]
          refine iteF ⟨_, rfl, _, rfl, _, rfl, _, rfl, _, _, rfl, rfl, _, rfl, a, _, rfl, nL, fun p6 hp6 => ?_⟩
          rw [cut2 hpl hdL]
          have s2 : Same H1 (upd H1 p6 (.lst (vI [k, v]))) := Same.new hp6
          refine ⟨_, rfl, _, rfl, _, rfl, _, rfl, _, _, rfl, rfl, _, rfl, b, _, rfl, nM.same s2, fun p7 hp7 => ?_⟩
          rw [cut2 hat hdM]
          have s3 : Same (upd H1 p6 (.lst (vI [k, v]))) (upd (upd H1 p6 (.lst (vI [k, v]))) p7 (.lst (vI [k', v']))) := Same.new hp7
          have n6 : NL K (upd (upd H1 p6 (.lst (vI [k, v]))) p7 (.lst (vI [k', v']))) p6 [k, v] := SqL.of (s3 _ _ upd_same)
          have n7 : NL K (upd (upd H1 p6 (.lst (vI [k, v]))) p7 (.lst (vI [k', v']))) p7 [k', v'] := SqL.of upd_same
          have s23 := s2.trans s3
          refine ⟨_, _, n6.dp, n7.dp, shaped_dI _, shaped_dI _, _, rfl, ?_⟩
          rw [eqv_dI]
          by_cases cc : k = k' ∧ v = v'
          · obtain ⟨z1, z2⟩ := cc
            obtain ⟨hl2, hf2⟩ := hyes z1 z2
            rw [decide_eq_true (by rw [z1, z2])]
            refine iteF ⟨_, rfl, _, _, rfl, rfl, _, rfl, _, _, rfl, rfl, ?_⟩
            refine ⟨L.length - (pl + 2), by omega, pl + 2, at_ + 2, ps.zip ts ++ wk, e1, us1, _, _, _, rfl, rfl, sm.trans s23, s23 _ _ hq1, hN1.same (jn_mono (nw_mono s23)), by omega, by omega, ?_, ?_, fun x hx => ?_, ?_⟩
            · rw [← List.drop_drop, hdL, List.flatMap_append, zip_fst _ _ hl2]
              rfl
            · rw [← List.drop_drop, hdM, List.flatMap_append, zip_snd _ _ hl2]
              rfl
            · rcases List.mem_append.mp hx with hx | hx
              · exact ⟨hps _ (List.of_mem_zip hx).1, hts _ (List.of_mem_zip hx).2⟩
              · exact hwk' x hx
            · rw [← hfit, hf2]
          · rw [decide_eq_false fun z => cc ⟨(List.cons.inj z).1, (List.cons.inj (List.cons.inj z).2).1⟩]
            refine iteT (kN ?_ _ (sm.trans s23))
            rw [← hfit]
            show (Ha01.fits p1 t1 e1).bind _ = none
            rw [hno cc]
            rfl
end
end Pk

set_option Elab.async false
set_option linter.all false
set_option maxRecDepth 100000
set_option maxHeartbeats 2000000
/-! A rule that the layer lacks: for i, x in enumerate(xs, start=k) over a list. -/
namespace Pk
open PySem PySem.Spec PyProof.Rows L2
/-- the list at a, each item in a new pair with its place from k on -/
def ItS (K : PySem.W.Frag) (a : Addr) (k : Int) : It :=
  ⟨fun i H => ∃ (xs : List V) (x : V), SqL K H a xs ∧ xs[i]? = some x,
   fun i H v H' => ∃ T x, v = .ref T ∧ H T = none ∧ H' = upd H T (.tup [.int (k + (i : Nat)), x]) ∧ ∀ xs, SqL K H a xs → xs[i]? = some x,
   fun i H => ∃ xs : List V, SqL K H a xs ∧ xs.length ≤ i⟩
theorem turnS {P : Program} {w : World} {K : PySem.W.Frag} {elts : List Expr} {kk : Nat} {tp : Pos} (a en li : Addr) (k : Int) (hal : a ≠ li) (hae : a ≠ en) :
    Turn P w K (.Tuple elts kk tp) (ItS K a k) [en, li] en (fun i h => (∃ o, IsEnum h en li (k + (i : Nat)) o) ∧ h.IsListIter li a i ∧ en ≠ li) where
  mem := List.mem_cons_self ..
  obj := fun i h st c hc => by
    obtain ⟨⟨o1, q1⟩, ⟨o2, q2, _, d2⟩, _⟩ := st
    rcases List.mem_cons.mp hc with z | z
    · subst z
      exact ⟨_, q1, fun v y => nomatch y⟩
    · have z' : c = li := List.mem_singleton.mp z
      subst z'
      exact ⟨o2, q2, fun v y => by rw [d2] at y; cases y⟩
  keep := fun i h h' st kp => by
    obtain ⟨⟨o1, q1⟩, q2, q3⟩ := st
    exact ⟨⟨o1, kp en (List.mem_cons_self ..) _ q1⟩, q2.at fun o y => kp li (List.mem_cons_of_mem _ (List.mem_singleton.mpr rfl)) o y, q3⟩
  item := by
    intro X hP hw hK hc i pins s σ H E I hf st hg
    subst hP hw hK
    obtain ⟨⟨o1, q1⟩, q2, q3⟩ := st
    obtain ⟨xs, x, hs, hx⟩ := hg
    obtain ⟨its, rv, pl, _⟩ := I.list hs
    obtain ⟨u, hu, ru⟩ := rv.get hx
    have l1 : en < s.heap.objs.size := Heap.lt_size q1
    have l2 : li < s.heap.objs.size := by
      obtain ⟨_, y, _⟩ := q2
      exact Heap.lt_size y
    have hlt : i < its.toArray.size := by
      have := (List.getElem?_eq_some_iff.mp hu).1
      simpa using this
    have hin : X.A.in1.handled = none := I.ok.hd hc
    refine wpAny_pyNext_enum_itemC (Draws.list (A := X.A.in1) hin li a hal its.toArray) q1 ⟨q2, pl.isList⟩ hlt q3 (fun z => ?_) fun y h1 t1 hy ho hst hT hz hk => ?_
    · rcases List.mem_cons.mp z with z | z
      · exact q3 z
      · exact hae (List.mem_singleton.mp z).symm
    have ey : y = u := by
      rw [show its.toArray[i]? = some u by simpa using hu] at hy
      exact (Option.some.inj hy).symm
    subst ey
    refine ⟨_, rfl, wpAny_letOwnedTupleGo_enum (s := { s with heap := h1, toks := t1 + 1 }) ho fun h2 q1' sb => ?_⟩
    have hT2 : h2.get? s.heap.objs.size = some { cls := .type "tuple", data := .seq #[.int (k + (i : Nat)) t1, y] } := (sb.2 _ (Nat.ne_of_gt l1)).trans hT
    have nw : ObjOk X.prog X.w (upd H s.heap.objs.size (.tup [.int (k + (i : Nat)), x])) h2 s.heap.objs.size (.tup [.int (k + (i : Nat)), x]) :=
      ⟨by show 2 ≤ sizeLine; decide, [.int (k + (i : Nat)) t1, y], .cons ⟨_, rfl⟩ (.cons ru .nil), ⟨_, hT2, rfl, _, rfl⟩⟩
    have I2 : Inv X pins σ (upd H s.heap.objs.size (.tup [.int (k + (i : Nat)), x])) { s with heap := h2, toks := t1 + 1 } :=
      I.turnedNew (ch := [en, li]) (fun c oc hcn z => by
        have n1 : c ≠ en := fun q => hcn (by rw [q]; exact List.mem_cons_self ..)
        have n2 : c ≠ li := fun q => hcn (by rw [q]; exact List.mem_cons_of_mem _ (List.mem_singleton.mpr rfl))
        exact (sb.2 c n1).trans (hk c oc n1 n2 z)) hf (Nat.le_refl _) nw
    refine ⟨.ref s.heap.objs.size, _, I2, rfl, ⟨_, x, rfl, I.hok.fresh (Nat.le_refl _), rfl, fun ys hy => by rw [I.list_inj hy hs]; exact hx⟩, ⟨⟨y, ?_⟩, ?_, q3⟩, fun c hcm => ?_⟩
    · rw [show (k + ((i + 1 : Nat) : Int)) = k + (i : Nat) + 1 by omega]
      exact q1'
    · exact hst.1.at fun o z => (sb.2 li (Ne.symm q3)).trans z
    · have hlt' : c < s.heap.objs.size := by
        rcases List.mem_cons.mp hcm with z | z
        · rw [z]; exact l1
        · rw [List.mem_singleton.mp z]; exact l2
      rw [upd_ne (Nat.ne_of_lt hlt')]
      exact (hf c hcm).1
  done := by
    intro X hP hw hK hc i pins s σ H E I hf st hg
    subst hP hw hK
    obtain ⟨⟨o1, q1⟩, q2, q3⟩ := st
    obtain ⟨xs, hs, hx⟩ := hg
    obtain ⟨its, rv, pl, _⟩ := I.list hs
    obtain ⟨f0, f1, _, f3, f4, f5⟩ := hf li (List.mem_cons_of_mem _ (List.mem_singleton.mpr rfl))
    have hle := rv.length
    have hin : X.A.in1.handled = none := I.ok.hd hc
    have D : Draws X.prog X.w X.A.in1 li [li, a] i (fun _ _ => True) (fun j h => j = i ∧ h.IsListIter li a j ∧ h.IsList a its.toArray) :=
      { live := fun j h st1 => by
          obtain ⟨_, ⟨o, z, _⟩, _⟩ := st1
          exact ⟨o, z⟩
        frame := fun j h h' st1 kp => ⟨st1.1, st1.2.1.at fun o z => kp li (List.mem_cons_self ..) o z, st1.2.2.at fun o z => kp a (List.mem_cons_of_mem _ (List.mem_singleton.mpr rfl)) o z⟩
        item := fun j s1 Q1 E1 hj st1 hQ1 => by
          have := st1.1
          omega
        done := fun s1 Q1 E1 st1 hE1 => wpAny_nextOf_list_end hin st1.2.1 st1.2.2 (by simp; omega) hE1 }
    exact wpAny_pyNext_enum_endD D q1 ⟨rfl, q2, pl.isList⟩ fun h' eb => ⟨rfl, I.turned (t' := s.toks) (fun b o hb q => eb b o hb q) f0 f1 f3 f4 f5⟩
  self := fun A i s Q E st h => by
    obtain ⟨⟨o1, q1⟩, _⟩ := st
    exact wpAny_pyIter_enum q1 h
/-- a built-in class called with keywords -/
theorem callWithT {M : Model} {A : Around} {E : Value → Shared → Prop} {s : Shared} {pos : Pos} {T : String} {args : List (Bool × Sem Value)} {kws : List (Option Str × Sem Value)} {Q : Value → Shared → Prop}
    (hp : args.any (·.1) = false) (hk : kws.any (·.1.isNone) = false) (h : wpAny M A (evalArgs (.type T) true args kws) (fun x s1 => wpAny M A (call (.type T) x.pos x.kw) Q E s1) E s) :
    wpAny M A (callWith pos (.type T) [] args kws) Q E s := by
  unfold callWith
  refine wpAny_bind (wpAny_holding (wpAny_mono h (fun x s1 h1 => ?_) fun _ _ z => z))
  refine wpAny_bind (wpAny_standAt ?_)
  simp only [hp, hk, Bool.or_false, List.nil_append]
  refine wpAny_bind (wpAny_pure (wpAny_bind (wpAny_mono h1 (fun r s2 h2 => ?_) fun _ _ z => z)))
  exact wpAny_bind (wpAny_holding (wpAny_point (wpAny_pure h2)))
def iEnS (K : PySem.W.Frag) (ta : TA) (k : Int) : TI := fun σ H R => ta σ H fun vs H1 => ∃ a xs, vs = [V.ref a] ∧ SqL K H1 a xs ∧ R (ItS K a k) H1
/-- enumerate(xs, start=k), k a written number -/
theorem pi_enS {X : Cx} {x : Str} {j : Nat} {k : Int} {ta : TA} {p pos tp pc pk px : Pos} {elts : List Expr} {kk : Nat} (hg : Gl X "enumerate") (hm : X.mg "enumerate" = none) (ha : PA X [.Name x px] ta) (k0 : -(2 ^ 63) ≤ k) (k1 : k < 2 ^ 63) :
    PI X (.Tuple elts kk tp) (.Call (.Name "enumerate" p) [.Name x px] [⟨some "start", .Constant (.int k) j pc, pk⟩] pos) (iEnS X.K ta k) := by
  refine ⟨fun pins s σ H R I h => ?_⟩
  refine wpAny_Call_Name_kw (ld_blt I hg hm boot_enumerate (callWithT rfl rfl ?_))
  refine evalArgs_kwB rfl (thn (ha.run pos pins s σ H _ I h) fun us s1 ⟨vs, H1, I1, r1, a, xs, ea, hs, q⟩ => ?_)
  subst ea
  have hPK : PK X [⟨some "start", .Constant (.int k) j pc, pk⟩] (tCons (tC (.int k)) tNil) := pk_cons pe_int pk_nil
  refine thn (hPK.run pos pins s1 σ H1 (fun zs H2 => zs = [V.int k] ∧ H2 = H1) I1 ⟨rfl, rfl⟩) fun ws s2 ⟨zs, H2, I2, r2, ez, eh⟩ => ?_
  subst ez eh
  cases r1 with
  | cons ra rr =>
    cases rr
    cases ra
    cases r2 with
    | cons rb rr2 =>
      cases rr2
      obtain ⟨t, rfl⟩ := rb
      obtain ⟨its, rv, pl, _⟩ := I2.list hs
      have hL := pl.isList
      have lt : a < s2.heap.objs.size := by
        obtain ⟨o, z, _⟩ := hL
        exact Heap.lt_size z
      refine enum_begins_start (begins_list a its.toArray) hL k0 k1 fun h' he hit hz hk => wpAny_pyIter_enum he ?_
      have I3 : Inv X pins σ H2 { s2 with heap := h' } := I2.kept (t' := s2.toks) hk
      refine ⟨s2.heap.objs.size + 1, [s2.heap.objs.size + 1, s2.heap.objs.size], _, _, H2, rfl, I3, turnS a (s2.heap.objs.size + 1) s2.heap.objs.size k (Nat.ne_of_lt lt) (Nat.ne_of_lt (Nat.lt_succ_of_lt lt)), ⟨⟨.none, ?_⟩, ⟨_, hit, rfl, rfl⟩, Nat.succ_ne_self _⟩, fun c hc => ?_, q⟩
      · rw [show k + ((0 : Nat) : Int) = k by omega]
        exact he
      · have hle : s2.heap.objs.size ≤ c := by
          rcases List.mem_cons.mp hc with z | z
          · rw [z]; exact Nat.le_succ _
          · rw [List.mem_singleton.mp z]; exact Nat.le_refl _
        exact I2.fpOk hle (I2.hok.fresh hle)
theorem walkS {K : PySem.W.Frag} {a : Addr} {xs : List V} {k : Int} : Walk (ItS K a k) xs.length (fun H => SqL K H a xs) (YPair (fun i => some (.int (k + (i : Nat)))) (fun i => xs[i]?)) := by
  refine ⟨fun i _ hi q => ⟨xs, xs[i], q, List.getElem?_eq_getElem hi⟩, fun _ q => ⟨xs, q, Nat.le_refl _⟩, fun i H v H' _ q y => ?_⟩
  obtain ⟨T, x, h1, h2, h3, h4⟩ := y
  exact ⟨T, _, x, h1, h2, h3, rfl, h4 xs q⟩
end Pk

set_option Elab.async false
set_option linter.all false
set_option maxRecDepth 100000
set_option maxHeartbeats 2000000
/-! taking.py, the rest -/
namespace Pk
open PySem PySem.Spec PyProof.Rows L2
section
variable {P : Program} {w : World} {K : PySem.W.Frag} {mg : Str → Option Value} {base : Heap}
/-! holds -/
def spHolds (K : PySem.W.Frag) : Sp := fun vs H Q _ => ∃ (a nm : Addr) (x : Ha01.Test) (e : Ha01.Names) (us : List V), vs = [.ref a, .ref nm] ∧ NL K H a (tl x) ∧ okTest x = true ∧ SqL K H nm us ∧ NmAt K H e us ∧ Q (.bl (Ha01.holds e x)) H
theorem scHolds : FnScope ["test", "names", "value", "what", "n"] ["test", "names"] (defScope sHolds) := ⟨rfl, rfl, rfl, by decide +kernel, rfl, by decide +kernel, by decide +kernel⟩
theorem eq_value {o : Option Ha01.Term} {t : Ha01.Term} (ht : GoodT 8 t) (h : ∀ u, o = some u → GoodT 8 u) : PyData.eqv (dI (Ha01.told t)) (dN o) = (o == some t) := by
  cases o with
  | none => rfl
  | some u =>
    show PyData.eqv (dI (Ha01.told t)) (dI (Ha01.told u)) = _
    rw [eqv_dI]
    by_cases c : u = t
    · subst c
      simp
    · have : ¬ Ha01.told t = Ha01.told u := fun z => c (told_inj ht (h u rfl) z).symm
      simp [this, c]
theorem dec_int (a b : Nat) : decide (V.int (a : Int) = V.int (b : Int)) = decide (a = b) := by
  rw [decide_eq_decide]
  refine ⟨fun h => ?_, fun h => by rw [h]⟩
  have := V.int.inj h
  omega
theorem okHolds {f : Addr} {fd : FuncData} (F : Fun K "holds" "holds" sHolds f fd) (T : Ty K mg) : FnOk P w K mg base CX0 1 f fd ["test", "names"] (spHolds K) := by
  refine F.ok scHolds (fun vs H Q E h => ?_) (fun cdv A outer s H vs Q E hr h => ?_)
  · obtain ⟨a, nm, x, e, us, rfl, _⟩ := h
    rfl
  · obtain ⟨a, nm, x, e, us, rfl, hx, hok, hnm, hN, q⟩ := h
    refine ⟨_, pss_cons (ps_set (i := 2) scHolds.nd rfl (Or.inl rfl) (pe_ix ix_list (pv 1) (pe_ix ix_list (pv 0) pe_int (fun _ _ => rfl)) (fun _ _ => rfl)))
      (pss_cons (ps_if (pt_cmpR op_isN (pv 2) pe_non (nomark _)) (pss_one (ps_ret pe_bl)) pss_nil)
      (pss_cons (ps_set (i := 3) scHolds.nd rfl (Or.inl rfl) (pe_ix ix_list (pv 0) pe_int (fun _ _ => rfl)))
      (pss_cons (ps_set (i := 4) scHolds.nd rfl (Or.inl rfl) (pe_ix ix_list (pv 0) pe_int (fun _ _ => rfl)))
      (pss_cons (ps_if (pt_cmpR op_eq (pv 3) (pe_gi T.IS_VALUE_OF) (nomark _)) (pss_one (ps_ret (pe_cmpR (op_eqD hr.units) (pv 2) (pe_ix ix_list (pv 1) (pv 4) (fun _ _ => rfl)) (nomark _)))) pss_nil)
      (pss_cons (ps_if (pt_cmpR op_eq (pv 3) (pe_gi T.IS_ROW_OF) (nomark _)) (pss_one (ps_ret (pe_and (pe_cmpR op_eq (pe_ix ix_list (pv 2) pe_int (fun _ _ => rfl)) (pe_gi T.ROW) (nomark _)) (pe_one (pe_cmpR op_eq (pe_ix ix_list (pv 2) pe_int (fun _ _ => rfl)) (pv 4) (nomark _)))))) pss_nil)
      (pss_cons (ps_if (pt_cmpR op_eq (pv 3) (pe_gi T.IS_TOKEN) (nomark _)) (pss_one (ps_ret (pe_cmpR op_eq (pe_ix ix_list (pv 2) pe_int (fun _ _ => rfl)) (pe_gi T.TOKEN) (nomark _)))) pss_nil)
      (pss_cons (ps_if (pt_cmpR op_eq (pv 3) (pe_gi T.IS_WORD) (nomark _)) (pss_one (ps_ret (pe_cmpR op_eq (pe_ix ix_list (pv 2) pe_int (fun _ _ => rfl)) (pe_gi T.WORD) (nomark _)))) pss_nil)
      (pss_cons (ps_if (pt_cmpR op_ne (pe_ix ix_list (pv 2) pe_int (fun _ _ => rfl)) (pe_gi T.NUMBER) (nomark _)) (pss_one (ps_ret pe_bl)) pss_nil)
      (pss_cons (ps_if (pt_cmpR op_eq (pv 3) (pe_gi T.IS_NUMBER_N) (nomark _)) (pss_one (ps_ret (pe_cmpR op_eq (pe_ix ix_list (pv 2) pe_int (fun _ _ => rfl)) (pv 4) (nomark _)))) pss_nil)
      (pss_cons (ps_if (pt_cmpR op_eq (pv 3) (pe_gi T.IS_NUMBER_BELOW) (nomark _)) (pss_one (ps_ret (pe_cmpR op_lt (pe_ix ix_list (pv 2) pe_int (fun _ _ => rfl)) (pv 4) (nomark _)))) pss_nil)
      (pss_cons (ps_if (pt_cmpR op_eq (pv 3) (pe_gi T.IS_NUMBER_ABOVE) (nomark _)) (pss_one (ps_ret (pe_cmpR op_gt (pe_ix ix_list (pv 2) pe_int (fun _ _ => rfl)) (pv 4) (nomark _)))) pss_nil)
      (pss_one (ps_ret (pe_cmpR op_eq (pv 3) (pe_gi T.IS_NUMBER) (nomark _))))))))))))))), ?_⟩
    have i0 : atI (vI (tl x)) 0 = some (V.int (x.what : Int)) := vI_at (l := tl x) (i := 0) rfl
    have i1 : atI (vI (tl x)) 1 = some (V.int (x.name : Int)) := vI_at (l := tl x) (i := 1) rfl
    have i2 : atI (vI (tl x)) 2 = some (V.int (x.n : Int)) := vI_at (l := tl x) (i := 2) rfl
    obtain ⟨hw7, hn9, h79⟩ : x.what ≤ 7 ∧ x.name ≤ 9 ∧ (x.what = 7 → x.n ≤ 9) := by
      unfold okTest at hok
      simp at hok
      omega
    obtain ⟨nv, hnv, hV⟩ := hN.get hn9
    refine ⟨_, rfl, _, rfl, a, _, 1, _, rfl, rfl, hx, i1, nm, _, _, _, rfl, rfl, hnm, atI_nat hnv, ?_⟩
    cases cval : Ha01.valueOf e x.name with
    | none =>
      rw [cval] at hV
      cases (hV : nv = .non)
      rw [holds_none cval] at q
      exact ⟨_, rfl, rfl, _, rfl, iteT q⟩
    | some t =>
      rw [cval] at hV
      have gt := hV.good
      obtain ⟨av, rfl, hav0, _⟩ := hV
      have hav : NL K H av (Ha01.told _) := hav0.nl
      obtain ⟨k, v, rest, hk, hh⟩ := holds_some cval gt hw7
      rw [hh] at q
      have j0 : atI (vI (Ha01.told t)) 0 = some (V.int (k : Int)) := vI_at (l := Ha01.told t) (i := 0) (by rw [hk]; rfl)
      have j1 : atI (vI (Ha01.told t)) 1 = some (V.int (v : Int)) := vI_at (l := Ha01.told t) (i := 1) (by rw [hk]; rfl)
      refine ⟨_, rfl, rfl, _, rfl, iteF ?_⟩
      refine ⟨_, rfl, a, _, 0, _, rfl, rfl, hx, i0, ?_⟩
      refine ⟨_, rfl, a, _, 2, _, rfl, rfl, hx, i2, ?_⟩
      refine ⟨_, rfl, rfl, _, rfl, ?_⟩
      rw [show decide (V.int (x.what : Int) = V.int 7) = decide (x.what = 7) from dec_int _ 7]
      by_cases c7 : x.what = 7
      · rw [decide_eq_true c7]
        rw [if_pos c7] at q
        obtain ⟨mv, hmv, hW⟩ := hN.get (h79 c7)
        refine iteT ⟨_, rfl, _, rfl, _, rfl, nm, _, _, _, rfl, rfl, hnm, atI_nat hmv, _, _, hav.dp, hW.dp, shaped_dI _, shaped_dN _, ?_⟩
        rw [eq_value gt (fun u hu => by rw [hu] at hW; exact hW.good)]
        exact q
      · rw [decide_eq_false c7]
        rw [if_neg c7] at q
        refine iteF ⟨_, rfl, rfl, _, rfl, ?_⟩
        rw [show decide (V.int (x.what : Int) = V.int 6) = decide (x.what = 6) from dec_int _ 6]
        by_cases c6 : x.what = 6
        · rw [decide_eq_true c6]
          rw [if_pos c6] at q
          refine iteT ⟨_, rfl, av, _, 0, _, rfl, rfl, hav, j0, rfl, _, rfl, ?_⟩
          rw [show decide (V.int (k : Int) = V.int 3) = decide (k = 3) from dec_int _ 3]
          by_cases d : k = 3
          · rw [decide_eq_true d]
            rw [decide_eq_true d, Bool.true_and] at q
            refine iteT ⟨_, rfl, av, _, 1, _, rfl, rfl, hav, j1, _, rfl, rfl, ?_⟩
            rw [dec_int]
            exact q
          · rw [decide_eq_false d]
            rw [decide_eq_false d, Bool.false_and] at q
            exact iteF q
        · rw [decide_eq_false c6]
          rw [if_neg c6] at q
          refine iteF ⟨_, rfl, rfl, _, rfl, ?_⟩
          rw [show decide (V.int (x.what : Int) = V.int 5) = decide (x.what = 5) from dec_int _ 5]
          by_cases c5 : x.what = 5
          · rw [decide_eq_true c5]
            rw [if_pos c5] at q
            refine iteT ⟨_, rfl, av, _, 0, _, rfl, rfl, hav, j0, rfl, ?_⟩
            rw [show decide (V.int (k : Int) = V.int 2) = decide (k = 2) from dec_int _ 2]
            exact q
          · rw [decide_eq_false c5]
            rw [if_neg c5] at q
            refine iteF ⟨_, rfl, rfl, _, rfl, ?_⟩
            rw [show decide (V.int (x.what : Int) = V.int 4) = decide (x.what = 4) from dec_int _ 4]
            by_cases c4 : x.what = 4
            · rw [decide_eq_true c4]
              rw [if_pos c4] at q
              refine iteT ⟨_, rfl, av, _, 0, _, rfl, rfl, hav, j0, rfl, ?_⟩
              rw [show decide (V.int (k : Int) = V.int 1) = decide (k = 1) from dec_int _ 1]
              exact q
            · rw [decide_eq_false c4]
              rw [if_neg c4] at q
              refine iteF ⟨_, rfl, av, _, 0, _, rfl, rfl, hav, j0, rfl, _, rfl, ?_⟩
              rw [show decide (V.int (k : Int) = V.int 0) = decide (k = 0) from dec_int _ 0]
              by_cases ck : k = 0
              · rw [decide_eq_true ck]
                rw [if_neg (fun z => z ck)] at q
                refine iteF ⟨_, rfl, rfl, _, rfl, ?_⟩
                rw [show decide (V.int (x.what : Int) = V.int 0) = decide (x.what = 0) from dec_int _ 0]
                by_cases c0 : x.what = 0
                · rw [decide_eq_true c0]
                  rw [if_pos c0] at q
                  refine iteT ⟨_, rfl, av, _, 1, _, rfl, rfl, hav, j1, _, rfl, rfl, ?_⟩
                  rw [dec_int]
                  exact q
                · rw [decide_eq_false c0]
                  rw [if_neg c0] at q
                  refine iteF ⟨_, rfl, rfl, _, rfl, ?_⟩
                  rw [show decide (V.int (x.what : Int) = V.int 1) = decide (x.what = 1) from dec_int _ 1]
                  by_cases c1 : x.what = 1
                  · rw [decide_eq_true c1]
                    rw [if_pos c1] at q
                    refine iteT ⟨_, rfl, av, _, 1, _, rfl, rfl, hav, j1, _, rfl, _, _, rfl, rfl, ?_⟩
                    show Q (.bl (decide ((v : Int) < (x.n : Int)))) H
                    rw [show decide ((v : Int) < (x.n : Int)) = decide (v < x.n) by rw [decide_eq_decide]; omega]
                    exact q
                  · rw [decide_eq_false c1]
                    rw [if_neg c1] at q
                    refine iteF ⟨_, rfl, rfl, _, rfl, ?_⟩
                    rw [show decide (V.int (x.what : Int) = V.int 2) = decide (x.what = 2) from dec_int _ 2]
                    by_cases c2 : x.what = 2
                    · rw [decide_eq_true c2]
                      rw [if_pos c2] at q
                      refine iteT ⟨_, rfl, av, _, 1, _, rfl, rfl, hav, j1, _, rfl, _, _, rfl, rfl, ?_⟩
                      show Q (.bl (decide ((x.n : Int) < (v : Int)))) H
                      rw [show decide ((x.n : Int) < (v : Int)) = decide (x.n < v) by rw [decide_eq_decide]; omega]
                      exact q
                    · rw [decide_eq_false c2]
                      rw [if_neg c2] at q
                      refine iteF ⟨_, rfl, rfl, ?_⟩
                      rw [show decide (V.int (x.what : Int) = V.int 3) = decide (x.what = 3) from dec_int _ 3]
                      exact q
              · rw [decide_eq_false ck]
                rw [if_pos ck] at q
                exact iteT q
/-! names_if_takes -/
def spTakes (K : PySem.W.Frag) : Sp := fun vs H Q _ => ∃ (c b nm : Addr) (cl : Ha01.Clause) (t : Ha01.Term) (e : Ha01.Names) (us : List V) (G : Hp), vs = [.ref c, .ref b, .ref nm] ∧ ClAt K H c cl ∧ NL K H b (Ha01.told t) ∧ GoodT 8 t ∧ SqL K H nm us ∧ Same G H ∧ NmAt K G e us ∧
  (Ha01.takes e cl t = none → ∀ H', Same H H' → Q .non H') ∧
  (∀ e', Ha01.takes e cl t = some e' → ∀ H' q us', Same H H' → H q = none → H' q = some (.lst us') → NmAt K (Jn G (Nw (upd H q (.lst [])) H')) e' us' → Q (.ref q) H')
theorem scTakes : FnScope ["clause", "letter", "names", "after", "test"] ["clause", "letter", "names"] (defScope sTakes) := ⟨rfl, rfl, rfl, by decide +kernel, rfl, by decide +kernel, by decide +kernel⟩
theorem okTakes {f fF fH : Addr} {fd fdF fdH : FuncData} (F : Fun K "names_if_takes" "names_if_takes" sTakes f fd) (T : Ty K mg) (DF : Df K mg "names_if_fits" sFits ["pattern", "letter", "names"] fF fdF) (GF : FnOk P w K mg base CX0 3 fF fdF ["pattern", "letter", "names"] (spFits K))
    (DH : Df K mg "holds" sHolds ["test", "names"] fH fdH) : FnOk P w K mg base CX0 4 f fd ["clause", "letter", "names"] (spTakes K) := by
  have GH : FnOk P w K mg base CX0 1 fH fdH ["test", "names"] (spHolds K) := okHolds DH.F T
  refine F.ok scTakes (fun vs H Q E h => ?_) (fun cdv A outer s H vs Q E hr h => ?_)
  · obtain ⟨c, b, nm, cl, t, e, us, G, rfl, _⟩ := h
    rfl
  · obtain ⟨c, b, nm, cl, t, e, us, G, rfl, hC, hb, gt, hnm, hG, hN, kN, kS⟩ := h
    have hr1 : Room 1 _ := hr.mono (by decide)
    refine ⟨_, pss_cons (ps_set (i := 3) scTakes.nd rfl (Or.inr rfl) (pe_call GF hr (by rfl) DF.g DF.F.kp DF.b .nil pass0 (pa_cons (pe_ix ix_tup (pv 0) pe_int (fun _ _ => rfl)) (pa_cons (pv 1) (pa_cons (pv 2) pa_nil)))))
      (pss_cons (ps_if (PW.pt (pw_or (pt_cmpR op_isN (pv 3) pe_non (nomark _)) (pw_or1 (pt_not (pt_val (pe_callB (cr_all rfl) (by rfl) T.all (by decide +kernel) (pa_cons (pe_lc (own := [("test", 4)]) (g := gName 4) (tt := tYes) (te := tCall (spHolds K) [] E0 (tCons (tVar 4) (tCons (tVar 3) tNil))) rfl scTakes.nd
          (pi_list (pe_ix ix_tup (pv 0) pe_int (fun _ _ => rfl))) (blkOk_by (own := [("test", 4)]) (N := ["clause", "letter", "names", "after", "test"]) (sc := defScope sTakes) (by decide +kernel))
          (fun _ _ _ _ _ => pg_name (i := 4) scTakes.nd rfl (Or.inl rfl)) (fun _ _ _ _ _ => pts_nil)
          (fun _ _ _ _ _ => pe_call GH hr1 (by rfl) DH.g DH.F.kp DH.b .nil pass0 (pa_cons (pv 4) (pa_cons (pv 3) pa_nil)))) pa_nil))))))) (pss_one (ps_ret pe_non)) pss_nil)
      (pss_one (ps_ret (pv 3)))), ?_⟩
    obtain ⟨pa, qa, hT, hp, gp, hTs, hok, h4⟩ := hC
    unfold Ha01.takes at kN kS
    refine ⟨_, rfl, c, _, 0, _, rfl, rfl, hT, rfl, _, rfl, _, rfl, pa, b, nm, cl.pat, t, e, us, G, rfl, hp, gp, hb, gt, hnm, hG, hN, fun hno H1 s1 => ?_, fun e1 hyes H1 q us1 s1 hq hq1 hN1 => ?_⟩
    · rw [hno] at kN
      exact ⟨_, rfl, rfl, _, rfl, iteT (iteT (kN rfl H1 s1))⟩
    · rw [hyes] at kN kS
      have sJ : Same (Jn G (Nw (upd H q (.lst [])) H1)) H1 := jn_sub (hG.trans s1) (nw_sub _ _)
      refine ⟨_, rfl, rfl, _, rfl, iteF ?_⟩
      obtain ⟨as, hqa, hR⟩ := hTs
      refine ⟨_, rfl, c, _, 1, _, rfl, rfl, Same.tup s1 hT, rfl, qa, rfl, ⟨_, s1.seq hqa⟩, fun B hB => ?_⟩
      refine lc_list (K := K) (a := qa) (xs := as.map V.ref) (fun j H' => Same H1 H' ∧ H' B = some (.lst (((cl.tests.take j).map (Ha01.holds e1)).map V.bl)))
        ⟨Same.new hB, upd_same⟩ (fun j H' _ ⟨s2, _⟩ => s2.seq (s1.seq hqa)) ?_ ?_
      · rintro j x H2 hj ⟨s2, hB2⟩
        obtain ⟨ta, hta, rfl⟩ := refs_get hj
        obtain ⟨te, hte⟩ : ∃ te, cl.tests[j]? = some te := ⟨_, List.getElem?_eq_getElem (by rw [← hR.len]; exact (List.getElem?_eq_some_iff.mp hta).1)⟩
        have hok1 : okTest te = true := List.all_eq_true.mp hok te (List.mem_of_getElem? hte)
        refine ⟨rfl, _, rfl, _, rfl, ta, q, te, e1, us1, rfl, ((hR.at_ j ta te hta hte).same s1).same s2, hok1, SqL.of (s2 _ _ hq1), hN1.same (sJ.trans s2), _, hB2, (by rw [List.length_map, List.length_map, List.length_take]; exact small1000 (by omega)), ?_, ?_⟩
        · exact fun c o z => by rw [upd_ne (ne_of_none z hB)]; exact s2 c o z
        · rw [upd_same, take_more hte, List.map_append, List.map_append]
          rfl
      · rintro H2 ⟨s2, hB2⟩
        rw [List.length_map, hR.len, List.take_length] at hB2
        refine ⟨B, _, rfl, SqL.of hB2, _, rfl, ?_⟩
        have eb : (cl.tests.map (Ha01.holds e1)).all id = cl.tests.all (Ha01.holds e1) := by rw [List.all_map]; rfl
        rw [eb]
        cases ca : cl.tests.all (Ha01.holds e1) with
        | true => exact iteF ⟨_, rfl, kS e1 (if_pos ca) H2 q us1 (s1.trans s2) hq (s2 _ _ hq1) (hN1.same (jn_mono (nw_mono s2)))⟩
        | false => exact iteT (kN (if_neg (by rw [ca]; decide)) H2 (s1.trans s2))
/-! first_to_take -/
def spFirst (K : PySem.W.Frag) : Sp := fun vs H Q _ => ∃ (c b nm : Addr) (cs : List Ha01.Clause) (t : Ha01.Term) (e : Ha01.Names) (us : List V) (G : Hp), vs = [.ref c, .ref b, .ref nm] ∧ CsAt K H c cs ∧ NL K H b (Ha01.told t) ∧ GoodT 8 t ∧ SqL K H nm us ∧ Same G H ∧ NmAt K G e us ∧
  (Ha01.clauseFor e 0 cs t = none → ∀ H', Same H H' → Q .non H') ∧
  (∀ i e', Ha01.clauseFor e 0 cs t = some (i, e') → ∀ H' r q us', Same H H' → H q = none → H' q = some (.lst us') → NmAt K (Jn G (Nw (upd H q (.lst [])) H')) e' us' → H' r = some (.tup [.int ((i + 1 : Nat) : Int), .ref q]) → Q (.ref r) H')
theorem scFirst : FnScope ["clauses", "letter", "names", "which", "clause", "after"] ["clauses", "letter", "names"] (defScope sFirst) := ⟨rfl, rfl, rfl, by decide +kernel, rfl, by decide +kernel, by decide +kernel⟩
theorem okFirst {f fT : Addr} {fd fdT : FuncData} (F : Fun K "first_to_take" "first_to_take" sFirst f fd) (T : Ty K mg) (DT : Df K mg "names_if_takes" sTakes ["clause", "letter", "names"] fT fdT) (GT : FnOk P w K mg base CX0 4 fT fdT ["clause", "letter", "names"] (spTakes K)) :
    FnOk P w K mg base CX0 5 f fd ["clauses", "letter", "names"] (spFirst K) := by
  refine F.ok scFirst (fun vs H Q E h => ?_) (fun cdv A outer s H vs Q E hr h => ?_)
  · obtain ⟨c, b, nm, cs, t, e, us, G, rfl, _⟩ := h
    rfl
  · obtain ⟨c, b, nm, cs, t, e, us, G, rfl, hC, hb, gt, hnm, hG, hN, kN, kS⟩ := h
    refine ⟨_, pss_cons (ps_for PassesOwn.never rfl (pi_enS (by rfl) T.enumerate (pa_cons (pv 0) pa_nil) (by decide) (by decide)) (pg_tup rfl (pgs_cons (pg_name (i := 3) scFirst.nd rfl (Or.inl rfl)) (pgs_cons (pg_name (i := 4) scFirst.nd rfl (Or.inl rfl)) pgs_nil)))
        (pss_cons (ps_set (i := 5) scFirst.nd rfl (Or.inl rfl) (pe_call GT hr (by rfl) DT.g DT.F.kp DT.b .nil pass0 (pa_cons (pv 4) (pa_cons (pv 1) (pa_cons (pv 2) pa_nil)))))
        (pss_one (ps_if (pt_cmpR op_notN (pv 5) pe_non (nomark _)) (pss_one (ps_ret (pe_tup (pa_cons (pv 3) (pa_cons (pv 5) pa_nil))))) pss_nil))))
      (pss_one (ps_ret pe_non)), ?_⟩
    obtain ⟨as, hca, hR⟩ := hC
    refine ⟨_, rfl, c, _, rfl, hca, for_it (walkS (K := K) (a := c) (xs := as.map V.ref) (k := 1)) (fun i σ H' => ∃ v3 v4 v5 : Option V, σ = [some (.ref c), some (.ref b), some (.ref nm), v3, v4, v5] ∧ Same H H' ∧ Ha01.clauseFor e 0 cs t = Ha01.clauseFor e i (cs.drop i) t)
      ⟨none, none, none, rfl, Same.refl H, rfl⟩ (fun i σ H' _ ⟨_, _, _, _, sm, _⟩ => sm.seq hca) ?_ ?_⟩
    · rintro i x σ H1 H2 hi ⟨v3, v4, v5, rfl, sm, hcf⟩ ⟨T1, x1, y1, rfl, hT1, rfl, ex, ey⟩
      cases ex
      obtain ⟨ca, hca1, rfl⟩ := refs_get ey
      obtain ⟨cl, hcl⟩ : ∃ cl, cs[i]? = some cl := ⟨_, List.getElem?_eq_getElem (by rw [← hR.len]; exact (List.getElem?_eq_some_iff.mp hca1).1)⟩
      have hcl1 := hR.at_ i ca cl hca1 hcl
      have hlt : i < cs.length := (List.getElem?_eq_some_iff.mp hcl).1
      have ed : cs.drop i = cl :: cs.drop (i + 1) := by
        rw [List.drop_eq_getElem_cons hlt]
        congr 1
        exact (List.getElem?_eq_some_iff.mp hcl).2
      rw [ed] at hcf
      have s2 : Same H1 (upd H1 T1 (.tup [.int (1 + (i : Nat)), .ref ca])) := Same.new hT1
      have sm2 := sm.trans s2
      refine ⟨T1, _, rfl, SqT.of upd_same, rfl, _, _, rfl, _, _, rfl, rfl, ?_⟩
      refine ⟨_, rfl, _, rfl, _, rfl, ca, b, nm, cl, t, e, us, G, rfl, hcl1.same sm2, hb.same sm2, gt, sm2.seq hnm, hG.trans sm2, hN, fun hno H3 s3 => ?_, fun e1 hyes H3 q us1 s3 hq hq1 hN1 => ?_⟩
      · refine ⟨_, rfl, rfl, _, rfl, iteF ?_⟩
        refine ⟨_, _, _, rfl, sm2.trans s3, ?_⟩
        rw [hcf]
        show (match Ha01.takes e cl t with | some x => some (i, x) | none => Ha01.clauseFor e (i + 1) (cs.drop (i + 1)) t) = _
        rw [hno]
      · refine ⟨_, rfl, rfl, _, rfl, iteT ?_⟩
        refine ⟨_, rfl, _, rfl, (by show 2 ≤ sizeLine; decide), fun r hr' => ?_⟩
        have s4 : Same H3 (upd H3 r (.tup [.int (1 + (i : Nat)), .ref q])) := Same.new hr'
        have hcf' : Ha01.clauseFor e 0 cs t = some (i, e1) := by
          rw [hcf]
          show (match Ha01.takes e cl t with | some x => some (i, x) | none => Ha01.clauseFor e (i + 1) (cs.drop (i + 1)) t) = _
          rw [hyes]
        refine kS i e1 hcf' _ r q us1 ((sm2.trans s3).trans s4) (sm2.free hq) (s4 _ _ hq1) (hN1.same (jn_mono ((nw_mono s4).trans (nw_late fun c1 hc1 => ?_)))) ?_
        · by_cases z : c1 = q
          · rw [z, upd_same] at hc1; cases hc1
          · rw [upd_ne z] at hc1 ⊢
            exact sm2.free hc1
        · rw [upd_same, show ((i + 1 : Nat) : Int) = 1 + (i : Nat) by omega]
    · rintro σ H1 ⟨v3, v4, v5, rfl, sm, hcf⟩
      rw [List.length_map, hR.len, List.drop_length] at hcf
      exact kN hcf H1 sm
end
end Pk

set_option Elab.async false
set_option linter.all false
set_option maxRecDepth 100000
set_option maxHeartbeats 2000000
/-! process.py: the process and its methods -/
namespace Pk
open PySem PySem.Spec PyProof.Rows L2
theorem lk_here {k : Str} {v : V} {r : List (Str × V)} : List.lookup k ((k, v) :: r) = some v := by
  simp only [List.lookup, beq_self_eq_true k]
theorem lk_past {k g : Str} {v : V} {r : List (Str × V)} (h : (k == g) = false) : List.lookup k ((g, v) :: r) = List.lookup k r := by
  simp only [List.lookup, h]
theorem put_here {f : Str} {v x : V} {r : List (Str × V)} : putF f v ((f, x) :: r) = (f, v) :: r := if_pos rfl
theorem put_past {f g : Str} {v x : V} {r : List (Str × V)} (h : ¬ g = f) : putF f v ((g, x) :: r) = (g, x) :: putF f v r := if_neg h
/-- a process's own values -/
structure Fl where
  b : Addr
  nm : Addr
  made : Nat
  mark : Nat
  sent : Nat
  taken : Nat
  looked : Nat
  cv : V
  tv : V
def pF (f : Fl) : List (Str × V) := [("box", .ref f.b), ("names", .ref f.nm), ("made", .int ((f.made : Nat) : Int)), ("mark", .int ((f.mark : Nat) : Int)), ("sent", .int ((f.sent : Nat) : Int)), ("taken", .int ((f.taken : Nat) : Int)), ("looked", .int ((f.looked : Nat) : Int)), ("clauses", f.cv), ("ticks_left", f.tv)]
theorem pF_box (f : Fl) : (pF f).lookup ("box" : Str) = some (.ref f.b) := lk_here
theorem pF_names (f : Fl) : (pF f).lookup ("names" : Str) = some (.ref f.nm) := (lk_past (by decide +kernel)).trans (lk_here)
theorem pF_made (f : Fl) : (pF f).lookup ("made" : Str) = some (.int ((f.made : Nat) : Int)) := (lk_past (by decide +kernel)).trans ((lk_past (by decide +kernel)).trans (lk_here))
theorem pF_mark (f : Fl) : (pF f).lookup ("mark" : Str) = some (.int ((f.mark : Nat) : Int)) := (lk_past (by decide +kernel)).trans ((lk_past (by decide +kernel)).trans ((lk_past (by decide +kernel)).trans (lk_here)))
theorem pF_sent (f : Fl) : (pF f).lookup ("sent" : Str) = some (.int ((f.sent : Nat) : Int)) := (lk_past (by decide +kernel)).trans ((lk_past (by decide +kernel)).trans ((lk_past (by decide +kernel)).trans ((lk_past (by decide +kernel)).trans (lk_here))))
theorem pF_taken (f : Fl) : (pF f).lookup ("taken" : Str) = some (.int ((f.taken : Nat) : Int)) := (lk_past (by decide +kernel)).trans ((lk_past (by decide +kernel)).trans ((lk_past (by decide +kernel)).trans ((lk_past (by decide +kernel)).trans ((lk_past (by decide +kernel)).trans (lk_here)))))
theorem pF_looked (f : Fl) : (pF f).lookup ("looked" : Str) = some (.int ((f.looked : Nat) : Int)) := (lk_past (by decide +kernel)).trans ((lk_past (by decide +kernel)).trans ((lk_past (by decide +kernel)).trans ((lk_past (by decide +kernel)).trans ((lk_past (by decide +kernel)).trans ((lk_past (by decide +kernel)).trans (lk_here))))))
theorem pF_clauses (f : Fl) : (pF f).lookup ("clauses" : Str) = some (f.cv) := (lk_past (by decide +kernel)).trans ((lk_past (by decide +kernel)).trans ((lk_past (by decide +kernel)).trans ((lk_past (by decide +kernel)).trans ((lk_past (by decide +kernel)).trans ((lk_past (by decide +kernel)).trans ((lk_past (by decide +kernel)).trans (lk_here)))))))
theorem pF_ticks_left (f : Fl) : (pF f).lookup ("ticks_left" : Str) = some (f.tv) := (lk_past (by decide +kernel)).trans ((lk_past (by decide +kernel)).trans ((lk_past (by decide +kernel)).trans ((lk_past (by decide +kernel)).trans ((lk_past (by decide +kernel)).trans ((lk_past (by decide +kernel)).trans ((lk_past (by decide +kernel)).trans ((lk_past (by decide +kernel)).trans (lk_here))))))))
theorem pF_no_send (f : Fl) : (pF f).lookup ("send" : Str) = none := (lk_past (by decide +kernel)).trans ((lk_past (by decide +kernel)).trans ((lk_past (by decide +kernel)).trans ((lk_past (by decide +kernel)).trans ((lk_past (by decide +kernel)).trans ((lk_past (by decide +kernel)).trans ((lk_past (by decide +kernel)).trans ((lk_past (by decide +kernel)).trans ((lk_past (by decide +kernel)).trans (rfl)))))))))
theorem pF_no_receive (f : Fl) : (pF f).lookup ("receive" : Str) = none := (lk_past (by decide +kernel)).trans ((lk_past (by decide +kernel)).trans ((lk_past (by decide +kernel)).trans ((lk_past (by decide +kernel)).trans ((lk_past (by decide +kernel)).trans ((lk_past (by decide +kernel)).trans ((lk_past (by decide +kernel)).trans ((lk_past (by decide +kernel)).trans ((lk_past (by decide +kernel)).trans (rfl)))))))))
theorem pF_no_pass_ticks (f : Fl) : (pF f).lookup ("pass_ticks" : Str) = none := (lk_past (by decide +kernel)).trans ((lk_past (by decide +kernel)).trans ((lk_past (by decide +kernel)).trans ((lk_past (by decide +kernel)).trans ((lk_past (by decide +kernel)).trans ((lk_past (by decide +kernel)).trans ((lk_past (by decide +kernel)).trans ((lk_past (by decide +kernel)).trans ((lk_past (by decide +kernel)).trans (rfl)))))))))
theorem pF_no_stop (f : Fl) : (pF f).lookup ("stop" : Str) = none := (lk_past (by decide +kernel)).trans ((lk_past (by decide +kernel)).trans ((lk_past (by decide +kernel)).trans ((lk_past (by decide +kernel)).trans ((lk_past (by decide +kernel)).trans ((lk_past (by decide +kernel)).trans ((lk_past (by decide +kernel)).trans ((lk_past (by decide +kernel)).trans ((lk_past (by decide +kernel)).trans (rfl)))))))))
theorem pF_no_make_token (f : Fl) : (pF f).lookup ("make_token" : Str) = none := (lk_past (by decide +kernel)).trans ((lk_past (by decide +kernel)).trans ((lk_past (by decide +kernel)).trans ((lk_past (by decide +kernel)).trans ((lk_past (by decide +kernel)).trans ((lk_past (by decide +kernel)).trans ((lk_past (by decide +kernel)).trans ((lk_past (by decide +kernel)).trans ((lk_past (by decide +kernel)).trans (rfl)))))))))
theorem pF_no_names_told (f : Fl) : (pF f).lookup ("names_told" : Str) = none := (lk_past (by decide +kernel)).trans ((lk_past (by decide +kernel)).trans ((lk_past (by decide +kernel)).trans ((lk_past (by decide +kernel)).trans ((lk_past (by decide +kernel)).trans ((lk_past (by decide +kernel)).trans ((lk_past (by decide +kernel)).trans ((lk_past (by decide +kernel)).trans ((lk_past (by decide +kernel)).trans (rfl)))))))))
theorem pF_no_forget (f : Fl) : (pF f).lookup ("forget" : Str) = none := (lk_past (by decide +kernel)).trans ((lk_past (by decide +kernel)).trans ((lk_past (by decide +kernel)).trans ((lk_past (by decide +kernel)).trans ((lk_past (by decide +kernel)).trans ((lk_past (by decide +kernel)).trans ((lk_past (by decide +kernel)).trans ((lk_past (by decide +kernel)).trans ((lk_past (by decide +kernel)).trans (rfl)))))))))
theorem pF_no_box_told (f : Fl) : (pF f).lookup ("box_told" : Str) = none := (lk_past (by decide +kernel)).trans ((lk_past (by decide +kernel)).trans ((lk_past (by decide +kernel)).trans ((lk_past (by decide +kernel)).trans ((lk_past (by decide +kernel)).trans ((lk_past (by decide +kernel)).trans ((lk_past (by decide +kernel)).trans ((lk_past (by decide +kernel)).trans ((lk_past (by decide +kernel)).trans (rfl)))))))))
theorem pF_no_counts_told (f : Fl) : (pF f).lookup ("counts_told" : Str) = none := (lk_past (by decide +kernel)).trans ((lk_past (by decide +kernel)).trans ((lk_past (by decide +kernel)).trans ((lk_past (by decide +kernel)).trans ((lk_past (by decide +kernel)).trans ((lk_past (by decide +kernel)).trans ((lk_past (by decide +kernel)).trans ((lk_past (by decide +kernel)).trans ((lk_past (by decide +kernel)).trans (rfl)))))))))
theorem pF_no_wait_no_more (f : Fl) : (pF f).lookup ("wait_no_more" : Str) = none := (lk_past (by decide +kernel)).trans ((lk_past (by decide +kernel)).trans ((lk_past (by decide +kernel)).trans ((lk_past (by decide +kernel)).trans ((lk_past (by decide +kernel)).trans ((lk_past (by decide +kernel)).trans ((lk_past (by decide +kernel)).trans ((lk_past (by decide +kernel)).trans ((lk_past (by decide +kernel)).trans (rfl)))))))))
theorem pF_no_looking_begins (f : Fl) : (pF f).lookup ("looking_begins" : Str) = none := (lk_past (by decide +kernel)).trans ((lk_past (by decide +kernel)).trans ((lk_past (by decide +kernel)).trans ((lk_past (by decide +kernel)).trans ((lk_past (by decide +kernel)).trans ((lk_past (by decide +kernel)).trans ((lk_past (by decide +kernel)).trans ((lk_past (by decide +kernel)).trans ((lk_past (by decide +kernel)).trans (rfl)))))))))
theorem pF_no_take_first (f : Fl) : (pF f).lookup ("take_first" : Str) = none := (lk_past (by decide +kernel)).trans ((lk_past (by decide +kernel)).trans ((lk_past (by decide +kernel)).trans ((lk_past (by decide +kernel)).trans ((lk_past (by decide +kernel)).trans ((lk_past (by decide +kernel)).trans ((lk_past (by decide +kernel)).trans ((lk_past (by decide +kernel)).trans ((lk_past (by decide +kernel)).trans (rfl)))))))))
theorem pF_no_take_out (f : Fl) : (pF f).lookup ("take_out" : Str) = none := (lk_past (by decide +kernel)).trans ((lk_past (by decide +kernel)).trans ((lk_past (by decide +kernel)).trans ((lk_past (by decide +kernel)).trans ((lk_past (by decide +kernel)).trans ((lk_past (by decide +kernel)).trans ((lk_past (by decide +kernel)).trans ((lk_past (by decide +kernel)).trans ((lk_past (by decide +kernel)).trans (rfl)))))))))
theorem pF_put_box (f : Fl) (y : Addr) : putF "box" (.ref y) (pF f) = pF { f with b := y } := put_here
theorem pF_put_names (f : Fl) (y : Addr) : putF "names" (.ref y) (pF f) = pF { f with nm := y } := (put_past (by decide +kernel)).trans (congrArg _ (put_here))
theorem pF_put_made (f : Fl) (y : Nat) : putF "made" (.int ((y : Nat) : Int)) (pF f) = pF { f with made := y } := (put_past (by decide +kernel)).trans (congrArg _ ((put_past (by decide +kernel)).trans (congrArg _ (put_here))))
theorem pF_put_mark (f : Fl) (y : Nat) : putF "mark" (.int ((y : Nat) : Int)) (pF f) = pF { f with mark := y } := (put_past (by decide +kernel)).trans (congrArg _ ((put_past (by decide +kernel)).trans (congrArg _ ((put_past (by decide +kernel)).trans (congrArg _ (put_here))))))
theorem pF_put_sent (f : Fl) (y : Nat) : putF "sent" (.int ((y : Nat) : Int)) (pF f) = pF { f with sent := y } := (put_past (by decide +kernel)).trans (congrArg _ ((put_past (by decide +kernel)).trans (congrArg _ ((put_past (by decide +kernel)).trans (congrArg _ ((put_past (by decide +kernel)).trans (congrArg _ (put_here))))))))
theorem pF_put_taken (f : Fl) (y : Nat) : putF "taken" (.int ((y : Nat) : Int)) (pF f) = pF { f with taken := y } := (put_past (by decide +kernel)).trans (congrArg _ ((put_past (by decide +kernel)).trans (congrArg _ ((put_past (by decide +kernel)).trans (congrArg _ ((put_past (by decide +kernel)).trans (congrArg _ ((put_past (by decide +kernel)).trans (congrArg _ (put_here))))))))))
theorem pF_put_looked (f : Fl) (y : Nat) : putF "looked" (.int ((y : Nat) : Int)) (pF f) = pF { f with looked := y } := (put_past (by decide +kernel)).trans (congrArg _ ((put_past (by decide +kernel)).trans (congrArg _ ((put_past (by decide +kernel)).trans (congrArg _ ((put_past (by decide +kernel)).trans (congrArg _ ((put_past (by decide +kernel)).trans (congrArg _ ((put_past (by decide +kernel)).trans (congrArg _ (put_here))))))))))))
theorem pF_put_clauses (f : Fl) (y : V) : putF "clauses" (y) (pF f) = pF { f with cv := y } := (put_past (by decide +kernel)).trans (congrArg _ ((put_past (by decide +kernel)).trans (congrArg _ ((put_past (by decide +kernel)).trans (congrArg _ ((put_past (by decide +kernel)).trans (congrArg _ ((put_past (by decide +kernel)).trans (congrArg _ ((put_past (by decide +kernel)).trans (congrArg _ ((put_past (by decide +kernel)).trans (congrArg _ (put_here))))))))))))))
theorem pF_put_ticks_left (f : Fl) (y : V) : putF "ticks_left" (y) (pF f) = pF { f with tv := y } := (put_past (by decide +kernel)).trans (congrArg _ ((put_past (by decide +kernel)).trans (congrArg _ ((put_past (by decide +kernel)).trans (congrArg _ ((put_past (by decide +kernel)).trans (congrArg _ ((put_past (by decide +kernel)).trans (congrArg _ ((put_past (by decide +kernel)).trans (congrArg _ ((put_past (by decide +kernel)).trans (congrArg _ ((put_past (by decide +kernel)).trans (congrArg _ (put_here))))))))))))))))
theorem pF_init (b : Addr) (nm : Addr) (made : Nat) (mark : Nat) (sent : Nat) (taken : Nat) (looked : Nat) (cv : V) (tv : V) : putF "ticks_left" (tv) (putF "clauses" (cv) (putF "looked" (.int ((looked : Nat) : Int)) (putF "taken" (.int ((taken : Nat) : Int)) (putF "sent" (.int ((sent : Nat) : Int)) (putF "mark" (.int ((mark : Nat) : Int)) (putF "made" (.int ((made : Nat) : Int)) (putF "names" (.ref nm) (putF "box" (.ref b) ([]))))))))) = pF ⟨b, nm, made, mark, sent, taken, looked, cv, tv⟩ := by
  unfold pF
  simp only [putF]
  repeat (first | rw [if_neg (by decide +kernel)] | rfl)
abbrev sInit : Stmt := inClass (top 60) 0
abbrev sSend : Stmt := inClass (top 60) 1
abbrev sRecv : Stmt := inClass (top 60) 2
abbrev sTicks : Stmt := inClass (top 60) 3
abbrev sStop : Stmt := inClass (top 60) 4
abbrev sToken : Stmt := inClass (top 60) 5
abbrev sNames : Stmt := inClass (top 60) 6
abbrev sForget : Stmt := inClass (top 60) 7
abbrev sBox : Stmt := inClass (top 60) 8
abbrev sCounts : Stmt := inClass (top 60) 9
abbrev sNoMore : Stmt := inClass (top 60) 10
abbrev sBegins : Stmt := inClass (top 60) 11
abbrev sTakeF : Stmt := inClass (top 60) 12
abbrev sTakeO : Stmt := inClass (top 60) 13
structure Tz (K : PySem.W.Frag) (mg : Str → Option Value) (C : Addr) : Prop extends Ty K mg where
  cl : Cls K C
  gC : mg "Process" = some (.ref C)
  nbox : NoAttr K C "box"
  nnames : NoAttr K C "names"
  nmade : NoAttr K C "made"
  nmark : NoAttr K C "mark"
  nsent : NoAttr K C "sent"
  ntaken : NoAttr K C "taken"
  nlooked : NoAttr K C "looked"
  nclauses : NoAttr K C "clauses"
  nticks_left : NoAttr K C "ticks_left"
  BEGIN : GI mg "BEGIN" 0
  SEND : GI mg "SEND" 1
  RECEIVE : GI mg "RECEIVE" 2
  TICKS : GI mg "TICKS" 3
  STOP : GI mg "STOP" 4
  MAKE_TOKEN : GI mg "MAKE_TOKEN" 5
  TELL_NAMES : GI mg "TELL_NAMES" 6
  FORGET : GI mg "FORGET" 7
  TELL_BOX : GI mg "TELL_BOX" 8
  TELL_COUNTS : GI mg "TELL_COUNTS" 9
  DONE : GI mg "DONE" 0
  TAKEN : GI mg "TAKEN" 1
  TIME_OVER : GI mg "TIME_OVER" 2
  NO_VALUE : GI mg "NO_VALUE" 9
  WRONGLY_TOLD : GI mg "WRONGLY_TOLD" (-1)
  WRONG_END : GI mg "WRONG_END" (-2)
  TOKEN_NOT_MADE : GI mg "TOKEN_NOT_MADE" (-3)
  TOO_MANY : GI mg "TOO_MANY" (-6)
  WRONG_TIME : GI mg "WRONG_TIME" (-8)
  MOST_LETTERS : GI mg "MOST_LETTERS" 60
  MOST_TICKS : GI mg "MOST_TICKS" 1000
/-- a method as it stands -/
structure Mt (K : PySem.W.Frag) (C : Addr) (m q : Str) (st : Stmt) (ps : List Str) (f : Addr) (fd : FuncData) : Prop where
  F : Fun K m q st f fd
  m : Meth K C m f
  b : Binds K fd ps []
/-- the waiting as it lies -/
def WtAt (K : PySem.W.Frag) (D : Hp) (o : Option Ha01.Wait) (cv tv : V) : Prop := match o with
  | none => cv = .non ∧ tv = .non
  | some w => (∃ c, cv = .ref c ∧ CsAt K D c w.clauses) ∧ (match w.left with
    | none => tv = .non
    | some k => 1 ≤ k ∧ tv = .int ((k : Nat) : Int))
theorem WtAt.same {K : PySem.W.Frag} {D D' : Hp} {o : Option Ha01.Wait} {cv tv : V} (h : WtAt K D o cv tv) (s : Same D D') : WtAt K D' o cv tv := by
  cases o with
  | none => exact h
  | some w =>
    obtain ⟨⟨c, e, x⟩, y⟩ := h
    exact ⟨⟨c, e, x.same s⟩, y⟩
/-- the process at p: its own objects, the data D that stay, what the caller holds (R) -/
structure PrB (K : PySem.W.Frag) (C : Addr) (D R H : Hp) (p : Addr) (st : Ha01.St) (dx : Addr) (f : Fl) (as : List Addr) (us : List V) : Prop where
  hp : H p = some (.ins C dx (pF f))
  hb : H f.b = some (.lst (as.map V.ref))
  hn : H f.nm = some (.lst us)
  bn : f.b ≠ f.nm
  sD : Same D H
  sR : Same R H
  dr : ∀ a, R a ≠ none → D a = none
  Dp : D p = none
  Db : D f.b = none
  Dn : D f.nm = none
  Rp : R p = none
  Rb : R f.b = none
  Rn : R f.nm = none
  box : RefsAt (fun a t => NR D a (Ha01.told t) ∧ GoodT 8 t) as st.box
  names : NmAt K D st.names us
  wait : WtAt K D st.wait f.cv f.tv
  made : f.made = st.tokens
  mark : f.mark = st.marked
  sent : f.sent = st.sent
  taken : f.taken = st.taken
  looked : f.looked = st.looked
  room : st.box.length ≤ 60
  toks : st.tokens ≤ 1001
def PrAt (K : PySem.W.Frag) (C : Addr) (D R H : Hp) (p : Addr) (st : Ha01.St) : Prop := ∃ dx f as us, PrB K C D R H p st dx f as us
theorem PrB.grow {K : PySem.W.Frag} {C : Addr} {D R H H' : Hp} {p : Addr} {st : Ha01.St} {dx : Addr} {f : Fl} {as : List Addr} {us : List V} (h : PrB K C D R H p st dx f as us) (s : Same H H') : PrB K C D R H' p st dx f as us :=
  { h with hp := s _ _ h.hp, hb := s _ _ h.hb, hn := s _ _ h.hn, sD := h.sD.trans s, sR := h.sR.trans s }
theorem PrB.pb {K : PySem.W.Frag} {C : Addr} {D R H : Hp} {p : Addr} {st : Ha01.St} {dx : Addr} {f : Fl} {as : List Addr} {us : List V} (h : PrB K C D R H p st dx f as us) : f.b ≠ p := ne_of h.hb h.hp (by intro z; cases z)
theorem PrB.pn {K : PySem.W.Frag} {C : Addr} {D R H : Hp} {p : Addr} {st : Ha01.St} {dx : Addr} {f : Fl} {as : List Addr} {us : List V} (h : PrB K C D R H p st dx f as us) : f.nm ≠ p := ne_of h.hn h.hp (by intro z; cases z)
theorem map_erase {α β : Type} (g : α → β) : ∀ (l : List α) (i : Nat), (l.map g).eraseIdx i = (l.eraseIdx i).map g
  | [], _ => rfl
  | _ :: _, 0 => rfl
  | a :: l, i + 1 => congrArg (List.cons (g a)) (map_erase g l i)
/-- all but a few places is as it was -/
theorem same_but {D H H' : Hp} (s : Same D H) (k : ∀ a, D a ≠ none → H' a = H a) : Same D H' := fun a o e => by
  rw [k a (some_ne e)]
  exact s a o e
section
variable {P : Program} {w : World} {K : PySem.W.Frag} {mg : Str → Option Value} {base : Heap} {C : Addr}
/-! wait_no_more -/
def spNoMore (C : Addr) : Sp := fun vs H Q _ => ∃ (p dx : Addr) (f : Fl), vs = [.ref p] ∧ H p = some (.ins C dx (pF f)) ∧
  ∀ H' : Hp, H' p = some (.ins C dx (pF { f with cv := .non, tv := .non })) → (∀ a, a ≠ p → H' a = H a) → Q .non H'
theorem scNoMore : FnScope ["self"] ["self"] (defScope sNoMore) := ⟨rfl, rfl, rfl, by decide +kernel, rfl, by decide +kernel, by decide +kernel⟩
theorem okNoMore {f : Addr} {fd : FuncData} (F : Fun K "wait_no_more" "Process.wait_no_more" sNoMore f fd) (T : Tz K mg C) : FnOk P w K mg base CX0 1 f fd ["self"] (spNoMore C) := by
  refine F.ok scNoMore (fun vs H Q E h => ?_) (fun cdv A outer s H vs Q E hr h => ?_)
  · obtain ⟨p, dx, f, rfl, _⟩ := h
    rfl
  · obtain ⟨p, dx, fl, rfl, hp, k⟩ := h
    refine ⟨_, pss_cons (ps_fld (pv 0) pe_non rfl) (pss_one (ps_fld (pv 0) pe_non rfl)), ?_⟩
    refine ⟨_, rfl, p, C, dx, _, rfl, hp, T.cl, T.nclauses, (by show 9 < 1000; decide), ?_⟩
    rw [pF_put_clauses]
    refine ⟨_, rfl, p, C, dx, _, rfl, upd_same, T.cl, T.nticks_left, (by show 9 < 1000; decide), ?_⟩
    rw [pF_put_ticks_left]
    exact k _ upd_same fun a ha => by rw [upd_ne ha, upd_ne ha]
/-! take_out -/
def spTakeO (C : Addr) : Sp := fun vs H Q _ => ∃ (p dx : Addr) (f : Fl) (xs : List V) (i : Nat), vs = [.ref p, .int (i : Int)] ∧ H p = some (.ins C dx (pF f)) ∧ H f.b = some (.lst xs) ∧ i < xs.length ∧ xs.length ≤ 1000 ∧
  ∀ H' : Hp, H' p = some (.ins C dx (pF { f with mark := if i < f.mark then f.mark - 1 else f.mark, taken := f.taken + 1 })) → H' f.b = some (.lst (xs.eraseIdx i)) → (∀ a, a ≠ p → a ≠ f.b → H' a = H a) → Q .non H'
theorem scTakeO : FnScope ["self", "place"] ["self", "place"] (defScope sTakeO) := ⟨rfl, rfl, rfl, by decide +kernel, rfl, by decide +kernel, by decide +kernel⟩
theorem okTakeO {f : Addr} {fd : FuncData} (F : Fun K "take_out" "Process.take_out" sTakeO f fd) (T : Tz K mg C) : FnOk P w K mg base CX0 1 f fd ["self", "place"] (spTakeO C) := by
  refine F.ok scTakeO (fun vs H Q E h => ?_) (fun cdv A outer s H vs Q E hr h => ?_)
  · obtain ⟨p, dx, f, xs, i, rfl, _⟩ := h
    rfl
  · obtain ⟨p, dx, fl, xs, i, rfl, hp, hb, hi, h1000, k⟩ := h
    have pb : fl.b ≠ p := ne_of hb hp (by intro z; cases z)
    refine ⟨_, pss_cons (ps_expr (pe_bm PySem.F.plainAttrs_list PySem.F.slot_list_pop PySem.F.type_list_pop mt_popAt (pe_fld (pv 0) rfl) (pa_cons (pv 1) pa_nil)))
      (pss_cons (ps_fldaug (pv 0) pe_int in_add)
      (pss_one (ps_if (pt_cmpR op_lt (pv 1) (pe_fld (pv 0) rfl) (nomark _)) (pss_one (ps_fldaug (pv 0) pe_int in_sub)) pss_nil))), ?_⟩
    refine ⟨_, rfl, p, C, dx, _, _, rfl, hp, T.cl, T.nbox, pF_box fl, .inl ⟨rfl, _, SqL.of hb⟩, _, rfl, fl.b, xs, _, i, xs[i], rfl, rfl, hb, by omega, by omega, seqIndex_of (by omega) (by omega), List.getElem?_eq_getElem hi, ?_⟩
    have hp0 : (upd H fl.b (.lst (xs.eraseIdx i))) p = some (.ins C dx (pF fl)) := by rw [upd_ne pb.symm]; exact hp
    refine ⟨_, rfl, p, C, dx, _, _, rfl, hp0, T.cl, T.ntaken, pF_taken fl, _, _, rfl, rfl, dx, _, hp0, (by show 9 < 1000; decide), ?_⟩
    rw [show V.int (((fl.taken : Nat) : Int) + 1) = V.int ((fl.taken + 1 : Nat) : Int) from rfl, pF_put_taken]
    have hp1 : (upd (upd H fl.b (.lst (xs.eraseIdx i))) p (.ins C dx (pF { fl with taken := fl.taken + 1 }))) p = some (.ins C dx (pF { fl with taken := fl.taken + 1 })) := upd_same
    have hb1 : (upd (upd H fl.b (.lst (xs.eraseIdx i))) p (.ins C dx (pF { fl with taken := fl.taken + 1 }))) fl.b = some (.lst (xs.eraseIdx i)) := by rw [upd_ne pb]; exact upd_same
    have hk1 : ∀ a, a ≠ p → a ≠ fl.b → (upd (upd H fl.b (.lst (xs.eraseIdx i))) p (.ins C dx (pF { fl with taken := fl.taken + 1 }))) a = H a := fun a h1 h2 => by rw [upd_ne h1, upd_ne h2]
    generalize upd (upd H fl.b (.lst (xs.eraseIdx i))) p (.ins C dx (pF { fl with taken := fl.taken + 1 })) = H1 at hp1 hb1 hk1
    refine ⟨_, rfl, _, rfl, p, C, dx, _, _, rfl, hp1, T.cl, T.nmark, pF_mark _, _, _, rfl, rfl, _, rfl, ?_⟩
    dsimp only
    by_cases c : i < fl.mark
    · rw [decide_eq_true (by omega)]
      rw [if_pos c] at k
      refine iteT ⟨_, rfl, p, C, dx, _, _, rfl, hp1, T.cl, T.nmark, pF_mark _, _, _, rfl, rfl, dx, _, hp1, (by show 9 < 1000; decide), ?_⟩
      dsimp only
      rw [show V.int (((fl.mark : Nat) : Int) - 1) = V.int ((fl.mark - 1 : Nat) : Int) by congr 1; omega, pF_put_mark]
      exact k _ upd_same (by rw [upd_ne pb]; exact hb1) fun a h1 h2 => by rw [upd_ne h1]; exact hk1 a h1 h2
    · rw [decide_eq_false (by omega)]
      rw [if_neg c] at k
      exact iteF (k _ hp1 hb1 hk1)
/-! take_first -/
def toV (l : List Int) : HO := .lst (l.map V.int)
def spTakeF (K : PySem.W.Frag) (C : Addr) : Sp := fun vs H Q _ => ∃ (p c : Addr) (a : Nat) (D R : Hp) (st : Ha01.St) (cs : List Ha01.Clause), vs = [.ref p, .ref c, .int (a : Int)] ∧ PrAt K C D R H p st ∧ CsAt K D c cs ∧
  (Ha01.firstFit st.names cs a (st.box.drop a) = none → ∀ H', PrAt K C D R H' p { st with looked := st.looked + (st.box.length - a) } → Q .non H') ∧
  (∀ i j e', Ha01.firstFit st.names cs a (st.box.drop a) = some (i, j, e') → ∀ D' H' r, Same D D' → PrAt K C D' R H' p { st with box := st.box.eraseIdx i, names := e', marked := if i < st.marked then st.marked - 1 else st.marked, taken := st.taken + 1, looked := st.looked + (i + 1 - a) } →
    H' r = some (toV (Ha01.ints [1, i, j + 1])) → R r = none → Q (.ref r) H')
theorem scTakeF : FnScope ["self", "clauses", "start", "place", "taking"] ["self", "clauses", "start"] (defScope sTakeF) := ⟨rfl, rfl, rfl, by decide +kernel, rfl, by decide +kernel, by decide +kernel⟩
theorem okTakeF {f fT fO : Addr} {fd fdT fdO : FuncData} (F : Fun K "take_first" "Process.take_first" sTakeF f fd) (T : Tz K mg C) (DT : Df K mg "first_to_take" sFirst ["clauses", "letter", "names"] fT fdT) (GT : FnOk P w K mg base CX0 5 fT fdT ["clauses", "letter", "names"] (spFirst K))
    (MO : Mt K C "take_out" "Process.take_out" sTakeO ["self", "place"] fO fdO) : FnOk P w K mg base CX0 6 f fd ["self", "clauses", "start"] (spTakeF K C) := by
  have GO : FnOk P w K mg base CX0 1 fO fdO ["self", "place"] (spTakeO C) := okTakeO MO.F T
  refine F.ok scTakeF (fun vs H Q E h => ?_) (fun cdv A outer s H vs Q E hr h => ?_)
  · obtain ⟨p, c, a, D, R, st, cs, rfl, _⟩ := h
    rfl
  · obtain ⟨p, c, a, D, R, st, cs, rfl, ⟨dx, fl, as, us, B0⟩, hC, kN, kS⟩ := h
    have hr1 : Room 1 _ := hr.mono (by decide)
    refine ⟨_, pss_cons (ps_set (i := 3) scTakeF.nd rfl (Or.inl rfl) (pv 2))
      (pss_cons (ps_while PassesOwn.never (pt_cmpR op_lt (pv 3) (pe_callB call_len_seq (by rfl) T.len PySem.boot_len (pa_cons (pe_fld (pv 0) rfl) pa_nil)) (nomark _))
        (pss_cons (ps_fldaug (pv 0) pe_int in_add)
        (pss_cons (ps_set (i := 4) scTakeF.nd rfl (Or.inl rfl) (pe_call GT hr (by rfl) DT.g DT.F.kp DT.b .nil pass0 (pa_cons (pv 1) (pa_cons (pe_ix ix_list (pe_fld (pv 0) rfl) (pv 3) (fun _ _ => rfl)) (pa_cons (pe_fld (pv 0) rfl) pa_nil)))))
        (pss_cons (ps_if (pt_cmpR op_notN (pv 4) pe_non (nomark _))
          (pss_cons (ps_fld (pv 0) (pe_ix ix_tup (pv 4) pe_int (fun _ _ => rfl)) rfl)
          (pss_cons (ps_expr (pe_meth (pv 0) T.cl MO.m GO hr1 MO.b .nil pass0 (pa_cons (pv 3) pa_nil)))
          (pss_one (ps_ret (pe_lst (pa_cons (pe_gi T.TAKEN) (pa_cons (pv 3) (pa_cons (pe_ix ix_tup (pv 4) pe_int (fun _ _ => rfl)) pa_nil)))))))) pss_nil)
        (pss_one (ps_aug (i := 3) scTakeF.nd rfl (Or.inl rfl) pe_int ip_add))))))
      (pss_one (ps_ret pe_non))), ?_⟩
    let Pv : Nat → L2.St → Hp → Prop := fun m σ H' => ∃ (i : Nat) (v4 : Option V), σ = [some (.ref p), some (.ref c), some (.int (a : Int)), some (.int (i : Int)), v4] ∧ m = st.box.length - i ∧ a ≤ i ∧ (i = a ∨ i ≤ st.box.length) ∧
      PrB K C D R H' p { st with looked := st.looked + (i - a) } dx { fl with looked := st.looked + (i - a) } as us ∧ Ha01.firstFit st.names cs a (st.box.drop a) = Ha01.firstFit st.names cs i (st.box.drop i)
    refine ⟨_, rfl, Pv, ⟨_, a, none, rfl, rfl, Nat.le_refl _, .inl rfl, ?_, rfl⟩, ?_⟩
    · rw [Nat.sub_self, Nat.add_zero]
      have : { fl with looked := st.looked } = fl := by
        rw [← B0.looked]
      rw [this]
      exact B0
    rintro m σ H1 ⟨i, v4, rfl, rfl, hai, hib, B, hff⟩
    refine ⟨_, rfl, _, rfl, p, C, dx, _, _, rfl, B.hp, T.cl, T.nbox, pF_box _, fl.b, _, rfl, .inl (SqL.of B.hb), _, _, rfl, rfl, _, rfl, ?_⟩
    rw [List.length_map, B.box.len]
    by_cases c1 : st.box.length ≤ i
    · rw [decide_eq_false (by show ¬ ((i : Int) < ((st.box.length : Nat) : Int)); omega)]
      rw [List.drop_eq_nil_of_le c1] at hff
      refine iteF (kN hff H1 ?_)
      rw [show st.box.length - a = i - a by omega]
      exact ⟨dx, _, as, us, B⟩
    · rw [decide_eq_true (by show ((i : Int) < ((st.box.length : Nat) : Int)); omega)]
      have hlt : i < st.box.length := by omega
      refine iteT ⟨fun σ' H' => ∃ m', m' < st.box.length - i ∧ Pv m' σ' H', fun _ _ z => z, ?_⟩
      -- self.looked += 1
      refine ⟨_, rfl, p, C, dx, _, _, rfl, B.hp, T.cl, T.nlooked, pF_looked _, _, _, rfl, rfl, dx, _, B.hp, (by show 9 < 1000; decide), ?_⟩
      rw [show V.int (((st.looked + (i - a) : Nat) : Int) + 1) = V.int ((st.looked + (i + 1 - a) : Nat) : Int) by congr 1; omega, pF_put_looked]
      have B2 : PrB K C D R (upd H1 p (.ins C dx (pF { fl with looked := st.looked + (i + 1 - a) }))) p { st with looked := st.looked + (i + 1 - a) } dx { fl with looked := st.looked + (i + 1 - a) } as us :=
        { B with
          hp := upd_same
          hb := by rw [upd_ne B.pb]; exact B.hb
          hn := by rw [upd_ne B.pn]; exact B.hn
          sD := same_but B.sD fun x hx => upd_ne fun z => hx (by rw [z]; exact B.Dp)
          sR := same_but B.sR fun x hx => upd_ne fun z => hx (by rw [z]; exact B.Rp)
          looked := rfl }
      generalize upd H1 p (.ins C dx (pF { fl with looked := st.looked + (i + 1 - a) })) = H2 at B2
      -- the letter
      obtain ⟨t, ht⟩ : ∃ t, st.box[i]? = some t := ⟨_, List.getElem?_eq_getElem hlt⟩
      obtain ⟨la, hla, hnl, gt⟩ := B2.box.get ht
      have ed : st.box.drop i = t :: st.box.drop (i + 1) := by
        rw [List.drop_eq_getElem_cons hlt]
        congr 1
        exact (List.getElem?_eq_some_iff.mp ht).2
      rw [ed] at hff
      refine ⟨_, rfl, _, rfl, p, C, dx, _, _, rfl, B2.hp, T.cl, T.nbox, pF_box _, _, rfl, fl.b, _, _, _, rfl, rfl, SqL.of B2.hb, atI_nat (refs_at hla), _, rfl, p, C, dx, _, _, rfl, B2.hp, T.cl, T.nnames, pF_names _,
        c, la, fl.nm, cs, t, st.names, us, D, rfl, hC.same B2.sD, (hnl.same B2.sD).nl, gt, SqL.of B2.hn, B2.sD, B2.names, fun hno H3 s3 => ?_, fun j e1 hyes H3 r q us1 s3 hq hq3 hN3 hr3 => ?_⟩
      · refine ⟨_, rfl, rfl, _, rfl, iteF ?_⟩
        refine ⟨_, rfl, _, _, rfl, rfl, st.box.length - (i + 1), by omega, i + 1, _, rfl, rfl, by omega, .inr (by omega), B2.grow s3, ?_⟩
        rw [hff]
        show (match Ha01.clauseFor st.names 0 cs t with | some x => some (i, x) | none => Ha01.firstFit st.names cs (i + 1) (st.box.drop (i + 1))) = _
        rw [hno]
      · have hff' : Ha01.firstFit st.names cs a (st.box.drop a) = some (i, j, e1) := by
          rw [hff]
          show (match Ha01.clauseFor st.names 0 cs t with | some x => some (i, x) | none => Ha01.firstFit st.names cs (i + 1) (st.box.drop (i + 1))) = _
          rw [hyes]
        have B3 := B2.grow s3
        refine ⟨_, rfl, rfl, _, rfl, iteT ?_⟩
        -- self.names = taking[1]
        refine ⟨_, rfl, r, _, 1, _, rfl, rfl, SqT.of hr3, rfl, _, rfl, p, C, dx, _, rfl, B3.hp, T.cl, T.nnames, (by show 9 < 1000; decide), ?_⟩
        rw [pF_put_names]
        have qp : q ≠ p := fun z => by rw [z, B2.hp] at hq; cases hq
        have qb : q ≠ fl.b := fun z => by rw [z, B2.hb] at hq; cases hq
        have rp : r ≠ p := ne_of hr3 B3.hp (by intro z; cases z)
        have rb : r ≠ fl.b := ne_of hr3 B3.hb (by intro z; cases z)
        have hb4 : (upd H3 p (.ins C dx (pF { fl with looked := st.looked + (i + 1 - a), nm := q }))) fl.b = some (.lst (as.map V.ref)) := by rw [upd_ne B3.pb]; exact B3.hb
        refine ⟨_, rfl, p, dx, _, rfl, upd_same, pF_no_take_out _, _, rfl, p, dx, _, _, i, rfl, upd_same, hb4, (by rw [List.length_map, B3.box.len]; exact hlt), (by rw [List.length_map, B3.box.len]; exact Nat.le_trans B3.room (by decide)), fun H5 hp5 hb5 hk5 => ?_⟩
        have hr5 : H5 r = some (.tup [.int ((j + 1 : Nat) : Int), .ref q]) := by
          rw [hk5 r rp rb, upd_ne rp]
          exact hr3
        refine ⟨_, rfl, _, rfl, r, _, 0, _, rfl, rfl, SqT.of hr5, rfl, (by show 3 ≤ sizeLine; decide), fun rr hrr => ?_⟩
        have s6 : Same H5 (upd H5 rr (.lst [.int 1, .int (i : Int), .int ((j + 1 : Nat) : Int)])) := Same.new hrr
        have nwp : ∀ x, H2 x ≠ none → Nw (upd H2 q (.lst [])) H3 x = none := fun x hx => nw_none fun z => hx (upd_free x z)
        have hDq : D q = none := B2.sD.free hq
        have hRq : R q = none := B2.sR.free hq
        have B6 : PrB K C (Jn D (Nw (upd H2 q (.lst [])) H3)) R H5 p { st with box := st.box.eraseIdx i, names := e1, marked := if i < st.marked then st.marked - 1 else st.marked, taken := st.taken + 1, looked := st.looked + (i + 1 - a) } dx
            { fl with looked := st.looked + (i + 1 - a), nm := q, mark := if i < fl.mark then fl.mark - 1 else fl.mark, taken := fl.taken + 1 } (as.eraseIdx i) us1 :=
          { hp := hp5
            hb := by
              rw [hb5]
              congr 2
              exact map_erase V.ref as i
            hn := by rw [hk5 q qp qb, upd_ne qp]; exact hq3
            bn := fun z => qb z.symm
            sD := same_but (jn_sub B3.sD (nw_sub _ _)) fun x hx => by
              have x1 : x ≠ p := fun z => hx (by rw [z]; exact jn_none B2.Dp (nwp p (some_ne B2.hp)))
              have x2 : x ≠ fl.b := fun z => hx (by rw [z]; exact jn_none B2.Db (nwp _ (some_ne B2.hb)))
              rw [hk5 x x1 x2, upd_ne x1]
            sR := same_but B3.sR fun x hx => by
              have x1 : x ≠ p := fun z => hx (by rw [z]; exact B2.Rp)
              have x2 : x ≠ fl.b := fun z => hx (by rw [z]; exact B2.Rb)
              rw [hk5 x x1 x2, upd_ne x1]
            dr := fun x hx => jn_none (B2.dr x hx) (nwp x fun z => hx (B2.sR.free z))
            Dp := jn_none B2.Dp (nwp p (some_ne B2.hp))
            Db := jn_none B2.Db (nwp _ (some_ne B2.hb))
            Dn := jn_none hDq (nw_none (some_ne upd_same))
            Rp := B2.Rp
            Rb := B2.Rb
            Rn := hRq
            box := (B2.box.erase i).mono fun x y _ h => ⟨h.1.same (jn_left _ _), h.2⟩
            names := hN3
            wait := B2.wait.same (jn_left _ _)
            made := B2.made
            mark := by
              show (if i < fl.mark then fl.mark - 1 else fl.mark) = _
              rw [show fl.mark = st.marked from B0.mark]
            sent := B2.sent
            taken := congrArg (· + 1) B0.taken
            looked := rfl
            room := Nat.le_trans (List.length_eraseIdx_le ..) B2.room
            toks := B2.toks }
        exact kS i j e1 hff' _ _ rr (jn_left _ _) ⟨dx, _, _, us1, B6.grow s6⟩ upd_same (B6.sR.free hrr)
/-! looking_begins -/
def spBegins (K : PySem.W.Frag) (C : Addr) : Sp := fun vs H Q _ => ∃ (p c : Addr) (D R : Hp) (st : Ha01.St) (cs : List Ha01.Clause), vs = [.ref p, .ref c] ∧ PrAt K C D R H p st ∧ CsAt K D c cs ∧ cs.length ≤ 6 ∧
  ∀ H', Same H H' → Q (.int ((Ha01.startOf st cs : Nat) : Int)) H'
theorem scBegins : FnScope ["self", "clauses", "last_token", "clause"] ["self", "clauses"] (defScope sBegins) := ⟨rfl, rfl, rfl, by decide +kernel, rfl, by decide +kernel, by decide +kernel⟩
theorem okBegins {f fA : Addr} {fd fdA : FuncData} (F : Fun K "looking_begins" "Process.looking_begins" sBegins f fd) (T : Tz K mg C) (DA : Df K mg "asks_for" sAsks ["pattern", "token", "names"] fA fdA) (GA : FnOk P w K mg base CX0 2 fA fdA ["pattern", "token", "names"] (spAsks K)) :
    FnOk P w K mg base CX0 3 f fd ["self", "clauses"] (spBegins K C) := by
  refine F.ok scBegins (fun vs H Q E h => ?_) (fun cdv A outer s H vs Q E hr h => ?_)
  · obtain ⟨p, c, D, R, st, cs, rfl, _⟩ := h
    rfl
  · obtain ⟨p, c, D, R, st, cs, rfl, ⟨dx, fl, as, us, B⟩, hC, h6, k⟩ := h
    refine ⟨_, pss_cons (ps_set (i := 2) scBegins.nd rfl (Or.inr rfl) (pe_op op_sub (pe_fld (pv 0) rfl) pe_int))
      (pss_cons (ps_if (PW.pt (pw_and (pt_cmpR op_gt (pe_fld (pv 0) rfl) pe_int (nomark _)) (pw_and1 (pt_val (pe_callB (cr_all rfl) (by rfl) T.all (by decide +kernel) (pa_cons (pe_lc (own := [("clause", 3)]) (g := gName 3) (tt := tYes)
          (te := tCall (spAsks K) [] E0 (tCons (tOp (rIxT K) (tVar 3) (tC (.int 0))) (tCons (tVar 2) (tCons (tFld K (tVar 0) "names") tNil)))) rfl scBegins.nd
          (pi_list (pv 1)) (blkOk_by (own := [("clause", 3)]) (N := ["self", "clauses", "last_token", "clause"]) (sc := defScope sBegins) (by decide +kernel))
          (fun _ _ _ _ _ => pg_name (i := 3) scBegins.nd rfl (Or.inl rfl)) (fun _ _ _ _ _ => pts_nil)
          (fun _ _ _ _ _ => pe_call GA hr (by rfl) DA.g DA.F.kp DA.b .nil pass0 (pa_cons (pe_ix ix_tup (pv 3) pe_int (fun _ _ => rfl)) (pa_cons (pv 2) (pa_cons (pe_fld (pv 0) rfl) pa_nil))))) pa_nil))))))
          (pss_one (ps_ret (pe_fld (pv 0) rfl))) pss_nil)
      (pss_one (ps_ret pe_int))), ?_⟩
    refine ⟨_, rfl, p, C, dx, _, _, rfl, B.hp, T.cl, T.nmade, pF_made fl, _, _, rfl, rfl, ?_⟩
    refine ⟨_, rfl, p, C, dx, _, _, rfl, B.hp, T.cl, T.nmade, pF_made fl, _, _, rfl, rfl, _, rfl, ?_⟩
    unfold Ha01.startOf at k
    rw [B.made]
    by_cases c0 : st.tokens = 0
    · rw [decide_eq_false (by omega)]
      rw [if_neg (fun z => z.1 c0)] at k
      exact iteF (iteF (k H (Same.refl H)))
    · rw [decide_eq_true (by omega)]
      dsimp only
      rw [show ((st.tokens : Nat) : Int) - 1 = ((st.tokens - 1 : Nat) : Int) by omega]
      refine iteT ?_
      obtain ⟨ca, hca, hR⟩ := hC
      refine ⟨_, rfl, c, rfl, ⟨_, B.sD.seq hca⟩, fun L hL => ?_⟩
      refine lc_list (K := K) (a := c) (xs := ca.map V.ref) (fun j H' => Same H H' ∧ H' L = some (.lst (((cs.take j).map fun x => Ha01.asks (st.tokens - 1) st.names x.pat).map V.bl)))
        ⟨Same.new hL, upd_same⟩ (fun j H' _ ⟨s2, _⟩ => s2.seq (B.sD.seq hca)) ?_ ?_
      · rintro j x H2 hj ⟨s2, hL2⟩
        obtain ⟨cx, hcx, rfl⟩ := refs_get hj
        obtain ⟨cl, hcl⟩ : ∃ cl, cs[j]? = some cl := ⟨_, List.getElem?_eq_getElem (by rw [← hR.len]; exact (List.getElem?_eq_some_iff.mp hcx).1)⟩
        obtain ⟨pa, qa, t1, t2, t3, _⟩ := (hR.at_ j cx cl hcx hcl).same (B.sD.trans s2)
        have B2 := B.grow s2
        refine ⟨rfl, _, rfl, cx, _, 0, _, rfl, rfl, t1, rfl, _, rfl, _, rfl, p, C, dx, _, _, rfl, B2.hp, T.cl, T.nnames, pF_names fl, pa, fl.nm, cl.pat, st.tokens - 1, st.names, us, rfl, t2, t3, SqL.of B2.hn, B2.names.same B2.sD, fun H3 s3 => ?_⟩
        refine ⟨_, s3 _ _ hL2, (by rw [List.length_map, List.length_map, List.length_take]; exact small1000 (by omega)), ?_, ?_⟩
        · exact fun c o z => by rw [upd_ne (ne_of_none z hL)]; exact s3 _ _ (s2 c o z)
        · rw [upd_same, take_more hcl, List.map_append, List.map_append]
          rfl
      · rintro H2 ⟨s2, hL2⟩
        rw [List.length_map, hR.len, List.take_length] at hL2
        have B2 := B.grow s2
        refine ⟨L, _, rfl, SqL.of hL2, _, rfl, ?_⟩
        rw [List.all_map, Function.id_comp]
        cases ca : cs.all (fun x => Ha01.asks (st.tokens - 1) st.names x.pat) with
        | true =>
          rw [if_pos ⟨c0, ca⟩] at k
          refine iteT ⟨_, rfl, p, C, dx, _, _, rfl, B2.hp, T.cl, T.nmark, pF_mark fl, ?_⟩
          rw [B.mark]
          exact k H2 s2
        | false =>
          rw [if_neg (fun z => by rw [ca] at z; exact absurd z.2 (by decide))] at k
          exact iteF (k H2 s2)
/-! what a call leaves and answers -/
def Out (K : PySem.W.Frag) (C : Addr) (D R : Hp) (p : Addr) (r : Ha01.St × List Int) (Q : VK) : Prop := ∀ D' H' x, Same D D' → PrAt K C D' R H' p r.1 → H' x = some (toV r.2) → R x = none → Q (.ref x) H'
theorem PrB.cast {D R H : Hp} {p : Addr} {st st' : Ha01.St} {dx : Addr} {f : Fl} {as : List Addr} {us : List V} (h : PrB K C D R H p st dx f as us) (e1 : st'.box = st.box) (e2 : st'.names = st.names) (e3 : st'.wait = st.wait) (e4 : st'.tokens = st.tokens) (e5 : st'.marked = st.marked) (e6 : st'.looked = st.looked) (e7 : st'.sent = st.sent) (e8 : st'.taken = st.taken) :
    PrB K C D R H p st' dx f as us :=
  { h with box := by rw [e1]; exact h.box, names := by rw [e2]; exact h.names, wait := by rw [e3]; exact h.wait, made := by rw [e4]; exact h.made, mark := by rw [e5]; exact h.mark, looked := by rw [e6]; exact h.looked, sent := by rw [e7]; exact h.sent, taken := by rw [e8]; exact h.taken, room := by rw [e1]; exact h.room, toks := by rw [e4]; exact h.toks }
theorem Out.give {D D' R H : Hp} {p x : Addr} {r : Ha01.St × List Int} {Q : VK} {dx : Addr} {f : Fl} {as : List Addr} {us : List V} (k : Out K C D R p r Q) (sD : Same D D') (h : PrB K C D' R H p r.1 dx f as us) (hx : H x = none) : Q (.ref x) (upd H x (toV r.2)) :=
  k D' _ x sD ⟨dx, f, as, us, h.grow (Same.new hx)⟩ upd_same (h.sR.free hx)
/-- another value of clauses and ticks_left -/
theorem PrB.waits {D R H H' : Hp} {p : Addr} {st : Ha01.St} {dx : Addr} {f : Fl} {as : List Addr} {us : List V} {o : Option Ha01.Wait} {cv tv : V} (h : PrB K C D R H p st dx f as us) (hp : H' p = some (.ins C dx (pF { f with cv := cv, tv := tv }))) (k : ∀ a, a ≠ p → H' a = H a) (w : WtAt K D o cv tv) :
    PrB K C D R H' p { st with wait := o } dx { f with cv := cv, tv := tv } as us :=
  { h with
    hp := hp
    hb := by rw [k _ h.pb]; exact h.hb
    hn := by rw [k _ h.pn]; exact h.hn
    sD := same_but h.sD fun x hx => k x fun z => hx (by rw [z]; exact h.Dp)
    sR := same_but h.sR fun x hx => k x fun z => hx (by rw [z]; exact h.Rp)
    wait := w }
/-- what is new joins the data -/
theorem PrB.ext {D R H H' : Hp} {p : Addr} {st : Ha01.St} {dx : Addr} {f : Fl} {as : List Addr} {us : List V} (h : PrB K C D R H p st dx f as us) (s : Same H H') : PrB K C (Jn D (Nw H H')) R H' p st dx f as us :=
  { h.grow s with
    sD := jn_sub (h.sD.trans s) (nw_sub _ _)
    dr := fun x hx => jn_none (h.dr x hx) (nw_none fun z => hx (h.sR.free z))
    Dp := jn_none h.Dp (nw_none (some_ne h.hp))
    Db := jn_none h.Db (nw_none (some_ne h.hb))
    Dn := jn_none h.Dn (nw_none (some_ne h.hn))
    box := h.box.mono fun x y _ z => ⟨z.1.same (jn_left _ _), z.2⟩
    names := h.names.same (jn_left _ _)
    wait := h.wait.same (jn_left _ _) }
theorem Same.newD {D H H' : Hp} (sD : Same D H) : Same (Nw H H') (Jn D (Nw H H')) := jn_right fun a o e => sD.free (nw_some.mp e).1
/-! stop -/
def spStop (K : PySem.W.Frag) (C : Addr) : Sp := fun vs H Q _ => ∃ (p : Addr) (D R : Hp) (st : Ha01.St), vs = [.ref p] ∧ PrAt K C D R H p st ∧ Out K C D R p (Ha01.step st .halt_) Q
theorem scStop : FnScope ["self"] ["self"] (defScope sStop) := ⟨rfl, rfl, rfl, by decide +kernel, rfl, by decide +kernel, by decide +kernel⟩
theorem okStop {f fN : Addr} {fd fdN : FuncData} (F : Fun K "stop" "Process.stop" sStop f fd) (T : Tz K mg C) (MN : Mt K C "wait_no_more" "Process.wait_no_more" sNoMore ["self"] fN fdN) : FnOk P w K mg base CX0 2 f fd ["self"] (spStop K C) := by
  have GN : FnOk P w K mg base CX0 1 fN fdN ["self"] (spNoMore C) := okNoMore MN.F T
  refine F.ok scStop (fun vs H Q E h => ?_) (fun cdv A outer s H vs Q E hr h => ?_)
  · obtain ⟨p, D, R, st, rfl, _⟩ := h
    rfl
  · obtain ⟨p, D, R, st, rfl, ⟨dx, fl, as, us, B⟩, k⟩ := h
    refine ⟨_, pss_cons (ps_if (pt_cmpR op_isN (pe_fld (pv 0) rfl) pe_non (nomark _)) (pss_one (ps_ret (pe_lst (pa_cons (pe_gi T.WRONG_TIME) pa_nil)))) pss_nil)
      (pss_cons (ps_expr (pe_meth0 (pv 0) T.cl MN.m GN hr MN.b .nil pass0)) (pss_one (ps_ret (pe_lst (pa_cons (pe_gi T.DONE) pa_nil))))), ?_⟩
    refine ⟨_, rfl, p, C, dx, _, _, rfl, B.hp, T.cl, T.nclauses, pF_clauses fl, rfl, _, rfl, ?_⟩
    have hw := B.wait
    unfold Ha01.step at k
    cases cw : st.wait with
    | none =>
      rw [cw] at hw k
      rw [hw.1]
      refine iteT ⟨(by show 1 ≤ sizeLine; decide), fun r hr' => k.give (Same.refl D) B hr'⟩
    | some wt =>
      rw [cw] at hw k
      obtain ⟨⟨c, ec, _⟩, _⟩ := hw
      rw [ec]
      refine iteF ⟨_, rfl, p, dx, _, rfl, B.hp, pF_no_wait_no_more fl, p, dx, fl, rfl, B.hp, fun H1 hp1 hk1 => ?_⟩
      refine ⟨(by show 1 ≤ sizeLine; decide), fun r hr' => k.give (Same.refl D) (B.waits hp1 hk1 (o := none) ⟨rfl, rfl⟩) hr'⟩
/-! ticks -/
def spTicks (K : PySem.W.Frag) (C : Addr) : Sp := fun vs H Q _ => ∃ (p : Addr) (n : Nat) (D R : Hp) (st : Ha01.St), vs = [.ref p, .int (n : Int)] ∧ PrAt K C D R H p st ∧ Out K C D R p (Ha01.step st (.ticks n)) Q
theorem scTicks : FnScope ["self", "n"] ["self", "n"] (defScope sTicks) := ⟨rfl, rfl, rfl, by decide +kernel, rfl, by decide +kernel, by decide +kernel⟩
theorem okTicks {f fN : Addr} {fd fdN : FuncData} (F : Fun K "pass_ticks" "Process.pass_ticks" sTicks f fd) (T : Tz K mg C) (MN : Mt K C "wait_no_more" "Process.wait_no_more" sNoMore ["self"] fN fdN) : FnOk P w K mg base CX0 2 f fd ["self", "n"] (spTicks K C) := by
  have GN : FnOk P w K mg base CX0 1 fN fdN ["self"] (spNoMore C) := okNoMore MN.F T
  refine F.ok scTicks (fun vs H Q E h => ?_) (fun cdv A outer s H vs Q E hr h => ?_)
  · obtain ⟨p, n, D, R, st, rfl, _⟩ := h
    rfl
  · obtain ⟨p, n, D, R, st, rfl, ⟨dx, fl, as, us, B⟩, k⟩ := h
    refine ⟨_, pss_cons (ps_if (PW.pt (pw_or (pt_cmpR op_lt (pv 1) pe_int (nomark _)) (pw_or1 (pt_cmpR op_gt (pv 1) (pe_gi T.MOST_TICKS) (nomark _))))) (pss_one (ps_ret (pe_lst (pa_cons (pe_gi T.WRONGLY_TOLD) pa_nil)))) pss_nil)
      (pss_cons (ps_if (pt_cmpR op_isN (pe_fld (pv 0) rfl) pe_non (nomark _)) (pss_one (ps_ret (pe_lst (pa_cons (pe_gi T.DONE) pa_nil)))) pss_nil)
      (pss_cons (ps_fldaug (pv 0) (pv 1) in_sub)
      (pss_cons (ps_if (pt_cmpR op_gt (pe_fld (pv 0) rfl) pe_int (nomark _)) (pss_one (ps_ret (pe_lst (pa_cons (pe_gi T.DONE) pa_nil)))) pss_nil)
      (pss_cons (ps_expr (pe_meth0 (pv 0) T.cl MN.m GN hr MN.b .nil pass0)) (pss_one (ps_ret (pe_lst (pa_cons (pe_gi T.TIME_OVER) pa_nil)))))))), ?_⟩
    refine ⟨_, rfl, _, _, rfl, rfl, _, rfl, ?_⟩
    have stay : ∀ (z : List Int) (r : Addr) (o : HO), H r = none → o = toV z → Out K C D R p (st, z) Q → Q (.ref r) (upd H r o) := fun z r o h1 h2 h3 => (by rw [h2]; exact h3.give (Same.refl D) B h1)
    unfold Ha01.step at k
    dsimp only at k
    by_cases c0 : n = 0
    · rw [decide_eq_true (by omega)]
      rw [if_pos (.inl c0)] at k
      exact iteT (iteT ⟨(by show 1 ≤ sizeLine; decide), fun r hr' => stay _ r _ hr' rfl k⟩)
    · rw [decide_eq_false (by omega)]
      refine iteF ⟨_, rfl, _, _, rfl, rfl, _, rfl, ?_⟩
      by_cases c1 : 1000 < n
      · rw [decide_eq_true (by omega)]
        rw [if_pos (.inr c1)] at k
        exact iteT ⟨(by show 1 ≤ sizeLine; decide), fun r hr' => stay _ r _ hr' rfl k⟩
      · rw [decide_eq_false (by omega)]
        rw [if_neg (by omega)] at k
        refine iteF ⟨_, rfl, p, C, dx, _, _, rfl, B.hp, T.cl, T.nticks_left, pF_ticks_left fl, rfl, _, rfl, ?_⟩
        have hw := B.wait
        cases cw : st.wait with
        | none =>
          rw [cw] at hw k
          rw [hw.2]
          exact iteT ⟨(by show 1 ≤ sizeLine; decide), fun r hr' => stay _ r _ hr' rfl k⟩
        | some wt =>
          rw [cw] at hw k
          obtain ⟨hcl, hl⟩ := hw
          cases cl : wt.left with
          | none =>
            rw [cl] at hl
            dsimp only at k
            rw [cl] at k
            rw [hl]
            exact iteT ⟨(by show 1 ≤ sizeLine; decide), fun r hr' => stay _ r _ hr' rfl k⟩
          | some kt =>
            rw [cl] at hl
            dsimp only at k
            rw [cl] at k
            obtain ⟨h1, hl⟩ := hl
            rw [hl]
            refine iteF ⟨_, rfl, p, C, dx, _, _, rfl, B.hp, T.cl, T.nticks_left, (by rw [pF_ticks_left, hl]), _, rfl, _, _, rfl, rfl, dx, _, B.hp, (by show 9 < 1000; decide), ?_⟩
            rw [pF_put_ticks_left]
            refine ⟨_, rfl, p, C, dx, _, _, rfl, upd_same, T.cl, T.nticks_left, pF_ticks_left _, _, _, rfl, rfl, _, rfl, ?_⟩
            have kk : ∀ a, a ≠ p → (upd H p (.ins C dx (pF { fl with tv := .int (((kt : Nat) : Int) - (n : Int)) }))) a = H a := fun a ha => upd_ne ha
            by_cases c2 : kt ≤ n
            · rw [decide_eq_false (by omega)]
              dsimp only at k
              rw [if_pos c2] at k
              refine iteF ⟨_, rfl, p, dx, _, rfl, upd_same, pF_no_wait_no_more _, p, dx, _, rfl, upd_same, fun H2 hp2 hk2 => ?_⟩
              refine ⟨(by show 1 ≤ sizeLine; decide), fun r hr' => k.give (Same.refl D) (B.waits (H' := H2) hp2 (fun a ha => (hk2 a ha).trans (kk a ha)) (o := none) ⟨rfl, rfl⟩) hr'⟩
            · rw [decide_eq_true (by omega)]
              dsimp only at k
              rw [if_neg c2] at k
              refine iteT ⟨(by show 1 ≤ sizeLine; decide), fun r hr' => k.give (Same.refl D) (B.waits (cv := fl.cv) (tv := .int (((kt : Nat) : Int) - (n : Int))) upd_same kk (o := some { wt with left := some (kt - n) }) ⟨hcl, by omega, ?_⟩) hr'⟩
              congr 1
              omega
/-! receive -/
def spRecv (K : PySem.W.Frag) (C : Addr) : Sp := fun vs H Q _ => ∃ (p t : Addr) (e n : Nat) (l : List Nat) (D R : Hp) (st : Ha01.St), vs = [.ref p, .int (e : Int), .int (n : Int), .ref t] ∧ PrAt K C D R H p st ∧ NL K H t l ∧ l.length ≤ 104 ∧ Out K C D R p (Ha01.step st (.receive e n l)) Q
theorem scRecv : FnScope ["self", "ends", "ticks", "told", "clauses", "taken"] ["self", "ends", "ticks", "told"] (defScope sRecv) := ⟨rfl, rfl, rfl, by decide +kernel, rfl, by decide +kernel, by decide +kernel⟩
theorem okRecv {f fC fT fB : Addr} {fd fdC fdT fdB : FuncData} (F : Fun K "receive" "Process.receive" sRecv f fd) (T : Tz K mg C) (DC : Df K mg "clauses_told" sClauses ["told"] fC fdC) (GC : FnOk P w K mg base CX0 3 fC fdC ["told"] (spClauses K))
    (MT : Mt K C "take_first" "Process.take_first" sTakeF ["self", "clauses", "start"] fT fdT) (GT : FnOk P w K mg base CX0 6 fT fdT ["self", "clauses", "start"] (spTakeF K C))
    (MB : Mt K C "looking_begins" "Process.looking_begins" sBegins ["self", "clauses"] fB fdB) (GB : FnOk P w K mg base CX0 3 fB fdB ["self", "clauses"] (spBegins K C)) : FnOk P w K mg base CX0 7 f fd ["self", "ends", "ticks", "told"] (spRecv K C) := by
  refine F.ok scRecv (fun vs H Q E h => ?_) (fun cdv A outer s H vs Q E hr h => ?_)
  · obtain ⟨p, t, e, n, l, D, R, st, rfl, _⟩ := h
    rfl
  · obtain ⟨p, t, e, n, l, D, R, st, rfl, ⟨dx, fl, as, us, B⟩, hl, h104, k⟩ := h
    have hr3 : Room 3 _ := hr.mono (by decide)
    refine ⟨_, pss_cons (ps_if (pt_cmpR op_notN (pe_fld (pv 0) rfl) pe_non (nomark _)) (pss_one (ps_ret (pe_lst (pa_cons (pe_gi T.WRONG_TIME) pa_nil)))) pss_nil)
      (pss_cons (ps_if (PW.pt (pw_or (pt_cmpR op_gt (pv 1) pe_int (nomark _)) (pw_or1 (pt_cmpR op_gt (pv 2) (pe_gi T.MOST_TICKS) (nomark _))))) (pss_one (ps_ret (pe_lst (pa_cons (pe_gi T.WRONG_END) pa_nil)))) pss_nil)
      (pss_cons (ps_set (i := 4) scRecv.nd rfl (Or.inl rfl) (pe_call GC hr3 (by rfl) DC.g DC.F.kp DC.b .nil pass0 (pa_cons (pv 3) pa_nil)))
      (pss_cons (ps_if (pt_cmpR op_isN (pv 4) pe_non (nomark _)) (pss_one (ps_ret (pe_lst (pa_cons (pe_gi T.WRONGLY_TOLD) pa_nil)))) pss_nil)
      (pss_cons (ps_set (i := 5) scRecv.nd rfl (Or.inl rfl) (pe_meth (pv 0) T.cl MT.m GT hr MT.b .nil pass0 (pa_cons (pv 4) (pa_cons (pe_meth (pv 0) T.cl MB.m GB hr3 MB.b .nil pass0 (pa_cons (pv 4) pa_nil)) pa_nil))))
      (pss_cons (ps_if (pt_cmpR op_notN (pv 5) pe_non (nomark _)) (pss_one (ps_ret (pv 5))) pss_nil)
      (pss_cons (ps_if (PW.pt (pw_and (pt_cmpR op_eq (pv 1) pe_int (nomark _)) (pw_and1 (pt_cmpR op_eq (pv 2) pe_int (nomark _))))) (pss_one (ps_ret (pe_lst (pa_cons (pe_gi T.TIME_OVER) pa_nil)))) pss_nil)
      (pss_cons (ps_fld (pv 0) (pv 4) rfl)
      (pss_cons (ps_fld (pv 0) (pe_ifExp (pt_cmpR op_eq (pv 1) pe_int (nomark _)) (pv 2) pe_non) rfl)
      (pss_one (ps_ret (pe_lst (pa_cons (pe_gi T.DONE) pa_nil)))))))))))), ?_⟩
    have stay : ∀ (z : List Int) (H1 : Hp) (r : Addr) (o : HO), Same H H1 → H1 r = none → o = toV z → Out K C D R p (st, z) Q → Q (.ref r) (upd H1 r o) := fun z H1 r o s1 h1 h2 h3 => (by rw [h2]; exact h3.give (Same.refl D) (B.grow s1) h1)
    refine ⟨_, rfl, p, C, dx, _, _, rfl, B.hp, T.cl, T.nclauses, pF_clauses fl, rfl, _, rfl, ?_⟩
    have hw := B.wait
    unfold Ha01.step at k
    dsimp only at k
    cases cw : st.wait with
    | some wt =>
      rw [cw] at hw k
      obtain ⟨⟨c, ec, _⟩, _⟩ := hw
      rw [ec]
      exact iteT ⟨(by show 1 ≤ sizeLine; decide), fun r hr' => stay _ H r _ (Same.refl H) hr' rfl k⟩
    | none =>
      rw [cw] at hw k
      rw [hw.1]
      rw [if_neg (by decide)] at k
      refine iteF ⟨_, rfl, _, _, rfl, rfl, _, rfl, ?_⟩
      by_cases c1 : 1 < e
      · rw [decide_eq_true (by omega)]
        rw [if_pos (.inl c1)] at k
        exact iteT (iteT ⟨(by show 1 ≤ sizeLine; decide), fun r hr' => stay _ H r _ (Same.refl H) hr' rfl k⟩)
      · rw [decide_eq_false (by omega)]
        refine iteF ⟨_, rfl, _, _, rfl, rfl, _, rfl, ?_⟩
        by_cases c2 : 1000 < n
        · rw [decide_eq_true (by omega)]
          rw [if_pos (.inr c2)] at k
          exact iteT ⟨(by show 1 ≤ sizeLine; decide), fun r hr' => stay _ H r _ (Same.refl H) hr' rfl k⟩
        · rw [decide_eq_false (by omega)]
          rw [if_neg (by omega)] at k
          refine iteF ⟨_, rfl, t, l, rfl, hl, h104, fun hno H1 s1 => ?_, fun cs hcs H1 q s1 hC => ?_⟩
          · rw [hno] at k
            exact ⟨_, rfl, rfl, _, rfl, iteT ⟨(by show 1 ≤ sizeLine; decide), fun r hr' => stay _ H1 r _ s1 hr' rfl k⟩⟩
          · rw [hcs] at k
            dsimp only at k
            have B1 := B.ext s1
            have hC1 : CsAt K (Jn D (Nw H H1)) q cs := hC.same (Same.newD B.sD)
            have sD1 : Same D (Jn D (Nw H H1)) := jn_left _ _
            generalize Jn D (Nw H H1) = D1 at B1 hC1 sD1
            obtain ⟨h6, _⟩ := clauses_le hcs
            refine ⟨_, rfl, rfl, _, rfl, iteF ?_⟩
            refine ⟨_, rfl, p, dx, _, rfl, B1.hp, pF_no_take_first fl, _, rfl, _, rfl, p, dx, _, rfl, B1.hp, pF_no_looking_begins fl, _, rfl, p, q, D1, R, st, cs, rfl, ⟨dx, fl, as, us, B1⟩, hC1, h6, fun H2 s2 => ?_⟩
            have B2 := B1.grow s2
            unfold Ha01.receives at k
            dsimp only at k
            refine ⟨p, q, _, D1, R, st, cs, rfl, ⟨dx, fl, as, us, B2⟩, hC1, fun hno H3 PA3 => ?_, fun i j e1 hyes D3 H3 r sD3 PA3 hr3 hR3 => ?_⟩
            · rw [hno] at k
              dsimp only at k
              obtain ⟨dx3, f3, as3, us3, B3⟩ := PA3
              refine ⟨_, rfl, rfl, _, rfl, iteF ?_⟩
              have hcv3 : f3.cv = .non ∧ f3.tv = .non := by
                have := B3.wait
                rw [show ({ st with looked := st.looked + (st.box.length - Ha01.startOf st cs) } : Ha01.St).wait = none from cw] at this
                exact this
              refine ⟨_, rfl, rfl, _, rfl, ?_⟩
              rw [show decide (V.int (e : Int) = V.int 1) = decide (e = 1) from dec_int _ 1]
              by_cases ce : e = 1
              · rw [decide_eq_true ce]
                rw [if_pos ce] at k
                refine iteT ⟨_, rfl, rfl, _, rfl, ?_⟩
                rw [show decide (V.int (n : Int) = V.int 0) = decide (n = 0) from dec_int _ 0]
                by_cases cn : n = 0
                · rw [decide_eq_true cn]
                  subst cn
                  rw [if_pos rfl, if_pos ⟨ce, rfl⟩] at k
                  refine iteT ⟨(by show 1 ≤ sizeLine; decide), fun r hr' => k.give sD1 (B3.cast rfl rfl cw.symm rfl rfl rfl rfl rfl) hr'⟩
                · rw [decide_eq_false cn]
                  rw [if_neg (fun z => cn (Option.some.inj z)), if_neg (fun z => cn z.2)] at k
                  refine iteF ⟨_, rfl, _, rfl, p, C, dx3, _, rfl, B3.hp, T.cl, T.nclauses, (by show 9 < 1000; decide), ?_⟩
                  rw [pF_put_clauses]
                  refine ⟨_, rfl, rfl, _, rfl, ?_⟩
                  rw [show decide (V.int (e : Int) = V.int 1) = decide (e = 1) from dec_int _ 1, decide_eq_true ce]
                  refine iteT ⟨_, rfl, _, rfl, p, C, dx3, _, rfl, upd_same, T.cl, T.nticks_left, (by show 9 < 1000; decide), ?_⟩
                  rw [pF_put_ticks_left]
                  refine ⟨(by show 1 ≤ sizeLine; decide), fun r hr' => k.give sD1 (B3.waits (cv := .ref q) (tv := .int (n : Int)) (o := some ⟨cs, some n⟩) upd_same (fun a ha => by rw [upd_ne ha, upd_ne ha]) ⟨⟨q, rfl, hC1⟩, by omega, rfl⟩) hr'⟩
              · rw [decide_eq_false ce]
                rw [if_neg ce, if_neg (fun z => by cases z), if_neg (fun z => ce z.1)] at k
                refine iteF (iteF ⟨_, rfl, _, rfl, p, C, dx3, _, rfl, B3.hp, T.cl, T.nclauses, (by show 9 < 1000; decide), ?_⟩)
                rw [pF_put_clauses]
                refine ⟨_, rfl, rfl, _, rfl, ?_⟩
                rw [show decide (V.int (e : Int) = V.int 1) = decide (e = 1) from dec_int _ 1, decide_eq_false ce]
                refine iteF ⟨_, rfl, p, C, dx3, _, rfl, upd_same, T.cl, T.nticks_left, (by show 9 < 1000; decide), ?_⟩
                rw [pF_put_ticks_left]
                refine ⟨(by show 1 ≤ sizeLine; decide), fun r hr' => k.give sD1 (B3.waits (cv := .ref q) (tv := .non) (o := some ⟨cs, none⟩) upd_same (fun a ha => by rw [upd_ne ha, upd_ne ha]) ⟨⟨q, rfl, hC1⟩, rfl⟩) hr'⟩
            · rw [hyes] at k
              dsimp only at k
              obtain ⟨dx3, f3, as3, us3, B3⟩ := PA3
              refine ⟨_, rfl, rfl, _, rfl, iteT ⟨_, rfl, k D3 H3 r (sD1.trans sD3) ⟨dx3, f3, as3, us3, B3.cast rfl rfl cw.symm rfl rfl rfl rfl rfl⟩ hr3 hR3⟩⟩
/-! send -/
def spSend (K : PySem.W.Frag) (C : Addr) : Sp := fun vs H Q _ => ∃ (p t : Addr) (l : List Nat) (D R : Hp) (st : Ha01.St), vs = [.ref p, .ref t] ∧ PrAt K C D R H p st ∧ NR D t l ∧ Out K C D R p (Ha01.step st (.send l)) Q
theorem scSend : FnScope ["self", "term", "taken"] ["self", "term"] (defScope sSend) := ⟨rfl, rfl, rfl, by decide +kernel, rfl, by decide +kernel, by decide +kernel⟩
theorem erase_last {α : Type} : ∀ (l : List α) (x : α), (l ++ [x]).eraseIdx l.length = l
  | [], _ => rfl
  | a :: l, x => congrArg (List.cons a) (erase_last l x)
theorem okSend {f fI fH fT fN : Addr} {fd fdI fdH fdT fdN : FuncData} (F : Fun K "send" "Process.send" sSend f fd) (T : Tz K mg C) (DI : Df K mg "is_term" sIsTerm ["told"] fI fdI) (GI' : FnOk P w K mg base CX0 3 fI fdI ["told"] (spIsTerm K))
    (DH : Df K mg "has_token_from" sHasTok ["term", "first"] fH fdH) (MT : Mt K C "take_first" "Process.take_first" sTakeF ["self", "clauses", "start"] fT fdT) (GT : FnOk P w K mg base CX0 6 fT fdT ["self", "clauses", "start"] (spTakeF K C))
    (MN : Mt K C "wait_no_more" "Process.wait_no_more" sNoMore ["self"] fN fdN) : FnOk P w K mg base CX0 7 f fd ["self", "term"] (spSend K C) := by
  have GN : FnOk P w K mg base CX0 1 fN fdN ["self"] (spNoMore C) := okNoMore MN.F T
  have GH : FnOk P w K mg base CX0 1 fH fdH ["term", "first"] (spHasTok K) := okHasTok DH.F T.toTx
  refine F.ok scSend (fun vs H Q E h => ?_) (fun cdv A outer s H vs Q E hr h => ?_)
  · obtain ⟨p, t, l, D, R, st, rfl, _⟩ := h
    rfl
  · obtain ⟨p, t, l, D, R, st, rfl, ⟨dx, fl, as, us, B⟩, hl, k⟩ := h
    have hr3 : Room 3 _ := hr.mono (by decide)
    have hr1 : Room 1 _ := hr.mono (by decide)
    refine ⟨_, pss_cons (ps_if (pt_not (pt_val (pe_call GI' hr3 (by rfl) DI.g DI.F.kp DI.b .nil pass0 (pa_cons (pv 1) pa_nil)))) (pss_one (ps_ret (pe_lst (pa_cons (pe_gi T.WRONGLY_TOLD) pa_nil)))) pss_nil)
      (pss_cons (ps_if (pt_val (pe_call GH hr1 (by rfl) DH.g DH.F.kp DH.b .nil pass0 (pa_cons (pv 1) (pa_cons (pe_fld (pv 0) rfl) pa_nil)))) (pss_one (ps_ret (pe_lst (pa_cons (pe_gi T.TOKEN_NOT_MADE) pa_nil)))) pss_nil)
      (pss_cons (ps_if (pt_cmpR op_ge (pe_callB call_len_seq (by rfl) T.len PySem.boot_len (pa_cons (pe_fld (pv 0) rfl) pa_nil)) (pe_gi T.MOST_LETTERS) (nomark _)) (pss_one (ps_ret (pe_lst (pa_cons (pe_gi T.TOO_MANY) pa_nil)))) pss_nil)
      (pss_cons (ps_expr (pe_bm PySem.F.plainAttrs_list PySem.F.slot_list_append PySem.F.type_list_append mt_append (pe_fld (pv 0) rfl) (pa_cons (pv 1) pa_nil)))
      (pss_cons (ps_fldaug (pv 0) pe_int in_add)
      (pss_cons (ps_if (pt_cmpR op_isN (pe_fld (pv 0) rfl) pe_non (nomark _)) (pss_one (ps_ret (pe_lst (pa_cons (pe_gi T.DONE) pa_nil)))) pss_nil)
      (pss_cons (ps_set (i := 2) scSend.nd rfl (Or.inl rfl) (pe_meth (pv 0) T.cl MT.m GT hr MT.b .nil pass0 (pa_cons (pe_fld (pv 0) rfl) (pa_cons (pe_op op_sub (pe_callB call_len_seq (by rfl) T.len PySem.boot_len (pa_cons (pe_fld (pv 0) rfl) pa_nil)) pe_int) pa_nil))))
      (pss_cons (ps_if (pt_cmpR op_isN (pv 2) pe_non (nomark _)) (pss_one (ps_ret (pe_lst (pa_cons (pe_gi T.DONE) pa_nil)))) pss_nil)
      (pss_cons (ps_expr (pe_meth0 (pv 0) T.cl MN.m GN hr1 MN.b .nil pass0))
      (pss_one (ps_ret (pv 2))))))))))), ?_⟩
    have stay : ∀ (z : List Int) (H1 : Hp) (r : Addr) (o : HO), Same H H1 → H1 r = none → o = toV z → Out K C D R p (st, z) Q → Q (.ref r) (upd H1 r o) := fun z H1 r o s1 h1 h2 h3 => (by rw [h2]; exact h3.give (Same.refl D) (B.grow s1) h1)
    refine ⟨_, rfl, t, l, rfl, (hl.same B.sD).nl, fun H1 s1 => ⟨_, rfl, ?_⟩⟩
    unfold Ha01.step at k
    dsimp only at k
    cases ct : Ha01.term? l with
    | none =>
      rw [ct] at k
      exact iteT ⟨(by show 1 ≤ sizeLine; decide), fun r hr' => stay _ H1 r _ s1 hr' rfl k⟩
    | some tm =>
      rw [ct] at k
      dsimp only at k
      obtain ⟨gt, rfl, h60⟩ := term_inv ct
      have B1 := B.grow s1
      refine iteF ⟨_, rfl, _, rfl, p, C, dx, _, _, rfl, B1.hp, T.cl, T.nmade, pF_made fl, t, tm, fl.made, rfl, (hl.same B1.sD).nl, gt, h60, _, rfl, ?_⟩
      rw [B.made]
      cases cb : Ha01.tokensBelow st.tokens tm with
      | false =>
        rw [cb, if_pos rfl] at k
        exact iteT ⟨(by show 1 ≤ sizeLine; decide), fun r hr' => stay _ H1 r _ s1 hr' rfl k⟩
      | true =>
        rw [cb, if_neg (by decide)] at k
        refine iteF ⟨_, rfl, p, C, dx, _, _, rfl, B1.hp, T.cl, T.nbox, pF_box fl, fl.b, _, rfl, .inl (SqL.of B1.hb), _, _, rfl, rfl, _, rfl, ?_⟩
        rw [List.length_map, B.box.len]
        by_cases c60 : 60 ≤ st.box.length
        · rw [decide_eq_true (by omega)]
          rw [if_pos c60] at k
          exact iteT ⟨(by show 1 ≤ sizeLine; decide), fun r hr' => stay _ H1 r _ s1 hr' rfl k⟩
        · rw [decide_eq_false (by omega)]
          rw [if_neg c60] at k
          refine iteF ⟨_, rfl, p, C, dx, _, _, rfl, B1.hp, T.cl, T.nbox, pF_box fl, .inl ⟨rfl, _, SqL.of B1.hb⟩, _, rfl, fl.b, _, _, rfl, rfl, B1.hb, (by rw [List.length_map, B.box.len]; exact small1000 (by omega)), ?_⟩
          have hp2 : (upd H1 fl.b (.lst (as.map V.ref ++ [V.ref t]))) p = some (.ins C dx (pF fl)) := by rw [upd_ne B1.pb.symm]; exact B1.hp
          refine ⟨_, rfl, p, C, dx, _, _, rfl, hp2, T.cl, T.nsent, pF_sent fl, _, _, rfl, rfl, dx, _, hp2, (by show 9 < 1000; decide), ?_⟩
          rw [show V.int (((fl.sent : Nat) : Int) + 1) = V.int ((fl.sent + 1 : Nat) : Int) from rfl, pF_put_sent]
          have B2 : PrB K C D R (upd (upd H1 fl.b (.lst (as.map V.ref ++ [V.ref t]))) p (.ins C dx (pF { fl with sent := fl.sent + 1 }))) p { st with box := st.box ++ [tm], sent := st.sent + 1 } dx { fl with sent := fl.sent + 1 } (as ++ [t]) us :=
            { B1 with
              hp := upd_same
              hb := by rw [upd_ne B1.pb, upd_same, List.map_append]; rfl
              hn := by rw [upd_ne B1.pn, upd_ne B1.bn.symm]; exact B1.hn
              sD := same_but B1.sD fun x hx => by rw [upd_ne fun z => hx (by rw [z]; exact B1.Dp), upd_ne fun z => hx (by rw [z]; exact B1.Db)]
              sR := same_but B1.sR fun x hx => by rw [upd_ne fun z => hx (by rw [z]; exact B1.Rp), upd_ne fun z => hx (by rw [z]; exact B1.Rb)]
              sent := congrArg (· + 1) B1.sent
              box := B1.box.snoc ⟨hl, gt⟩
              room := by show (st.box ++ [tm]).length ≤ 60; rw [List.length_append]; show st.box.length + 1 ≤ 60; omega }
          generalize upd (upd H1 fl.b (.lst (as.map V.ref ++ [V.ref t]))) p (.ins C dx (pF { fl with sent := fl.sent + 1 })) = H2 at B2
          refine ⟨_, rfl, p, C, dx, _, _, rfl, B2.hp, T.cl, T.nclauses, pF_clauses _, rfl, _, rfl, ?_⟩
          have hw := B2.wait
          unfold Ha01.comes at k
          cases cw : st.wait with
          | none =>
            rw [show ({ st with box := st.box ++ [tm], sent := st.sent + 1 } : Ha01.St).wait = none from cw] at hw
            rw [cw] at k
            rw [hw.1]
            exact iteT ⟨(by show 1 ≤ sizeLine; decide), fun r hr' => k.give (Same.refl D) (B2.cast rfl rfl cw.symm rfl rfl rfl rfl rfl) hr'⟩
          | some wt =>
            rw [show ({ st with box := st.box ++ [tm], sent := st.sent + 1 } : Ha01.St).wait = some wt from cw] at hw
            rw [cw] at k
            dsimp only at k
            obtain ⟨⟨c, ec, hC⟩, _⟩ := hw
            rw [ec]
            refine iteF ⟨_, rfl, p, dx, _, rfl, B2.hp, pF_no_take_first _, _, rfl, p, C, dx, _, _, rfl, B2.hp, T.cl, T.nclauses, (by rw [pF_clauses, ec]), _, rfl, p, C, dx, _, _, rfl, B2.hp, T.cl, T.nbox, pF_box _, fl.b, _, rfl, .inl (SqL.of B2.hb), _, _, rfl, rfl, ?_⟩
            have elen : V.int (((((as ++ [t]).map V.ref).length : Nat) : Int) - 1) = V.int ((st.box.length : Nat) : Int) := by
              rw [List.length_map, List.length_append, B.box.len]
              congr 1
              show ((st.box.length + 1 : Nat) : Int) - 1 = _
              omega
            dsimp only
            rw [elen]
            have ff : ∀ (o : Option (Nat × Ha01.Names)), Ha01.clauseFor st.names 0 wt.clauses tm = o → Ha01.firstFit st.names wt.clauses st.box.length ((st.box ++ [tm]).drop st.box.length) = o.map fun x => (st.box.length, x) := by
              intro o ho
              rw [List.drop_left]
              show (match Ha01.clauseFor st.names 0 wt.clauses tm with | some x => some (st.box.length, x) | none => none) = _
              rw [ho]
              cases o <;> rfl
            refine ⟨p, c, st.box.length, D, R, _, wt.clauses, rfl, ⟨dx, _, _, us, B2⟩, hC, fun hno H3 PA3 => ?_, fun i j e1 hyes D3 H3 r sD3 PA3 hr3 hR3 => ?_⟩
            · obtain ⟨dx3, f3, as3, us3, B3⟩ := PA3
              have hcf : Ha01.clauseFor st.names 0 wt.clauses tm = none := by
                cases z : Ha01.clauseFor st.names 0 wt.clauses tm with
                | none => rfl
                | some x =>
                  have := (ff _ z).symm.trans hno
                  cases this
              rw [hcf] at k
              dsimp only at k
              refine ⟨_, rfl, rfl, _, rfl, iteT ⟨(by show 1 ≤ sizeLine; decide), fun r hr' => k.give (Same.refl D) (B3.cast rfl rfl cw.symm rfl rfl ?_ rfl rfl) hr'⟩⟩
              show st.looked + 1 = st.looked + ((st.box ++ [tm]).length - st.box.length)
              rw [List.length_append]
              show st.looked + 1 = st.looked + (st.box.length + 1 - st.box.length)
              omega
            · obtain ⟨dx3, f3, as3, us3, B3⟩ := PA3
              have hcf : Ha01.clauseFor st.names 0 wt.clauses tm = some (j, e1) ∧ i = st.box.length := by
                cases z : Ha01.clauseFor st.names 0 wt.clauses tm with
                | none =>
                  have := (ff _ z).symm.trans hyes
                  cases this
                | some x =>
                  have := (ff _ z).symm.trans hyes
                  cases this
                  exact ⟨rfl, rfl⟩
              obtain ⟨hcf, rfl⟩ := hcf
              rw [hcf] at k
              dsimp only at k
              refine ⟨_, rfl, rfl, _, rfl, iteF ⟨_, rfl, p, dx3, _, rfl, B3.hp, pF_no_wait_no_more f3, p, dx3, f3, rfl, B3.hp, fun H4 hp4 hk4 => ?_⟩⟩
              have rp : r ≠ p := ne_of hr3 B3.hp (by intro z; cases z)
              refine ⟨_, rfl, k D3 H4 r sD3 ⟨dx3, _, as3, us3, (B3.waits hp4 hk4 (o := none) ⟨rfl, rfl⟩).cast rfl rfl rfl rfl rfl ?_ rfl rfl⟩ ?_ hR3⟩
              · show st.looked + 1 = st.looked + (st.box.length + 1 - st.box.length)
                omega
              · rw [hk4 r rp]
                exact hr3
end
end Pk

set_option Elab.async false
set_option linter.all false
set_option maxRecDepth 100000
set_option maxHeartbeats 2000000
/-! process.py: a new process, the calls one behind another -/
namespace Pk
open PySem PySem.Spec PyProof.Rows L2
abbrev sEndCall : Stmt := top 61
abbrev sAnswer : Stmt := top 62
abbrev sAnswers : Stmt := top 63
section
variable {P : Program} {w : World} {K : PySem.W.Frag} {mg : Str → Option Value} {base : Heap} {C : Addr}
/-! __init__ -/
def spInit (C : Addr) : Sp := fun vs H Q _ => ∃ (p dx : Addr), vs = [.ref p] ∧ H p = some (.ins C dx []) ∧
  ∀ (H' : Hp) (b nm : Addr), H b = none → H nm = none → b ≠ nm → H' p = some (.ins C dx (pF ⟨b, nm, 0, 0, 0, 0, 0, .non, .non⟩)) → H' b = some (.lst []) → H' nm = some (.lst (List.replicate 10 .non)) → (∀ a o, H a = some o → a ≠ p → H' a = some o) → Q .non H'
theorem scInit : FnScope ["self"] ["self"] (defScope sInit) := ⟨rfl, rfl, rfl, by decide +kernel, rfl, by decide +kernel, by decide +kernel⟩
theorem okInit {f : Addr} {fd : FuncData} (F : Fun K "__init__" "Process.__init__" sInit f fd) (T : Tz K mg C) : FnOk P w K mg base CX0 1 f fd ["self"] (spInit C) := by
  refine F.ok scInit (fun vs H Q E h => ?_) (fun cdv A outer s H vs Q E hr h => ?_)
  · obtain ⟨p, dx, rfl, _⟩ := h
    rfl
  · obtain ⟨p, dx, rfl, hp, k⟩ := h
    obtain ⟨aH, gH, tH⟩ := T.HIGHEST
    refine ⟨_, pss_cons (ps_fld (pv 0) (pe_lst pa_nil) rfl)
      (pss_cons (ps_fld (pv 0) (pe_op op_rep (pe_lst (pa_cons pe_non pa_nil)) (pe_op op_add (pe_ix ix_tup (pe_glob (v := .ref aH) (by rfl) gH rfl) (pe_gi T.NAME) (fun _ _ => rfl)) pe_int)) rfl)
      (pss_cons (ps_fld (pv 0) pe_int rfl)
      (pss_cons (ps_fld (pv 0) pe_int rfl)
      (pss_cons (ps_fld (pv 0) pe_int rfl)
      (pss_cons (ps_fld (pv 0) pe_int rfl)
      (pss_cons (ps_fld (pv 0) pe_int rfl)
      (pss_cons (ps_fld (pv 0) pe_non rfl)
      (pss_one (ps_fld (pv 0) pe_non rfl))))))))), ?_⟩
    have h9 : atI (vI [1000000, 99, 1000, 8, 0, 9]) 5 = some (V.int ((9 : Nat) : Int)) := rfl
    refine ⟨Nat.zero_le _, fun b hb => ?_⟩
    have bp : p ≠ b := fun z => by rw [z, hb] at hp; cases hp
    refine ⟨_, rfl, p, C, dx, _, rfl, (by rw [upd_ne bp]; exact hp), T.cl, T.nbox, (by show 0 < 1000; decide), ?_⟩
    refine ⟨(by show 1 ≤ sizeLine; decide), fun l0 hl0 => ?_⟩
    refine ⟨aH, _, 5, _, rfl, rfl, tH _, h9, _, _, rfl, rfl, l0, _, _, rfl, rfl, upd_same, (by decide), (by decide), (by show 1 * 10 ≤ sizeLine; decide), fun nm hnm => ?_⟩
    have hb1 : (upd (upd H b (.lst [])) p (.ins C dx (putF "box" (.ref b) []))) b = some (.lst []) := by rw [upd_ne bp.symm]; exact upd_same
    have l0b : b ≠ l0 := fun z => by rw [← z, hb1] at hl0; cases hl0
    have l0p : p ≠ l0 := fun z => by rw [← z, upd_same] at hl0; cases hl0
    have nml : nm ≠ l0 := fun z => by rw [z, upd_same] at hnm; cases hnm
    have nmp : p ≠ nm := fun z => by rw [← z, upd_ne l0p, upd_same] at hnm; cases hnm
    have nmb : b ≠ nm := fun z => by rw [← z, upd_ne l0b, hb1] at hnm; cases hnm
    have hnm0 : H nm = none := by
      rw [upd_ne nml, upd_ne nmp.symm, upd_ne nmb.symm] at hnm
      exact hnm
    have hl00 : H l0 = none := by
      rw [upd_ne l0p.symm, upd_ne l0b.symm] at hl0
      exact hl0
    refine ⟨_, rfl, p, C, dx, _, rfl, (by rw [upd_ne nmp, upd_ne l0p]; exact upd_same), T.cl, T.nnames, (by show 1 < 1000; decide), ?_⟩
    refine ⟨_, rfl, p, C, dx, _, rfl, upd_same, T.cl, T.nmade, (by show 2 < 1000; decide), ?_⟩
    refine ⟨_, rfl, p, C, dx, _, rfl, upd_same, T.cl, T.nmark, (by show 3 < 1000; decide), ?_⟩
    refine ⟨_, rfl, p, C, dx, _, rfl, upd_same, T.cl, T.nsent, (by show 4 < 1000; decide), ?_⟩
    refine ⟨_, rfl, p, C, dx, _, rfl, upd_same, T.cl, T.ntaken, (by show 5 < 1000; decide), ?_⟩
    refine ⟨_, rfl, p, C, dx, _, rfl, upd_same, T.cl, T.nlooked, (by show 6 < 1000; decide), ?_⟩
    refine ⟨_, rfl, p, C, dx, _, rfl, upd_same, T.cl, T.nclauses, (by show 7 < 1000; decide), ?_⟩
    refine ⟨_, rfl, p, C, dx, _, rfl, upd_same, T.cl, T.nticks_left, (by show 8 < 1000; decide), ?_⟩
    refine k _ b nm hb hnm0 nmb ?_ ?_ ?_ fun a o z hne => ?_
    · exact upd_same.trans (congrArg (fun q => some (HO.ins C dx q)) (pF_init b nm 0 0 0 0 0 .non .non))
    · rw [upd_ne bp.symm, upd_ne bp.symm, upd_ne bp.symm, upd_ne bp.symm, upd_ne bp.symm, upd_ne bp.symm, upd_ne bp.symm, upd_ne bp.symm, upd_ne nmb, upd_ne l0b]
      exact hb1
    · rw [upd_ne nmp.symm, upd_ne nmp.symm, upd_ne nmp.symm, upd_ne nmp.symm, upd_ne nmp.symm, upd_ne nmp.symm, upd_ne nmp.symm, upd_ne nmp.symm, upd_same]
      rfl
    · rw [upd_ne hne, upd_ne hne, upd_ne hne, upd_ne hne, upd_ne hne, upd_ne hne, upd_ne hne, upd_ne hne, upd_ne (ne_of_none z hnm0), upd_ne (ne_of_none z hl00), upd_ne hne, upd_ne (ne_of_none z hb)]
      exact z
/-- a new process -/
theorem fresh {D R H H' : Hp} {p dx b nm : Addr} (hp : H p = none) (hd : H dx = none) (sD : Same D H) (sR : Same R H) (dr : ∀ a, R a ≠ none → D a = none) (hb : (upd (upd H dx (.own p)) p (.ins C dx [])) b = none) (hn : (upd (upd H dx (.own p)) p (.ins C dx [])) nm = none) (bn : b ≠ nm)
    (hp' : H' p = some (.ins C dx (pF ⟨b, nm, 0, 0, 0, 0, 0, .non, .non⟩))) (hb' : H' b = some (.lst [])) (hn' : H' nm = some (.lst (List.replicate 10 .non))) (k : ∀ a o, (upd (upd H dx (.own p)) p (.ins C dx [])) a = some o → a ≠ p → H' a = some o) :
    PrB K C D R H' p Ha01.init dx ⟨b, nm, 0, 0, 0, 0, 0, .non, .non⟩ [] (List.replicate 10 .non) ∧ Same H H' := by
  have s : Same H H' := Same.made hp hd k
  have b0 : H b = none := upd_free b (upd_free b hb)
  have n0 : H nm = none := upd_free nm (upd_free nm hn)
  have hnm : NmAt K D Ha01.init.names (List.replicate 10 .non) := by
    refine ⟨rfl, rfl, fun i v o h1 h2 => ?_⟩
    have e1 : v = .non := List.eq_of_mem_replicate (List.mem_of_getElem? h1)
    have e2 : o = none := List.eq_of_mem_replicate (List.mem_of_getElem? (show (List.replicate 10 (none : Option Ha01.Term))[i]? = some o from h2))
    subst e1 e2
    rfl
  exact ⟨⟨hp', hb', hn', bn, sD.trans s, sR.trans s, dr, sD.free hp, sD.free b0, sD.free n0, sR.free hp, sR.free b0, sR.free n0, RefsAt.nil, hnm, ⟨rfl, rfl⟩, rfl, rfl, rfl, rfl, rfl, Nat.zero_le _, Nat.zero_le _⟩, s⟩
/-! what the caller holds -/
def one (q : Addr) (o : HO) : Hp := fun a => if a = q then some o else none
theorem one_at (q : Addr) (o : HO) : one q o q = some o := if_pos rfl
theorem one_ne {q a : Addr} {o : HO} (h : a ≠ q) : one q o a = none := if_neg h
theorem one_some {q a : Addr} {o : HO} (h : one q o a ≠ none) : a = q := by
  by_cases e : a = q
  · exact e
  · exact absurd (one_ne e) h
theorem PrB.hold {D R H : Hp} {p q : Addr} {o : HO} {st : Ha01.St} {dx : Addr} {f : Fl} {as : List Addr} {us : List V} (h : PrB K C D R H p st dx f as us) (q1 : q ≠ p) (q2 : q ≠ f.b) (q3 : q ≠ f.nm) (q4 : D q = none) : PrB K C D (one q o) (upd H q o) p st dx f as us :=
  { h with
    hp := by rw [upd_ne q1.symm]; exact h.hp
    hb := by rw [upd_ne q2.symm]; exact h.hb
    hn := by rw [upd_ne q3.symm]; exact h.hn
    sD := same_but h.sD fun x hx => upd_ne fun z => hx (by rw [z]; exact q4)
    sR := fun a u e => by
      have ea := one_some (some_ne e)
      subst ea
      rw [one_at] at e
      rw [upd_same]
      exact e
    dr := fun a ha => by rw [one_some ha]; exact q4
    Rp := one_ne q1.symm
    Rb := one_ne q2.symm
    Rn := one_ne q3.symm }
theorem PrB.held {D H : Hp} {p q : Addr} {o o' : HO} {st : Ha01.St} {dx : Addr} {f : Fl} {as : List Addr} {us : List V} (h : PrB K C D (one q o) H p st dx f as us) : PrB K C D (one q o') (upd H q o') p st dx f as us :=
  h.hold (fun z => by have := h.Rp; rw [← z, one_at] at this; cases this) (fun z => by have := h.Rb; rw [← z, one_at] at this; cases this) (fun z => by have := h.Rn; rw [← z, one_at] at this; cases this) (h.dr q (some_ne (one_at q o)))
/-! end_of_call -/
structure Tq (K : PySem.W.Frag) (mg : Str → Option Value) (C : Addr) : Prop extends Tz K mg C where
  NUMBERS_BEHIND : ∃ a, mg "NUMBERS_BEHIND" = some (.ref a) ∧ ∀ H : Hp, SqT K H a (vI nbT)
  ROWS_BEHIND : ∃ a, mg "ROWS_BEHIND" = some (.ref a) ∧ ∀ H : Hp, SqT K H a (vI rbT)
def spEndCall (K : PySem.W.Frag) : Sp := fun vs H Q _ => ∃ (a : Addr) (L : List Nat) (i : Nat) (x : Ha01.Call) (r : List Nat), vs = [.ref a, .int (i : Int)] ∧ NL K H a L ∧ L.drop i = flat x ++ r ∧ Q (.int ((i + (flat x).length : Nat) : Int)) H
theorem scEndCall : FnScope ["calls", "start", "number", "end"] ["calls", "start"] (defScope sEndCall) := ⟨rfl, rfl, rfl, by decide +kernel, rfl, by decide +kernel, by decide +kernel⟩
theorem okEndCall {f : Addr} {fd : FuncData} (F : Fun K "end_of_call" "end_of_call" sEndCall f fd) (T : Tq K mg C) : FnOk P w K mg base CX0 1 f fd ["calls", "start"] (spEndCall K) := by
  refine F.ok scEndCall (fun vs H Q E h => ?_) (fun cdv A outer s H vs Q E hr h => ?_)
  · obtain ⟨a, L, i, x, r, rfl, _⟩ := h
    rfl
  · obtain ⟨a, L, i, x, r, rfl, hL, hd, q⟩ := h
    obtain ⟨aN, gN, tN⟩ := T.NUMBERS_BEHIND
    obtain ⟨aR, gR, tR⟩ := T.ROWS_BEHIND
    refine ⟨_, pss_cons (ps_set (i := 2) scEndCall.nd rfl (Or.inl rfl) (pe_ix ix_list (pv 0) (pv 1) (fun _ _ => rfl)))
      (pss_cons (ps_set (i := 3) scEndCall.nd rfl (Or.inl rfl) (pe_op op_add (pe_op op_add (pv 1) pe_int) (pe_ix ix_tup (pe_glob (v := .ref aN) (by rfl) gN rfl) (pv 2) (fun _ _ => rfl))))
      (pss_cons (ps_if (pt_cmpR op_eq (pe_ix ix_tup (pe_glob (v := .ref aR) (by rfl) gR rfl) (pv 2) (fun _ _ => rfl)) pe_int (nomark _)) (pss_one (ps_aug (i := 3) scEndCall.nd rfl (Or.inl rfl) (pe_op op_add pe_int (pe_ix ix_list (pv 0) (pv 3) (fun _ _ => rfl))) ip_add)) pss_nil)
      (pss_one (ps_ret (pv 3))))), ?_⟩
    rw [flat_eq] at hd q
    have e0 : L[i]? = some (kd x) := by rw [← List.head?_drop, hd]; rfl
    refine ⟨_, rfl, _, rfl, a, _, _, _, rfl, rfl, hL, vI_at e0, ?_⟩
    refine ⟨_, rfl, _, _, rfl, rfl, _, rfl, aN, _, _, _, rfl, rfl, tN _, vI_at (nb_at x), _, _, rfl, rfl, ?_⟩
    refine ⟨_, rfl, aR, _, _, _, rfl, rfl, tR _, vI_at (rb_at x), rfl, _, rfl, ?_⟩
    cases hrow : rowOf x with
    | none =>
      rw [hrow] at q
      refine iteF ⟨_, rfl, ?_⟩
      have e : ((i + (kd x :: (argsOf x ++ rowTold none)).length : Nat) : Int) = (i : Int) + 1 + ((argsOf x).length : Nat) := by
        show ((i + ((argsOf x ++ []).length + 1) : Nat) : Int) = _
        rw [List.append_nil]
        omega
      rw [e] at q
      exact q
    | some l =>
      rw [hrow] at q hd
      refine iteT ?_
      have e1 : L[i + 1 + (argsOf x).length]? = some l.length := by
        have : (L.drop i)[1 + (argsOf x).length]? = some l.length := by
          rw [hd, show 1 + (argsOf x).length = (argsOf x).length + 1 by omega]
          show ((argsOf x ++ (l.length :: l)) ++ r)[(argsOf x).length]? = _
          rw [List.append_assoc, List.getElem?_append_right (Nat.le_refl _), Nat.sub_self]
          rfl
        rw [List.getElem?_drop] at this
        rw [show i + 1 + (argsOf x).length = i + (1 + (argsOf x).length) by omega]
        exact this
      have e2 : atI (vI L) ((i : Int) + 1 + ((argsOf x).length : Nat)) = some (V.int (l.length : Int)) := by
        rw [show ((i : Int) + 1 + ((argsOf x).length : Nat)) = ((i + 1 + (argsOf x).length : Nat) : Int) by omega]
        exact vI_at e1
      refine ⟨_, rfl, _, rfl, _, rfl, a, _, _, V.int (l.length : Int), rfl, rfl, hL, e2, _, _, rfl, rfl, _, _, rfl, rfl, _, rfl, ?_⟩
      have e : ((i + (kd x :: (argsOf x ++ rowTold (some l))).length : Nat) : Int) = (i : Int) + 1 + ((argsOf x).length : Nat) + (1 + (l.length : Int)) := by
        show ((i + ((argsOf x ++ (l.length :: l)).length + 1) : Nat) : Int) = _
        rw [List.length_append]
        show ((i + ((argsOf x).length + (l.length + 1) + 1) : Nat) : Int) = _
        omega
      rw [e] at q
      exact q
/-! answers -/
def spAnswer (K : PySem.W.Frag) (C : Addr) : Sp := fun vs H Q _ => ∃ (p c : Addr) (x : Ha01.Call) (D R : Hp) (st : Ha01.St), vs = [.ref p, .ref c] ∧ PrAt K C D R H p st ∧ NL K H c (flat x) ∧ inB x ∧ (stepA st x).2.length ≤ 10000000 ∧ Out K C D R p (stepA st x) Q
def spAns (K : PySem.W.Frag) : Sp := fun vs H Q _ => ∃ (a : Addr) (ns : List Int), vs = [.ref a] ∧ SqL K H a (ns.map V.int) ∧ PyHa01.answers_asked ns = true ∧
  ∀ (H' : Hp) (p : Addr), H' p = some (.lst ((PyHa01.answers ns).map V.int)) → Q (.ref p) H'
theorem ints_vI (l : List Nat) : (Ha01.ints l).map V.int = vI l := by
  unfold Ha01.ints vI
  rw [List.map_map]
  rfl
theorem flat_pos (x : Ha01.Call) : 0 < (flat x).length := by cases x <;> exact Nat.succ_pos _
theorem scAnswers : FnScope ["calls", "process", "answered", "place", "end", "given"] ["calls"] (defScope sAnswers) := ⟨rfl, rfl, rfl, by decide +kernel, rfl, by decide +kernel, by decide +kernel⟩
theorem okAnswers {f fI fE fA : Addr} {fd fdI fdE fdA : FuncData} (F : Fun K "answers" "answers" sAnswers f fd) (T : Tq K mg C) (M : Mk K C fI) (FI : Fun K "__init__" "Process.__init__" sInit fI fdI) (bI : Binds K fdI ["self"] [])
    (DE : Df K mg "end_of_call" sEndCall ["calls", "start"] fE fdE) (DA : Df K mg "answer" sAnswer ["process", "call"] fA fdA) (GA : FnOk P w K mg base CX0 8 fA fdA ["process", "call"] (spAnswer K C)) : FnOk P w K mg base CX0 9 f fd ["calls"] (spAns K) := by
  have GI' : FnOk P w K mg base CX0 1 fI fdI ["self"] (spInit C) := okInit FI T.toTz
  have GE : FnOk P w K mg base CX0 1 fE fdE ["calls", "start"] (spEndCall K) := okEndCall DE.F T
  refine F.ok scAnswers (fun vs H Q E h => ?_) (fun cdv A outer s H vs Q E hr h => ?_)
  · obtain ⟨a, ns, rfl, _⟩ := h
    rfl
  · obtain ⟨a, ns, rfl, hS, hask, k⟩ := h
    have hr1 : Room 1 _ := hr.mono (by decide)
    have hr2 : Room 2 _ := hr.mono (by decide)
    refine ⟨_, pss_cons (ps_set (i := 1) scAnswers.nd rfl (Or.inl rfl) (pe_make0 M GI' hr2 rfl T.gC bI .nil pass0))
      (pss_cons (ps_set (i := 2) scAnswers.nd rfl (Or.inl rfl) (pe_lst pa_nil))
      (pss_cons (ps_set (i := 3) scAnswers.nd rfl (Or.inl rfl) pe_int)
      (pss_cons (ps_while PassesOwn.never (pt_cmpR op_lt (pv 3) (pe_callB call_len_seq (by rfl) T.len PySem.boot_len (pa_cons (pv 0) pa_nil)) (nomark _))
        (pss_cons (ps_if (pt_cmpR op_eq (pe_ix ix_list (pv 0) (pv 3) (fun _ _ => rfl)) (pe_gi T.BEGIN) (nomark _)) (pss_one (ps_set (i := 1) scAnswers.nd rfl (Or.inl rfl) (pe_make0 M GI' hr2 rfl T.gC bI .nil pass0))) pss_nil)
        (pss_cons (ps_set (i := 4) scAnswers.nd rfl (Or.inl rfl) (pe_call GE hr1 (by rfl) DE.g DE.F.kp DE.b .nil pass0 (pa_cons (pv 0) (pa_cons (pv 3) pa_nil))))
        (pss_cons (ps_set (i := 5) scAnswers.nd rfl (Or.inl rfl) (pe_call GA hr (by rfl) DA.g DA.F.kp DA.b .nil pass0 (pa_cons (pv 1) (pa_cons (pe_slice sl_list (pv 0) (po_some (pv 3)) (po_some (pv 4))) pa_nil))))
        (pss_cons (ps_expr (pe_bm PySem.F.plainAttrs_list PySem.F.slot_list_append PySem.F.type_list_append mt_append (pv 2) (pa_cons (pe_callB call_len_seq (by rfl) T.len PySem.boot_len (pa_cons (pv 5) pa_nil)) pa_nil)))
        (pss_cons (ps_expr (pe_bm PySem.F.plainAttrs_list PySem.F.slot_list_extend PySem.F.type_list_extend mt_extend (pv 2) (pa_cons (pv 5) pa_nil)))
        (pss_one (ps_set (i := 3) scAnswers.nd rfl (Or.inl rfl) (pv 4)))))))))
      (pss_one (ps_ret (pv 2)))))), ?_⟩
    obtain ⟨xs, h60, hin, ens, eans, hshort⟩ := asked_inv hask
    generalize eL : xs.flatMap flat = L at ens
    have hL0 : NL K H a L := by
      show SqL K H a (vI L)
      rw [← ints_vI, ← ens]
      exact hS
    rw [eans] at k hshort
    -- process = Process()
    intro p dx np nd ne
    refine ⟨p, dx, rfl, upd_same, fun H1 b nm hb hn bn hp1 hb1 hn1 k1 => ⟨rfl, ?_⟩⟩
    obtain ⟨B1, s1⟩ := fresh (K := K) (C := C) (D := H) (R := fun _ => none) np nd (Same.refl H) (fun a o e => by cases e) (fun a h => absurd rfl h) hb hn bn hp1 hb1 hn1 k1
    -- answered = []
    refine ⟨Nat.zero_le _, fun q hq => ?_⟩
    have B2 : PrB K C H (one q (.lst [])) (upd H1 q (.lst [])) p Ha01.init dx _ _ _ := B1.hold (fun z => by rw [z, B1.hp] at hq; cases hq) (fun z => by rw [z, B1.hb] at hq; cases hq) (fun z => by rw [z, B1.hn] at hq; cases hq) (s1.free hq)
    let Pv : Nat → L2.St → Hp → Prop := fun m σ H' => ∃ (r : List Ha01.Call) (st : Ha01.St) (p : Addr) (acc : List Int) (pl : Nat) (v4 v5 : Option V) (D : Hp), σ = [some (.ref a), some (.ref p), some (.ref q), some (.int (pl : Int)), v4, v5] ∧ m = r.length ∧
      L.drop pl = r.flatMap flat ∧ pl ≤ L.length ∧ (∀ x ∈ r, inB x) ∧ NL K D a L ∧ PrAt K C D (one q (toV acc)) H' p st ∧ acc ++ PyFlat.told (runC st r) = PyFlat.told (runC Ha01.init xs)
    refine ⟨Pv, ⟨_, xs, Ha01.init, p, [], 0, none, none, H, rfl, rfl, eL.symm, Nat.zero_le _, hin, hL0, ⟨dx, _, _, _, B2⟩, rfl⟩, ?_⟩
    rintro m σ H2 ⟨r, st, p2, acc, pl, v4, v5, D, rfl, rfl, hdr, hpl, hir, hLD, ⟨dx2, f2, as2, us2, B⟩, hacc⟩
    have nL := hLD.same B.sD
    refine ⟨_, rfl, _, rfl, a, _, rfl, .inl nL, _, _, rfl, rfl, _, rfl, ?_⟩
    rw [vI_len]
    have hq2 : H2 q = some (toV acc) := B.sR _ _ (one_at _ _)
    cases r with
    | nil =>
      have hge : L.length ≤ pl := by
        have := congrArg List.length hdr
        rw [List.length_drop] at this
        simp at this
        omega
      rw [decide_eq_false (by omega)]
      refine iteF ⟨_, rfl, k H2 q ?_⟩
      rw [hq2, ← hacc]
      show some (toV acc) = some (.lst ((acc ++ []).map V.int))
      rw [List.append_nil]
      rfl
    | cons x r =>
      rw [List.flatMap_cons] at hdr
      have hfp := flat_pos x
      have hlen : L.length - pl = (flat x).length + (r.flatMap flat).length := by rw [← List.length_drop, hdr, List.length_append]
      rw [decide_eq_true (by omega)]
      refine iteT ⟨fun σ' H' => ∃ m', m' < r.length + 1 ∧ Pv m' σ' H', fun _ _ z => z, ?_⟩
      have e0 : L[pl]? = some (kd x) := by
        rw [← List.head?_drop, hdr, flat_eq]
        rfl
      have ex : inB x := hir x (List.mem_cons_self ..)
      rw [show runC st (x :: r) = (Ha01.step st x).2 :: runC (Ha01.step st x).1 r from rfl, told_cons] at hacc
      -- behind the new process, if there is one
      have rest : ∀ (p3 : Addr) (H3 : Hp) (st3 : Ha01.St), PrAt K C D (one q (toV acc)) H3 p3 st3 → stepA st3 x = Ha01.step st x →
          tSeq (tAsg (tCall (spEndCall K) [] E0 (tCons (tVar 0) (tCons (tVar 3) tNil))) (gName 4))
            (tSeq (tAsg (tCall (spAnswer K C) [] E0 (tCons (tVar 1) (tCons (tSl (rSlL K) (tVar 0) (tPart (tVar 3)) (tPart (tVar 4))) tNil))) (gName 5))
            (tSeq (tDrop (tBM K "list" rAppend (tVar 2) (tCons (tCB (fun xs H Q => ∃ p ys, xs = [V.ref p] ∧ (SqL K H p ys ∨ SqT K H p ys) ∧ Q (V.int ys.length) H) (tCons (tVar 5) tNil)) tNil)))
            (tSeq (tDrop (tBM K "list" rExtend (tVar 2) (tCons (tVar 5) tNil)))
            (tAsg (tVar 4) (gName 3)))))
            { nx := fun σ' H' => ∃ m', m' < r.length + 1 ∧ Pv m' σ' H', rt := Q, ct := fun σ' H' => ∃ m', m' < r.length + 1 ∧ Pv m' σ' H', bk := tRet (tVar 2) { nx := fun _ H' => Q .non H', rt := Q } }
            [some (.ref a), some (.ref p3), some (.ref q), some (.int (pl : Int)), v4, v5] H3 := by
        intro p3 H3 st3 PA3 est
        obtain ⟨dx3, f3, as3, us3, B3⟩ := PA3
        have nL3 := hLD.same B3.sD
        refine ⟨_, rfl, _, rfl, a, L, pl, x, r.flatMap flat, rfl, nL3, hdr, ?_⟩
        refine ⟨_, rfl, _, rfl, _, rfl, _, rfl, _, rfl, _, rfl, a, _, rfl, nL3, fun cl hcl => ?_⟩
        have ec : cutV (vI L) (some (pl : Int)) (some ((pl + (flat x).length : Nat) : Int)) = vI (flat x) := by
          rw [cut_vI _ _ _ hpl, hdr, show pl + (flat x).length - pl = (flat x).length by omega, List.take_left]
        rw [ec]
        have s4 : Same H3 (upd H3 cl (.lst (vI (flat x)))) := Same.new hcl
        refine ⟨p3, cl, x, D, one q (toV acc), st3, rfl, ⟨dx3, f3, as3, us3, B3.grow s4⟩, SqL.of upd_same, ex, ?_, ?_⟩
        · rw [est]
          have hl := congrArg List.length hacc
          rw [List.length_append, List.length_append] at hl
          have h2 : (((Ha01.step st x).2.length : Int) :: (Ha01.step st x).2).length = (Ha01.step st x).2.length + 1 := rfl
          omega
        rw [est]
        intro D5 H5 y sD5 PA5 hy hRy
        obtain ⟨dx5, f5, as5, us5, B5⟩ := PA5
        have hq5 : H5 q = some (toV acc) := B5.sR _ _ (one_at _ _)
        have yq : y ≠ q := fun z => by rw [z, one_at] at hRy; cases hRy
        generalize ez : (Ha01.step st x).2 = z at hy hacc
        have hbound : acc.length + (z.length + 1) ≤ 10000000 := by
          have := congrArg List.length hacc
          rw [List.length_append, List.length_append] at this
          have h2 : ((z.length : Int) :: z).length = z.length + 1 := rfl
          omega
        have hsize : 10000000 < sizeLine := by decide
        refine ⟨_, rfl, .inl ⟨rfl, _, SqL.of hq5⟩, _, rfl, y, _, rfl, .inl (SqL.of hy), q, _, _, rfl, rfl, hq5, (by rw [List.length_map]; omega), ?_⟩
        have hy6 : (upd H5 q (.lst (acc.map V.int ++ [V.int (((z.map V.int).length : Nat) : Int)]))) y = some (toV z) := by rw [upd_ne yq]; exact hy
        refine ⟨_, rfl, .inl ⟨rfl, _, SqL.of upd_same⟩, _, rfl, q, y, _, _, rfl, rfl, upd_same, hy6, (by rw [List.length_append, List.length_map, List.length_map]; show acc.length + 1 + z.length ≤ sizeLine; omega), ?_⟩
        refine ⟨_, rfl, ?_⟩
        refine ⟨r.length, by omega, r, (Ha01.step st x).1, p3, acc ++ ((z.length : Int) :: z), pl + (flat x).length, _, _, D5, rfl, rfl, ?_, by omega, fun y hy => hir y (List.mem_cons_of_mem _ hy), hLD.same sD5, ?_, ?_⟩
        · rw [← List.drop_drop, hdr, List.drop_left]
        · have e9 : HO.lst ((acc.map V.int ++ [V.int (((z.map V.int).length : Nat) : Int)]) ++ z.map V.int) = toV (acc ++ ((z.length : Int) :: z)) := by
            unfold toV
            rw [List.length_map, List.map_append, List.map_cons, List.append_assoc]
            rfl
          rw [e9]
          exact ⟨dx5, f5, as5, us5, (B5.held (o' := .lst (acc.map V.int ++ [V.int (((z.map V.int).length : Nat) : Int)]))).held⟩
        · rw [List.append_assoc]
          exact hacc
      refine ⟨_, rfl, _, rfl, a, _, _, _, rfl, rfl, nL, vI_at e0, rfl, _, rfl, ?_⟩
      by_cases c0 : kd x = 0
      · rw [decide_eq_true (by rw [c0]; rfl)]
        have hx := kd_zero c0
        refine iteT ?_
        intro p3 dx3 np3 nd3 ne3
        refine ⟨p3, dx3, rfl, upd_same, fun H3 b3 nm3 hb3 hn3 bn3 hp3 hb3' hn3' k3 => ⟨rfl, ?_⟩⟩
        obtain ⟨B3, s3⟩ := fresh (K := K) (C := C) (D := D) (R := one q (toV acc)) np3 nd3 B.sD B.sR B.dr hb3 hn3 bn3 hp3 hb3' hn3' k3
        exact rest p3 H3 Ha01.init ⟨dx3, _, _, _, B3⟩ (by rw [hx]; rfl)
      · rw [decide_eq_false (by intro z; have := V.int.inj z; omega)]
        exact iteF (rest p2 H2 st ⟨dx2, f2, as2, us2, B⟩ (stepA_else st c0))
end
end Pk

set_option Elab.async false
set_option linter.all false
set_option maxRecDepth 100000
set_option maxHeartbeats 2000000
/-! process.py: token, names, forget, box, counts -/
namespace Pk
open PySem PySem.Spec PyProof.Rows L2
/-- what stands for a name -/
def nt (o : Option Ha01.Term) : List Nat := match o with
  | some t => Ha01.told t
  | none => [9]
theorem fm_take {α β : Type} (f : α → List β) (l : List α) (i : Nat) : ((l.take i).flatMap f).length ≤ (l.flatMap f).length := by
  have e : l.flatMap f = (l.take i).flatMap f ++ (l.drop i).flatMap f := by rw [← List.flatMap_append, List.take_append_drop]
  rw [e, List.length_append]
  omega
theorem fm_more {α β : Type} (f : α → List β) {l : List α} {i : Nat} {x : α} (h : l[i]? = some x) : (l.take (i + 1)).flatMap f = (l.take i).flatMap f ++ f x := by
  rw [take_more h, List.flatMap_append, List.flatMap_cons, List.flatMap_nil, List.append_nil]
section
variable {P : Program} {w : World} {K : PySem.W.Frag} {mg : Str → Option Value} {base : Heap} {C : Addr}
/-! make_token -/
def spToken (K : PySem.W.Frag) (C : Addr) : Sp := fun vs H Q _ => ∃ (p : Addr) (D R : Hp) (st : Ha01.St), vs = [.ref p] ∧ PrAt K C D R H p st ∧ Out K C D R p (Ha01.step st .token) Q
theorem scToken : FnScope ["self"] ["self"] (defScope sToken) := ⟨rfl, rfl, rfl, by decide +kernel, rfl, by decide +kernel, by decide +kernel⟩
theorem okToken {f : Addr} {fd : FuncData} (F : Fun K "make_token" "Process.make_token" sToken f fd) (T : Tz K mg C) : FnOk P w K mg base CX0 1 f fd ["self"] (spToken K C) := by
  refine F.ok scToken (fun vs H Q E h => ?_) (fun cdv A outer s H vs Q E hr h => ?_)
  · obtain ⟨p, D, R, st, rfl, _⟩ := h
    rfl
  · obtain ⟨p, D, R, st, rfl, ⟨dx, fl, as, us, B⟩, k⟩ := h
    obtain ⟨aH, gH, tH⟩ := T.HIGHEST
    refine ⟨_, pss_cons (ps_if (pt_cmpR op_notN (pe_fld (pv 0) rfl) pe_non (nomark _)) (pss_one (ps_ret (pe_lst (pa_cons (pe_gi T.WRONG_TIME) pa_nil)))) pss_nil)
      (pss_cons (ps_if (pt_cmpR op_gt (pe_fld (pv 0) rfl) (pe_ix ix_tup (pe_glob (v := .ref aH) (by rfl) gH rfl) (pe_gi T.TOKEN) (fun _ _ => rfl)) (nomark _)) (pss_one (ps_ret (pe_lst (pa_cons (pe_gi T.TOO_MANY) pa_nil)))) pss_nil)
      (pss_cons (ps_fldaug (pv 0) pe_int in_add)
      (pss_cons (ps_fld (pv 0) (pe_callB call_len_seq (by rfl) T.len PySem.boot_len (pa_cons (pe_fld (pv 0) rfl) pa_nil)) rfl)
      (pss_one (ps_ret (pe_lst (pa_cons (pe_op op_sub (pe_fld (pv 0) rfl) pe_int) pa_nil))))))), ?_⟩
    have h2 : atI (vI [1000000, 99, 1000, 8, 0, 9]) 2 = some (V.int ((1000 : Nat) : Int)) := rfl
    refine ⟨_, rfl, p, C, dx, _, _, rfl, B.hp, T.cl, T.nclauses, pF_clauses fl, rfl, _, rfl, ?_⟩
    have hw := B.wait
    unfold Ha01.step at k
    dsimp only at k
    cases cw : st.wait with
    | some wt =>
      rw [cw] at hw k
      obtain ⟨⟨c, ec, _⟩, _⟩ := hw
      rw [ec]
      exact iteT ⟨(by show 1 ≤ sizeLine; decide), fun r hr' => k.give (Same.refl D) B hr'⟩
    | none =>
      rw [cw] at hw k
      rw [hw.1]
      rw [if_neg (by decide)] at k
      refine iteF ⟨_, rfl, p, C, dx, _, _, rfl, B.hp, T.cl, T.nmade, pF_made fl, aH, _, 2, _, rfl, rfl, tH _, h2, _, _, rfl, rfl, _, rfl, ?_⟩
      rw [B.made]
      by_cases c1 : 1000 < st.tokens
      · rw [decide_eq_true (by omega)]
        rw [if_pos c1] at k
        exact iteT ⟨(by show 1 ≤ sizeLine; decide), fun r hr' => k.give (Same.refl D) B hr'⟩
      · rw [decide_eq_false (by omega)]
        rw [if_neg c1] at k
        refine iteF ⟨_, rfl, p, C, dx, _, _, rfl, B.hp, T.cl, T.nmade, pF_made fl, _, _, rfl, rfl, dx, _, B.hp, (by show 9 < 1000; decide), ?_⟩
        rw [show V.int (((fl.made : Nat) : Int) + 1) = V.int ((fl.made + 1 : Nat) : Int) from rfl, pF_put_made]
        have hb1 : (upd H p (.ins C dx (pF { fl with made := fl.made + 1 }))) fl.b = some (.lst (as.map V.ref)) := by rw [upd_ne B.pb]; exact B.hb
        refine ⟨_, rfl, p, C, dx, _, _, rfl, upd_same, T.cl, T.nbox, pF_box _, fl.b, _, rfl, .inl (SqL.of hb1), _, rfl, p, C, dx, _, rfl, upd_same, T.cl, T.nmark, (by show 9 < 1000; decide), ?_⟩
        rw [List.length_map, B.box.len, pF_put_mark]
        refine ⟨_, rfl, p, C, dx, _, _, rfl, upd_same, T.cl, T.nmade, pF_made _, _, _, rfl, rfl, (by show 1 ≤ sizeLine; decide), fun r hr' => ?_⟩
        have e : HO.lst [V.int (((fl.made + 1 : Nat) : Int) - 1)] = toV (Ha01.ints [st.tokens]) := by
          rw [B.made]
          show HO.lst [V.int (((st.tokens + 1 : Nat) : Int) - 1)] = HO.lst [V.int ((st.tokens : Nat) : Int)]
          congr 3
          omega
        have B2 : PrB K C D R (upd (upd H p (.ins C dx (pF { fl with made := fl.made + 1 }))) p (.ins C dx (pF { fl with made := fl.made + 1, mark := st.box.length }))) p { st with tokens := st.tokens + 1, marked := st.box.length } dx { fl with made := fl.made + 1, mark := st.box.length } as us :=
          { B with
            hp := upd_same
            hb := by rw [upd_ne B.pb, upd_ne B.pb]; exact B.hb
            hn := by rw [upd_ne B.pn, upd_ne B.pn]; exact B.hn
            sD := same_but B.sD fun x hx => by rw [upd_ne fun z => hx (by rw [z]; exact B.Dp), upd_ne fun z => hx (by rw [z]; exact B.Dp)]
            sR := same_but B.sR fun x hx => by rw [upd_ne fun z => hx (by rw [z]; exact B.Rp), upd_ne fun z => hx (by rw [z]; exact B.Rp)]
            made := congrArg (· + 1) B.made
            mark := rfl
            toks := by show st.tokens + 1 ≤ 1001; omega }
        have := k.give (Same.refl D) (B2.cast rfl rfl cw.symm rfl rfl rfl rfl rfl) hr'
        rw [← e] at this
        exact this
/-! names_told -/
def spNames (K : PySem.W.Frag) (C : Addr) : Sp := fun vs H Q _ => ∃ (p : Addr) (D R : Hp) (st : Ha01.St), vs = [.ref p] ∧ PrAt K C D R H p st ∧ (Ha01.step st .names).2.length ≤ 10000000 ∧ Out K C D R p (Ha01.step st .names) Q
theorem scNames : FnScope ["self", "told", "value"] ["self"] (defScope sNames) := ⟨rfl, rfl, rfl, by decide +kernel, rfl, by decide +kernel, by decide +kernel⟩
theorem okNames {f : Addr} {fd : FuncData} (F : Fun K "names_told" "Process.names_told" sNames f fd) (T : Tz K mg C) : FnOk P w K mg base CX0 1 f fd ["self"] (spNames K C) := by
  refine F.ok scNames (fun vs H Q E h => ?_) (fun cdv A outer s H vs Q E hr h => ?_)
  · obtain ⟨p, D, R, st, rfl, _⟩ := h
    rfl
  · obtain ⟨p, D, R, st, rfl, ⟨dx, fl, as, us, B⟩, hlen, k⟩ := h
    refine ⟨_, pss_cons (ps_set (i := 1) scNames.nd rfl (Or.inl rfl) (pe_lst pa_nil))
      (pss_cons (ps_for PassesOwn.never rfl (pi_list (pe_fld (pv 0) rfl)) (pg_name (i := 2) scNames.nd rfl (Or.inl rfl))
        (pss_one (ps_expr (pe_bm PySem.F.plainAttrs_list PySem.F.slot_list_extend PySem.F.type_list_extend mt_extend (pv 1) (pa_cons (pe_ifExp (pt_cmpR op_isN (pv 2) pe_non (nomark _)) (pe_lst (pa_cons (pe_gi T.NO_VALUE) pa_nil)) (pv 2)) pa_nil)))))
      (pss_one (ps_ret (pv 1)))), ?_⟩
    have es : Ha01.step st .names = (st, Ha01.ints (st.names.flatMap nt)) := rfl
    rw [es] at hlen k
    have hlen' : (st.names.flatMap nt).length ≤ 10000000 := by
      rw [← ints_len]
      exact hlen
    refine ⟨Nat.zero_le _, fun q hq => ?_⟩
    have s1 : Same H (upd H q (.lst [])) := Same.new hq
    have B1 := B.grow s1
    refine ⟨_, rfl, p, C, dx, _, _, rfl, B1.hp, T.cl, T.nnames, pF_names fl, fl.nm, rfl, ⟨us, SqL.of B1.hn⟩, ?_⟩
    refine for_list (xs := us) (fun i σ H' => ∃ v : Option V, σ = [some (.ref p), some (.ref q), v] ∧ Same H H' ∧ H' q = some (.lst (vI ((st.names.take i).flatMap nt)))) ⟨none, rfl, s1, upd_same⟩ ?_ ?_ ?_
    · rintro i σ H' _ ⟨v, rfl, s2, _⟩
      exact SqL.of (s2 _ _ B.hn)
    · rintro i x σ H2 hx ⟨v, rfl, s2, hq2⟩
      obtain ⟨o, ho⟩ : ∃ o, st.names[i]? = some o := ⟨_, List.getElem?_eq_getElem (by rw [B.names.len, ← B.names.vlen]; exact (List.getElem?_eq_some_iff.mp hx).1)⟩
      have hv := B.names.at_ i x o hx ho
      have hle := fm_take nt st.names (i + 1)
      rw [fm_more nt ho, List.length_append] at hle
      have hsz : 10000000 < sizeLine := by decide
      have stay : ∀ H3, Same H2 H3 → ∀ z, Same H (upd H3 q z) := fun H3 s3 z b u e => by
        rw [upd_ne (ne_of_none e hq)]
        exact s3 _ _ (s2 _ _ e)
      cases o with
      | none =>
        cases (show x = .non from hv)
        refine ⟨_, rfl, .inl ⟨rfl, _, SqL.of hq2⟩, _, rfl, rfl, _, rfl, iteT ⟨(by show 1 ≤ sizeLine; decide), fun l hl => ?_⟩⟩
        have s3 : Same H2 (upd H2 l (.lst [V.int 9])) := Same.new hl
        refine ⟨q, l, _, _, rfl, rfl, s3 _ _ hq2, upd_same, ?_, ?_⟩
        · rw [vI_len]
          show ((st.names.take i).flatMap nt).length + 1 ≤ sizeLine
          have : (nt none).length = 1 := rfl
          omega
        · refine ⟨_, rfl, stay _ s3 _, ?_⟩
          rw [upd_same, fm_more nt ho, vI_app]
          rfl
      | some t =>
        obtain ⟨a, rfl, hn, _⟩ := hv
        have ha : H2 a = some (.lst (vI (Ha01.told t))) := s2 _ _ (B.sD _ _ hn)
        refine ⟨_, rfl, .inl ⟨rfl, _, SqL.of hq2⟩, _, rfl, rfl, _, rfl, iteF ⟨_, rfl, ?_⟩⟩
        refine ⟨q, a, _, _, rfl, rfl, hq2, ha, ?_, ?_⟩
        · rw [vI_len, vI_len]
          have : (nt (some t)).length = (Ha01.told t).length := rfl
          omega
        · refine ⟨_, rfl, stay _ (Same.refl _) _, ?_⟩
          rw [upd_same, fm_more nt ho, vI_app]
          rfl
    · rintro σ H2 ⟨v, rfl, s2, hq2⟩
      rw [B.names.vlen, ← B.names.len, List.take_length] at hq2
      refine ⟨_, rfl, k D H2 q (Same.refl D) ⟨dx, fl, as, us, B.grow s2⟩ ?_ (B.sR.free hq)⟩
      rw [hq2]
      show _ = some (HO.lst ((Ha01.ints _).map V.int))
      rw [ints_vI]
/-! forget -/
def spForget (K : PySem.W.Frag) (C : Addr) : Sp := fun vs H Q _ => ∃ (p : Addr) (n : Nat) (D R : Hp) (st : Ha01.St), vs = [.ref p, .int (n : Int)] ∧ PrAt K C D R H p st ∧ Out K C D R p (Ha01.step st (.forget n)) Q
theorem scForget : FnScope ["self", "name", "had_value"] ["self", "name"] (defScope sForget) := ⟨rfl, rfl, rfl, by decide +kernel, rfl, by decide +kernel, by decide +kernel⟩
theorem okForget {f : Addr} {fd : FuncData} (F : Fun K "forget" "Process.forget" sForget f fd) (T : Tz K mg C) : FnOk P w K mg base CX0 1 f fd ["self", "name"] (spForget K C) := by
  refine F.ok scForget (fun vs H Q E h => ?_) (fun cdv A outer s H vs Q E hr h => ?_)
  · obtain ⟨p, n, D, R, st, rfl, _⟩ := h
    rfl
  · obtain ⟨p, n, D, R, st, rfl, ⟨dx, fl, as, us, B⟩, k⟩ := h
    obtain ⟨aH, gH, tH⟩ := T.HIGHEST
    refine ⟨_, pss_cons (ps_if (pt_cmpR op_notN (pe_fld (pv 0) rfl) pe_non (nomark _)) (pss_one (ps_ret (pe_lst (pa_cons (pe_gi T.WRONG_TIME) pa_nil)))) pss_nil)
      (pss_cons (ps_if (pt_cmpR op_gt (pv 1) (pe_ix ix_tup (pe_glob (v := .ref aH) (by rfl) gH rfl) (pe_gi T.NAME) (fun _ _ => rfl)) (nomark _)) (pss_one (ps_ret (pe_lst (pa_cons (pe_gi T.WRONGLY_TOLD) pa_nil)))) pss_nil)
      (pss_cons (ps_set (i := 2) scForget.nd rfl (Or.inl rfl) (pe_cmpR op_notN (pe_ix ix_list (pe_fld (pv 0) rfl) (pv 1) (fun _ _ => rfl)) pe_non (nomark _)))
      (pss_cons (ps_asg pe_non (pg_sub (pe_fld (pv 0) rfl) (pv 1) set_list))
      (pss_one (ps_ret (pe_lst (pa_cons (pe_ifExp (pt_val (pv 2)) pe_int pe_int) pa_nil))))))), ?_⟩
    have h9 : atI (vI [1000000, 99, 1000, 8, 0, 9]) 5 = some (V.int ((9 : Nat) : Int)) := rfl
    refine ⟨_, rfl, p, C, dx, _, _, rfl, B.hp, T.cl, T.nclauses, pF_clauses fl, rfl, _, rfl, ?_⟩
    have hw := B.wait
    unfold Ha01.step at k
    dsimp only at k
    cases cw : st.wait with
    | some wt =>
      rw [cw] at hw k
      obtain ⟨⟨c, ec, _⟩, _⟩ := hw
      rw [ec]
      exact iteT ⟨(by show 1 ≤ sizeLine; decide), fun r hr' => k.give (Same.refl D) B hr'⟩
    | none =>
      rw [cw] at hw k
      rw [hw.1]
      rw [if_neg (by decide)] at k
      refine iteF ⟨_, rfl, aH, _, 5, _, rfl, rfl, tH _, h9, _, _, rfl, rfl, _, rfl, ?_⟩
      by_cases c1 : 9 < n
      · rw [decide_eq_true (by omega)]
        rw [if_pos c1] at k
        exact iteT ⟨(by show 1 ≤ sizeLine; decide), fun r hr' => k.give (Same.refl D) B hr'⟩
      · rw [decide_eq_false (by omega)]
        rw [if_neg c1] at k
        obtain ⟨v, hv, hN⟩ := B.names.get (show n ≤ 9 by omega)
        have hvl : n < us.length := (List.getElem?_eq_some_iff.mp hv).1
        refine iteF ⟨_, rfl, p, C, dx, _, _, rfl, B.hp, T.cl, T.nnames, pF_names fl, _, rfl, fl.nm, _, _, _, rfl, rfl, SqL.of B.hn, atI_nat hv, rfl, ?_⟩
        refine ⟨_, rfl, p, C, dx, _, _, rfl, B.hp, T.cl, T.nnames, pF_names fl, _, rfl, fl.nm, _, _, n, rfl, rfl, B.hn, (by unfold ixN; rw [if_pos (by omega), if_pos (by omega), Int.toNat_natCast]), ?_⟩
        have B2 : PrB K C D R (upd H fl.nm (.lst (us.set n .non))) p { st with names := st.names.set n none } dx fl as (us.set n .non) :=
          { B with
            hp := by rw [upd_ne B.pn.symm]; exact B.hp
            hb := by rw [upd_ne B.bn]; exact B.hb
            hn := upd_same
            sD := same_but B.sD fun x hx => upd_ne fun z => hx (by rw [z]; exact B.Dn)
            sR := same_but B.sR fun x hx => upd_ne fun z => hx (by rw [z]; exact B.Rn)
            names := B.names.set (i := n) (v := .non) (o := none) rfl }
        cases cval : Ha01.valueOf st.names n with
        | none =>
          rw [cval] at hN k
          cases (show v = .non from hN)
          exact ⟨_, rfl, _, rfl, iteF ⟨(by show 1 ≤ sizeLine; decide), fun r hr' => k.give (Same.refl D) (B2.cast rfl rfl cw.symm rfl rfl rfl rfl rfl) hr'⟩⟩
        | some t =>
          rw [cval] at hN k
          obtain ⟨a, rfl, _⟩ := hN
          exact ⟨_, rfl, _, rfl, iteT ⟨(by show 1 ≤ sizeLine; decide), fun r hr' => k.give (Same.refl D) (B2.cast rfl rfl cw.symm rfl rfl rfl rfl rfl) hr'⟩⟩
/-! box_told -/
def spBox (K : PySem.W.Frag) (C : Addr) : Sp := fun vs H Q _ => ∃ (p : Addr) (D R : Hp) (st : Ha01.St), vs = [.ref p] ∧ PrAt K C D R H p st ∧ (Ha01.step st .box).2.length ≤ 10000000 ∧ Out K C D R p (Ha01.step st .box) Q
theorem scBox : FnScope ["self", "told", "letter"] ["self"] (defScope sBox) := ⟨rfl, rfl, rfl, by decide +kernel, rfl, by decide +kernel, by decide +kernel⟩
theorem okBox {f : Addr} {fd : FuncData} (F : Fun K "box_told" "Process.box_told" sBox f fd) (T : Tz K mg C) : FnOk P w K mg base CX0 1 f fd ["self"] (spBox K C) := by
  refine F.ok scBox (fun vs H Q E h => ?_) (fun cdv A outer s H vs Q E hr h => ?_)
  · obtain ⟨p, D, R, st, rfl, _⟩ := h
    rfl
  · obtain ⟨p, D, R, st, rfl, ⟨dx, fl, as, us, B⟩, hlen, k⟩ := h
    refine ⟨_, pss_cons (ps_set (i := 1) scBox.nd rfl (Or.inl rfl) (pe_lst (pa_cons (pe_callB call_len_seq (by rfl) T.len PySem.boot_len (pa_cons (pe_fld (pv 0) rfl) pa_nil)) pa_nil)))
      (pss_cons (ps_for PassesOwn.never rfl (pi_list (pe_fld (pv 0) rfl)) (pg_name (i := 2) scBox.nd rfl (Or.inl rfl))
        (pss_one (ps_expr (pe_bm PySem.F.plainAttrs_list PySem.F.slot_list_extend PySem.F.type_list_extend mt_extend (pv 1) (pa_cons (pv 2) pa_nil)))))
      (pss_one (ps_ret (pv 1)))), ?_⟩
    have es : Ha01.step st .box = (st, Ha01.ints (st.box.length :: st.box.flatMap Ha01.told)) := rfl
    rw [es] at hlen k
    have hlen' : (st.box.flatMap Ha01.told).length + 1 ≤ 10000000 := by
      rw [ints_len] at hlen
      exact hlen
    refine ⟨_, rfl, p, C, dx, _, _, rfl, B.hp, T.cl, T.nbox, pF_box fl, fl.b, _, rfl, .inl (SqL.of B.hb), (by show 1 ≤ sizeLine; decide), fun q hq => ?_⟩
    rw [List.length_map, B.box.len]
    have s1 : Same H (upd H q (.lst [V.int ((st.box.length : Nat) : Int)])) := Same.new hq
    have B1 := B.grow s1
    refine ⟨_, rfl, p, C, dx, _, _, rfl, B1.hp, T.cl, T.nbox, pF_box fl, fl.b, rfl, ⟨_, SqL.of B1.hb⟩, ?_⟩
    refine for_list (xs := as.map V.ref) (fun i σ H' => ∃ v : Option V, σ = [some (.ref p), some (.ref q), v] ∧ Same H H' ∧ H' q = some (.lst (vI (st.box.length :: (st.box.take i).flatMap Ha01.told)))) ⟨none, rfl, s1, upd_same⟩ ?_ ?_ ?_
    · rintro i σ H' _ ⟨v, rfl, s2, _⟩
      exact SqL.of (s2 _ _ B.hb)
    · rintro i x σ H2 hx ⟨v, rfl, s2, hq2⟩
      obtain ⟨a, ha, rfl⟩ := refs_get hx
      obtain ⟨t, ht⟩ : ∃ t, st.box[i]? = some t := ⟨_, List.getElem?_eq_getElem (by rw [← B.box.len]; exact (List.getElem?_eq_some_iff.mp ha).1)⟩
      obtain ⟨hn, _⟩ := B.box.at_ i a t ha ht
      have hle := fm_take Ha01.told st.box (i + 1)
      rw [fm_more Ha01.told ht, List.length_append] at hle
      have hsz : 10000000 < sizeLine := by decide
      have ha2 : H2 a = some (.lst (vI (Ha01.told t))) := s2 _ _ (B.sD _ _ hn)
      refine ⟨_, rfl, .inl ⟨rfl, _, SqL.of hq2⟩, _, rfl, q, a, _, _, rfl, rfl, hq2, ha2, ?_, ?_⟩
      · rw [vI_len, vI_len, List.length_cons]
        omega
      · refine ⟨_, rfl, fun b u e => ?_, ?_⟩
        · rw [upd_ne (ne_of_none e hq)]
          exact s2 _ _ e
        · rw [upd_same, fm_more Ha01.told ht, ← vI_app]
          rfl
    · rintro σ H2 ⟨v, rfl, s2, hq2⟩
      rw [List.length_map, B.box.len, List.take_length] at hq2
      refine ⟨_, rfl, k D H2 q (Same.refl D) ⟨dx, fl, as, us, B.grow s2⟩ ?_ (B.sR.free hq)⟩
      rw [hq2]
      show _ = some (HO.lst ((Ha01.ints _).map V.int))
      rw [ints_vI]
/-! counts_told -/
def spCounts (K : PySem.W.Frag) (C : Addr) : Sp := fun vs H Q _ => ∃ (p : Addr) (D R : Hp) (st : Ha01.St), vs = [.ref p] ∧ PrAt K C D R H p st ∧ Out K C D R p (Ha01.step st .counts) Q
theorem scCounts : FnScope ["self"] ["self"] (defScope sCounts) := ⟨rfl, rfl, rfl, by decide +kernel, rfl, by decide +kernel, by decide +kernel⟩
theorem okCounts {f : Addr} {fd : FuncData} (F : Fun K "counts_told" "Process.counts_told" sCounts f fd) (T : Tz K mg C) : FnOk P w K mg base CX0 1 f fd ["self"] (spCounts K C) := by
  refine F.ok scCounts (fun vs H Q E h => ?_) (fun cdv A outer s H vs Q E hr h => ?_)
  · obtain ⟨p, D, R, st, rfl, _⟩ := h
    rfl
  · obtain ⟨p, D, R, st, rfl, ⟨dx, fl, as, us, B⟩, k⟩ := h
    refine ⟨_, pss_one (ps_ret (pe_lst (pa_cons (pe_fld (pv 0) rfl) (pa_cons (pe_fld (pv 0) rfl) (pa_cons (pe_fld (pv 0) rfl) (pa_cons (pe_ifExp (pt_cmpR op_isN (pe_fld (pv 0) rfl) pe_non (nomark _)) pe_int pe_int) pa_nil)))))), ?_⟩
    refine ⟨_, rfl, p, C, dx, _, _, rfl, B.hp, T.cl, T.nsent, pF_sent fl, _, rfl, p, C, dx, _, _, rfl, B.hp, T.cl, T.ntaken, pF_taken fl, _, rfl, p, C, dx, _, _, rfl, B.hp, T.cl, T.nlooked, pF_looked fl, _, rfl, p, C, dx, _, _, rfl, B.hp, T.cl, T.nclauses, pF_clauses fl, rfl, _, rfl, ?_⟩
    have hw := B.wait
    have es : Ha01.step st .counts = (st, Ha01.ints [st.sent, st.taken, st.looked, if st.wait.isSome = true then 1 else 0]) := rfl
    rw [es] at k
    rw [B.sent, B.taken, B.looked]
    cases cw : st.wait with
    | none =>
      rw [cw] at hw k
      rw [hw.1]
      exact iteT ⟨(by show 4 ≤ sizeLine; decide), fun r hr' => k.give (Same.refl D) B hr'⟩
    | some wt =>
      rw [cw] at hw k
      obtain ⟨⟨c, ec, _⟩, _⟩ := hw
      rw [ec]
      exact iteF ⟨(by show 4 ≤ sizeLine; decide), fun r hr' => k.give (Same.refl D) B hr'⟩
end
end Pk

set_option Elab.async false
set_option linter.all false
set_option maxRecDepth 100000
set_option maxHeartbeats 2000000
/-! process.py: one call -/
namespace Pk
open PySem PySem.Spec PyProof.Rows L2
section
variable {P : Program} {w : World} {K : PySem.W.Frag} {mg : Str → Option Value} {base : Heap} {C : Addr}
theorem Out.mono {D D' R : Hp} {p : Addr} {r : Ha01.St × List Int} {Q : VK} (k : Out K C D R p r Q) (s : Same D D') : Out K C D' R p r Q := fun D2 H2 x s2 => k D2 H2 x (s.trans s2)
theorem scAnswer : FnScope ["process", "call", "number"] ["process", "call"] (defScope sAnswer) := ⟨rfl, rfl, rfl, by decide +kernel, rfl, by decide +kernel, by decide +kernel⟩
theorem okAnswer {f fS fR fT fH fM fN fG fB fC : Addr} {fd fdS fdR fdT fdH fdM fdN fdG fdB fdC : FuncData} (F : Fun K "answer" "answer" sAnswer f fd) (T : Tz K mg C)
    (MS : Mt K C "send" "Process.send" sSend ["self", "term"] fS fdS) (GS : FnOk P w K mg base CX0 7 fS fdS ["self", "term"] (spSend K C))
    (MR : Mt K C "receive" "Process.receive" sRecv ["self", "ends", "ticks", "told"] fR fdR) (GR : FnOk P w K mg base CX0 7 fR fdR ["self", "ends", "ticks", "told"] (spRecv K C))
    (MT : Mt K C "pass_ticks" "Process.pass_ticks" sTicks ["self", "n"] fT fdT) (GT : FnOk P w K mg base CX0 2 fT fdT ["self", "n"] (spTicks K C))
    (MH : Mt K C "stop" "Process.stop" sStop ["self"] fH fdH) (GH : FnOk P w K mg base CX0 2 fH fdH ["self"] (spStop K C))
    (MM : Mt K C "make_token" "Process.make_token" sToken ["self"] fM fdM) (MN : Mt K C "names_told" "Process.names_told" sNames ["self"] fN fdN)
    (MG : Mt K C "forget" "Process.forget" sForget ["self", "name"] fG fdG) (MB : Mt K C "box_told" "Process.box_told" sBox ["self"] fB fdB) (MC : Mt K C "counts_told" "Process.counts_told" sCounts ["self"] fC fdC) :
    FnOk P w K mg base CX0 8 f fd ["process", "call"] (spAnswer K C) := by
  have GM : FnOk P w K mg base CX0 1 fM fdM ["self"] (spToken K C) := okToken MM.F T
  have GN : FnOk P w K mg base CX0 1 fN fdN ["self"] (spNames K C) := okNames MN.F T
  have GG : FnOk P w K mg base CX0 1 fG fdG ["self", "name"] (spForget K C) := okForget MG.F T
  have GB : FnOk P w K mg base CX0 1 fB fdB ["self"] (spBox K C) := okBox MB.F T
  have GC : FnOk P w K mg base CX0 1 fC fdC ["self"] (spCounts K C) := okCounts MC.F T
  refine F.ok scAnswer (fun vs H Q E h => ?_) (fun cdv A outer s H vs Q E hr h => ?_)
  · obtain ⟨p, c, x, D, R, st, rfl, _⟩ := h
    rfl
  · obtain ⟨p, c, x, D, R, st, rfl, ⟨dx, fl, as, us, B⟩, hc, hin, hlen, k⟩ := h
    have hr1 : Room 1 _ := hr.mono (by decide)
    have hr2 : Room 2 _ := hr.mono (by decide)
    refine ⟨_, pss_cons (ps_set (i := 2) scAnswer.nd rfl (Or.inl rfl) (pe_ix ix_list (pv 1) pe_int (fun _ _ => rfl)))
      (pss_cons (ps_if (pt_cmpR op_eq (pv 2) (pe_gi T.SEND) (nomark _)) (pss_one (ps_ret (pe_meth (pv 0) T.cl MS.m GS hr MS.b .nil pass0 (pa_cons (pe_slice sl_list (pv 1) (po_some pe_int) po_none) pa_nil)))) pss_nil)
      (pss_cons (ps_if (pt_cmpR op_eq (pv 2) (pe_gi T.RECEIVE) (nomark _)) (pss_one (ps_ret (pe_meth (pv 0) T.cl MR.m GR hr MR.b .nil pass0 (pa_cons (pe_ix ix_list (pv 1) pe_int (fun _ _ => rfl)) (pa_cons (pe_ix ix_list (pv 1) pe_int (fun _ _ => rfl)) (pa_cons (pe_slice sl_list (pv 1) (po_some pe_int) po_none) pa_nil)))))) pss_nil)
      (pss_cons (ps_if (pt_cmpR op_eq (pv 2) (pe_gi T.TICKS) (nomark _)) (pss_one (ps_ret (pe_meth (pv 0) T.cl MT.m GT hr2 MT.b .nil pass0 (pa_cons (pe_ix ix_list (pv 1) pe_int (fun _ _ => rfl)) pa_nil)))) pss_nil)
      (pss_cons (ps_if (pt_cmpR op_eq (pv 2) (pe_gi T.STOP) (nomark _)) (pss_one (ps_ret (pe_meth0 (pv 0) T.cl MH.m GH hr2 MH.b .nil pass0))) pss_nil)
      (pss_cons (ps_if (pt_cmpR op_eq (pv 2) (pe_gi T.MAKE_TOKEN) (nomark _)) (pss_one (ps_ret (pe_meth0 (pv 0) T.cl MM.m GM hr1 MM.b .nil pass0))) pss_nil)
      (pss_cons (ps_if (pt_cmpR op_eq (pv 2) (pe_gi T.TELL_NAMES) (nomark _)) (pss_one (ps_ret (pe_meth0 (pv 0) T.cl MN.m GN hr1 MN.b .nil pass0))) pss_nil)
      (pss_cons (ps_if (pt_cmpR op_eq (pv 2) (pe_gi T.FORGET) (nomark _)) (pss_one (ps_ret (pe_meth (pv 0) T.cl MG.m GG hr1 MG.b .nil pass0 (pa_cons (pe_ix ix_list (pv 1) pe_int (fun _ _ => rfl)) pa_nil)))) pss_nil)
      (pss_cons (ps_if (pt_cmpR op_eq (pv 2) (pe_gi T.TELL_BOX) (nomark _)) (pss_one (ps_ret (pe_meth0 (pv 0) T.cl MB.m GB hr1 MB.b .nil pass0))) pss_nil)
      (pss_cons (ps_if (pt_cmpR op_eq (pv 2) (pe_gi T.TELL_COUNTS) (nomark _)) (pss_one (ps_ret (pe_meth0 (pv 0) T.cl MC.m GC hr1 MC.b .nil pass0))) pss_nil)
      (pss_one (ps_ret (pe_lst (pa_cons (pe_gi T.DONE) pa_nil))))))))))))), ?_⟩
    have e0 : (flat x)[0]? = some (kd x) := by rw [flat_eq]; rfl
    refine ⟨_, rfl, c, _, 0, _, rfl, rfl, hc, vI_at (i := 0) e0, ?_⟩
    cases x with
    | begin_ =>
      iterate 9 (refine ⟨_, rfl, rfl, _, rfl, iteF ?_⟩)
      exact ⟨(by show 1 ≤ sizeLine; decide), fun r hr' => k.give (Same.refl D) B hr'⟩
    | send l =>
      refine ⟨_, rfl, rfl, _, rfl, iteT ⟨_, rfl, p, dx, _, rfl, B.hp, pF_no_send fl, _, rfl, _, rfl, c, _, rfl, hc, fun t ht => ?_⟩⟩
      have ec : cutV (vI (flat (.send l))) (some 2) none = vI l := cut_from (1 :: l.length :: l) 2 (by simp)
      rw [ec]
      have s1 : Same H (upd H t (.lst (vI l))) := Same.new ht
      exact ⟨p, t, l, _, R, st, rfl, ⟨dx, fl, as, us, B.ext s1⟩, Same.newD B.sD t _ (nw_some.mpr ⟨ht, upd_same⟩), k.mono (jn_left _ _)⟩
    | receive e n l =>
      refine ⟨_, rfl, rfl, _, rfl, iteF ?_⟩
      have e1 : (flat (.receive e n l))[1]? = some e := rfl
      have e2 : (flat (.receive e n l))[2]? = some n := rfl
      refine ⟨_, rfl, rfl, _, rfl, iteT ⟨_, rfl, p, dx, _, rfl, B.hp, pF_no_receive fl, _, rfl, c, _, 1, _, rfl, rfl, hc, vI_at (i := 1) e1, _, rfl, c, _, 2, _, rfl, rfl, hc, vI_at (i := 2) e2, _, rfl, _, rfl, c, _, rfl, hc, fun t ht => ?_⟩⟩
      have ec : cutV (vI (flat (.receive e n l))) (some 4) none = vI l := cut_from (2 :: e :: n :: l.length :: l) 4 (by simp)
      rw [ec]
      have s1 : Same H (upd H t (.lst (vI l))) := Same.new ht
      exact ⟨p, t, e, n, l, D, R, st, rfl, ⟨dx, fl, as, us, B.grow s1⟩, SqL.of upd_same, hin, k⟩
    | ticks n =>
      iterate 2 (refine ⟨_, rfl, rfl, _, rfl, iteF ?_⟩)
      have e1 : (flat (.ticks n))[1]? = some n := rfl
      exact ⟨_, rfl, rfl, _, rfl, iteT ⟨_, rfl, p, dx, _, rfl, B.hp, pF_no_pass_ticks fl, _, rfl, c, _, 1, _, rfl, rfl, hc, vI_at (i := 1) e1, p, n, D, R, st, rfl, ⟨dx, fl, as, us, B⟩, k⟩⟩
    | halt_ =>
      iterate 3 (refine ⟨_, rfl, rfl, _, rfl, iteF ?_⟩)
      exact ⟨_, rfl, rfl, _, rfl, iteT ⟨_, rfl, p, dx, _, rfl, B.hp, pF_no_stop fl, p, D, R, st, rfl, ⟨dx, fl, as, us, B⟩, k⟩⟩
    | token =>
      iterate 4 (refine ⟨_, rfl, rfl, _, rfl, iteF ?_⟩)
      exact ⟨_, rfl, rfl, _, rfl, iteT ⟨_, rfl, p, dx, _, rfl, B.hp, pF_no_make_token fl, p, D, R, st, rfl, ⟨dx, fl, as, us, B⟩, k⟩⟩
    | names =>
      iterate 5 (refine ⟨_, rfl, rfl, _, rfl, iteF ?_⟩)
      exact ⟨_, rfl, rfl, _, rfl, iteT ⟨_, rfl, p, dx, _, rfl, B.hp, pF_no_names_told fl, p, D, R, st, rfl, ⟨dx, fl, as, us, B⟩, hlen, k⟩⟩
    | forget n =>
      iterate 6 (refine ⟨_, rfl, rfl, _, rfl, iteF ?_⟩)
      have e1 : (flat (.forget n))[1]? = some n := rfl
      exact ⟨_, rfl, rfl, _, rfl, iteT ⟨_, rfl, p, dx, _, rfl, B.hp, pF_no_forget fl, _, rfl, c, _, 1, _, rfl, rfl, hc, vI_at (i := 1) e1, p, n, D, R, st, rfl, ⟨dx, fl, as, us, B⟩, k⟩⟩
    | box =>
      iterate 7 (refine ⟨_, rfl, rfl, _, rfl, iteF ?_⟩)
      exact ⟨_, rfl, rfl, _, rfl, iteT ⟨_, rfl, p, dx, _, rfl, B.hp, pF_no_box_told fl, p, D, R, st, rfl, ⟨dx, fl, as, us, B⟩, hlen, k⟩⟩
    | counts =>
      iterate 8 (refine ⟨_, rfl, rfl, _, rfl, iteF ?_⟩)
      exact ⟨_, rfl, rfl, _, rfl, iteT ⟨_, rfl, p, dx, _, rfl, B.hp, pF_no_counts_told fl, p, D, R, st, rfl, ⟨dx, fl, as, us, B⟩, k⟩⟩
end
end Pk

set_option Elab.async false
set_option linter.all false
set_option maxRecDepth 100000
namespace Pk
open PySem PySem.Spec PyProof.Rows L2
open PySem.W (Codec)
theorem tup_of {K : PySem.W.Frag} {x : Addr} {xo : Option Addr} {n : Nat} {xs : Array (Option Value)} {vs : List Nat} {us : Array Value} (h : K.lookup x = some ⟨.type "tuple", xo, .seq us n, xs⟩) (z : us.size ≤ sizeLine) (r : Vals (vI vs) us.toList) (H : Hp) : SqT K H x (vI vs) :=
  .inr ⟨_, us, n, h, rfl, rfl, z, r⟩
set_option maxHeartbeats 4000000 in
theorem all_mk {P : Program} {w : World} {K : PySem.W.Frag} {h : Heap} {mg : Str → Option Value} {fa : Addr} (X : K.In h) (G : h.Ns mainGlobals mg) (hfa : mg "answers" = some (.ref fa))
    {C : Addr}
    {f0 : Addr} {od0 an0 : Option Addr} {sl0 : Array (Option Value)} {oc0 kV0 dc0 pm0 cd0 ct0 : Value}
    {f1 : Addr} {od1 an1 : Option Addr} {sl1 : Array (Option Value)} {oc1 kV1 dc1 pm1 cd1 ct1 : Value}
    {f2 : Addr} {od2 an2 : Option Addr} {sl2 : Array (Option Value)} {oc2 kV2 dc2 pm2 cd2 ct2 : Value}
    {f3 : Addr} {od3 an3 : Option Addr} {sl3 : Array (Option Value)} {oc3 kV3 dc3 pm3 cd3 ct3 : Value}
    {f4 : Addr} {od4 an4 : Option Addr} {sl4 : Array (Option Value)} {oc4 kV4 dc4 pm4 cd4 ct4 : Value}
    {f5 : Addr} {od5 an5 : Option Addr} {sl5 : Array (Option Value)} {oc5 kV5 dc5 pm5 cd5 ct5 : Value}
    {f6 : Addr} {od6 an6 : Option Addr} {sl6 : Array (Option Value)} {oc6 kV6 dc6 pm6 cd6 ct6 : Value}
    {f7 : Addr} {od7 an7 : Option Addr} {sl7 : Array (Option Value)} {oc7 kV7 dc7 pm7 cd7 ct7 : Value}
    {f8 : Addr} {od8 an8 : Option Addr} {sl8 : Array (Option Value)} {oc8 kV8 dc8 pm8 cd8 ct8 : Value}
    {f9 : Addr} {od9 an9 : Option Addr} {sl9 : Array (Option Value)} {oc9 kV9 dc9 pm9 cd9 ct9 : Value}
    {f10 : Addr} {od10 an10 : Option Addr} {sl10 : Array (Option Value)} {oc10 kV10 dc10 pm10 cd10 ct10 : Value}
    {f11 : Addr} {od11 an11 : Option Addr} {sl11 : Array (Option Value)} {oc11 kV11 dc11 pm11 cd11 ct11 : Value}
    {f12 : Addr} {od12 an12 : Option Addr} {sl12 : Array (Option Value)} {oc12 kV12 dc12 pm12 cd12 ct12 : Value}
    {f13 : Addr} {od13 an13 : Option Addr} {sl13 : Array (Option Value)} {oc13 kV13 dc13 pm13 cd13 ct13 : Value}
    {f14 : Addr} {od14 an14 : Option Addr} {sl14 : Array (Option Value)} {oc14 kV14 dc14 pm14 cd14 ct14 : Value}
    {f15 : Addr} {od15 an15 : Option Addr} {sl15 : Array (Option Value)} {oc15 kV15 dc15 pm15 cd15 ct15 : Value}
    {fm0 : Addr} {odm0 anm0 : Option Addr} {slm0 : Array (Option Value)} {ocm0 kVm0 dcm0 pmm0 cdm0 ctm0 : Value}
    {fm1 : Addr} {odm1 anm1 : Option Addr} {slm1 : Array (Option Value)} {ocm1 kVm1 dcm1 pmm1 cdm1 ctm1 : Value}
    {fm2 : Addr} {odm2 anm2 : Option Addr} {slm2 : Array (Option Value)} {ocm2 kVm2 dcm2 pmm2 cdm2 ctm2 : Value}
    {fm3 : Addr} {odm3 anm3 : Option Addr} {slm3 : Array (Option Value)} {ocm3 kVm3 dcm3 pmm3 cdm3 ctm3 : Value}
    {fm4 : Addr} {odm4 anm4 : Option Addr} {slm4 : Array (Option Value)} {ocm4 kVm4 dcm4 pmm4 cdm4 ctm4 : Value}
    {fm5 : Addr} {odm5 anm5 : Option Addr} {slm5 : Array (Option Value)} {ocm5 kVm5 dcm5 pmm5 cdm5 ctm5 : Value}
    {fm6 : Addr} {odm6 anm6 : Option Addr} {slm6 : Array (Option Value)} {ocm6 kVm6 dcm6 pmm6 cdm6 ctm6 : Value}
    {fm7 : Addr} {odm7 anm7 : Option Addr} {slm7 : Array (Option Value)} {ocm7 kVm7 dcm7 pmm7 cdm7 ctm7 : Value}
    {fm8 : Addr} {odm8 anm8 : Option Addr} {slm8 : Array (Option Value)} {ocm8 kVm8 dcm8 pmm8 cdm8 ctm8 : Value}
    {fm9 : Addr} {odm9 anm9 : Option Addr} {slm9 : Array (Option Value)} {ocm9 kVm9 dcm9 pmm9 cdm9 ctm9 : Value}
    {fm10 : Addr} {odm10 anm10 : Option Addr} {slm10 : Array (Option Value)} {ocm10 kVm10 dcm10 pmm10 cdm10 ctm10 : Value}
    {fm11 : Addr} {odm11 anm11 : Option Addr} {slm11 : Array (Option Value)} {ocm11 kVm11 dcm11 pmm11 cdm11 ctm11 : Value}
    {fm12 : Addr} {odm12 anm12 : Option Addr} {slm12 : Array (Option Value)} {ocm12 kVm12 dcm12 pmm12 cdm12 ctm12 : Value}
    {fm13 : Addr} {odm13 anm13 : Option Addr} {slm13 : Array (Option Value)} {ocm13 kVm13 dcm13 pmm13 cdm13 ctm13 : Value}
    {t_NUMBER : Tok}
    {t_WORD : Tok}
    {t_TOKEN : Tok}
    {t_ROW : Tok}
    {t_ANYTHING : Tok}
    {t_NAME : Tok}
    {t_DEEPEST : Tok}
    {t_LONGEST_TERM : Tok}
    {t_LONGEST_CLAUSES : Tok}
    {t_MOST_CLAUSES : Tok}
    {t_MOST_TESTS : Tok}
    {t_TEST_LENGTH : Tok}
    {t_IS_NUMBER_N : Tok}
    {t_IS_NUMBER_BELOW : Tok}
    {t_IS_NUMBER_ABOVE : Tok}
    {t_IS_NUMBER : Tok}
    {t_IS_WORD : Tok}
    {t_IS_TOKEN : Tok}
    {t_IS_ROW_OF : Tok}
    {t_IS_VALUE_OF : Tok}
    {t_BEGIN : Tok}
    {t_SEND : Tok}
    {t_RECEIVE : Tok}
    {t_TICKS : Tok}
    {t_STOP : Tok}
    {t_MAKE_TOKEN : Tok}
    {t_TELL_NAMES : Tok}
    {t_FORGET : Tok}
    {t_TELL_BOX : Tok}
    {t_TELL_COUNTS : Tok}
    {t_DONE : Tok}
    {t_TAKEN : Tok}
    {t_TIME_OVER : Tok}
    {t_NO_VALUE : Tok}
    {t_WRONGLY_TOLD : Tok}
    {t_WRONG_END : Tok}
    {t_TOKEN_NOT_MADE : Tok}
    {t_TOO_MANY : Tok}
    {t_WRONG_TIME : Tok}
    {t_MOST_LETTERS : Tok}
    {t_MOST_TICKS : Tok}
    {x_HIGHEST : Addr} {xo_HIGHEST : Option Addr} {xn_HIGHEST : Nat} {xs_HIGHEST : Array (Option Value)} {y_HIGHEST0 y_HIGHEST1 y_HIGHEST2 y_HIGHEST3 y_HIGHEST4 y_HIGHEST5 : Tok}
    {x_NUMBERS_BEHIND : Addr} {xo_NUMBERS_BEHIND : Option Addr} {xn_NUMBERS_BEHIND : Nat} {xs_NUMBERS_BEHIND : Array (Option Value)} {y_NUMBERS_BEHIND0 y_NUMBERS_BEHIND1 y_NUMBERS_BEHIND2 y_NUMBERS_BEHIND3 y_NUMBERS_BEHIND4 y_NUMBERS_BEHIND5 y_NUMBERS_BEHIND6 y_NUMBERS_BEHIND7 y_NUMBERS_BEHIND8 y_NUMBERS_BEHIND9 : Tok}
    {x_ROWS_BEHIND : Addr} {xo_ROWS_BEHIND : Option Addr} {xn_ROWS_BEHIND : Nat} {xs_ROWS_BEHIND : Array (Option Value)} {y_ROWS_BEHIND0 y_ROWS_BEHIND1 y_ROWS_BEHIND2 y_ROWS_BEHIND3 y_ROWS_BEHIND4 y_ROWS_BEHIND5 y_ROWS_BEHIND6 y_ROWS_BEHIND7 y_ROWS_BEHIND8 y_ROWS_BEHIND9 : Tok}
    (aC : PySem.W.nsIn K mainGlobals "Process" = some (some (.ref C)))
    (a0 : PySem.W.nsIn K mainGlobals "part_length" = some (some (.ref f0)))
    (l0 : K.lookup f0 = some ⟨oc0, od0, .func (PySem.W.fnOf "part_length" "part_length" (defArgs sPartLen) (defBody sPartLen) (defScope sPartLen) .none kV0 dc0 pm0 an0 cd0 ct0), sl0⟩)
    (c0 : PySem.W.codeIn K cd0 "part_length" = true)
    (k0 : PySem.W.keepIn K (.ref f0) = true)
    (a1 : PySem.W.nsIn K mainGlobals "is_part" = some (some (.ref f1)))
    (l1 : K.lookup f1 = some ⟨oc1, od1, .func (PySem.W.fnOf "is_part" "is_part" (defArgs sIsPart) (defBody sIsPart) (defScope sIsPart) .none kV1 dc1 pm1 an1 cd1 ct1), sl1⟩)
    (c1 : PySem.W.codeIn K cd1 "is_part" = true)
    (k1 : PySem.W.keepIn K (.ref f1) = true)
    (a2 : PySem.W.nsIn K mainGlobals "end_of" = some (some (.ref f2)))
    (l2 : K.lookup f2 = some ⟨oc2, od2, .func (PySem.W.fnOf "end_of" "end_of" (defArgs sEndOf) (defBody sEndOf) (defScope sEndOf) .none kV2 dc2 pm2 an2 cd2 ct2), sl2⟩)
    (c2 : PySem.W.codeIn K cd2 "end_of" = true)
    (k2 : PySem.W.keepIn K (.ref f2) = true)
    (a3 : PySem.W.nsIn K mainGlobals "is_term" = some (some (.ref f3)))
    (l3 : K.lookup f3 = some ⟨oc3, od3, .func (PySem.W.fnOf "is_term" "is_term" (defArgs sIsTerm) (defBody sIsTerm) (defScope sIsTerm) .none kV3 dc3 pm3 an3 cd3 ct3), sl3⟩)
    (c3 : PySem.W.codeIn K cd3 "is_term" = true)
    (k3 : PySem.W.keepIn K (.ref f3) = true)
    (a4 : PySem.W.nsIn K mainGlobals "has_token_from" = some (some (.ref f4)))
    (l4 : K.lookup f4 = some ⟨oc4, od4, .func (PySem.W.fnOf "has_token_from" "has_token_from" (defArgs sHasTok) (defBody sHasTok) (defScope sHasTok) .none kV4 dc4 pm4 an4 cd4 ct4), sl4⟩)
    (c4 : PySem.W.codeIn K cd4 "has_token_from" = true)
    (k4 : PySem.W.keepIn K (.ref f4) = true)
    (a5 : PySem.W.nsIn K mainGlobals "asks_for" = some (some (.ref f5)))
    (l5 : K.lookup f5 = some ⟨oc5, od5, .func (PySem.W.fnOf "asks_for" "asks_for" (defArgs sAsks) (defBody sAsks) (defScope sAsks) .none kV5 dc5 pm5 an5 cd5 ct5), sl5⟩)
    (c5 : PySem.W.codeIn K cd5 "asks_for" = true)
    (k5 : PySem.W.keepIn K (.ref f5) = true)
    (a6 : PySem.W.nsIn K mainGlobals "is_test" = some (some (.ref f6)))
    (l6 : K.lookup f6 = some ⟨oc6, od6, .func (PySem.W.fnOf "is_test" "is_test" (defArgs sIsTest) (defBody sIsTest) (defScope sIsTest) .none kV6 dc6 pm6 an6 cd6 ct6), sl6⟩)
    (c6 : PySem.W.codeIn K cd6 "is_test" = true)
    (k6 : PySem.W.keepIn K (.ref f6) = true)
    (a7 : PySem.W.nsIn K mainGlobals "tests_told" = some (some (.ref f7)))
    (l7 : K.lookup f7 = some ⟨oc7, od7, .func (PySem.W.fnOf "tests_told" "tests_told" (defArgs sTests) (defBody sTests) (defScope sTests) .none kV7 dc7 pm7 an7 cd7 ct7), sl7⟩)
    (c7 : PySem.W.codeIn K cd7 "tests_told" = true)
    (k7 : PySem.W.keepIn K (.ref f7) = true)
    (a8 : PySem.W.nsIn K mainGlobals "clauses_told" = some (some (.ref f8)))
    (l8 : K.lookup f8 = some ⟨oc8, od8, .func (PySem.W.fnOf "clauses_told" "clauses_told" (defArgs sClauses) (defBody sClauses) (defScope sClauses) .none kV8 dc8 pm8 an8 cd8 ct8), sl8⟩)
    (c8 : PySem.W.codeIn K cd8 "clauses_told" = true)
    (k8 : PySem.W.keepIn K (.ref f8) = true)
    (a9 : PySem.W.nsIn K mainGlobals "names_if_fits" = some (some (.ref f9)))
    (l9 : K.lookup f9 = some ⟨oc9, od9, .func (PySem.W.fnOf "names_if_fits" "names_if_fits" (defArgs sFits) (defBody sFits) (defScope sFits) .none kV9 dc9 pm9 an9 cd9 ct9), sl9⟩)
    (c9 : PySem.W.codeIn K cd9 "names_if_fits" = true)
    (k9 : PySem.W.keepIn K (.ref f9) = true)
    (a10 : PySem.W.nsIn K mainGlobals "holds" = some (some (.ref f10)))
    (l10 : K.lookup f10 = some ⟨oc10, od10, .func (PySem.W.fnOf "holds" "holds" (defArgs sHolds) (defBody sHolds) (defScope sHolds) .none kV10 dc10 pm10 an10 cd10 ct10), sl10⟩)
    (c10 : PySem.W.codeIn K cd10 "holds" = true)
    (k10 : PySem.W.keepIn K (.ref f10) = true)
    (a11 : PySem.W.nsIn K mainGlobals "names_if_takes" = some (some (.ref f11)))
    (l11 : K.lookup f11 = some ⟨oc11, od11, .func (PySem.W.fnOf "names_if_takes" "names_if_takes" (defArgs sTakes) (defBody sTakes) (defScope sTakes) .none kV11 dc11 pm11 an11 cd11 ct11), sl11⟩)
    (c11 : PySem.W.codeIn K cd11 "names_if_takes" = true)
    (k11 : PySem.W.keepIn K (.ref f11) = true)
    (a12 : PySem.W.nsIn K mainGlobals "first_to_take" = some (some (.ref f12)))
    (l12 : K.lookup f12 = some ⟨oc12, od12, .func (PySem.W.fnOf "first_to_take" "first_to_take" (defArgs sFirst) (defBody sFirst) (defScope sFirst) .none kV12 dc12 pm12 an12 cd12 ct12), sl12⟩)
    (c12 : PySem.W.codeIn K cd12 "first_to_take" = true)
    (k12 : PySem.W.keepIn K (.ref f12) = true)
    (a13 : PySem.W.nsIn K mainGlobals "end_of_call" = some (some (.ref f13)))
    (l13 : K.lookup f13 = some ⟨oc13, od13, .func (PySem.W.fnOf "end_of_call" "end_of_call" (defArgs sEndCall) (defBody sEndCall) (defScope sEndCall) .none kV13 dc13 pm13 an13 cd13 ct13), sl13⟩)
    (c13 : PySem.W.codeIn K cd13 "end_of_call" = true)
    (k13 : PySem.W.keepIn K (.ref f13) = true)
    (a14 : PySem.W.nsIn K mainGlobals "answer" = some (some (.ref f14)))
    (l14 : K.lookup f14 = some ⟨oc14, od14, .func (PySem.W.fnOf "answer" "answer" (defArgs sAnswer) (defBody sAnswer) (defScope sAnswer) .none kV14 dc14 pm14 an14 cd14 ct14), sl14⟩)
    (c14 : PySem.W.codeIn K cd14 "answer" = true)
    (k14 : PySem.W.keepIn K (.ref f14) = true)
    (a15 : PySem.W.nsIn K mainGlobals "answers" = some (some (.ref f15)))
    (l15 : K.lookup f15 = some ⟨oc15, od15, .func (PySem.W.fnOf "answers" "answers" (defArgs sAnswers) (defBody sAnswers) (defScope sAnswers) .none kV15 dc15 pm15 an15 cd15 ct15), sl15⟩)
    (c15 : PySem.W.codeIn K cd15 "answers" = true)
    (k15 : PySem.W.keepIn K (.ref f15) = true)
    (am0 : PySem.W.findIn K (.ref C) "__init__" = some (some (.ref fm0)))
    (im0 : PySem.W.isFn K (.ref fm0) = true)
    (lm0 : K.lookup fm0 = some ⟨ocm0, odm0, .func (PySem.W.fnOf "__init__" "Process.__init__" (defArgs sInit) (defBody sInit) (defScope sInit) .none kVm0 dcm0 pmm0 anm0 cdm0 ctm0), slm0⟩)
    (cm0 : PySem.W.codeIn K cdm0 "Process.__init__" = true)
    (km0 : PySem.W.keepIn K (.ref fm0) = true)
    (am1 : PySem.W.findIn K (.ref C) "send" = some (some (.ref fm1)))
    (im1 : PySem.W.isFn K (.ref fm1) = true)
    (lm1 : K.lookup fm1 = some ⟨ocm1, odm1, .func (PySem.W.fnOf "send" "Process.send" (defArgs sSend) (defBody sSend) (defScope sSend) .none kVm1 dcm1 pmm1 anm1 cdm1 ctm1), slm1⟩)
    (cm1 : PySem.W.codeIn K cdm1 "Process.send" = true)
    (km1 : PySem.W.keepIn K (.ref fm1) = true)
    (am2 : PySem.W.findIn K (.ref C) "receive" = some (some (.ref fm2)))
    (im2 : PySem.W.isFn K (.ref fm2) = true)
    (lm2 : K.lookup fm2 = some ⟨ocm2, odm2, .func (PySem.W.fnOf "receive" "Process.receive" (defArgs sRecv) (defBody sRecv) (defScope sRecv) .none kVm2 dcm2 pmm2 anm2 cdm2 ctm2), slm2⟩)
    (cm2 : PySem.W.codeIn K cdm2 "Process.receive" = true)
    (km2 : PySem.W.keepIn K (.ref fm2) = true)
    (am3 : PySem.W.findIn K (.ref C) "pass_ticks" = some (some (.ref fm3)))
    (im3 : PySem.W.isFn K (.ref fm3) = true)
    (lm3 : K.lookup fm3 = some ⟨ocm3, odm3, .func (PySem.W.fnOf "pass_ticks" "Process.pass_ticks" (defArgs sTicks) (defBody sTicks) (defScope sTicks) .none kVm3 dcm3 pmm3 anm3 cdm3 ctm3), slm3⟩)
    (cm3 : PySem.W.codeIn K cdm3 "Process.pass_ticks" = true)
    (km3 : PySem.W.keepIn K (.ref fm3) = true)
    (am4 : PySem.W.findIn K (.ref C) "stop" = some (some (.ref fm4)))
    (im4 : PySem.W.isFn K (.ref fm4) = true)
    (lm4 : K.lookup fm4 = some ⟨ocm4, odm4, .func (PySem.W.fnOf "stop" "Process.stop" (defArgs sStop) (defBody sStop) (defScope sStop) .none kVm4 dcm4 pmm4 anm4 cdm4 ctm4), slm4⟩)
    (cm4 : PySem.W.codeIn K cdm4 "Process.stop" = true)
    (km4 : PySem.W.keepIn K (.ref fm4) = true)
    (am5 : PySem.W.findIn K (.ref C) "make_token" = some (some (.ref fm5)))
    (im5 : PySem.W.isFn K (.ref fm5) = true)
    (lm5 : K.lookup fm5 = some ⟨ocm5, odm5, .func (PySem.W.fnOf "make_token" "Process.make_token" (defArgs sToken) (defBody sToken) (defScope sToken) .none kVm5 dcm5 pmm5 anm5 cdm5 ctm5), slm5⟩)
    (cm5 : PySem.W.codeIn K cdm5 "Process.make_token" = true)
    (km5 : PySem.W.keepIn K (.ref fm5) = true)
    (am6 : PySem.W.findIn K (.ref C) "names_told" = some (some (.ref fm6)))
    (im6 : PySem.W.isFn K (.ref fm6) = true)
    (lm6 : K.lookup fm6 = some ⟨ocm6, odm6, .func (PySem.W.fnOf "names_told" "Process.names_told" (defArgs sNames) (defBody sNames) (defScope sNames) .none kVm6 dcm6 pmm6 anm6 cdm6 ctm6), slm6⟩)
    (cm6 : PySem.W.codeIn K cdm6 "Process.names_told" = true)
    (km6 : PySem.W.keepIn K (.ref fm6) = true)
    (am7 : PySem.W.findIn K (.ref C) "forget" = some (some (.ref fm7)))
    (im7 : PySem.W.isFn K (.ref fm7) = true)
    (lm7 : K.lookup fm7 = some ⟨ocm7, odm7, .func (PySem.W.fnOf "forget" "Process.forget" (defArgs sForget) (defBody sForget) (defScope sForget) .none kVm7 dcm7 pmm7 anm7 cdm7 ctm7), slm7⟩)
    (cm7 : PySem.W.codeIn K cdm7 "Process.forget" = true)
    (km7 : PySem.W.keepIn K (.ref fm7) = true)
    (am8 : PySem.W.findIn K (.ref C) "box_told" = some (some (.ref fm8)))
    (im8 : PySem.W.isFn K (.ref fm8) = true)
    (lm8 : K.lookup fm8 = some ⟨ocm8, odm8, .func (PySem.W.fnOf "box_told" "Process.box_told" (defArgs sBox) (defBody sBox) (defScope sBox) .none kVm8 dcm8 pmm8 anm8 cdm8 ctm8), slm8⟩)
    (cm8 : PySem.W.codeIn K cdm8 "Process.box_told" = true)
    (km8 : PySem.W.keepIn K (.ref fm8) = true)
    (am9 : PySem.W.findIn K (.ref C) "counts_told" = some (some (.ref fm9)))
    (im9 : PySem.W.isFn K (.ref fm9) = true)
    (lm9 : K.lookup fm9 = some ⟨ocm9, odm9, .func (PySem.W.fnOf "counts_told" "Process.counts_told" (defArgs sCounts) (defBody sCounts) (defScope sCounts) .none kVm9 dcm9 pmm9 anm9 cdm9 ctm9), slm9⟩)
    (cm9 : PySem.W.codeIn K cdm9 "Process.counts_told" = true)
    (km9 : PySem.W.keepIn K (.ref fm9) = true)
    (am10 : PySem.W.findIn K (.ref C) "wait_no_more" = some (some (.ref fm10)))
    (im10 : PySem.W.isFn K (.ref fm10) = true)
    (lm10 : K.lookup fm10 = some ⟨ocm10, odm10, .func (PySem.W.fnOf "wait_no_more" "Process.wait_no_more" (defArgs sNoMore) (defBody sNoMore) (defScope sNoMore) .none kVm10 dcm10 pmm10 anm10 cdm10 ctm10), slm10⟩)
    (cm10 : PySem.W.codeIn K cdm10 "Process.wait_no_more" = true)
    (km10 : PySem.W.keepIn K (.ref fm10) = true)
    (am11 : PySem.W.findIn K (.ref C) "looking_begins" = some (some (.ref fm11)))
    (im11 : PySem.W.isFn K (.ref fm11) = true)
    (lm11 : K.lookup fm11 = some ⟨ocm11, odm11, .func (PySem.W.fnOf "looking_begins" "Process.looking_begins" (defArgs sBegins) (defBody sBegins) (defScope sBegins) .none kVm11 dcm11 pmm11 anm11 cdm11 ctm11), slm11⟩)
    (cm11 : PySem.W.codeIn K cdm11 "Process.looking_begins" = true)
    (km11 : PySem.W.keepIn K (.ref fm11) = true)
    (am12 : PySem.W.findIn K (.ref C) "take_first" = some (some (.ref fm12)))
    (im12 : PySem.W.isFn K (.ref fm12) = true)
    (lm12 : K.lookup fm12 = some ⟨ocm12, odm12, .func (PySem.W.fnOf "take_first" "Process.take_first" (defArgs sTakeF) (defBody sTakeF) (defScope sTakeF) .none kVm12 dcm12 pmm12 anm12 cdm12 ctm12), slm12⟩)
    (cm12 : PySem.W.codeIn K cdm12 "Process.take_first" = true)
    (km12 : PySem.W.keepIn K (.ref fm12) = true)
    (am13 : PySem.W.findIn K (.ref C) "take_out" = some (some (.ref fm13)))
    (im13 : PySem.W.isFn K (.ref fm13) = true)
    (lm13 : K.lookup fm13 = some ⟨ocm13, odm13, .func (PySem.W.fnOf "take_out" "Process.take_out" (defArgs sTakeO) (defBody sTakeO) (defScope sTakeO) .none kVm13 dcm13 pmm13 anm13 cdm13 ctm13), slm13⟩)
    (cm13 : PySem.W.codeIn K cdm13 "Process.take_out" = true)
    (km13 : PySem.W.keepIn K (.ref fm13) = true)
    (pg : PySem.W.plainGet K C Str.empty = true)
    (hd : PySem.W.hasDictIn K C = true)
    (po : PySem.W.plainOver K C = true)
    (sa : PySem.W.findIn K (.ref C) "__setattr__" = some (some (.builtin "object.__setattr__")))
    (mk : PySem.W.makesIn K C = true)
    (kc : PySem.W.keepIn K (.ref C) = true)
    (n_box : PySem.W.findIn K (.ref C) "box" = some none)
    (n_names : PySem.W.findIn K (.ref C) "names" = some none)
    (n_made : PySem.W.findIn K (.ref C) "made" = some none)
    (n_mark : PySem.W.findIn K (.ref C) "mark" = some none)
    (n_sent : PySem.W.findIn K (.ref C) "sent" = some none)
    (n_taken : PySem.W.findIn K (.ref C) "taken" = some none)
    (n_looked : PySem.W.findIn K (.ref C) "looked" = some none)
    (n_clauses : PySem.W.findIn K (.ref C) "clauses" = some none)
    (n_ticks_left : PySem.W.findIn K (.ref C) "ticks_left" = some none)
    (b_len : PySem.W.nsIn K mainGlobals "len" = some none)
    (b_range : PySem.W.nsIn K mainGlobals "range" = some none)
    (b_all : PySem.W.nsIn K mainGlobals "all" = some none)
    (b_list : PySem.W.nsIn K mainGlobals "list" = some none)
    (b_enumerate : PySem.W.nsIn K mainGlobals "enumerate" = some none)
    (g_NUMBER : PySem.W.nsIn K mainGlobals "NUMBER" = some (some (.int (0) t_NUMBER)))
    (g_WORD : PySem.W.nsIn K mainGlobals "WORD" = some (some (.int (1) t_WORD)))
    (g_TOKEN : PySem.W.nsIn K mainGlobals "TOKEN" = some (some (.int (2) t_TOKEN)))
    (g_ROW : PySem.W.nsIn K mainGlobals "ROW" = some (some (.int (3) t_ROW)))
    (g_ANYTHING : PySem.W.nsIn K mainGlobals "ANYTHING" = some (some (.int (4) t_ANYTHING)))
    (g_NAME : PySem.W.nsIn K mainGlobals "NAME" = some (some (.int (5) t_NAME)))
    (g_DEEPEST : PySem.W.nsIn K mainGlobals "DEEPEST" = some (some (.int (8) t_DEEPEST)))
    (g_LONGEST_TERM : PySem.W.nsIn K mainGlobals "LONGEST_TERM" = some (some (.int (60) t_LONGEST_TERM)))
    (g_LONGEST_CLAUSES : PySem.W.nsIn K mainGlobals "LONGEST_CLAUSES" = some (some (.int (100) t_LONGEST_CLAUSES)))
    (g_MOST_CLAUSES : PySem.W.nsIn K mainGlobals "MOST_CLAUSES" = some (some (.int (6) t_MOST_CLAUSES)))
    (g_MOST_TESTS : PySem.W.nsIn K mainGlobals "MOST_TESTS" = some (some (.int (4) t_MOST_TESTS)))
    (g_TEST_LENGTH : PySem.W.nsIn K mainGlobals "TEST_LENGTH" = some (some (.int (3) t_TEST_LENGTH)))
    (g_IS_NUMBER_N : PySem.W.nsIn K mainGlobals "IS_NUMBER_N" = some (some (.int (0) t_IS_NUMBER_N)))
    (g_IS_NUMBER_BELOW : PySem.W.nsIn K mainGlobals "IS_NUMBER_BELOW" = some (some (.int (1) t_IS_NUMBER_BELOW)))
    (g_IS_NUMBER_ABOVE : PySem.W.nsIn K mainGlobals "IS_NUMBER_ABOVE" = some (some (.int (2) t_IS_NUMBER_ABOVE)))
    (g_IS_NUMBER : PySem.W.nsIn K mainGlobals "IS_NUMBER" = some (some (.int (3) t_IS_NUMBER)))
    (g_IS_WORD : PySem.W.nsIn K mainGlobals "IS_WORD" = some (some (.int (4) t_IS_WORD)))
    (g_IS_TOKEN : PySem.W.nsIn K mainGlobals "IS_TOKEN" = some (some (.int (5) t_IS_TOKEN)))
    (g_IS_ROW_OF : PySem.W.nsIn K mainGlobals "IS_ROW_OF" = some (some (.int (6) t_IS_ROW_OF)))
    (g_IS_VALUE_OF : PySem.W.nsIn K mainGlobals "IS_VALUE_OF" = some (some (.int (7) t_IS_VALUE_OF)))
    (g_BEGIN : PySem.W.nsIn K mainGlobals "BEGIN" = some (some (.int (0) t_BEGIN)))
    (g_SEND : PySem.W.nsIn K mainGlobals "SEND" = some (some (.int (1) t_SEND)))
    (g_RECEIVE : PySem.W.nsIn K mainGlobals "RECEIVE" = some (some (.int (2) t_RECEIVE)))
    (g_TICKS : PySem.W.nsIn K mainGlobals "TICKS" = some (some (.int (3) t_TICKS)))
    (g_STOP : PySem.W.nsIn K mainGlobals "STOP" = some (some (.int (4) t_STOP)))
    (g_MAKE_TOKEN : PySem.W.nsIn K mainGlobals "MAKE_TOKEN" = some (some (.int (5) t_MAKE_TOKEN)))
    (g_TELL_NAMES : PySem.W.nsIn K mainGlobals "TELL_NAMES" = some (some (.int (6) t_TELL_NAMES)))
    (g_FORGET : PySem.W.nsIn K mainGlobals "FORGET" = some (some (.int (7) t_FORGET)))
    (g_TELL_BOX : PySem.W.nsIn K mainGlobals "TELL_BOX" = some (some (.int (8) t_TELL_BOX)))
    (g_TELL_COUNTS : PySem.W.nsIn K mainGlobals "TELL_COUNTS" = some (some (.int (9) t_TELL_COUNTS)))
    (g_DONE : PySem.W.nsIn K mainGlobals "DONE" = some (some (.int (0) t_DONE)))
    (g_TAKEN : PySem.W.nsIn K mainGlobals "TAKEN" = some (some (.int (1) t_TAKEN)))
    (g_TIME_OVER : PySem.W.nsIn K mainGlobals "TIME_OVER" = some (some (.int (2) t_TIME_OVER)))
    (g_NO_VALUE : PySem.W.nsIn K mainGlobals "NO_VALUE" = some (some (.int (9) t_NO_VALUE)))
    (g_WRONGLY_TOLD : PySem.W.nsIn K mainGlobals "WRONGLY_TOLD" = some (some (.int (-1) t_WRONGLY_TOLD)))
    (g_WRONG_END : PySem.W.nsIn K mainGlobals "WRONG_END" = some (some (.int (-2) t_WRONG_END)))
    (g_TOKEN_NOT_MADE : PySem.W.nsIn K mainGlobals "TOKEN_NOT_MADE" = some (some (.int (-3) t_TOKEN_NOT_MADE)))
    (g_TOO_MANY : PySem.W.nsIn K mainGlobals "TOO_MANY" = some (some (.int (-6) t_TOO_MANY)))
    (g_WRONG_TIME : PySem.W.nsIn K mainGlobals "WRONG_TIME" = some (some (.int (-8) t_WRONG_TIME)))
    (g_MOST_LETTERS : PySem.W.nsIn K mainGlobals "MOST_LETTERS" = some (some (.int (60) t_MOST_LETTERS)))
    (g_MOST_TICKS : PySem.W.nsIn K mainGlobals "MOST_TICKS" = some (some (.int (1000) t_MOST_TICKS)))
    (g_HIGHEST : PySem.W.nsIn K mainGlobals "HIGHEST" = some (some (.ref x_HIGHEST)))
    (s_HIGHEST : K.lookup x_HIGHEST = some ⟨.type "tuple", xo_HIGHEST, .seq #[.int 1000000 y_HIGHEST0, .int 99 y_HIGHEST1, .int 1000 y_HIGHEST2, .int 8 y_HIGHEST3, .int 0 y_HIGHEST4, .int 9 y_HIGHEST5] xn_HIGHEST, xs_HIGHEST⟩)
    (g_NUMBERS_BEHIND : PySem.W.nsIn K mainGlobals "NUMBERS_BEHIND" = some (some (.ref x_NUMBERS_BEHIND)))
    (s_NUMBERS_BEHIND : K.lookup x_NUMBERS_BEHIND = some ⟨.type "tuple", xo_NUMBERS_BEHIND, .seq #[.int 0 y_NUMBERS_BEHIND0, .int 0 y_NUMBERS_BEHIND1, .int 2 y_NUMBERS_BEHIND2, .int 1 y_NUMBERS_BEHIND3, .int 0 y_NUMBERS_BEHIND4, .int 0 y_NUMBERS_BEHIND5, .int 0 y_NUMBERS_BEHIND6, .int 1 y_NUMBERS_BEHIND7, .int 0 y_NUMBERS_BEHIND8, .int 0 y_NUMBERS_BEHIND9] xn_NUMBERS_BEHIND, xs_NUMBERS_BEHIND⟩)
    (g_ROWS_BEHIND : PySem.W.nsIn K mainGlobals "ROWS_BEHIND" = some (some (.ref x_ROWS_BEHIND)))
    (s_ROWS_BEHIND : K.lookup x_ROWS_BEHIND = some ⟨.type "tuple", xo_ROWS_BEHIND, .seq #[.int 0 y_ROWS_BEHIND0, .int 1 y_ROWS_BEHIND1, .int 1 y_ROWS_BEHIND2, .int 0 y_ROWS_BEHIND3, .int 0 y_ROWS_BEHIND4, .int 0 y_ROWS_BEHIND5, .int 0 y_ROWS_BEHIND6, .int 0 y_ROWS_BEHIND7, .int 0 y_ROWS_BEHIND8, .int 0 y_ROWS_BEHIND9] xn_ROWS_BEHIND, xs_ROWS_BEHIND⟩) :
    ∃ fd : FuncData, (∀ (s : Shared) (us : List Value), us.length = (["calls"] : List Str).length → BindsTo s fd ⟨us, []⟩ ((["calls"] : List Str).zip us)) ∧ ∀ base : Heap, K.In base → base.Ns mainGlobals mg → FnOk P w K mg base CX0 9 fa fd ["calls"] (spAns K) := by
  have e := hfa.symm.trans (PySem.W.mg_of X G a15)
  cases e
  have F0 := fun_mk (st := sPartLen) l0 c0 k0
  have D0 : Df K mg "part_length" sPartLen ["kind"] f0 _ := ⟨F0, PySem.W.mg_of X G a0, F0.binds (ps := ["kind"]) fun _ _ _ _ _ _ us hl => match us, hl with | [_], _ => rfl⟩
  have F1 := fun_mk (st := sIsPart) l1 c1 k1
  have D1 : Df K mg "is_part" sIsPart ["told", "place", "last_kind"] f1 _ := ⟨F1, PySem.W.mg_of X G a1, F1.binds (ps := ["told", "place", "last_kind"]) fun _ _ _ _ _ _ us hl => match us, hl with | [_, _, _], _ => rfl⟩
  have F2 := fun_mk (st := sEndOf) l2 c2 k2
  have D2 : Df K mg "end_of" sEndOf ["told", "start", "last_kind"] f2 _ := ⟨F2, PySem.W.mg_of X G a2, F2.binds (ps := ["told", "start", "last_kind"]) fun _ _ _ _ _ _ us hl => match us, hl with | [_, _, _], _ => rfl⟩
  have F3 := fun_mk (st := sIsTerm) l3 c3 k3
  have D3 : Df K mg "is_term" sIsTerm ["told"] f3 _ := ⟨F3, PySem.W.mg_of X G a3, F3.binds (ps := ["told"]) fun _ _ _ _ _ _ us hl => match us, hl with | [_], _ => rfl⟩
  have F4 := fun_mk (st := sHasTok) l4 c4 k4
  have D4 : Df K mg "has_token_from" sHasTok ["term", "first"] f4 _ := ⟨F4, PySem.W.mg_of X G a4, F4.binds (ps := ["term", "first"]) fun _ _ _ _ _ _ us hl => match us, hl with | [_, _], _ => rfl⟩
  have F5 := fun_mk (st := sAsks) l5 c5 k5
  have D5 : Df K mg "asks_for" sAsks ["pattern", "token", "names"] f5 _ := ⟨F5, PySem.W.mg_of X G a5, F5.binds (ps := ["pattern", "token", "names"]) fun _ _ _ _ _ _ us hl => match us, hl with | [_, _, _], _ => rfl⟩
  have F6 := fun_mk (st := sIsTest) l6 c6 k6
  have D6 : Df K mg "is_test" sIsTest ["test"] f6 _ := ⟨F6, PySem.W.mg_of X G a6, F6.binds (ps := ["test"]) fun _ _ _ _ _ _ us hl => match us, hl with | [_], _ => rfl⟩
  have F7 := fun_mk (st := sTests) l7 c7 k7
  have D7 : Df K mg "tests_told" sTests ["told", "start"] f7 _ := ⟨F7, PySem.W.mg_of X G a7, F7.binds (ps := ["told", "start"]) fun _ _ _ _ _ _ us hl => match us, hl with | [_, _], _ => rfl⟩
  have F8 := fun_mk (st := sClauses) l8 c8 k8
  have D8 : Df K mg "clauses_told" sClauses ["told"] f8 _ := ⟨F8, PySem.W.mg_of X G a8, F8.binds (ps := ["told"]) fun _ _ _ _ _ _ us hl => match us, hl with | [_], _ => rfl⟩
  have F9 := fun_mk (st := sFits) l9 c9 k9
  have D9 : Df K mg "names_if_fits" sFits ["pattern", "letter", "names"] f9 _ := ⟨F9, PySem.W.mg_of X G a9, F9.binds (ps := ["pattern", "letter", "names"]) fun _ _ _ _ _ _ us hl => match us, hl with | [_, _, _], _ => rfl⟩
  have F10 := fun_mk (st := sHolds) l10 c10 k10
  have D10 : Df K mg "holds" sHolds ["test", "names"] f10 _ := ⟨F10, PySem.W.mg_of X G a10, F10.binds (ps := ["test", "names"]) fun _ _ _ _ _ _ us hl => match us, hl with | [_, _], _ => rfl⟩
  have F11 := fun_mk (st := sTakes) l11 c11 k11
  have D11 : Df K mg "names_if_takes" sTakes ["clause", "letter", "names"] f11 _ := ⟨F11, PySem.W.mg_of X G a11, F11.binds (ps := ["clause", "letter", "names"]) fun _ _ _ _ _ _ us hl => match us, hl with | [_, _, _], _ => rfl⟩
  have F12 := fun_mk (st := sFirst) l12 c12 k12
  have D12 : Df K mg "first_to_take" sFirst ["clauses", "letter", "names"] f12 _ := ⟨F12, PySem.W.mg_of X G a12, F12.binds (ps := ["clauses", "letter", "names"]) fun _ _ _ _ _ _ us hl => match us, hl with | [_, _, _], _ => rfl⟩
  have F13 := fun_mk (st := sEndCall) l13 c13 k13
  have D13 : Df K mg "end_of_call" sEndCall ["calls", "start"] f13 _ := ⟨F13, PySem.W.mg_of X G a13, F13.binds (ps := ["calls", "start"]) fun _ _ _ _ _ _ us hl => match us, hl with | [_, _], _ => rfl⟩
  have F14 := fun_mk (st := sAnswer) l14 c14 k14
  have D14 : Df K mg "answer" sAnswer ["process", "call"] f14 _ := ⟨F14, PySem.W.mg_of X G a14, F14.binds (ps := ["process", "call"]) fun _ _ _ _ _ _ us hl => match us, hl with | [_, _], _ => rfl⟩
  have F15 := fun_mk (st := sAnswers) l15 c15 k15
  have Fm0 := fun_mk (st := sInit) lm0 cm0 km0
  have Mm0 : Mt K C "__init__" "Process.__init__" sInit ["self"] fm0 _ := ⟨Fm0, ⟨am0, im0, km0⟩, Fm0.binds (ps := ["self"]) fun _ _ _ _ _ _ us hl => match us, hl with | [_], _ => rfl⟩
  have Fm1 := fun_mk (st := sSend) lm1 cm1 km1
  have Mm1 : Mt K C "send" "Process.send" sSend ["self", "term"] fm1 _ := ⟨Fm1, ⟨am1, im1, km1⟩, Fm1.binds (ps := ["self", "term"]) fun _ _ _ _ _ _ us hl => match us, hl with | [_, _], _ => rfl⟩
  have Fm2 := fun_mk (st := sRecv) lm2 cm2 km2
  have Mm2 : Mt K C "receive" "Process.receive" sRecv ["self", "ends", "ticks", "told"] fm2 _ := ⟨Fm2, ⟨am2, im2, km2⟩, Fm2.binds (ps := ["self", "ends", "ticks", "told"]) fun _ _ _ _ _ _ us hl => match us, hl with | [_, _, _, _], _ => rfl⟩
  have Fm3 := fun_mk (st := sTicks) lm3 cm3 km3
  have Mm3 : Mt K C "pass_ticks" "Process.pass_ticks" sTicks ["self", "n"] fm3 _ := ⟨Fm3, ⟨am3, im3, km3⟩, Fm3.binds (ps := ["self", "n"]) fun _ _ _ _ _ _ us hl => match us, hl with | [_, _], _ => rfl⟩
  have Fm4 := fun_mk (st := sStop) lm4 cm4 km4
  have Mm4 : Mt K C "stop" "Process.stop" sStop ["self"] fm4 _ := ⟨Fm4, ⟨am4, im4, km4⟩, Fm4.binds (ps := ["self"]) fun _ _ _ _ _ _ us hl => match us, hl with | [_], _ => rfl⟩
  have Fm5 := fun_mk (st := sToken) lm5 cm5 km5
  have Mm5 : Mt K C "make_token" "Process.make_token" sToken ["self"] fm5 _ := ⟨Fm5, ⟨am5, im5, km5⟩, Fm5.binds (ps := ["self"]) fun _ _ _ _ _ _ us hl => match us, hl with | [_], _ => rfl⟩
  have Fm6 := fun_mk (st := sNames) lm6 cm6 km6
  have Mm6 : Mt K C "names_told" "Process.names_told" sNames ["self"] fm6 _ := ⟨Fm6, ⟨am6, im6, km6⟩, Fm6.binds (ps := ["self"]) fun _ _ _ _ _ _ us hl => match us, hl with | [_], _ => rfl⟩
  have Fm7 := fun_mk (st := sForget) lm7 cm7 km7
  have Mm7 : Mt K C "forget" "Process.forget" sForget ["self", "name"] fm7 _ := ⟨Fm7, ⟨am7, im7, km7⟩, Fm7.binds (ps := ["self", "name"]) fun _ _ _ _ _ _ us hl => match us, hl with | [_, _], _ => rfl⟩
  have Fm8 := fun_mk (st := sBox) lm8 cm8 km8
  have Mm8 : Mt K C "box_told" "Process.box_told" sBox ["self"] fm8 _ := ⟨Fm8, ⟨am8, im8, km8⟩, Fm8.binds (ps := ["self"]) fun _ _ _ _ _ _ us hl => match us, hl with | [_], _ => rfl⟩
  have Fm9 := fun_mk (st := sCounts) lm9 cm9 km9
  have Mm9 : Mt K C "counts_told" "Process.counts_told" sCounts ["self"] fm9 _ := ⟨Fm9, ⟨am9, im9, km9⟩, Fm9.binds (ps := ["self"]) fun _ _ _ _ _ _ us hl => match us, hl with | [_], _ => rfl⟩
  have Fm10 := fun_mk (st := sNoMore) lm10 cm10 km10
  have Mm10 : Mt K C "wait_no_more" "Process.wait_no_more" sNoMore ["self"] fm10 _ := ⟨Fm10, ⟨am10, im10, km10⟩, Fm10.binds (ps := ["self"]) fun _ _ _ _ _ _ us hl => match us, hl with | [_], _ => rfl⟩
  have Fm11 := fun_mk (st := sBegins) lm11 cm11 km11
  have Mm11 : Mt K C "looking_begins" "Process.looking_begins" sBegins ["self", "clauses"] fm11 _ := ⟨Fm11, ⟨am11, im11, km11⟩, Fm11.binds (ps := ["self", "clauses"]) fun _ _ _ _ _ _ us hl => match us, hl with | [_, _], _ => rfl⟩
  have Fm12 := fun_mk (st := sTakeF) lm12 cm12 km12
  have Mm12 : Mt K C "take_first" "Process.take_first" sTakeF ["self", "clauses", "start"] fm12 _ := ⟨Fm12, ⟨am12, im12, km12⟩, Fm12.binds (ps := ["self", "clauses", "start"]) fun _ _ _ _ _ _ us hl => match us, hl with | [_, _, _], _ => rfl⟩
  have Fm13 := fun_mk (st := sTakeO) lm13 cm13 km13
  have Mm13 : Mt K C "take_out" "Process.take_out" sTakeO ["self", "place"] fm13 _ := ⟨Fm13, ⟨am13, im13, km13⟩, Fm13.binds (ps := ["self", "place"]) fun _ _ _ _ _ _ us hl => match us, hl with | [_, _], _ => rfl⟩
  have T_HIGHEST : ∃ a, mg "HIGHEST" = some (.ref a) ∧ ∀ H : Hp, SqT K H a (vI [1000000, 99, 1000, 8, 0, 9]) := ⟨x_HIGHEST, PySem.W.mg_of X G g_HIGHEST, tup_of s_HIGHEST (by show 6 ≤ sizeLine; decide) (.cons ⟨_, rfl⟩ ( .cons ⟨_, rfl⟩ ( .cons ⟨_, rfl⟩ ( .cons ⟨_, rfl⟩ ( .cons ⟨_, rfl⟩ ( .cons ⟨_, rfl⟩ (.nil)))))))⟩
  have T_NUMBERS_BEHIND : ∃ a, mg "NUMBERS_BEHIND" = some (.ref a) ∧ ∀ H : Hp, SqT K H a (vI [0, 0, 2, 1, 0, 0, 0, 1, 0, 0]) := ⟨x_NUMBERS_BEHIND, PySem.W.mg_of X G g_NUMBERS_BEHIND, tup_of s_NUMBERS_BEHIND (by show 10 ≤ sizeLine; decide) (.cons ⟨_, rfl⟩ ( .cons ⟨_, rfl⟩ ( .cons ⟨_, rfl⟩ ( .cons ⟨_, rfl⟩ ( .cons ⟨_, rfl⟩ ( .cons ⟨_, rfl⟩ ( .cons ⟨_, rfl⟩ ( .cons ⟨_, rfl⟩ ( .cons ⟨_, rfl⟩ ( .cons ⟨_, rfl⟩ (.nil)))))))))))⟩
  have T_ROWS_BEHIND : ∃ a, mg "ROWS_BEHIND" = some (.ref a) ∧ ∀ H : Hp, SqT K H a (vI [0, 1, 1, 0, 0, 0, 0, 0, 0, 0]) := ⟨x_ROWS_BEHIND, PySem.W.mg_of X G g_ROWS_BEHIND, tup_of s_ROWS_BEHIND (by show 10 ≤ sizeLine; decide) (.cons ⟨_, rfl⟩ ( .cons ⟨_, rfl⟩ ( .cons ⟨_, rfl⟩ ( .cons ⟨_, rfl⟩ ( .cons ⟨_, rfl⟩ ( .cons ⟨_, rfl⟩ ( .cons ⟨_, rfl⟩ ( .cons ⟨_, rfl⟩ ( .cons ⟨_, rfl⟩ ( .cons ⟨_, rfl⟩ (.nil)))))))))))⟩
  have TX : Tx K mg := ⟨PySem.W.mg_none_of X G b_len, PySem.W.mg_none_of X G b_range, ⟨_, PySem.W.mg_of X G g_NUMBER⟩, ⟨_, PySem.W.mg_of X G g_WORD⟩, ⟨_, PySem.W.mg_of X G g_TOKEN⟩, ⟨_, PySem.W.mg_of X G g_ROW⟩, ⟨_, PySem.W.mg_of X G g_ANYTHING⟩, ⟨_, PySem.W.mg_of X G g_NAME⟩, ⟨_, PySem.W.mg_of X G g_DEEPEST⟩, ⟨_, PySem.W.mg_of X G g_LONGEST_TERM⟩, T_HIGHEST⟩
  have TY : Ty K mg := ⟨TX, PySem.W.mg_none_of X G b_all, PySem.W.mg_none_of X G b_list, PySem.W.mg_none_of X G b_enumerate, ⟨_, PySem.W.mg_of X G g_LONGEST_CLAUSES⟩, ⟨_, PySem.W.mg_of X G g_MOST_CLAUSES⟩, ⟨_, PySem.W.mg_of X G g_MOST_TESTS⟩, ⟨_, PySem.W.mg_of X G g_TEST_LENGTH⟩, ⟨_, PySem.W.mg_of X G g_IS_NUMBER_N⟩, ⟨_, PySem.W.mg_of X G g_IS_NUMBER_BELOW⟩, ⟨_, PySem.W.mg_of X G g_IS_NUMBER_ABOVE⟩, ⟨_, PySem.W.mg_of X G g_IS_NUMBER⟩, ⟨_, PySem.W.mg_of X G g_IS_WORD⟩, ⟨_, PySem.W.mg_of X G g_IS_TOKEN⟩, ⟨_, PySem.W.mg_of X G g_IS_ROW_OF⟩, ⟨_, PySem.W.mg_of X G g_IS_VALUE_OF⟩⟩
  have TZ : Tz K mg C := ⟨TY, ⟨pg, hd, po, sa⟩, PySem.W.mg_of X G aC, n_box, n_names, n_made, n_mark, n_sent, n_taken, n_looked, n_clauses, n_ticks_left, ⟨_, PySem.W.mg_of X G g_BEGIN⟩, ⟨_, PySem.W.mg_of X G g_SEND⟩, ⟨_, PySem.W.mg_of X G g_RECEIVE⟩, ⟨_, PySem.W.mg_of X G g_TICKS⟩, ⟨_, PySem.W.mg_of X G g_STOP⟩, ⟨_, PySem.W.mg_of X G g_MAKE_TOKEN⟩, ⟨_, PySem.W.mg_of X G g_TELL_NAMES⟩, ⟨_, PySem.W.mg_of X G g_FORGET⟩, ⟨_, PySem.W.mg_of X G g_TELL_BOX⟩, ⟨_, PySem.W.mg_of X G g_TELL_COUNTS⟩, ⟨_, PySem.W.mg_of X G g_DONE⟩, ⟨_, PySem.W.mg_of X G g_TAKEN⟩, ⟨_, PySem.W.mg_of X G g_TIME_OVER⟩, ⟨_, PySem.W.mg_of X G g_NO_VALUE⟩, ⟨_, PySem.W.mg_of X G g_WRONGLY_TOLD⟩, ⟨_, PySem.W.mg_of X G g_WRONG_END⟩, ⟨_, PySem.W.mg_of X G g_TOKEN_NOT_MADE⟩, ⟨_, PySem.W.mg_of X G g_TOO_MANY⟩, ⟨_, PySem.W.mg_of X G g_WRONG_TIME⟩, ⟨_, PySem.W.mg_of X G g_MOST_LETTERS⟩, ⟨_, PySem.W.mg_of X G g_MOST_TICKS⟩⟩
  have TQ : Tq K mg C := ⟨TZ, T_NUMBERS_BEHIND, T_ROWS_BEHIND⟩
  refine ⟨PySem.W.fnOf "answers" "answers" (defArgs sAnswers) (defBody sAnswers) (defScope sAnswers) .none kV15 dc15 pm15 an15 cd15 ct15, fun s us hu => match us, hu with | [_], _ => .of_eq rfl, fun base _ _ => ?_⟩
  have gEnd := okEndOf (P := P) (w := w) (base := base) F2 TX D1 D0
  have gTerm := okIsTerm (P := P) (w := w) (base := base) F3 TX D2 gEnd
  have gAsks := okAsks (P := P) (w := w) (base := base) F5 TX D0
  have gTests := okTests (P := P) (w := w) (base := base) F7 TY D6
  have gCl := okClauses (P := P) (w := w) (base := base) F8 TY D2 gEnd D7 gTests
  have gFits := okFits (P := P) (w := w) (base := base) F9 TY D2 gEnd
  have gTakes := okTakes (P := P) (w := w) (base := base) F11 TY D9 gFits D10
  have gFirst := okFirst (P := P) (w := w) (base := base) F12 TY D11 gTakes
  have gTakeF := okTakeF (P := P) (w := w) (base := base) Fm12 TZ D12 gFirst Mm13
  have gBeg := okBegins (P := P) (w := w) (base := base) Fm11 TZ D5 gAsks
  have gStop := okStop (P := P) (w := w) (base := base) Fm4 TZ Mm10
  have gTicks := okTicks (P := P) (w := w) (base := base) Fm3 TZ Mm10
  have gRecv := okRecv (P := P) (w := w) (base := base) Fm2 TZ D8 gCl Mm12 gTakeF Mm11 gBeg
  have gSend := okSend (P := P) (w := w) (base := base) Fm1 TZ D3 gTerm D4 Mm12 gTakeF Mm10
  have gAnswer := okAnswer (P := P) (w := w) (base := base) F14 TZ Mm1 gSend Mm2 gRecv Mm3 gTicks Mm4 gStop Mm5 Mm6 Mm7 Mm8 Mm9
  exact okAnswers F15 TQ ⟨mk, am0, im0, kc⟩ Fm0 Mm0.b D13 D14 gAnswer
end Pk

set_option Elab.async false
set_option linter.all false
open PySem PySem.W PyProof.Rows
set_option maxRecDepth 100000 in
set_option maxHeartbeats 0 in
theorem PySem.Challenge.cw_pickedletters_s01_answers_holds : PySem.Challenge.rw_pickedletters_s01_answers.Holds := by
  w_on; k_headS; (case hw => exact ⟨[.list [.int 0]], by decide +kernel, by decide +kernel⟩)
  k_fillS
  refine L2.walk_specK (r := PySem.Challenge.rw_pickedletters_s01_answers) (k := 9) (CX := L2.CX0) (ps := ["calls"]) (sp := Pk.spAns) (by decide +kernel) rfl rfl ⟨rfl, by decide, by decide⟩ (fun w h Y => PySem.W.kIn_of Y) ?F ?S (fun _ _ _ _ z => z)
  case F =>
    intro w mg fa h Y KX G hmg
    refine' Pk.all_mk KX G hmg ?aC ?a0 ?l0 ?c0 ?k0 ?a1 ?l1 ?c1 ?k1 ?a2 ?l2 ?c2 ?k2 ?a3 ?l3 ?c3 ?k3 ?a4 ?l4 ?c4 ?k4 ?a5 ?l5 ?c5 ?k5 ?a6 ?l6 ?c6 ?k6 ?a7 ?l7 ?c7 ?k7 ?a8 ?l8 ?c8 ?k8 ?a9 ?l9 ?c9 ?k9 ?a10 ?l10 ?c10 ?k10 ?a11 ?l11 ?c11 ?k11 ?a12 ?l12 ?c12 ?k12 ?a13 ?l13 ?c13 ?k13 ?a14 ?l14 ?c14 ?k14 ?a15 ?l15 ?c15 ?k15 ?am0 ?im0 ?lm0 ?cm0 ?km0 ?am1 ?im1 ?lm1 ?cm1 ?km1 ?am2 ?im2 ?lm2 ?cm2 ?km2 ?am3 ?im3 ?lm3 ?cm3 ?km3 ?am4 ?im4 ?lm4 ?cm4 ?km4 ?am5 ?im5 ?lm5 ?cm5 ?km5 ?am6 ?im6 ?lm6 ?cm6 ?km6 ?am7 ?im7 ?lm7 ?cm7 ?km7 ?am8 ?im8 ?lm8 ?cm8 ?km8 ?am9 ?im9 ?lm9 ?cm9 ?km9 ?am10 ?im10 ?lm10 ?cm10 ?km10 ?am11 ?im11 ?lm11 ?cm11 ?km11 ?am12 ?im12 ?lm12 ?cm12 ?km12 ?am13 ?im13 ?lm13 ?cm13 ?km13 ?pg ?hd ?po ?sa ?mk ?kc ?n_box ?n_names ?n_made ?n_mark ?n_sent ?n_taken ?n_looked ?n_clauses ?n_ticks_left ?b_len ?b_range ?b_all ?b_list ?b_enumerate ?g_NUMBER ?g_WORD ?g_TOKEN ?g_ROW ?g_ANYTHING ?g_NAME ?g_DEEPEST ?g_LONGEST_TERM ?g_LONGEST_CLAUSES ?g_MOST_CLAUSES ?g_MOST_TESTS ?g_TEST_LENGTH ?g_IS_NUMBER_N ?g_IS_NUMBER_BELOW ?g_IS_NUMBER_ABOVE ?g_IS_NUMBER ?g_IS_WORD ?g_IS_TOKEN ?g_IS_ROW_OF ?g_IS_VALUE_OF ?g_BEGIN ?g_SEND ?g_RECEIVE ?g_TICKS ?g_STOP ?g_MAKE_TOKEN ?g_TELL_NAMES ?g_FORGET ?g_TELL_BOX ?g_TELL_COUNTS ?g_DONE ?g_TAKEN ?g_TIME_OVER ?g_NO_VALUE ?g_WRONGLY_TOLD ?g_WRONG_END ?g_TOKEN_NOT_MADE ?g_TOO_MANY ?g_WRONG_TIME ?g_MOST_LETTERS ?g_MOST_TICKS ?g_HIGHEST ?s_HIGHEST ?g_NUMBERS_BEHIND ?s_NUMBERS_BEHIND ?g_ROWS_BEHIND ?s_ROWS_BEHIND
    (case aC => k_is)
    (case a0 => k_is)
    (case l0 => k_is)
    (case c0 => k_is)
    (case k0 => k_is)
    (case a1 => k_is)
    (case l1 => k_is)
    (case c1 => k_is)
    (case k1 => k_is)
    (case a2 => k_is)
    (case l2 => k_is)
    (case c2 => k_is)
    (case k2 => k_is)
    (case a3 => k_is)
    (case l3 => k_is)
    (case c3 => k_is)
    (case k3 => k_is)
    (case a4 => k_is)
    (case l4 => k_is)
    (case c4 => k_is)
    (case k4 => k_is)
    (case a5 => k_is)
    (case l5 => k_is)
    (case c5 => k_is)
    (case k5 => k_is)
    (case a6 => k_is)
    (case l6 => k_is)
    (case c6 => k_is)
    (case k6 => k_is)
    (case a7 => k_is)
    (case l7 => k_is)
    (case c7 => k_is)
    (case k7 => k_is)
    (case a8 => k_is)
    (case l8 => k_is)
    (case c8 => k_is)
    (case k8 => k_is)
    (case a9 => k_is)
    (case l9 => k_is)
    (case c9 => k_is)
    (case k9 => k_is)
    (case a10 => k_is)
    (case l10 => k_is)
    (case c10 => k_is)
    (case k10 => k_is)
    (case a11 => k_is)
    (case l11 => k_is)
    (case c11 => k_is)
    (case k11 => k_is)
    (case a12 => k_is)
    (case l12 => k_is)
    (case c12 => k_is)
    (case k12 => k_is)
    (case a13 => k_is)
    (case l13 => k_is)
    (case c13 => k_is)
    (case k13 => k_is)
    (case a14 => k_is)
    (case l14 => k_is)
    (case c14 => k_is)
    (case k14 => k_is)
    (case a15 => k_is)
    (case l15 => k_is)
    (case c15 => k_is)
    (case k15 => k_is)
    (case am0 => k_is)
    (case im0 => k_is)
    (case lm0 => k_is)
    (case cm0 => k_is)
    (case km0 => k_is)
    (case am1 => k_is)
    (case im1 => k_is)
    (case lm1 => k_is)
    (case cm1 => k_is)
    (case km1 => k_is)
    (case am2 => k_is)
    (case im2 => k_is)
    (case lm2 => k_is)
    (case cm2 => k_is)
    (case km2 => k_is)
    (case am3 => k_is)
    (case im3 => k_is)
    (case lm3 => k_is)
    (case cm3 => k_is)
    (case km3 => k_is)
    (case am4 => k_is)
    (case im4 => k_is)
    (case lm4 => k_is)
    (case cm4 => k_is)
    (case km4 => k_is)
    (case am5 => k_is)
    (case im5 => k_is)
    (case lm5 => k_is)
    (case cm5 => k_is)
    (case km5 => k_is)
    (case am6 => k_is)
    (case im6 => k_is)
    (case lm6 => k_is)
    (case cm6 => k_is)
    (case km6 => k_is)
    (case am7 => k_is)
    (case im7 => k_is)
    (case lm7 => k_is)
    (case cm7 => k_is)
    (case km7 => k_is)
    (case am8 => k_is)
    (case im8 => k_is)
    (case lm8 => k_is)
    (case cm8 => k_is)
    (case km8 => k_is)
    (case am9 => k_is)
    (case im9 => k_is)
    (case lm9 => k_is)
    (case cm9 => k_is)
    (case km9 => k_is)
    (case am10 => k_is)
    (case im10 => k_is)
    (case lm10 => k_is)
    (case cm10 => k_is)
    (case km10 => k_is)
    (case am11 => k_is)
    (case im11 => k_is)
    (case lm11 => k_is)
    (case cm11 => k_is)
    (case km11 => k_is)
    (case am12 => k_is)
    (case im12 => k_is)
    (case lm12 => k_is)
    (case cm12 => k_is)
    (case km12 => k_is)
    (case am13 => k_is)
    (case im13 => k_is)
    (case lm13 => k_is)
    (case cm13 => k_is)
    (case km13 => k_is)
    (case pg => k_is)
    (case hd => k_is)
    (case po => k_is)
    (case sa => k_is)
    (case mk => k_is)
    (case kc => k_is)
    (case n_box => k_is)
    (case n_names => k_is)
    (case n_made => k_is)
    (case n_mark => k_is)
    (case n_sent => k_is)
    (case n_taken => k_is)
    (case n_looked => k_is)
    (case n_clauses => k_is)
    (case n_ticks_left => k_is)
    (case b_len => k_is)
    (case b_range => k_is)
    (case b_all => k_is)
    (case b_list => k_is)
    (case b_enumerate => k_is)
    (case g_NUMBER => k_is)
    (case g_WORD => k_is)
    (case g_TOKEN => k_is)
    (case g_ROW => k_is)
    (case g_ANYTHING => k_is)
    (case g_NAME => k_is)
    (case g_DEEPEST => k_is)
    (case g_LONGEST_TERM => k_is)
    (case g_LONGEST_CLAUSES => k_is)
    (case g_MOST_CLAUSES => k_is)
    (case g_MOST_TESTS => k_is)
    (case g_TEST_LENGTH => k_is)
    (case g_IS_NUMBER_N => k_is)
    (case g_IS_NUMBER_BELOW => k_is)
    (case g_IS_NUMBER_ABOVE => k_is)
    (case g_IS_NUMBER => k_is)
    (case g_IS_WORD => k_is)
    (case g_IS_TOKEN => k_is)
    (case g_IS_ROW_OF => k_is)
    (case g_IS_VALUE_OF => k_is)
    (case g_BEGIN => k_is)
    (case g_SEND => k_is)
    (case g_RECEIVE => k_is)
    (case g_TICKS => k_is)
    (case g_STOP => k_is)
    (case g_MAKE_TOKEN => k_is)
    (case g_TELL_NAMES => k_is)
    (case g_FORGET => k_is)
    (case g_TELL_BOX => k_is)
    (case g_TELL_COUNTS => k_is)
    (case g_DONE => k_is)
    (case g_TAKEN => k_is)
    (case g_TIME_OVER => k_is)
    (case g_NO_VALUE => k_is)
    (case g_WRONGLY_TOLD => k_is)
    (case g_WRONG_END => k_is)
    (case g_TOKEN_NOT_MADE => k_is)
    (case g_TOO_MANY => k_is)
    (case g_WRONG_TIME => k_is)
    (case g_MOST_LETTERS => k_is)
    (case g_MOST_TICKS => k_is)
    (case g_HIGHEST => k_is)
    (case s_HIGHEST => k_is)
    (case g_NUMBERS_BEHIND => k_is)
    (case s_NUMBERS_BEHIND => k_is)
    (case g_ROWS_BEHIND => k_is)
    (case s_ROWS_BEHIND => k_is)
  case S =>
    intro K H xs a hO hwi hask hx
    cases hx with
    | cons h1 h2 =>
      cases h2
      cases h1 with
      | lst hs ha =>
        have e := L2.ints_dw a.1 _ ha
        subst e
        exact ⟨_, a.1, rfl, hs, hask, fun H' p hp => .lst (L2.SqL.of hp) (L2.dw_ints _)⟩
#print axioms PySem.Challenge.cw_pickedletters_s01_answers_holds

