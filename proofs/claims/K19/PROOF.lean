import PyProof.Rows.All
import HandS.ForMost
import HandS.Walk
import HandS.Zip
import HandS.Rev
import HandS.TupAny
import HandS.Deep
import HandS.IsInst
import HandS.Flow
import HandS.Style
import PyProof.ReprRoom
import PyProof.Rows.ReprShort
import PyProof.ReprLen
import KE.KeyNested
import PyProof.DictRoadsH
import PyProof.Rows.TupTab
import KE.SortData
import KE.SortLaws
import KE.DataFind
import HandS.TupMul
import HandS.ExcOwn
import HandS.Exc
import HandS.SortInts
import HandS.Wide
import PyProof.ReprRoads
import PyProof.CallFns
import KE.KMathG
import KE.DataMinMax
import HandS.RevRange
import HandS.Conv
import PyProof.SeqIndex
import KE.KDictZip
import PyProof.ListNew
import HandS.ExcValue
import KE.GoesEnum
import KE.GoesNew
import HandS.Words
import HandS.Ends
import PySem.Challenge.RW_poundmeets_k19_tables_counted
section
set_option Elab.async false
set_option linter.all false
set_option maxRecDepth 100000
set_option autoImplicit false
set_option maxHeartbeats 4000000
namespace Mx
open PySem

/-! data without an address -/
inductive P where
  | non | bl (b : Bool) | int (i : Int) | str (x : List Nat) | rep (p : P)
  | tup (xs : List P) | lst (xs : List P)
  | dct (ks : List (Sum Int (List Nat))) (vs : List P)

/-- a text by its signs -/
abbrev T (x : List Nat) : Str := ⟨x.toArray⟩

def kpy : Sum Int (List Nat) → PyData
  | .inl i => .int i
  | .inr x => .str (T x)
mutual
def P.py : P → PyData
  | .non => .none
  | .bl b => .bool b
  | .int i => .int i
  | .str x => .str (T x)
  | .rep p => .str p.py.shown
  | .tup xs => .tuple (pyL xs)
  | .lst xs => .list (pyL xs)
  | .dct ks vs => .dict ((ks.map kpy).zip (pyL vs))
def pyL : List P → List PyData
  | [] => []
  | x :: xs => x.py :: pyL xs
end

mutual
def P.beq : P → P → Bool
  | .non, .non => true
  | .bl a, .bl b => a == b
  | .int a, .int b => a == b
  | .str a, .str b => a == b
  | .rep a, .rep b => P.beq a b
  | .tup a, .tup b => beqL a b
  | .lst a, .lst b => beqL a b
  | .dct ks a, .dct ks' b => decide (ks = ks') && beqL a b
  | _, _ => false
def beqL : List P → List P → Bool
  | [], [] => true
  | x :: xs, y :: ys => P.beq x y && beqL xs ys
  | _, _ => false
end
mutual
theorem P.beq_eq : ∀ {a b : P}, P.beq a b = true → a = b
  | .non, b, h => by cases b <;> first | rfl | (simp [P.beq] at h)
  | .bl x, b, h => by cases b <;> simp [P.beq] at h; rw [h]
  | .int x, b, h => by cases b <;> simp [P.beq] at h; rw [h]
  | .str x, b, h => by cases b <;> simp [P.beq] at h; rw [h]
  | .rep x, b, h => by
    cases b with
    | rep y => rw [P.beq_eq (a := x) (b := y) (by simpa [P.beq] using h)]
    | _ => simp [P.beq] at h
  | .tup x, b, h => by
    cases b with
    | tup y => rw [beqL_eq (a := x) (b := y) (by simpa [P.beq] using h)]
    | _ => simp [P.beq] at h
  | .lst x, b, h => by
    cases b with
    | lst y => rw [beqL_eq (a := x) (b := y) (by simpa [P.beq] using h)]
    | _ => simp [P.beq] at h
  | .dct ks x, b, h => by
    cases b with
    | dct ks' y =>
      have h' : ks = ks' ∧ beqL x y = true := by simpa [P.beq] using h
      rw [h'.1, beqL_eq (a := x) (b := y) h'.2]
    | _ => simp [P.beq] at h
theorem beqL_eq : ∀ {a b : List P}, beqL a b = true → a = b
  | [], [], _ => rfl
  | [], _ :: _, h => by simp [beqL] at h
  | _ :: _, [], h => by simp [beqL] at h
  | x :: xs, y :: ys, h => by
    have h' : P.beq x y = true ∧ beqL xs ys = true := by simpa [beqL] using h
    rw [P.beq_eq h'.1, beqL_eq h'.2]
end
mutual
theorem P.beq_refl : ∀ a : P, P.beq a a = true
  | .non => by simp [P.beq]
  | .bl x => by simp [P.beq]
  | .int x => by simp [P.beq]
  | .str x => by simp [P.beq]
  | .rep x => by simp [P.beq, P.beq_refl x]
  | .tup x => by simp [P.beq, beqL_refl x]
  | .lst x => by simp [P.beq, beqL_refl x]
  | .dct ks x => by simp [P.beq, beqL_refl x]
theorem beqL_refl : ∀ a : List P, beqL a a = true
  | [] => by simp [beqL]
  | x :: xs => by simp [beqL, P.beq_refl x, beqL_refl xs]
end
instance : DecidableEq P := fun a b => if h : P.beq a b = true then .isTrue (P.beq_eq h) else .isFalse fun e => h (by rw [e]; exact P.beq_refl b)

/-! == as Python has it; no dicts -/
mutual
def P.eqv : P → P → Bool
  | .non, .non => true
  | .bl a, .bl b => a == b
  | .bl a, .int j => (if a then 1 else 0) == j
  | .int i, .bl b => i == (if b then 1 else 0)
  | .int i, .int j => i == j
  | .str x, .str y => x == y
  | .rep p, .rep q => if P.beq p q then true else decide (p.py.shown = q.py.shown)
  | .rep p, .str y => decide (p.py.shown = T y)
  | .str x, .rep q => decide (T x = q.py.shown)
  | .tup xs, .tup ys => eqvL xs ys
  | .lst xs, .lst ys => eqvL xs ys
  | _, _ => false
def eqvL : List P → List P → Bool
  | [], [] => true
  | x :: xs, y :: ys => P.eqv x y && eqvL xs ys
  | _, _ => false
end
theorem T_inj {x y : List Nat} (h : T x = T y) : x = y := by
  have := congrArg (fun z : Str => z.cps.toList) h
  simpa using this
theorem T_beq (x y : List Nat) : (T x == T y) = (x == y) := by
  rw [Bool.eq_iff_iff]
  simp only [beq_iff_eq]
  exact ⟨T_inj, fun e => by rw [e]⟩
theorem Str_beq_dec (x y : Str) : (x == y) = decide (x = y) := by
  rw [Bool.eq_iff_iff]; simp
mutual
theorem P.eqv_py : ∀ a b : P, PyData.eqv a.py b.py = P.eqv a b
  | .non, b => by cases b <;> simp [P.py, PyData.eqv, P.eqv]
  | .bl x, b => by cases b <;> simp [P.py, PyData.eqv, P.eqv]
  | .int x, b => by cases b <;> simp [P.py, PyData.eqv, P.eqv]
  | .str x, b => by
    cases b with
    | str y => simp only [P.py, PyData.eqv, P.eqv, T_beq]
    | rep q => simp only [P.py, PyData.eqv, P.eqv, Str_beq_dec]
    | _ => simp [P.py, PyData.eqv, P.eqv]
  | .rep p, b => by
    cases b with
    | str y => simp only [P.py, PyData.eqv, P.eqv, Str_beq_dec]
    | rep q =>
      simp only [P.py, PyData.eqv, P.eqv, Str_beq_dec]
      split
      · rename_i h
        rw [P.beq_eq h]; simp
      · rfl
    | _ => simp [P.py, PyData.eqv, P.eqv]
  | .tup x, b => by
    cases b with
    | tup y => simp only [P.py, PyData.eqv, P.eqv]; exact eqvL_py x y
    | _ => simp [P.py, PyData.eqv, P.eqv]
  | .lst x, b => by
    cases b with
    | lst y => simp only [P.py, PyData.eqv, P.eqv]; exact eqvL_py x y
    | _ => simp [P.py, PyData.eqv, P.eqv]
  | .dct ks x, b => by cases b <;> simp [P.py, PyData.eqv, P.eqv]
theorem eqvL_py : ∀ a b : List P, PyData.eqvAll (pyL a) (pyL b) = eqvL a b
  | [], [] => by simp [pyL, PyData.eqvAll, eqvL]
  | [], _ :: _ => by simp [pyL, PyData.eqvAll, eqvL]
  | _ :: _, [] => by simp [pyL, PyData.eqvAll, eqvL]
  | x :: xs, y :: ys => by simp only [pyL, PyData.eqvAll, eqvL]; rw [P.eqv_py x y, eqvL_py xs ys]
end

/-! what == may be asked of: no dict, no text of repr within, plain signs -/
mutual
def P.plain : P → Bool
  | .non | .bl _ | .int _ => true
  | .str x => x.all (· < 128)
  | .rep _ => false
  | .tup xs | .lst xs => plainL xs
  | .dct _ _ => false
def plainL : List P → Bool
  | [] => true
  | x :: xs => P.plain x && plainL xs
end
mutual
def P.dep : P → Nat
  | .tup xs | .lst xs => depL xs + 1
  | .dct _ xs => depL xs + 1
  | _ => 0
def depL : List P → Nat
  | [] => 0
  | x :: xs => max (P.dep x) (depL xs)
end
/-! what repr may be asked of -/
def intFit (i : Int) : Bool := decide (-999999999999 ≤ i) && decide (i < 10 ^ 40)
mutual
def P.fit : P → Bool
  | .non | .bl _ => true
  | .int i => intFit i
  | .str x => x.all (· < 128)
  | .rep _ => false
  | .tup xs | .lst xs => fitL xs
  | .dct ks xs => (ks.all fun k => match k with | .inl i => intFit i | .inr x => x.all (· < 128)) && decide (ks.length = xs.length) && fitL xs
def fitL : List P → Bool
  | [] => true
  | x :: xs => P.fit x && fitL xs
end
def intWt (i : Int) : Nat := if i.natAbs < 1024 then 10 else 134
mutual
def P.wt : P → Nat
  | .int i => intWt i
  | .str x => x.length
  | .tup xs | .lst xs => wtL xs
  | .dct ks xs => wtK ks + wtL xs
  | _ => 0
def wtL : List P → Nat
  | [] => 0
  | x :: xs => P.wt x + 1 + wtL xs
def wtK : List (Sum Int (List Nat)) → Nat
  | [] => 0
  | .inl i :: r => intWt i + 2 + wtK r
  | .inr x :: r => x.length + 2 + wtK r
end

mutual
theorem P.eqv_refl : ∀ a : P, a.plain = true → P.eqv a a = true
  | .non, _ => by simp [P.eqv]
  | .bl x, _ => by simp [P.eqv]
  | .int x, _ => by simp [P.eqv]
  | .str x, _ => by simp [P.eqv]
  | .rep x, h => by simp [P.plain] at h
  | .tup x, h => by simp only [P.eqv]; exact eqvL_refl x (by simpa [P.plain] using h)
  | .lst x, h => by simp only [P.eqv]; exact eqvL_refl x (by simpa [P.plain] using h)
  | .dct _ x, h => by simp [P.plain] at h
theorem eqvL_refl : ∀ a : List P, plainL a = true → eqvL a a = true
  | [], _ => by simp [eqvL]
  | x :: xs, h => by
    have h' : x.plain = true ∧ plainL xs = true := by simpa [plainL] using h
    simp [eqvL, P.eqv_refl x h'.1, eqvL_refl xs h'.2]
end
theorem strOk_T {x : List Nat} (h : x.all (· < 128) = true) : PyData.strOk (T x) = true := by
  unfold PyData.strOk
  rw [Array.all_eq_true_iff_forall_mem]
  intro c hc
  have := List.all_eq_true.mp h c (by simpa using hc)
  simp only [decide_eq_true_eq] at this ⊢
  omega
mutual
theorem P.canLay : ∀ a : P, a.plain = true → a.py.canLay0 = true
  | .non, _ => by simp [P.py, PyData.canLay0]
  | .bl x, _ => by simp [P.py, PyData.canLay0]
  | .int x, _ => by simp [P.py, PyData.canLay0]
  | .str x, h => by simp only [P.py, PyData.canLay0]; exact strOk_T (by simpa [P.plain] using h)
  | .rep x, h => by simp [P.plain] at h
  | .tup x, h => by simp only [P.py, PyData.canLay0]; exact canLayL x (by simpa [P.plain] using h)
  | .lst x, h => by simp only [P.py, PyData.canLay0]; exact canLayL x (by simpa [P.plain] using h)
  | .dct _ x, h => by simp [P.plain] at h
theorem canLayL : ∀ a : List P, plainL a = true → PyData.canLayAll0 (pyL a) = true
  | [], _ => by simp [pyL, PyData.canLayAll0]
  | x :: xs, h => by
    have h' : x.plain = true ∧ plainL xs = true := by simpa [plainL] using h
    simp [pyL, PyData.canLayAll0, P.canLay x h'.1, canLayL xs h'.2]
end
theorem kpy_depth (k : Sum Int (List Nat)) : (kpy k).depth = 0 := by cases k <;> simp [kpy, PyData.depth]
theorem depthKv_zip : ∀ (ks : List (Sum Int (List Nat))) (vs : List PyData), PyData.depthKv ((ks.map kpy).zip vs) ≤ PyData.depthAll vs
  | [], vs => by simp [PyData.depthKv]
  | _ :: _, [] => by simp [PyData.depthKv]
  | k :: ks, v :: vs => by
    have := depthKv_zip ks vs
    simp only [List.map_cons, List.zip_cons_cons, PyData.depthKv, PyData.depthAll, kpy_depth]
    omega
mutual
theorem P.depth_py : ∀ a : P, a.py.depth ≤ a.dep
  | .non => by simp [P.py, PyData.depth]
  | .bl x => by simp [P.py, PyData.depth]
  | .int x => by simp [P.py, PyData.depth]
  | .str x => by simp [P.py, PyData.depth]
  | .rep x => by simp [P.py, PyData.depth]
  | .tup x => by have := depthL_py x; simp only [P.py, PyData.depth, P.dep]; omega
  | .lst x => by have := depthL_py x; simp only [P.py, PyData.depth, P.dep]; omega
  | .dct ks x => by
    have := depthL_py x
    have h2 := depthKv_zip ks (pyL x)
    simp only [P.py, PyData.depth, P.dep]; omega
theorem depthL_py : ∀ a : List P, PyData.depthAll (pyL a) ≤ depL a
  | [] => by simp [pyL, PyData.depthAll]
  | x :: xs => by have := P.depth_py x; have := depthL_py xs; simp only [pyL, PyData.depthAll, depL]; omega
end
theorem P.shaped {a : P} (h : a.plain = true) (hd : a.dep ≤ 60) : SeqAt.shaped a.py = true := by
  unfold SeqAt.shaped
  have := P.depth_py a
  simp only [Bool.and_eq_true, decide_eq_true_eq]
  exact ⟨P.canLay a h, by omega⟩


theorem intFit_iff {i : Int} : intFit i = true ↔ -999999999999 ≤ i ∧ i < 10 ^ 40 := by
  unfold intFit
  simp only [Bool.and_eq_true, decide_eq_true_eq]
theorem intFit_log {i : Int} (h : intFit i = true) : i.natAbs.log2 < 1920 := by
  obtain ⟨h1, h2⟩ := intFit_iff.mp h
  refine PySem.Spec.log2_small (Nat.lt_of_lt_of_le (show i.natAbs < 10 ^ 40 from ?_) (by decide +kernel))
  have e : (10 : Int) ^ 40 = 10000000000000000000000000000000000000000 := by decide
  have e2 : (10 : Nat) ^ 40 = 10000000000000000000000000000000000000000 := by decide
  omega
theorem intFit_len {i : Int} (h : intFit i = true) : (PyData.shown (.int i)).length ≤ 40 := by
  obtain ⟨h1, h2⟩ := intFit_iff.mp h
  by_cases h0 : 0 ≤ i
  · rw [PyData.shown_int]
    exact PyProof.Rows.toString_length_le h0 (by decide) h2
  · exact Nat.le_trans (PyData.shown_int_le2 h1 (by omega)) (by decide)
theorem intFit_wt {i : Int} (h : intFit i = true) : (PyData.int i).weight ≤ intWt i := by
  obtain ⟨h1, h2⟩ := intFit_iff.mp h
  simp only [PyData.weight]
  unfold intWt
  have e : (10 : Int) ^ 40 = 10000000000000000000000000000000000000000 := by decide
  split
  · split <;> omega
  · rename_i hi
    have hi' : i ≠ 0 := by simpa using hi
    have hne : i.natAbs ≠ 0 := by omega
    split
    · rename_i h3
      have : i.natAbs.log2 < 10 := (Nat.log2_lt hne).mpr (by omega)
      omega
    · have : i.natAbs.log2 < 133 := (Nat.log2_lt hne).mpr (by
        have e2 : (2 : Nat) ^ 133 = 10889035741470030830827987437816582766592 := by decide
        omega)
      omega
theorem str_small {x : List Nat} (h : x.all (· < 128) = true) : (T x).cps.toList.all (fun c => decide (c < 16 ^ 8)) = true := by
  rw [List.all_eq_true] at h ⊢
  intro c hc
  have h2 := h c (by simpa using hc)
  simp only [decide_eq_true_eq] at h2 ⊢
  have e : (16 : Nat) ^ 8 = 4294967296 := by decide
  omega
def kOk : Sum Int (List Nat) → Bool
  | .inl i => intFit i
  | .inr x => x.all (· < 128)
theorem kpy_ok : ∀ (ks : List (Sum Int (List Nat))) (vs : List PyData), ks.all kOk = true → PyData.showableAll vs = true → PyData.leavesShortAll 40 vs = true →
    PyData.showableKv ((ks.map kpy).zip vs) = true ∧ PyData.leavesShortKv 40 ((ks.map kpy).zip vs) = true ∧ PyData.weightKv ((ks.map kpy).zip vs) ≤ wtK ks + PyData.weightAll vs
  | [], vs, _, _, _ => by simp [PyData.showableKv, PyData.leavesShortKv, PyData.weightKv]
  | _ :: _, [], _, _, _ => by simp [PyData.showableKv, PyData.leavesShortKv, PyData.weightKv]
  | k :: ks, v :: vs, h1, h2, h3 => by
    simp only [List.all_cons, Bool.and_eq_true] at h1
    simp only [PyData.showableAll, Bool.and_eq_true] at h2
    simp only [PyData.leavesShortAll, Bool.and_eq_true] at h3
    obtain ⟨a, b, c⟩ := kpy_ok ks vs h1.2 h2.2 h3.2
    cases k with
    | inl i =>
      have hi : intFit i = true := h1.1
      have g1 := intFit_log hi
      have g2 := intFit_len hi
      have g3 := intFit_wt hi
      simp only [List.map_cons, List.zip_cons_cons, kpy, PyData.showableKv, PyData.leavesShortKv, PyData.weightKv, PyData.weightAll, wtK, PyData.showable, PyData.leavesShort, a, b, h2.1, h3.1, g1, g2, decide_true, Bool.and_true, true_and]
      omega
    | inr x =>
      have hx : x.all (· < 128) = true := h1.1
      have g2 := str_small hx
      have g3 : (PyData.str (T x)).weight = x.length := by simp [PyData.weight]
      simp only [List.map_cons, List.zip_cons_cons, kpy, PyData.showableKv, PyData.leavesShortKv, PyData.weightKv, PyData.weightAll, wtK, PyData.showable, PyData.leavesShort, a, b, h2.1, h3.1, g2, decide_true, Bool.and_true, true_and, g3]
      omega
mutual
theorem P.fit_py : ∀ a : P, a.fit = true → a.py.showable = true ∧ a.py.leavesShort 40 = true ∧ a.py.weight ≤ a.wt
  | .non, _ => by simp [P.py, PyData.showable, PyData.leavesShort, PyData.weight]
  | .bl x, _ => by simp [P.py, PyData.showable, PyData.leavesShort, PyData.weight]
  | .int x, h => by
    have h : intFit x = true := by simpa [P.fit] using h
    have g1 := intFit_log h
    have g2 := intFit_len h
    have g3 := intFit_wt h
    refine ⟨by simp [P.py, PyData.showable, g1], by simp [P.py, PyData.leavesShort, g2], by simpa only [P.py, P.wt] using g3⟩
  | .str x, h => by
    have h : x.all (· < 128) = true := by simpa only [P.fit] using h
    refine ⟨by simp [P.py, PyData.showable], by simp only [P.py, PyData.leavesShort]; exact str_small h, by simp [P.py, PyData.weight, P.wt]⟩
  | .rep x, h => by simp [P.fit] at h
  | .tup x, h => by
    obtain ⟨a, b, c⟩ := fitL_py x (by simpa only [P.fit] using h)
    exact ⟨by simpa only [P.py, PyData.showable] using a, by simpa only [P.py, PyData.leavesShort] using b, by simpa only [P.py, PyData.weight, P.wt] using c⟩
  | .lst x, h => by
    obtain ⟨a, b, c⟩ := fitL_py x (by simpa only [P.fit] using h)
    exact ⟨by simpa only [P.py, PyData.showable] using a, by simpa only [P.py, PyData.leavesShort] using b, by simpa only [P.py, PyData.weight, P.wt] using c⟩
  | .dct ks x, h => by
    simp only [P.fit, Bool.and_eq_true] at h
    obtain ⟨⟨h1, _⟩, h3⟩ := h
    obtain ⟨a, b, c⟩ := fitL_py x h3
    obtain ⟨p, q, r⟩ := kpy_ok ks (pyL x) h1 a b
    exact ⟨by simpa only [P.py, PyData.showable] using p, by simpa only [P.py, PyData.leavesShort] using q, by simp only [P.py, PyData.weight, P.wt]; omega⟩
theorem fitL_py : ∀ a : List P, fitL a = true → PyData.showableAll (pyL a) = true ∧ PyData.leavesShortAll 40 (pyL a) = true ∧ PyData.weightAll (pyL a) ≤ wtL a
  | [], _ => by simp [pyL, PyData.showableAll, PyData.leavesShortAll, PyData.weightAll]
  | x :: xs, h => by
    have h' : x.fit = true ∧ fitL xs = true := by simpa [fitL] using h
    obtain ⟨a, b, c⟩ := P.fit_py x h'.1
    obtain ⟨p, q, r⟩ := fitL_py xs h'.2
    simp only [pyL, PyData.showableAll, PyData.leavesShortAll, PyData.weightAll, wtL, a, b, p, q, Bool.and_self, true_and]
    omega
end
theorem P.shown_ok {a : P} (h : a.fit = true) (hw : a.wt ≤ 390000) : a.py.showable = true ∧ a.py.shown.length + 64 ≤ sizeLine := by
  obtain ⟨p, q, r⟩ := P.fit_py a h
  have h1 := PyData.shown_le 40 (by decide) a.py q
  have h2 : (40 + 2) * a.py.weight ≤ 42 * 390000 := Nat.mul_le_mul (by omega) (by omega)
  rw [sizeLine_eq]
  exact ⟨p, by omega⟩
end Mx
end

section
set_option Elab.async false
set_option linter.all false
set_option maxRecDepth 100000
set_option autoImplicit false
set_option maxHeartbeats 4000000
namespace Mx
open PySem L2

inductive D where
  | p (x : P) | mu (k : Nat) | tup (xs : List D)
  | dct (ks : List (Sum Int (List Nat))) (vs : List D)
  | scr (ns : List Int)

abbrev DK := Sum Int (List Nat)
def kKey : DK → Key
  | .inl i => .inl i
  | .inr x => .inr (T x)

/-- what may be written -/
inductive MO where
  | lst (xs : List P)
  | dK (ks : List DK) (vs : List P)
  | dT (ks : List (List DK)) (vs : List P)
  | dN (ks vs : List P)
abbrev Sto := List MO

/-! keys of any depth: ints, texts, tuples of these -/
mutual
def nkP : P → NestedKey
  | .int i => .num i
  | .str x => .text (T x)
  | .tup xs => .tup (nkL xs)
  | _ => .none
def nkL : List P → List NestedKey
  | [] => []
  | x :: r => nkP x :: nkL r
end
mutual
def nkOk : P → Bool
  | .int _ => true
  | .str _ => true
  | .tup xs => nkOkL xs
  | _ => false
def nkOkL : List P → Bool
  | [] => true
  | x :: r => nkOk x && nkOkL r
end
mutual
theorem nkP_inj : ∀ {a b : P}, nkOk a = true → nkOk b = true → nkP a = nkP b → a = b
  | .int i, b, _, hb, h => by cases b <;> simp [nkP, nkOk] at h hb ⊢; exact h
  | .str x, b, _, hb, h => by cases b <;> simp [nkP, nkOk] at h hb ⊢; exact h
  | .tup xs, b, ha, hb, h => by
    cases b with
    | tup ys =>
      simp only [nkP, NestedKey.tup.injEq] at h
      rw [nkL_inj (by simpa [nkOk] using ha) (by simpa [nkOk] using hb) h]
    | _ => simp [nkP, nkOk] at h hb
  | .non, b, ha, _, _ => by simp [nkOk] at ha
  | .bl _, b, ha, _, _ => by simp [nkOk] at ha
  | .rep _, b, ha, _, _ => by simp [nkOk] at ha
  | .lst _, b, ha, _, _ => by simp [nkOk] at ha
  | .dct _ _, b, ha, _, _ => by simp [nkOk] at ha
theorem nkL_inj : ∀ {a b : List P}, nkOkL a = true → nkOkL b = true → nkL a = nkL b → a = b
  | [], [], _, _, _ => rfl
  | [], _ :: _, _, _, h => by simp [nkL] at h
  | _ :: _, [], _, _, h => by simp [nkL] at h
  | x :: a, y :: b, ha, hb, h => by
    have h1 : nkOk x = true ∧ nkOkL a = true := by simpa [nkOkL] using ha
    have h2 : nkOk y = true ∧ nkOkL b = true := by simpa [nkOkL] using hb
    simp only [nkL, List.cons.injEq] at h
    rw [nkP_inj h1.1 h2.1 h.1, nkL_inj h1.2 h2.2 h.2]
end
def isTP : P → Bool
  | .tup _ => true
  | _ => false
/-- what may be a key: a tuple, of no great depth -/
def okN (x : P) : Bool := isTP x && nkOk x && decide (x.dep ≤ 7)
/-- the world in which the program runs: its texts' hashes hang on it -/
class WW where
  w : World
def entW (w : World) (x : NestedKey × Addr × Value) : DictEntry := ⟨x.1.hash w, .ref x.2.1, x.2.2⟩
def DictN (w : World) (a : Addr) (xs : List (NestedKey × Addr × Value)) : HO := .ext fun h => (a == sysModules) = false ∧ ∃ o es ep, h.get? a = some o ∧ o.ExactDict ∧ o.data = .dict es ep ∧ es.toList = xs.map (entW w)
/-- neither written nor kept apart -/
def Out (L Z : List Addr) (a : Addr) : Prop := a ∉ L ∧ a ∉ Z
section
variable (K : PySem.W.Frag) (H : Hp) (L Z : List Addr)
mutual
inductive Rp : V → P → Prop
  | non : Rp .non .non
  | bl (b : Bool) : Rp (.bl b) (.bl b)
  | int (i : Int) : Rp (.int i) (.int i)
  | str (x : List Nat) : Rp (.str (T x)) (.str x)
  | rep (p : P) : Rp (.str p.py.shown) (.rep p)
  | tup {a : Addr} {vs : List V} {ps : List P} {o : Obj} : H a = some (.frz o (.tup vs)) → o.dict = none → Out L Z a → RpL vs ps → Rp (.ref a) (.tup ps)
  | tupK {a : Addr} {vs : List V} {ps : List P} : SqT K (fun _ => none) a vs → (∃ o, K.lookup a = some o ∧ o.cls = .type "tuple" ∧ o.dict = none) → RpL vs ps → Rp (.ref a) (.tup ps)
  | lst {a : Addr} {vs : List V} {ps : List P} : H a = some (.lst vs) → Out L Z a → RpL vs ps → Rp (.ref a) (.lst ps)
  | dct {a : Addr} {kvs : List (Key × V)} {ks : List DK} {ps : List P} : H a = some (.dK kvs) → Out L Z a → kvs.map (·.1) = ks.map kKey → RpL (kvs.map (·.2)) ps → Rp (.ref a) (.dct ks ps)
inductive RpL : List V → List P → Prop
  | nil : RpL [] []
  | cons {v : V} {vs : List V} {p : P} {ps : List P} : Rp v p → RpL vs ps → RpL (v :: vs) (p :: ps)
end
mutual
inductive RD : V → D → Prop
  | p {v : V} {x : P} : Rp K H L Z v x → RD v (.p x)
  | mu {a : Addr} {k : Nat} : L[k]? = some a → RD (.ref a) (.mu k)
  | tup {a : Addr} {vs : List V} {ds : List D} : Rd H a (.tup vs) → Out L Z a → RDL vs ds → RD (.ref a) (.tup ds)
  | dct {a : Addr} {kvs : List (Key × V)} {ks : List DK} {ds : List D} : H a = some (.dK kvs) → Out L Z a → kvs.map (·.1) = ks.map kKey → RDL (kvs.map (·.2)) ds → RD (.ref a) (.dct ks ds)
  | scr {a : Addr} {ns : List Int} : Rd H a (.lst (ns.map V.int)) → Out L Z a → RD (.ref a) (.scr ns)
  | scrK {a : Addr} {ns : List Int} : SqL K (fun _ => none) a (ns.map V.int) → RD (.ref a) (.scr ns)
inductive RDL : List V → List D → Prop
  | nil : RDL [] []
  | cons {v : V} {vs : List V} {d : D} {ds : List D} : RD v d → RDL vs ds → RDL (v :: vs) (d :: ds)
end
end

/-- from (H, L) on: what may not be written stays; the written ones keep their places -/
structure Ext (H : Hp) (L : List Addr) (H' : Hp) (L' : List Addr) : Prop where
  keep : ∀ a o, H a = some o → a ∉ L → H' a = some o
  dom : ∀ a, H a ≠ none → H' a ≠ none
  pre : ∀ (k : Nat) a, L[k]? = some a → L'[k]? = some a
  new : ∀ a, a ∈ L' → a ∈ L ∨ H a = none

section
variable {K : PySem.W.Frag} {H H1 H2 : Hp} {L L1 L9 Z : List Addr}
theorem Ext.refl : Ext H L H L := ⟨fun _ _ h _ => h, fun _ h => h, fun _ _ h => h, fun _ h => .inl h⟩
theorem Ext.trans (a : Ext H L H1 L1) (b : Ext H1 L1 H2 L9) : Ext H L H2 L9 where
  keep := fun x o h hx => b.keep x o (a.keep x o h hx) fun hm => by
    rcases a.new x hm with z | z
    · exact hx z
    · rw [h] at z; cases z
  dom := fun x h => b.dom x (a.dom x h)
  pre := fun k x h => b.pre k x (a.pre k x h)
  new := fun x hx => by
    rcases b.new x hx with z | z
    · exact a.new x z
    · refine .inr ?_
      cases e : H x with
      | none => rfl
      | some o => exact absurd z (a.dom x (by rw [e]; simp))
/-- .. what is kept apart may change too -/
structure ExtZ (Z : List Addr) (H : Hp) (L : List Addr) (H' : Hp) (L' : List Addr) : Prop where
  keep : ∀ a o, H a = some o → a ∉ L → a ∉ Z → H' a = some o
  dom : ∀ a, H a ≠ none → H' a ≠ none
  pre : ∀ (k : Nat) a, L[k]? = some a → L'[k]? = some a
  new : ∀ a, a ∈ L' → a ∈ L ∨ H a = none
theorem Ext.z (e : Ext H L H1 L1) : ExtZ Z H L H1 L1 := ⟨fun a o h n _ => e.keep a o h n, e.dom, e.pre, e.new⟩
theorem ExtZ.refl : ExtZ Z H L H L := (Ext.refl (H := H) (L := L)).z
theorem ExtZ.trans (a : ExtZ Z H L H1 L1) (b : ExtZ Z H1 L1 H2 L9) : ExtZ Z H L H2 L9 where
  keep := fun x o h hx hz => b.keep x o (a.keep x o h hx hz) (fun hm => by
    rcases a.new x hm with z | z
    · exact hx z
    · rw [h] at z; cases z) hz
  dom := fun x h => b.dom x (a.dom x h)
  pre := fun k x h => b.pre k x (a.pre k x h)
  new := fun x hx => by
    rcases b.new x hx with z | z
    · exact a.new x z
    · refine .inr ?_
      cases e : H x with
      | none => rfl
      | some o => exact absurd z (a.dom x (by rw [e]; simp))
theorem ExtZ.out (e : ExtZ Z H L H1 L1) {a : Addr} {o : HO} (h : H a = some o) (hn : Out L Z a) : Out L1 Z a := ⟨fun hm => (e.new a hm).elim hn.1 fun z => (by rw [h] at z; cases z), hn.2⟩
theorem ExtZ.rd (e : ExtZ Z H L H1 L1) {a : Addr} {u : HO} (h : Rd H a u) (hn : Out L Z a) : Rd H1 a u ∧ Out L1 Z a := by
  rcases h with h | ⟨o, h⟩
  · exact ⟨.inl (e.keep _ _ h hn.1 hn.2), e.out h hn⟩
  · exact ⟨.inr ⟨o, e.keep _ _ h hn.1 hn.2⟩, e.out h hn⟩
theorem Ext.out (e : Ext H L H1 L1) {a : Addr} {o : HO} (h : H a = some o) (hn : Out L Z a) : Out L1 Z a := (e.z (Z := Z)).out h hn
theorem Ext.rd (e : Ext H L H1 L1) {a : Addr} {u : HO} (h : Rd H a u) (hn : Out L Z a) : Rd H1 a u ∧ Out L1 Z a := (e.z (Z := Z)).rd h hn
mutual
theorem Rp.extZ (e : ExtZ Z H L H1 L1) : ∀ {v : V} {p : P}, Rp K H L Z v p → Rp K H1 L1 Z v p
  | _, _, .non => .non
  | _, _, .bl b => .bl b
  | _, _, .int i => .int i
  | _, _, .str x => .str x
  | _, _, .rep p => .rep p
  | _, _, .tup h d n r => .tup (e.keep _ _ h n.1 n.2) d (e.out h n) (RpL.extZ e r)
  | _, _, .tupK h k r => .tupK h k (RpL.extZ e r)
  | _, _, .lst h n r => .lst (e.keep _ _ h n.1 n.2) (e.out h n) (RpL.extZ e r)
  | _, _, .dct h n k r => .dct (e.keep _ _ h n.1 n.2) (e.out h n) k (RpL.extZ e r)
theorem RpL.extZ (e : ExtZ Z H L H1 L1) : ∀ {vs : List V} {ps : List P}, RpL K H L Z vs ps → RpL K H1 L1 Z vs ps
  | _, _, .nil => .nil
  | _, _, .cons h r => .cons (Rp.extZ e h) (RpL.extZ e r)
end
mutual
theorem RD.extZ (e : ExtZ Z H L H1 L1) : ∀ {v : V} {d : D}, RD K H L Z v d → RD K H1 L1 Z v d
  | _, _, .p h => .p (h.extZ e)
  | _, _, .mu h => .mu (e.pre _ _ h)
  | _, _, .tup h n r => .tup (e.rd h n).1 (e.rd h n).2 (RDL.extZ e r)
  | _, _, .dct h n k r => .dct (e.keep _ _ h n.1 n.2) (e.out h n) k (RDL.extZ e r)
  | _, _, .scr h n => .scr (e.rd h n).1 (e.rd h n).2
  | _, _, .scrK h => .scrK h
theorem RDL.extZ (e : ExtZ Z H L H1 L1) : ∀ {vs : List V} {ds : List D}, RDL K H L Z vs ds → RDL K H1 L1 Z vs ds
  | _, _, .nil => .nil
  | _, _, .cons h r => .cons (RD.extZ e h) (RDL.extZ e r)
end
theorem Rp.ext (e : Ext H L H1 L1) {v : V} {p : P} (h : Rp K H L Z v p) : Rp K H1 L1 Z v p := h.extZ e.z
theorem RpL.ext (e : Ext H L H1 L1) {vs : List V} {ps : List P} (h : RpL K H L Z vs ps) : RpL K H1 L1 Z vs ps := h.extZ e.z
theorem RD.ext (e : Ext H L H1 L1) {v : V} {d : D} (h : RD K H L Z v d) : RD K H1 L1 Z v d := h.extZ e.z
theorem RDL.ext (e : Ext H L H1 L1) {vs : List V} {ds : List D} (h : RDL K H L Z vs ds) : RDL K H1 L1 Z vs ds := h.extZ e.z

/-! lists of related values -/
theorem RpL.len : ∀ {vs : List V} {ps : List P}, RpL K H L Z vs ps → vs.length = ps.length
  | _, _, .nil => rfl
  | _, _, .cons _ r => congrArg (· + 1) r.len
theorem RpL.get : ∀ {vs : List V} {ps : List P} {i : Nat} {p : P}, RpL K H L Z vs ps → ps[i]? = some p → ∃ v, vs[i]? = some v ∧ Rp K H L Z v p
  | _, _, _, _, .nil, h => by simp at h
  | _, _, 0, _, .cons h _, e => by simp at e; subst e; exact ⟨_, rfl, h⟩
  | _, _, i + 1, p, .cons _ r, e => by
    obtain ⟨v, h1, h2⟩ := RpL.get (i := i) (p := p) r (by simpa using e)
    exact ⟨v, by simpa using h1, h2⟩
theorem RpL.getV : ∀ {vs : List V} {ps : List P} {i : Nat} {v : V}, RpL K H L Z vs ps → vs[i]? = some v → ∃ p, ps[i]? = some p ∧ Rp K H L Z v p
  | _, _, _, _, .nil, h => by simp at h
  | _, _, 0, _, .cons h _, e => by simp at e; subst e; exact ⟨_, rfl, h⟩
  | _, _, i + 1, v, .cons _ r, e => by
    obtain ⟨p, h1, h2⟩ := RpL.getV (i := i) (v := v) r (by simpa using e)
    exact ⟨p, by simpa using h1, h2⟩
theorem RpL.app : ∀ {vs us : List V} {ps qs : List P}, RpL K H L Z vs ps → RpL K H L Z us qs → RpL K H L Z (vs ++ us) (ps ++ qs)
  | _, _, _, _, .nil, s => s
  | _, _, _, _, .cons h r, s => .cons h (r.app s)
theorem RpL.take : ∀ {vs : List V} {ps : List P} (n : Nat), RpL K H L Z vs ps → RpL K H L Z (vs.take n) (ps.take n)
  | _, _, 0, _ => by simpa using RpL.nil
  | _, _, _ + 1, .nil => .nil
  | _, _, n + 1, .cons h r => .cons h (r.take n)
theorem RpL.drop : ∀ {vs : List V} {ps : List P} (n : Nat), RpL K H L Z vs ps → RpL K H L Z (vs.drop n) (ps.drop n)
  | _, _, 0, r => r
  | _, _, _ + 1, .nil => .nil
  | _, _, n + 1, .cons _ r => r.drop n
theorem RpL.set {v : V} {p : P} (h : Rp K H L Z v p) : ∀ {vs : List V} {ps : List P} (n : Nat), RpL K H L Z vs ps → RpL K H L Z (vs.set n v) (ps.set n p)
  | _, _, _, .nil => .nil
  | _, _, 0, .cons _ r => .cons h r
  | _, _, n + 1, .cons q r => .cons q (RpL.set h n r)
theorem RpL.rev : ∀ {vs : List V} {ps : List P}, RpL K H L Z vs ps → RpL K H L Z vs.reverse ps.reverse
  | _, _, .nil => .nil
  | _, _, .cons h r => by
    rw [List.reverse_cons, List.reverse_cons]
    exact r.rev.app (.cons h .nil)
theorem RpL.rep {vs : List V} {ps : List P} (r : RpL K H L Z vs ps) : ∀ n : Nat, RpL K H L Z (List.replicate n vs).flatten (List.replicate n ps).flatten
  | 0 => .nil
  | n + 1 => by
    rw [List.replicate_succ, List.replicate_succ, List.flatten_cons, List.flatten_cons]
    exact r.app (RpL.rep r n)
theorem RpL.ints : ∀ ns : List Int, RpL K H L Z (ns.map V.int) (ns.map P.int)
  | [] => .nil
  | _ :: r => .cons (.int _) (RpL.ints r)
theorem RpL.nil_iff {vs : List V} {ps : List P} (r : RpL K H L Z vs ps) : vs = [] ↔ ps = [] := by
  cases r with
  | nil => simp
  | cons _ _ => simp
theorem RDL.len : ∀ {vs : List V} {ds : List D}, RDL K H L Z vs ds → vs.length = ds.length
  | _, _, .nil => rfl
  | _, _, .cons _ r => congrArg (· + 1) r.len
theorem RDL.get : ∀ {vs : List V} {ds : List D} {i : Nat} {d : D}, RDL K H L Z vs ds → ds[i]? = some d → ∃ v, vs[i]? = some v ∧ RD K H L Z v d
  | _, _, _, _, .nil, h => by simp at h
  | _, _, 0, _, .cons h _, e => by simp at e; subst e; exact ⟨_, rfl, h⟩
  | _, _, i + 1, d, .cons _ r, e => by
    obtain ⟨v, h1, h2⟩ := RDL.get (i := i) (d := d) r (by simpa using e)
    exact ⟨v, by simpa using h1, h2⟩
/-- all of them without what may be written -/
def allP : List D → Option (List P)
  | [] => some []
  | .p x :: r => (allP r).map (x :: ·)
  | _ :: _ => none
theorem RDL.allP : ∀ {vs : List V} {ds : List D} {ps : List P}, RDL K H L Z vs ds → Mx.allP ds = some ps → RpL K H L Z vs ps
  | _, _, _, .nil, e => by
    simp only [Mx.allP, Option.some.injEq] at e
    subst e; exact .nil
  | _, _, _, .cons (d := d) h r, e => by
    cases d with
    | p x =>
      simp only [Mx.allP, Option.map_eq_some_iff] at e
      obtain ⟨qs, e1, e2⟩ := e
      subst e2
      cases h with
      | p h => exact .cons h (r.allP e1)
    | _ => simp [Mx.allP] at e

/-! ### the store -/
variable [WW]
def MoR (K : PySem.W.Frag) (H : Hp) (L Z : List Addr) (a : Addr) : MO → Prop
  | .lst ps => ∃ vs, H a = some (.lst vs) ∧ RpL K H L Z vs ps
  | .dK ks ps => ∃ kvs : List (Key × V), H a = some (.dK kvs) ∧ kvs.map (·.1) = ks.map kKey ∧ RpL K H L Z (kvs.map (·.2)) ps
  | .dT ks ps => ∃ kvs : List (List Key × V), H a = some (.dT kvs) ∧ kvs.map (·.1) = ks.map (fun k => k.map kKey) ∧ RpL K H L Z (kvs.map (·.2)) ps
  | .dN ks ps => ∃ (xs : List (NestedKey × Addr × Value)) (vs : List V), H a = some (DictN WW.w a xs) ∧ xs.map (·.1) = ks.map nkP ∧ (ks.all okN = true ∧ ks.Nodup ∧ ks.length ≤ 100000) ∧ RpL K H L Z (xs.map fun x => V.ref x.2.1) ks ∧ Vals vs (xs.map (·.2.2)) ∧ RpL K H L Z vs ps
structure StR (K : PySem.W.Frag) (H : Hp) (L Z : List Addr) (S : Sto) : Prop where
  len : L.length = S.length
  nd : L.Nodup
  zs : ∀ a ∈ Z, H a ≠ none
  at_ : ∀ (k : Nat) (a : Addr) (o : MO), L[k]? = some a → S[k]? = some o → MoR K H L Z a o
theorem MoR.there {a : Addr} {o : MO} (h : MoR K H L Z a o) : H a ≠ none := by
  cases o with
  | lst ps => obtain ⟨vs, e, _⟩ := h; rw [e]; simp
  | dK ks ps => obtain ⟨vs, e, _⟩ := h; rw [e]; simp
  | dT ks ps => obtain ⟨vs, e, _⟩ := h; rw [e]; simp
  | dN ks ps => obtain ⟨xs, vs, e, _⟩ := h; rw [e]; simp
theorem StR.there {S : Sto} (s : StR K H L Z S) {a : Addr} (h : a ∈ L) : H a ≠ none := by
  obtain ⟨k, hk⟩ := List.getElem?_of_mem h
  have hl : k < L.length := (List.getElem?_eq_some_iff.mp hk).1
  have hs : k < S.length := by rw [← s.len]; exact hl
  exact (s.at_ k a S[k] hk (List.getElem?_eq_getElem hs)).there
theorem StR.free {S : Sto} (s : StR K H L Z S) {a : Addr} (h : H a = none) : a ∉ L := fun hm => s.there hm h
theorem StR.find {S : Sto} (s : StR K H L Z S) {k : Nat} {o : MO} (h : S[k]? = some o) : ∃ a, L[k]? = some a ∧ MoR K H L Z a o := by
  have hs : k < S.length := (List.getElem?_eq_some_iff.mp h).1
  have hl : k < L.length := by rw [s.len]; exact hs
  exact ⟨L[k], List.getElem?_eq_getElem hl, s.at_ k _ o (List.getElem?_eq_getElem hl) h⟩

theorem StR.out {S : Sto} (s : StR K H L Z S) {a : Addr} (h : H a = none) : Out L Z a := ⟨s.free h, fun hm => s.zs a hm h⟩

/-- a new object that may not be written -/
theorem Ext.new_ {p : Addr} {o : HO} (h : H p = none) : Ext H L (upd H p o) L where
  keep := fun a u e _ => by rw [upd_ne (ne_of_none e h)]; exact e
  dom := fun a e => by
    by_cases ha : a = p
    · subst ha; exact absurd h e
    · rw [upd_ne ha]; exact e
  pre := fun _ _ h => h
  new := fun _ h => .inl h
/-- one that may -/
theorem Ext.newM {p : Addr} {o : HO} (h : H p = none) : Ext H L (upd H p o) (L ++ [p]) where
  keep := fun a u e _ => by rw [upd_ne (ne_of_none e h)]; exact e
  dom := fun a e => by
    by_cases ha : a = p
    · subst ha; exact absurd h e
    · rw [upd_ne ha]; exact e
  pre := fun k a h => by rw [List.getElem?_append_left (List.getElem?_eq_some_iff.mp h).1]; exact h
  new := fun a h => by
    rcases List.mem_append.mp h with z | z
    · exact .inl z
    · have : a = p := by simpa using z
      subst this; exact .inr ‹_›
/-- a written one -/
theorem Ext.write {a : Addr} {o : HO} (h : a ∈ L) : Ext H L (upd H a o) L where
  keep := fun b u e hn => by rw [upd_ne fun z => hn (by rw [z]; exact h)]; exact e
  dom := fun b e => by
    by_cases hb : b = a
    · subst hb; rw [upd_same]; simp
    · rw [upd_ne hb]; exact e
  pre := fun _ _ h => h
  new := fun _ h => .inl h
theorem MoR.ext {S : Sto} {a : Addr} {o : MO} (e : Ext H L H1 L1) (h : MoR K H L Z a o) (k : H1 a = H a) : MoR K H1 L1 Z a o := by
  cases o with
  | lst ps => obtain ⟨vs, e1, r⟩ := h; exact ⟨vs, by rw [k]; exact e1, r.ext e⟩
  | dK ks ps => obtain ⟨vs, e1, e2, r⟩ := h; exact ⟨vs, by rw [k]; exact e1, e2, r.ext e⟩
  | dT ks ps => obtain ⟨vs, e1, e2, r⟩ := h; exact ⟨vs, by rw [k]; exact e1, e2, r.ext e⟩
  | dN ks ps => obtain ⟨xs, vs, e1, e2, e3, r1, e4, r2⟩ := h; exact ⟨xs, vs, by rw [k]; exact e1, e2, e3, r1.ext e, e4, r2.ext e⟩
theorem StR.laid {S : Sto} (s : StR K H L Z S) {p : Addr} {o : HO} (h : H p = none) : StR K (upd H p o) L Z S :=
  ⟨s.len, s.nd, fun z hz => (Ext.new_ (L := L) h).dom z (s.zs z hz), fun k a u h1 h2 => (s.at_ k a u h1 h2).ext (S := S) (Ext.new_ h) (upd_ne fun z => s.free h (by rw [← z]; exact List.mem_of_getElem? h1))⟩
theorem StR.laidM {S : Sto} (s : StR K H L Z S) {p : Addr} {o : HO} {m : MO} (h : H p = none) (hm : MoR K (upd H p o) (L ++ [p]) Z p m) : StR K (upd H p o) (L ++ [p]) Z (S ++ [m]) := by
  refine ⟨by simp [s.len], ?_, fun z hz => (Ext.new_ (L := L) h).dom z (s.zs z hz), fun k a u h1 h2 => ?_⟩
  · rw [List.nodup_append]
    exact ⟨s.nd, by simp, fun x hx y hy => fun e => by
      have : y = p := by simpa using hy
      subst this; subst e
      exact s.free h hx⟩
  · by_cases hk : k < L.length
    · rw [List.getElem?_append_left hk] at h1
      rw [List.getElem?_append_left (by rw [← s.len]; exact hk)] at h2
      exact (s.at_ k a u h1 h2).ext (S := S) (Ext.newM h) (upd_ne fun z => s.free h (by rw [← z]; exact List.mem_of_getElem? h1))
    · have hk2 : k = L.length := by
        have := (List.getElem?_eq_some_iff.mp h1).1
        simp only [List.length_append, List.length_cons, List.length_nil] at this
        omega
      subst hk2
      rw [List.getElem?_append_right (Nat.le_refl _)] at h1
      rw [List.getElem?_append_right (by rw [s.len]; exact Nat.le_refl _)] at h2
      simp only [Nat.sub_self, List.getElem?_cons_zero, Option.some.injEq, s.len] at h1 h2
      subst h1; subst h2
      exact hm
theorem StR.wrote {S : Sto} (s : StR K H L Z S) {k : Nat} {a : Addr} {o : HO} {m : MO} (hk : L[k]? = some a) (hm : MoR K (upd H a o) L Z a m) : StR K (upd H a o) L Z (S.set k m) := by
  refine ⟨by simp [s.len], s.nd, fun z hz => (Ext.write (List.mem_of_getElem? hk)).dom z (s.zs z hz), fun j b u h1 h2 => ?_⟩
  by_cases hj : j = k
  · subst hj
    rw [hk] at h1; cases h1
    have hl : j < S.length := by rw [← s.len]; exact (List.getElem?_eq_some_iff.mp hk).1
    rw [List.getElem?_set_self hl] at h2
    cases h2
    exact hm
  · rw [List.getElem?_set_ne (Ne.symm hj)] at h2
    refine (s.at_ j b u h1 h2).ext (S := S) (Ext.write (List.mem_of_getElem? hk)) (upd_ne fun z => hj ?_)
    subst z
    obtain ⟨l1, e1⟩ := List.getElem?_eq_some_iff.mp h1
    obtain ⟨l2, e2⟩ := List.getElem?_eq_some_iff.mp hk
    exact (List.getElem_inj s.nd).mp (e1.trans e2.symm)
end

/-! ### slots -/
structure EnvR (K : PySem.W.Frag) (H : Hp) (L Z : List Addr) (σ : St) (env : List (Option D)) : Prop where
  len : σ.length = env.length
  at_ : ∀ (i : Nat) (d : D), env[i]? = some (some d) → ∃ v, σ[i]? = some (some v) ∧ RD K H L Z v d
section
variable {K : PySem.W.Frag} {H H1 H2 : Hp} {L L1 L9 Z : List Addr} {σ : St} {env : List (Option D)}
theorem EnvR.ext (e : Ext H L H1 L1) (r : EnvR K H L Z σ env) : EnvR K H1 L1 Z σ env :=
  ⟨r.len, fun i d h => let ⟨v, h1, h2⟩ := r.at_ i d h; ⟨v, h1, h2.ext e⟩⟩
theorem EnvR.set (r : EnvR K H L Z σ env) {i : Nat} {v : V} {d : D} (h : RD K H L Z v d) : EnvR K H L Z (σ.set i (some v)) (env.set i (some d)) := by
  refine ⟨by simp [r.len], fun j x hx => ?_⟩
  by_cases hj : j = i
  · subst hj
    have hl : j < env.length := by have := (List.getElem?_eq_some_iff.mp hx).1; simpa using this
    rw [List.getElem?_set_self hl] at hx
    cases hx
    exact ⟨v, List.getElem?_set_self (by rw [r.len]; exact hl), h⟩
  · rw [List.getElem?_set_ne (Ne.symm hj)] at hx ⊢
    exact r.at_ j x hx
theorem EnvR.out (r : EnvR K H L Z σ env) {i : Nat} {o : Option V} : EnvR K H L Z (σ.set i o) (env.set i none) := by
  refine ⟨by simp [r.len], fun j x hx => ?_⟩
  by_cases hj : j = i
  · subst hj
    have hl : j < env.length := by have := (List.getElem?_eq_some_iff.mp hx).1; simpa using this
    rw [List.getElem?_set_self hl] at hx
    cases hx
  · rw [List.getElem?_set_ne (Ne.symm hj)] at hx ⊢
    exact r.at_ j x hx
def wipeE (env : List (Option D)) : List Nat → List (Option D)
  | [] => env
  | v :: vs => (wipeE env vs).set v none
theorem EnvR.wipe (r : EnvR K H L Z σ env) : ∀ vs : List Nat, EnvR K H L Z (L2.wipe σ vs) (wipeE env vs)
  | [] => r
  | v :: vs => (r.wipe vs).out
end

/-! ### what an evaluation gives -/
inductive R (β : Type) where
  | stuck | ok (b : β) (S : Sto) | exc (c : Nat) (fs : List P) (S : Sto)
def R.bind {β γ : Type} (r : R β) (f : β → Sto → R γ) : R γ := match r with
  | .stuck => .stuck
  | .ok b S => f b S
  | .exc c fs S => .exc c fs S

structure At [WW] (K : PySem.W.Frag) (H : Hp) (L Z : List Addr) (S : Sto) (σ : St) (env : List (Option D)) : Prop where
  st : StR K H L Z S
  env : EnvR K H L Z σ env

/-! fewer are kept apart -/
mutual
theorem Rp.less {K : PySem.W.Frag} {H : Hp} {L L1 Z Z1 : List Addr} (hl : ∀ a, Out L Z a → Out L1 Z1 a) : ∀ {v : V} {p : P}, Rp K H L Z v p → Rp K H L1 Z1 v p
  | _, _, .non => .non
  | _, _, .bl b => .bl b
  | _, _, .int i => .int i
  | _, _, .str x => .str x
  | _, _, .rep p => .rep p
  | _, _, .tup h d n r => .tup h d (hl _ n) (RpL.less hl r)
  | _, _, .tupK h k r => .tupK h k (RpL.less hl r)
  | _, _, .lst h n r => .lst h (hl _ n) (RpL.less hl r)
  | _, _, .dct h n k r => .dct h (hl _ n) k (RpL.less hl r)
theorem RpL.less {K : PySem.W.Frag} {H : Hp} {L L1 Z Z1 : List Addr} (hl : ∀ a, Out L Z a → Out L1 Z1 a) : ∀ {vs : List V} {ps : List P}, RpL K H L Z vs ps → RpL K H L1 Z1 vs ps
  | _, _, .nil => .nil
  | _, _, .cons h r => .cons (Rp.less hl h) (RpL.less hl r)
end
variable [WW]
theorem MoR.less {K : PySem.W.Frag} {H : Hp} {L L1 Z Z1 : List Addr} (hl : ∀ a, Out L Z a → Out L1 Z1 a) {a : Addr} {o : MO} (h : MoR K H L Z a o) : MoR K H L1 Z1 a o := by
  cases o with
  | lst ps => obtain ⟨vs, e1, r⟩ := h; exact ⟨vs, e1, r.less hl⟩
  | dK ks ps => obtain ⟨vs, e1, e2, r⟩ := h; exact ⟨vs, e1, e2, r.less hl⟩
  | dT ks ps => obtain ⟨vs, e1, e2, r⟩ := h; exact ⟨vs, e1, e2, r.less hl⟩
  | dN ks ps => obtain ⟨xs, vs, e1, e2, e3, r1, e4, r2⟩ := h; exact ⟨xs, vs, e1, e2, e3, r1.less hl, e4, r2.less hl⟩
mutual
theorem RD.less {K : PySem.W.Frag} {H : Hp} {L L1 Z Z1 : List Addr} (hl : ∀ a, Out L Z a → Out L1 Z1 a) (hp : ∀ (k : Nat) a, L[k]? = some a → L1[k]? = some a) : ∀ {v : V} {d : D}, RD K H L Z v d → RD K H L1 Z1 v d
  | _, _, .p h => .p (h.less hl)
  | _, _, .mu h => .mu (hp _ _ h)
  | _, _, .tup h n r => .tup h (hl _ n) (RDL.less hl hp r)
  | _, _, .dct h n k r => .dct h (hl _ n) k (RDL.less hl hp r)
  | _, _, .scr h n => .scr h (hl _ n)
  | _, _, .scrK h => .scrK h
theorem RDL.less {K : PySem.W.Frag} {H : Hp} {L L1 Z Z1 : List Addr} (hl : ∀ a, Out L Z a → Out L1 Z1 a) (hp : ∀ (k : Nat) a, L[k]? = some a → L1[k]? = some a) : ∀ {vs : List V} {ds : List D}, RDL K H L Z vs ds → RDL K H L1 Z1 vs ds
  | _, _, .nil => .nil
  | _, _, .cons h r => .cons (RD.less hl hp h) (RDL.less hl hp r)
end

/-- what is wanted of an exception: its class by number -/
abbrev Wsh := Nat → List P → Sto → Hp → List Addr → Prop
def Post {β γ : Type} (K : PySem.W.Frag) (H : Hp) (L Z : List Addr) (W : Wsh) (rel : Hp → List Addr → γ → β → Prop) (r : R β) (Q : γ → Hp → Prop) : Prop := match r with
  | .stuck => False
  | .ok b S => ∀ (H1 : Hp) (L1 : List Addr) (v : γ), Ext H L H1 L1 → StR K H1 L1 Z S → rel H1 L1 v b → Q v H1
  | .exc c fs S => ∀ (H1 : Hp) (L1 : List Addr), Ext H L H1 L1 → StR K H1 L1 Z S → W c fs S H1 L1
section
variable {K : PySem.W.Frag} {H H1 : Hp} {L L1 Z : List Addr} {W : Wsh} {S : Sto} {σ : St} {env : List (Option D)}
theorem Post.later {β γ : Type} {rel : Hp → List Addr → γ → β → Prop} {r : R β} {Q : γ → Hp → Prop} (h : Post K H L Z W rel r Q) (e : Ext H L H1 L1) : Post K H1 L1 Z W rel r Q := by
  cases r with
  | stuck => exact h
  | ok b S => exact fun H2 L2 v e2 s r => h H2 L2 v (e.trans e2) s r
  | exc c fs S => exact fun H2 L2 e2 s => h H2 L2 (e.trans e2) s
theorem Post.imp {β γ : Type} {rel : Hp → List Addr → γ → β → Prop} {r : R β} {Q Q' : γ → Hp → Prop} (h : Post K H L Z W rel r Q) (k : ∀ v H1, Q v H1 → Q' v H1) : Post K H L Z W rel r Q' := by
  cases r with
  | stuck => exact h
  | ok b S => exact fun H2 L2 v e2 s r => k _ _ (h H2 L2 v e2 s r)
  | exc c fs S => exact h
/-- one evaluation, then the rest -/
theorem Post.bind {β β' γ γ' : Type} {rel : Hp → List Addr → γ → β → Prop} {rel' : Hp → List Addr → γ' → β' → Prop} {r : R β} {f : β → Sto → R β'} {Q : γ' → Hp → Prop} {Q' : γ → Hp → Prop} (h : Post K H L Z W rel' (r.bind f) Q)
    (k : ∀ b S1 H1 L1 v, Ext H L H1 L1 → StR K H1 L1 Z S1 → rel H1 L1 v b → Post K H1 L1 Z W rel' (f b S1) Q → Q' v H1) : Post K H L Z W rel r Q' := by
  cases r with
  | stuck => exact h
  | ok b S => exact fun H2 L2 v e2 s r => k b S H2 L2 v e2 s r (Post.later (r := f b S) h e2)
  | exc c fs S => exact h
theorem At.later (a : At K H L Z S σ env) {S1 : Sto} (e : Ext H L H1 L1) (s : StR K H1 L1 Z S1) : At K H1 L1 Z S1 σ env := ⟨s, a.env.ext e⟩
end
end Mx
end

section
set_option Elab.async false
set_option linter.all false
set_option maxRecDepth 100000
set_option autoImplicit false
set_option maxHeartbeats 4000000
namespace Mx
open PySem L2

/-! ### the tree -/
inductive Bop where | add | sub | mul | fdiv | mod | pow
  deriving DecidableEq
inductive Cop where | eq | ne | lt | le | gt | ge | isN | notN | inn | nin
  deriving DecidableEq
inductive Ty where | int | bool | str | tuple | list | dict
  deriving DecidableEq
inductive Blt where
  | len | rep | all | any | max2 | min2 | maxL | minL | sum | list | tuple | int | abs | sorted | comb | fact
  deriving DecidableEq
inductive Mth where
  | append | count | index | pop | popAt | extend
  deriving DecidableEq
/-- a target: a name's slot, or some in a tuple -/
inductive Tg where
  | nm (i : Nat) | tp (is : List Nat)
mutual
inductive E where
  | var (i : Nat)
  | lit (p : P)
  | glo (x : List Nat) (p : P)
  | bin (o : Bop) (a b : E)
  | neg (a : E)
  | cmp (o : Cop) (a b : E)
  | chn (o o' : Cop) (a b c : E)
  | andE (a b : E)
  | orE (a b : E)
  | notE (a : E)
  | ite (c a b : E)
  | tup (es : Es)
  | lst (es : Es)
  | mk (e : E)
  | dct (ks : List DK) (es : Es)
  | idx (a b : E)
  | slc (a : E) (lo hi : Eo)
  | rev (a : E)
  | isi (t : Ty) (a : E)
  | call (f : Nat) (es : Es)
  | callK (f : Nat) (perm : List Nat) (es : Es)
  | blt (f : Blt) (es : Es)
  | mth (m : Mth) (o : E) (es : Es)
  | newT
  | getT (o : E) (es : Es) (x : E)
  | idxT (o : E) (es : Es)
  | comp (own : List Nat) (tg : Tg) (src : Src) (ifs : Eo) (elt : E)
  | comp2 (own own1 : List Nat) (tg : Tg) (src : Src) (ifs : Eo) (tg1 : Tg) (src1 : Src) (ifs1 : Eo) (elt : E)
  | comp3 (own own1 own2 : List Nat) (tg : Tg) (src : Src) (tg1 : Tg) (src1 : Src) (tg2 : Tg) (src2 : Src) (elt : E)
  | lrng (a b : E)
  | lzip (a b : E)
  | newN
inductive Es where
  | nil | cons (e : E) (es : Es)
inductive Eo where
  | none | some (e : E)
/-- what is walked -/
inductive Src where
  | of (e : E) | rng (e : E) | rng2 (a b : E) | enum (e : E) | zip (a b : E) | rev (e : E) | revA (e : E)
end
mutual
inductive St' where
  | asg (t : Tg) (e : E)
  | par (is : List Nat) (es : Es)
  | set (o i v : E)
  | setT (o : E) (es : Es) (v : E)
  | aug (i : Nat) (o : Bop) (e : E)
  | ex (e : E)
  | ret (e : E)
  | retN
  | iff (c : E) (a b : Sts)
  | whl (c : E) (b : Sts)
  | for (t : Tg) (src : Src) (b : Sts)
  | brk | cont | pass
  | raise (c : Nat)
  | boom
inductive Sts where
  | nil | cons (s : St') (r : Sts)
end
structure FD where
  np : Nat
  nN : Nat
  keep : Bool
  body : Sts

/-! ### values -/
def LIM : Nat := 100000
/-- a value without what may be written, as it is now -/
def view : D → Sto → Option P
  | .p x, _ => some x
  | .mu k, S => match S[k]? with
    | some (.lst xs) => some (.lst xs)
    | some (.dK ks vs) => some (.dct ks vs)
    | _ => none
  | _, _ => none
/-- the items of a list or a tuple -/
def items : D → Sto → Option (List D)
  | .p (.lst xs), _ => some (xs.map .p)
  | .p (.tup xs), _ => some (xs.map .p)
  | .mu k, S => match S[k]? with
    | some (.lst xs) => some (xs.map .p)
    | _ => none
  | .scr ns, _ => some (ns.map fun i => .p (.int i))
  | .tup ds, _ => some ds
  | _, _ => none
def truth : D → Sto → Option Bool
  | .p .non, _ => some false
  | .p (.bl b), _ => some b
  | .p (.int i), _ => some (i != 0)
  | .p (.str x), _ => if x.length ≤ LIM then some (!x.isEmpty) else none
  | .p (.tup xs), _ => some (!xs.isEmpty)
  | .p (.lst xs), _ => some (!xs.isEmpty)
  | .p (.dct ks _), _ => some (!ks.isEmpty)
  | .mu k, S => match S[k]? with
    | some (.lst xs) => some (!xs.isEmpty)
    | some (.dK ks _) => some (!ks.isEmpty)
    | _ => none
  | .scr ns, _ => some (!ns.isEmpty)
  | _, _ => none
def pu (o : Option P) (S : Sto) : R D := match o with
  | some x => .ok (.p x) S
  | none => .stuck

def asList : D → Sto → Option (List P)
  | .p (.lst xs), _ => some xs
  | .mu k, S => match S[k]? with
    | some (.lst xs) => some xs
    | _ => none
  | _, _ => none
/-- two lists or two tuples -/
def zipD (x y : D) (S : Sto) : Option (List P × List P) := match x, y with
  | .p (.tup xs), .p (.tup ys) => some (xs, ys)
  | x, y => match asList x S, asList y S with
    | some xs, some ys => some (xs, ys)
    | _, _ => none
def bounded (i : Int) : Bool := decide (-18446744073709551616 < i) && decide (i < 18446744073709551616)
def binop (o : Bop) (a b : D) (S : Sto) : Option P := match o with
  | .add => match a, b with
    | .p (.int i), .p (.int j) => some (.int (i + j))
    | .p (.str x), .p (.str y) => if x.length + y.length ≤ LIM then some (.str (x ++ y)) else none
    | .p (.tup xs), .p (.tup ys) => if xs.length + ys.length ≤ LIM then some (.tup (xs ++ ys)) else none
    | .scr ns, b => match asList b S with
      | some ys => if ns.length + ys.length ≤ LIM then some (.lst (ns.map .int ++ ys)) else none
      | none => none
    | a, b => match asList a S, asList b S with
      | some xs, some ys => if xs.length + ys.length ≤ LIM then some (.lst (xs ++ ys)) else none
      | _, _ => none
  | .sub => match a, b with
    | .p (.int i), .p (.int j) => some (.int (i - j))
    | _, _ => none
  | .mul => match a, b with
    | .p (.int i), .p (.int j) => if bounded i || bounded j then some (.int (i * j)) else none
    | .p (.tup xs), .p (.int k) => if decide (-(2 ^ 63) ≤ k) && decide (k < 2 ^ 63) && decide (xs.length * k.toNat ≤ LIM) then some (.tup (List.replicate k.toNat xs).flatten) else none
    | a, .p (.int k) => match asList a S with
      | some xs => if decide (-(2 ^ 63) ≤ k) && decide (k < 2 ^ 63) && decide (xs.length * k.toNat ≤ LIM) then some (.lst (List.replicate k.toNat xs).flatten) else none
      | none => none
    | _, _ => none
  | .fdiv => match a, b with
    | .p (.int i), .p (.int j) => if decide (0 < j) && decide (j < 18446744073709551616) then some (.int (i / j)) else none
    | _, _ => none
  | .mod => match a, b with
    | .p (.int i), .p (.int j) => if 0 < j then some (.int (i % j)) else none
    | _, _ => none
  | .pow => match a, b with
    | .p (.int i), .p (.int j) => if decide (0 ≤ j) && decide (j ≤ 1000000) && bounded i then some (.int (i ^ j.toNat)) else none
    | _, _ => none

def scalar : P → P → Bool
  | .non, .non | .non, .int _ | .int _, .non | .non, .bl _ | .bl _, .non | .non, .str _ | .str _, .non => true
  | .int _, .int _ | .bl _, .bl _ | .str _, .str _ | .rep _, .rep _ | .rep _, .str _ | .str _, .rep _ => true
  | .int _, .str _ | .str _, .int _ | .bl _, .str _ | .str _, .bl _ => true
  | _, _ => false
def eqP (x y : P) : Option Bool :=
  if scalar x y then some (P.eqv x y)
  else match x, y with
    | .tup xs, .tup [] => some xs.isEmpty
    | x, y => if x.plain && y.plain && decide (x.dep ≤ 60) && decide (y.dep ≤ 60) then some (P.eqv x y) else none
def seqOf : P → Option (List P)
  | .lst xs => some xs
  | .tup xs => some xs
  | _ => none
def inP (x y : P) : Option Bool := match seqOf y with
  | some xs => if x.plain && y.plain && decide (x.dep ≤ 60) && decide (y.dep ≤ 60) then some (xs.any fun z => P.eqv z x) else none
  | none => none
/-- a dict by tuples of any kind -/
def dictN (b : D) (S : Sto) : Option (List P × List P) := match b with
  | .mu k => match S[k]? with
    | some (.dN ks vs) => some (ks, vs)
    | _ => none
  | _ => none
def lookN : List P → List P → P → Option P
  | k :: ks, v :: vs, x => if k = x then some v else lookN ks vs x
  | _, _, _ => none
def putN : List P → List P → P → P → List P
  | k :: ks, v :: vs, x, y => (if k = x then y else v) :: putN ks vs x y
  | _, _, _, _ => []
def moreN (ks ps : List P) (x y : P) : MO := if x ∈ ks then .dN ks (putN ks ps x y) else .dN (ks ++ [x]) (ps ++ [y])
def inN (a : D) (ks : List P) : Option Bool := match a with
  | .p x => if okN x then some (decide (x ∈ ks)) else none
  | _ => none
/-- a is None, a is True -/
def isop (a b : D) : Option Bool := match b with
  | .p .non => match a with | .p .non => some true | _ => some false
  | .p (.bl y) => match a with | .p (.bl x) => some (decide (x = y)) | _ => none
  | _ => none
def cmpop (o : Cop) (a b : D) (S : Sto) : Option Bool := match o with
  | .lt => match a, b with | .p (.int i), .p (.int j) => some (decide (i < j)) | _, _ => none
  | .le => match a, b with | .p (.int i), .p (.int j) => some (decide (i ≤ j)) | _, _ => none
  | .gt => match a, b with | .p (.int i), .p (.int j) => some (decide (j < i)) | _, _ => none
  | .ge => match a, b with | .p (.int i), .p (.int j) => some (decide (j ≤ i)) | _, _ => none
  | .isN => isop a b
  | .notN => (isop a b).map (!·)
  | .eq => match view a S, view b S with | some x, some y => eqP x y | _, _ => none
  | .ne => match view a S, view b S with | some x, some y => (eqP x y).map (!·) | _, _ => none
  | .inn => match dictN b S with
    | some kv => inN a kv.1
    | none => match view a S, view b S with | some x, some y => inP x y | _, _ => none
  | .nin => match dictN b S with
    | some kv => (inN a kv.1).map (!·)
    | none => match view a S, view b S with | some x, some y => (inP x y).map (!·) | _, _ => none

def cutG {α : Type} (xs : List α) (lo hi : Option Int) : List α := (xs.drop (HT.sIx xs.length 0 lo)).take (HT.sIx xs.length xs.length hi - HT.sIx xs.length 0 lo)
def keyOf : P → Option DK
  | .int i => some (.inl i)
  | .str x => some (.inr x)
  | _ => none
def lookD {β : Type} : List DK → List β → DK → Option β
  | k :: ks, v :: vs, x => if k = x then some v else lookD ks vs x
  | _, _, _ => none
def index (a b : D) (S : Sto) : Option D := match b with
  | .p (.int i) => match items a S with
    | some ds => atI ds i
    | none => match a with
      | .p (.dct ks vs) => (lookD ks vs (.inl i)).map .p
      | .dct ks vs => lookD ks vs (.inl i)
      | .mu k => match S[k]? with
        | some (.dK ks vs) => (lookD ks vs (.inl i)).map .p
        | _ => none
      | _ => none
  | .p (.str x) => match a with
    | .p (.dct ks vs) => (lookD ks vs (.inr x)).map .p
    | .dct ks vs => lookD ks vs (.inr x)
    | .mu k => match S[k]? with
      | some (.dK ks vs) => (lookD ks vs (.inr x)).map .p
      | _ => none
    | _ => none
  | .p (.tup ys) => match dictN a S with
    | some kv => if okN (.tup ys) then (lookN kv.1 kv.2 (.tup ys)).map .p else none
    | none => none
  | _ => none
def slice (a : D) (lo hi : Option Int) (S : Sto) : Option P := match a with
  | .p (.tup xs) => some (.tup (cutG xs lo hi))
  | .scr ns => some (.lst (cutG (ns.map P.int) lo hi))
  | a => match asList a S with
    | some xs => some (.lst (cutG xs lo hi))
    | none => none
def revd (a : D) (S : Sto) : Option P := match a with
  | .p (.tup xs) => some (.tup xs.reverse)
  | a => match asList a S with
    | some xs => some (.lst xs.reverse)
    | none => none
def isTy (t : Ty) (a : D) (S : Sto) : Option Bool := match a with
  | .p .non => some false
  | .p (.bl _) => some (t == .bool || t == .int)
  | .p (.int _) => some (t == .int)
  | .p (.str _) => some (t == .str)
  | .p (.rep _) => some (t == .str)
  | .p (.tup _) => some (t == .tuple)
  | .p (.lst _) => some (t == .list)
  | .p (.dct _ _) => some (t == .dict)
  | .mu k => match S[k]? with
    | some (.lst _) => some (t == .list)
    | some (.dK _ _) => some (t == .dict)
    | _ => none
  | .tup _ => some (t == .tuple)
  | .dct _ _ => some (t == .dict)
  | .scr _ => none
def lenD (a : D) (S : Sto) : Option Nat := match items a S with
  | some ds => some ds.length
  | none => match a with
    | .p (.str x) => if x.length ≤ LIM then some x.length else none
    | _ => none
def intsOf : List P → Option (List Int)
  | [] => some []
  | .int i :: r => (intsOf r).map (i :: ·)
  | _ :: _ => none
def blsOf : List P → Option (List Bool)
  | [] => some []
  | .bl i :: r => (blsOf r).map (i :: ·)
  | _ :: _ => none
def maxI : List Int → Option Int
  | [] => none
  | x :: r => match maxI r with | none => some x | some y => some (if x < y then y else x)
def minI : List Int → Option Int
  | [] => none
  | x :: r => match minI r with | none => some x | some y => some (if y < x then y else x)
def ins (x : Int) : List Int → List Int
  | [] => [x]
  | y :: r => if x ≤ y then x :: y :: r else y :: ins x r
def srt : List Int → List Int
  | [] => []
  | x :: r => ins x (srt r)
/-! what is put in order: ints, bools, texts, tuples of these, all of a shape -/
mutual
def keyP : P → List (Int ⊕ List Nat)
  | .bl b => [.inl (if b then 1 else 0)]
  | .int i => [.inl i]
  | .str x => [.inr x]
  | .tup xs => keyPL xs
  | _ => []
def keyPL : List P → List (Int ⊕ List Nat)
  | [] => [.inl 0]
  | x :: r => .inl 1 :: (keyP x ++ keyPL r)
end
mutual
def likeP : P → P → Bool
  | .bl _, .bl _ => true
  | .int _, .int _ => true
  | .str _, .str _ => true
  | .tup xs, .tup ys => likePL xs ys
  | _, _ => false
def likePL : List P → List P → Bool
  | x :: r, y :: q => likeP x y && likePL r q
  | _, _ => true
end
def isTupN : P → Bool
  | .tup (_ :: _) => true
  | _ => false
def isFlat : P → Bool
  | .bl _ | .int _ | .str _ => true
  | _ => false
mutual
def noBox : P → Bool
  | .bl _ | .int _ | .str _ => true
  | .tup xs => noBoxL xs
  | _ => false
def noBoxL : List P → Bool
  | [] => true
  | x :: r => noBox x && noBoxL r
end
def sortOk (xs : List P) : Bool := (xs.all fun a => xs.all fun b => likeP a b) && (xs.all isTupN || xs.all isFlat) && (xs.all fun x => noBox x && decide (x.dep ≤ 60)) && decide (xs.length ≤ LIM)
def lexP : List (Int ⊕ List Nat) → List (Int ⊕ List Nat) → Bool := PyProof.Rows.lexLt PyProof.Rows.itemOrd
def leP (a b : P) : Bool := !lexP (keyP b) (keyP a)
def insP (x : P) : List P → List P
  | [] => [x]
  | y :: r => if leP x y then x :: y :: r else y :: insP x r
def srtP : List P → List P
  | [] => []
  | x :: r => insP x (srtP r)
/-- the first of the least -/
def minP : List P → Option P
  | [] => none
  | x :: r => some (r.foldl (fun a y => if !leP a y then y else a) x)
def zipP : List P → List P → List P
  | x :: a, y :: b => .tup [x, y] :: zipP a b
  | _, _ => []
def asSeq : D → Sto → Option (List P)
  | .p (.tup xs), _ => some xs
  | d, S => asList d S
/-- how many ways to pick k of n, as the math module reckons it -/
def combI (n k : Int) : Int := PySem.Builtin.Math.fallingProduct n (min k (n - k)).toNat / PySem.Builtin.Math.fallingProduct (min k (n - k)) (min k (n - k)).toNat
def factI (n : Int) : Int := ((PySem.Builtin.Math.factorialNat n.toNat : Nat) : Int)
def bltop (f : Blt) (ds : List D) (S : Sto) : Option P := match f, ds with
  | .len, [a] => (lenD a S).map fun n => .int n
  | .rep, [a] => match view a S with
    | some x => if x.fit && decide (x.wt ≤ 390000) && decide (x.dep ≤ 60) then some (.rep x) else none
    | none => none
  | .all, [a] => match asList a S with
    | some xs => (blsOf xs).map fun bs => .bl (bs.all id)
    | none => none
  | .any, [a] => match asList a S with
    | some xs => (blsOf xs).map fun bs => .bl (bs.any id)
    | none => none
  | .max2, [.p (.int i), .p (.int j)] => some (.int (if j > i then j else i))
  | .min2, [.p (.int i), .p (.int j)] => some (.int (if j < i then j else i))
  | .maxL, [a] => match asList a S with
    | some xs => match intsOf xs with
      | some ns => (maxI ns).map .int
      | none => none
    | none => none
  | .minL, [a] => match asList a S with
    | some xs => match intsOf xs with
      | some ns => (minI ns).map .int
      | none => if sortOk xs then minP xs else none
    | none => none
  | .sum, [a] => match asList a S with
    | some xs => (intsOf xs).map fun ns => .int ns.sum
    | none => none
  | .list, [.p (.tup xs)] => some (.lst xs)
  | .list, [a] => (asList a S).map .lst
  | .tuple, [.p (.tup xs)] => some (.tup xs)
  | .tuple, [a] => (asList a S).map .tup
  | .int, [.p (.int i)] => some (.int i)
  | .int, [.p (.bl b)] => some (.int (if b then 1 else 0))
  | .abs, [.p (.int i)] => some (.int (if i < 0 then -i else i))
  | .comb, [.p (.int n), .p (.int k)] => if decide (0 ≤ k) && decide (k ≤ n) && decide (n ≤ 40) then some (.int (combI n k)) else none
  | .fact, [.p (.int n)] => if decide (0 ≤ n) && decide (n ≤ 40) then some (.int (factI n)) else none
  | .sorted, [a] => match asSeq a S with
    | some xs => if sortOk xs then some (.lst (srtP xs)) else none
    | none => none
  | _, _ => none
def wr (a : D) (i : D) (v : D) (S : Sto) : Option Sto := match a, i, v with
  | .mu k, .p (.int i), .p x => match S[k]? with
    | some (.lst xs) => (ixN xs.length i).map fun j => S.set k (.lst (xs.set j x))
    | _ => none
  | .mu k, .p (.tup ys), .p x => match S[k]? with
    | some (.dN ks vs) => if okN (.tup ys) && decide (ks.length < LIM) then some (S.set k (moreN ks vs (.tup ys) x)) else none
    | _ => none
  | _, _, _ => none
def mthop (m : Mth) (o : D) (ds : List D) (S : Sto) : R D := match m, o, ds with
  | .append, .mu k, [.p x] => match S[k]? with
    | some (.lst xs) => if xs.length < LIM then .ok (.p .non) (S.set k (.lst (xs ++ [x]))) else .stuck
    | _ => .stuck
  | _, _, _ => .stuck

/-- a list or a tuple that isn't written: its methods -/
def seqD : D → Option (List P)
  | .p (.tup xs) => some xs
  | .p (.lst xs) => some xs
  | _ => none
/-- the first place where it stands -/
def idxP (y : P) : List P → Option Nat
  | [] => none
  | x :: r => if P.eqv x y then some 0 else (idxP y r).map (· + 1)
def isCI : Mth → Bool
  | .count => true
  | .index => true
  | _ => false
def mthq (m : Mth) (o : D) (ds : List D) : Option P := match seqD o, ds with
  | some xs, [.p y] => if plainL xs && y.plain && decide (depL xs ≤ 58) && decide (y.dep ≤ 58) then (match m with
    | .count => some (.int ((xs.countP fun z => P.eqv z y : Nat) : Int))
    | .index => (idxP y xs).map fun (j : Nat) => P.int (j : Int)
    | _ => none) else none
  | _, _ => none

/-! dicts by tuples -/
def keysOf : List D → Option (List DK)
  | [] => some []
  | .p x :: r => match keyOf x, keysOf r with
    | some k, some ks => some (k :: ks)
    | _, _ => none
  | _ :: _ => none
def lookT : List (List DK) → List P → List DK → Option P
  | k :: ks, v :: vs, x => if k = x then some v else lookT ks vs x
  | _, _, _ => none
def putT : List (List DK) → List P → List DK → P → List P
  | k :: ks, v :: vs, x, y => (if k = x then y else v) :: putT ks vs x y
  | _, _, _, _ => []
/-- .. with one more, or one otherwise -/
def moreT (ks : List (List DK)) (ps : List P) (x : List DK) (y : P) : MO := match lookT ks ps x with
  | some _ => .dT ks (putT ks ps x y)
  | none => .dT (ks ++ [x]) (ps ++ [y])
def isDT (d : D) (S : Sto) : Bool := match d with
  | .mu k => match S[k]? with
    | some (.dT _ _) => true
    | _ => false
  | _ => false
def getT (d : D) (ds : List D) (S : Sto) : Option (Option P) := match d, keysOf ds with
  | .mu k, some x => match S[k]? with
    | some (.dT ks ps) => some (lookT ks ps x)
    | _ => none
  | _, _ => none
def wrT (d : D) (ds : List D) (v : D) (S : Sto) : Option Sto := match d, keysOf ds, v with
  | .mu k, some x, .p y => match S[k]? with
    | some (.dT ks ps) => if ks.length < LIM then some (S.set k (moreT ks ps x y)) else none
    | _ => none
  | _, _, _ => none

/-- a list of ours, one that may be written -/
def isMu (d : D) (S : Sto) : Bool := match d with
  | .mu k => match S[k]? with
    | some (.lst _) => true
    | _ => false
  | _ => false

/-! ### running -/
abbrev Env := List (Option D)
def slotD (env : Env) (i : Nat) : Option D := match env[i]? with | some (some d) => some d | _ => none
def setMany : List Nat → List D → Env → Option Env
  | [], [], env => some env
  | i :: is, d :: ds, env => setMany is ds (env.set i (some d))
  | _, _, _ => none
def bindT (t : Tg) (d : D) (env : Env) : Option Env := match t with
  | .nm i => some (env.set i (some d))
  | .tp is => match d with
    | .p (.tup xs) => setMany is (xs.map .p) env
    | .tup ds => setMany is ds env
    | _ => none
/-- the list that is walked stands still -/
def still (d : D) (S0 S : Sto) : Bool := match d with
  | .mu k => match S0[k]?, S[k]? with
    | some (.lst xs), some (.lst ys) => beqL xs ys
    | _, _ => false
  | _ => true
structure Walked where
  ds : List D
  stay : Sto → Bool
def permA {α : Type} : List Nat → List α → Option (List α)
  | [], _ => some []
  | i :: is, xs => match xs[i]?, permA is xs with
    | some x, some r => some (x :: r)
    | _, _ => none
def mkTup (ds : List D) : D := match allP ds with
  | some ps => .p (.tup ps)
  | none => .tup ds
def pairs : List D → List D → List D
  | a :: r, b :: q => .tup [a, b] :: pairs r q
  | _, _ => []
def enumD (ds : List D) : List D := pairs ((List.range ds.length).map fun (i : Nat) => .p (.int (i : Int))) ds
def rangeD (lo : Int) (n : Nat) : List D := (List.range n).map fun (i : Nat) => .p (.int (lo + (i : Int)))
def rangeR (n : Nat) : List D := (List.range n).map fun (i : Nat) => .p (.int ((n : Int) - 1 - (i : Int)))
def small62 (i : Int) : Bool := decide (-(2 ^ 62) ≤ i) && decide (i < 2 ^ 62)

section
variable (C : Nat → List D → Sto → R D)
/-- the loop of a comprehension -/
def compL (stay : Sto → Bool) (turn : D → List P → Sto → R (List P)) : List D → List P → Sto → R (List P)
  | [], acc, S => if stay S then .ok acc S else .stuck
  | d :: ds, acc, S => if stay S then (turn d acc S).bind fun acc1 S1 => compL stay turn ds acc1 S1 else .stuck
def turnC (tg : Tg) (own : List Nat) (cond : Env → Sto → R Bool) (body : Env → List P → Sto → R (List P)) (env : Env) (d : D) (acc : List P) (S : Sto) : R (List P) := match bindT tg d (wipeE env own) with
  | some env1 => (cond env1 S).bind fun b S1 => if b then body env1 acc S1 else .ok acc S1
  | none => .stuck
def oneMore (el : Env → Sto → R D) (env : Env) (acc : List P) (S : Sto) : R (List P) := (el env S).bind fun d S1 => match d with
  | .p x => if acc.length < LIM then .ok (acc ++ [x]) S1 else .stuck
  | _ => .stuck
def listed (r : R (List P)) : R D := match r with
  | .ok ps S => .ok (.p (.lst ps)) S
  | _ => .stuck
def yes : Env → Sto → R Bool := fun _ S => .ok true S
mutual
def evE : E → Env → Sto → R D
  | .var i, env, S => match slotD env i with | some d => .ok d S | none => .stuck
  | .lit p, _, S => .ok (.p p) S
  | .glo _ p, _, S => .ok (.p p) S
  | .bin o a b, env, S => (evE a env S).bind fun x S1 => (evE b env S1).bind fun y S2 => pu (binop o x y S2) S2
  | .neg a, env, S => (evE a env S).bind fun x S1 => match x with | .p (.int i) => .ok (.p (.int (-i))) S1 | _ => .stuck
  | .cmp o a b, env, S => (evE a env S).bind fun x S1 => (evE b env S1).bind fun y S2 => pu ((cmpop o x y S2).map .bl) S2
  | .chn o o' a b c, env, S => (evE a env S).bind fun x S1 => (evE b env S1).bind fun y S2 => match cmpop o x y S2 with
    | some true => (evE c env S2).bind fun z S3 => pu ((cmpop o' y z S3).map .bl) S3
    | some false => .ok (.p (.bl false)) S2
    | none => .stuck
  | .andE a b, env, S => (evE a env S).bind fun x S1 => match truth x S1 with
    | some true => evE b env S1
    | some false => .ok x S1
    | none => .stuck
  | .orE a b, env, S => (evE a env S).bind fun x S1 => match truth x S1 with
    | some true => .ok x S1
    | some false => evE b env S1
    | none => .stuck
  | .notE a, env, S => (evE a env S).bind fun x S1 => match truth x S1 with
    | some b => .ok (.p (.bl (!b))) S1
    | none => .stuck
  | .ite c a b, env, S => (evE c env S).bind fun x S1 => match truth x S1 with
    | some true => evE a env S1
    | some false => evE b env S1
    | none => .stuck
  | .tup es, env, S => (evEs es env S).bind fun ds S1 => .ok (mkTup ds) S1
  | .lst es, env, S => (evEs es env S).bind fun ds S1 => match allP ds with
    | some ps => .ok (.p (.lst ps)) S1
    | none => .stuck
  | .mk e, env, S => (evE e env S).bind fun d S1 => match d with
    | .p (.lst ps) => .ok (.mu S1.length) (S1 ++ [.lst ps])
    | .p (.dct ks ps) => .ok (.mu S1.length) (S1 ++ [.dK ks ps])
    | _ => .stuck
  | .dct ks es, env, S => (evEs es env S).bind fun ds S1 => .ok (match allP ds with | some ps => .p (.dct ks ps) | none => .dct ks ds) S1
  | .idx a b, env, S => (evE a env S).bind fun x S1 => (evE b env S1).bind fun y S2 => match index x y S2 with | some d => .ok d S2 | none => .stuck
  | .slc a lo hi, env, S => (evE a env S).bind fun x S1 => (evEo lo env S1).bind fun l S2 => (evEo hi env S2).bind fun h S3 => pu (slice x l h S3) S3
  | .rev a, env, S => (evE a env S).bind fun x S1 => pu (revd x S1) S1
  | .isi t a, env, S => (evE a env S).bind fun x S1 => pu ((isTy t x S1).map .bl) S1
  | .call f es, env, S => (evEs es env S).bind fun ds S1 => C f ds S1
  | .callK f perm es, env, S => (evEs es env S).bind fun ds S1 => if ds.length = perm.length then match permA perm ds with | some qs => C f qs S1 | none => .stuck else .stuck
  | .blt f es, env, S => (evEs es env S).bind fun ds S1 => pu (bltop f ds S1) S1
  | .mth m o es, env, S => (evE o env S).bind fun x S1 => if isCI m then (if (seqD x).isSome then (evEs es env S1).bind fun ds S2 => pu (mthq m x ds) S2 else .stuck) else if isMu x S1 then (evEs es env S1).bind fun ds S2 => mthop m x ds S2 else .stuck
  | .newT, _, S => .ok (.mu S.length) (S ++ [.dT [] []])
  | .newN, _, S => .ok (.mu S.length) (S ++ [.dN [] []])
  | .getT o es x, env, S => (evE o env S).bind fun d S1 => if isDT d S1 then (evEs es env S1).bind fun ds S2 => (evE x env S2).bind fun z S3 => match getT d ds S3 with
    | some (some p) => .ok (.p p) S3
    | some none => .ok z S3
    | none => .stuck else .stuck
  | .idxT o es, env, S => (evE o env S).bind fun d S1 => (evEs es env S1).bind fun ds S2 => match getT d ds S2 with
    | some (some p) => .ok (.p p) S2
    | _ => .stuck
  | .comp own tg src ifs elt, env, S => (evI src env S).bind fun w S1 => listed (compL w.stay (turnC tg own (evC ifs) (oneMore (evE elt)) env) w.ds [] S1)
  | .comp2 own own1 tg src ifs tg1 src1 ifs1 elt, env, S => (evI src env S).bind fun w S1 => listed (compL w.stay (turnC tg own (evC ifs)
      (fun env1 acc S2 => (evI src1 env1 S2).bind fun w1 S3 => compL w1.stay (turnC tg1 own1 (evC ifs1) (oneMore (evE elt)) env1) w1.ds acc S3) env) w.ds [] S1)
  | .comp3 own own1 own2 tg src tg1 src1 tg2 src2 elt, env, S => (evI src env S).bind fun w S1 => listed (compL w.stay (turnC tg own yes
      (fun env1 acc S2 => (evI src1 env1 S2).bind fun w1 S3 => compL w1.stay (turnC tg1 own1 yes
        (fun env2 acc2 S4 => (evI src2 env2 S4).bind fun w2 S5 => compL w2.stay (turnC tg2 own2 yes (oneMore (evE elt)) env2) w2.ds acc2 S5) env1) w1.ds acc S3) env) w.ds [] S1)
  | .lrng a b, env, S => (evE a env S).bind fun x S1 => (evE b env S1).bind fun y S2 => match x, y with
    | .p (.int i), .p (.int j) => if small62 i && small62 j && decide ((j - i).toNat ≤ LIM) then .ok (.p (.lst ((List.range (j - i).toNat).map fun (k : Nat) => .int (i + (k : Int))))) S2 else .stuck
    | _, _ => .stuck
  | .lzip a b, env, S => (evE a env S).bind fun x S1 => (evE b env S1).bind fun y S2 => match zipD x y S2 with
    | some w => if decide (w.1.length = w.2.length) && decide (w.1.length ≤ LIM) then .ok (.p (.lst (zipP w.1 w.2))) S2 else .stuck
    | none => .stuck
def evEs : Es → Env → Sto → R (List D)
  | .nil, _, S => .ok [] S
  | .cons e es, env, S => (evE e env S).bind fun d S1 => (evEs es env S1).bind fun ds S2 => .ok (d :: ds) S2
def evEo : Eo → Env → Sto → R (Option Int)
  | .none, _, S => .ok none S
  | .some e, env, S => (evE e env S).bind fun d S1 => match d with | .p (.int i) => .ok (some i) S1 | _ => .stuck
/-- a comprehension's test -/
def evC : Eo → Env → Sto → R Bool
  | .none, _, S => .ok true S
  | .some e, env, S => (evE e env S).bind fun d S1 => match truth d S1 with | some b => .ok b S1 | none => .stuck
def evI : Src → Env → Sto → R Walked
  | .of e, env, S => (evE e env S).bind fun d S1 => match items d S1 with | some ds => .ok ⟨ds, still d S1⟩ S1 | none => .stuck
  | .rng e, env, S => (evE e env S).bind fun d S1 => match d with
    | .p (.int j) => if small62 j then .ok ⟨rangeD 0 j.toNat, fun _ => true⟩ S1 else .stuck
    | _ => .stuck
  | .rng2 a b, env, S => (evE a env S).bind fun x S1 => (evE b env S1).bind fun y S2 => match x, y with
    | .p (.int i), .p (.int j) => if small62 i && small62 j then .ok ⟨rangeD i (j - i).toNat, fun _ => true⟩ S2 else .stuck
    | _, _ => .stuck
  | .enum e, env, S => (evE e env S).bind fun d S1 => match items d S1 with | some ds => .ok ⟨enumD ds, still d S1⟩ S1 | none => .stuck
  | .zip a b, env, S => (evE a env S).bind fun x S1 => (evE b env S1).bind fun y S2 => match items x S2, items y S2 with
    | some ds, some es => .ok ⟨pairs ds es, fun S => still x S2 S && still y S2 S⟩ S2
    | _, _ => .stuck
  | .rev e, env, S => (evE e env S).bind fun d S1 => match d with
    | .p (.int j) => if small62 j then .ok ⟨rangeR j.toNat, fun _ => true⟩ S1 else .stuck
    | _ => .stuck
  | .revA e, env, S => (evE e env S).bind fun d S1 => match d with
    | .p (.lst xs) => .ok ⟨xs.reverse.map .p, fun _ => true⟩ S1
    | .p (.tup xs) => .ok ⟨xs.reverse.map .p, fun _ => true⟩ S1
    | _ => .stuck
end

/-- name op= value: ints alone -/
def augop (o : Bop) (a b : D) : Option P := match a, b with
  | .p (.int i), .p (.int j) => match o with
    | .add => some (.int (i + j))
    | .sub => some (.int (i - j))
    | .mul => if bounded i || bounded j then some (.int (i * j)) else none
    | .fdiv => if decide (0 < j) && decide (j < 1073741824) then some (.int (i / j)) else none
    | .mod => if 0 < j then some (.int (i % j)) else none
    | .pow => none
  | _, _ => none
inductive O where
  | stuck | next (env : Env) (S : Sto) | ret (d : D) (S : Sto) | brk (env : Env) (S : Sto) | cont (env : Env) (S : Sto) | exc (c : Nat) (fs : List P) (env : Env) (S : Sto)
def R.obind {β : Type} (r : R β) (env : Env) (f : β → Sto → O) : O := match r with
  | .stuck => .stuck
  | .ok b S => f b S
  | .exc c fs S => .exc c fs env S
def loopW (c : Env → Sto → R Bool) (body : Env → Sto → O) : Nat → Env → Sto → O
  | 0, _, _ => .stuck
  | n + 1, env, S => (c env S).obind env fun b S1 => if b then match body env S1 with
      | .next e s => loopW c body n e s
      | .cont e s => loopW c body n e s
      | .brk e s => .next e s
      | o => o
    else .next env S1
def loopF (t : Tg) (stay : Sto → Bool) (body : Env → Sto → O) : List D → Env → Sto → O
  | [], env, S => if stay S then .next env S else .stuck
  | d :: ds, env, S => if stay S then match bindT t d env with
      | some env1 => match body env1 S with
        | .next e s => loopF t stay body ds e s
        | .cont e s => loopF t stay body ds e s
        | .brk e s => .next e s
        | o => o
      | none => .stuck
    else .stuck
def bindO (t : Tg) (d : D) (env : Env) (S : Sto) : O := match bindT t d env with | some e => .next e S | none => .stuck
variable (w : Nat)
mutual
def evS : St' → Env → Sto → O
  | .asg t e, env, S => (evE C e env S).obind env fun d S1 => bindO t d env S1
  | .par is es, env, S => (evEs C es env S).obind env fun ds S1 => match setMany is ds env with | some e => .next e S1 | none => .stuck
  | .set o i v, env, S => (evE C v env S).obind env fun x S1 => (evE C o env S1).obind env fun y S2 => (evE C i env S2).obind env fun z S3 => match wr y z x S3 with | some S4 => .next env S4 | none => .stuck
  | .setT o es v, env, S => (evE C v env S).obind env fun x S1 => (evE C o env S1).obind env fun y S2 => (evEs C es env S2).obind env fun ds S3 => match wrT y ds x S3 with | some S4 => .next env S4 | none => .stuck
  | .aug i o e, env, S => match slotD env i with
    | some x => (evE C e env S).obind env fun y S1 => match augop o x y with | some z => .next (env.set i (some (.p z))) S1 | none => .stuck
    | none => .stuck
  | .ex e, env, S => (evE C e env S).obind env fun _ S1 => .next env S1
  | .ret e, env, S => (evE C e env S).obind env fun d S1 => .ret d S1
  | .retN, _, S => .ret (.p .non) S
  | .iff c a b, env, S => (evE C c env S).obind env fun x S1 => match truth x S1 with
    | some true => evSs a env S1
    | some false => evSs b env S1
    | none => .stuck
  | .whl c b, env, S => loopW (fun e s => (evE C c e s).bind fun x s1 => match truth x s1 with | some k => .ok k s1 | none => .stuck) (evSs b) w env S
  | .for t src b, env, S => (evI C src env S).obind env fun k S1 => loopF t k.stay (evSs b) k.ds env S1
  | .brk, env, S => .brk env S
  | .cont, env, S => .cont env S
  | .pass, env, S => .next env S
  | .raise c, env, S => .exc c [] env S
  | .boom, _, _ => .stuck
def evSs : Sts → Env → Sto → O
  | .nil, env, S => .next env S
  | .cons s r, env, S => match evS s env S with
    | .next e s' => evSs r e s'
    | o => o
end
end
/-- behind a def: its own objects go -/
def leave (keep : Bool) (n : Nat) (d : D) (S : Sto) : R D := if keep then .ok d S else match d with
  | .p x => .ok (.p x) (S.take n)
  | .mu k => if k < n then .ok (.mu k) (S.take n) else match S[k]? with
    | some (.lst xs) => .ok (.p (.lst xs)) (S.take n)
    | some (.dK ks vs) => .ok (.p (.dct ks vs)) (S.take n)
    | _ => .stuck
  | .scr ns => .ok (.scr ns) (S.take n)
  | _ => .stuck
def runF (C : Nat → List D → Sto → R D) (w : Nat) (fd : FD) (ds : List D) (S : Sto) : R D :=
  if ds.length = fd.np then match evSs C w fd.body (ds.map some ++ List.replicate (fd.nN - ds.length) none) S with
    | .ret d S1 => leave fd.keep S.length d S1
    | .next _ S1 => leave fd.keep S.length (.p .non) S1
    | .exc c fs _ S1 => .exc c fs (S1.take S.length)
    | _ => .stuck
  else .stuck
/-- a table of defs, by levels -/
def callN (tab : Nat → Option FD) (w : Nat) : Nat → Nat → List D → Sto → R D
  | 0, _, _, _ => .stuck
  | n + 1, f, ds, S => match tab f with
    | some fd => runF (callN tab w n) w fd ds S
    | none => .stuck
end Mx
end

section
set_option Elab.async false
set_option linter.all false
set_option maxRecDepth 100000
set_option autoImplicit false
set_option maxHeartbeats 4000000
namespace Mx
open PySem L2
variable [WW]

theorem lim_lt : LIM < sizeLine := by rw [sizeLine_eq]; decide
theorem le_line {n : Nat} (h : n ≤ LIM) : n ≤ sizeLine := Nat.le_trans h (Nat.le_of_lt lim_lt)

section
variable {K : PySem.W.Frag} {H H1 : Hp} {L L1 Z : List Addr} {S : Sto} {σ : L2.St} {env : Env}

theorem sqT_any {a : Addr} {vs : List V} (h : SqT K (fun _ => none) a vs) : SqT K H a vs := by
  rcases h with (h | ⟨o, h⟩) | h
  · cases h
  · cases h
  · exact .inr h
theorem sqL_any {a : Addr} {vs : List V} (h : SqL K (fun _ => none) a vs) : SqL K H a vs := by
  rcases h with (h | ⟨o, h⟩) | h
  · cases h
  · cases h
  · exact .inr h
theorem Rp.tupI {v : V} {ps : List P} (h : Rp K H L Z v (.tup ps)) : ∃ a vs, v = .ref a ∧ SqT K H a vs ∧ RpL K H L Z vs ps := by
  cases h with
  | tup h d n r => exact ⟨_, _, rfl, .inl (.inr ⟨_, h⟩), r⟩
  | tupK h k r => exact ⟨_, _, rfl, sqT_any h, r⟩
theorem Rp.lstI {v : V} {ps : List P} (h : Rp K H L Z v (.lst ps)) : ∃ a vs, v = .ref a ∧ H a = some (.lst vs) ∧ Out L Z a ∧ RpL K H L Z vs ps := by
  cases h with
  | lst h n r => exact ⟨_, _, rfl, h, n, r⟩
theorem RD.pI {v : V} {x : P} (h : RD K H L Z v (.p x)) : Rp K H L Z v x := by
  cases h; assumption
/-- a list, whoever may write it -/
theorem asList_ok (s : StR K H L Z S) {v : V} {d : D} (h : RD K H L Z v d) {xs : List P} (e : asList d S = some xs) : ∃ a vs, v = .ref a ∧ H a = some (.lst vs) ∧ RpL K H L Z vs xs := by
  cases d with
  | p x =>
    cases x with
    | lst ys =>
      simp only [asList, Option.some.injEq] at e
      subst e
      obtain ⟨a, vs, e1, e2, _, r⟩ := h.pI.lstI
      exact ⟨a, vs, e1, e2, r⟩
    | _ => simp [asList] at e
  | mu k =>
    simp only [asList] at e
    cases hk : S[k]? with
    | none => rw [hk] at e; cases e
    | some o =>
      rw [hk] at e
      cases o with
      | lst ys =>
        simp only [Option.some.injEq] at e
        subst e
        cases h with
        | mu hl =>
          obtain ⟨vs, e1, r⟩ := s.at_ k _ _ hl hk
          exact ⟨_, vs, rfl, e1, r⟩
      | dK ks ps => cases e
      | dT ks ps => cases e
      | dN ks ps => cases e
  | _ => simp [asList] at e

/-- a new tuple, a new list -/
theorem new_tup (s : StR K H L Z S) {vs : List V} {ps : List P} (r : RpL K H L Z vs ps) {p : Addr} {o : Obj} (h : H p = none) (hd : o.dict = none) : Ext H L (upd H p (.frz o (.tup vs))) L ∧ StR K (upd H p (.frz o (.tup vs))) L Z S ∧ Rp K (upd H p (.frz o (.tup vs))) L Z (.ref p) (.tup ps) :=
  ⟨Ext.new_ h, s.laid h, .tup upd_same hd (s.out h) (r.ext (Ext.new_ h))⟩
theorem new_lst (s : StR K H L Z S) {vs : List V} {ps : List P} (r : RpL K H L Z vs ps) {p : Addr} (h : H p = none) : Ext H L (upd H p (.lst vs)) L ∧ StR K (upd H p (.lst vs)) L Z S ∧ Rp K (upd H p (.lst vs)) L Z (.ref p) (.lst ps) :=
  ⟨Ext.new_ h, s.laid h, .lst upd_same (s.out h) (r.ext (Ext.new_ h))⟩
end
section
open PySem.Spec PyProof.Rows
theorem tuple_mulA (l : Addr) (items : Array Value) (x : Int) (u : Tok) (h1 : (decide (x < -2 ^ 63) || decide (x ≥ 2 ^ 63)) = false) (h2 : (items.size : Int) * x ≤ 100000) :
    Meets (Builtin.«tuple.__mul__» { pos := [Value.ref l, Value.int x u] }) fun _ R s =>
      IsTup s.heap l items ∧ ((items.isEmpty || x == 1) = true → R (Except.ok (Flow.ret (Value.ref l))) s) ∧
      ((items.isEmpty || x == 1) = false → R (Except.ok (Flow.ret (Value.ref s.heap.objs.size)))
        { s with heap := s.heap.push { cls := Value.type "tuple", data := Data.seq (List.foldl (fun x1 x2 => x1 ++ x2) #[] (List.replicate x.toNat items)) } }) := by
  refine Meets.of_wp fun prog w A R s ⟨ht, r1, r2⟩ => ?_
  show wpAny _ _ (asIndex (Value.int x u) >>= _) _ _ _
  refine wpAny_bind (wpAny_of_eq (a := x) rfl ?_)
  show wpAny _ _ (if (decide (x < -2 ^ 63) || decide (x ≥ 2 ^ 63)) = true then _ else (Builtin.Tuple.tupleItemsOf (Value.ref l) >>= _)) _ _ _
  rw [if_neg (by rw [h1]; decide)]
  refine wpAny_bind (tupleItemsOf_ ht ?_)
  have rest : (items.isEmpty || x == 1) = false → wpAny (model prog w) A.in1 (if (decide (x ≤ 0) || items.isEmpty) = true then (Builtin.Tuple.tupleExact #[] >>= fun v => ret v) else
      (if (items.size : Int) * x > (2 ^ 63 - 1) / 8 then (rule "tuple.repeat.no-memory" >>= fun _ => newExc (Value.type "MemoryError") [] >>= fun e => raiseNew e >>= fun (r : PUnit) => (if Builtin.Tuple.tupleTooMany (items.size * x) = true then (unsupported "tuple.__mul__:memory" >>= fun (r : PUnit) => Builtin.Tuple.tupleExact (List.foldl (fun x1 x2 => x1 ++ x2) #[] (List.replicate x.toNat items)) >>= fun v => ret v) else (Builtin.Tuple.tupleExact (List.foldl (fun x1 x2 => x1 ++ x2) #[] (List.replicate x.toNat items)) >>= fun v => ret v))) else
        (if Builtin.Tuple.tupleTooMany (items.size * x) = true then (unsupported "tuple.__mul__:memory" >>= fun (r : PUnit) => Builtin.Tuple.tupleExact (List.foldl (fun x1 x2 => x1 ++ x2) #[] (List.replicate x.toNat items)) >>= fun v => ret v) else (Builtin.Tuple.tupleExact (List.foldl (fun x1 x2 => x1 ++ x2) #[] (List.replicate x.toNat items)) >>= fun v => ret v)))) (fun fin s' => ∃ v, fin = Fin.done (Flow.ret v) ∧ R (Except.ok (Flow.ret v)) s') (fun e s' => R (Except.error e) s') s := by
    intro hc
    have hne : items.isEmpty = false := by simp only [Bool.or_eq_false_iff] at hc; exact hc.1
    by_cases h0 : x ≤ 0
    · rw [if_pos (by simp [h0])]
      refine wpAny_bind (m := Builtin.Tuple.tupleExact _) (wpAny_newObj_type (wpAny_pure ⟨_, rfl, ?_⟩) (show (#[] : Array Value).size ≤ sizeLine from Nat.zero_le _))
      have e : x.toNat = 0 := by omega
      have := r2 hc
      rw [e] at this
      exact this
    · rw [if_neg (by simp [h0, hne])]
      rw [if_neg (by omega)]
      have big : (sizeLine : Int) = 16777216 := by rw [sizeLine_eq]; rfl
      rw [if_neg (by unfold Builtin.Tuple.tupleTooMany; simp only [decide_eq_true_eq]; omega)]
      refine wpAny_bind (m := Builtin.Tuple.tupleExact _) (wpAny_newObj_type (wpAny_pure ⟨_, rfl, r2 hc⟩) ?_)
      show (List.foldl (fun x1 x2 => x1 ++ x2) #[] (List.replicate x.toNat items)).size ≤ sizeLine
      have e1 := size_rep items.toList x.toNat
      rw [Array.toArray_toList] at e1
      rw [e1]
      rw [List.size_toArray, lm_len_rep_flat, Array.length_toList]
      rw [sizeLine_eq]
      have e2 : ((x.toNat * items.size : Nat) : Int) = items.size * x := by
        rw [Int.natCast_mul, Int.toNat_of_nonneg (by omega), Int.mul_comm]
      omega
  show wpAny _ _ (if (items.isEmpty || x == 1) = true then (Builtin.Tuple.tupleIsExact (Value.ref l) >>= _) else _) _ _ _
  cases hc : (items.isEmpty || x == 1) with
  | true =>
    rw [if_pos rfl]
    refine wpAny_bind (wpAny_bind (wpAny_typeOf ht.typeIs (wpAny_pure ?_)))
    rw [if_pos (by decide)]
    refine wpAny_bind (wpAny_rule ?_)
    exact wpAny_pure ⟨_, rfl, r1 hc⟩
  | false =>
    rw [if_neg (by decide)]
    exact rest hc
def rRepA (K : PySem.W.Frag) : R2 := fun x y H Q => ∃ l k xs, x = .ref l ∧ y = .int k ∧ SqT K H l xs ∧ -2 ^ 63 ≤ k ∧ k < 2 ^ 63 ∧ (xs.length : Int) * k ≤ 100000 ∧ ((xs = [] ∨ k = 1) → Q (.ref l) H) ∧
  (¬ (xs = [] ∨ k = 1) → ∀ p, H p = none → Q (.ref p) (upd H p (.tup (List.replicate k.toNat xs).flatten)))
theorem op_repA {X : Cx} : OpR X (binaryOp .Mult) (rRepA X.K) := by
  intro pins s σ H x y v u Q I rx ry h
  obtain ⟨l, k, xs, rfl, rfl, hq, k1, k2, k3, q1, q2⟩ := h
  cases rx
  obtain ⟨t, rfl⟩ := ry
  obtain ⟨its, rv, ht, hz⟩ := I.tuple hq
  have hl := rv.length
  have hb : (decide (k < -2 ^ 63) || decide (k ≥ 2 ^ 63)) = false := by
    simp only [Bool.or_eq_false_iff, decide_eq_false_iff_not]; omega
  have hb2 : (its.toArray.size : Int) * k ≤ 100000 := by simpa [← hl] using k3
  obtain ⟨o, ho, hc, n, hd⟩ := id ht
  obtain ⟨oc, od, oda, osl⟩ := o
  simp only at hc hd
  subst hc hd
  refine wpAny_binaryOp_repeat_ref (T := "tuple") (U := "int") (ix := .builtin "int.__index__") (by decide) ht.typeIs (fun s' => typeIs_int _ _ _) noFill_tuple_mul F.fills_int_mul F.slot_int_rmul repeat_tuple (F.slot_int_index).lookup ?_
  refine call_meets F.slot_int_rmul (typeIs_int _ _ _) F.entry_int_rmul (F.args_int_rmul_2 _ _) (int_rmul_tuple _ _ _ _ _ _ _) ⟨ho, ?_⟩
  refine ⟨rfl, ht.typeIs, ?_⟩
  refine call_meets F.slot_tuple_mul ht.typeIs F.entry_tuple_mul (F.args_tuple_mul_2 _ _) (tuple_mulA l its.toArray k t hb hb2) ⟨ht, fun hc => ?_, fun hc => ?_⟩
  · refine ⟨.ref l, H, I, rfl, q1 ?_⟩
    simp only [Bool.or_eq_true, beq_iff_eq] at hc
    rcases hc with hc | hc
    · left
      have : its = [] := by simpa using hc
      rw [this] at hl
      exact List.length_eq_zero_iff.mp hl
    · exact .inr hc
  · have hn : ¬ (xs = [] ∨ k = 1) := by
      simp only [Bool.or_eq_false_iff] at hc
      rintro (rfl | rfl)
      · have : its = [] := List.length_eq_zero_iff.mp hl.symm
        subst this
        exact absurd hc.1 (by decide)
      · exact absurd hc.2 (by decide)
    have nd : H s.heap.objs.size = none := I.hok.fresh (Nat.le_refl _)
    rw [size_rep]
    have hk0 : 0 ≤ k ∨ k < 0 := by omega
    refine ⟨.ref s.heap.objs.size, upd H s.heap.objs.size (.tup (List.replicate k.toNat xs).flatten), I.laid (fun b u e => Heap.get?_push_of_some _ e) (Nat.le_refl _) ?_, rfl, q2 hn _ nd⟩
    simp only [L2.ObjOk]
    refine ⟨?_, _, rv.rep k.toNat, IsTup.new _ _⟩
    rw [lm_len_rep_flat, sizeLine_eq]
    rcases hk0 with h0 | h0
    · have e2 : ((k.toNat * xs.length : Nat) : Int) = xs.length * k := by
        rw [Int.natCast_mul, Int.toNat_of_nonneg h0, Int.mul_comm]
      omega
    · have : k.toNat = 0 := by omega
      rw [this]; omega
end
section
open PySem.Spec PyProof.Rows
/-! ### tuples whose objects are known: the rules that make new ones, for methods of tuples -/
/-- a new tuple: its object has no dict -/
def NewT (H : Hp) (Q : VK) (xs : List V) : Prop := ∀ (p : Addr) (o : Obj), H p = none → o.dict = none → Q (.ref p) (upd H p (.frz o (.tup xs)))
section
variable {X : Cx} {pins : List (Addr × Obj)} {σ : L2.St} {H : Hp} {s : Shared} {Q : VK}
theorem laid_tup {xs : List V} {its : List Value} (I : Inv X pins σ H s) (r : Vals xs its) (hz : xs.length ≤ sizeLine) (q : NewT H Q xs) : EP X pins σ Q (.ref s.heap.objs.size) { s with heap := s.heap.push { cls := .type "tuple", data := .seq its.toArray } } :=
  ⟨.ref s.heap.objs.size, upd H s.heap.objs.size (.frz { cls := .type "tuple", data := .seq its.toArray } (.tup xs)), I.laid (t' := s.toks) (fun b u e => Heap.get?_push_of_some _ e) (Nat.le_refl _) ⟨Heap.get?_push_size _ rfl, hz, its, r, IsTup.new _ _⟩, rfl, q _ _ (I.hok.fresh (Nat.le_refl _)) rfl⟩
end
section
variable {X : Cx}
/-- a display -/
theorem pe_tupF {es : List Expr} {t : TA} {x1 : Nat} {pos : Pos} (h : PA X es t) : PE X (.Tuple es x1 pos) (fun σ H Q => t σ H fun xs H1 => xs.length ≤ sizeLine ∧ NewT H1 Q xs) := by
  refine ⟨fun pins s σ H Q I hq => ?_⟩
  exact wpAny_Tuple_spliced (thn (h.run pos pins s σ H _ I hq) fun us s1 ⟨xs, H1, I1, r, z, q⟩ => ⟨by rw [← r.length]; exact z, laid_tup I1 r z q⟩)
/-- t + u -/
def rCatF (K : PySem.W.Frag) : R2 := fun x y H Q => ∃ a b xs ys, x = .ref a ∧ y = .ref b ∧ SqT K H a xs ∧ SqT K H b ys ∧ xs.length + ys.length ≤ sizeLine ∧
  (xs = [] → Q (.ref b) H) ∧ (xs ≠ [] → ys = [] → Q (.ref a) H) ∧ (xs ≠ [] → ys ≠ [] → NewT H Q (xs ++ ys))
theorem op_catF : OpR X (binaryOp .Add) (rCatF X.K) := by
  intro pins s σ H x y v u Q I rx ry h
  obtain ⟨a, b, xs, ys, rfl, rfl, ha, hb, hz, q0, q1, q2⟩ := h
  cases rx
  cases ry
  obtain ⟨its, r1, p1, _⟩ := I.tuple ha
  obtain ⟨its2, r2, p2, _⟩ := I.tuple hb
  by_cases hx : xs = []
  · subst hx
    cases r1
    exact cat_tup0 p1 p2 ⟨.ref b, H, I, rfl, q0 rfl⟩
  · refine HT.cat_tup p1 p2 (fun z => hx (r1.nil_iff.mp z)) (fun z => ⟨.ref a, H, I, rfl, q1 hx (r2.nil_iff.mp z)⟩) (fun z => ?_) (by rw [← r1.length, ← r2.length]; exact hz)
    exact laid_tup I (r1.append r2) (by rw [List.length_append]; exact hz) (q2 hx fun w => z (r2.nil_iff.mpr w))
/-- t[lo:hi] -/
def rSlF (K : PySem.W.Frag) : V → Option Int → Option Int → Hp → VK → Prop := fun x lo hi H Q => ∃ a xs, x = .ref a ∧ SqT K H a xs ∧
  (HT.sIx xs.length 0 lo = 0 ∧ HT.sIx xs.length xs.length hi = xs.length → Q (.ref a) H) ∧ (¬ (HT.sIx xs.length 0 lo = 0 ∧ HT.sIx xs.length xs.length hi = xs.length) → NewT H Q (cutV xs lo hi))
theorem sl_tupF : SlR X (rSlF X.K) := by
  intro pins s σ H x v vl vu lo hi sl Q I rx hs pl pu h
  obtain ⟨a, xs, rfl, hx, q1, q2⟩ := h
  cases rx
  obtain ⟨its, r, ht, hz⟩ := I.tuple hx
  have hlen : its.toArray.size = xs.length := by rw [List.size_toArray]; exact r.length.symm
  refine ⟨"tuple", _, PyProof.Rows.slot_tuple_getitem.lookup, ht.typeIs, ?_⟩
  by_cases hw : HT.sIx xs.length 0 lo = 0 ∧ HT.sIx xs.length xs.length hi = xs.length
  · exact getItem_tuple_whole ht hs pl pu (by rw [hlen]; exact hw) ⟨.ref a, H, I, rfl, q1 hw⟩
  · refine HT.getItem_tuple_cut ht hs pl pu (by rw [hlen]; exact hw) ?_ (by rw [hlen]; exact hz)
    rw [hlen]
    exact laid_tup I ((r.drop (HT.sIx xs.length 0 lo)).take (HT.sIx xs.length xs.length hi - HT.sIx xs.length 0 lo)) (Nat.le_trans (cutV_length xs lo hi) hz) (q2 hw)
/-- tuple(l), tuple(t) -/
theorem call_tupleF : CallR X (.type "tuple") (fun xs H Q => ∃ p ys, xs = [.ref p] ∧ ((SqL X.K H p ys ∧ NewT H Q ys) ∨ (SqT X.K H p ys ∧ Q (.ref p) H))) := by
  intro pins s σ H xs us Q I r h
  obtain ⟨p, ys, rfl, h⟩ := h
  obtain ⟨u, rfl, rx⟩ := vals1 r
  cases rx
  rcases h with ⟨hq, q⟩ | ⟨hq, q⟩
  · obtain ⟨its, r', pl, hz⟩ := I.list hq
    have hlen := r'.length
    refine call_tuple_list pl.isList (fun h' kp => ?_) (by simp only [List.size_toArray] <;> omega)
    have I1 : Inv X pins σ H { s with heap := h' } := I.kept (t' := s.toks) kp
    exact laid_tup I1 r' hz q
  · obtain ⟨its, r', pl, hz⟩ := I.tuple hq
    exact call_tuple_same pl ⟨.ref p, H, I, rfl, q⟩
/-- t * k -/
def rRepF (K : PySem.W.Frag) : R2 := fun x y H Q => ∃ l k xs, x = .ref l ∧ y = .int k ∧ SqT K H l xs ∧ -2 ^ 63 ≤ k ∧ k < 2 ^ 63 ∧ (xs.length : Int) * k ≤ 100000 ∧ ((xs = [] ∨ k = 1) → Q (.ref l) H) ∧
  (¬ (xs = [] ∨ k = 1) → NewT H Q (List.replicate k.toNat xs).flatten)
theorem op_repF : OpR X (binaryOp .Mult) (rRepF X.K) := by
  intro pins s σ H x y v u Q I rx ry h
  obtain ⟨l, k, xs, rfl, rfl, hq, k1, k2, k3, q1, q2⟩ := h
  cases rx
  obtain ⟨t, rfl⟩ := ry
  obtain ⟨its, rv, ht, hz⟩ := I.tuple hq
  have hl := rv.length
  have hb : (decide (k < -2 ^ 63) || decide (k ≥ 2 ^ 63)) = false := by
    simp only [Bool.or_eq_false_iff, decide_eq_false_iff_not]; omega
  have hb2 : (its.toArray.size : Int) * k ≤ 100000 := by simpa [← hl] using k3
  obtain ⟨o, ho, hc, n, hd⟩ := id ht
  obtain ⟨oc, od, oda, osl⟩ := o
  simp only at hc hd
  subst hc hd
  refine wpAny_binaryOp_repeat_ref (T := "tuple") (U := "int") (ix := .builtin "int.__index__") (by decide) ht.typeIs (fun s' => typeIs_int _ _ _) noFill_tuple_mul F.fills_int_mul F.slot_int_rmul repeat_tuple (F.slot_int_index).lookup ?_
  refine call_meets F.slot_int_rmul (typeIs_int _ _ _) F.entry_int_rmul (F.args_int_rmul_2 _ _) (int_rmul_tuple _ _ _ _ _ _ _) ⟨ho, ?_⟩
  refine ⟨rfl, ht.typeIs, ?_⟩
  refine call_meets F.slot_tuple_mul ht.typeIs F.entry_tuple_mul (F.args_tuple_mul_2 _ _) (tuple_mulA l its.toArray k t hb hb2) ⟨ht, fun hc => ?_, fun hc => ?_⟩
  · refine ⟨.ref l, H, I, rfl, q1 ?_⟩
    simp only [Bool.or_eq_true, beq_iff_eq] at hc
    rcases hc with hc | hc
    · left
      have : its = [] := by simpa using hc
      rw [this] at hl
      exact List.length_eq_zero_iff.mp hl
    · exact .inr hc
  · have hn : ¬ (xs = [] ∨ k = 1) := by
      simp only [Bool.or_eq_false_iff] at hc
      rintro (rfl | rfl)
      · have : its = [] := List.length_eq_zero_iff.mp hl.symm
        subst this
        exact absurd hc.1 (by decide)
      · exact absurd hc.2 (by decide)
    rw [size_rep]
    have hk0 : 0 ≤ k ∨ k < 0 := by omega
    refine laid_tup I (rv.rep k.toNat) ?_ (q2 hn)
    rw [lm_len_rep_flat, sizeLine_eq]
    rcases hk0 with h0 | h0
    · have e2 : ((k.toNat * xs.length : Nat) : Int) = xs.length * k := by
        rw [Int.natCast_mul, Int.toNat_of_nonneg h0, Int.mul_comm]
      omega
    · have : k.toNat = 0 := by omega
      rw [this]; omega
/-- a new tuple's type and no dict: what a call of its method asks -/
theorem frz_is {pins : List (Addr × Obj)} {σ : L2.St} {H : Hp} {s : Shared} {a : Addr} {o : Obj} {xs : List V} (I : Inv X pins σ H s) (e : H a = some (.frz o (.tup xs))) (hd : o.dict = none) :
    s.TypeIs (.ref a) "tuple" ∧ (∀ b, Value.ref a = .ref b → ∃ ob, s.heap.get? b = some ob ∧ ob.dict = none) := by
  obtain ⟨h1, _, its, _, o2, h2, h3, _⟩ := I.hok a _ e
  rw [h1] at h2
  cases h2
  exact ⟨⟨o, h1, h3⟩, fun b z => by cases z; exact ⟨o, h1, hd⟩⟩
/-- a tuple whose object has no dict: a new one, one that stood at the start -/
def TupX (K : PySem.W.Frag) (x : V) (H : Hp) : Prop := ∃ a, x = .ref a ∧ ((∃ o xs, H a = some (.frz o (.tup xs)) ∧ o.dict = none) ∨ ∃ o, K.lookup a = some o ∧ o.cls = .type "tuple" ∧ o.dict = none)
theorem tupX_is {pins : List (Addr × Obj)} {σ : L2.St} {H : Hp} {s : Shared} {x : V} {v : Value} (I : Inv X pins σ H s) (r : RelV x v) (t : TupX X.K x H) : s.TypeIs v "tuple" ∧ (∀ b, v = .ref b → ∃ ob, s.heap.get? b = some ob ∧ ob.dict = none) := by
  obtain ⟨a, rfl, h⟩ := t
  cases r
  rcases h with ⟨o, xs, e, hd⟩ | ⟨o, hk, hc, hd⟩
  · exact frz_is I e hd
  · exact ⟨⟨o, I.kIn a o hk, hc⟩, fun b e => by cases e; exact ⟨o, I.kIn a o hk, hd⟩⟩
/-- t.m(e, ..) -/
theorem pe_tm {o e : Expr} {es : List Expr} {name : Str} {id : String} {apos cpos : Pos} {to : TE} {t : TA} {r : V → List V → Hp → VK → Prop} (slot : Slot "tuple" name id) (hty : typeOf (.builtin id) = pure (.type "method_descriptor")) (hm : MtR X id r) (ho : PE X o to) (ha : PA X (e :: es) t)
    (hbase : attributeBase o name X.env (eval o X.env) = eval o X.env)
    (hfew : ((backTo cpos (starEach (e :: es) X.env)).all (fun x => !x.1) && (backToKw cpos (keywordEach [] X.env)).all (fun x => x.1.isSome)
      && decide ((e :: es).length + ([] : List Keyword).length + (if ([] : List Keyword).isEmpty then 0 else 1) < 30)) = true)
    (hline : (apos.endLine == cpos.line) = true) (hs : starEach (e :: es) X.env = (false, eval e X.env) :: starEach es X.env) (hplain : (backTo cpos (starEach es X.env)).any (·.1) = false) :
    PE X (.Call (.Attribute o name apos) (e :: es) [] cpos) (fun σ H Q => to σ H fun x H1 => TupX X.K x H1 ∧ t σ H1 fun xs H2 => r x xs H2 Q) := by
  refine ⟨fun pins s σ H Q I h => ?_⟩
  refine wpAny_Call_method_late hbase hfew hline rfl (thn (ho.run pins s σ H _ I h) fun v s1 ⟨x, H1, I1, r1, ty, q1⟩ => ?_)
  obtain ⟨h1, h2⟩ := tupX_is I1 r1 ty
  refine ⟨"tuple", id, PySem.F.plainAttrs_tuple, slot, hty, h1, h2, ?_⟩
  have hA := ha.run cpos pins s1 σ H1 _ I1 q1
  rw [hs] at hA ⊢
  refine Calls.callWith_builtin (by show (false || (backTo cpos (starEach es X.env)).any (·.1)) = false; rw [hplain] <;> rfl) (Calls.evalArgs_plain ?_)
  exact thn hA fun us s2 ⟨vs, H2, I2, r2, q2⟩ => hm pins s2 σ H2 x vs v us Q I2 r1 r2 q2
/-- t.count(x) -/
def rCount (K : PySem.W.Frag) : V → List V → Hp → VK → Prop := fun x xs H Q => ∃ a ys ds y d, x = .ref a ∧ xs = [y] ∧ SqT K H a ys ∧ DpAll K H ys ds ∧ Dp K H y d ∧ PyData.plainAll ds = true ∧ d.plain = true ∧ min (PyData.depthAll ds) d.depth ≤ 60 ∧
  Q (.int ((ds.countP fun z => PyData.eqv z d : Nat) : Int)) H
theorem mt_count (hu : X.A.units + 65 < cLine) : MtR X "tuple.count" (rCount X.K) := by
  intro pins s σ H x xs v us Q I rx r h
  obtain ⟨a, ys, ds, y, d, rfl, rfl, hq, hy, hd, p1, p2, dp, q⟩ := h
  cases rx
  obtain ⟨u, rfl, ru⟩ := vals1 r
  obtain ⟨its, r1, pl, hz⟩ := I.tuple hq
  obtain ⟨as, rs⟩ := Dp.readsAll I ds ys its hy r1
  obtain ⟨bs, rb⟩ := Dp.reads I d y u hd ru
  have I1 : Inv X pins σ H { s with toks := s.toks + 1 } := I.kept (h' := s.heap) (t' := s.toks + 1) (fun _ _ q => q)
  exact PySem.SeqAt.count_tuple_data (vs := its.toArray) pl rs rb p1 p2 (by omega) ⟨.int _, H, I1, ⟨_, rfl⟩, q⟩
end
end
theorem boundedI {i : Int} (h : bounded i = true) : -(2 ^ 64) < i ∧ i < 2 ^ 64 := by
  unfold bounded at h
  simp only [Bool.and_eq_true, decide_eq_true_eq] at h
  omega
def pyB : Bop → Operator
  | .add => .Add | .sub => .Sub | .mul => .Mult | .fdiv => .FloorDiv | .mod => .Mod | .pow => .Pow
/-- an operation on related values, read off binop -/
def rB (K : PySem.W.Frag) (o : Bop) : R2 := fun x y H Q => ∃ L Z a b S p, StR K H L Z S ∧ RD K H L Z x a ∧ RD K H L Z y b ∧ binop o a b S = some p ∧
  ∀ H1 v, Ext H L H1 L → StR K H1 L Z S → Rp K H1 L Z v p → Q v H1
section
variable {X : Cx}
theorem b_lst {pins : List (Addr × Obj)} {s : Shared} {σ : L2.St} {H : Hp} {x y : V} {v u : Value} {Q : VK} (I : Inv X pins σ H s) (rx : RelV x v) (ry : RelV y u)
    {L Z : List Addr} {a b : D} {S : Sto} {xs ys : List P} (st : StR X.K H L Z S) (ha : RD X.K H L Z x a) (hb : RD X.K H L Z y b) (ea : asList a S = some xs) (eb : asList b S = some ys) (hl : xs.length + ys.length ≤ LIM)
    (q : ∀ H1 v, Ext H L H1 L → StR X.K H1 L Z S → Rp X.K H1 L Z v (.lst (xs ++ ys)) → Q v H1) : wpAny (model X.prog X.w) X.A (binaryOp .Add v u) (EP X pins σ Q) X.xe s := by
  obtain ⟨l1, vs, rfl, e1, r1⟩ := asList_ok st ha ea
  obtain ⟨l2, us, rfl, e2, r2⟩ := asList_ok st hb eb
  refine op_cat pins s σ H _ _ v u Q I rx ry ⟨l1, l2, vs, us, rfl, rfl, e1, e2, le_line (by rw [r1.len, r2.len]; exact hl), fun p hp => ?_⟩
  obtain ⟨n1, n2, n3⟩ := new_lst st (r1.app r2) hp
  exact q _ _ n1 n2 n3
theorem add_listG (l : Addr) (items : Array Value) (n : Nat) (dd : Option Addr) (sl : Array (Option Value)) (b : Addr) (items2 : Array Value) (n2 : Nat) (hc0 : items.size + items2.size ≤ sizeLine) :
    Meets (Builtin.«list.__add__» ⟨[.ref l, .ref b], []⟩) (fun _ R s => s.heap.get? l = some { cls := .type "list", dict := dd, data := .seq items n, slots := sl } ∧ s.heap.get? b = some { cls := .type "list", dict := none, data := .seq items2 n2, slots := #[] } ∧ R (.ok (.ret (Value.ref s.heap.objs.size))) { s with heap := s.heap.push { cls := Value.type "list", data := Data.seq (items ++ items2) }, toks := s.toks }) :=
  .of_wp fun prog w A R s h => by
    obtain ⟨hp, g, d, tk, os⟩ := s; obtain ⟨hl, hb, h⟩ := h
    have f1 := AutoSeq1.idx_int; have f2 := AutoSeq1.sub_tuple_tuple; have f3 := AutoSeq1.sub_list_list; have f4 := AutoSeq1.sub_tuple_list; have f5 := AutoSeq1.sub_list_tuple
    wp_walk using AutoSeq1.wpAny_loadPart' hl, AutoSeq1.wpAny_loadPart' hb
    exact ⟨_, rfl, h⟩
/-- the script + a list -/
theorem b_scr {pins : List (Addr × Obj)} {s : Shared} {σ : L2.St} {H : Hp} {x y : V} {v u : Value} {Q : VK} (I : Inv X pins σ H s) (rx : RelV x v) (ry : RelV y u)
    {L Z : List Addr} {b : D} {ns : List Int} {S : Sto} {ys : List P} (st : StR X.K H L Z S) (ha : RD X.K H L Z x (.scr ns)) (hb : RD X.K H L Z y b) (eb : asList b S = some ys) (hl : ns.length + ys.length ≤ LIM)
    (q : ∀ vs p, H p = none → RpL X.K H L Z vs (ns.map .int ++ ys) → Q (.ref p) (upd H p (.lst vs))) : wpAny (model X.prog X.w) X.A (binaryOp .Add v u) (EP X pins σ Q) X.xe s := by
  have hq : ∃ a, x = .ref a ∧ SqL X.K H a (ns.map V.int) := by
    cases ha with
    | scr h n => exact ⟨_, rfl, .inl h⟩
    | scrK h => exact ⟨_, rfl, sqL_any h⟩
  obtain ⟨a, rfl, hq⟩ := hq
  obtain ⟨l2, us, rfl, e2, r2⟩ := asList_ok st hb eb
  cases rx
  cases ry
  obtain ⟨its, rv, ⟨⟨cls, dd, data, sls⟩, n, ho, hc, hdn, hdt⟩, hz⟩ := I.list hq
  simp only at hc hdt
  subst hc hdt
  obtain ⟨z2, its2, n2, rv2, hl2, eo2⟩ := I.lstM e2
  have k1 := rv.length
  have k2 := r2.len
  rw [List.length_map] at k1
  have hsz : its.toArray.size + its2.toArray.size ≤ sizeLine := by
    rw [List.size_toArray, List.size_toArray]
    exact le_line (by omega)
  refine PySem.concat_meets ⟨_, ho, rfl⟩ ⟨_, eo2, rfl⟩ noFill_list_add seq_list_add F.slot_list_add F.entry_list_add (F.args_list_add_2 _ _) (add_listG a its.toArray n dd sls l2 its2.toArray n2 hsz) ⟨ho, eo2, ?_⟩
  have ea : its.toArray ++ its2.toArray = (its ++ its2).toArray := by simp
  rw [ea]
  refine ⟨.ref _, _, I.lnew (t' := s.toks) (rv.append rv2) ?_, rfl, q _ _ I.fresh ((RpL.ints ns).app r2)⟩
  rw [List.length_append, List.length_map]
  exact le_line (by omega)
theorem op_b (o : Bop) : OpR X (binaryOp (pyB o)) (rB X.K o) := by
  intro pins s σ H x y v u Q I rx ry h
  obtain ⟨L, Z, a, b, S, p, st, ha, hb, e, q⟩ := h
  cases o with
  | add =>
    simp only [binop] at e
    split at e
    · cases ha.pI; cases hb.pI
      cases e
      exact op_add pins s σ H _ _ v u Q I rx ry ⟨_, _, rfl, rfl, q _ _ Ext.refl st (.int _)⟩
    · cases ha.pI; cases hb.pI
      split at e
      · cases e
        rename_i i j hl
        refine op_add_str pins s σ H _ _ v u Q I rx ry ⟨_, _, rfl, rfl, le_line (by simpa [Str.length] using hl), ?_⟩
        have e2 : (T i ++ T j : Str) = T (i ++ j) := by
          show (⟨i.toArray ++ j.toArray⟩ : Str) = ⟨(i ++ j).toArray⟩
          rw [List.append_toArray]
        rw [e2]
        exact q _ _ Ext.refl st (.str _)
      · cases e
    · split at e
      · cases e
        rename_i xs ys hl
        obtain ⟨t1, vs, rfl, h1, r1⟩ := ha.pI.tupI
        obtain ⟨t2, us, rfl, h2, r2⟩ := hb.pI.tupI
        refine op_catF pins s σ H _ _ v u Q I rx ry ⟨t1, t2, vs, us, rfl, rfl, h1, h2, le_line (by rw [r1.len, r2.len]; exact hl), fun ev => ?_, fun ev eu => ?_, fun ev eu p o hp hd => ?_⟩
        · have : xs = [] := r1.nil_iff.mp ev
          subst this
          exact q _ _ Ext.refl st hb.pI
        · have : ys = [] := r2.nil_iff.mp eu
          subst this
          rw [List.append_nil] at q
          exact q _ _ Ext.refl st ha.pI
        · obtain ⟨n1, n2, n3⟩ := new_tup st (r1.app r2) hp hd
          exact q _ _ n1 n2 n3
      · cases e
    · split at e
      · rename_i ys eb
        split at e
        · cases e
          refine b_scr I rx ry st ha hb eb ‹_› fun vs p hp r => ?_
          obtain ⟨n1, n2, n3⟩ := new_lst st r hp
          exact q _ _ n1 n2 n3
        · cases e
      · cases e
    · split at e
      · rename_i xs ys ea eb
        split at e
        · cases e
          exact b_lst I rx ry st ha hb ea eb ‹_› q
        · cases e
      · cases e
  | sub =>
    simp only [binop] at e
    split at e
    · cases ha.pI; cases hb.pI
      cases e
      exact op_sub pins s σ H _ _ v u Q I rx ry ⟨_, _, rfl, rfl, q _ _ Ext.refl st (.int _)⟩
    · cases e
  | mul =>
    simp only [binop] at e
    split at e
    · cases ha.pI; cases hb.pI
      split at e
      · cases e
        rename_i i j hb
        simp only [Bool.or_eq_true] at hb
        refine op_mul pins s σ H _ _ v u Q I rx ry ⟨_, _, rfl, rfl, ?_, q _ _ Ext.refl st (.int _)⟩
        rcases hb with hb | hb
        · exact .inl (boundedI hb)
        · exact .inr (boundedI hb)
      · cases e
    · cases hb.pI
      split at e
      · cases e
        rename_i xs k hc
        simp only [Bool.and_eq_true, decide_eq_true_eq] at hc
        obtain ⟨⟨c1, c2⟩, c3⟩ := hc
        have pa := ha.pI
        obtain ⟨l1, vs, rfl, e1, r1⟩ := ha.pI.tupI
        have hlen := r1.len
        refine op_repF pins s σ H _ _ v u Q I rx ry ⟨l1, k, vs, rfl, rfl, e1, c1, c2, ?_, fun hc => q _ _ Ext.refl st ?_, fun hn p o hp hd => ?_⟩
        · rw [hlen]
          unfold LIM at c3
          rcases Int.le_total 0 k with h0 | h0
          · have e2 : ((xs.length * k.toNat : Nat) : Int) = xs.length * k := by rw [Int.natCast_mul, Int.toNat_of_nonneg h0]
            omega
          · have := Int.mul_nonneg (Int.natCast_nonneg xs.length) (show 0 ≤ -k by omega)
            rw [Int.mul_neg] at this
            omega
        · have e2 : (List.replicate k.toNat xs).flatten = xs := by
            rcases hc with rfl | rfl
            · have : xs = [] := List.length_eq_zero_iff.mp hlen.symm
              rw [this]
              exact List.flatten_replicate_nil ..
            · simp
          rw [e2]
          exact pa
        · obtain ⟨n1, n2, n3⟩ := new_tup st (r1.rep _) hp hd
          exact q _ _ n1 n2 n3
      · cases e
    · cases hb.pI
      split at e
      · rename_i xs ea
        split at e
        · cases e
          rename_i hc
          simp only [Bool.and_eq_true, decide_eq_true_eq] at hc
          obtain ⟨l1, vs, rfl, e1, r1⟩ := asList_ok st ha ea
          refine op_rep pins s σ H _ _ v u Q I rx ry ⟨l1, _, vs, rfl, rfl, e1, hc.1.1, hc.1.2, le_line (by rw [r1.len]; exact hc.2), fun p hp => ?_⟩
          obtain ⟨n1, n2, n3⟩ := new_lst st (r1.rep _) hp
          exact q _ _ n1 n2 n3
        · cases e
      · cases e
    · cases e
  | fdiv =>
    simp only [binop] at e
    split at e
    · cases ha.pI; cases hb.pI
      split at e
      · cases e
        rename_i hc
        simp only [Bool.and_eq_true, decide_eq_true_eq] at hc
        exact op_fdivW pins s σ H _ _ v u Q I rx ry ⟨_, _, rfl, rfl, wide_div (b := 64) hc.1 (by omega) (by omega) (by omega), q _ _ Ext.refl st (.int _)⟩
      · cases e
    · cases e
  | mod =>
    simp only [binop] at e
    split at e
    · cases ha.pI; cases hb.pI
      split at e
      · cases e
        rename_i hc
        exact op_mod pins s σ H _ _ v u Q I rx ry ⟨_, _, rfl, rfl, hc, q _ _ Ext.refl st (.int _)⟩
      · cases e
    · cases e
  | pow =>
    simp only [binop] at e
    split at e
    · cases ha.pI; cases hb.pI
      split at e
      · cases e
        rename_i hc
        simp only [Bool.and_eq_true, decide_eq_true_eq] at hc
        have := boundedI hc.2
        exact op_pow pins s σ H _ _ v u Q I rx ry ⟨_, _, rfl, rfl, ⟨hc.1.1, hc.1.2, by omega⟩, q _ _ Ext.refl st (.int _)⟩
      · cases e
    · cases e
end

/-! ### dicts by tuples of any kind -/
section
variable {K : PySem.W.Frag} {H : Hp} {L Z : List Addr} {S : Sto}
/-- the places of keys and values -/
theorem atKey_cons {x : NestedKey × Addr × Value} {xs : List (NestedKey × Addr × Value)} {k : NestedKey} : atKey (x :: xs) k = if x.1 = k then some x.2 else atKey xs k := by
  unfold atKey
  rw [List.find?_cons]
  by_cases h : x.1 = k
  · simp [h]
  · simp [h]
theorem lookN_rel : ∀ {xs : List (NestedKey × Addr × Value)} {ks ps : List P} {vs : List V} {x : P}, xs.map (·.1) = ks.map nkP → ks.all okN = true → okN x = true → Vals vs (xs.map (·.2.2)) → RpL K H L Z vs ps →
    ((atKey xs (nkP x)).isSome = decide (x ∈ ks)) ∧ ∀ p, lookN ks ps x = some p → ∃ a u v, atKey xs (nkP x) = some (a, u) ∧ RelV v u ∧ Rp K H L Z v p
  | [], [], _, _, _, _, _, _, _, _ => by simp [atKey, lookN]
  | [], _ :: _, _, _, _, h, _, _, _, _ => by simp at h
  | _ :: _, [], _, _, _, h, _, _, _, _ => by simp at h
  | y :: xs, k :: ks, ps, vs, x, h, ho, hx, hv, hr => by
    simp only [List.map_cons, List.cons.injEq] at h
    simp only [List.all_cons, Bool.and_eq_true] at ho
    cases hv with
    | cons v1 v2 =>
      cases hr with
      | cons r1 r2 =>
        obtain ⟨h1, h2⟩ := lookN_rel h.2 ho.2 hx v2 r2
        have ok1 : nkOk k = true := by have := ho.1; unfold okN at this; simp only [Bool.and_eq_true] at this; exact this.1.2
        have ok2 : nkOk x = true := by unfold okN at hx; simp only [Bool.and_eq_true] at hx; exact hx.1.2
        rw [atKey_cons, h.1]
        by_cases e : k = x
        · subst e
          refine ⟨by simp, fun p hp => ?_⟩
          simp only [lookN, if_true, Option.some.injEq] at hp
          subst hp
          exact ⟨_, _, _, by rw [if_pos rfl], v1, r1⟩
        · have ne : nkP k ≠ nkP x := fun z => e (nkP_inj ok1 ok2 z)
          rw [if_neg ne]
          refine ⟨by rw [h1]; simp [Ne.symm e], fun p hp => ?_⟩
          simp only [lookN, if_neg e] at hp
          exact h2 p hp
theorem nk_depth : ∀ {p : P}, nkOk p = true → (nkP p).depth ≤ p.dep := by
  intro p
  induction p using P.rec (motive_2 := fun xs => nkOkL xs = true → NestedKey.depthAll (nkL xs) ≤ depL xs) with
  | tup xs ih => intro h; have := ih (by simpa [nkOk] using h); simp only [nkP, NestedKey.depth, P.dep]; omega
  | nil => simp [nkL, NestedKey.depthAll]
  | cons x r ih1 ih2 =>
    rename_i h
    have h' : nkOk x = true ∧ nkOkL r = true := by simpa [nkOkL] using h
    have := ih1 h'.1
    have := ih2 h'.2
    simp only [nkL, NestedKey.depthAll, depL]; omega
  | int i => intro _; simp [nkP, NestedKey.depth]
  | str x => intro _; simp [nkP, NestedKey.depth]
  | _ => intro h; first | (simp [nkOk] at h; done) | trivial
end
section
variable {X : Cx} {pins : List (Addr × Obj)} {σ : L2.St} {H : Hp} {s : Shared} {L Z : List Addr}
mutual
theorem Rp.nested (I : Inv X pins σ H s) : ∀ {v : V} {p : P} {u : Value}, Rp X.K H L Z v p → nkOk p = true → RelV v u → NestedIs s.heap (nkP p) u
  | _, _, _, .int i, _, ⟨t, e⟩ => by subst e; exact .int _ _
  | _, _, _, .str x, _, ⟨t, e⟩ => by subst e; exact .text _ _
  | _, _, _, .tup (ps := ps) h d n r, hp, e => by
    cases e
    obtain ⟨its, rv, ht, hz⟩ := I.tuple (show SqT X.K H _ _ from .inl (.inr ⟨_, h⟩))
    obtain ⟨o, ho, hc, m, hd⟩ := ht
    simp only [nkP]
    exact .tup ho hc hd (by simpa using RpL.nested I r (by simpa [nkOk] using hp) rv)
  | _, _, _, .tupK (ps := ps) h k r, hp, e => by
    cases e
    obtain ⟨its, rv, ht, hz⟩ := I.tuple (sqT_any h)
    obtain ⟨o, ho, hc, m, hd⟩ := ht
    simp only [nkP]
    exact .tup ho hc hd (by simpa using RpL.nested I r (by simpa [nkOk] using hp) rv)
  | _, _, _, .non, hp, _ => by simp [nkOk] at hp
  | _, _, _, .bl b, hp, _ => by simp [nkOk] at hp
  | _, _, _, .rep q, hp, _ => by simp [nkOk] at hp
  | _, _, _, .lst h n r, hp, _ => by simp [nkOk] at hp
  | _, _, _, .dct h n k r, hp, _ => by simp [nkOk] at hp
theorem RpL.nested (I : Inv X pins σ H s) : ∀ {vs : List V} {ps : List P} {us : List Value}, RpL X.K H L Z vs ps → nkOkL ps = true → Vals vs us → NestedAll s.heap (nkL ps) us
  | _, _, _, .nil, _, .nil => by simp only [nkL]; exact .nil
  | _, _, _, .cons (p := p) (ps := ps) h r, hp, .cons e f => by
    have h' : nkOk p = true ∧ nkOkL ps = true := by simpa [nkOkL] using hp
    simp only [nkL]
    exact .cons (Rp.nested I h h'.1 e) (RpL.nested I r h'.2 f)
end
theorem okN_nk {x : P} (h : okN x = true) : nkOk x = true ∧ x.dep ≤ 7 ∧ ∃ ys, x = .tup ys := by
  unfold okN at h
  simp only [Bool.and_eq_true, decide_eq_true_eq] at h
  refine ⟨h.1.2, h.2, ?_⟩
  have := h.1.1
  cases x with
  | tup ys => exact ⟨ys, rfl⟩
  | _ => simp [isTP] at this
/-- a key's address -/
theorem key_is (I : Inv X pins σ H s) {v : V} {x : P} {u : Value} (r : Rp X.K H L Z v x) (hx : okN x = true) (rv : RelV v u) : ∃ a, v = .ref a ∧ u = .ref a ∧ (nestedKind X.prog X.w).is s.heap (nkP x) a := by
  obtain ⟨h1, h2, ys, rfl⟩ := okN_nk hx
  obtain ⟨a, vs, rfl, _, _⟩ := r.tupI
  have hn := r.nested I h1 rv
  cases rv
  exact ⟨a, rfl, rfl, hn, Nat.le_trans (nk_depth h1) (by omega)⟩
theorem keys_is (I : Inv X pins σ H s) : ∀ {xs : List (NestedKey × Addr × Value)} {ks : List P}, RpL X.K H L Z (xs.map fun x => V.ref x.2.1) ks → xs.map (·.1) = ks.map nkP → ks.all okN = true → ∀ x ∈ xs, (nestedKind X.prog X.w).is s.heap x.1 x.2.1
  | [], _, _, _, _, x, hx => by cases hx
  | y :: xs, [], _, h, _, x, hx => by simp at h
  | y :: xs, k :: ks, r, h, ho, x, hx => by
    simp only [List.map_cons, List.cons.injEq] at h
    simp only [List.all_cons, Bool.and_eq_true] at ho
    cases r with
    | cons r1 r2 =>
      rcases List.mem_cons.mp hx with rfl | hx
      · obtain ⟨a, e1, _, e3⟩ := key_is I r1 ho.1 rfl
        cases e1
        rw [h.1]; exact e3
      · exact keys_is I r2 h.2 ho.2 x hx
theorem nd_keys {xs : List (NestedKey × Addr × Value)} {ks : List P} (h : xs.map (·.1) = ks.map nkP) (ho : ks.all okN = true) (hn : ks.Nodup) : (xs.map (·.1)).Nodup := by
  rw [h]
  clear h
  induction ks with
  | nil => simp
  | cons k ks ih =>
    simp only [List.all_cons, Bool.and_eq_true] at ho
    rw [List.nodup_cons] at hn
    rw [List.map_cons, List.nodup_cons]
    refine ⟨fun m => ?_, ih ho.2 hn.2⟩
    obtain ⟨j, hj, e⟩ := List.mem_map.mp m
    have := List.all_eq_true.mp ho.2 j hj
    exact hn.1 (by rw [← nkP_inj (okN_nk this).1 (okN_nk ho.1).1 e]; exact hj)
/-- the dict as the library knows it -/
theorem dict_of (hw : WW.w = X.w) (I : Inv X pins σ H s) {a : Addr} {xs : List (NestedKey × Addr × Value)} {ks : List P} (h : H a = some (DictN WW.w a xs)) (r : RpL X.K H L Z (xs.map fun x => V.ref x.2.1) ks) (hk : xs.map (·.1) = ks.map nkP) (ho : ks.all okN = true) (hn : ks.Nodup) :
    (a == sysModules) = false ∧ s.heap.DictOfH (nestedKind X.prog X.w) a xs := by
  have ok := I.hok a _ h
  obtain ⟨⟨hs, o, es, ep, h1, h2, h3, h4⟩, _, _⟩ := ok
  refine ⟨hs, o, es, ep, h1, h2, h3, ?_, keys_is I r hk ho, nd_keys hk ho hn⟩
  rw [h4, hw]
  rfl
theorem dictN_some {d : D} {S : Sto} {kv : List P × List P} (h : dictN d S = some kv) : ∃ k, d = .mu k ∧ S[k]? = some (.dN kv.1 kv.2) := by
  unfold dictN at h
  split at h
  · split at h
    · cases h; exact ⟨_, rfl, by assumption⟩
    · cases h
  · cases h
theorem op_inN (hu : X.A.units + 65 < cLine) (hw : WW.w = X.w) {S : Sto} {x y : V} {v u : Value} {Q : VK} (I : Inv X pins σ H s) (rx : RelV x v) (ry : RelV y u) {a b : D} {kv : List P × List P} {k : Bool} (st : StR X.K H L Z S) (ha : RD X.K H L Z x a) (hb : RD X.K H L Z y b)
    (hd : dictN b S = some kv) (e : inN a kv.1 = some k) :
    (Q (.bl k) H → wpAny (model X.prog X.w) X.A (compareOp .In v u) (EP X pins σ Q) X.xe s) ∧ (Q (.bl (!k)) H → wpAny (model X.prog X.w) X.A (compareOp .NotIn v u) (EP X pins σ Q) X.xe s) := by
  obtain ⟨j, rfl, hj⟩ := dictN_some hd
  unfold inN at e
  split at e
  · rename_i z
    split at e
    · rename_i hz
      cases e
      cases hb with
      | mu hl =>
        rename_i m
        cases ry
        obtain ⟨xs, vs, h1, h2, ⟨h3, h4, _⟩, r1, hv, r2⟩ := st.at_ j _ _ hl hj
        obtain ⟨hs, hm⟩ := dict_of hw I h1 r1 h2 h3 h4
        obtain ⟨q, rfl, rfl, hk⟩ := key_is I ha.pI hz rx
        have room : (nestedKind X.prog X.w).room X.A.in1 := by show X.A.units + 1 + 8 < cLine; omega
        have hi := (lookN_rel (x := z) h2 h3 hz hv r2).1
        have I1 : ∀ t, Inv X pins σ H { s with toks := t } := fun t => I.kept (h' := s.heap) (t' := t) (fun _ _ q => q)
        refine ⟨fun q => wpAny_in_heap room hk hs hm ⟨.bl _, H, I1 _, by rw [hi]; rfl, q⟩, fun q => ?_⟩
        exact PyProof.Rows.wpAny_notIn_heap room hk hs hm ⟨.bl _, H, I1 _, by rw [hi]; rfl, q⟩
    · cases e
  · cases e
end
/-! ### comparisons -/
section
variable {K : PySem.W.Frag} {H : Hp} {L Z : List Addr} {S : Sto}
theorem Rp.bare {v : V} {p : P} (h : Rp K H L Z v p) : Rp K H [] [] v p := h.less fun _ _ => ⟨by simp, by simp⟩
theorem RpL.bare {vs : List V} {ps : List P} (h : RpL K H L Z vs ps) : RpL K H [] [] vs ps := h.less fun _ _ => ⟨by simp, by simp⟩
theorem view_ok (s : StR K H L Z S) {v : V} {d : D} {x : P} (h : RD K H L Z v d) (e : view d S = some x) : Rp K H [] [] v x := by
  cases d with
  | p y =>
    simp only [view, Option.some.injEq] at e
    subst e
    exact h.pI.bare
  | mu k =>
    simp only [view] at e
    cases hk : S[k]? with
    | none => rw [hk] at e; cases e
    | some o =>
      rw [hk] at e
      cases h with
      | mu hl =>
        cases o with
        | lst xs =>
          simp only [Option.some.injEq] at e
          subst e
          obtain ⟨vs, e1, r⟩ := s.at_ k _ _ hl hk
          exact .lst e1 ⟨by simp, by simp⟩ r.bare
        | dK ks ps =>
          simp only [Option.some.injEq] at e
          subst e
          obtain ⟨kvs, e1, e2, r⟩ := s.at_ k _ _ hl hk
          exact .dct e1 ⟨by simp, by simp⟩ e2 r.bare
        | dT ks ps => cases e
        | dN ks ps => cases e
  | _ => simp [view] at e
mutual
theorem Rp.dp : ∀ {v : V} {p : P}, Rp K H L Z v p → p.plain = true → Dp K H v p.py
  | _, _, .non, _ => by simp only [P.py]; exact .non
  | _, _, .bl b, _ => by simp only [P.py]; exact .bl b
  | _, _, .int i, _ => by simp only [P.py]; exact .int i
  | _, _, .str x, _ => by simp only [P.py]; exact .str _
  | _, _, .rep p, h => by simp [P.plain] at h
  | _, _, .tup h d n r, hp => by simp only [P.py]; exact .tup (.inl (.inr ⟨_, h⟩)) (RpL.dp r (by simpa [P.plain] using hp))
  | _, _, .tupK h k r, hp => by simp only [P.py]; exact .tup (sqT_any h) (RpL.dp r (by simpa [P.plain] using hp))
  | _, _, .lst h n r, hp => by simp only [P.py]; exact .lst (.inl (.inl h)) (RpL.dp r (by simpa [P.plain] using hp))
  | _, _, .dct h n k r, hp => by simp [P.plain] at hp
theorem RpL.dp : ∀ {vs : List V} {ps : List P}, RpL K H L Z vs ps → plainL ps = true → DpAll K H vs (pyL ps)
  | _, _, .nil, _ => by simp only [pyL]; exact .nil
  | _, _, .cons (p := p) (ps := ps) h r, hp => by
    have h' : p.plain = true ∧ plainL ps = true := by simpa [plainL] using hp
    simp only [pyL]; exact .cons (Rp.dp h h'.1) (RpL.dp r h'.2)
end
theorem scalar_ok {v u : V} {x y : P} (hx : Rp K H [] [] v x) (hy : Rp K H [] [] u y) (h : scalar x y = true) : scal v u = true ∧ decide (v = u) = P.eqv x y := by
  cases hx <;> cases hy <;> simp only [scalar, Bool.false_eq_true] at h <;> refine ⟨rfl, ?_⟩
  all_goals first
    | (simp only [P.eqv, V.int.injEq, V.bl.injEq, V.str.injEq, reduceCtorEq, decide_false, decide_true]; done)
    | (simp only [P.eqv, V.int.injEq, V.bl.injEq]; rw [Bool.eq_iff_iff]; simp; done)
    | skip
  all_goals
    rename_i a b
    simp only [P.eqv, V.str.injEq]
    first
      | done
      | (rw [Bool.eq_iff_iff]; simp only [decide_eq_true_eq, beq_iff_eq]; exact ⟨T_inj, fun e => by rw [e]⟩)
      | (split
         · rename_i hb
           rw [P.beq_eq hb]; simp
         · rfl)
end
def pyC : Cop → CmpOp
  | .eq => .Eq | .ne => .NotEq | .lt => .Lt | .le => .LtE | .gt => .Gt | .ge => .GtE | .isN => .Is | .notN => .IsNot | .inn => .In | .nin => .NotIn
def rC (K : PySem.W.Frag) (o : Cop) : R2 := fun x y H Q => ∃ L Z a b S k, StR K H L Z S ∧ RD K H L Z x a ∧ RD K H L Z y b ∧ cmpop o a b S = some k ∧ Q (.bl k) H
section
variable {X : Cx}
theorem op_eqP (hu : X.A.units + 65 < cLine) {pins : List (Addr × Obj)} {s : Shared} {σ : L2.St} {H : Hp} {v u : V} {vv uu : Value} {Q : VK} (I : Inv X pins σ H s) (rx : RelV v vv) (ry : RelV u uu)
    {x y : P} {k : Bool} (hx : Rp X.K H [] [] v x) (hy : Rp X.K H [] [] u y) (e : eqP x y = some k) :
    (Q (.bl k) H → wpAny (model X.prog X.w) X.A (compareOp .Eq vv uu) (EP X pins σ Q) X.xe s) ∧ (Q (.bl (!k)) H → wpAny (model X.prog X.w) X.A (compareOp .NotEq vv uu) (EP X pins σ Q) X.xe s) := by
  unfold eqP at e
  split at e
  · rename_i hs
    cases e
    obtain ⟨h1, h2⟩ := scalar_ok hx hy hs
    exact ⟨fun q => op_eq pins s σ H v u vv uu Q I rx ry ⟨h1, by rw [h2]; exact q⟩, fun q => op_ne pins s σ H v u vv uu Q I rx ry ⟨h1, by rw [h2]; exact q⟩⟩
  · split at e
    · rename_i xs _
      cases e
      obtain ⟨a, vs, rfl, h1, r1⟩ := hx.tupI
      obtain ⟨b, us, rfl, h2, r2⟩ := hy.tupI
      have hus : us = [] := r2.nil_iff.mpr rfl
      subst hus
      cases rx; cases ry
      obtain ⟨its, rv, p1, _⟩ := I.tuple h1
      obtain ⟨its2, rv2, p2, _⟩ := I.tuple h2
      cases rv2
      have hk : ((List.range (min its.toArray.size ([] : List Value).toArray.size)).all (fun _ => true) && its.toArray.size == ([] : List Value).toArray.size) = xs.isEmpty := by
        have l1 := rv.length
        have l2 := r1.len
        cases xs with
        | nil =>
          have : its = [] := List.eq_nil_of_length_eq_zero (by rw [← l1, l2]; rfl)
          subst this; rfl
        | cons x r =>
          cases its with
          | nil => simp only [List.length_nil, List.length_cons] at l1 l2; omega
          | cons _ _ => simp
      refine ⟨fun q => SeqAt.eq_tupleAt (e := fun _ => true) (show s.heap.IsTuple a its.toArray from p1) (show s.heap.IsTuple b _ from p2) (by omega) (fun j _ h => absurd h (by simp)) (fin_bl I q hk.symm), fun q => ?_⟩
      exact SeqAt.RcNeAt.tuples (e := fun _ => true) (show s.heap.IsTuple a its.toArray from p1) (show s.heap.IsTuple b _ from p2) (by omega) (fun j _ h => absurd h (by simp)) _ _ _ _ (fin_bl I q (by rw [hk]))
    · split at e
      · rename_i hc
        cases e
        simp only [Bool.and_eq_true, decide_eq_true_eq] at hc
        obtain ⟨⟨⟨c1, c2⟩, c3⟩, c4⟩ := hc
        rw [← P.eqv_py]
        exact ⟨fun q => op_eqD (by omega) pins s σ H v u vv uu Q I rx ry ⟨_, _, hx.dp c1, hy.dp c2, P.shaped c1 c3, P.shaped c2 c4, q⟩, fun q => op_neD (by omega) pins s σ H v u vv uu Q I rx ry ⟨_, _, hx.dp c1, hy.dp c2, P.shaped c1 c3, P.shaped c2 c4, q⟩⟩
      · cases e
theorem any_py (d : P) : ∀ xs : List P, ((pyL xs).any fun z => PyData.eqv z d.py) = xs.any fun z => P.eqv z d
  | [] => rfl
  | x :: r => by simp only [pyL, List.any_cons, P.eqv_py, any_py d r]
theorem op_inP (hu : X.A.units + 65 < cLine) {pins : List (Addr × Obj)} {s : Shared} {σ : L2.St} {H : Hp} {v u : V} {vv uu : Value} {Q : VK} (I : Inv X pins σ H s) (rx : RelV v vv) (ry : RelV u uu)
    {x y : P} {k : Bool} (hx : Rp X.K H [] [] v x) (hy : Rp X.K H [] [] u y) (e : inP x y = some k) :
    (Q (.bl k) H → wpAny (model X.prog X.w) X.A (compareOp .In vv uu) (EP X pins σ Q) X.xe s) ∧ (Q (.bl (!k)) H → wpAny (model X.prog X.w) X.A (compareOp .NotIn vv uu) (EP X pins σ Q) X.xe s) := by
  unfold inP at e
  split at e
  · rename_i xs es
    split at e
    · rename_i hc
      cases e
      simp only [Bool.and_eq_true, decide_eq_true_eq] at hc
      obtain ⟨⟨⟨c1, c2⟩, c3⟩, c4⟩ := hc
      have d1 := hx.dp c1
      have d2 := hy.dp c2
      have s1 := P.shaped c1 c3
      have s2 := P.shaped c2 c4
      cases y with
      | lst ys =>
        simp only [seqOf, Option.some.injEq] at es
        subst es
        rw [← any_py]
        simp only [P.py] at d2 s2
        exact ⟨fun q => op_inD hu pins s σ H v u vv uu Q I rx ry ⟨_, _, d1, d2, s1, s2, q⟩, fun q => op_notInD hu pins s σ H v u vv uu Q I rx ry ⟨_, _, d1, d2, s1, s2, q⟩⟩
      | tup ys =>
        simp only [seqOf, Option.some.injEq] at es
        subst es
        rw [← any_py]
        simp only [P.py] at d2 s2
        obtain ⟨as, r1⟩ := Dp.reads I _ v vv d1 rx
        obtain ⟨bs, r2⟩ := Dp.reads I _ u uu d2 ry
        have hl := SeqAt.canLay_of_shaped s2
        simp only [PyData.canLay0] at hl
        exact ⟨fun q => SeqAt.in_tuple_reads r2 r1 hl (SeqAt.canLay_of_shaped s1) (PyProof.Rows.room_in_shaped s1 hu) ⟨.bl _, H, I, rfl, q⟩,
          fun q => SeqAt.notIn_tuple_reads r2 r1 hl (SeqAt.canLay_of_shaped s1) (PyProof.Rows.room_in_shaped s1 hu) ⟨.bl _, H, I, rfl, q⟩⟩
      | _ => simp [seqOf] at es
    · cases e
  · cases e
theorem isN_rp {K : PySem.W.Frag} {H : Hp} {L Z : List Addr} {v : V} {d : D} (h : RD K H L Z v d) : decide (v = .non) = (match d with | .p .non => true | _ => false) := by
  cases h with
  | p h => cases h <;> simp
  | mu _ => simp
  | tup _ _ _ => simp
  | dct _ _ _ _ => simp
  | scr _ _ => simp
  | scrK _ => simp
theorem isop_ok {K : PySem.W.Frag} {H : Hp} {L Z : List Addr} {v u : V} {a b : D} {k : Bool} (ha : RD K H L Z v a) (hb : RD K H L Z u b) (e : isop a b = some k) :
    (u = .non ∧ decide (v = .non) = k) ∨ ∃ x y : Bool, v = .bl x ∧ u = .bl y ∧ decide (x = y) = k := by
  unfold isop at e
  split at e
  · cases hb.pI
    refine .inl ⟨rfl, ?_⟩
    have e1 := isN_rp ha
    rw [e1]
    split at e <;> cases e
    · rfl
    · split
      · exact absurd rfl ‹_›
      · rfl
  · cases hb.pI
    split at e
    · cases ha.pI
      exact .inr ⟨_, _, rfl, rfl, by simpa using e⟩
    · cases e
  · cases e
theorem op_c (hu : X.A.units + 65 < cLine) (hw : WW.w = X.w) (o : Cop) : OpR X (compareOp (pyC o)) (rC X.K o) := by
  intro pins s σ H x y v u Q I rx ry h
  obtain ⟨L, Z, a, b, S, k, st, ha, hb, e, q⟩ := h
  cases o with
  | lt =>
    simp only [cmpop] at e
    split at e
    · cases ha.pI; cases hb.pI; cases e
      exact op_lt pins s σ H _ _ v u Q I rx ry ⟨_, _, rfl, rfl, q⟩
    · cases e
  | le =>
    simp only [cmpop] at e
    split at e
    · cases ha.pI; cases hb.pI; cases e
      exact op_le pins s σ H _ _ v u Q I rx ry ⟨_, _, rfl, rfl, q⟩
    · cases e
  | gt =>
    simp only [cmpop] at e
    split at e
    · cases ha.pI; cases hb.pI; cases e
      exact op_gt pins s σ H _ _ v u Q I rx ry ⟨_, _, rfl, rfl, q⟩
    · cases e
  | ge =>
    simp only [cmpop] at e
    split at e
    · cases ha.pI; cases hb.pI; cases e
      exact op_ge pins s σ H _ _ v u Q I rx ry ⟨_, _, rfl, rfl, q⟩
    · cases e
  | isN =>
    simp only [cmpop] at e
    rcases isop_ok ha hb e with ⟨rfl, e1⟩ | ⟨x', y', rfl, rfl, e1⟩
    · exact op_isN pins s σ H _ _ v u Q I rx ry ⟨rfl, by rw [e1]; exact q⟩
    · exact op_isBl pins s σ H _ _ v u Q I rx ry ⟨x', y', rfl, rfl, by rw [e1]; exact q⟩
  | notN =>
    simp only [cmpop] at e
    obtain ⟨k', e2, e3⟩ := Option.map_eq_some_iff.mp e
    subst e3
    rcases isop_ok ha hb e2 with ⟨rfl, e1⟩ | ⟨x', y', rfl, rfl, e1⟩
    · exact op_notN pins s σ H _ _ v u Q I rx ry ⟨rfl, by rw [e1]; exact q⟩
    · exact op_notBl pins s σ H _ _ v u Q I rx ry ⟨x', y', rfl, rfl, by rw [e1]; exact q⟩
  | eq =>
    simp only [cmpop] at e
    split at e
    · rename_i p1 p2 e1 e2
      exact (op_eqP hu I rx ry (view_ok st ha e1) (view_ok st hb e2) e).1 q
    · cases e
  | ne =>
    simp only [cmpop] at e
    split at e
    · rename_i p1 p2 e1 e2
      obtain ⟨k', e3, e4⟩ := Option.map_eq_some_iff.mp e
      subst e4
      exact (op_eqP hu I rx ry (view_ok st ha e1) (view_ok st hb e2) e3).2 q
    · cases e
  | inn =>
    simp only [cmpop] at e
    split at e
    · rename_i kv ek
      exact (op_inN hu hw I rx ry st ha hb ek e).1 q
    split at e
    · rename_i p1 p2 e1 e2
      exact (op_inP hu I rx ry (view_ok st ha e1) (view_ok st hb e2) e).1 q
    · cases e
  | nin =>
    simp only [cmpop] at e
    split at e
    · rename_i kv ek
      obtain ⟨k', e3, e4⟩ := Option.map_eq_some_iff.mp e
      subst e4
      exact (op_inN hu hw I rx ry st ha hb ek e3).2 q
    split at e
    · rename_i p1 p2 e1 e2
      obtain ⟨k', e3, e4⟩ := Option.map_eq_some_iff.mp e
      subst e4
      exact (op_inP hu I rx ry (view_ok st ha e1) (view_ok st hb e2) e3).2 q
    · cases e
end
end Mx
end

section
set_option Elab.async false
set_option linter.all false
set_option maxRecDepth 100000
set_option autoImplicit false
set_option maxHeartbeats 4000000
namespace Mx
open PySem L2 PySem.Spec PyProof.Rows
variable [WW]

section
variable {K : PySem.W.Frag} {H H1 : Hp} {L L1 Z : List Addr} {S : Sto}
theorem RpL.emp {vs : List V} {ps : List P} (r : RpL K H L Z vs ps) : vs.isEmpty = ps.isEmpty := by
  cases r <;> rfl
theorem RDL.emp {vs : List V} {ps : List D} (r : RDL K H L Z vs ps) : vs.isEmpty = ps.isEmpty := by
  cases r <;> rfl
theorem keys_len {kvs : List (Key × V)} {ks : List DK} (h : kvs.map (·.1) = ks.map kKey) : kvs.length = ks.length := by
  have := congrArg List.length h
  simpa using this
theorem keys_emp {kvs : List (Key × V)} {ks : List DK} (h : kvs.map (·.1) = ks.map kKey) : kvs.isEmpty = ks.isEmpty := by
  cases kvs <;> cases ks <;> first | rfl | cases h
theorem RpL.toD {vs : List V} {ps : List P} (r : RpL K H L Z vs ps) : RDL K H L Z vs (ps.map .p) := by
  induction ps generalizing vs with
  | nil => cases r; exact .nil
  | cons p ps ih =>
    cases r with
    | cons h r => exact .cons (.p h) (ih r)
theorem RDL.ints (ns : List Int) : RDL K H L Z (ns.map V.int) (ns.map fun i => D.p (.int i)) := by
  induction ns with
  | nil => exact .nil
  | cons n ns ih => exact .cons (.p (.int n)) ih

theorem truth_ok (s : StR K H L Z S) {v : V} {d : D} {k : Bool} (h : RD K H L Z v d) (e : truth d S = some k) : TruV K v H k := by
  cases d with
  | p x =>
    have hp := h.pI
    cases x with
    | non => cases hp; simpa [truth, eq_comm, TruV] using e
    | bl b => cases hp; simpa [truth, eq_comm, TruV] using e
    | int i => cases hp; simpa [truth, eq_comm, TruV] using e
    | str x =>
      cases hp
      simp only [truth] at e
      split at e
      · rename_i hl
        cases e
        refine ⟨le_line (by simpa [Str.length] using hl), ?_⟩
        have hz : (T x).length = x.length := by simp [Str.length]
        rw [hz]
        cases x <;> simp
        omega
      · cases e
    | tup xs =>
      simp only [truth, Option.some.injEq] at e
      subst e
      obtain ⟨a, vs, rfl, h1, r⟩ := hp.tupI
      exact .inr (.inl ⟨vs, h1, by rw [r.emp]⟩)
    | lst xs =>
      simp only [truth, Option.some.injEq] at e
      subst e
      obtain ⟨a, vs, rfl, h1, _, r⟩ := hp.lstI
      exact .inl ⟨vs, .of h1, by rw [r.emp]⟩
    | dct ks ps =>
      simp only [truth, Option.some.injEq] at e
      subst e
      cases hp with
      | dct h1 h2 h3 h4 => exact .inr (.inr ⟨_, h1, by rw [keys_emp h3]⟩)
    | rep p => simp [truth] at e
  | mu k =>
    simp only [truth] at e
    cases hk : S[k]? with
    | none => rw [hk] at e; cases e
    | some o =>
      rw [hk] at e
      cases h with
      | mu hl =>
        have := s.at_ k _ _ hl hk
        cases o with
        | lst xs =>
          simp only [Option.some.injEq] at e
          subst e
          obtain ⟨vs, e1, r⟩ := this
          exact .inl ⟨vs, .of e1, by rw [r.emp]⟩
        | dK ks ps =>
          simp only [Option.some.injEq] at e
          subst e
          obtain ⟨kvs, e1, e2, r⟩ := this
          exact .inr (.inr ⟨_, e1, by rw [keys_emp e2]⟩)
        | dT ks ps => cases e
        | dN ks ps => cases e
  | scr ns =>
    simp only [truth, Option.some.injEq] at e
    subst e
    have hm : (ns.map V.int).isEmpty = ns.isEmpty := by cases ns <;> rfl
    cases h with
    | scr h n => exact .inl ⟨_, .inl h, by rw [hm]⟩
    | scrK h => exact .inl ⟨_, sqL_any h, by rw [hm]⟩
  | tup ds => simp [truth] at e
  | dct ks ds => simp [truth] at e

theorem items_ok (s : StR K H L Z S) {v : V} {d : D} {ds : List D} (h : RD K H L Z v d) (e : items d S = some ds) : ∃ a vs, v = .ref a ∧ (SqL K H a vs ∨ SqT K H a vs) ∧ RDL K H L Z vs ds := by
  cases d with
  | p x =>
    cases x with
    | tup xs =>
      simp only [items, Option.some.injEq] at e
      subst e
      obtain ⟨a, vs, rfl, h1, r⟩ := h.pI.tupI
      exact ⟨a, vs, rfl, .inr h1, r.toD⟩
    | lst xs =>
      simp only [items, Option.some.injEq] at e
      subst e
      obtain ⟨a, vs, rfl, h1, _, r⟩ := h.pI.lstI
      exact ⟨a, vs, rfl, .inl (.of h1), r.toD⟩
    | _ => simp [items] at e
  | mu k =>
    simp only [items] at e
    cases hk : S[k]? with
    | none => rw [hk] at e; cases e
    | some o =>
      rw [hk] at e
      cases h with
      | mu hl =>
        cases o with
        | lst xs =>
          simp only [Option.some.injEq] at e
          subst e
          obtain ⟨vs, e1, r⟩ := s.at_ k _ _ hl hk
          exact ⟨_, vs, rfl, .inl (.of e1), r.toD⟩
        | dK ks ps => cases e
        | dT ks ps => cases e
        | dN ks ps => cases e
  | scr ns =>
    simp only [items, Option.some.injEq] at e
    subst e
    cases h with
    | scr h n => exact ⟨_, _, rfl, .inl (.inl h), RDL.ints ns⟩
    | scrK h => exact ⟨_, _, rfl, .inl (sqL_any h), RDL.ints ns⟩
  | tup ds' =>
    simp only [items, Option.some.injEq] at e
    subst e
    cases h with
    | tup h n r => exact ⟨_, _, rfl, .inr (.inl h), r⟩
  | dct ks ds' => simp [items] at e

theorem atI_rel {vs : List V} {ds : List D} (r : RDL K H L Z vs ds) {i : Int} {d : D} (e : atI ds i = some d) : ∃ v, atI vs i = some v ∧ RD K H L Z v d := by
  unfold atI at e ⊢
  rw [r.len]
  cases h : ixN ds.length i with
  | none => rw [h] at e; cases e
  | some j =>
    rw [h] at e
    exact r.get e

theorem kKey_inj {a b : DK} (h : kKey a = kKey b) : a = b := by
  cases a <;> cases b <;> simp only [kKey, Sum.inl.injEq, Sum.inr.injEq, reduceCtorEq] at h
  · rw [h]
  · rw [T_inj h]
theorem lookD_rel {kvs : List (Key × V)} {ks : List DK} {ds : List D} (hk : kvs.map (·.1) = ks.map kKey) (r : RDL K H L Z (kvs.map (·.2)) ds) {x : DK} {d : D} (e : lookD ks ds x = some d) :
    ∃ v, valV kvs (kKey x) = some v ∧ RD K H L Z v d := by
  induction kvs generalizing ks ds with
  | nil =>
    cases ks with
    | nil => simp [lookD] at e
    | cons k ks => cases hk
  | cons kv kvs ih =>
    cases ks with
    | nil => cases hk
    | cons k ks =>
      simp only [List.map_cons, List.cons.injEq] at hk r
      cases r with
      | cons r1 r2 =>
        simp only [lookD] at e
        unfold valV
        split at e
        · rename_i hx
          cases e
          subst hx
          exact ⟨kv.2, by simp [hk.1], r1⟩
        · rename_i hx
          obtain ⟨v, h1, h2⟩ := ih hk.2 r2 e
          refine ⟨v, ?_, h2⟩
          have : ¬ kv.1 = kKey x := fun z => hx (kKey_inj (hk.1.symm.trans z))
          simp only [List.find?_cons, this, decide_false]
          exact h1
theorem lookD_mapP {ks : List DK} {ps : List P} {x : DK} {d : P} (e : lookD ks ps x = some d) : lookD ks (ps.map .p) x = some (D.p d) := by
  induction ks generalizing ps with
  | nil => cases ps <;> simp [lookD] at e
  | cons k ks ih =>
    cases ps with
    | nil => simp [lookD] at e
    | cons p ps =>
      simp only [lookD, List.map_cons] at e ⊢
      split at e
      · rw [if_pos ‹_›]; cases e; rfl
      · rw [if_neg ‹_›]; exact ih e
/-- what a dict holds at a key -/
theorem dict_at (s : StR K H L Z S) {v : V} {a : D} {d : D} (x : DK)
    (e : (match a with
      | .p (.dct ks vs) => (lookD ks vs x).map .p
      | .dct ks vs => lookD ks vs x
      | .mu k => match S[k]? with
        | some (.dK ks vs) => (lookD ks vs x).map .p
        | _ => none
      | _ => none) = some d) : RD K H L Z v a → ∃ q w, v = .ref q ∧ DGet H q (kV (kKey x)) (some w) ∧ RD K H L Z w d := by
  split at e
  · obtain ⟨p, e1, e2⟩ := Option.map_eq_some_iff.mp e
    subst e2
    intro ha
    cases ha.pI with
    | dct h1 h2 h3 h4 =>
      obtain ⟨w, hw, rw'⟩ := lookD_rel h3 h4.toD (lookD_mapP e1)
      exact ⟨_, w, rfl, .inl ⟨_, _, .inl h1, rfl, hw.symm⟩, rw'⟩
  · intro ha
    cases ha with
    | dct h1 h2 h3 h4 =>
      obtain ⟨w, hw, rw'⟩ := lookD_rel h3 h4 e
      exact ⟨_, w, rfl, .inl ⟨_, _, .inl h1, rfl, hw.symm⟩, rw'⟩
  · intro ha
    cases ha with
    | mu hl =>
      split at e
      · rename_i hk
        obtain ⟨p, e1, e2⟩ := Option.map_eq_some_iff.mp e
        subst e2
        obtain ⟨kvs, h1, h3, h4⟩ := s.at_ _ _ _ hl hk
        obtain ⟨w, hw, rw'⟩ := lookD_rel h3 h4.toD (lookD_mapP e1)
        exact ⟨_, w, rfl, .inl ⟨_, _, .inl h1, rfl, hw.symm⟩, rw'⟩
      · cases e
  · cases e
end

/-! ### a[b] -/
def rI (K : PySem.W.Frag) : R2 := fun x y H Q => ∃ L Z a b S d, StR K H L Z S ∧ RD K H L Z x a ∧ RD K H L Z y b ∧ index a b S = some d ∧ ∀ v, RD K H L Z v d → Q v H
section
variable {X : Cx}
theorem ix_dict (hu : X.A.units + 1 < cLine) : IxR X (fun x y H Q => ∃ q w, x = .ref q ∧ DGet H q y (some w) ∧ Q w H) := by
  intro value slice pins s σ H x y v u Q I rx ry h hs
  obtain ⟨q, w, rfl, g, h⟩ := h
  cases rx
  exact tail_any (dict_typeIs I g) PySem.F.slot_dict_getitem.lookup (d_getItem hu I g ry fun w' s' I' r' => ⟨w, H, I', r', h⟩) hs
theorem ix_any (hu : X.A.units + 65 < cLine) (hw : WW.w = X.w) : IxR X (rI X.K) := by
  intro value slice pins s σ H x y v u Q I rx ry h hs
  obtain ⟨L, Z, a, b, S, d, st, ha, hb, e, q⟩ := h
  unfold index at e
  split at e
  · rename_i i
    cases hb.pI
    split at e
    · rename_i ds ei
      obtain ⟨p, vs, rfl, hq, r⟩ := items_ok st ha ei
      obtain ⟨w, h1, h2⟩ := atI_rel r e
      rcases hq with hq | hq
      · exact ix_list value slice pins s σ H _ _ v u Q I rx ry ⟨p, vs, i, w, rfl, rfl, hq, h1, q w h2⟩ hs
      · exact ix_tup value slice pins s σ H _ _ v u Q I rx ry ⟨p, vs, i, w, rfl, rfl, hq, h1, q w h2⟩ hs
    · obtain ⟨p, w, h1, h2, h3⟩ := dict_at st (.inl i) e ha
      exact ix_dict (by omega) value slice pins s σ H x _ v u Q I rx ry ⟨p, w, h1, h2, q w h3⟩ hs
  · rename_i z
    cases hb.pI
    obtain ⟨p, w, h1, h2, h3⟩ := dict_at st (.inr z) e ha
    exact ix_dict (by omega) value slice pins s σ H x _ v u Q I rx ry ⟨p, w, h1, h2, q w h3⟩ hs
  · rename_i ys
    split at e
    · rename_i kv ek
      split at e
      · rename_i hy
        obtain ⟨j, rfl, hj⟩ := dictN_some ek
        obtain ⟨p, e1, rfl⟩ := Option.map_eq_some_iff.mp e
        cases ha with
        | mu hl =>
          cases rx
          obtain ⟨xs, vs, h1, h2, ⟨h3, h4, _⟩, r1, hv, r2⟩ := st.at_ j _ _ hl hj
          obtain ⟨hs', hm⟩ := dict_of hw I h1 r1 h2 h3 h4
          obtain ⟨z, rfl, rfl, hk⟩ := key_is I hb.pI hy ry
          obtain ⟨a0, u0, v0, g1, g2, g3⟩ := (lookN_rel (x := .tup ys) h2 h3 hy hv r2).2 p e1
          have room : (nestedKind X.prog X.w).room X.A.in1 := by show X.A.units + 1 + 8 < cLine; omega
          have I1 : ∀ t, Inv X pins σ H { s with toks := t } := fun t => I.kept (h' := s.heap) (t' := t) (fun _ _ q => q)
          exact tail_any hm.typeIs PySem.F.slot_dict_getitem.lookup (wpAny_getItem_heap room hk hm g1 ⟨v0, H, I1 _, g2, q v0 (.p g3)⟩) hs
      · cases e
    · cases e
  · cases e
end

/-! ### a[lo:hi] -/
section
variable {K : PySem.W.Frag} {H : Hp} {L Z : List Addr}
theorem RpL.cut {vs : List V} {ps : List P} (r : RpL K H L Z vs ps) (lo hi : Option Int) : RpL K H L Z (cutV vs lo hi) (cutG ps lo hi) := by
  unfold cutV cutG
  rw [r.len]
  exact (r.drop _).take _
end
def rSlX (K : PySem.W.Frag) : V → Option Int → Option Int → Hp → VK → Prop := fun x lo hi H Q => ∃ L Z a S p, StR K H L Z S ∧ RD K H L Z x a ∧ slice a lo hi S = some p ∧
  ∀ H1 v, Ext H L H1 L → StR K H1 L Z S → Rp K H1 L Z v p → Q v H1
theorem cutG_whole {α : Type} (xs : List α) (lo hi : Option Int) (h : HT.sIx xs.length 0 lo = 0 ∧ HT.sIx xs.length xs.length hi = xs.length) : cutG xs lo hi = xs := by
  unfold cutG
  rw [h.1, h.2]
  simp
section
variable {X : Cx}
theorem sl_any : SlR X (rSlX X.K) := by
  intro pins s σ H x v vl vu lo hi sl Q I rx hs pl pu h
  obtain ⟨L, Z, a, S, p, st, ha, e, q⟩ := h
  unfold slice at e
  split at e
  · cases e
    obtain ⟨b, vs, rfl, h1, r⟩ := ha.pI.tupI
    refine sl_tupF pins s σ H _ v vl vu lo hi sl Q I rx hs pl pu ⟨b, vs, rfl, h1, fun hw => ?_, fun _ p o hp hd => ?_⟩
    · rw [r.len] at hw
      rw [cutG_whole _ _ _ hw] at q
      exact q _ _ Ext.refl st ha.pI
    · obtain ⟨n1, n2, n3⟩ := new_tup st (r.cut lo hi) hp hd
      exact q _ _ n1 n2 n3
  · rename_i ns
    cases e
    have hq : ∃ b, x = .ref b ∧ SqL X.K H b (ns.map V.int) := by
      cases ha with
      | scr h n => exact ⟨_, rfl, .inl h⟩
      | scrK h => exact ⟨_, rfl, sqL_any h⟩
    obtain ⟨b, rfl, hq⟩ := hq
    refine sl_list pins s σ H _ v vl vu lo hi sl Q I rx hs pl pu ⟨b, ns.map V.int, rfl, hq, fun p hp => ?_⟩
    obtain ⟨n1, n2, n3⟩ := new_lst st ((RpL.ints ns).cut lo hi) hp
    exact q _ _ n1 n2 n3
  · split at e
    · cases e
      rename_i xs ea
      obtain ⟨b, vs, rfl, h1, r⟩ := asList_ok st ha ea
      refine sl_list pins s σ H _ v vl vu lo hi sl Q I rx hs pl pu ⟨b, vs, rfl, .of h1, fun p hp => ?_⟩
      obtain ⟨n1, n2, n3⟩ := new_lst st (r.cut lo hi) hp
      exact q _ _ n1 n2 n3
    · cases e
end

/-! ### isinstance -/
def tyN : Ty → String
  | .int => "int" | .bool => "bool" | .str => "str" | .tuple => "tuple" | .list => "list" | .dict => "dict"
theorem kNon (t : Ty) : kitB "NoneType" (tyN t) = some false := by cases t <;> decide +kernel
theorem kBl (t : Ty) : kitB "bool" (tyN t) = some (t == .bool || t == .int) := by cases t <;> decide +kernel
theorem kInt (t : Ty) : kitB "int" (tyN t) = some (t == .int) := by cases t <;> decide +kernel
theorem kStr (t : Ty) : kitB "str" (tyN t) = some (t == .str) := by cases t <;> decide +kernel
theorem kTup (t : Ty) : kitB "tuple" (tyN t) = some (t == .tuple) := by cases t <;> decide +kernel
theorem kLst (t : Ty) : kitB "list" (tyN t) = some (t == .list) := by cases t <;> decide +kernel
theorem kDct (t : Ty) : kitB "dict" (tyN t) = some (t == .dict) := by cases t <;> decide +kernel
section
variable {K : PySem.W.Frag} {H : Hp} {L Z : List Addr} {S : Sto}
/-- its type's name -/
def tyD (a : D) (S : Sto) : Option String := match a with
  | .p .non => some "NoneType"
  | .p (.bl _) => some "bool"
  | .p (.int _) => some "int"
  | .p (.str _) => some "str"
  | .p (.rep _) => some "str"
  | .p (.tup _) => some "tuple"
  | .p (.lst _) => some "list"
  | .p (.dct _ _) => some "dict"
  | .mu k => match S[k]? with
    | some (.lst _) => some "list"
    | some (.dK _ _) => some "dict"
    | _ => none
  | .tup _ => some "tuple"
  | .dct _ _ => some "dict"
  | .scr _ => none
theorem isTy_tyD {t : Ty} {a : D} {S : Sto} {b : Bool} (e : isTy t a S = some b) : ∃ n, tyD a S = some n ∧ kitB n (tyN t) = some b := by
  unfold isTy at e
  unfold tyD
  split at e
  · cases e; exact ⟨_, rfl, kNon t⟩
  · cases e; exact ⟨_, rfl, kBl t⟩
  · cases e; exact ⟨_, rfl, kInt t⟩
  · cases e; exact ⟨_, rfl, kStr t⟩
  · cases e; exact ⟨_, rfl, kStr t⟩
  · cases e; exact ⟨_, rfl, kTup t⟩
  · cases e; exact ⟨_, rfl, kLst t⟩
  · cases e; exact ⟨_, rfl, kDct t⟩
  · split at e
    · rename_i hk
      cases e; exact ⟨_, by simp only [hk], kLst t⟩
    · rename_i hk
      cases e; exact ⟨_, by simp only [hk], kDct t⟩
    · cases e
  · cases e; exact ⟨_, rfl, kTup t⟩
  · cases e; exact ⟨_, rfl, kDct t⟩
  · cases e
theorem tyD_ok (s : StR K H L Z S) {v : V} {a : D} {n : String} (h : RD K H L Z v a) (e : tyD a S = some n) : TyX K H v (.type n) := by
  cases a with
  | p x =>
    have hp := h.pI
    cases x with
    | non => cases hp; cases e; exact .base .non
    | bl b => cases hp; cases e; exact .base (.bl b)
    | int i => cases hp; cases e; exact .base (.int i)
    | str x => cases hp; cases e; exact .base (.str _)
    | rep x => cases hp; cases e; exact .base (.str _)
    | tup xs =>
      cases e
      obtain ⟨a, vs, rfl, h1, r⟩ := hp.tupI
      rcases h1 with (h1 | ⟨o, h1⟩) | ⟨o, _, _, h1, h2, _⟩
      · exact .base (.tup h1)
      · exact .fTuple h1
      · exact .kTuple h1 h2
    | lst xs =>
      cases e
      obtain ⟨a, vs, rfl, h1, _, r⟩ := hp.lstI
      exact .base (.lst h1)
    | dct ks ps =>
      cases e
      cases hp with
      | dct h1 h2 h3 h4 => exact .base (.dK h1)
  | mu k =>
    cases h with
    | mu hl =>
      simp only [tyD] at e
      split at e
      · rename_i hk
        cases e
        obtain ⟨vs, e1, r⟩ := s.at_ _ _ _ hl hk
        exact .base (.lst e1)
      · rename_i hk
        cases e
        obtain ⟨kvs, e1, _⟩ := s.at_ _ _ _ hl hk
        exact .base (.dK e1)
      · cases e
  | tup ds =>
    cases e
    cases h with
    | tup h1 h2 h3 =>
      rcases h1 with h1 | ⟨o, h1⟩
      · exact .base (.tup h1)
      · exact .fTuple h1
  | dct ks ds => cases e; cases h with | dct h1 h2 h3 h4 => exact .base (.dK h1)
  | scr ns => cases e
end

/-! ### calls of built-ins -/
def rP (K : PySem.W.Frag) (f : List D → Sto → Option P) : List V → Hp → VK → Prop := fun xs H Q => ∃ L Z ds S p, StR K H L Z S ∧ RDL K H L Z xs ds ∧ f ds S = some p ∧
  ∀ H1 v, Ext H L H1 L → StR K H1 L Z S → Rp K H1 L Z v p → Q v H1
section
variable {K : PySem.W.Frag} {H : Hp} {L Z : List Addr} {S : Sto}
theorem RDL.one {xs : List V} {d : D} (r : RDL K H L Z xs [d]) : ∃ x, xs = [x] ∧ RD K H L Z x d := by
  cases r with
  | cons h r => cases r; exact ⟨_, rfl, h⟩
theorem RDL.two {xs : List V} {d e : D} (r : RDL K H L Z xs [d, e]) : ∃ x y, xs = [x, y] ∧ RD K H L Z x d ∧ RD K H L Z y e := by
  cases r with
  | cons h r => cases r with | cons h2 r => cases r; exact ⟨_, _, rfl, h, h2⟩
theorem RpL.intsI {vs : List V} {ps : List P} {ns : List Int} (r : RpL K H L Z vs ps) (e : intsOf ps = some ns) : vs = ns.map V.int := by
  induction ps generalizing vs ns with
  | nil => cases e; cases r; rfl
  | cons p ps ih =>
    cases p with
    | int i =>
      simp only [intsOf, Option.map_eq_some_iff] at e
      obtain ⟨ms, e1, e2⟩ := e
      subst e2
      cases r with
      | cons h r => cases h; rw [ih r e1]; rfl
    | _ => simp [intsOf] at e
theorem RpL.blsI {vs : List V} {ps : List P} {ns : List Bool} (r : RpL K H L Z vs ps) (e : blsOf ps = some ns) : vs = ns.map V.bl := by
  induction ps generalizing vs ns with
  | nil => cases e; cases r; rfl
  | cons p ps ih =>
    cases p with
    | bl i =>
      simp only [blsOf, Option.map_eq_some_iff] at e
      obtain ⟨ms, e1, e2⟩ := e
      subst e2
      cases r with
      | cons h r => cases h; rw [ih r e1]; rfl
    | _ => simp [blsOf] at e
end
theorem maxI_mem {ns : List Int} {m : Int} (h : maxI ns = some m) : m ∈ ns ∧ ∀ y ∈ ns, y ≤ m := by
  induction ns generalizing m with
  | nil => cases h
  | cons x r ih =>
    unfold maxI at h
    cases hr : maxI r with
    | none =>
      rw [hr] at h
      cases h
      cases r with
      | nil => simp
      | cons y r' =>
        unfold maxI at hr
        cases h2 : maxI r' <;> rw [h2] at hr <;> cases hr
    | some y =>
      rw [hr] at h
      obtain ⟨h1, h2⟩ := ih hr
      simp only [Option.some.injEq] at h
      subst h
      split
      · exact ⟨List.mem_cons_of_mem _ h1, fun z hz => by rcases List.mem_cons.mp hz with e | hz; · omega
                                                         · exact h2 z hz⟩
      · exact ⟨List.mem_cons_self, fun z hz => by rcases List.mem_cons.mp hz with e | hz; · omega
                                                  · have := h2 z hz; omega⟩
theorem minI_mem {ns : List Int} {m : Int} (h : minI ns = some m) : m ∈ ns ∧ ∀ y ∈ ns, m ≤ y := by
  induction ns generalizing m with
  | nil => cases h
  | cons x r ih =>
    unfold minI at h
    cases hr : minI r with
    | none =>
      rw [hr] at h
      cases h
      cases r with
      | nil => simp
      | cons y r' =>
        unfold minI at hr
        cases h2 : minI r' <;> rw [h2] at hr <;> cases hr
    | some y =>
      rw [hr] at h
      obtain ⟨h1, h2⟩ := ih hr
      simp only [Option.some.injEq] at h
      subst h
      split
      · exact ⟨List.mem_cons_of_mem _ h1, fun z hz => by rcases List.mem_cons.mp hz with e | hz; · omega
                                                         · exact h2 z hz⟩
      · exact ⟨List.mem_cons_self, fun z hz => by rcases List.mem_cons.mp hz with e | hz; · omega
                                                  · have := h2 z hz; omega⟩
theorem ins_perm (x : Int) : ∀ l : List Int, (ins x l).Perm (x :: l)
  | [] => by simp [ins]
  | y :: r => by
    unfold ins
    split
    · exact .refl _
    · exact ((ins_perm x r).cons y).trans (.swap ..)
theorem srt_perm : ∀ l : List Int, (srt l).Perm l
  | [] => .refl _
  | x :: r => (ins_perm x _).trans ((srt_perm r).cons x)
theorem ins_srt (x : Int) : ∀ l : List Int, l.Pairwise (· ≤ ·) → (ins x l).Pairwise (· ≤ ·)
  | [], _ => by simp [ins]
  | y :: r, h => by
    unfold ins
    rw [List.pairwise_cons] at h
    split
    · rw [List.pairwise_cons]
      exact ⟨fun z hz => by rcases List.mem_cons.mp hz with e | hz; · omega
                            · have := h.1 z hz; omega, List.pairwise_cons.mpr h⟩
    · rw [List.pairwise_cons]
      refine ⟨fun z hz => ?_, ins_srt x r h.2⟩
      rcases List.mem_cons.mp ((ins_perm x r).mem_iff.mp hz) with e | hz
      · omega
      · exact h.1 z hz
theorem srt_srt : ∀ l : List Int, (srt l).Pairwise (· ≤ ·)
  | [] => .nil
  | x :: r => ins_srt x _ (srt_srt r)
theorem sorted_uniq {a b : List Int} (hp : a.Perm b) (ha : a.Pairwise (· ≤ ·)) (hb : b.Pairwise (· ≤ ·)) : a = b :=
  hp.eq_of_pairwise (fun x y _ _ h1 h2 => by omega) ha hb
section
variable {X : Cx}
def idB : Blt → String
  | .len => "len" | .rep => "repr" | .all => "all" | .any => "any" | .max2 => "max" | .min2 => "min" | .maxL => "max" | .minL => "min"
  | .sum => "sum" | .list => "list" | .tuple => "tuple" | .int => "int" | .abs => "abs" | .sorted => "sorted" | .comb => "comb" | .fact => "factorial"
def isTB : Blt → Bool
  | .list | .tuple | .int => true
  | _ => false
def isMB : Blt → Bool
  | .comb | .fact => true
  | _ => false
def idM : Blt → String
  | .comb => "math.comb" | .fact => "math.factorial" | f => idB f
def vB (f : Blt) : Value := if isTB f then .type (idB f) else .builtin (idM f)
/-! the math module -/
theorem entry_comb : entryFor table "math.comb" = some Builtin.«math.comb» := entryFor_of_tree (by kernel_rfl)
theorem kind_comb : builtinKind "math.comb" = none := by kernel_rfl
theorem plain_comb : plainId "math.comb" = true := by decide +kernel
theorem args_comb (a b : Value) : argsOk "math.comb" ⟨[a, b], []⟩ := by unfold argsOk; kernel_rfl
def combOk : Bool := (List.range 41).all fun n => (List.range (n + 1)).all fun k => decide ((combI n k).natAbs < 2 ^ 200)
theorem combOk_true : combOk = true := by decide +kernel
def factOk : Bool := (List.range 41).all fun n => decide ((factI n).natAbs < 2 ^ 200)
theorem factOk_true : factOk = true := by decide +kernel
theorem comb_small {n k : Int} (h0 : 0 ≤ k) (h1 : k ≤ n) (h2 : n ≤ 40) : (combI n k).natAbs.log2 < bitsLine := by
  have h := combOk_true
  unfold combOk at h
  rw [List.all_eq_true] at h
  have h3 := h n.toNat (List.mem_range.mpr (by omega))
  rw [List.all_eq_true] at h3
  have h4 := h3 k.toNat (List.mem_range.mpr (by omega))
  rw [decide_eq_true_eq, Int.toNat_of_nonneg (by omega), Int.toNat_of_nonneg h0] at h4
  have h5 := PySem.W.mg_log (k := 199) (show (combI n k).natAbs < 2 ^ (199 + 1) from h4)
  exact Nat.lt_of_le_of_lt h5 (by decide +kernel)
theorem fact_small {n : Int} (h0 : 0 ≤ n) (h2 : n ≤ 40) : (factI n).natAbs.log2 < bitsLine := by
  have h := factOk_true
  unfold factOk at h
  rw [List.all_eq_true] at h
  have h4 := h n.toNat (List.mem_range.mpr (by omega))
  rw [decide_eq_true_eq, Int.toNat_of_nonneg (by omega)] at h4
  have h5 := PySem.W.mg_log (k := 199) (show (factI n).natAbs < 2 ^ (199 + 1) from h4)
  exact Nat.lt_of_le_of_lt h5 (by decide +kernel)
theorem run_comb (a : Int) (t : Tok) (b : Int) (u : Tok) (h0 : 0 ≤ b) (h1 : b ≤ a) (h2 : a ≤ 40) :
    Gives (Builtin.«math.comb» ⟨[.int a t, .int b u], []⟩) (.int (combI a b)) := by
  have c1 : ¬ a < 0 := by omega
  have c2 : ¬ b < 0 := by omega
  have c3 : ¬ b > a := by omega
  have c4 : ¬ min b (a - b) > Builtin.Math.maxSsize := by unfold Builtin.Math.maxSsize; omega
  have c5 : ¬ min b (a - b) > Builtin.Math.manyFactors := by unfold Builtin.Math.manyFactors; omega
  have c6 : ¬ min b (a - b) > 9000 := by omega
  have hsz := comb_small h0 h1 h2
  unfold combI at hsz ⊢
  exact .of_wp fun M A E s Q h => by obtain ⟨hp, g, d, tk, os⟩ := s; wp_walk; (try (refine wpAny_ite_false (decide_eq_false (Nat.not_le.mpr hsz)) ?_; wp_walk)); exact ⟨_, rfl, h⟩
theorem cr_lenB : CallR X (.builtin "len") (rP X.K (bltop .len)) := by
  intro pins s σ H xs us Q I r h
  obtain ⟨L, Z, ds, S, p, st, rd, e, q⟩ := h
  match ds, rd, e with
  | [a], rd, e =>
    obtain ⟨x, rfl, ra⟩ := rd.one
    simp only [bltop, Option.map_eq_some_iff] at e
    obtain ⟨n, e1, e2⟩ := e
    subst e2
    unfold lenD at e1
    split at e1
    · rename_i ds ei
      cases e1
      obtain ⟨b, vs, rfl, h1, rr⟩ := items_ok st ra ei
      refine call_len_seq pins s σ H _ us Q I r ⟨b, vs, rfl, h1, ?_⟩
      rw [rr.len]
      exact q _ _ Ext.refl st (.int _)
    · split at e1
      · rename_i z _
        cases ra.pI
        split at e1
        · cases e1
          rename_i hl
          refine call_len_str pins s σ H _ us Q I r ⟨_, rfl, le_line (by simpa [Str.length] using hl), ?_⟩
          have hz : (T z).length = z.length := by simp [Str.length]
          rw [hz]
          exact q _ _ Ext.refl st (.int _)
        · cases e1
      · cases e1
  | [], _, e => simp [bltop] at e
  | _ :: _ :: _, _, e => simp [bltop] at e
theorem cr_allB (hc : X.calm = true) : CallR X (.builtin "all") (rP X.K (bltop .all)) := by
  intro pins s σ H xs us Q I r h
  obtain ⟨L, Z, ds, S, p, st, rd, e, q⟩ := h
  match ds, rd, e with
  | [a], rd, e =>
    obtain ⟨x, rfl, ra⟩ := rd.one
    simp only [bltop] at e
    split at e
    · rename_i xs ei
      obtain ⟨bs, e1, e2⟩ := Option.map_eq_some_iff.mp e
      subst e2
      obtain ⟨b, vs, rfl, h1, rr⟩ := asList_ok st ra ei
      have hv := rr.blsI e1
      subst hv
      exact cr_all hc pins s σ H _ us Q I r ⟨b, bs, rfl, .of h1, q _ _ Ext.refl st (.bl _)⟩
    · cases e
  | [], _, e => simp [bltop] at e
  | _ :: _ :: _, _, e => simp [bltop] at e
theorem cr_anyB (hc : X.calm = true) : CallR X (.builtin "any") (rP X.K (bltop .any)) := by
  intro pins s σ H xs us Q I r h
  obtain ⟨L, Z, ds, S, p, st, rd, e, q⟩ := h
  match ds, rd, e with
  | [a], rd, e =>
    obtain ⟨x, rfl, ra⟩ := rd.one
    simp only [bltop] at e
    split at e
    · rename_i xs ei
      obtain ⟨bs, e1, e2⟩ := Option.map_eq_some_iff.mp e
      subst e2
      obtain ⟨b, vs, rfl, h1, rr⟩ := asList_ok st ra ei
      have hv := rr.blsI e1
      subst hv
      exact cr_any hc pins s σ H _ us Q I r ⟨b, bs, rfl, .of h1, q _ _ Ext.refl st (.bl _)⟩
    · cases e
  | [], _, e => simp [bltop] at e
  | _ :: _ :: _, _, e => simp [bltop] at e
theorem cr_sumB (hc : X.calm = true) : CallR X (.builtin "sum") (rP X.K (bltop .sum)) := by
  intro pins s σ H xs us Q I r h
  obtain ⟨L, Z, ds, S, p, st, rd, e, q⟩ := h
  match ds, rd, e with
  | [a], rd, e =>
    obtain ⟨x, rfl, ra⟩ := rd.one
    simp only [bltop] at e
    split at e
    · rename_i xs ei
      obtain ⟨ns, e1, e2⟩ := Option.map_eq_some_iff.mp e
      subst e2
      obtain ⟨b, vs, rfl, h1, rr⟩ := asList_ok st ra ei
      have hv := rr.intsI e1
      subst hv
      exact cr_sum hc pins s σ H _ us Q I r ⟨b, ns, rfl, .of h1, q _ _ Ext.refl st (.int _)⟩
    · cases e
  | [], _, e => simp [bltop] at e
  | _ :: _ :: _, _, e => simp [bltop] at e
theorem cr_maxB (hc : X.calm = true) : CallR X (.builtin "max") (rP X.K (bltop .maxL)) := by
  intro pins s σ H xs us Q I r h
  obtain ⟨L, Z, ds, S, p, st, rd, e, q⟩ := h
  match ds, rd, e with
  | [a], rd, e =>
    obtain ⟨x, rfl, ra⟩ := rd.one
    simp only [bltop] at e
    split at e
    · rename_i xs ei
      split at e
      · rename_i ns en
        obtain ⟨m, e1, e2⟩ := Option.map_eq_some_iff.mp e
        subst e2
        obtain ⟨b, vs, rfl, h1, rr⟩ := asList_ok st ra ei
        have hv := rr.intsI en
        subst hv
        obtain ⟨m1, m2⟩ := maxI_mem e1
        refine cr_max hc pins s σ H _ us Q I r ⟨b, ns, rfl, .of h1, List.length_pos_of_mem m1, fun k k1 k2 => ?_⟩
        have : k = m := by
          have a1 := m2 k k1
          have a2 := k2 m m1
          omega
        subst this
        exact q _ _ Ext.refl st (.int _)
      · cases e
    · cases e
  | [], _, e => simp [bltop] at e
  | _ :: _ :: _, _, e => simp [bltop] at e
theorem cr_max2B (hc : X.calm = true) : CallR X (.builtin "max") (rP X.K (bltop .max2)) := by
  intro pins s σ H xs us Q I r h
  obtain ⟨L, Z, ds, S, p, st, rd, e, q⟩ := h
  unfold bltop at e
  split at e <;> first | (rename_i hf _; cases hf; done) | skip
  all_goals first | (cases ‹Blt.max2 = _›; done) | skip
  · obtain ⟨x, y, rfl, ra, rb⟩ := rd.two
    cases ra.pI; cases rb.pI
    cases e
    exact call_max2 hc pins s σ H _ us Q I r ⟨_, _, rfl, q _ _ Ext.refl st (.int _)⟩
  · cases e
theorem cr_min2B (hc : X.calm = true) : CallR X (.builtin "min") (rP X.K (bltop .min2)) := by
  intro pins s σ H xs us Q I r h
  obtain ⟨L, Z, ds, S, p, st, rd, e, q⟩ := h
  unfold bltop at e
  split at e <;> first | (cases ‹Blt.min2 = _›; done) | skip
  · obtain ⟨x, y, rfl, ra, rb⟩ := rd.two
    cases ra.pI; cases rb.pI
    cases e
    exact call_min2 hc pins s σ H _ us Q I r ⟨_, _, rfl, q _ _ Ext.refl st (.int _)⟩
  · cases e
theorem cr_listB : CallR X (.type "list") (rP X.K (bltop .list)) := by
  intro pins s σ H xs us Q I r h
  obtain ⟨L, Z, ds, S, p, st, rd, e, q⟩ := h
  unfold bltop at e
  split at e <;> first | (cases ‹Blt.list = _›; done) | skip
  · obtain ⟨x, rfl, ra⟩ := rd.one
    cases e
    obtain ⟨b, vs, rfl, h1, rr⟩ := ra.pI.tupI
    refine call_list_of pins s σ H _ us Q I r ⟨b, vs, rfl, .inr h1, fun l hl => ?_⟩
    obtain ⟨n1, n2, n3⟩ := new_lst st rr hl
    exact q _ _ n1 n2 n3
  · obtain ⟨x, rfl, ra⟩ := rd.one
    obtain ⟨ps, e1, e2⟩ := Option.map_eq_some_iff.mp e
    subst e2
    obtain ⟨b, vs, rfl, h1, rr⟩ := asList_ok st ra e1
    refine call_list_of pins s σ H _ us Q I r ⟨b, vs, rfl, .inl (.of h1), fun l hl => ?_⟩
    obtain ⟨n1, n2, n3⟩ := new_lst st rr hl
    exact q _ _ n1 n2 n3
  · cases e
theorem cr_tupleB : CallR X (.type "tuple") (rP X.K (bltop .tuple)) := by
  intro pins s σ H xs us Q I r h
  obtain ⟨L, Z, ds, S, p, st, rd, e, q⟩ := h
  unfold bltop at e
  split at e <;> first | (cases ‹Blt.tuple = _›; done) | skip
  · obtain ⟨x, rfl, ra⟩ := rd.one
    cases e
    obtain ⟨b, vs, rfl, h1, rr⟩ := ra.pI.tupI
    exact call_tupleF pins s σ H _ us Q I r ⟨b, vs, rfl, .inr ⟨h1, q _ _ Ext.refl st ra.pI⟩⟩
  · obtain ⟨x, rfl, ra⟩ := rd.one
    obtain ⟨ps, e1, e2⟩ := Option.map_eq_some_iff.mp e
    subst e2
    obtain ⟨b, vs, rfl, h1, rr⟩ := asList_ok st ra e1
    refine call_tupleF pins s σ H _ us Q I r ⟨b, vs, rfl, .inl ⟨.of h1, fun l o hl hd => ?_⟩⟩
    obtain ⟨n1, n2, n3⟩ := new_tup st rr hl hd
    exact q _ _ n1 n2 n3
  · cases e
theorem cr_intB : CallR X (.type "int") (rP X.K (bltop .int)) := by
  intro pins s σ H xs us Q I r h
  obtain ⟨L, Z, ds, S, p, st, rd, e, q⟩ := h
  unfold bltop at e
  split at e <;> first | (cases ‹Blt.int = _›; done) | skip
  · obtain ⟨x, rfl, ra⟩ := rd.one
    cases e
    cases ra.pI
    exact call_int1 pins s σ H _ us Q I r (.inl ⟨_, rfl, q _ _ Ext.refl st (.int _)⟩)
  · obtain ⟨x, rfl, ra⟩ := rd.one
    cases e
    cases ra.pI
    exact call_int1 pins s σ H _ us Q I r (.inr ⟨_, rfl, q _ _ Ext.refl st (.int _)⟩)
  · cases e
theorem cr_absB : CallR X (.builtin "abs") (rP X.K (bltop .abs)) := by
  intro pins s σ H xs us Q I r h
  obtain ⟨L, Z, ds, S, p, st, rd, e, q⟩ := h
  unfold bltop at e
  split at e <;> first | (cases ‹Blt.abs = _›; done) | skip
  · obtain ⟨x, rfl, ra⟩ := rd.one
    cases e
    cases ra.pI
    exact call_abs pins s σ H _ us Q I r ⟨_, rfl, q _ _ Ext.refl st (.int _)⟩
  · cases e
theorem cr_combB : CallR X (.builtin "math.comb") (rP X.K (bltop .comb)) := by
  intro pins s σ H xs us Q I r h
  obtain ⟨L, Z, ds, S, p, st, rd, e, q⟩ := h
  unfold bltop at e
  split at e <;> first | (cases ‹Blt.comb = _›; done) | skip
  · split at e
    · rename_i hc
      cases e
      simp only [Bool.and_eq_true, decide_eq_true_eq] at hc
      obtain ⟨⟨h0, h1⟩, h2⟩ := hc
      obtain ⟨x, y, rfl, ra, rb⟩ := rd.two
      cases ra.pI
      cases rb.pI
      obtain ⟨u1, u2, rfl, ⟨t, rfl⟩, ⟨u, rfl⟩⟩ := vals2 r
      refine call_function_meets kind_comb plain_comb entry_comb (args_comb _ _) (run_comb _ t _ u h0 h1 h2).meets ?_
      exact ⟨.int _, H, I.tok _, ⟨_, rfl⟩, q _ _ Ext.refl st (.int _)⟩
    · cases e
  · cases e
theorem cr_factB : CallR X (.builtin "math.factorial") (rP X.K (bltop .fact)) := by
  intro pins s σ H xs us Q I r h
  obtain ⟨L, Z, ds, S, p, st, rd, e, q⟩ := h
  unfold bltop at e
  split at e <;> first | (cases ‹Blt.fact = _›; done) | skip
  · split at e
    · rename_i hc
      cases e
      simp only [Bool.and_eq_true, decide_eq_true_eq] at hc
      obtain ⟨h0, h2⟩ := hc
      obtain ⟨x, rfl, ra⟩ := rd.one
      cases ra.pI
      obtain ⟨u1, rfl, t, rfl⟩ := vals1 r
      refine PySem.W.mg_factorial (by unfold Builtin.Math.maxSsize; omega) (by omega) (by unfold Builtin.Math.manyFactors; omega) (fact_small h0 h2) ?_
      exact ⟨.int _, H, I.tok _, ⟨_, rfl⟩, q _ _ Ext.refl st (.int _)⟩
    · cases e
  · cases e
/-! ### sorted -/
theorem asSeq_ok {K : PySem.W.Frag} {H : Hp} {L Z : List Addr} {S : Sto} (s : StR K H L Z S) {v : V} {d : D} (h : RD K H L Z v d) {xs : List P} (e : asSeq d S = some xs) :
    ∃ a vs, v = .ref a ∧ (SqL K H a vs ∨ SqT K H a vs) ∧ RpL K H L Z vs xs := by
  unfold asSeq at e
  split at e
  · cases e
    obtain ⟨a, vs, e1, e2, r⟩ := h.pI.tupI
    exact ⟨a, vs, e1, .inr e2, r⟩
  · obtain ⟨a, vs, e1, e2, r⟩ := asList_ok s h e
    exact ⟨a, vs, e1, .inl (.of e2), r⟩
mutual
theorem keyP_py : ∀ x : P, noBox x = true → PySem.W.keyToks x.py = keyP x
  | .bl b, _ => by simp only [P.py, PySem.W.keyToks, keyP]
  | .int i, _ => by simp only [P.py, PySem.W.keyToks, keyP]
  | .str x, _ => by simp only [P.py, PySem.W.keyToks, keyP, T]
  | .tup xs, h => by
    simp only [P.py, PySem.W.keyToks, keyP]
    exact keyPL_py xs (by simpa [noBox] using h)
  | .non, h => by simp [noBox] at h
  | .rep _, h => by simp [noBox] at h
  | .lst _, h => by simp [noBox] at h
  | .dct _ _, h => by simp [noBox] at h
theorem keyPL_py : ∀ xs : List P, noBoxL xs = true → PySem.W.keyToksAll (pyL xs) = keyPL xs
  | [], _ => by simp only [pyL, PySem.W.keyToksAll, keyPL]
  | x :: r, h => by
    simp only [noBoxL, Bool.and_eq_true] at h
    simp only [pyL, PySem.W.keyToksAll, keyPL, keyP_py x h.1, keyPL_py r h.2]
end
mutual
theorem likeP_py : ∀ x y : P, likeP x y = true → PySem.W.alike x.py y.py = true
  | .bl b, y, h => by cases y <;> simp_all [likeP, P.py, PySem.W.alike]
  | .int b, y, h => by cases y <;> simp_all [likeP, P.py, PySem.W.alike]
  | .str b, y, h => by cases y <;> simp_all [likeP, P.py, PySem.W.alike]
  | .tup xs, .tup ys, h => by
    simp only [P.py, PySem.W.alike]
    exact likePL_py xs ys (by simpa [likeP] using h)
  | .tup _, .non, h | .tup _, .bl _, h | .tup _, .int _, h | .tup _, .str _, h | .tup _, .rep _, h | .tup _, .lst _, h | .tup _, .dct _ _, h => by simp [likeP] at h
  | .non, _, h => by simp [likeP] at h
  | .rep _, _, h => by simp [likeP] at h
  | .lst _, _, h => by simp [likeP] at h
  | .dct _ _, _, h => by simp [likeP] at h
theorem likePL_py : ∀ xs ys : List P, likePL xs ys = true → PySem.W.alikeAll (pyL xs) (pyL ys) = true
  | [], _, _ => by simp [pyL, PySem.W.alikeAll]
  | _ :: _, [], _ => by simp [pyL, PySem.W.alikeAll]
  | x :: r, y :: q, h => by
    simp only [likePL, Bool.and_eq_true] at h
    simp only [pyL, PySem.W.alikeAll, Bool.and_eq_true]
    exact ⟨likeP_py x y h.1, likePL_py r q h.2⟩
end
section
variable {X : Cx}
mutual
theorem Rp.reads0 {pins : List (Addr × Obj)} {σ : L2.St} {H : Hp} {s : Shared} {L Z : List Addr} (I : Inv X pins σ H s) : ∀ (p : P) (v : V) (u : Value), noBox p = true → Rp X.K H L Z v p → RelV v u → Reads s.heap u p.py []
  | .bl b, _, _, _, h, r => by cases h; cases r; simp only [P.py]; exact .bool b
  | .int i, _, _, _, h, r => by cases h; obtain ⟨t, rfl⟩ := r; simp only [P.py]; exact .int i t
  | .str x, _, _, _, h, r => by cases h; obtain ⟨t, rfl⟩ := r; simp only [P.py]; exact .str _ t
  | .tup ps, _, _, n, h, r => by
    obtain ⟨a, vs, rfl, h1, rr⟩ := h.tupI
    cases r
    obtain ⟨its, rv, ⟨o, ho, hc, n', hd⟩, _⟩ := I.tuple h1
    simp only [P.py]
    exact .tuple ho hc hd (RpL.reads0 I ps _ its (by simpa [noBox] using n) rr rv)
  | .non, _, _, n, _, _ => by simp [noBox] at n
  | .rep _, _, _, n, _, _ => by simp [noBox] at n
  | .lst _, _, _, n, _, _ => by simp [noBox] at n
  | .dct _ _, _, _, n, _, _ => by simp [noBox] at n
theorem RpL.reads0 {pins : List (Addr × Obj)} {σ : L2.St} {H : Hp} {s : Shared} {L Z : List Addr} (I : Inv X pins σ H s) : ∀ (ps : List P) (vs : List V) (us : List Value), noBoxL ps = true → RpL X.K H L Z vs ps → Vals vs us → ReadsAll s.heap us (pyL ps) []
  | [], _, _, _, h, r => by cases h; cases r; simp only [pyL]; exact .nil
  | p :: ps, _, _, n, h, r => by
    simp only [noBoxL, Bool.and_eq_true] at n
    cases h with
    | cons h1 h2 =>
      cases r with
      | cons r1 r2 =>
        simp only [pyL]
        exact .cons (as := []) (bs := []) (Rp.reads0 I p _ _ n.1 h1 r1) (RpL.reads0 I ps _ _ n.2 h2 r2)
end
end
theorem sorted_seq {prog : Program} {w : World} {A : Around} {E : Value → Shared → Prop} {s : Shared} {β : Type} {vs : List Value} {bs : List β} {enc : β → PyData} {R : Value → β → Prop} {l : Addr} {Tn : String} {o : Obj} {n : Nat} {Q : Value → Shared → Prop}
    (hT : Tn = "list" ∨ Tn = "tuple") (ho : s.heap.get? l = some o) (hc : o.cls = Value.type Tn) (hd : o.data = Data.seq vs.toArray n) (hr : PySem.W.EachIs R vs bs) (hreads : PySem.W.EachIs (fun v b => Reads s.heap v (enc b) []) vs bs)
    (ha : PySem.W.AllAlike (bs.map enc)) (hs : PySem.W.Sortable (bs.map enc)) (hn : bs.length ≤ sizeLine) (hu : ∀ b, b ∈ bs → A.units + 2 + (enc b).depth < cLine)
    (h : ∀ (h1 h' : Heap) (d : Addr) (out : List Value) (m : Nat), out.length = bs.length → PySem.W.EachIs R out (bs.mergeSort (PySem.W.dataLe false enc)) → (∀ b o, s.heap.get? b = some o → h1.get? b = some o) → (∀ b o, h1.get? b = some o → h'.get? b = some o) → h1.objs.size ≤ d → h'.get? d = some (PyProof.Rows.seqObj "list" out.toArray m) → Q (.ref d) { s with heap := h' }) :
    wpAny (model prog w) A (call (.builtin "sorted") [.ref l]) Q E s := by
  have hl : vs.length = bs.length := hr.length
  refine Calls.call_function_entry PyProof.Rows.kind_sorted PyProof.Rows.plain_sorted PyProof.Rows.entry_sorted (PyProof.Rows.args_sorted1 _) ?_
  show wpAny _ _ (checkCount "sorted" 1 1 1 >>= fun _ => collect (.ref l) >>= fun items => newList items >>= fun a => holding [a] (call (.builtin "list.sort") [a] []) >>= fun _ => ret a) _ _ _
  refine wpAny_bind (wpAny_pure ?_)
  refine wpAny_bind (wpAny_collect_seq l hT ho hc hd (fun h1 k1 => ?_) (by simpa [hl] using hn))
  show wpAny _ _ (newList vs >>= _) _ _ _
  refine wpAny_bind (wpAny_newList ?_ (by rw [hl]; exact hn))
  have e0 : (h1.push { cls := Value.type "list", data := Data.seq vs.toArray }).get? h1.objs.size = some (PyProof.Rows.seqObj "list" vs.toArray 0) := Heap.get?_push_size _ rfl
  have k2 : ∀ b o, h1.get? b = some o → (h1.push { cls := Value.type "list", data := Data.seq vs.toArray }).get? b = some o := fun b o e => Heap.get?_push_of_some _ e
  refine wpAny_bind (wpAny_holding (PySem.W.list_sort_data (A := A.in1) (n := 0) e0 hr (hreads.mono fun v b q => ⟨[], PyProof.Rows.Reads.keeps (fun b o e => k2 b o (k1 b o e)) q, by simp⟩) ha hs hn (fun b hb => ?_) fun out h1o h2o => ?_))
  · have := hu b hb
    show A.units + 1 + 1 + _ < _
    omega
  · refine wpAny_pure ⟨_, rfl, ?_⟩
    obtain ⟨m, em⟩ := PyProof.Rows.sortedHeap_at (vs := vs) (out := out.toArray) e0
    refine h h1 _ h1.objs.size out m h1o h2o k1 (fun b o e => ?_) (Nat.le_refl _) em
    have lt := Heap.lt_size e
    rw [PyProof.Rows.sortedHeap_old (Nat.ne_of_lt lt) (Heap.lt_size (k2 b o e))]
    exact k2 b o e
theorem totalLeP : PySem.W.TotalLe leP where
  trans a b c h1 h2 := by
    simp only [leP, lexP, Bool.not_eq_true'] at h1 h2 ⊢
    cases e : PyProof.Rows.lexLt PyProof.Rows.itemOrd (keyP c) (keyP a) with
    | false => rfl
    | true =>
      rcases (PyProof.Rows.listOrd PyProof.Rows.itemOrd).negTrans _ (keyP b) _ e with h | h
      · exact h2.symm.trans h |>.symm ▸ rfl
      · exact h1.symm.trans h |>.symm ▸ rfl
  total a b := by
    simp only [leP, lexP, Bool.not_eq_true']
    cases e : PyProof.Rows.lexLt PyProof.Rows.itemOrd (keyP b) (keyP a) with
    | false => exact .inl rfl
    | true =>
      refine .inr ?_
      cases e2 : PyProof.Rows.lexLt PyProof.Rows.itemOrd (keyP a) (keyP b) with
      | false => rfl
      | true =>
        have := (PyProof.Rows.listOrd PyProof.Rows.itemOrd).trans _ _ _ e e2
        rw [(PyProof.Rows.listOrd PyProof.Rows.itemOrd).irrefl] at this
        cases this
theorem insP_cut {x : P} : ∀ {l1 l2 : List P}, (∀ b ∈ l1, leP x b = false) → (∀ b ∈ l2, leP x b = true) → insP x (l1 ++ l2) = l1 ++ x :: l2
  | [], [], _, _ => rfl
  | [], y :: r, _, h => by simp [insP, h y List.mem_cons_self]
  | y :: r, l2, h, h2 => by
    simp only [List.cons_append, insP, h y List.mem_cons_self]
    rw [insP_cut (fun b hb => h b (List.mem_cons_of_mem _ hb)) h2]
    rfl
theorem srtP_merge : ∀ xs : List P, xs.mergeSort leP = srtP xs
  | [] => by simp [srtP]
  | x :: r => by
    have tr := totalLeP.trans
    have to : ∀ a b : P, (leP a b || leP b a) = true := fun a b => by
      rcases totalLeP.total a b with h | h <;> simp [h]
    obtain ⟨l1, l2, e1, e2, e3⟩ := List.mergeSort_cons tr to x r
    have pw := List.pairwise_mergeSort tr to (x :: r)
    rw [e1] at pw ⊢
    have h2 : ∀ b ∈ l2, leP x b = true := by
      have := (List.pairwise_append.mp pw).2.1
      exact fun b hb => (List.pairwise_cons.mp this).1 b hb
    have ih := srtP_merge r
    rw [e2] at ih
    show _ = insP x (srtP r)
    rw [← ih]
    exact (insP_cut (fun b hb => by simpa using e3 b hb) h2).symm
section
variable {X : Cx}
theorem eachIs_of {α β : Type} {R : α → β → Prop} : ∀ {as : List α} {bs : List β}, as.length = bs.length → (∀ (i : Nat) (a : α) (b : β), as[i]? = some a → bs[i]? = some b → R a b) → PySem.W.EachIs R as bs
  | [], [], _, _ => .nil
  | [], _ :: _, h, _ => by cases h
  | _ :: _, [], h, _ => by cases h
  | a :: as, b :: bs, h, k => .cons (k 0 a b rfl rfl) (eachIs_of (by simpa using h) fun i a b h1 h2 => k (i + 1) a b (by simpa using h1) (by simpa using h2))
theorem eachIs_get {α β : Type} {R : α → β → Prop} : ∀ {as : List α} {bs : List β} {i : Nat} {a : α} {b : β}, PySem.W.EachIs R as bs → as[i]? = some a → bs[i]? = some b → R a b
  | _, _, i, a, b, .nil, h, _ => by simp at h
  | _, _, 0, a, b, .cons h _, h1, h2 => by
    simp only [List.getElem?_cons_zero, Option.some.injEq] at h1 h2
    subst h1 h2
    exact h
  | _, _, i + 1, a, b, .cons _ r, h1, h2 => eachIs_get r (by simpa using h1) (by simpa using h2)
theorem noBoxL_all : ∀ {xs : List P}, xs.all (fun x => noBox x && decide (x.dep ≤ 60)) = true → noBoxL xs = true
  | [], _ => rfl
  | x :: r, h => by
    simp only [List.all_cons, Bool.and_eq_true] at h
    simp only [noBoxL, Bool.and_eq_true]
    exact ⟨h.1.1, noBoxL_all (by simpa using h.2)⟩
theorem eachIs_vals {K : PySem.W.Frag} {H : Hp} {L Z : List Addr} : ∀ {out : List Value} {Y : List (V × P)}, PySem.W.EachIs (fun v w => RelV w.1 v ∧ Rp K H L Z w.1 w.2) out Y → Vals (Y.map Prod.fst) out
  | _, _, .nil => .nil
  | _, _, .cons h r => .cons h.1 (eachIs_vals r)
theorem eachIs_rp {K : PySem.W.Frag} {H : Hp} {L Z : List Addr} : ∀ {out : List Value} {Y : List (V × P)}, PySem.W.EachIs (fun v w => RelV w.1 v ∧ Rp K H L Z w.1 w.2) out Y → RpL K H L Z (Y.map Prod.fst) (Y.map Prod.snd)
  | _, _, .nil => .nil
  | _, _, .cons h r => .cons h.2 (eachIs_rp r)
theorem cr_sortedB (hu : X.A.units + 64 < cLine) : CallR X (.builtin "sorted") (rP X.K (bltop .sorted)) := by
  intro pins s σ H xs us Q I r h
  obtain ⟨L, Z, ds, S, p, st, rd, e, q⟩ := h
  match ds, rd, e with
  | [a], rd, e =>
    obtain ⟨x, rfl, ra⟩ := rd.one
    simp only [bltop] at e
    split at e
    · rename_i xs ei
      split at e
      · rename_i hok
        cases e
        obtain ⟨b, vs, rfl, hsq, rr⟩ := asSeq_ok st ra ei
        obtain ⟨u, rfl, ru⟩ := vals1 r
        cases ru
        simp only [sortOk, Bool.and_eq_true, decide_eq_true_eq] at hok
        obtain ⟨⟨⟨h1, h2⟩, h3⟩, h4⟩ := hok
        have nb := noBoxL_all h3
        obtain ⟨its, o, n, Tn, rv, hT, ho, hc, hd⟩ : ∃ (its : List Value) (o : Obj) (n : Nat) (Tn : String), Vals vs its ∧ (Tn = "list" ∨ Tn = "tuple") ∧ s.heap.get? b = some o ∧ o.cls = Value.type Tn ∧ o.data = Data.seq its.toArray n := by
          rcases hsq with q1 | q1
          · obtain ⟨its, rv, ⟨o, n, ho, hc, _, hd⟩, _⟩ := I.list q1
            exact ⟨its, o, n, "list", rv, .inl rfl, ho, hc, hd⟩
          · obtain ⟨its, rv, ⟨o, ho, hc, n, hd⟩, _⟩ := I.tuple q1
            exact ⟨its, o, n, "tuple", rv, .inr rfl, ho, hc, hd⟩
        have len1 : vs.length = its.length := rv.length
        have len2 : vs.length = xs.length := rr.len
        have zl : (vs.zip xs).length = xs.length := by rw [List.length_zip]; omega
        have zg : ∀ i (w : V × P), (vs.zip xs)[i]? = some w → vs[i]? = some w.1 ∧ xs[i]? = some w.2 := fun i w h => by
          rw [List.getElem?_zip_eq_some] at h; exact h
        have zm : (vs.zip xs).map Prod.snd = xs := by rw [List.map_snd_zip (by omega)]
        have all0 : ReadsAll s.heap its (pyL xs) [] := RpL.reads0 I xs vs its nb rr rv
        have hmem : ∀ w ∈ vs.zip xs, w.2 ∈ xs := fun w hw => by rw [← zm]; exact List.mem_map_of_mem hw
        have em : (vs.zip xs).map (fun w => w.2.py) = xs.map P.py := by
          rw [show (fun w : V × P => w.2.py) = P.py ∘ Prod.snd from rfl, ← List.map_map, zm]
        have nb1 : ∀ x ∈ xs, noBox x = true ∧ x.dep ≤ 60 := fun x hx => by
          have := List.all_eq_true.mp h3 x hx
          simpa using this
        refine sorted_seq (A := X.A) (vs := its) (bs := vs.zip xs) (enc := fun w => w.2.py) (R := fun v w => RelV w.1 v ∧ Rp X.K H L Z w.1 w.2) hT ho hc hd ?_ ?_ ?_ ?_ ?_ ?_ ?_
        · refine eachIs_of (by rw [zl]; omega) fun i v w e1 e2 => ?_
          obtain ⟨f1, f2⟩ := zg i w e2
          obtain ⟨v', g1, g2⟩ := rv.get f1
          rw [e1] at g1
          cases g1
          obtain ⟨w', g3, g4⟩ := rr.get f2
          rw [f1] at g3
          cases g3
          exact ⟨g2, g4⟩
        · refine eachIs_of (by rw [zl]; omega) fun i v w e1 e2 => ?_
          obtain ⟨f1, f2⟩ := zg i w e2
          obtain ⟨v', g1, g2⟩ := rv.get f1
          rw [e1] at g1
          cases g1
          obtain ⟨w', g3, g4⟩ := rr.get f2
          rw [f1] at g3
          cases g3
          exact Rp.reads0 I _ _ _ (nb1 _ (List.mem_of_getElem? f2)).1 g4 g2
        · rw [em]
          intro d hd d' hd'
          obtain ⟨y, hy, rfl⟩ := List.mem_map.mp hd
          obtain ⟨z, hz, rfl⟩ := List.mem_map.mp hd'
          exact likeP_py y z (List.all_eq_true.mp (List.all_eq_true.mp h1 y hy) z hz)
        · rw [em]
          rcases (Bool.or_eq_true _ _).mp h2 with h2 | h2
          · refine .inl fun d hd => ?_
            obtain ⟨y, hy, rfl⟩ := List.mem_map.mp hd
            have := List.all_eq_true.mp h2 y hy
            unfold isTupN at this
            split at this
            · exact ⟨_, _, by simp only [P.py, pyL]; rfl⟩
            · cases this
          · refine .inr fun d hd => ?_
            obtain ⟨y, hy, rfl⟩ := List.mem_map.mp hd
            have := List.all_eq_true.mp h2 y hy
            unfold isFlat at this
            split at this <;> first | (cases this; done) | exact ⟨by simp [P.py], by simp [P.py]⟩
        · rw [zl]; exact le_line h4
        · intro w hw
          have := (nb1 _ (hmem w hw)).2
          have d := P.depth_py w.2
          show X.A.units + 2 + w.2.py.depth < cLine
          omega
        · intro h1 h' d out m lo eo k1 k2 hsz hd'
          have srt : (vs.zip xs).mergeSort (PySem.W.dataLe false fun w => w.2.py) = (vs.zip xs).mergeSort fun a b => leP a.2 b.2 := by
            refine PySem.W.sort_congr fun a ha b hb => ?_
            rw [PySem.W.dataLe_eq]
            show (!PySem.W.dataLt b.2.py a.2.py) = !lexP (keyP b.2) (keyP a.2)
            unfold PySem.W.dataLt
            rw [keyP_py _ (nb1 _ (hmem a ha)).1, keyP_py _ (nb1 _ (hmem b hb)).1]
            rfl
          rw [srt] at eo
          obtain ⟨Y, hY⟩ : ∃ Y, Y = (vs.zip xs).mergeSort fun a b => leP a.2 b.2 := ⟨_, rfl⟩
          rw [← hY] at eo
          have ys : Y.map Prod.snd = srtP xs := by
            rw [hY, PySem.W.sort_maps (s := leP) Prod.snd (fun _ _ _ _ => rfl), zm, srtP_merge]
          have rl : RpL X.K H L Z (Y.map Prod.fst) (srtP xs) := ys ▸ eachIs_rp eo
          have rvo : Vals (Y.map Prod.fst) out := eachIs_vals eo
          have I1 := I.kept (t' := s.toks) k1
          have nd : H d = none := I1.hok.fresh hsz
          have hlen : (Y.map Prod.fst).length ≤ sizeLine := by
            rw [List.length_map, hY, List.length_mergeSort, zl]; exact le_line h4
          obtain ⟨n1, n2, n3⟩ := new_lst st rl nd
          refine ⟨.ref d, upd H d (.lst (Y.map Prod.fst)), I1.laid k2 hsz ?_, rfl, q _ _ n1 n2 n3⟩
          simp only [L2.ObjOk]
          exact ⟨hlen, out, m, rvo, hd'⟩
      · cases e
    · cases e
  | [], _, e => simp [bltop] at e
  | _ :: _ :: _, _, e => simp [bltop] at e
theorem pyL_getD (xs : List P) (i : Nat) (h : i < xs.length) : (pyL xs).getD i .none = (xs.getD i .non).py := by
  induction xs generalizing i with
  | nil => simp at h
  | cons x r ih =>
    cases i with
    | zero => rfl
    | succ i => simpa [pyL] using ih i (by simpa using h)
theorem pyL_mem {xs : List P} {d : PyData} (h : d ∈ pyL xs) : ∃ x ∈ xs, d = x.py := by
  induction xs with
  | nil => simp [pyL] at h
  | cons x r ih =>
    simp only [pyL, List.mem_cons] at h
    rcases h with rfl | h
    · exact ⟨x, List.mem_cons_self, rfl⟩
    · obtain ⟨y, h1, h2⟩ := ih h
      exact ⟨y, List.mem_cons_of_mem _ h1, h2⟩
theorem pyL_depth {xs : List P} {n : Nat} (h : ∀ x ∈ xs, x.py.depth ≤ n) : PyData.depthAll (pyL xs) ≤ n := by
  induction xs with
  | nil => simp [pyL, PyData.depthAll]
  | cons x r ih =>
    have h1 := h x List.mem_cons_self
    have h2 := ih fun y hy => h y (List.mem_cons_of_mem _ hy)
    simp only [pyL, PyData.depthAll]; omega
/-- min of data that lie in a list -/
theorem min_dataB {pins : List (Addr × Obj)} {σ : L2.St} {H : Hp} {s : Shared} {L Z : List Addr} {b : Addr} {vs : List V} {xs : List P} {p : P} {Q : VK} (hu : X.A.units + 64 < cLine) (hc : X.calm = true) (I : Inv X pins σ H s) (h1 : H b = some (.lst vs)) (rr : RpL X.K H L Z vs xs) (hok : sortOk xs = true) (e : minP xs = some p)
    (q : ∀ v, Rp X.K H L Z v p → Q v H) : wpAny (model X.prog X.w) X.A (call (.builtin "min") [.ref b]) (EP X pins σ Q) X.xe s := by
  cases xs with
  | nil => cases e
  | cons x r =>
    simp only [minP, Option.some.injEq] at e
    simp only [sortOk, Bool.and_eq_true, decide_eq_true_eq] at hok
    obtain ⟨⟨⟨k1, k2⟩, k3⟩, k4⟩ := hok
    have nb := noBoxL_all k3
    have nb1 : ∀ y ∈ x :: r, noBox y = true ∧ y.dep ≤ 60 := fun y hy => by
      have := List.all_eq_true.mp k3 y hy
      simpa using this
    obtain ⟨its, rv, pl, hz⟩ := I.list (SqL.of h1 : SqL X.K H b vs)
    have hl := pl.isList
    have all0 : ReadsAll s.heap its (pyL (x :: r)) [] := RpL.reads0 I (x :: r) vs its nb rr rv
    have lv : its.length = (x :: r).length := by rw [← rv.length, rr.len]
    have alike : PySem.W.AlikeAll (pyL (x :: r)) := by
      refine ⟨fun d hd d' hd' => ?_, fun d hd => ?_⟩
      · obtain ⟨y, hy, rfl⟩ := pyL_mem hd
        obtain ⟨z, hz, rfl⟩ := pyL_mem hd'
        exact likeP_py y z (List.all_eq_true.mp (List.all_eq_true.mp k1 y hy) z hz)
      · obtain ⟨y, hy, rfl⟩ := pyL_mem hd
        have := (nb1 y hy).1
        cases y <;> first | (simp [noBox] at this; done) | simp [P.py]
    have dp : PyData.depthAll (pyL (x :: r)) ≤ 62 := pyL_depth fun y hy => by
      have := (nb1 y hy).2
      have := P.depth_py y
      omega
    have hr' : ReadsAll s.heap its.toArray.toList (pyL (x :: r)) [] := by simpa using all0
    have lt := PySem.W.cmpIn_lt (prog := X.prog) (w := X.w) (A := X.A.in1) (vs := its.toArray) hr' alike (by show X.A.units + 1 + _ < _; omega)
    let bt : Nat → Nat → Bool := fun i j => !leP ((x :: r).getD j .non) ((x :: r).getD i .non)
    have cmp : PySem.CmpIn X.prog X.w X.A.in1 .Lt s.heap (fun i v => its.toArray[i]? = some v) bt := fun i j vi vj s' Q E hk hi hj hq => by
      refine lt i j vi vj s' Q E hk hi hj ?_
      have li : i < (x :: r).length := by rw [← lv]; exact (List.getElem?_eq_some_iff.mp (by simpa using hi)).1
      have lj : j < (x :: r).length := by rw [← lv]; exact (List.getElem?_eq_some_iff.mp (by simpa using hj)).1
      have mi : (x :: r).getD i .non ∈ x :: r := by rw [List.getD_eq_getElem?_getD, List.getElem?_eq_getElem li]; exact List.getElem_mem li
      have mj : (x :: r).getD j .non ∈ x :: r := by rw [List.getD_eq_getElem?_getD, List.getElem?_eq_getElem lj]; exact List.getElem_mem lj
      have : PySem.W.dataLt ((pyL (x :: r)).getD i .none) ((pyL (x :: r)).getD j .none) = bt i j := by
        rw [pyL_getD _ _ li, pyL_getD _ _ lj]
        show _ = !leP _ _
        unfold PySem.W.dataLt leP
        rw [keyP_py _ (nb1 _ mi).1, keyP_py _ (nb1 _ mj).1, Bool.not_not]
        rfl
      show Q (Value.bool (PySem.W.dataLt ((pyL (x :: r)).getD i .none) ((pyL (x :: r)).getD j .none))) s'
      rw [this]
      exact hq
    refine PySem.call_min_walkH (PySem.W.iter_listW (A := X.A.in1) (I.ok.hd hc) hl fun s₂ e2 W st hfp hw hk => ?_)
    refine ⟨_, _, _, _, _, _, _, s.heap, bt, rfl, W, st, hfp, by simpa [lv] using Nat.succ_pos r.length, hw, hk, cmp, fun v s' hP m => ?_⟩
    obtain ⟨h', tk, rfl, hk'⟩ := PySem.W.moved_old e2 rfl m
    have sz : its.toArray.size - 1 = r.length := by simp [lv]
    rw [sz] at hP
    have f := PySem.W.argBest_fold (fun y a => !leP a y) P.non x r r.length (Nat.le_refl _)
    rw [List.take_length] at f
    have li : PySem.argBest bt r.length < (x :: r).length := Nat.lt_succ_of_le f.1
    have ep : (x :: r)[PySem.argBest bt r.length]? = some p := by
      rw [← e, ← f.2, List.getD_eq_getElem?_getD, List.getElem?_eq_getElem li]; rfl
    obtain ⟨v', g1, g2⟩ := rr.get ep
    obtain ⟨u', g3, g4⟩ := rv.get g1
    have : u' = v := by
      have hP' : its[PySem.argBest bt r.length]? = some v := by simpa using hP
      rw [hP'] at g3; cases g3; rfl
    subst this
    exact ⟨v', H, I.kept hk', g4, q v' g2⟩
theorem cr_minB (hu : X.A.units + 64 < cLine) (hc : X.calm = true) : CallR X (.builtin "min") (rP X.K (bltop .minL)) := by
  intro pins s σ H xs us Q I r h
  obtain ⟨L, Z, ds, S, p, st, rd, e, q⟩ := h
  match ds, rd, e with
  | [a], rd, e =>
    obtain ⟨x, rfl, ra⟩ := rd.one
    simp only [bltop] at e
    split at e
    · rename_i xs ei
      split at e
      · rename_i ns en
        obtain ⟨m, e1, e2⟩ := Option.map_eq_some_iff.mp e
        subst e2
        obtain ⟨b, vs, rfl, h1, rr⟩ := asList_ok st ra ei
        have hv := rr.intsI en
        subst hv
        obtain ⟨m1, m2⟩ := minI_mem e1
        refine cr_min hc pins s σ H _ us Q I r ⟨b, ns, rfl, .of h1, List.length_pos_of_mem m1, fun k k1 k2 => ?_⟩
        have : k = m := by
          have a1 := m2 k k1
          have a2 := k2 m m1
          omega
        subst this
        exact q _ _ Ext.refl st (.int _)
      · split at e
        · rename_i hok
          obtain ⟨b, vs, rfl, h1, rr⟩ := asList_ok st ra ei
          obtain ⟨u, rfl, ru⟩ := vals1 r
          cases ru
          exact min_dataB hu hc I h1 rr hok e fun v' rv' => q _ _ Ext.refl st rv'
        · cases e
    · cases e
  | [], _, e => simp [bltop] at e
  | _ :: _ :: _, _, e => simp [bltop] at e
end

/-! ### repr -/
theorem pyL_len : ∀ ps : List P, (pyL ps).length = ps.length
  | [] => rfl
  | _ :: r => congrArg (· + 1) (pyL_len r)
theorem keys_read {w : World} {prog : Program} {h : Heap} : ∀ {ks : List DK} {es : List DictEntry} {kvs : List (Key × Value)}, Pairs (mixKind prog w) es kvs → kvs.map (·.1) = ks.map kKey → ReadsAll h (es.map (·.key)) (ks.map kpy) []
  | [], _, _, .nil, _ => .nil
  | [], _, _, .cons _ _ _, e => by cases e
  | _ :: _, _, _, .nil, e => by cases e
  | k :: ks, _, _, .cons (e := e) (kv := kv) h1 h2 h3, q => by
    simp only [List.map_cons, List.cons.injEq] at q
    have := keys_read (h := h) h3 q.2
    rw [q.1] at h1
    have h1' : keyIs (kKey k) e.key = true := h1
    rcases keyIs_shape h1' with ⟨i, t, e1, e2⟩ | ⟨x, t, e1, e2⟩
    · cases k with
      | inl j =>
        simp only [kKey, Sum.inl.injEq] at e1
        subst e1
        rw [List.map_cons, List.map_cons, e2]
        exact ReadsAll.cons (as := []) (Reads.int _ t) this
      | inr j => cases e1
    · cases k with
      | inl j => cases e1
      | inr j =>
        simp only [kKey, Sum.inr.injEq] at e1
        subst e1
        rw [List.map_cons, List.map_cons, e2]
        exact ReadsAll.cons (as := []) (Reads.str _ t) this
theorem pair_vals {w : World} {prog : Program} : ∀ {es : List DictEntry} {kvs : List (Key × Value)}, Pairs (mixKind prog w) es kvs → es.map (·.val) = kvs.map (·.2)
  | _, _, .nil => rfl
  | _, _, .cons h1 h2 h3 => by
    rw [List.map_cons, List.map_cons, h2, pair_vals h3]
theorem kv_vals {κ : Type} : ∀ {kvs : List (κ × V)} {vs : List (κ × Value)}, KV kvs vs → Vals (kvs.map (·.2)) (vs.map (·.2)) ∧ vs.map (·.1) = kvs.map (·.1)
  | _, _, .nil => ⟨.nil, rfl⟩
  | _, _, .cons h r => ⟨.cons h.2 (kv_vals r).1, by rw [List.map_cons, List.map_cons, (kv_vals r).2, h.1]⟩
mutual
theorem Rp.reads {pins : List (Addr × Obj)} {σ : L2.St} {H : Hp} {s : Shared} (I : Inv X pins σ H s) (hs : ∃ o, X.base.get? sysModules = some o) : ∀ (p : P) (v : V) (u : Value), Rp X.K H [] [] v p → RelV v u → ∃ as, Reads s.heap u p.py as ∧ sysModules ∉ as
  | .non, _, _, h, r => by cases h; cases r; exact ⟨[], by simp only [P.py]; exact .none, by simp⟩
  | .bl b, _, _, h, r => by cases h; cases r; exact ⟨[], by simp only [P.py]; exact .bool b, by simp⟩
  | .int i, _, _, h, r => by cases h; obtain ⟨t, rfl⟩ := r; exact ⟨[], by simp only [P.py]; exact .int i t, by simp⟩
  | .str x, _, _, h, r => by cases h; obtain ⟨t, rfl⟩ := r; exact ⟨[], by simp only [P.py]; exact .str _ t, by simp⟩
  | .rep x, _, _, h, r => by cases h; obtain ⟨t, rfl⟩ := r; exact ⟨[], by simp only [P.py]; exact .str _ t, by simp⟩
  | .tup ps, _, _, h, r => by
    obtain ⟨a, vs, rfl, h1, rr⟩ := h.tupI
    cases r
    obtain ⟨its, rv, ⟨o, ho, hc, n, hd⟩, _⟩ := I.tuple h1
    obtain ⟨as, hr, hn⟩ := RpL.reads I hs ps _ its rr rv
    exact ⟨as, by simp only [P.py]; exact .tuple ho hc hd hr, hn⟩
  | .lst ps, _, _, h, r => by
    obtain ⟨a, vs, rfl, h1, _, rr⟩ := h.lstI
    cases r
    obtain ⟨its, rv, ⟨o, n, ho, hc, _, hd⟩, _⟩ := I.list (.of h1)
    obtain ⟨as, hr, hn⟩ := RpL.reads I hs ps _ its rr rv
    refine ⟨a :: as, by simp only [P.py]; exact .list ho hc hd hr, ?_⟩
    simp only [List.mem_cons, not_or]
    refine ⟨fun e => ?_, hn⟩
    obtain ⟨ob, hb⟩ := hs
    have := (I.bs _ _ hb).2
    rw [e, h1] at this
    cases this
  | .dct ks ps, _, _, h, r => by
    cases h with
    | dct h1 h2 h3 h4 =>
      rename_i a kvs
      cases r
      obtain ⟨hl, hsys, vs, hkv, o, es, ep, ho, hex, hd, _, hpr, _⟩ := I.hok a _ h1
      obtain ⟨k1, k2⟩ := kv_vals hkv
      obtain ⟨bs, hr, hn⟩ := RpL.reads I hs ps _ _ h4 k1
      have hk : ReadsAll s.heap (es.toList.map (·.key)) (ks.map kpy) [] := keys_read hpr (k2.trans h3)
      have hlen : (ks.map kpy).length = (pyL ps).length := by
        rw [pyL_len, List.length_map, ← keys_len h3, ← h4.len, List.length_map]
      refine ⟨a :: [] ++ bs, ?_, ?_⟩
      · simp only [P.py]
        refine .dict ho hex.1 hd ?_ ?_
        · rw [List.map_fst_zip (by omega)]; exact hk
        · rw [List.map_snd_zip (by omega), pair_vals hpr]; exact hr
      · simp only [List.cons_append, List.nil_append, List.mem_cons, not_or]
        exact ⟨fun e => by rw [← e] at hsys; simp at hsys, hn⟩
theorem RpL.reads {pins : List (Addr × Obj)} {σ : L2.St} {H : Hp} {s : Shared} (I : Inv X pins σ H s) (hs : ∃ o, X.base.get? sysModules = some o) : ∀ (ps : List P) (vs : List V) (us : List Value), RpL X.K H [] [] vs ps → Vals vs us → ∃ as, ReadsAll s.heap us (pyL ps) as ∧ sysModules ∉ as
  | [], _, _, h, r => by cases h; cases r; exact ⟨[], by simp only [pyL]; exact .nil, by simp⟩
  | p :: ps, _, _, h, r => by
    cases h with
    | cons h1 h2 =>
      cases r with
      | cons r1 r2 =>
        obtain ⟨as, q1, n1⟩ := Rp.reads I hs p _ _ h1 r1
        obtain ⟨bs, q2, n2⟩ := RpL.reads I hs ps _ _ h2 r2
        exact ⟨as ++ bs, by simp only [pyL]; exact .cons q1 q2, by simp only [List.mem_append, not_or]; exact ⟨n1, n2⟩⟩
end
theorem shown_non : PyData.none.shown = ("None" : Str) := by simp [PyData.shown]
theorem shown_bl (b : Bool) : (PyData.bool b).shown = (if b then "True" else "False" : Str) := by cases b <;> simp [PyData.shown]
theorem shown_str (x : Str) : (PyData.str x).shown = reprText x := by simp [PyData.shown]
theorem fin_str {pins : List (Addr × Obj)} {σ : L2.St} {H : Hp} {s : Shared} {Q : VK} {x z : Str} {t : Tok} (I : Inv X pins σ H s) (q : Q (.str x) H) (e : x = z) : EP X pins σ Q (.str z t) s := by
  subst e
  exact ⟨.str x, H, I, ⟨t, rfl⟩, q⟩
theorem cr_repB (hg : X.A.guards = some []) (hu : X.A.units + 64 < cLine) (hs : ∃ o, X.base.get? sysModules = some o) : CallR X (.builtin "repr") (rP X.K (bltop .rep)) := by
  intro pins s σ H xs us Q I r h
  obtain ⟨L, Z, ds, S, p, st, rd, e, q⟩ := h
  match ds, rd, e with
  | [a], rd, e =>
    obtain ⟨x, rfl, ra⟩ := rd.one
    simp only [bltop] at e
    split at e
    · rename_i y ey
      split at e
      · rename_i hc
        cases e
        simp only [Bool.and_eq_true, decide_eq_true_eq] at hc
        obtain ⟨⟨c1, c2⟩, c3⟩ := hc
        have hv := view_ok st ra ey
        obtain ⟨u, rfl, ru⟩ := vals1 r
        obtain ⟨g1, g2⟩ := P.shown_ok c1 c2
        have gd := P.depth_py y
        have fin := q H (.str y.py.shown) Ext.refl st (.rep y)
        obtain ⟨as, hr, hn⟩ := Rp.reads I hs y x u hv ru
        cases hv with
        | non => cases ru; exact P.repr_of_none (fin_str (I.tok _) fin (by simp only [P.py, shown_non]))
        | bl b => cases ru; exact P.repr_of_bool (fin_str (I.tok _) fin (by simp only [P.py, shown_bl]))
        | int i =>
          obtain ⟨t, rfl⟩ := ru
          exact P.repr_of_int (intFit_log (by simpa [P.fit] using c1)) (fin_str (I.tok _) fin (by simp only [P.py, PyData.shown_int]))
        | str z =>
          obtain ⟨t, rfl⟩ := ru
          refine P.repr_of_str (fin_str (I.tok _) fin (by simp only [P.py, shown_str])) ?_
          simp only [P.py, shown_str] at g2
          omega
        | rep z => simp [P.fit] at c1
        | _ =>
          cases ru
          exact repr_of_reads' hr g1 (fun _ => hn) hg (by omega) (fun _ _ e => e) (fun h' u tk hk => fin_str (I.kept hk) fin rfl) (by omega)
      · cases e
    · cases e
  | [], _, e => simp [bltop] at e
  | _ :: _ :: _, _, e => simp [bltop] at e
theorem cr_blt (hc : X.calm = true) (hg : X.A.guards = some []) (hu : X.A.units + 64 < cLine) (hs : ∃ o, X.base.get? sysModules = some o) (f : Blt) : CallR X (vB f) (rP X.K (bltop f)) := by
  cases f with
  | len => exact cr_lenB
  | rep => exact cr_repB hg hu hs
  | all => exact cr_allB hc
  | any => exact cr_anyB hc
  | max2 => exact cr_max2B hc
  | min2 => exact cr_min2B hc
  | maxL => exact cr_maxB hc
  | minL => exact cr_minB (by omega) hc
  | sum => exact cr_sumB hc
  | list => exact cr_listB
  | tuple => exact cr_tupleB
  | int => exact cr_intB
  | abs => exact cr_absB
  | sorted => exact cr_sortedB hu
  | comb => exact cr_combB
  | fact => exact cr_factB
end

/-! ### dicts by tuples -/
section
variable {K : PySem.W.Frag} {H : Hp} {L Z : List Addr} {S : Sto}
theorem mapK_inj : ∀ {a b : List DK}, a.map kKey = b.map kKey → a = b
  | [], [], _ => rfl
  | [], _ :: _, h => by simp at h
  | _ :: _, [], h => by simp at h
  | x :: r, y :: q, h => by
    simp only [List.map_cons, List.cons.injEq] at h
    rw [kKey_inj h.1, mapK_inj h.2]
theorem keysOf_rel : ∀ {vs : List V} {ds : List D} {k : List DK}, keysOf ds = some k → RDL K H L Z vs ds → vs = (k.map kKey).map kV
  | [], [], k, e, .nil => by
    simp only [keysOf, Option.some.injEq] at e
    subst e; rfl
  | v :: vs, d :: ds, k, e, .cons h r => by
    cases d with
    | p x =>
      simp only [keysOf] at e
      split at e
      · rename_i a b e1 e2
        cases e
        have hr := keysOf_rel e2 r
        have hp := h.pI
        cases x with
        | int i => cases e1; cases hp; rw [hr]; rfl
        | str z => cases e1; cases hp; rw [hr]; rfl
        | _ => cases e1
      · cases e
    | _ => cases e
theorem lookT_rel : ∀ {kvs : List (List Key × V)} {ks : List (List DK)} {ps : List P}, kvs.map (·.1) = ks.map (fun k => k.map kKey) → RpL K H L Z (kvs.map (·.2)) ps → ∀ x : List DK,
    (lookT ks ps x = none ∧ valV kvs (x.map kKey) = none) ∨ ∃ p v, lookT ks ps x = some p ∧ valV kvs (x.map kKey) = some v ∧ Rp K H L Z v p
  | [], [], _, _, _, x => .inl ⟨rfl, rfl⟩
  | [], _ :: _, _, h, _, x => by simp at h
  | _ :: _, [], _, h, _, x => by simp at h
  | kv :: kvs, k :: ks, [], _, r, x => by cases r
  | kv :: kvs, k :: ks, p :: ps, h, r, x => by
    simp only [List.map_cons, List.cons.injEq] at h
    cases r with
    | cons r1 r2 =>
      simp only [lookT]
      by_cases hk : k = x
      · rw [if_pos hk]
        exact .inr ⟨p, kv.2, rfl, valV_pos (by rw [h.1, hk]), r1⟩
      · rw [if_neg hk, valV_neg (fun z => hk (mapK_inj (h.1.symm.trans z)))]
        exact lookT_rel h.2 r2 x
theorem putT_rel {v : V} {y : P} (hy : Rp K H L Z v y) (x : List DK) : ∀ {kvs : List (List Key × V)} {ks : List (List DK)} {ps : List P}, kvs.map (·.1) = ks.map (fun k => k.map kKey) → RpL K H L Z (kvs.map (·.2)) ps →
    RpL K H L Z ((kvs.map fun kv => if kv.1 = x.map kKey then (kv.1, v) else kv).map (·.2)) (putT ks ps x y)
  | [], [], _, _, r => by cases r; exact .nil
  | [], _ :: _, _, h, _ => by simp at h
  | _ :: _, [], _, h, _ => by simp at h
  | kv :: kvs, k :: ks, [], _, r => by cases r
  | kv :: kvs, k :: ks, p :: ps, h, r => by
    simp only [List.map_cons, List.cons.injEq] at h
    cases r with
    | cons r1 r2 =>
      simp only [putT, List.map_cons]
      refine .cons ?_ (putT_rel hy x h.2 r2)
      by_cases hk : k = x
      · rw [if_pos hk, if_pos (by rw [h.1, hk])]; exact hy
      · rw [if_neg hk, if_neg (fun z => hk (mapK_inj (h.1.symm.trans z)))]; exact r1
theorem moreT_rel {a : Addr} {kvs : List (List Key × V)} {ks : List (List DK)} {ps : List P} (x : List DK) {v : V} {y : P} (hy : Rp K H L Z v y) (h1 : kvs.map (·.1) = ks.map (fun k => k.map kKey)) (h2 : RpL K H L Z (kvs.map (·.2)) ps)
    (ha : H a = some (.dT (putK kvs (x.map kKey) v))) : MoR K H L Z a (moreT ks ps x y) := by
  unfold moreT
  rcases lookT_rel h1 h2 x with ⟨l1, l2⟩ | ⟨p, w, l1, l2, _⟩
  · rw [l1]
    rw [putK_new v l2] at ha
    refine ⟨_, ha, by simp [h1], ?_⟩
    rw [List.map_append]
    exact h2.app (.cons hy .nil)
  · rw [l1]
    have e : (kvs.any fun kv => decide (kv.1 = x.map kKey)) = true := by rw [valV_any, l2]; rfl
    unfold putK at ha
    rw [if_pos e] at ha
    refine ⟨_, ha, ?_, putT_rel hy x h1 h2⟩
    rw [← h1, List.map_map]
    apply List.map_congr_left
    intro kv _
    simp only [Function.comp]
    split <;> rfl
theorem putN_rel {v : V} {y : P} (hy : Rp K H L Z v y) : ∀ {xs : List (NestedKey × Addr × Value)} {ks ps : List P} {vs : List V} {x : P} {u : Value}, xs.map (·.1) = ks.map nkP → ks.all okN = true → okN x = true → RelV v u → Vals vs (xs.map (·.2.2)) → RpL K H L Z vs ps →
    ∃ ws, Vals ws ((xs.map (putAt (nkP x) u)).map (·.2.2)) ∧ RpL K H L Z ws (putN ks ps x y)
  | [], [], _, _, _, _, _, _, _, _, .nil, r => ⟨[], .nil, by cases r; exact .nil⟩
  | [], _ :: _, _, _, _, _, h, _, _, _, _, _ => by simp at h
  | _ :: _, [], _, _, _, _, h, _, _, _, _, _ => by simp at h
  | z :: xs, k :: ks, ps, vs, x, u, h, ho, hx, hu, hv, hr => by
    simp only [List.map_cons, List.cons.injEq] at h
    simp only [List.all_cons, Bool.and_eq_true] at ho
    cases hv with
    | cons v1 v2 =>
      cases hr with
      | cons r1 r2 =>
        obtain ⟨ws, h1, h2⟩ := putN_rel hy h.2 ho.2 hx hu v2 r2
        simp only [List.map_cons, putN]
        by_cases e : k = x
        · subst e
          refine ⟨v :: ws, .cons ?_ h1, ?_⟩
          · unfold putAt; rw [if_pos h.1]; exact hu
          · rw [if_pos rfl]; exact .cons hy h2
        · have ne : z.1 ≠ nkP x := fun q => e (nkP_inj (okN_nk ho.1).1 (okN_nk hx).1 (h.1.symm.trans q))
          rw [if_neg e]
          exact ⟨_, .cons (by unfold putAt; rw [if_neg ne]; exact v1) h1, .cons r1 h2⟩
theorem moreN_rel {a b : Addr} {xs : List (NestedKey × Addr × Value)} {ks ps : List P} {vs : List V} {x : P} {v : V} {u : Value} {y : P} (hy : Rp K H L Z v y) (hb : Rp K H L Z (.ref b) x) (hu : RelV v u) (hx : okN x = true)
    (h2 : xs.map (·.1) = ks.map nkP) (h3 : ks.all okN = true ∧ ks.Nodup) (hl : ks.length < 100000) (r1 : RpL K H L Z (xs.map fun x => V.ref x.2.1) ks) (hv : Vals vs (xs.map (·.2.2))) (r2 : RpL K H L Z vs ps)
    (ha : H a = some (DictN WW.w a (storedH xs (nkP x) b u))) : MoR K H L Z a (moreN ks ps x y) := by
  have i1 := (lookN_rel (x := x) h2 h3.1 hx hv r2).1
  unfold moreN
  unfold storedH at ha
  by_cases m : x ∈ ks
  · rw [if_pos m]
    rw [i1, decide_eq_true m, if_pos rfl] at ha
    obtain ⟨ws, w1, w2⟩ := putN_rel hy h2 h3.1 hx hu hv r2
    have e1 : (xs.map (putAt (nkP x) u)).map (·.1) = ks.map nkP := by
      rw [← h2, List.map_map]
      apply List.map_congr_left
      intro z _
      simp only [Function.comp, putAt]; split <;> rfl
    have e2 : ((xs.map (putAt (nkP x) u)).map fun x => V.ref x.2.1) = (xs.map fun x => V.ref x.2.1) := by
      rw [List.map_map]
      apply List.map_congr_left
      intro z _
      simp only [Function.comp, putAt]; split <;> rfl
    exact ⟨_, ws, ha, e1, ⟨h3.1, h3.2, Nat.le_of_lt hl⟩, by rw [e2]; exact r1, w1, w2⟩
  · rw [if_neg m]
    rw [i1, decide_eq_false m, if_neg (by decide)] at ha
    refine ⟨_, vs ++ [v], ha, by simp [h2], ⟨by simp [h3.1, hx], ?_, by simp; omega⟩, ?_, ?_, r2.app (.cons hy .nil)⟩
    · rw [List.nodup_append]
      exact ⟨h3.2, by simp, fun z hz w hw e => by
        have : w = x := by simpa using hw
        subst this; subst e; exact m hz⟩
    · rw [List.map_append]; exact r1.app (.cons hb .nil)
    · rw [List.map_append]; exact Vals.append hv (.cons hu .nil)
theorem getT_some {d : D} {ds : List D} {o : Option P} (h : getT d ds S = some o) : ∃ k x ks ps, d = .mu k ∧ keysOf ds = some x ∧ S[k]? = some (.dT ks ps) ∧ o = lookT ks ps x := by
  unfold getT at h
  split at h
  · rename_i k x hx
    split at h
    · rename_i ks ps hk
      cases h
      exact ⟨k, x, ks, ps, rfl, hx, hk, rfl⟩
    · cases h
  · cases h
theorem wrT_some {d v : D} {ds : List D} {S' : Sto} (h : wrT d ds v S = some S') : ∃ k x y ks ps, d = .mu k ∧ keysOf ds = some x ∧ v = .p y ∧ S[k]? = some (.dT ks ps) ∧ ks.length < LIM ∧ S' = S.set k (moreT ks ps x y) := by
  unfold wrT at h
  split at h
  · rename_i k x y hx
    split at h
    · rename_i ks ps hk
      split at h
      · rename_i hl
        cases h
        exact ⟨k, x, y, ks, ps, rfl, hx, rfl, hk, hl, rfl⟩
      · cases h
    · cases h
  · cases h
end
end Mx
end

section
set_option Elab.async false
set_option linter.all false
set_option maxRecDepth 100000
set_option autoImplicit false
set_option maxHeartbeats 4000000
namespace Mx
open PySem L2 PySem.Spec PyProof.Rows

/-! ### the checker: an expression of the row is that tree -/
def strEq (a b : Str) : Bool := a.cps.toList == b.cps.toList
theorem strEq_eq {a b : Str} (h : strEq a b = true) : a = b := by
  unfold strEq at h
  obtain ⟨⟨x⟩⟩ := a
  obtain ⟨⟨y⟩⟩ := b
  have h' : x = y := by simpa using h
  rw [h']
structure Gl0 where
  fns : List Str
  consts : List (Str × P)
  cls : List Str
  imps : List Str := []
  kwc : List (Nat × List Str × List Nat) := []
def strsEq : List Str → List Str → Bool
  | [], [] => true
  | x :: r, y :: q => strEq x y && strsEq r q
  | _, _ => false
theorem strsEq_eq : ∀ {a b : List Str}, strsEq a b = true → a = b
  | [], [], _ => rfl
  | [], _ :: _, h => by cases h
  | _ :: _, [], h => by cases h
  | x :: r, y :: q, h => by
    simp only [strsEq, Bool.and_eq_true] at h
    rw [strEq_eq h.1, strsEq_eq h.2]
/-- the names of keywords, none of them a ** -/
def kwNames : List Keyword → Option (List Str)
  | [] => some []
  | ⟨some x, _, _⟩ :: r => (kwNames r).map (x :: ·)
  | _ :: _ => none
structure Ck where
  N : List Str
  sc : Scope
  fnc : Str → Bool
  G : Gl0
inductive Kd where
  | ex (x : Expr) | and (x y : Expr) (r : List Expr) | or (x y : Expr) (r : List Expr)
def andTail (y : Expr) : List Expr → Kd
  | [] => .ex y
  | z :: r => .and y z r
def orTail (y : Expr) : List Expr → Kd
  | [] => .ex y
  | z :: r => .or y z r
def slotC (c : Ck) (i : Nat) (x : Str) : Bool := match c.N[i]? with | some y => strEq y x | none => false
def visC (c : Ck) (x : Str) : Bool := match c.sc.names.lookup x with | some .local => true | some .cell => true | some .free => true | _ => false
def locC (c : Ck) (x : Str) : Bool := match c.sc.names.lookup x with | some .local => true | some .cell => c.fnc x | _ => false
def lonC (c : Ck) (x : Str) : Bool := match c.sc.names.lookup x with | some .local => true | _ => false
def glC (c : Ck) (x : Str) : Bool := match c.sc.names.lookup x with | some .globalImplicit => true | _ => false
def ndC (x : Str) : Bool := !(x == ("__debug__" : Str)) && !(x == ("__classdict__" : Str))
def bltC (c : Ck) (x : Str) (s : String) : Bool := strEq x (Str.ofString s) && glC c x
def conC : P → Const → Bool
  | .non, .none => true
  | .bl b, .bool d => b == d
  | .int i, .int j => i == j
  | .str z, .str y => y.cps.toList == z
  | _, _ => false
def opC : Bop → Operator → Bool
  | .add, .Add => true | .sub, .Sub => true | .mul, .Mult => true | .fdiv, .FloorDiv => true | .mod, .Mod => true | .pow, .Pow => true
  | _, _ => false
theorem opC_eq {o : Bop} {op : Operator} (h : opC o op = true) : op = pyB o := by
  cases o <;> cases op <;> first | rfl | cases h
def isNon : Expr → Bool
  | .Constant .none _ _ => true
  | _ => false
def cmC (o : Cop) (op : CmpOp) (r : Expr) : Bool := (match o, op with
  | .eq, .Eq => true | .ne, .NotEq => true | .lt, .Lt => true | .le, .LtE => true | .gt, .Gt => true | .ge, .GtE => true | .inn, .In => true | .nin, .NotIn => true
  | .isN, .Is => true | .notN, .IsNot => true
  | _, _ => false) && !behindInMarks op r
theorem cmC_eq {o : Cop} {op : CmpOp} {r : Expr} (h : cmC o op r = true) : op = pyC o ∧ behindInMarks op r = false := by
  unfold cmC at h
  simp only [Bool.and_eq_true, Bool.not_eq_true'] at h
  obtain ⟨h1, h2⟩ := h
  refine ⟨?_, h2⟩
  cases o <;> cases op <;> first | rfl | (simp at h1; done)
def keyC : DK → Option Expr → Bool
  | .inl i, some (.Constant (.int j) _ _) => i == j
  | .inr z, some (.Constant (.str y) _ _) => y.cps.toList == z
  | _, _ => false
def keysC : List DK → List (Option Expr) → Bool
  | [], [] => true
  | k :: ks, e :: es => keyC k e && keysC ks es
  | _, _ => false
def plainIxC : Expr → Bool
  | .Slice .. => false
  | .Starred .. => false
  | _ => true
def namesC (c : Ck) : List Nat → List Expr → Bool
  | [], [] => true
  | i :: is, .Name x _ :: es => slotC c i x && locC c x && namesC c is es
  | _, _ => false
def tgC (c : Ck) : Tg → Expr → Bool
  | .nm i, .Name x _ => slotC c i x && locC c x
  | .tp is, .Tuple es _ _ => namesC c is es
  | _, _ => false
def ownL (c : Ck) (own : List Nat) : List (Str × Nat) := own.filterMap fun i => (c.N[i]?).map fun x => (x, i)
def inC (own : List Nat) : Tg → Bool
  | .nm i => own.contains i
  | .tp is => is.all fun i => own.contains i
def blk (c : Ck) (scope : Scope) : Ck := { c with sc := relS scope c.sc, fnc := fun x => scope.names.lookup x == some .cell }
def ownC (c : Ck) (scope : Scope) (own : List Nat) : Bool := blkC c.N c.sc scope (ownL c own) && own.all fun i => (c.N[i]?).isSome
def mkOk : E → Bool
  | .lst _ => true
  | .bin .add _ _ => true
  | .bin .mul _ _ => true
  | .comp _ _ _ _ _ => true
  | _ => false
def noIs : Cop → Bool
  | .isN | .notN => false
  | _ => true
/-- an object whose method is called: a name, an item -/
def isNS : Expr → Bool
  | .Name .. => true
  | .Subscript .. => true
  | _ => false
def isTupX : Expr → Bool
  | .Tuple .. => true
  | _ => false
mutual
def ck (c : Ck) : E → Kd → Bool
  | .var i => fun k => match k with
    | .ex (.Name x _) => slotC c i x && visC c x && ndC x
    | _ => false
  | .lit p => fun k => match k with
    | .ex (.Constant k _ _) => conC p k
    | _ => false
  | .glo _ p => fun k => match k with
    | .ex (.Name x _) => glC c x && ndC x && (match c.G.consts.lookup x with | some q => P.beq p q | none => false)
    | _ => false
  | .bin o a b => fun k => match k with
    | .ex (.BinOp l op r _) => opC o op && ck c a (.ex l) && ck c b (.ex r)
    | _ => false
  | .neg a => fun k => match k with
    | .ex (.UnaryOp .USub x _) => ck c a (.ex x)
    | _ => false
  | .cmp o a b => fun k => match k with
    | .ex (.Compare l [op] [r] _) => cmC o op r && ck c a (.ex l) && ck c b (.ex r)
    | _ => false
  | .chn o o' a b d => fun k => match k with
    | .ex (.Compare l [op, op'] [r, r'] _) => cmC o op r && cmC o' op' r' && noIs o && noIs o' && ck c a (.ex l) && ck c b (.ex r) && ck c d (.ex r')
    | _ => false
  | .andE a b => fun k => match k with
    | .ex (.BoolOp .And (x :: y :: r) _) => ck c a (.ex x) && ck c b (andTail y r)
    | .and x y r => ck c a (.ex x) && ck c b (andTail y r)
    | _ => false
  | .orE a b => fun k => match k with
    | .ex (.BoolOp .Or (x :: y :: r) _) => ck c a (.ex x) && ck c b (orTail y r)
    | .or x y r => ck c a (.ex x) && ck c b (orTail y r)
    | _ => false
  | .notE a => fun k => match k with
    | .ex (.UnaryOp .Not x _) => ck c a (.ex x)
    | _ => false
  | .ite t a b => fun k => match k with
    | .ex (.IfExp x y z _) => ck c t (.ex x) && ck c a (.ex y) && ck c b (.ex z)
    | _ => false
  | .tup es => fun k => match k with
    | .ex (.Tuple xs _ _) => ckEs c es xs && decide (xs.length ≤ 30)
    | _ => false
  | .lst es => fun k => match k with
    | .ex (.List xs _) => ckEs c es xs && decide (xs.length ≤ 100)
    | _ => false
  | .mk e => fun k => mkOk e && ck c e k
  | .dct ks es => fun k => match k with
    | .ex (.Dict keys vals _) => keysC ks keys && ckEs c es vals && decide (keys.length ≤ 15) && decide (ks.Nodup) && decide (keys.length = vals.length)
    | _ => false
  | .idx a b => fun k => match k with
    | .ex (.Subscript v s _) => plainIxC s && ck c a (.ex v) && ck c b (.ex s)
    | _ => false
  | .slc a lo hi => fun k => match k with
    | .ex (.Subscript v (.Slice l u none _) _) => ck c a (.ex v) && ckEo c lo l && ckEo c hi u
    | _ => false
  | .rev a => fun k => match k with
    | .ex (.Subscript v (.Slice none none (some (.UnaryOp .USub (.Constant (.int i) _ _) _)) _) _) => ck c a (.ex v) && i == 1
    | _ => false
  | .isi t a => fun k => match k with
    | .ex (.Call (.Name f _) [x, .Name y _] [] _) => bltC c f "isinstance" && bltC c y (tyN t) && ck c a (.ex x)
    | _ => false
  | .call f es => fun k => match k with
    | .ex (.Call (.Name x _) xs [] _) => glC c x && ndC x && (match c.G.fns[f]? with | some y => strEq x y | none => false) && ckEs c es xs
    | _ => false
  | .callK f perm es => fun k => match k with
    | .ex (.Call (.Name x _) [] kws _) => glC c x && ndC x && (match c.G.fns[f]? with | some y => strEq x y | none => false) && (match kwNames kws with | some ks => c.G.kwc.any fun t => t.1 == f && strsEq t.2.1 ks && t.2.2 == perm && decide (ks.length = perm.length) | none => false) && ckKw c es kws
    | _ => false
  | .blt f es => fun k => match k with
    | .ex (.Call (.Name x _) xs [] _) => bltC c x (idB f) && (!isMB f || c.G.imps.any fun y => strEq y (Str.ofString (idB f))) && ckEs c es xs && !xs.isEmpty
    | _ => false
  | .mth m o es => fun k => match k with
    | .ex (.Call (.Attribute ox name apos) xs [] cpos) => (match m with | .append => strEq name "append" && decide (xs.length = 1) | .count => strEq name "count" && decide (xs.length = 1) | .index => strEq name "index" && decide (xs.length = 1) | _ => false) && ck c o (.ex ox) && ckEs c es xs && (apos.endLine == cpos.line) && isNS ox
    | _ => false
  | .newT => fun k => match k with
    | .ex (.Dict [] [] _) => true
    | _ => false
  | .newN => fun k => match k with
    | .ex (.Dict [] [] _) => true
    | _ => false
  | .getT o es d => fun k => match k with
    | .ex (.Call (.Attribute (.Name ox opos) name apos) [.Tuple xs _ _, y] [] cpos) => strEq name "get" && ck c o (.ex (.Name ox opos)) && ckEs c es xs && decide (xs.length ≤ 30) && ck c d (.ex y) && (apos.endLine == cpos.line)
    | _ => false
  | .idxT o es => fun k => match k with
    | .ex (.Subscript v (.Tuple xs _ _) _) => ck c o (.ex v) && ckEs c es xs && decide (xs.length ≤ 30)
    | _ => false
  | .comp own tg src ifs elt => fun k => match k with
    | .ex (.ListComp e [⟨t, i, fs, 0⟩] scope _) => ownC c scope own && inC own tg && tgC (blk c scope) tg t && ckSrc c src i t && ckIf (blk c scope) ifs fs && ck (blk c scope) elt (.ex e)
    | _ => false
  | .comp2 own own1 tg src ifs tg1 src1 ifs1 elt => fun k => match k with
    | .ex (.ListComp e [⟨t, i, fs, 0⟩, ⟨t1, i1, fs1, 0⟩] scope _) => ownC c scope own && inC own tg && inC own1 tg1 && (own1.all fun i => own.contains i) && tgC (blk c scope) tg t && ckSrc c src i t && ckIf (blk c scope) ifs fs && tgC (blk c scope) tg1 t1 && ckSrc (blk c scope) src1 i1 t1 && ckIf (blk c scope) ifs1 fs1 && ck (blk c scope) elt (.ex e)
    | _ => false
  | .comp3 own own1 own2 tg src tg1 src1 tg2 src2 elt => fun k => match k with
    | .ex (.ListComp e [⟨t, i, [], 0⟩, ⟨t1, i1, [], 0⟩, ⟨t2, i2, [], 0⟩] scope _) => ownC c scope own && inC own tg && inC own1 tg1 && inC own2 tg2 && (own1.all fun i => own.contains i) && (own2.all fun i => own1.contains i) && tgC (blk c scope) tg t && ckSrc c src i t && tgC (blk c scope) tg1 t1 && ckSrc (blk c scope) src1 i1 t1 && tgC (blk c scope) tg2 t2 && ckSrc (blk c scope) src2 i2 t2 && ck (blk c scope) elt (.ex e)
    | _ => false
  | .lrng a b => fun k => match k with
    | .ex (.Call (.Name f _) [.Call (.Name f' _) [x, y] [] _] [] _) => bltC c f "list" && bltC c f' "range" && ck c a (.ex x) && ck c b (.ex y)
    | _ => false
  | .lzip a b => fun k => match k with
    | .ex (.Call (.Name f _) [.Call (.Name f' _) [x, y] [] _] [] _) => bltC c f "list" && bltC c f' "zip" && ck c a (.ex x) && ck c b (.ex y)
    | _ => false
def ckEs (c : Ck) : Es → List Expr → Bool
  | .nil, [] => true
  | .cons e es, x :: xs => ck c e (.ex x) && ckEs c es xs
  | _, _ => false
def ckKw (c : Ck) : Es → List Keyword → Bool
  | .nil, [] => true
  | .cons e es, ⟨some _, x, _⟩ :: xs => ck c e (.ex x) && ckKw c es xs
  | _, _ => false
def ckEo (c : Ck) : Eo → Option Expr → Bool
  | .none, none => true
  | .some e, some x => ck c e (.ex x)
  | _, _ => false
def ckIf (c : Ck) : Eo → List Expr → Bool
  | .none, [] => true
  | .some e, [x] => ck c e (.ex x)
  | _, _ => false
def ckSrc (c : Ck) : Src → Expr → Expr → Bool
  | .rng e => fun x _ => match x with
    | .Call (.Name f _) [a] [] _ => bltC c f "range" && ck c e (.ex a)
    | _ => false
  | .rng2 e e' => fun x _ => match x with
    | .Call (.Name f _) [a, b] [] _ => bltC c f "range" && ck c e (.ex a) && ck c e' (.ex b)
    | _ => false
  | .of e => fun x _ => ck c e (.ex x)
  | .enum e => fun x tg => match x with
    | .Call (.Name f _) [a] [] _ => bltC c f "enumerate" && ck c e (.ex a) && isTupX tg
    | _ => false
  | .zip e e' => fun x tg => match x with
    | .Call (.Name f _) [a, b] [] _ => bltC c f "zip" && ck c e (.ex a) && ck c e' (.ex b) && isTupX tg
    | _ => false
  | .rev e => fun x _ => match x with
    | .Call (.Name f _) [.Call (.Name f' _) [a] [] _] [] _ => bltC c f "reversed" && bltC c f' "range" && ck c e (.ex a)
    | _ => false
  | .revA e => fun x _ => match x with
    | .Call (.Name f _) [a] [] _ => bltC c f "reversed" && ck c e (.ex a)
    | _ => false
end
def swC (c : Ck) (y : Str) (py : Pos) : Expr → Bool
  | .ListComp _ _ s pos => lonC c y && py.line == pos.line && !(s.names.any fun (n, k) => n == y && (k == .local || k == .cell))
  | _ => false
def isLC : Expr → Bool
  | .ListComp .. => true
  | .SetComp .. => true
  | .DictComp .. => true
  | _ => false
def parC (c : Ck) : List Nat → List Expr → List Expr → Bool
  | [i, j], [.Name x px, .Name y py], [a, b] => slotC c i x && slotC c j y && lonC c x && lonC c y && decide (i ≠ j) && (px.line == py.line) && !(foldedForSure 8 a && foldedForSure 8 b) && !(constantsAlone 8 a && constantsAlone 8 b)
  | [i, j, l], [.Name x px, .Name y py, .Name z pz], [a, b, d] => slotC c i x && slotC c j y && slotC c l z && lonC c x && lonC c y && lonC c z && decide (i ≠ j) && decide (i ≠ l) && decide (j ≠ l) && (px.line == py.line) && (px.line == pz.line) &&
      !(foldedForSure 8 a && foldedForSure 8 b && foldedForSure 8 d) && !(constantsAlone 8 a && constantsAlone 8 b && constantsAlone 8 d)
  | _, _, _ => false
/-- no name of the def's own alone: a block within reads it -/
def notLon (c : Ck) : Expr → Bool
  | .Name x _ => !lonC c x
  | _ => true
def notTup : Expr → Bool
  | .Tuple vs _ _ => vs.all (foldedForSure 8)
  | _ => true
mutual
def ckS (c : Ck) : St' → Stmt → Bool
  | .asg (.nm i) e => fun x => match x with
    | .Assign [.Name x _] v _ => slotC c i x && locC c x && ck c e (.ex v)
    | _ => false
  | .asg (.tp is) e => fun x => match x with
    | .Assign [.Tuple ts _ _] v _ => namesC c is ts && ck c e (.ex v) && !isLC v && (notTup v || ts.any (notLon c))
    | _ => false
  | .par is es => fun x => match x with
    | .Assign [.Tuple ts _ _] (.Tuple vs _ _) _ => parC c is ts vs && ckEs c es vs
    | _ => false
  | .set o i v => fun x => match x with
    | .Assign [.Subscript ox ix _] vx _ => plainIxC ix && ck c o (.ex ox) && ck c i (.ex ix) && ck c v (.ex vx) && !isLC vx
    | _ => false
  | .setT o es v => fun x => match x with
    | .Assign [.Subscript ox (.Tuple xs _ _) _] vx _ => ck c o (.ex ox) && ckEs c es xs && decide (xs.length ≤ 30) && ck c v (.ex vx) && !isLC vx
    | _ => false
  | .aug i o e => fun x => match x with
    | .AugAssign (.Name x _) op v _ => slotC c i x && locC c x && opC o op && ck c e (.ex v)
    | _ => false
  | .ex e => fun x => match x with
    | .Expr v _ => ck c e (.ex v) && !isLC v
    | _ => false
  | .ret e => fun x => match x with
    | .Return (some v) _ => ck c e (.ex v)
    | _ => false
  | .retN => fun x => match x with
    | .Return none _ => true
    | _ => false
  | .iff t a b => fun x => match x with
    | .If x y z _ => ck c t (.ex x) && ckSs c a y && ckSs c b z
    | _ => false
  | .whl t b => fun x => match x with
    | .While x y [] _ => ck c t (.ex x) && ckSs c b y
    | _ => false
  | .for t s b => fun x => match x with
    | .For tx sx y [] _ => tgC c t tx && ckSrc c s sx tx && ckSs c b y
    | _ => false
  | .brk => fun x => match x with
    | .Break _ => true
    | _ => false
  | .cont => fun x => match x with
    | .Continue _ => true
    | _ => false
  | .pass => fun x => match x with
    | .Pass _ => true
    | _ => false
  | .boom => fun x => match x with
    | .Raise _ _ _ => true
    | _ => false
  | .raise k => fun x => match x with
    | .Raise (some (.Call (.Name x _) [.Constant (.str _) _ _] [] _)) none _ => glC c x && ndC x && (match c.G.cls[k]? with | some y => strEq x y | none => false)
    | _ => false
def ckSs (c : Ck) : Sts → List Stmt → Bool
  | .nil, [] => true
  | .cons s r, x :: xs => ckS c s x && ckSs c r xs
  | _, _ => false
end
/-- a def's body, its docstring left out -/
def ckB (c : Ck) (b : Sts) : List Stmt → Bool
  | .Expr (.Constant (.str _) _ _) _ :: r => ckSs c b r
  | r => ckSs c b r
end Mx
end

section
set_option Elab.async false
set_option linter.all false
set_option maxRecDepth 100000
set_option autoImplicit false
set_option maxHeartbeats 4000000
namespace Mx
open PySem L2 PySem.Spec PyProof.Rows
variable [WW]

/-- a def's promise where no repr is under way -/
structure FnG (P : Program) (w : World) (K : PySem.W.Frag) (mg : Str → Option Value) (base : Heap) (k : Nat) (f : Addr) (fd : FuncData) (ps : List Str) (sp : Sp) : Prop where
  many : ∀ vs H Q E, sp vs H Q E → vs.length = ps.length
  goes : ∀ (A : Around) (outer : List PySem.Env) (s : Shared) (H : Hp) (args : Args) (us : List Value) (vs : List V) (Q : VK) (E : XK),
    A.guards = some [] → Room k A → Env0 P w K mg base A outer s H → BindsTo s fd args (ps.zip us) → Vals vs us → sp vs H Q E →
    codeAny (model P w) A (.call (.ref f) args) (CR (L2.CX P w) outer P w H s Q E) s
section
variable {X : Cx} {k : Nat} {f : Addr} {fd : FuncData} {ps : List Str} {sp : Sp} {E : L2.St → XK} {x : Str} {p pos : Pos} {e : Expr} {es : List Expr} {t : TA}
theorem runG {pins : List (Addr × Obj)} {σ : L2.St} {H : Hp} {s : Shared} {Q : VK} {us : List Value} {vs : List V} (F : FnG X.prog X.w X.K X.mg X.base k f fd ps sp)
    (hg : X.A.guards = some []) (hr : Room k X.A) (hb : Binds X.K fd ps []) (hx : PassesAt (L2.CX X.prog X.w) X σ (E σ))
    (I : Inv X pins σ H s) (r : Vals vs us) (h : sp vs H Q (E σ)) : wpAny (model X.prog X.w) X.A (call (.ref f) us) (EP X pins σ Q) X.xe s := by
  have len : us.length = ps.length := r.length ▸ F.many _ _ _ _ h
  have bind := hb s us I.kIn (by simpa using len)
  simp only [List.append_nil] at bind
  have done := F.goes X.A X.stack s H ⟨us, []⟩ us vs Q (E σ) hg hr I.env0 bind r h
  refine wpAny_call (codeAny_mono done ?_)
  rintro (e | fl) s' hq
  · exact hx pins H s e s' I hq
  · cases fl <;> first | exact I.after hq | exact (show False from hq).elim
def tCl (sp : Sp) (E : L2.St → XK) (t : TA) : TE := fun σ H Q => t σ H fun vs H1 => sp vs H1 Q (E σ)
theorem pe_callG (F : FnG X.prog X.w X.K X.mg X.base k f fd ps sp) (h0 : X.A.guards = some []) (hr : Room k X.A) (hg : Gl X x) (hm : X.mg x = some (.ref f))
    (hk : PySem.W.keepIn X.K (.ref f) = true) (hb : Binds X.K fd ps []) (hx : ∀ σ, PassesAt (L2.CX X.prog X.w) X σ (E σ))
    (ha : PA X (e :: es) t) (hdb : (x == ("__debug__" : Str)) = false) (he : starEach (e :: es) X.env = (false, eval e X.env) :: starEach es X.env)
    (hpl : (backTo pos (starEach es X.env)).any (·.1) = false) : PE X (.Call (.Name x p) (e :: es) [] pos) (tCl sp E t) := by
  constructor
  intro pins s σ H Q I h
  have args := ha.run pos pins s σ H _ I h
  have go : wpAny (model X.prog X.w) X.A (callWith pos (.ref f) [] (backTo pos (starEach (e :: es) X.env)) (backToKw pos (keywordEach [] X.env))) (EP X pins σ Q) X.xe s := by
    refine PySem.W.callWith_K (h₀ := X.base) I.ok.mod.kin hk (thn args ?_) he hpl
    rintro us s1 ⟨vs, H1, I1, r, q⟩
    exact ⟨I1.kIn, runG F h0 hr hb (hx σ) I1 r q⟩
  exact wpAny_Call_Name_kw (ld_glob I hg hm go hdb)
theorem pe_callG0 (F : FnG X.prog X.w X.K X.mg X.base k f fd ps sp) (h0 : X.A.guards = some []) (hr : Room k X.A) (hg : Gl X x) (hm : X.mg x = some (.ref f))
    (hk : PySem.W.keepIn X.K (.ref f) = true) (hb : Binds X.K fd ps []) (hx : ∀ σ, PassesAt (L2.CX X.prog X.w) X σ (E σ)) (hdb : (x == ("__debug__" : Str)) = false) :
    PE X (.Call (.Name x p) [] [] pos) (tCl sp E tNil) := by
  constructor
  intro pins s σ H Q I h
  exact wpAny_Call_Name_kw (ld_glob I hg hm (PySem.W.callWith_K0 I.kIn hk (runG (us := []) F h0 hr hb (hx σ) I .nil h)) hdb)
end

/-! ### a call by names -/
/-- the names ks bind so: each parameter's value stands at its place in perm -/
def KwB (K : PySem.W.Frag) (fd : FuncData) (ps ks : List Str) (perm : List Nat) : Prop := ∀ (s : Shared) (ws qs : List Value), K.In s.heap → ws.length = ks.length → permA perm ws = some qs → BindsTo s fd ⟨[], ks.zip ws⟩ (ps.zip qs)
theorem permA_vals : ∀ {perm : List Nat} {vs : List V} {us : List Value} {qs : List V}, Vals vs us → permA perm vs = some qs → ∃ ws, permA perm us = some ws ∧ Vals qs ws
  | [], _, _, qs, _, h => by cases h; exact ⟨[], rfl, .nil⟩
  | i :: is, vs, us, qs, r, h => by
    simp only [permA] at h ⊢
    cases h1 : vs[i]? with
    | none => rw [h1] at h; cases h
    | some v =>
      rw [h1] at h
      cases h2 : permA is vs with
      | none => rw [h2] at h; cases h
      | some q =>
        rw [h2] at h
        cases h
        obtain ⟨u, e1, r1⟩ := r.get h1
        obtain ⟨ws, e2, r2⟩ := permA_vals r h2
        exact ⟨u :: ws, by simp [e1, e2], .cons r1 r2⟩
section
variable {X : Cx} {k : Nat} {f : Addr} {fd : FuncData} {ps ks : List Str} {perm : List Nat} {sp : Sp} {E : L2.St → XK} {x : Str} {p pos : Pos} {kws : List Keyword} {t : TA}
def tClK (sp : Sp) (perm : List Nat) (m : Nat) (E : L2.St → XK) (t : TA) : TE := fun σ H Q => t σ H fun vs H1 => vs.length = m ∧ ∃ qs, permA perm vs = some qs ∧ sp qs H1 Q (E σ)
theorem kw_all : ∀ {kws : List Keyword} {ks : List Str} {env : PySem.Env} {pos : Pos}, kwNames kws = some ks → (backToKw pos (keywordEach kws env)).all (·.1.isSome) = true ∧ (backToKw pos (keywordEach kws env)).filterMap (·.1) = ks ∧ (backToKw pos (keywordEach kws env)).any (·.1.isNone) = false
  | [], ks, _, _, h => by cases h; exact ⟨rfl, rfl, rfl⟩
  | ⟨some y, e, q⟩ :: r, ks, env, pos, h => by
    simp only [kwNames, Option.map_eq_some_iff] at h
    obtain ⟨ks', h1, rfl⟩ := h
    obtain ⟨a, b, d⟩ := kw_all (env := env) (pos := pos) h1
    refine ⟨?_, ?_, ?_⟩
    · simp only [keywordEach, backToKw, List.map_cons, List.all_cons, Option.isSome_some, Bool.true_and]; exact a
    · simp only [keywordEach, backToKw, List.map_cons, List.filterMap_cons]; rw [← b]; rfl
    · simp only [keywordEach, backToKw, List.map_cons, List.any_cons, Option.isNone_some, Bool.false_or]; exact d
  | ⟨none, e, q⟩ :: r, ks, env, pos, h => by cases h
theorem pe_callGK (F : FnG X.prog X.w X.K X.mg X.base k f fd ps sp) (h0 : X.A.guards = some []) (hr : Room k X.A) (hg : Gl X x) (hm : X.mg x = some (.ref f))
    (hk : PySem.W.keepIn X.K (.ref f) = true) (hb : KwB X.K fd ps ks perm) (hx : ∀ σ, PassesAt (L2.CX X.prog X.w) X σ (E σ)) (hkw : PK X kws t) (hn : kwNames kws = some ks) (hdb : (x == ("__debug__" : Str)) = false) :
    PE X (.Call (.Name x p) [] kws pos) (tClK sp perm ks.length E t) := by
  constructor
  intro pins s σ H Q I h
  obtain ⟨n1, n2, n3⟩ := kw_all (env := X.env) (pos := pos) hn
  refine wpAny_Call_Name_kw (ld_glob I hg hm ?_ hdb)
  refine PySem.W.callWith_KW0 (h₀ := X.base) I.ok.mod.kin hk n1 (thn (hkw.run pos pins s σ H _ I h) fun ws s2 ⟨zs, H2, I2, rz, hl, qs, hq, q2⟩ => ⟨I2.kIn, ?_⟩) (by rw [n3]; rfl)
  rw [n2]
  obtain ⟨vs, e2, r2⟩ := permA_vals rz hq
  have bind := hb s2 ws vs I2.kIn (by rw [← rz.length]; exact hl) e2
  have done := F.goes X.A X.stack s2 H2 ⟨[], ks.zip ws⟩ vs qs Q (E σ) h0 hr I2.env0 bind r2 q2
  refine wpAny_call (codeAny_mono done ?_)
  rintro (e | fl) s' hq'
  · exact hx σ pins H2 s2 e s' I2 hq'
  · cases fl <;> first | exact I2.after hq' | exact (show False from hq').elim
end
/-! ### what an evaluation is asked -/
theorem _root_.L2.PE.imp {X : Cx} {e : Expr} {t t' : TE} (h : PE X e t) (k : ∀ σ H Q, t' σ H Q → t σ H Q) : PE X e t' := ⟨fun pins s σ H Q I q => h.run pins s σ H Q I (k σ H Q q)⟩
theorem _root_.L2.PT.imp {X : Cx} {e : Expr} {t t' : TT} (h : PT X e t) (k : ∀ σ H Q, t' σ H Q → t σ H Q) : PT X e t' := ⟨fun pins s σ H Q I q => h.run pins s σ H Q I (k σ H Q q)⟩
theorem _root_.L2.PW.imp {X : Cx} {e : Expr} {t t' : TT} (h : PW X e t) (k : ∀ σ H Q, t' σ H Q → t σ H Q) : PW X e t' := ⟨fun wh pins s σ H Q I q => h.run wh pins s σ H Q I (k σ H Q q)⟩
theorem _root_.L2.PA.imp {X : Cx} {e : List Expr} {t t' : TA} (h : PA X e t) (k : ∀ σ H Q, t' σ H Q → t σ H Q) : PA X e t' := ⟨fun pos pins s σ H Q I q => h.run pos pins s σ H Q I (k σ H Q q)⟩
theorem _root_.L2.PO.imp {X : Cx} {e : Option Expr} {t t' : TO} (h : PO X e t) (k : ∀ σ H Q, t' σ H Q → t σ H Q) : PO X e t' := ⟨fun pins s σ H Q I q => h.run pins s σ H Q I (k σ H Q q)⟩
theorem _root_.L2.PTs.imp {X : Cx} {e : List Expr} {t t' : TT} (h : PTs X e t) (k : ∀ σ H Q, t' σ H Q → t σ H Q) : PTs X e t' := ⟨fun pins s σ H Q I q => h.run pins s σ H Q I (k σ H Q q)⟩
theorem _root_.L2.PI.imp {X : Cx} {tg e : Expr} {t t' : TI} (h : PI X tg e t) (k : ∀ σ H Q, t' σ H Q → t σ H Q) : PI X tg e t' := ⟨fun pins s σ H Q I q => h.run pins s σ H Q I (k σ H Q q)⟩

/-- of an exception: its class by number, no fields -/
def wE (cl : Nat → Value) (E : XK) : Wsh := fun c fs _ H _ => fs = [] ∧ E (cl c) none H
def relD (K : PySem.W.Frag) (Z : List Addr) : Hp → List Addr → V → D → Prop := fun H L v d => RD K H L Z v d
def relDs (K : PySem.W.Frag) (Z : List Addr) : Hp → List Addr → List V → List D → Prop := fun H L v d => RDL K H L Z v d
def relB (K : PySem.W.Frag) (Z : List Addr) : Hp → List Addr → Bool → Bool → Prop := fun _ _ v b => v = b
def relO (K : PySem.W.Frag) (Z : List Addr) : Hp → List Addr → Option Int → Option Int → Prop := fun _ _ v b => v = b
section
variable (K : PySem.W.Frag) (cl : Nat → Value) (wx : WX)
def tG {β γ : Type} (rel : PySem.W.Frag → List Addr → Hp → List Addr → γ → β → Prop) (ev : Env → Sto → R β) : L2.St → Hp → (γ → Hp → Prop) → Prop := fun σ H Q =>
  ∃ L Z S env, At K H L Z S σ env ∧ Post K H L Z (wE cl (L2.WE wx σ)) (rel K Z) (ev env S) Q
end
/-- a test: a value's truth -/
def evT (C : Nat → List D → Sto → R D) (e : E) (env : Env) (S : Sto) : R Bool := (evE C e env S).bind fun x S1 => match truth x S1 with | some b => .ok b S1 | none => .stuck
section
variable {K : PySem.W.Frag} {H : Hp} {L Z : List Addr} {W : Wsh} {S : Sto}
theorem pu_post {o : Option P} {Q : VK} (h : Post K H L Z W (relD K Z) (pu o S) Q) : ∃ p, o = some p ∧ ∀ H1 v, Ext H L H1 L → StR K H1 L Z S → Rp K H1 L Z v p → Q v H1 := by
  cases o with
  | none => exact (show False from h).elim
  | some p => exact ⟨p, rfl, fun H1 v e s r => h H1 L v e s (.p r)⟩
theorem post_ok {β γ : Type} {rel : Hp → List Addr → γ → β → Prop} {b : β} {Q : γ → Hp → Prop} (h : Post K H L Z W rel (.ok b S) Q) {v : γ} (s : StR K H L Z S) (r : rel H L v b) : Q v H := h H L v Ext.refl s r
end

/-! ### the context -/
def spD (K : PySem.W.Frag) (C : Nat → List D → Sto → R D) (cl : Nat → Value) (i : Nat) : Sp := fun vs H Q E =>
  ∃ L Z S ds, StR K H L Z S ∧ RDL K H L Z vs ds ∧ Post K H L Z (wE cl E) (relD K Z) (C i ds S) Q
def bltNames : List Str := ["len", "repr", "all", "any", "max", "min", "sum", "list", "tuple", "int", "abs", "sorted", "isinstance", "range", "bool", "str", "dict", "enumerate", "zip", "reversed"]
structure Good (X : Cx) (C : Nat → List D → Sto → R D) (cl : Nat → Value) (n : Nat) (c : Ck) (wx : WX) : Prop where
  calm : X.calm = true
  ww : WW.w = X.w
  nd : X.N.Nodup
  names : X.N = c.N
  scope : X.env.scope = c.sc
  fnc : X.fn = c.fnc
  tk : Takes X wx
  gd : X.A.guards = some []
  room : Room n X.A
  sys : ∃ o, X.base.get? sysModules = some o
  nob : ∀ x ∈ bltNames, X.mg x = none
  cst : ∀ x p, c.G.consts.lookup x = some p → ∃ v u, X.mg x = some u ∧ RelV v u ∧ ∀ H L Z, Rp X.K H L Z v p
  kfun : c.sc.kind = .function
  kwc : ∀ t ∈ c.G.kwc, ∀ x, c.G.fns[t.1]? = some x → ∃ f fd ps, X.mg x = some (.ref f) ∧ PySem.W.keepIn X.K (.ref f) = true ∧ KwB X.K fd ps t.2.1 t.2.2 ∧ FnG X.prog X.w X.K X.mg X.base n f fd ps (spD X.K C cl t.1)
  imp : ∀ f : Blt, isMB f = true → (c.G.imps.any fun y => strEq y (Str.ofString (idB f))) = true → X.mg (Str.ofString (idB f)) = some (vB f)
  mks : ∀ (k : Nat) (x : Str), c.G.cls[k]? = some x → ∃ (A : Addr) (B newId initId : String) (bm : List Value), cl k = .ref A ∧ X.mg x = some (.ref A) ∧ PySem.W.keepIn X.K (.ref A) = true ∧ ExcBaseFacts B newId initId bm ∧ PySem.W.excIn X.K A bm newId = true ∧
    PySem.W.subIn X.K (.ref A) (.type "BaseException") = some true ∧ PySem.W.typeIn X.K (.ref A) = some (.type "type")
  fns : ∀ i x, c.G.fns[i]? = some x → ∃ f fd ps, X.mg x = some (.ref f) ∧ PySem.W.keepIn X.K (.ref f) = true ∧ Binds X.K fd ps [] ∧ FnG X.prog X.w X.K X.mg X.base n f fd ps (spD X.K C cl i)
section
variable {X : Cx} {C : Nat → List D → Sto → R D} {cl : Nat → Value} {n : Nat} {c : Ck} {wx : WX}
theorem Good.units (g : Good X C cl n c wx) : X.A.units + 65 < cLine := by have := g.room.un; omega
theorem Good.slot (g : Good X C cl n c wx) {i : Nat} {x : Str} (h : slotC c i x = true) : X.N[i]? = some x := by
  unfold slotC at h
  rw [g.names]
  split at h
  · rename_i y e
    rw [e, strEq_eq h]
  · cases h
theorem Good.vis (g : Good X C cl n c wx) {x : Str} (h : visC c x = true) : Vis X.env.scope x := by
  unfold visC at h
  rw [g.scope]
  unfold Vis
  split at h <;> first | (rename_i e; rw [e]; simp; done) | cases h
theorem Good.loc (g : Good X C cl n c wx) {x : Str} (h : locC c x = true) : L2.Loc X.env.scope x ∧ (X.fn x = true ∨ X.env.scope.names.lookup x = some .local) := by
  unfold locC at h
  rw [g.scope, g.fnc]
  unfold L2.Loc
  split at h
  · rename_i e; rw [e]; simp
  · rename_i e; rw [e]; simp [h]
  · cases h
theorem Good.lon (g : Good X C cl n c wx) {x : Str} (h : lonC c x = true) : X.env.scope.names.lookup x = some .local := by
  unfold lonC at h
  rw [g.scope]
  split at h
  · assumption
  · cases h
theorem Good.gl (g : Good X C cl n c wx) {x : Str} (h : glC c x = true) : Gl X x := by
  unfold glC at h
  show X.env.scope.names.lookup x = some .globalImplicit
  rw [g.scope]
  split at h
  · assumption
  · cases h
theorem Good.blt (g : Good X C cl n c wx) {x : Str} {s : String} (h : bltC c x s = true) : x = Str.ofString s ∧ Gl X x := by
  unfold bltC at h
  simp only [Bool.and_eq_true] at h
  exact ⟨strEq_eq h.1, g.gl h.2⟩
theorem ndC_eq {x : Str} (h : ndC x = true) : (x == ("__debug__" : Str)) = false ∧ (x == ("__classdict__" : Str)) = false := by
  unfold ndC at h
  simpa using h
theorem Good.pass (g : Good X C cl n c wx) (σ : L2.St) : PassesAt (L2.CX X.prog X.w) X σ (L2.WE wx σ) := passAt g.tk σ
end
end Mx
end

section
set_option Elab.async false
set_option linter.all false
set_option maxRecDepth 100000
set_option autoImplicit false
set_option maxHeartbeats 4000000
namespace Mx
open PySem L2 PySem.Spec PyProof.Rows
variable [WW]
section
variable {X : Cx} {C : Nat → List D → Sto → R D} {cl : Nat → Value} {n : Nat} {c : Ck} {wx : WX}
variable (X C cl wx)
abbrev tE (e : E) : TE := tG X.K cl wx relD (evE C e)
abbrev tT (e : E) : TT := tG X.K cl wx relB (evT C e)
abbrev tEs (e : Es) : TA := tG X.K cl wx relDs (evEs C e)
abbrev tEo (e : Eo) : TO := tG X.K cl wx relO (evEo C e)
abbrev tIf (e : Eo) : TT := tG X.K cl wx relB (evC C e)
variable {X C cl wx}
/-! ### a value as a test -/
theorem t_truth {e : E} {σ : L2.St} {H : Hp} {Q : Bool → Hp → Prop} (h : tT X C cl wx e σ H Q) : tE X C cl wx e σ H fun x H' => ∃ k, TruV X.K x H' k ∧ Q k H' := by
  obtain ⟨L, Z, S, env, at_, post⟩ := h
  refine ⟨L, Z, S, env, at_, post.bind fun d S1 H1 L1 v e1 s1 r1 q => ?_⟩
  cases ht : truth d S1 with
  | none => rw [ht] at q; exact (show False from q).elim
  | some b => rw [ht] at q; exact ⟨b, truth_ok s1 r1 ht, post_ok q s1 rfl⟩
theorem pt_of {x : Expr} {e : E} (h : PE X x (tE X C cl wx e)) (he : ∀ whole, isTrue x X.env whole = (do let v ← whole; standAt x.pos; holding [v] (truthy v))) : PT X x (tT X C cl wx e) :=
  (pt_truth h he).imp fun σ H Q q => t_truth q

/-! ### names, constants -/
theorem s_var (g : Good X C cl n c wx) {i : Nat} {x : Str} {pos : Pos} (h1 : slotC c i x = true) (h2 : visC c x = true) (h3 : ndC x = true) : PE X (.Name x pos) (tE X C cl wx (.var i)) :=
  (pe_var (g.slot h1) (g.vis h2) (ndC_eq h3).1 (ndC_eq h3).2).imp fun σ H Q q => by
    obtain ⟨L, Z, S, env, at_, post⟩ := q
    simp only [evE] at post
    cases hs : slotD env i with
    | none => rw [hs] at post; exact (show False from post).elim
    | some d =>
      rw [hs] at post
      have hd : env[i]? = some (some d) := by
        unfold slotD at hs
        split at hs
        · rename_i e; cases hs; exact e
        · cases hs
      obtain ⟨v, e1, r1⟩ := at_.env.at_ i d hd
      exact ⟨v, e1, post_ok post at_.st r1⟩
theorem s_lit {p : P} {k : Const} {kd : Option String} {j} {pos : Pos} (h : conC p k = true) : PE X (.Constant k j pos) (tE X C cl wx (.lit p)) := by
  have key : ∀ {v : V}, (∀ H L Z, Rp X.K H L Z v p) → PE X (.Constant k j pos) (tC v) → PE X (.Constant k j pos) (tE X C cl wx (.lit p)) := fun hv he => he.imp fun σ H Q q => by
    obtain ⟨L, Z, S, env, at_, post⟩ := q
    exact post_ok post at_.st (.p (hv H L Z))
  cases p with
  | non => cases k <;> first | exact key (fun _ _ _ => .non) pe_non | cases h
  | bl b =>
    cases k with
    | bool d =>
      have : b = d := by simpa [conC] using h
      subst this
      exact key (fun _ _ _ => .bl b) pe_bl
    | _ => cases h
  | int i =>
    cases k with
    | int d =>
      have : i = d := by simpa [conC] using h
      subst this
      exact key (fun _ _ _ => .int i) pe_int
    | _ => cases h
  | str z =>
    cases k with
    | str y =>
      have : y = T z := by
        simp only [conC, beq_iff_eq] at h
        subst h
        rfl
      subst this
      exact key (fun _ _ _ => .str z) pe_str
    | _ => cases h
  | _ => cases h
theorem s_glo (g : Good X C cl n c wx) {x : Str} {nm : List Nat} {p : P} {pos : Pos} (h1 : glC c x = true) (h2 : ndC x = true) (h3 : (match c.G.consts.lookup x with | some q => P.beq p q | none => false) = true) : PE X (.Name x pos) (tE X C cl wx (.glo nm p)) := by
  split at h3
  · rename_i q hq
    have := P.beq_eq h3
    subst this
    obtain ⟨v, u, hm, r, hv⟩ := g.cst x p hq
    refine (pe_glob (g.gl h1) hm r (ndC_eq h2).1).imp fun σ H Q q => ?_
    obtain ⟨L, Z, S, env, at_, post⟩ := q
    exact post_ok post at_.st (.p (hv H L Z))
  · cases h3

/-! ### operators -/
theorem s_bin {a b : Expr} {ea eb : E} {o : Bop} {pos : Pos} (ha : PE X a (tE X C cl wx ea)) (hb : PE X b (tE X C cl wx eb)) : PE X (.BinOp a (pyB o) b pos) (tE X C cl wx (.bin o ea eb)) :=
  (pe_op (op_b o) ha hb).imp fun σ H Q q => by
    obtain ⟨L, Z, S, env, at_, post⟩ := q
    refine ⟨L, Z, S, env, at_, post.bind fun x S1 H1 L1 v e1 s1 r1 q1 => ?_⟩
    refine ⟨L1, Z, S1, env, at_.later e1 s1, q1.bind fun y S2 H2 L2 u e2 s2 r2 q2 => ?_⟩
    obtain ⟨p, hp, q3⟩ := pu_post q2
    exact ⟨L2, Z, x, y, S2, p, s2, RD.ext e2 r1, r2, hp, q3⟩
theorem s_neg {a : Expr} {ea : E} {pos : Pos} (ha : PE X a (tE X C cl wx ea)) : PE X (.UnaryOp .USub a pos) (tE X C cl wx (.neg ea)) :=
  (pe_un un_neg ha).imp fun σ H Q q => by
    obtain ⟨L, Z, S, env, at_, post⟩ := q
    refine ⟨L, Z, S, env, at_, post.bind fun x S1 H1 L1 v e1 s1 r1 q1 => ?_⟩
    split at q1
    · cases r1.pI
      exact ⟨_, rfl, post_ok q1 s1 (.p (.int _))⟩
    · exact (show False from q1).elim
theorem s_cmpO (g : Good X C cl n c wx) {ea eb : E} {o : Cop} {σ : L2.St} {H : Hp} {Q : VK}
    (q : tE X C cl wx (.cmp o ea eb) σ H Q) : tOp (rC X.K o) (tE X C cl wx ea) (tE X C cl wx eb) σ H Q := by
  obtain ⟨L, Z, S, env, at_, post⟩ := q
  refine ⟨L, Z, S, env, at_, post.bind fun x S1 H1 L1 v e1 s1 r1 q1 => ?_⟩
  refine ⟨L1, Z, S1, env, at_.later e1 s1, ?_⟩
  refine q1.bind fun y S2 H2 L2 u e2 s2 r2 q2 => ?_
  obtain ⟨p, hp, q3⟩ := pu_post q2
  obtain ⟨k, hk, e3⟩ := Option.map_eq_some_iff.mp hp
  subst e3
  exact ⟨L2, Z, x, y, S2, k, s2, RD.ext e2 r1, r2, hk, q3 _ _ Ext.refl s2 (.bl k)⟩
theorem bindE {β β' γ γ' : Type} {K : PySem.W.Frag} {H : Hp} {L Z : List Addr} {W : Wsh} {rel : Hp → List Addr → γ → β → Prop} {rel' : Hp → List Addr → γ' → β' → Prop} {r : R β} {f : β → Sto → R β'} {Q : γ' → Hp → Prop} {Q' : γ → Hp → Prop} (h : Post K H L Z W rel' (r.bind f) Q)
    (k : ∀ b S1 H1 L1 v, r = .ok b S1 → Ext H L H1 L1 → StR K H1 L1 Z S1 → rel H1 L1 v b → Post K H1 L1 Z W rel' (f b S1) Q → Q' v H1) : Post K H L Z W rel r Q' := by
  cases r with
  | stuck => exact h
  | ok b S => exact fun H2 L2 v e2 s r => k b S H2 L2 v rfl e2 s r (Post.later (r := f b S) h e2)
  | exc c fs S => exact h
def IsBl (e : E) (C : Nat → List D → Sto → R D) : Prop := ∀ env S d S1, evE C e env S = .ok d S1 → ∃ k, d = .p (.bl k)
theorem pu_ok {o : Option P} {S S1 : Sto} {d : D} (h : pu o S = .ok d S1) : ∃ p, o = some p ∧ d = .p p ∧ S1 = S := by
  cases o with
  | none => cases h
  | some p => cases h; exact ⟨p, rfl, rfl, rfl⟩
theorem bind_ok {β γ : Type} {r : R β} {f : β → Sto → R γ} {y : γ} {S1 : Sto} (h : r.bind f = .ok y S1) : ∃ b S, r = .ok b S ∧ f b S = .ok y S1 := by
  cases r with
  | stuck => cases h
  | ok b S => exact ⟨b, S, rfl, h⟩
  | exc c fs S => cases h
theorem t_bl {e : E} (hb : IsBl e C) {σ : L2.St} {H : Hp} {Q : Bool → Hp → Prop} (h : tT X C cl wx e σ H Q) : tE X C cl wx e σ H fun x H' => ∃ k, x = .bl k ∧ Q k H' := by
  obtain ⟨L, Z, S, env, at_, post⟩ := h
  refine ⟨L, Z, S, env, at_, bindE post fun d S1 H1 L1 v he e1 s1 r1 q => ?_⟩
  obtain ⟨k, rfl⟩ := hb _ _ _ _ he
  cases r1.pI
  exact ⟨k, rfl, post_ok q s1 rfl⟩
theorem bl_cmp (o : Cop) (a b : E) : IsBl (.cmp o a b) C := by
  intro env S d S1 h
  simp only [evE] at h
  obtain ⟨x, S2, _, h⟩ := bind_ok h
  obtain ⟨y, S3, _, h⟩ := bind_ok h
  obtain ⟨p, hp, rfl, _⟩ := pu_ok h
  obtain ⟨k, _, rfl⟩ := Option.map_eq_some_iff.mp hp
  exact ⟨k, rfl⟩
theorem bl_chn (o o' : Cop) (a b d : E) : IsBl (.chn o o' a b d) C := by
  intro env S d S1 h
  simp only [evE] at h
  obtain ⟨x, S2, _, h⟩ := bind_ok h
  obtain ⟨y, S3, _, h⟩ := bind_ok h
  split at h
  · obtain ⟨z, S4, _, h⟩ := bind_ok h
    obtain ⟨p, hp, rfl, _⟩ := pu_ok h
    obtain ⟨k, _, rfl⟩ := Option.map_eq_some_iff.mp hp
    exact ⟨k, rfl⟩
  · cases h; exact ⟨false, rfl⟩
  · cases h
theorem s_cmp (g : Good X C cl n c wx) {a b : Expr} {ea eb : E} {o : Cop} {pos : Pos} (hm : behindInMarks (pyC o) b = false) (ha : PE X a (tE X C cl wx ea)) (hb : PE X b (tE X C cl wx eb)) :
    PE X (.Compare a [pyC o] [b] pos) (tE X C cl wx (.cmp o ea eb)) ∧ PT X (.Compare a [pyC o] [b] pos) (tT X C cl wx (.cmp o ea eb)) :=
  ⟨(pe_cmpR (op_c g.units g.ww o) ha hb hm).imp fun σ H Q q => s_cmpO g q, (pt_cmpR (op_c g.units g.ww o) ha hb hm).imp fun σ H Q q => s_cmpO g (t_bl (bl_cmp _ _ _) q)⟩
theorem s_chnO (g : Good X C cl n c wx) {ea eb ed : E} {o o' : Cop} {σ : L2.St} {H : Hp} {Q : VK}
    (q : tE X C cl wx (.chn o o' ea eb ed) σ H Q) : tChain (rC X.K o) (rC X.K o') (tE X C cl wx ea) (tE X C cl wx eb) (tE X C cl wx ed) σ H Q := by
  obtain ⟨L, Z, S, env, at_, post⟩ := q
  refine ⟨L, Z, S, env, at_, post.bind fun x S1 H1 L1 v e1 s1 r1 q1 => ?_⟩
  refine ⟨L1, Z, S1, env, at_.later e1 s1, q1.bind fun y S2 H2 L2 u e2 s2 r2 q2 => ?_⟩
  have a2 : At X.K H2 L2 Z S2 σ env := (at_.later e1 s1).later e2 s2
  split at q2
  · rename_i hk
    refine ⟨L2, Z, x, y, S2, true, s2, RD.ext e2 r1, r2, hk, true, rfl, ?_⟩
    rw [if_pos rfl]
    refine ⟨L2, Z, S2, env, a2, q2.bind fun z S3 H3 L3 w e3 s3 r3 q3 => ?_⟩
    obtain ⟨p, hp, q4⟩ := pu_post q3
    obtain ⟨k, hk, e4⟩ := Option.map_eq_some_iff.mp hp
    subst e4
    exact ⟨L3, Z, y, z, S3, k, s3, RD.ext e3 r2, r3, hk, q4 _ _ Ext.refl s3 (.bl k)⟩
  · rename_i hk
    refine ⟨L2, Z, x, y, S2, false, s2, RD.ext e2 r1, r2, hk, false, rfl, ?_⟩
    rw [if_neg Bool.false_ne_true]
    exact post_ok q2 s2 (.p (.bl false))
  · exact (show False from q2).elim
theorem s_chn (g : Good X C cl n c wx) {a b d : Expr} {ea eb ed : E} {o o' : Cop} {pos : Pos} (hm : behindInMarks (pyC o') d = false) (h1 : noIs o = true) (h2 : noIs o' = true)
    (ha : PE X a (tE X C cl wx ea)) (hb : PE X b (tE X C cl wx eb)) (hd : PE X d (tE X C cl wx ed)) :
    PE X (.Compare a [pyC o, pyC o'] [b, d] pos) (tE X C cl wx (.chn o o' ea eb ed)) ∧ PT X (.Compare a [pyC o, pyC o'] [b, d] pos) (tT X C cl wx (.chn o o' ea eb ed)) :=
  ⟨(pe_chain (op_c g.units g.ww o) (op_c g.units g.ww o') ha hb hd hm).imp fun σ H Q q => s_chnO g q, (pt_chain (op_c g.units g.ww o) (op_c g.units g.ww o') ha hb hd hm).imp fun σ H Q q => s_chnO g (t_bl (bl_chn _ _ _ _ _) q)⟩

/-! ### and, or, not, a if t else b -/
theorem s_andV {ea eb : E} {σ : L2.St} {H : Hp} {Q : VK} (q : tE X C cl wx (.andE ea eb) σ H Q) : tAndT X.K (tE X C cl wx ea) (tE X C cl wx eb) σ H Q := by
  obtain ⟨L, Z, S, env, at_, post⟩ := q
  refine ⟨L, Z, S, env, at_, post.bind fun x S1 H1 L1 v e1 s1 r1 q1 => ?_⟩
  split at q1
  · rename_i hk
    refine ⟨true, truth_ok s1 r1 hk, ?_⟩
    rw [if_pos rfl]
    exact ⟨L1, Z, S1, env, at_.later e1 s1, q1⟩
  · rename_i hk
    refine ⟨false, truth_ok s1 r1 hk, ?_⟩
    rw [if_neg Bool.false_ne_true]
    exact post_ok q1 s1 r1
  · exact (show False from q1).elim
theorem s_orV {ea eb : E} {σ : L2.St} {H : Hp} {Q : VK} (q : tE X C cl wx (.orE ea eb) σ H Q) : tOrT X.K (tE X C cl wx ea) (tE X C cl wx eb) σ H Q := by
  obtain ⟨L, Z, S, env, at_, post⟩ := q
  refine ⟨L, Z, S, env, at_, post.bind fun x S1 H1 L1 v e1 s1 r1 q1 => ?_⟩
  split at q1
  · rename_i hk
    refine ⟨true, truth_ok s1 r1 hk, ?_⟩
    rw [if_pos rfl]
    exact post_ok q1 s1 r1
  · rename_i hk
    refine ⟨false, truth_ok s1 r1 hk, ?_⟩
    rw [if_neg Bool.false_ne_true]
    exact ⟨L1, Z, S1, env, at_.later e1 s1, q1⟩
  · exact (show False from q1).elim
theorem bind_assoc {α β γ : Type} (r : R α) (f : α → Sto → R β) (g : β → Sto → R γ) : (r.bind f).bind g = r.bind fun a S => (f a S).bind g := by
  cases r <;> rfl
theorem evT_and (ea eb : E) (env : Env) (S : Sto) : evT C (.andE ea eb) env S = (evT C ea env S).bind fun b S1 => if b then evT C eb env S1 else .ok false S1 := by
  unfold evT
  simp only [evE, bind_assoc]
  congr 1
  funext x S1
  cases h : truth x S1 with
  | none => rfl
  | some b =>
    cases b with
    | true => rfl
    | false =>
      show (match truth x S1 with | some b => R.ok b S1 | none => .stuck) = _
      rw [h]
      rfl
theorem evT_or (ea eb : E) (env : Env) (S : Sto) : evT C (.orE ea eb) env S = (evT C ea env S).bind fun b S1 => if b then .ok true S1 else evT C eb env S1 := by
  unfold evT
  simp only [evE, bind_assoc]
  congr 1
  funext x S1
  cases h : truth x S1 with
  | none => rfl
  | some b =>
    cases b with
    | false => rfl
    | true =>
      show (match truth x S1 with | some b => R.ok b S1 | none => .stuck) = _
      rw [h]
      rfl
theorem evT_not (ea : E) (env : Env) (S : Sto) : evT C (.notE ea) env S = (evT C ea env S).bind fun b S1 => .ok (!b) S1 := by
  unfold evT
  simp only [evE, bind_assoc]
  congr 1
  funext x S1
  cases h : truth x S1 <;> rfl
theorem evT_ite (ec ea eb : E) (env : Env) (S : Sto) : evT C (.ite ec ea eb) env S = (evT C ec env S).bind fun b S1 => if b then evT C ea env S1 else evT C eb env S1 := by
  unfold evT
  simp only [evE, bind_assoc]
  congr 1
  funext x S1
  cases h : truth x S1 with
  | none => rfl
  | some b => cases b <;> rfl
theorem s_andT {ea eb : E} {σ : L2.St} {H : Hp} {Q : Bool → Hp → Prop} (q : tT X C cl wx (.andE ea eb) σ H Q) : tAnd (tT X C cl wx ea) (tT X C cl wx eb) σ H Q := by
  obtain ⟨L, Z, S, env, at_, post⟩ := q
  rw [evT_and] at post
  refine ⟨L, Z, S, env, at_, post.bind fun x S1 H1 L1 v e1 s1 r1 q1 => ?_⟩
  cases (show v = x from r1)
  cases x with
  | true => exact ⟨L1, Z, S1, env, at_.later e1 s1, q1⟩
  | false => exact post_ok q1 s1 rfl
theorem s_orT {ea eb : E} {σ : L2.St} {H : Hp} {Q : Bool → Hp → Prop} (q : tT X C cl wx (.orE ea eb) σ H Q) : tOr (tT X C cl wx ea) (tT X C cl wx eb) σ H Q := by
  obtain ⟨L, Z, S, env, at_, post⟩ := q
  rw [evT_or] at post
  refine ⟨L, Z, S, env, at_, post.bind fun x S1 H1 L1 v e1 s1 r1 q1 => ?_⟩
  cases (show v = x from r1)
  cases x with
  | false => exact ⟨L1, Z, S1, env, at_.later e1 s1, q1⟩
  | true => exact post_ok q1 s1 rfl
theorem s_not {a : Expr} {ea : E} {pos : Pos} (ha : PE X a (tE X C cl wx ea)) (ht : PT X a (tT X C cl wx ea)) : PE X (.UnaryOp .Not a pos) (tE X C cl wx (.notE ea)) ∧ PT X (.UnaryOp .Not a pos) (tT X C cl wx (.notE ea)) := by
  refine ⟨(pe_notT ha).imp fun σ H Q q => ?_, (pt_not ht).imp fun σ H Q q => ?_⟩
  · obtain ⟨L, Z, S, env, at_, post⟩ := q
    refine ⟨L, Z, S, env, at_, post.bind fun x S1 H1 L1 v e1 s1 r1 q1 => ?_⟩
    split at q1
    · rename_i hk
      exact ⟨_, truth_ok s1 r1 hk, post_ok q1 s1 (.p (.bl _))⟩
    · exact (show False from q1).elim
  · obtain ⟨L, Z, S, env, at_, post⟩ := q
    rw [evT_not] at post
    refine ⟨L, Z, S, env, at_, post.bind fun x S1 H1 L1 v e1 s1 r1 q1 => ?_⟩
    cases (show v = x from r1)
    exact post_ok q1 s1 rfl
theorem pt_iff {x y z : Expr} {tA tB tD : TT} {pos : Pos} (hc : PT X x tA) (ha : PT X y tB) (hb : PT X z tD) : PT X (.IfExp x y z pos) (fun σ H Q => tA σ H fun k H1 => if k = true then tB σ H1 Q else tD σ H1 Q) := by
  refine ⟨fun pins s σ H Q I h => ?_⟩
  unfold PySem.isTrue
  refine wpAny_bind (thn (hc.run pins s σ H _ I h) fun k s1 ⟨H1, I1, q1⟩ => ?_)
  cases k with
  | true => exact ha.run pins s1 σ H1 Q I1 q1
  | false => exact hb.run pins s1 σ H1 Q I1 q1
theorem s_ite {x y z : Expr} {ec ea eb : E} {pos : Pos} (hc : PT X x (tT X C cl wx ec)) (ha : PE X y (tE X C cl wx ea)) (ha' : PT X y (tT X C cl wx ea)) (hb : PE X z (tE X C cl wx eb)) (hb' : PT X z (tT X C cl wx eb)) :
    PE X (.IfExp x y z pos) (tE X C cl wx (.ite ec ea eb)) ∧ PT X (.IfExp x y z pos) (tT X C cl wx (.ite ec ea eb)) := by
  refine ⟨(pe_ifExp hc ha hb).imp fun σ H Q q => ?_, (pt_iff hc ha' hb').imp fun σ H Q q => ?_⟩
  · obtain ⟨L, Z, S, env, at_, post⟩ := q
    have e0 : evE C (.ite ec ea eb) env S = (evT C ec env S).bind fun b S1 => if b then evE C ea env S1 else evE C eb env S1 := by
      unfold evT
      simp only [evE, bind_assoc]
      congr 1
      funext x S1
      cases h : truth x S1 with
      | none => rfl
      | some b => cases b <;> rfl
    rw [e0] at post
    refine ⟨L, Z, S, env, at_, post.bind fun x S1 H1 L1 v e1 s1 r1 q1 => ?_⟩
    cases (show v = x from r1)
    cases x with
    | true => exact ⟨L1, Z, S1, env, at_.later e1 s1, q1⟩
    | false => exact ⟨L1, Z, S1, env, at_.later e1 s1, q1⟩
  · obtain ⟨L, Z, S, env, at_, post⟩ := q
    rw [evT_ite] at post
    refine ⟨L, Z, S, env, at_, post.bind fun x S1 H1 L1 v e1 s1 r1 q1 => ?_⟩
    cases (show v = x from r1)
    cases x with
    | true => exact ⟨L1, Z, S1, env, at_.later e1 s1, q1⟩
    | false => exact ⟨L1, Z, S1, env, at_.later e1 s1, q1⟩
end
end Mx
end

section
set_option Elab.async false
set_option linter.all false
set_option maxRecDepth 100000
set_option autoImplicit false
set_option maxHeartbeats 4000000
namespace Mx
open PySem L2 PySem.Spec PyProof.Rows
variable [WW]
section
variable {X : Cx} {C : Nat → List D → Sto → R D} {cl : Nat → Value} {n : Nat} {c : Ck} {wx : WX}
/-! ### argument lists -/
def notStar : Expr → Bool
  | .Starred .. => false
  | _ => true
theorem star1 {x : Expr} (h : notStar x = true) (xs : List Expr) (env : PySem.Env) : starEach (x :: xs) env = (false, eval x env) :: starEach xs env := by
  cases x <;> first | rfl | cases h
def esLen : Es → Nat
  | .nil => 0
  | .cons _ r => esLen r + 1
theorem ck_star (c : Ck) {a : Expr} {p : Pos} : (e : E) → ck c e (.ex (.Starred a p)) = true → False
  | .mk e, h => by
    simp only [ck, Bool.and_eq_true] at h
    exact ck_star c e h.2
  | .var _, h | .lit _, h | .glo _ _, h | .bin _ _ _, h | .neg _, h | .cmp _ _ _, h | .chn _ _ _ _ _, h | .andE _ _, h | .orE _ _, h | .notE _, h | .ite _ _ _, h | .tup _, h | .lst _, h | .dct _ _, h
  | .idx _ _, h | .slc _ _ _, h | .rev _, h | .isi _ _, h | .call _ _, h | .callK _ _ _, h | .blt _ _, h | .mth _ _ _, h | .newT, h | .getT _ _ _, h | .idxT _ _, h | .comp _ _ _ _ _, h | .comp2 _ _ _ _ _ _ _ _ _, h | .comp3 _ _ _ _ _ _ _ _ _ _, h | .lrng _ _, h | .lzip _ _, h | .newN, h => by simp [ck] at h
theorem ck_notStar {e : E} {x : Expr} (h : ck c e (.ex x) = true) : notStar x = true := by
  cases x <;> first | rfl | exact (ck_star c e h).elim
theorem ckEs_len {es : Es} {xs : List Expr} (h : ckEs c es xs = true) : esLen es = xs.length := by
  induction xs generalizing es with
  | nil => cases es with
    | nil => rfl
    | cons e r => cases h
  | cons x xs ih => cases es with
    | nil => cases h
    | cons e r =>
      simp only [ckEs, Bool.and_eq_true] at h
      simp [esLen, ih h.2]
theorem ckEs_star {es : Es} {xs : List Expr} (h : ckEs c es xs = true) : xs.all notStar = true := by
  induction xs generalizing es with
  | nil => rfl
  | cons x xs ih => cases es with
    | nil => cases h
    | cons e r =>
      simp only [ckEs, Bool.and_eq_true] at h
      simp [ck_notStar h.1, ih h.2]
theorem star_all {xs : List Expr} {env : PySem.Env} {pos : Pos} (h : xs.all notStar = true) : (backTo pos (starEach xs env)).any (·.1) = false := by
  induction xs with
  | nil => rfl
  | cons x xs ih =>
    simp only [List.all_cons, Bool.and_eq_true] at h
    rw [star1 h.1]
    show (false || (backTo pos (starEach xs env)).any (·.1)) = false
    rw [ih h.2]; rfl
theorem evEs_len : ∀ {es : Es} {env : Env} {S S1 : Sto} {ds : List D}, evEs C es env S = .ok ds S1 → ds.length = esLen es
  | .nil, _, _, _, _, h => by simp only [evEs] at h; cases h; rfl
  | .cons e r, env, S, S1, ds, h => by
    simp only [evEs] at h
    obtain ⟨d, S2, _, h⟩ := bind_ok h
    obtain ⟨ds', S3, h2, h⟩ := bind_ok h
    cases h
    simp [esLen, evEs_len h2]
theorem s_nil : PA X [] (tEs X C cl wx .nil) := pa_nil.imp fun σ H Q q => by
  obtain ⟨L, Z, S, env, at_, post⟩ := q
  simp only [evEs] at post
  exact post_ok post at_.st .nil
theorem s_cons {x : Expr} {xs : List Expr} {e : E} {es : Es} (hs : notStar x = true) (hx : PE X x (tE X C cl wx e)) (hr : PA X xs (tEs X C cl wx es)) : PA X (x :: xs) (tEs X C cl wx (.cons e es)) :=
  (pa_cons hx hr (star1 hs xs X.env)).imp fun σ H Q q => by
    obtain ⟨L, Z, S, env, at_, post⟩ := q
    simp only [evEs] at post
    refine ⟨L, Z, S, env, at_, post.bind fun x S1 H1 L1 v e1 s1 r1 q1 => ?_⟩
    refine ⟨L1, Z, S1, env, at_.later e1 s1, q1.bind fun y S2 H2 L2 u e2 s2 r2 q2 => ?_⟩
    exact post_ok q2 s2 (.cons (RD.ext e2 r1) r2)

theorem s_kcons {y : Str} {x : Expr} {q : Pos} {kws : List Keyword} {e : E} {es : Es} (hx : PE X x (tE X C cl wx e)) (hr : PK X kws (tEs X C cl wx es)) : PK X (⟨some y, x, q⟩ :: kws) (tEs X C cl wx (.cons e es)) := by
  have h := pk_cons (nm := some y) (kpos := q) hx hr
  refine ⟨fun pos pins s σ H Q I q0 => h.run pos pins s σ H Q I ?_⟩
  obtain ⟨L, Z, S, env, at_, post⟩ := q0
  simp only [evEs] at post
  refine ⟨L, Z, S, env, at_, post.bind fun x S1 H1 L1 v e1 s1 r1 q1 => ?_⟩
  refine ⟨L1, Z, S1, env, at_.later e1 s1, q1.bind fun y S2 H2 L2 u e2 s2 r2 q2 => ?_⟩
  exact post_ok q2 s2 (.cons (RD.ext e2 r1) r2)
theorem s_knil : PK X [] (tEs X C cl wx .nil) := by
  have h := pk_nil (X := X)
  refine ⟨fun pos pins s σ H Q I q0 => h.run pos pins s σ H Q I ?_⟩
  obtain ⟨L, Z, S, env, at_, post⟩ := q0
  simp only [evEs] at post
  exact post_ok post at_.st .nil
/-! ### displays -/
theorem mkTup_new {K : PySem.W.Frag} {H : Hp} {L Z : List Addr} {S : Sto} (s : StR K H L Z S) {vs : List V} {ds : List D} (r : RDL K H L Z vs ds) {p : Addr} {o : Obj} (h : H p = none) (hd : o.dict = none) :
    Ext H L (upd H p (.frz o (.tup vs))) L ∧ StR K (upd H p (.frz o (.tup vs))) L Z S ∧ RD K (upd H p (.frz o (.tup vs))) L Z (.ref p) (mkTup ds) := by
  unfold mkTup
  split
  · rename_i ps e
    obtain ⟨a, b, d⟩ := new_tup s (r.allP e) h hd
    exact ⟨a, b, .p d⟩
  · exact ⟨Ext.new_ h, s.laid h, .tup (.inr ⟨_, upd_same⟩) (s.out h) (RDL.ext (Ext.new_ h) r)⟩
theorem s_tup {xs : List Expr} {es : Es} {k : Nat} {pos : Pos} (hl : xs.length ≤ 30) (hc : ckEs c es xs = true) (h : PA X xs (tEs X C cl wx es)) : PE X (.Tuple xs k pos) (tE X C cl wx (.tup es)) :=
  (pe_tupF h).imp fun σ H Q q => by
    obtain ⟨L, Z, S, env, at_, post⟩ := q
    refine ⟨L, Z, S, env, at_, bindE post fun ds S1 H1 L1 vs he e1 s1 r1 q1 => ?_⟩
    have hlen : vs.length ≤ 30 := by
      rw [show vs.length = ds.length from RDL.len r1, evEs_len he, ckEs_len hc]; exact hl
    refine ⟨le_line (by unfold LIM; omega), fun p o hp hd => ?_⟩
    obtain ⟨a, b, d⟩ := mkTup_new s1 (show RDL X.K H1 L1 Z vs ds from r1) hp hd
    exact q1 _ _ _ a b d
theorem s_lst {xs : List Expr} {es : Es} {pos : Pos} (hl : xs.length ≤ 100) (hc : ckEs c es xs = true) (h : PA X xs (tEs X C cl wx es)) : PE X (.List xs pos) (tE X C cl wx (.lst es)) :=
  (pe_lst h).imp fun σ H Q q => by
    obtain ⟨L, Z, S, env, at_, post⟩ := q
    refine ⟨L, Z, S, env, at_, bindE post fun ds S1 H1 L1 vs he e1 s1 r1 q1 => ?_⟩
    have hlen : vs.length ≤ 100 := by
      rw [show vs.length = ds.length from RDL.len r1, evEs_len he, ckEs_len hc]; exact hl
    refine ⟨le_line (by unfold LIM; omega), fun p hp => ?_⟩
    split at q1
    · rename_i ps e
      obtain ⟨a, b, d⟩ := new_lst s1 ((show RDL X.K H1 L1 Z vs ds from r1).allP e) hp
      exact q1 _ _ _ a b (.p d)
    · exact (show False from q1).elim
/-- a new list that may be written -/
theorem newM {K : PySem.W.Frag} {H : Hp} {L Z : List Addr} {S : Sto} (s : StR K H L Z S) {vs : List V} {ps : List P} (r : RpL K H L Z vs ps) {p : Addr} (h : H p = none) :
    Ext H L (upd H p (.lst vs)) (L ++ [p]) ∧ StR K (upd H p (.lst vs)) (L ++ [p]) Z (S ++ [.lst ps]) ∧ RD K (upd H p (.lst vs)) (L ++ [p]) Z (.ref p) (.mu S.length) := by
  have e := Ext.newM (H := H) (L := L) (o := .lst vs) h
  refine ⟨e, s.laidM h ⟨vs, upd_same, r.ext e⟩, .mu ?_⟩
  rw [← s.len, List.getElem?_append_right (Nat.le_refl _)]
  simp
theorem s_mkLst {xs : List Expr} {es : Es} {pos : Pos} (hl : xs.length ≤ 100) (hc : ckEs c es xs = true) (h : PA X xs (tEs X C cl wx es)) : PE X (.List xs pos) (tE X C cl wx (.mk (.lst es))) :=
  (pe_lst h).imp fun σ H Q q => by
    obtain ⟨L, Z, S, env, at_, post⟩ := q
    simp only [evE, bind_assoc] at post
    refine ⟨L, Z, S, env, at_, bindE post fun ds S1 H1 L1 vs he e1 s1 r1 q1 => ?_⟩
    have hlen : vs.length ≤ 100 := by
      rw [show vs.length = ds.length from RDL.len r1, evEs_len he, ckEs_len hc]; exact hl
    refine ⟨le_line (by unfold LIM; omega), fun p hp => ?_⟩
    cases ha : allP ds with
    | none => rw [ha] at q1; exact (show False from q1).elim
    | some ps =>
      rw [ha] at q1
      obtain ⟨a, b, d⟩ := newM s1 ((show RDL X.K H1 L1 Z vs ds from r1).allP ha) hp
      exact q1 _ _ _ a b d
/-- list + list, list * int: a new list -/
def rBF (K : PySem.W.Frag) (o : Bop) : R2 := fun x y H Q => ∃ L Z a b S ps, StR K H L Z S ∧ RD K H L Z x a ∧ RD K H L Z y b ∧ binop o a b S = some (.lst ps) ∧ (o = .add ∨ o = .mul) ∧
  ∀ vs p, H p = none → RpL K H L Z vs ps → Q (.ref p) (upd H p (.lst vs))
theorem op_bF (o : Bop) : OpR X (binaryOp (pyB o)) (rBF X.K o) := by
  intro pins s σ H x y v u Q I rx ry h
  obtain ⟨L, Z, a, b, S, ps, st, ha, hb, e, ho, q⟩ := h
  rcases ho with rfl | rfl
  · simp only [binop] at e
    split at e
    · cases e
    · split at e <;> cases e
    · split at e <;> cases e
    · split at e
      · rename_i ys eb
        split at e
        · cases e
          exact b_scr I rx ry st ha hb eb ‹_› fun vs p hp r => q vs p hp r
        · cases e
      · cases e
    · split at e
      · rename_i xs ys ea eb
        split at e
        · cases e
          rename_i hl
          obtain ⟨l1, vs, rfl, e1, r1⟩ := asList_ok st ha ea
          obtain ⟨l2, us, rfl, e2, r2⟩ := asList_ok st hb eb
          exact op_cat pins s σ H _ _ v u Q I rx ry ⟨l1, l2, vs, us, rfl, rfl, e1, e2, le_line (by rw [r1.len, r2.len]; exact hl), fun p hp => q _ p hp (r1.app r2)⟩
        · cases e
      · cases e
  · simp only [binop] at e
    split at e
    · split at e <;> cases e
    · split at e <;> cases e
    · cases hb.pI
      split at e
      · rename_i xs ea
        split at e
        · cases e
          rename_i hc
          simp only [Bool.and_eq_true, decide_eq_true_eq] at hc
          obtain ⟨l1, vs, rfl, e1, r1⟩ := asList_ok st ha ea
          exact op_rep pins s σ H _ _ v u Q I rx ry ⟨l1, _, vs, rfl, rfl, e1, hc.1.1, hc.1.2, le_line (by rw [r1.len]; exact hc.2), fun p hp => q _ p hp (r1.rep _)⟩
        · cases e
      · cases e
    · cases e
theorem s_mkBin {a b : Expr} {ea eb : E} {o : Bop} {pos : Pos} (ho : o = .add ∨ o = .mul) (ha : PE X a (tE X C cl wx ea)) (hb : PE X b (tE X C cl wx eb)) : PE X (.BinOp a (pyB o) b pos) (tE X C cl wx (.mk (.bin o ea eb))) :=
  (pe_op (op_bF o) ha hb).imp fun σ H Q q => by
    obtain ⟨L, Z, S, env, at_, post⟩ := q
    simp only [evE, bind_assoc] at post
    refine ⟨L, Z, S, env, at_, post.bind fun x S1 H1 L1 v e1 s1 r1 q1 => ?_⟩
    refine ⟨L1, Z, S1, env, at_.later e1 s1, q1.bind fun y S2 H2 L2 u e2 s2 r2 q2 => ?_⟩
    cases hp : binop o x y S2 with
    | none => rw [hp] at q2; exact (show False from q2).elim
    | some p =>
      rw [hp] at q2
      cases p with
      | lst ps =>
        refine ⟨L2, Z, x, y, S2, ps, s2, RD.ext e2 r1, r2, hp, ho, fun vs a na rp => ?_⟩
        obtain ⟨f1, f2, f3⟩ := newM s2 rp na
        exact q2 _ _ _ f1 f2 f3
      | dct ks ps =>
        -- no dict comes of these
        exfalso
        rcases ho with rfl | rfl
        · simp only [binop] at hp
          split at hp
          · cases hp
          · split at hp <;> cases hp
          · split at hp <;> cases hp
          · split at hp
            · split at hp <;> cases hp
            · cases hp
          · split at hp
            · split at hp <;> cases hp
            · cases hp
        · simp only [binop] at hp
          split at hp
          · split at hp <;> cases hp
          · split at hp <;> cases hp
          · split at hp
            · split at hp <;> cases hp
            · cases hp
          · cases hp
      | _ => exact (show False from q2).elim
end
end Mx
end

section
set_option Elab.async false
set_option linter.all false
set_option maxRecDepth 100000
set_option autoImplicit false
set_option maxHeartbeats 4000000
namespace Mx
open PySem L2 PySem.Spec PyProof.Rows
variable [WW]

/-! ### one object kept apart -/
section
variable {K : PySem.W.Frag} {H H1 H2 : Hp} {L L1 Z : List Addr} {q : Addr}
theorem ne_none {a : Addr} {o : HO} (h : H q = none) (e : H a = some o) : a ≠ q := fun z => by rw [z, h] at e; cases e
theorem rd_ne {a : Addr} {u : HO} (h : H q = none) (e : Rd H a u) : a ≠ q := by
  rcases e with e | ⟨o, e⟩
  · exact ne_none h e
  · exact ne_none h e
theorem out_cons {a : Addr} (h : a ≠ q) (n : Out L Z a) : Out L (q :: Z) a := ⟨n.1, fun m => (List.mem_cons.mp m).elim h n.2⟩
mutual
theorem Rp.aprt (h : H q = none) : ∀ {v : V} {p : P}, Rp K H L Z v p → Rp K H L (q :: Z) v p
  | _, _, .non => .non
  | _, _, .bl b => .bl b
  | _, _, .int i => .int i
  | _, _, .str x => .str x
  | _, _, .rep p => .rep p
  | _, _, .tup e d n r => .tup e d (out_cons (ne_none h e) n) (RpL.aprt h r)
  | _, _, .tupK e k r => .tupK e k (RpL.aprt h r)
  | _, _, .lst e n r => .lst e (out_cons (ne_none h e) n) (RpL.aprt h r)
  | _, _, .dct e n k r => .dct e (out_cons (ne_none h e) n) k (RpL.aprt h r)
theorem RpL.aprt (h : H q = none) : ∀ {vs : List V} {ps : List P}, RpL K H L Z vs ps → RpL K H L (q :: Z) vs ps
  | _, _, .nil => .nil
  | _, _, .cons x r => .cons (Rp.aprt h x) (RpL.aprt h r)
end
mutual
theorem RD.aprt (h : H q = none) : ∀ {v : V} {d : D}, RD K H L Z v d → RD K H L (q :: Z) v d
  | _, _, .p x => .p (x.aprt h)
  | _, _, .mu e => .mu e
  | _, _, .tup e n r => .tup e (out_cons (rd_ne h e) n) (RDL.aprt h r)
  | _, _, .dct e n k r => .dct e (out_cons (ne_none h e) n) k (RDL.aprt h r)
  | _, _, .scr e n => .scr e (out_cons (rd_ne h e) n)
  | _, _, .scrK e => .scrK e
theorem RDL.aprt (h : H q = none) : ∀ {vs : List V} {ds : List D}, RDL K H L Z vs ds → RDL K H L (q :: Z) vs ds
  | _, _, .nil => .nil
  | _, _, .cons x r => .cons (RD.aprt h x) (RDL.aprt h r)
end
theorem out_ne {a : Addr} (h : q ∈ Z) (n : Out L Z a) : a ≠ q := fun e => n.2 (by rw [e]; exact h)
theorem rd_chg {a : Addr} {u : HO} (k : ∀ a, a ≠ q → H1 a = H a) (e : Rd H a u) (n : a ≠ q) : Rd H1 a u := by
  rcases e with e | ⟨o, e⟩
  · exact .inl ((k a n).trans e)
  · exact .inr ⟨o, (k a n).trans e⟩
mutual
theorem Rp.chg (h : q ∈ Z) (k : ∀ a, a ≠ q → H1 a = H a) : ∀ {v : V} {p : P}, Rp K H L Z v p → Rp K H1 L Z v p
  | _, _, .non => .non
  | _, _, .bl b => .bl b
  | _, _, .int i => .int i
  | _, _, .str x => .str x
  | _, _, .rep p => .rep p
  | _, _, .tup e d n r => .tup ((k _ (out_ne h n)).trans e) d n (RpL.chg h k r)
  | _, _, .tupK e kk r => .tupK e kk (RpL.chg h k r)
  | _, _, .lst e n r => .lst ((k _ (out_ne h n)).trans e) n (RpL.chg h k r)
  | _, _, .dct e n kk r => .dct ((k _ (out_ne h n)).trans e) n kk (RpL.chg h k r)
theorem RpL.chg (h : q ∈ Z) (k : ∀ a, a ≠ q → H1 a = H a) : ∀ {vs : List V} {ps : List P}, RpL K H L Z vs ps → RpL K H1 L Z vs ps
  | _, _, .nil => .nil
  | _, _, .cons x r => .cons (Rp.chg h k x) (RpL.chg h k r)
end
mutual
theorem RD.chg (h : q ∈ Z) (k : ∀ a, a ≠ q → H1 a = H a) : ∀ {v : V} {d : D}, RD K H L Z v d → RD K H1 L Z v d
  | _, _, .p x => .p (x.chg h k)
  | _, _, .mu e => .mu e
  | _, _, .tup e n r => .tup (rd_chg k e (out_ne h n)) n (RDL.chg h k r)
  | _, _, .dct e n kk r => .dct ((k _ (out_ne h n)).trans e) n kk (RDL.chg h k r)
  | _, _, .scr e n => .scr (rd_chg k e (out_ne h n)) n
  | _, _, .scrK e => .scrK e
theorem RDL.chg (h : q ∈ Z) (k : ∀ a, a ≠ q → H1 a = H a) : ∀ {vs : List V} {ds : List D}, RDL K H L Z vs ds → RDL K H1 L Z vs ds
  | _, _, .nil => .nil
  | _, _, .cons x r => .cons (RD.chg h k x) (RDL.chg h k r)
end
variable {S : Sto} {σ : L2.St} {env : Env}
theorem StR.opn (s : StR K H L Z S) (h : H q = none) (o : HO) : StR K (upd H q o) L (q :: Z) S := by
  have e := Ext.new_ (L := L) (o := o) h
  refine ⟨s.len, s.nd, fun a ha => ?_, fun k a u h1 h2 => ?_⟩
  · rcases List.mem_cons.mp ha with rfl | ha
    · rw [upd_same]; simp
    · exact e.dom a (s.zs a ha)
  · have hm := s.at_ k a u h1 h2
    have hne : a ≠ q := fun z => hm.there (by rw [z]; exact h)
    cases u with
    | lst ps => obtain ⟨vs, e1, r⟩ := hm; exact ⟨vs, (upd_ne hne).trans e1, (r.aprt h).ext e⟩
    | dK ks ps => obtain ⟨vs, e1, e2, r⟩ := hm; exact ⟨vs, (upd_ne hne).trans e1, e2, (r.aprt h).ext e⟩
    | dT ks ps => obtain ⟨vs, e1, e2, r⟩ := hm; exact ⟨vs, (upd_ne hne).trans e1, e2, (r.aprt h).ext e⟩
    | dN ks ps => obtain ⟨xs, vs, e1, e2, e3, r1, e4, r2⟩ := hm; exact ⟨xs, vs, (upd_ne hne).trans e1, e2, e3, (r1.aprt h).ext e, e4, (r2.aprt h).ext e⟩
theorem EnvR.opn (r : EnvR K H L Z σ env) (h : H q = none) (o : HO) : EnvR K (upd H q o) L (q :: Z) σ env :=
  ⟨r.len, fun i d hi => let ⟨v, h1, h2⟩ := r.at_ i d hi; ⟨v, h1, (h2.aprt h).ext (Ext.new_ h)⟩⟩
theorem At.opn (a : At K H L Z S σ env) (h : H q = none) (o : HO) : At K (upd H q o) L (q :: Z) S σ env := ⟨a.st.opn h o, a.env.opn h o⟩
theorem StR.chg (s : StR K H L Z S) (h : q ∈ Z) (hl : q ∉ L) (k : ∀ a, a ≠ q → H1 a = H a) (hq : H1 q ≠ none) : StR K H1 L Z S := by
  refine ⟨s.len, s.nd, fun a ha => ?_, fun i a u h1 h2 => ?_⟩
  · by_cases e : a = q
    · rw [e]; exact hq
    · rw [k a e]; exact s.zs a ha
  · have hm := s.at_ i a u h1 h2
    have hne : a ≠ q := fun z => hl (by rw [← z]; exact List.mem_of_getElem? h1)
    cases u with
    | lst ps => obtain ⟨vs, e1, r⟩ := hm; exact ⟨vs, (k a hne).trans e1, r.chg h k⟩
    | dK ks ps => obtain ⟨vs, e1, e2, r⟩ := hm; exact ⟨vs, (k a hne).trans e1, e2, r.chg h k⟩
    | dT ks ps => obtain ⟨vs, e1, e2, r⟩ := hm; exact ⟨vs, (k a hne).trans e1, e2, r.chg h k⟩
    | dN ks ps => obtain ⟨xs, vs, e1, e2, e3, r1, e4, r2⟩ := hm; exact ⟨xs, vs, (k a hne).trans e1, e2, e3, r1.chg h k, e4, r2.chg h k⟩
theorem EnvR.chg (r : EnvR K H L Z σ env) (h : q ∈ Z) (k : ∀ a, a ≠ q → H1 a = H a) : EnvR K H1 L Z σ env :=
  ⟨r.len, fun i d hi => let ⟨v, h1, h2⟩ := r.at_ i d hi; ⟨v, h1, h2.chg h k⟩⟩
theorem out_tl {a : Addr} (n : Out L (q :: Z) a) : Out L Z a := ⟨n.1, fun m => n.2 (List.mem_cons_of_mem _ m)⟩
theorem StR.shut (s : StR K H L (q :: Z) S) : StR K H L Z S :=
  ⟨s.len, s.nd, fun a ha => s.zs a (List.mem_cons_of_mem _ ha), fun k a o h1 h2 => (s.at_ k a o h1 h2).less fun _ n => out_tl n⟩
theorem EnvR.shut (r : EnvR K H L (q :: Z) σ env) : EnvR K H L Z σ env :=
  ⟨r.len, fun i d hi => let ⟨v, h1, h2⟩ := r.at_ i d hi; ⟨v, h1, h2.less (fun _ n => out_tl n) fun _ _ h => h⟩⟩
/-- what was new at the start may change -/
theorem Ext.aside (h : H q = none) (e : Ext H L H2 L1) (o : HO) : Ext H L (upd H2 q o) L1 where
  keep := fun a u ha hn => (upd_ne (ne_none h ha)).trans (e.keep a u ha hn)
  dom := fun a ha => by
    by_cases z : a = q
    · rw [z, upd_same]; simp
    · rw [upd_ne z]; exact e.dom a ha
  pre := e.pre
  new := e.new
theorem Ext.notIn (h : q ∉ L) (hq : H q ≠ none) (e : Ext H L H2 L1) : q ∉ L1 := fun m => (e.new q m).elim h hq
end

section
variable {X : Cx} {C : Nat → List D → Sto → R D} {cl : Nat → Value} {n : Nat} {c : Ck} {wx : WX}
variable (X C cl wx)
/-- expression by expression -/
inductive AE : List Expr → Es → Prop where
  | nil : AE [] .nil
  | cons {x : Expr} {xs : List Expr} {e : E} {es : Es} : notStar x = true → PE X x (tE X C cl wx e) → AE xs es → AE (x :: xs) (.cons e es)
variable {X C cl wx}
theorem AE.pa {xs : List Expr} {es : Es} (h : AE X C cl wx xs es) : PA X xs (tEs X C cl wx es) := by
  induction h with
  | nil => exact s_nil
  | cons h1 h2 _ ih => exact s_cons h1 h2 ih
theorem AE.len {xs : List Expr} {es : Es} (h : AE X C cl wx xs es) : esLen es = xs.length := by
  induction h with
  | nil => rfl
  | cons _ _ _ ih => simp [esLen, ih]
/-! ### dicts -/
variable (X C cl wx)
def trsOf : List DK → Es → List (TE × TE)
  | k :: ks, .cons e es => (tC (kV (kKey k)), tE X C cl wx e) :: trsOf ks es
  | _, _ => []
variable {X C cl wx}
theorem keyC_pe {k : DK} {x : Option Expr} (h : keyC k x = true) : ∃ y, x = some y ∧ PE X y (tC (kV (kKey k))) := by
  unfold keyC at h
  split at h
  · rename_i i j _ _
    have : i = j := by simpa using h
    subst this
    exact ⟨_, rfl, pe_int⟩
  · rename_i z y _ _
    have : y = T z := by
      simp only [beq_iff_eq] at h
      subst h
      rfl
    subst this
    exact ⟨_, rfl, pe_str⟩
  · cases h
theorem pps_of {pos : Pos} : ∀ {ks : List DK} {keys : List (Option Expr)} {vals : List Expr} {es : Es}, keysC ks keys = true → AE X C cl wx vals es → keys.length = vals.length → PPs X pos keys vals (trsOf X C cl wx ks es)
  | [], [], _, _, _, .nil, _ => pps_nil
  | [], [], _, _, _, .cons _ _ _, hl => by simp at hl
  | [], _ :: _, _, _, h, _, _ => by simp [keysC] at h
  | _ :: _, [], _, _, h, _, _ => by simp [keysC] at h
  | _ :: _, _ :: _, _, _, _, .nil, hl => by simp at hl
  | k :: ks, x :: keys, _, _, h, .cons h1 h2 h3, hl => by
    simp only [keysC, Bool.and_eq_true] at h
    obtain ⟨y, rfl, hy⟩ := keyC_pe (X := X) h.1
    exact pps_cons hy h2 (pps_of h.2 h3 (by simpa using hl))
theorem pairs_of : ∀ {ks : List DK} {es : Es} {σ : L2.St} {H : Hp} {Q : List (V × V) → Hp → Prop}, ks.length = esLen es →
    tEs X C cl wx es σ H (fun vs H' => Q (((ks.map kKey).zip vs).map fun kv => (kV kv.1, kv.2)) H') → tPairs (trsOf X C cl wx ks es) σ H Q
  | [], .nil, _, _, _, _, q => by
    obtain ⟨L, Z, S, env, at_, post⟩ := q
    simp only [evEs] at post
    exact post_ok post at_.st .nil
  | [], .cons _ _, _, _, _, h, _ => by simp [esLen] at h
  | _ :: _, .nil, _, _, _, h, _ => by simp [esLen] at h
  | k :: ks, .cons e es, σ, H, Q, h, q => by
    obtain ⟨L, Z, S, env, at_, post⟩ := q
    simp only [evEs] at post
    refine ⟨L, Z, S, env, at_, post.bind fun x S1 H1 L1 v e1 s1 r1 q1 => ?_⟩
    refine pairs_of (by simpa [esLen] using h) ⟨L1, Z, S1, env, at_.later e1 s1, q1.bind fun y S2 H2 L2 u e2 s2 r2 q2 => ?_⟩
    exact post_ok q2 s2 (.cons (RD.ext e2 r1) r2)
theorem mergeK_app : ∀ (more kvs : List (Key × V)), ((kvs ++ more).map (·.1)).Nodup → mergeK kvs more = kvs ++ more
  | [], kvs, _ => by simp [mergeK]
  | p :: r, kvs, h => by
    have hp : putK kvs p.1 p.2 = kvs ++ [p] := by
      unfold putK
      rw [if_neg]
      · intro z
        rw [List.any_eq_true] at z
        obtain ⟨x, hx, e⟩ := z
        have e' : x.1 = p.1 := by simpa using e
        rw [List.map_append, List.nodup_append] at h
        exact h.2.2 x.1 (List.mem_map_of_mem hx) p.1 (by simp) e'
    have := mergeK_app r (kvs ++ [p]) (by simpa using h)
    unfold mergeK at this ⊢
    rw [List.foldl_cons, hp, this]
    simp
theorem nodup_kKey {ks : List DK} (h : ks.Nodup) : (ks.map kKey).Nodup := by
  induction ks with
  | nil => simp
  | cons k ks ih =>
    rw [List.nodup_cons] at h
    rw [List.map_cons, List.nodup_cons]
    refine ⟨fun m => ?_, ih h.2⟩
    obtain ⟨j, hj, e⟩ := List.mem_map.mp m
    exact h.1 (by rw [← kKey_inj e]; exact hj)
theorem keysC_len (X : Cx) {ks : List DK} {keys : List (Option Expr)} (h : keysC ks keys = true) : ks.length = keys.length ∧ keys.all (·.isSome) = true := by
  induction ks generalizing keys with
  | nil => cases keys <;> simp_all [keysC]
  | cons k ks ih =>
    cases keys with
    | nil => simp [keysC] at h
    | cons x keys =>
      simp only [keysC, Bool.and_eq_true] at h
      obtain ⟨y, rfl, _⟩ := keyC_pe (X := X) h.1
      obtain ⟨h1, h2⟩ := ih h.2
      simp [h1, h2]
theorem dct_rel {K : PySem.W.Frag} {H : Hp} {L Z : List Addr} {p : Addr} {vs : List V} {ds : List D} {ks : List DK} (h : H p = some (.dK ((ks.map kKey).zip vs))) (n : Out L Z p) (hl : ks.length = vs.length) (r : RDL K H L Z vs ds) :
    RD K H L Z (.ref p) (match allP ds with | some ps => D.p (.dct ks ps) | none => .dct ks ds) := by
  have e1 : ((ks.map kKey).zip vs).map (·.1) = ks.map kKey := List.map_fst_zip (by simp [hl])
  have e2 : ((ks.map kKey).zip vs).map (·.2) = vs := List.map_snd_zip (by simp [hl])
  cases ha : allP ds with
  | some ps => exact .p (.dct h n e1 (by rw [e2]; exact r.allP ha))
  | none => exact .dct h n e1 (by rw [e2]; exact r)
theorem s_dct {ks : List DK} {keys : List (Option Expr)} {vals : List Expr} {es : Es} {pos : Pos} (hk : keysC ks keys = true) (ha : AE X C cl wx vals es) (hl : keys.length = vals.length) (h15 : keys.length ≤ 15) (hn : ks.Nodup) :
    PE X (.Dict keys vals pos) (tE X C cl wx (.dct ks es)) := by
  obtain ⟨k1, k2⟩ := keysC_len X hk
  have hes : ks.length = esLen es := by rw [k1, hl, ha.len]
  by_cases h0 : keys = []
  · subst h0
    have hv : vals = [] := List.eq_nil_of_length_eq_zero (by simpa using hl.symm)
    subst hv
    have hks : ks = [] := List.eq_nil_of_length_eq_zero (by simpa using k1)
    subst hks
    cases ha
    refine pe_dnewK.imp fun σ H Q q => ?_
    obtain ⟨L, Z, S, env, at_, post⟩ := q
    simp only [evE, evEs] at post
    intro p hp
    have s1 := at_.st.laid (o := .dK []) hp
    exact post _ L _ (Ext.new_ hp) s1 (dct_rel (ks := []) (vs := []) (ds := []) upd_same (at_.st.out hp) rfl .nil)
  · refine (pe_disp (pps_of hk ha hl) k2 hl h0 h15).imp fun σ H Q q => ?_
    obtain ⟨L, Z, S, env, at_, post⟩ := q
    simp only [evE] at post
    intro p hp
    refine pairs_of hes ?_
    -- the values, the new dict kept apart
    have e0 : Ext H L (upd H p (.dK [])) L := Ext.new_ hp
    have pl : p ∉ L := at_.st.free hp
    have pz : p ∉ Z := fun hm => at_.st.zs p hm hp
    refine ⟨L, p :: Z, S, env, at_.opn hp _, ?_⟩
    cases hev : evEs C es env S with
    | stuck => rw [hev] at post; exact post
    | exc k fs S1 =>
      rw [hev] at post
      exact fun H1 L1 e1 s1 => post H1 L1 (e0.trans e1) s1.shut
    | ok ds S1 =>
      rw [hev] at post
      intro H2 L2 vs e2 s2 r2
      have hlen : vs.length = ks.length := by rw [show vs.length = ds.length from RDL.len r2, evEs_len hev, hes]
      have p2 : p ∉ L2 := Ext.notIn pl (by rw [upd_same]; simp) e2
      refine ⟨e2.keep p _ upd_same pl, (ks.map kKey).zip vs, rfl, by simp; omega, ?_⟩
      have hm : mergeK [] ((ks.map kKey).zip vs) = (ks.map kKey).zip vs := by
        rw [mergeK_app _ _ (by rw [List.nil_append, List.map_fst_zip (by simp [hlen])]; exact nodup_kKey hn), List.nil_append]
      rw [hm]
      refine post _ L2 _ (Ext.aside hp (e0.trans e2) _) (s2.chg List.mem_cons_self p2 (fun a h => upd_ne h) (by rw [upd_same]; simp)).shut ?_
      exact dct_rel upd_same ⟨p2, pz⟩ hlen.symm (RDL.less (fun _ n => out_tl n) (fun _ _ h => h) (RDL.chg List.mem_cons_self (fun a h => upd_ne h) r2))

/-! ### subscripts -/
theorem plainIx {b : Expr} (h : plainIxC b = true) : PlainIx b := by
  intro o i
  cases b <;> first | rfl | cases h
theorem s_idx (g : Good X C cl n c wx) {a b : Expr} {ea eb : E} {pos : Pos} (hi : plainIxC b = true) (ha : PE X a (tE X C cl wx ea)) (hb : PE X b (tE X C cl wx eb)) : PE X (.Subscript a b pos) (tE X C cl wx (.idx ea eb)) :=
  (pe_ix (ix_any (by have := g.units; omega) g.ww) ha hb (plainIx hi)).imp fun σ H Q q => by
    obtain ⟨L, Z, S, env, at_, post⟩ := q
    simp only [evE] at post
    refine ⟨L, Z, S, env, at_, post.bind fun x S1 H1 L1 v e1 s1 r1 q1 => ?_⟩
    refine ⟨L1, Z, S1, env, at_.later e1 s1, q1.bind fun y S2 H2 L2 u e2 s2 r2 q2 => ?_⟩
    cases hx : index x y S2 with
    | none => rw [hx] at q2; exact (show False from q2).elim
    | some d =>
      rw [hx] at q2
      exact ⟨L2, Z, x, y, S2, d, s2, RD.ext e2 r1, r2, hx, fun w hw => post_ok q2 s2 hw⟩
theorem s_eo0 : PO X none (tEo X C cl wx .none) := po_none.imp fun σ H Q q => by
  obtain ⟨L, Z, S, env, at_, post⟩ := q
  simp only [evEo] at post
  exact post_ok post at_.st rfl
theorem s_eo1 {x : Expr} {e : E} (h : PE X x (tE X C cl wx e)) : PO X (some x) (tEo X C cl wx (.some e)) := (po_some h).imp fun σ H Q q => by
  obtain ⟨L, Z, S, env, at_, post⟩ := q
  simp only [evEo] at post
  refine ⟨L, Z, S, env, at_, post.bind fun x S1 H1 L1 v e1 s1 r1 q1 => ?_⟩
  split at q1
  · rename_i i
    cases r1.pI
    exact ⟨i, rfl, post_ok q1 s1 rfl⟩
  · exact (show False from q1).elim
theorem s_slc {a : Expr} {lo hi : Option Expr} {ea : E} {el eh : Eo} {p pos : Pos} (ha : PE X a (tE X C cl wx ea)) (hl : PO X lo (tEo X C cl wx el)) (hh : PO X hi (tEo X C cl wx eh)) : PE X (.Subscript a (.Slice lo hi none p) pos) (tE X C cl wx (.slc ea el eh)) :=
  (pe_slice sl_any ha hl hh).imp fun σ H Q q => by
    obtain ⟨L, Z, S, env, at_, post⟩ := q
    simp only [evE] at post
    refine ⟨L, Z, S, env, at_, post.bind fun x S1 H1 L1 v e1 s1 r1 q1 => ?_⟩
    refine ⟨L1, Z, S1, env, at_.later e1 s1, q1.bind fun l S2 H2 L2 u e2 s2 r2 q2 => ?_⟩
    cases (show u = l from r2)
    refine ⟨L2, Z, S2, env, (at_.later e1 s1).later e2 s2, q2.bind fun h S3 H3 L3 w e3 s3 r3 q3 => ?_⟩
    cases (show w = h from r3)
    obtain ⟨p, hp, q4⟩ := pu_post q3
    exact ⟨L3, Z, x, S3, p, s3, RD.ext e3 (RD.ext e2 r1), hp, q4⟩
end
end Mx
end

section
set_option Elab.async false
set_option linter.all false
set_option maxRecDepth 100000
set_option autoImplicit false
set_option maxHeartbeats 4000000
namespace Mx
open PySem L2 PySem.Spec PyProof.Rows
variable [WW]
section
variable {prog : Program} {w : World} {A : Around} {E : Value → Shared → Prop} {s : Shared}
theorem pick_back (xs : Array Value) : ((List.range xs.size).filterMap fun (k : Nat) => xs[((xs.size : Int) - 1 + (k : Int) * (-1)).toNat]?).toArray = xs.toList.reverse.toArray := by
  rw [← PySem.W.krv_pick]
  unfold slicePick
  rw [PySem.W.krv_bounds]
  show _ = ((sliceRange ((xs.size : Int) - 1) (-1) (-1)).filterMap (xs[·]?)).toArray
  rw [PySem.W.krv_sliceRange, List.filterMap_map]
  congr 2
  funext k
  have : ((xs.size : Int) - 1 + (k : Int) * (-1)).toNat = xs.size - 1 - k := by omega
  rw [this]
  rfl
theorem sliced_back {sl : Addr} {vs : Value} {n : Nat} {Q : Int × Int × Nat → Shared → Prop} (hs : s.heap.IsSliceOf sl .none .none vs) (pk : IsPart vs (some (-1)))
    (h : Q ((n : Int) - 1, -1, n) s) : wpAny (model prog w) A (Builtin.Slice.sliceApplied (.ref sl) (pure (n : Int))) Q E s := by
  have ⟨os, hos, hcs, hds⟩ := hs
  unfold Builtin.Slice.sliceApplied Builtin.Slice.sliceFields
  refine wpAny_bind (wpAny_bind (wpAny_field hos hds (x := .none) rfl (wpAny_bind (wpAny_field hos hds (x := .none) rfl (wpAny_bind (wpAny_field hos hds (x := vs) rfl (wpAny_pure ?_)))))))
  refine wpAny_bind (HT.slicePart_ pk ?_)
  show wpAny _ _ (if ((-1 : Int) == 0) = true then _ else _) _ _ s
  rw [if_neg (by decide)]
  have nn : ∀ {R : Option Int → Shared → Prop}, R none s → wpAny (model prog w) A (Builtin.Slice.slicePartIndex .none) R E s := fun hr => slicePart_none hr
  refine wpAny_bind (nn (wpAny_bind (nn (wpAny_bind (wpAny_pure ?_)))))
  have e1 : Builtin.Slice.sliceAdjust none none (-1) (n : Int) = ((n : Int) - 1, -1) := by
    unfold Builtin.Slice.sliceAdjust
    simp
  have e2 : Builtin.Slice.slicePlaces ((n : Int) - 1) (-1) (-1) = n := by
    unfold Builtin.Slice.slicePlaces
    have h1 : ¬ ((-1 : Int) > 0) := by omega
    have h2 : (- (-1) : Int) = 1 := by omega
    simp only [h1, if_false, h2, Int.ediv_one]
    split <;> omega
  show wpAny _ _ (match Builtin.Slice.sliceAdjust none none (-1) (n : Int) with | (lo, hi) => pure (lo, (-1 : Int), Builtin.Slice.slicePlaces lo hi (-1))) _ _ s
  rw [e1]
  show wpAny _ _ (pure ((n : Int) - 1, (-1 : Int), Builtin.Slice.slicePlaces ((n : Int) - 1) (-1) (-1))) _ _ s
  rw [e2]
  exact wpAny_pure h
theorem tuple_back {t sl : Addr} {items : Array Value} {vs : Value} {Q : Value → Shared → Prop} (ht : IsTup s.heap t items) (hs : s.heap.IsSliceOf sl .none .none vs) (pk : IsPart vs (some (-1)))
    (h : Q (.ref s.heap.objs.size) { s with heap := s.heap.push { cls := .type "tuple", data := .seq items.toList.reverse.toArray } }) (hz : items.size ≤ sizeLine) :
    wpAny (model prog w) A (getItem (.ref t) (.ref sl)) Q E s := by
  have ⟨os, hos, hcs, hds⟩ := hs
  have tys : s.TypeIs (.ref sl) "slice" := ⟨os, hos, hcs⟩
  have small : sizeOk (.seq items.toList.reverse.toArray) := by
    show items.toList.reverse.toArray.size ≤ sizeLine
    simpa using hz
  unfold getItem
  try with_reducible refine wpAny_holding ?_
  first | refine wpAny_bind (wpAny_pure ?_) | skip
  refine wpAny_bind (wpAny_sequenceKey ht.typeIs (by decide) ?_)
  refine wpAny_bind (wpAny_callSpecial?_slot (name := Str.ofString "__getitem__") ht.typeIs PyProof.Rows.slot_tuple_getitem
    (wpAny_call_entry PyProof.Rows.slot_tuple_getitem ht.typeIs entry_tuple_getitem ?_ (args_tuple_getitem _ _)))
  show wpAny _ _ (Builtin.Tuple.tupleItemsOf (.ref t) >>= _) _ _ s
  refine wpAny_bind (tupleItemsOf_ ht ?_)
  refine wpAny_bind (wpAny_typeOf tys ?_)
  rw [if_pos (by decide)]
  refine wpAny_bind (sliced_back hs pk ?_)
  have no : ¬ ((((items.size : Int) - 1 == 0) && ((-1 : Int) == 1) && (items.size == items.size)) = true) := by
    simp
  show wpAny _ _ (if (((items.size : Int) - 1 == 0) && ((-1 : Int) == 1) && (items.size == items.size)) = true then _ else _) _ _ s
  rw [if_neg no, pick_back]
  first
    | exact wpAny_bind (m := Builtin.Tuple.tupleExact _) (wpAny_newObj_type (wpAny_pure ⟨_, rfl, wpAny_pure h⟩) small)
    | exact wpAny_bind (m := Builtin.Tuple.tupleExact _) (wpAny_newObj_type (wpAny_bind (wpAny_pure (wpAny_pure ⟨_, rfl, wpAny_pure h⟩))) small)
    | exact wpAny_bind (wpAny_bind (m := Builtin.Tuple.tupleExact _) (wpAny_newObj_type (wpAny_pure (wpAny_pure ⟨_, rfl, wpAny_pure h⟩)) small))
    | exact wpAny_bind (wpAny_bind (m := Builtin.Tuple.tupleExact _) (wpAny_newObj_type (wpAny_pure ⟨_, rfl, wpAny_pure h⟩) small))
end
section
variable {X : Cx} {C : Nat → List D → Sto → R D} {cl : Nat → Value} {n : Nat} {c : Ck} {wx : WX}
/-- a[::-1] of a tuple or a list -/
def tRevA (K : PySem.W.Frag) (te : TE) : TE := fun σ H Q => te σ H fun x H1 => ∃ a xs, x = .ref a ∧ ((SqL K H1 a xs ∧ ∀ p, H1 p = none → Q (.ref p) (upd H1 p (.lst xs.reverse))) ∨ (SqT K H1 a xs ∧ NewT H1 Q xs.reverse))
theorem pe_revA {e : Expr} {te : TE} {k : Option String} {k' : Nat} {p1 p2 p3 pos : Pos} (he : PE X e te) : PE X (.Subscript e (.Slice none none (some (.UnaryOp .USub (.Constant (.int 1) k' p1) p2)) p3) pos) (tRevA X.K te) := by
  constructor
  intro pins s σ H Q I h
  refine Subscript_ (thn (he.run pins s σ H _ I h) ?_)
  rintro v s1 ⟨x, H1, I1, r1, a, xs, ex, q⟩
  subst ex
  cases r1
  have back : PO X (some (.UnaryOp .USub (.Constant (.int 1) k' p1) p2)) (tPart (tUn (rU fun i => .int (-i)) (tC (.int 1)))) := po_some (pe_un un_neg pe_int)
  refine wpAny_Slice (thn (po_none.run pins s1 σ H1 (fun o H2 => o = none ∧ H2 = H1) I1 ⟨rfl, rfl⟩) ?_)
  rintro vl s2 ⟨l, H2, I2, pl, rfl, rfl⟩
  refine thn (po_none.run pins s2 σ H2 (fun o H3 => o = none ∧ H3 = H2) I2 ⟨rfl, rfl⟩) ?_
  rintro vu s3 ⟨u, H3, I3, pu, rfl, rfl⟩
  refine thn (back.run pins s3 σ H3 (fun o H4 => o = some (-1) ∧ H4 = H3) I3 ⟨1, rfl, -1, rfl, rfl, rfl⟩) ?_
  rintro vs s4 ⟨o, H4, I4, ps, rfl, rfl⟩
  cases pl
  cases pu
  have I5 : Inv X pins σ H4 { s4 with heap := s4.heap.push { cls := .type "slice", data := .fields #[.none, .none, vs] } } := I4.kept (t' := s4.toks) fun b ob q => Heap.get?_push_of_some _ q
  have sl := Heap.IsSliceOf.new s4.heap .none .none vs
  show wpAny (model X.prog X.w) X.A (subscriptTail e _ (.ref a) (.ref s4.heap.objs.size)) (EP X pins σ Q) X.xe { s4 with heap := s4.heap.push { cls := .type "slice", data := .fields #[.none, .none, vs] } }
  rcases q with ⟨hx, q⟩ | ⟨hx, q⟩
  · obtain ⟨its, r, ht, hz⟩ := I5.list hx
    have hlen := r.length
    refine tail_any (ops := [.ref a, .ref s4.heap.objs.size]) ht.isList.typeIs PySem.slot_list_getitem.lookup ?_ (by with_unfolding_all rfl)
    refine wpAny_getItem_list_slice ht.isList sl .none .none ps (by decide) ?_ (by rw [List.size_toArray]; omega)
    rw [PySem.W.krv_pick]
    have I6 := I5.laid (a := (s4.heap.push { cls := .type "slice", data := .fields #[.none, .none, vs] }).objs.size) (t' := s4.toks) (o := .lst xs.reverse) (fun b ob q => Heap.get?_push_of_some _ q) (Nat.le_refl _)
      ⟨by rw [List.length_reverse]; exact hz, _, 0, r.reverse, Heap.get?_push_size _ rfl⟩
    exact ⟨.ref _, _, I6, rfl, q _ (I5.hok.fresh (Nat.le_refl _))⟩
  · obtain ⟨its, r, ht, hz⟩ := I5.tuple hx
    have hlen := r.length
    refine tail_any (ops := [.ref a, .ref s4.heap.objs.size]) ht.typeIs PyProof.Rows.slot_tuple_getitem.lookup ?_ (by with_unfolding_all rfl)
    refine tuple_back ht sl ps ?_ (by rw [List.size_toArray]; omega)
    exact laid_tup I5 r.reverse (by rw [List.length_reverse]; exact hz) q
theorem s_rev {a : Expr} {ea : E} {k' : Nat} {p1 p2 p3 pos : Pos} (ha : PE X a (tE X C cl wx ea)) : PE X (.Subscript a (.Slice none none (some (.UnaryOp .USub (.Constant (.int 1) k' p1) p2)) p3) pos) (tE X C cl wx (.rev ea)) :=
  (pe_revA (k := none) ha).imp fun σ H Q q => by
    obtain ⟨L, Z, S, env, at_, post⟩ := q
    simp only [evE] at post
    refine ⟨L, Z, S, env, at_, post.bind fun x S1 H1 L1 v e1 s1 r1 q1 => ?_⟩
    obtain ⟨p, hp, q2⟩ := pu_post q1
    unfold revd at hp
    split at hp
    · cases hp
      obtain ⟨b, vs, rfl, h1, r⟩ := r1.pI.tupI
      refine ⟨b, vs, rfl, .inr ⟨h1, fun p o hp hd => ?_⟩⟩
      obtain ⟨n1, n2, n3⟩ := new_tup s1 r.rev hp hd
      exact q2 _ _ n1 n2 n3
    · split at hp
      · cases hp
        rename_i xs ea
        obtain ⟨b, vs, rfl, h1, r⟩ := asList_ok s1 r1 ea
        refine ⟨b, vs, rfl, .inl ⟨.of h1, fun p hp => ?_⟩⟩
        obtain ⟨n1, n2, n3⟩ := new_lst s1 r.rev hp
        exact q2 _ _ n1 n2 n3
      · cases hp

/-! ### isinstance, calls -/
theorem boot_ty (t : Ty) : bootBuiltins (Str.ofString (tyN t)) = some (.type (tyN t)) := by cases t <;> decide +kernel
theorem blt_in : ∀ t : Ty, Str.ofString (tyN t) ∈ bltNames := by intro t; cases t <;> decide
theorem s_isi (g : Good X C cl n c wx) {x : Expr} {f y : Str} {t : Ty} {e : E} {p1 p2 pos : Pos} (hf : bltC c f "isinstance" = true) (hy : bltC c y (tyN t) = true) (hs : notStar x = true) (hx : PE X x (tE X C cl wx e)) :
    PE X (.Call (.Name f p1) [x, .Name y p2] [] pos) (tE X C cl wx (.isi t e)) := by
  obtain ⟨rfl, gf⟩ := g.blt hf
  obtain ⟨rfl, gy⟩ := g.blt hy
  have hm1 : X.mg (Str.ofString "isinstance") = none := g.nob _ (by decide)
  have hm2 : X.mg (Str.ofString (tyN t)) = none := g.nob _ (blt_in t)
  have hy : PE X (.Name (Str.ofString (tyN t)) p2) (tC (.ty (tyN t))) := pe_bltn gy hm2 (boot_ty t) rfl (by cases t <;> decide) (by cases t <;> decide)
  refine (pe_callB call_isi gf hm1 PyProof.Rows.boot_isinstance (pa_cons hx (pa_cons hy pa_nil rfl) (star1 hs _ _)) (by decide) (by decide) (star1 hs _ _) rfl).imp fun σ H Q q => ?_
  obtain ⟨L, Z, S, env, at_, post⟩ := q
  simp only [evE] at post
  refine ⟨L, Z, S, env, at_, post.bind fun x S1 H1 L1 v e1 s1 r1 q1 => ?_⟩
  obtain ⟨p, hp, q2⟩ := pu_post q1
  obtain ⟨b, hb, rfl⟩ := Option.map_eq_some_iff.mp hp
  obtain ⟨nm, h1, h2⟩ := isTy_tyD hb
  exact ⟨v, .ty (tyN t), .type nm, .type (tyN t), b, rfl, .ty _, tyD_ok s1 r1 h1, kit_ty h2, q2 _ _ Ext.refl s1 (.bl b)⟩
theorem fnC_eq {f : Nat} {x : Str} (h : (match c.G.fns[f]? with | some y => strEq x y | none => false) = true) : c.G.fns[f]? = some x := by
  split at h
  · rename_i y e
    rw [e, strEq_eq h]
  · cases h
theorem s_call (g : Good X C cl n c wx) {x : Str} {xs : List Expr} {es : Es} {f : Nat} {p pos : Pos} (h1 : glC c x = true) (h2 : ndC x = true) (h3 : c.G.fns[f]? = some x) (hc : ckEs c es xs = true) (ha : AE X C cl wx xs es) :
    PE X (.Call (.Name x p) xs [] pos) (tE X C cl wx (.call f es)) := by
  obtain ⟨a, fd, ps, hm, hk, hb, F⟩ := g.fns f x h3
  have key : ∀ {σ : L2.St} {H : Hp} {Q : VK}, tE X C cl wx (.call f es) σ H Q → tCl (spD X.K C cl f) (L2.WE wx) (tEs X C cl wx es) σ H Q := by
    intro σ H Q q
    obtain ⟨L, Z, S, env, at_, post⟩ := q
    simp only [evE] at post
    exact ⟨L, Z, S, env, at_, post.bind fun ds S1 H1 L1 vs e1 s1 r1 q1 => ⟨L1, Z, S1, ds, s1, r1, q1⟩⟩
  cases ha with
  | nil =>
    refine (pe_callG0 F g.gd g.room (g.gl h1) hm hk hb (fun σ => g.pass σ) (ndC_eq h2).1).imp fun σ H Q q => ?_
    obtain ⟨L, Z, S, env, at_, post⟩ := q
    simp only [evE, evEs] at post
    exact ⟨L, Z, S, [], at_.st, .nil, post⟩
  | cons k1 k2 k3 =>
    have hst := ckEs_star hc
    simp only [List.all_cons, Bool.and_eq_true] at hst
    exact (pe_callG F g.gd g.room (g.gl h1) hm hk hb (fun σ => g.pass σ) (AE.cons k1 k2 k3).pa (ndC_eq h2).1 (star1 k1 _ _) (star_all hst.2)).imp fun σ H Q q => key q
theorem permA_rdl {K : PySem.W.Frag} {H : Hp} {L Z : List Addr} : ∀ {perm : List Nat} {vs : List V} {ds qs : List D}, RDL K H L Z vs ds → permA perm ds = some qs → ∃ us, permA perm vs = some us ∧ RDL K H L Z us qs
  | [], _, _, qs, _, h => by cases h; exact ⟨[], rfl, .nil⟩
  | i :: is, vs, ds, qs, r, h => by
    simp only [permA] at h ⊢
    cases h1 : ds[i]? with
    | none => rw [h1] at h; cases h
    | some d =>
      rw [h1] at h
      cases h2 : permA is ds with
      | none => rw [h2] at h; cases h
      | some q =>
        rw [h2] at h
        cases h
        obtain ⟨v, e1, r1⟩ := r.get h1
        obtain ⟨us, e2, r2⟩ := permA_rdl r h2
        exact ⟨v :: us, by simp [e1, e2], .cons r1 r2⟩
theorem s_callK (g : Good X C cl n c wx) {x : Str} {kws : List Keyword} {ks : List Str} {perm : List Nat} {es : Es} {f : Nat} {p pos : Pos} (h1 : glC c x = true) (h2 : ndC x = true) (h3 : c.G.fns[f]? = some x) (hn : kwNames kws = some ks) (hk : (f, ks, perm) ∈ c.G.kwc)
    (hl : ks.length = perm.length) (ha : PK X kws (tEs X C cl wx es)) : PE X (.Call (.Name x p) [] kws pos) (tE X C cl wx (.callK f perm es)) := by
  obtain ⟨a, fd, ps, hm, hkp, hb, F⟩ := g.kwc _ hk x h3
  refine (pe_callGK F g.gd g.room (g.gl h1) hm hkp hb (fun σ => g.pass σ) ha hn (ndC_eq h2).1).imp fun σ H Q q => ?_
  obtain ⟨L, Z, S, env, at_, post⟩ := q
  simp only [evE] at post
  refine ⟨L, Z, S, env, at_, post.bind fun ds S1 H1 L1 vs e1 s1 r1 q1 => ?_⟩
  split at q1
  · rename_i hd
    split at q1
    · rename_i qs hq
      obtain ⟨us, e2, r2⟩ := permA_rdl r1 hq
      exact ⟨by rw [(show RDL X.K H1 L1 Z vs ds from r1).len, hd, hl], us, e2, L1, Z, S1, qs, s1, r2, q1⟩
    · exact (show False from q1).elim
  · exact (show False from q1).elim
theorem boot_b (f : Blt) (h : isMB f = false) : bootBuiltins (Str.ofString (idB f)) = some (vB f) := by cases f <;> first | (cases h; done) | decide +kernel
theorem blt_inB : ∀ f : Blt, isMB f = false → Str.ofString (idB f) ∈ bltNames := by intro t h; cases t <;> first | (cases h; done) | decide
theorem pe_callM {id : String} {r : List V → Hp → VK → Prop} {t : TA} {e : Expr} {es : List Expr} {x : Str} {p pos : Pos} (hc : CallR X (.builtin id) r) (hg : Gl X x) (hm : X.mg x = some (.builtin id)) (ha : PA X (e :: es) t) (hdb : (x == ("__debug__" : Str)) = false)
    (he : starEach (e :: es) X.env = (false, eval e X.env) :: starEach es X.env) (hpl : (backTo pos (starEach es X.env)).any (·.1) = false) : PE X (.Call (.Name x p) (e :: es) [] pos) (tCB r t) := by
  refine ⟨fun pins s σ H Q I h => ?_⟩
  refine wpAny_Call_Name_kw (ld_glob I hg hm ?_ hdb)
  exact PyProof.Rows.callWith_builtin1 (thn (ha.run pos pins s σ H _ I h) fun us s1 ⟨vs, H1, I1, r1, q1⟩ => hc pins s1 σ H1 vs us Q I1 r1 q1) he hpl
theorem s_blt (g : Good X C cl n c wx) {x : Str} {xs : List Expr} {es : Es} {f : Blt} {p pos : Pos} (h1 : bltC c x (idB f) = true) (hi : (!isMB f || c.G.imps.any fun y => strEq y (Str.ofString (idB f))) = true) (h0 : xs ≠ []) (hc : ckEs c es xs = true) (ha : AE X C cl wx xs es) :
    PE X (.Call (.Name x p) xs [] pos) (tE X C cl wx (.blt f es)) := by
  obtain ⟨rfl, gf⟩ := g.blt h1
  have key : ∀ {σ : L2.St} {H : Hp} {Q : VK}, tE X C cl wx (.blt f es) σ H Q → tCB (rP X.K (bltop f)) (tEs X C cl wx es) σ H Q := by
    intro σ H Q q
    obtain ⟨L, Z, S, env, at_, post⟩ := q
    simp only [evE] at post
    refine ⟨L, Z, S, env, at_, post.bind fun ds S1 H1 L1 vs e1 s1 r1 q1 => ?_⟩
    obtain ⟨p, hp, q2⟩ := pu_post q1
    exact ⟨L1, Z, ds, S1, p, s1, r1, hp, q2⟩
  have hu := g.units
  have call := cr_blt g.calm g.gd (by omega) g.sys f
  cases ha with
  | nil => exact absurd rfl h0
  | cons k1 k2 k3 =>
    have hst := ckEs_star hc
    simp only [List.all_cons, Bool.and_eq_true] at hst
    have pa := (AE.cons k1 k2 k3).pa
    have hn1 : Str.ofString (idB f) ≠ ("__name__" : Str) := by cases f <;> decide
    have hn2 : (Str.ofString (idB f) == ("__debug__" : Str)) = false := by cases f <;> decide
    by_cases hm' : isMB f = true
    · have hm := g.imp f hm' (by rw [hm'] at hi; simpa using hi)
      have ht : isTB f = false := by cases f <;> first | rfl | (cases hm'; done)
      unfold vB at call hm
      rw [ht] at call hm
      simp only [Bool.false_eq_true, if_false] at call hm
      exact (pe_callM call gf hm pa hn2 (star1 k1 _ _) (star_all hst.2)).imp fun σ H Q q => key q
    · have hm2 : isMB f = false := by simpa using hm'
      have hm : X.mg (Str.ofString (idB f)) = none := g.nob _ (blt_inB f hm2)
      have bt := boot_b f hm2
      unfold vB at call bt
      by_cases ht : isTB f = true
      · rw [if_pos ht] at call bt
        exact (pe_callTy call gf hm bt pa hn1 hn2 (star1 k1 _ _) (star_all hst.2)).imp fun σ H Q q => key q
      · rw [if_neg ht] at call bt
        exact (pe_callB call gf hm bt pa hn1 hn2 (star1 k1 _ _) (star_all hst.2)).imp fun σ H Q q => key q

/-! ### append -/
theorem mthop_app {k : Nat} {ds : List D} {S : Sto} (h : mthop .append (.mu k) ds S ≠ .stuck) :
    ∃ y l, ds = [.p y] ∧ S[k]? = some (.lst l) ∧ l.length < LIM ∧ mthop .append (.mu k) ds S = .ok (.p .non) (S.set k (.lst (l ++ [y]))) := by
  match ds, h with
  | [.p y], h =>
    simp only [mthop] at h ⊢
    cases hk : S[k]? with
    | none => rw [hk] at h; exact absurd rfl h
    | some o =>
      rw [hk] at h
      cases o with
      | lst l =>
        simp only at h
        by_cases hl : l.length < LIM
        · exact ⟨y, l, rfl, rfl, hl, by simp only [if_pos hl]⟩
        · rw [if_neg hl] at h; exact absurd rfl h
      | dK a b => exact absurd rfl h
      | dT a b => exact absurd rfl h
      | dN a b => exact absurd rfl h
  | [], h => exact absurd rfl h
  | _ :: _ :: _, h => exact absurd (by simp [mthop]) h
  | [.mu _], h => exact absurd rfl h
  | [.tup _], h => exact absurd rfl h
  | [.dct _ _], h => exact absurd rfl h
  | [.scr _], h => exact absurd rfl h
theorem s_app (g : Good X C cl n c wx) {nm : Str} {ox x : Expr} {o : E} {e : E} {apos cpos : Pos} (hns : isNS ox = true) (hn : nm = "append") (hl : (apos.endLine == cpos.line) = true) (hs : notStar x = true) (ho : PE X ox (tE X C cl wx o)) (hx : PE X x (tE X C cl wx e)) :
    PE X (.Call (.Attribute ox nm apos) [x] [] cpos) (tE X C cl wx (.mth .append o (.cons e .nil))) := by
  subst hn
  refine (pe_bm PySem.F.plainAttrs_list PySem.F.slot_list_append PySem.F.type_list_append mt_append ho (s_cons hs hx s_nil) (by cases ox <;> first | rfl | cases hns) ?_ hl (star1 hs _ _) rfl).imp fun σ H Q q => ?_
  · rw [star1 hs]; rfl
  · obtain ⟨L, Z, S, env, at_, post⟩ := q
    simp only [evE, isCI, Bool.false_eq_true, if_false] at post
    refine ⟨L, Z, S, env, at_, post.bind fun x S1 H1 L1 v e1 s1 r1 q1 => ?_⟩
    split at q1
    · rename_i hm
      unfold isMu at hm
      split at hm
      · rename_i k
        split at hm
        · rename_i l hk
          cases r1 with
          | mu hL =>
            rename_i a
            obtain ⟨vs, ha, rl⟩ := s1.at_ k a _ hL hk
            refine ⟨.inl ⟨rfl, vs, .of ha⟩, L1, Z, S1, env, at_.later e1 s1, q1.bind fun ds S2 H2 L2 us e2 s2 r2 q2 => ?_⟩
            have ns : mthop .append (.mu k) ds S2 ≠ .stuck := fun z => by rw [z] at q2; exact q2
            obtain ⟨y, l2, rfl, hk2, hlen, em⟩ := mthop_app ns
            rw [em] at q2
            obtain ⟨w, rfl, rw'⟩ := (show RDL X.K H2 L2 Z us [.p y] from r2).one
            have hL2 := e2.pre _ _ hL
            obtain ⟨vs2, ha2, rl2⟩ := s2.at_ _ a _ hL2 hk2
            refine ⟨a, vs2, w, rfl, rfl, ha2, Nat.lt_of_lt_of_le (by rw [rl2.len]; exact hlen) (Nat.le_of_lt lim_lt), ?_⟩
            have ew : Ext H2 L2 (upd H2 a (.lst (vs2 ++ [w]))) L2 := Ext.write (List.mem_of_getElem? hL2)
            have sw := s2.wrote (o := .lst (vs2 ++ [w])) (m := .lst (l2 ++ [y])) hL2 ⟨_, upd_same, (rl2.app (.cons rw'.pI .nil)).ext ew⟩
            exact q2 _ _ _ ew sw (.p .non)
        · cases hm
      · cases hm
    · exact (show False from q1).elim
end

/-! ### dicts by tuples -/
section
variable {X : Cx} {C : Nat → List D → Sto → R D} {cl : Nat → Value} {n : Nat} {c : Ck} {wx : WX}
/-- a tuple that was just written -/
def relT (K : PySem.W.Frag) (Z : List Addr) : Hp → List Addr → V → List D → Prop := fun H L v ds => ∃ b vs, v = .ref b ∧ H b = some (.tup vs) ∧ Out L Z b ∧ RDL K H L Z vs ds
theorem s_tupT {xs : List Expr} {es : Es} {k : Nat} {pos : Pos} (hl : xs.length ≤ 30) (hc : ckEs c es xs = true) (h : PA X xs (tEs X C cl wx es)) : PE X (.Tuple xs k pos) (tG X.K cl wx relT (evEs C es)) :=
  (pe_tup h).imp fun σ H Q q => by
    obtain ⟨L, Z, S, env, at_, post⟩ := q
    refine ⟨L, Z, S, env, at_, ?_⟩
    cases hev : evEs C es env S with
    | stuck => rw [hev] at post; exact post
    | exc k fs S1 => rw [hev] at post; exact post
    | ok ds S1 =>
      rw [hev] at post
      intro H1 L1 vs e1 s1 r1
      have hlen : vs.length ≤ 30 := by
        rw [show vs.length = ds.length from RDL.len r1, evEs_len hev, ckEs_len hc]; exact hl
      refine ⟨le_line (by unfold LIM; omega), fun p hp => ?_⟩
      exact post _ L1 _ (e1.trans (Ext.new_ hp)) (s1.laid hp) ⟨p, vs, rfl, upd_same, s1.out hp, RDL.ext (Ext.new_ hp) r1⟩
theorem s_newT {pos : Pos} : PE X (.Dict [] [] pos) (tE X C cl wx .newT) := pe_dnewT.imp fun σ H Q q => by
  obtain ⟨L, Z, S, env, at_, post⟩ := q
  simp only [evE] at post
  intro p hp
  have s := at_.st.laidM (o := .dT []) (m := .dT [] []) hp ⟨[], upd_same, rfl, .nil⟩
  refine post _ _ _ (Ext.newM hp) s (.mu ?_)
  rw [← at_.st.len, List.getElem?_append_right (Nat.le_refl _)]
  simp
def tDNewN [WW] : TE := fun _ H Q => ∀ p, H p = none → Q (.ref p) (upd H p (DictN WW.w p []))
theorem pe_dnewN {pos : Pos} : PE X (.Dict [] [] pos) tDNewN := ⟨fun pins s σ H Q I h =>
  wpAny_Dict_empty ⟨.ref s.heap.objs.size, _, I.laid (a := s.heap.objs.size) (o := DictN WW.w s.heap.objs.size []) (t' := s.toks) (fun _ _ q => Heap.get?_push_of_some _ q) (Nat.le_refl _)
    (by
      have hd : (s.heap.objs.size == sysModules) = false := beq_eq_false_iff_ne.mpr (Ne.symm (Nat.ne_of_lt I.big))
      have hg : (s.heap.push { cls := .type "dict", data := .dict #[] }).get? s.heap.objs.size = some { cls := .type "dict", data := .dict #[] } := Heap.get?_push_size _ rfl
      refine ⟨⟨hd, _, #[], 0, hg, ⟨rfl, rfl, rfl⟩, rfl, rfl⟩, ⟨_, hg⟩, ?_⟩
      rintro h1 h2 ⟨e0, o, es, ep, e1, e2, e3, e4⟩ k
      exact ⟨e0, o, es, ep, k _ e1, e2, e3, e4⟩), rfl, h _ (I.hok.fresh (Nat.le_refl _))⟩⟩
theorem s_newN {pos : Pos} : PE X (.Dict [] [] pos) (tE X C cl wx .newN) := pe_dnewN.imp fun σ H Q q => by
  obtain ⟨L, Z, S, env, at_, post⟩ := q
  simp only [evE] at post
  intro p hp
  have s := at_.st.laidM (o := DictN WW.w p []) (m := .dN [] []) hp ⟨[], [], upd_same, rfl, ⟨rfl, List.nodup_nil, by simp⟩, .nil, .nil, .nil⟩
  refine post _ _ _ (Ext.newM hp) s (.mu ?_)
  rw [← at_.st.len, List.getElem?_append_right (Nat.le_refl _)]
  simp
theorem s_getT (g : Good X C cl n c wx) {ox nm : Str} {y : Expr} {o d : E} {es : Es} {opos apos cpos : Pos} {xs : List Expr} {kk : Nat} {tpos : Pos} (hn : nm = "get") (hl : (apos.endLine == cpos.line) = true) (hy : notStar y = true)
    (ho : PE X (.Name ox opos) (tE X C cl wx o)) (hk : PE X (.Tuple xs kk tpos) (tG X.K cl wx relT (evEs C es))) (hd : PE X y (tE X C cl wx d)) :
    PE X (.Call (.Attribute (.Name ox opos) nm apos) [.Tuple xs kk tpos, y] [] cpos) (tE X C cl wx (.getT o es d)) := by
  subst hn
  have st : starEach [.Tuple xs kk tpos, y] X.env = [(false, eval (.Tuple xs kk tpos) X.env), (false, eval y X.env)] := by rw [star1 rfl, star1 hy]; rfl
  have m : M2 X (.Name ox opos) "get" apos (.Tuple xs kk tpos) y cpos := ⟨rfl, by rw [st]; rfl, hl, by rw [st]; rfl⟩
  refine (pe_dget2 (by have := g.units; omega) ho hk hd m).imp fun σ H Q q => ?_
  obtain ⟨L, Z, S, env, at_, post⟩ := q
  simp only [evE] at post
  refine ⟨L, Z, S, env, at_, post.bind fun x S1 H1 L1 v e1 s1 r1 q1 => ?_⟩
  split at q1
  · rename_i hm
    unfold isDT at hm
    split at hm
    · rename_i k
      split at hm
      · rename_i ks ps hk
        cases r1 with
        | mu hL =>
          rename_i a
          obtain ⟨kvs, ha, hks, hr⟩ := s1.at_ k a _ hL hk
          refine ⟨a, rfl, .inr ⟨kvs, .inl ha⟩, L1, Z, S1, env, at_.later e1 s1, q1.bind fun ds S2 H2 L2 u e2 s2 r2 q2 => ?_⟩
          obtain ⟨b, vs, rfl, hb, nb, rv⟩ := r2
          refine ⟨L2, Z, S2, env, (at_.later e1 s1).later e2 s2, q2.bind fun dz S3 H3 L3 z e3 s3 r3 q3 => ?_⟩
          have hL3 := e3.pre _ _ (e2.pre _ _ hL)
          cases hg : getT (.mu k) ds S3 with
          | none => rw [hg] at q3; exact (show False from q3).elim
          | some o =>
            rw [hg] at q3
            obtain ⟨k', x, ks3, ps3, hk', hx, hk3, rfl⟩ := getT_some hg
            cases hk'
            obtain ⟨kvs3, ha3, hks3, hr3⟩ := s3.at_ k a _ hL3 hk3
            have hvs := keysOf_rel hx rv
            have hb3 := e3.keep b _ hb nb.1
            refine ⟨valV kvs3 (x.map kKey), DGet.t ha3 (by rw [hb3, hvs]), ?_⟩
            rcases lookT_rel hks3 hr3 x with ⟨l1, l2⟩ | ⟨p, w, l1, l2, rp⟩
            · rw [l1] at q3; rw [l2]; exact post_ok q3 s3 r3
            · rw [l1] at q3; rw [l2]; exact post_ok q3 s3 (.p rp)
      · cases hm
    · cases hm
  · exact (show False from q1).elim
theorem s_idxT (g : Good X C cl n c wx) {v : Expr} {o : E} {es : Es} {pos : Pos} {xs : List Expr} {kk : Nat} {tpos : Pos} (ho : PE X v (tE X C cl wx o)) (hk : PE X (.Tuple xs kk tpos) (tG X.K cl wx relT (evEs C es))) :
    PE X (.Subscript v (.Tuple xs kk tpos) pos) (tE X C cl wx (.idxT o es)) :=
  (pe_dget (by have := g.units; omega) ho hk (fun _ _ => rfl)).imp fun σ H Q q => by
    obtain ⟨L, Z, S, env, at_, post⟩ := q
    simp only [evE] at post
    refine ⟨L, Z, S, env, at_, post.bind fun x S1 H1 L1 v e1 s1 r1 q1 => ?_⟩
    refine ⟨L1, Z, S1, env, at_.later e1 s1, q1.bind fun ds S2 H2 L2 u e2 s2 r2 q2 => ?_⟩
    obtain ⟨b, vs, rfl, hb, nb, rv⟩ := r2
    split at q2
    · rename_i p hg
      obtain ⟨k, y, ks, ps, rfl, hx, hk2, ho⟩ := getT_some hg
      cases r1 with
      | mu hL =>
        rename_i a
        obtain ⟨kvs, ha, hks, hr⟩ := s2.at_ k a _ (e2.pre _ _ hL) hk2
        rcases lookT_rel hks hr y with ⟨l1, l2⟩ | ⟨p', w, l1, l2, rp⟩
        · rw [l1] at ho; cases ho
        · rw [l1] at ho; cases ho
          refine ⟨a, w, rfl, ?_, post_ok q2 s2 (.p rp)⟩
          rw [← l2]
          exact DGet.t ha (by rw [hb, keysOf_rel hx rv])
    · exact (show False from q2).elim
end
end Mx
end

section
set_option Elab.async false
set_option linter.all false
set_option maxRecDepth 100000
set_option autoImplicit false
set_option maxHeartbeats 4000000
namespace Mx
open PySem L2 PySem.Spec PyProof.Rows
variable [WW]
/-! ### kept apart otherwise -/
section
variable {K : PySem.W.Frag} {H H1 H2 : Hp} {L L1 Z Z1 : List Addr} {q : Addr}
mutual
theorem Rp.toZ (h : ∀ a, H a ≠ none → Out L Z a → Out L Z1 a) : ∀ {v : V} {p : P}, Rp K H L Z v p → Rp K H L Z1 v p
  | _, _, .non => .non
  | _, _, .bl b => .bl b
  | _, _, .int i => .int i
  | _, _, .str x => .str x
  | _, _, .rep p => .rep p
  | _, _, .tup e d n r => .tup e d (h _ (by rw [e]; simp) n) (RpL.toZ h r)
  | _, _, .tupK e k r => .tupK e k (RpL.toZ h r)
  | _, _, .lst e n r => .lst e (h _ (by rw [e]; simp) n) (RpL.toZ h r)
  | _, _, .dct e n k r => .dct e (h _ (by rw [e]; simp) n) k (RpL.toZ h r)
theorem RpL.toZ (h : ∀ a, H a ≠ none → Out L Z a → Out L Z1 a) : ∀ {vs : List V} {ps : List P}, RpL K H L Z vs ps → RpL K H L Z1 vs ps
  | _, _, .nil => .nil
  | _, _, .cons x r => .cons (Rp.toZ h x) (RpL.toZ h r)
end
mutual
theorem RD.toZ (h : ∀ a, H a ≠ none → Out L Z a → Out L Z1 a) : ∀ {v : V} {d : D}, RD K H L Z v d → RD K H L Z1 v d
  | _, _, .p x => .p (x.toZ h)
  | _, _, .mu e => .mu e
  | _, _, .tup e n r => .tup e (h _ (by rcases e with e | ⟨o, e⟩ <;> rw [e] <;> simp) n) (RDL.toZ h r)
  | _, _, .dct e n k r => .dct e (h _ (by rw [e]; simp) n) k (RDL.toZ h r)
  | _, _, .scr e n => .scr e (h _ (by rcases e with e | ⟨o, e⟩ <;> rw [e] <;> simp) n)
  | _, _, .scrK e => .scrK e
theorem RDL.toZ (h : ∀ a, H a ≠ none → Out L Z a → Out L Z1 a) : ∀ {vs : List V} {ds : List D}, RDL K H L Z vs ds → RDL K H L Z1 vs ds
  | _, _, .nil => .nil
  | _, _, .cons x r => .cons (RD.toZ h x) (RDL.toZ h r)
end
/-- Z1 has but new ones more than Z -/
def Zx (H : Hp) (Z Z1 : List Addr) : Prop := (∀ a ∈ Z1, a ∈ Z ∨ H a = none) ∧ ∀ a ∈ Z, a ∈ Z1
theorem Zx.out (h : Zx H Z Z1) : ∀ a, H a ≠ none → Out L Z a → Out L Z1 a := fun a ha n => ⟨n.1, fun m => (h.1 a m).elim n.2 ha⟩
theorem Zx.refl : Zx H Z Z := ⟨fun _ h => .inl h, fun _ h => h⟩
theorem Zx.cons (h : H q = none) : Zx H Z (q :: Z) := ⟨fun a m => by
  rcases List.mem_cons.mp m with rfl | m
  · exact .inr h
  · exact .inl m, fun _ h => List.mem_cons_of_mem _ h⟩
theorem Zx.ez (h : Zx H Z Z1) (e : ExtZ Z H L H1 L1) : ExtZ Z1 H L H1 L1 := ⟨fun a o x n m => e.keep a o x n fun k => m (h.2 a k), e.dom, e.pre, e.new⟩

/-! ### what is walked -/
def WalkR (K : PySem.W.Frag) (Z : List Addr) (H1 : Hp) (L1 : List Addr) (J : It) (w : Walked) : Prop :=
  ∀ (i : Nat) (H2 : Hp) (L2 Z2 : List Addr) (S2 : Sto), ExtZ Z H1 L1 H2 L2 → Zx H1 Z Z2 → StR K H2 L2 Z2 S2 → w.stay S2 = true →
    (∀ d, w.ds[i]? = some d → J.go i H2 ∧ ∀ x H3, J.yld i H2 x H3 → Ext H2 L2 H3 L2 ∧ StR K H3 L2 Z2 S2 ∧ RD K H3 L2 Z2 x d) ∧ (w.ds.length = i → J.stop i H2)
theorem walk_l {a : Addr} {w : Walked} (h : ∀ (H2 : Hp) (L2 Z2 : List Addr) (S2 : Sto), ExtZ Z H1 L1 H2 L2 → Zx H1 Z Z2 → StR K H2 L2 Z2 S2 → w.stay S2 = true → ∃ vs, SqL K H2 a vs ∧ RDL K H2 L2 Z2 vs w.ds) : WalkR K Z H1 L1 (Itl K a) w := by
  intro i H2 L2 Z2 S2 e z s st
  obtain ⟨vs, hq, r⟩ := h H2 L2 Z2 S2 e z s st
  refine ⟨fun d hd => ?_, fun hi => ⟨vs, hq, by rw [r.len]; omega⟩⟩
  obtain ⟨v, h1, h2⟩ := r.get hd
  refine ⟨⟨vs, v, hq, h1⟩, fun x H3 y => ?_⟩
  obtain ⟨y1, y2⟩ := y
  subst y1
  have := y2 vs hq
  rw [h1] at this
  cases this
  exact ⟨Ext.refl, s, h2⟩
theorem walk_t {a : Addr} {w : Walked} (h : ∀ (H2 : Hp) (L2 Z2 : List Addr) (S2 : Sto), ExtZ Z H1 L1 H2 L2 → Zx H1 Z Z2 → StR K H2 L2 Z2 S2 → w.stay S2 = true → ∃ vs, SqT K H2 a vs ∧ RDL K H2 L2 Z2 vs w.ds) : WalkR K Z H1 L1 (Itt K a) w := by
  intro i H2 L2 Z2 S2 e z s st
  obtain ⟨vs, hq, r⟩ := h H2 L2 Z2 S2 e z s st
  refine ⟨fun d hd => ?_, fun hi => ⟨vs, hq, by rw [r.len]; omega⟩⟩
  obtain ⟨v, h1, h2⟩ := r.get hd
  refine ⟨⟨vs, v, hq, h1⟩, fun x H3 y => ?_⟩
  obtain ⟨y1, y2⟩ := y
  subst y1
  have := y2 vs hq
  rw [h1] at this
  cases this
  exact ⟨Ext.refl, s, h2⟩
theorem walk_r {lo : Int} {n : Nat} : WalkR K Z H1 L1 (Itr lo n) ⟨rangeD lo n, fun _ => true⟩ := by
  intro i H2 L2 Z2 S2 e z s st
  refine ⟨fun d hd => ?_, fun hi => ?_⟩
  · have hd' : (rangeD lo n)[i]? = some d := hd
    unfold rangeD at hd'
    rw [List.getElem?_map, Option.map_eq_some_iff] at hd'
    obtain ⟨j, hj, e2⟩ := hd'
    obtain ⟨hlt, e3⟩ := List.getElem?_eq_some_iff.mp hj
    rw [List.getElem_range] at e3
    rw [List.length_range] at hlt
    subst e3 e2
    refine ⟨hlt, fun x H3 y => ?_⟩
    obtain ⟨y1, y2⟩ := y
    subst y1 y2
    exact ⟨Ext.refl, s, .p (.int _)⟩
  · have : (rangeD lo n).length = i := hi
    unfold rangeD at this
    simp only [List.length_map, List.length_range] at this
    show n ≤ i
    omega
theorem beqL_still {k : Nat} {S0 S2 : Sto} {xs : List P} (h0 : S0[k]? = some (.lst xs)) (h : still (.mu k) S0 S2 = true) : S2[k]? = some (.lst xs) := by
  unfold still at h
  simp only [h0] at h
  cases hk : S2[k]? with
  | none => rw [hk] at h; cases h
  | some o =>
    rw [hk] at h
    cases o with
    | lst ys => rw [beqL_eq h]
    | dK a b => cases h
    | dT a b => cases h
    | dN a b => cases h
/-- a list or a tuple, walked -/
theorem walk_items {S : Sto} (s : StR K H1 L1 Z S) {v : V} {d : D} {ds : List D} (h : RD K H1 L1 Z v d) (e : items d S = some ds) :
    ∃ a, v = .ref a ∧ (((∃ vs, SqL K H1 a vs) ∧ WalkR K Z H1 L1 (Itl K a) ⟨ds, still d S⟩) ∨ ((∃ vs, SqT K H1 a vs) ∧ WalkR K Z H1 L1 (Itt K a) ⟨ds, still d S⟩)) := by
  cases d with
  | p x =>
    cases x with
    | tup xs =>
      simp only [items, Option.some.injEq] at e
      subst e
      cases h with
      | p h =>
        cases h with
        | tup h0 d n r =>
          have h : Rd H1 _ (.tup _) := .inr ⟨_, h0⟩
          refine ⟨_, rfl, .inr ⟨⟨_, .inl h⟩, walk_t fun H2 L2 Z2 S2 e2 z s2 _ => ⟨_, .inl ((z.ez e2).rd h (z.out _ (by rcases h with h | ⟨o, h⟩ <;> rw [h] <;> simp) n)).1, ?_⟩⟩⟩
          exact ((r.toZ (Zx.out z)).extZ (z.ez e2)).toD
        | tupK h k r =>
          refine ⟨_, rfl, .inr ⟨⟨_, sqT_any h⟩, walk_t fun H2 L2 Z2 S2 e2 z s2 _ => ⟨_, sqT_any h, ?_⟩⟩⟩
          exact ((r.toZ (Zx.out z)).extZ (z.ez e2)).toD
    | lst xs =>
      simp only [items, Option.some.injEq] at e
      subst e
      cases h with
      | p h =>
        cases h with
        | lst h n r =>
          refine ⟨_, rfl, .inl ⟨⟨_, .of h⟩, walk_l fun H2 L2 Z2 S2 e2 z s2 _ => ⟨_, .of (e2.keep _ _ h n.1 n.2), ?_⟩⟩⟩
          exact ((r.toZ (Zx.out z)).extZ (z.ez e2)).toD
    | _ => simp [items] at e
  | mu k =>
    simp only [items] at e
    cases hk : S[k]? with
    | none => rw [hk] at e; cases e
    | some o =>
      rw [hk] at e
      cases h with
      | mu hl =>
        cases o with
        | lst xs =>
          simp only [Option.some.injEq] at e
          subst e
          obtain ⟨vs, e1, r⟩ := s.at_ k _ _ hl hk
          refine ⟨_, rfl, .inl ⟨⟨vs, .of e1⟩, walk_l fun H2 L2 Z2 S2 e2 z s2 st => ?_⟩⟩
          obtain ⟨vs2, h2, r2⟩ := s2.at_ k _ _ (e2.pre _ _ hl) (beqL_still hk st)
          exact ⟨vs2, .of h2, r2.toD⟩
        | dK ks ps => cases e
        | dT ks ps => cases e
        | dN ks ps => cases e
  | scr ns =>
    simp only [items, Option.some.injEq] at e
    subst e
    cases h with
    | scr h n => exact ⟨_, rfl, .inl ⟨⟨_, .inl h⟩, walk_l fun H2 L2 Z2 S2 e2 z s2 st => ⟨_, .inl ((z.ez e2).rd h (z.out _ (by rcases h with h | ⟨o, h⟩ <;> rw [h] <;> simp) n)).1, RDL.ints ns⟩⟩⟩
    | scrK h => exact ⟨_, rfl, .inl ⟨⟨_, sqL_any h⟩, walk_l fun H2 L2 Z2 S2 e2 z s2 st => ⟨_, sqL_any h, RDL.ints ns⟩⟩⟩
  | tup ds' =>
    simp only [items, Option.some.injEq] at e
    subst e
    cases h with
    | tup h n r => exact ⟨_, rfl, .inr ⟨⟨_, .inl h⟩, walk_t fun H2 L2 Z2 S2 e2 z s2 st => ⟨_, .inl (e2.rd h n).1, RDL.extZ (z.ez e2) (RDL.toZ (Zx.out z) r)⟩⟩⟩
  | dct ks ds' => simp [items] at e
end
section
variable {X : Cx} {C : Nat → List D → Sto → R D} {cl : Nat → Value} {n : Nat} {c : Ck} {wx : WX} {tg : Expr}
def iSeq (K : PySem.W.Frag) (tl : TE) : TI := fun σ H R => tl σ H fun x H1 => ∃ a, x = .ref a ∧ (((∃ xs, SqL K H1 a xs) ∧ R (Itl K a) H1) ∨ ((∃ xs, SqT K H1 a xs) ∧ R (Itt K a) H1))
theorem pi_seq {l : Expr} {tl : TE} (hl : PE X l tl) : PI X tg l (iSeq X.K tl) := by
  constructor
  intro pins s σ H R I h
  refine thn (hl.run pins s σ H _ I h) ?_
  rintro v s1 ⟨x, H1, I1, r1, a, rfl, q⟩
  cases r1
  rcases q with ⟨⟨xs, hq⟩, q⟩ | ⟨⟨xs, hq⟩, q⟩
  · obtain ⟨its, rv, p, hz⟩ := I1.list hq
    refine wpAny_pyIter_list p.isList ⟨s1.heap.objs.size, [s1.heap.objs.size], _, _, H1, rfl, I1.kept (t' := s1.toks) fun b o e => Heap.get?_push_of_some _ e, turn_list a _, ⟨_, Heap.get?_push_size _ rfl, rfl, rfl⟩, ?_, q⟩
    intro b hb
    have e : b = s1.heap.objs.size := by simpa using hb
    exact e ▸ I1.fpOk (Nat.le_refl _) (I1.hok.fresh (Nat.le_refl _))
  · obtain ⟨its, rv, p, hz⟩ := I1.tuple hq
    refine wpAny_pyIter_tuple (show s1.heap.IsTuple a its.toArray from p) ⟨s1.heap.objs.size, [s1.heap.objs.size], _, _, H1, rfl, I1.kept (t' := s1.toks) fun b o e => Heap.get?_push_of_some _ e, turn_tuple a _, ⟨_, Heap.get?_push_size _ rfl, rfl, rfl⟩, ?_, q⟩
    intro b hb
    have e : b = s1.heap.objs.size := by simpa using hb
    exact e ▸ I1.fpOk (Nat.le_refl _) (I1.hok.fresh (Nat.le_refl _))
variable (X C cl wx)
abbrev tSrc (src : Src) : TI := tG X.K cl wx (fun K Z H L J w => WalkR K Z H L J w) (evI C src)
variable {X C cl wx}
theorem s_of {x : Expr} {e : E} (hx : PE X x (tE X C cl wx e)) : PI X tg x (tSrc X C cl wx (.of e)) := (pi_seq hx).imp fun σ H Q q => by
  obtain ⟨L, Z, S, env, at_, post⟩ := q
  simp only [evI] at post
  refine ⟨L, Z, S, env, at_, post.bind fun d S1 H1 L1 v e1 s1 r1 q1 => ?_⟩
  cases hi : items d S1 with
  | none => rw [hi] at q1; exact (show False from q1).elim
  | some ds =>
    rw [hi] at q1
    obtain ⟨a, rfl, h⟩ := walk_items s1 r1 hi
    refine ⟨a, rfl, ?_⟩
    rcases h with ⟨h1, h2⟩ | ⟨h1, h2⟩
    · exact .inl ⟨h1, post_ok q1 s1 h2⟩
    · exact .inr ⟨h1, post_ok q1 s1 h2⟩
theorem small62I {i : Int} (h : small62 i = true) : -(2 ^ 62) ≤ i ∧ i < 2 ^ 62 := by
  unfold small62 at h
  simpa using h
theorem s_rng (g : Good X C cl n c wx) {f : Str} {x : Expr} {e : E} {p pos : Pos} (hf : bltC c f "range" = true) (hs : notStar x = true) (hx : PE X x (tE X C cl wx e)) : PI X tg (.Call (.Name f p) [x] [] pos) (tSrc X C cl wx (.rng e)) := by
  obtain ⟨rfl, gf⟩ := g.blt hf
  have hm : X.mg (Str.ofString "range") = none := g.nob _ (by decide)
  refine (pi_range1 gf hm (pa_cons hx pa_nil (star1 hs _ _)) (star1 hs _ _)).imp fun σ H Q q => ?_
  obtain ⟨L, Z, S, env, at_, post⟩ := q
  simp only [evI] at post
  refine ⟨L, Z, S, env, at_, post.bind fun d S1 H1 L1 v e1 s1 r1 q1 => ?_⟩
  split at q1
  · rename_i j
    cases r1.pI
    split at q1
    · rename_i hj
      obtain ⟨h1, h2⟩ := small62I hj
      exact ⟨j, rfl, h1, h2, post_ok q1 s1 walk_r⟩
    · exact (show False from q1).elim
  · exact (show False from q1).elim
theorem walk_rR {n : Nat} {K : PySem.W.Frag} {Z : List Addr} {H1 : Hp} {L1 : List Addr} : WalkR K Z H1 L1 (Itc ((n : Int) - 1) (-1) n) ⟨rangeR n, fun _ => true⟩ := by
  intro i H2 L2 Z2 S2 e z s st
  refine ⟨fun d hd => ?_, fun hi => ?_⟩
  · have hd' : (rangeR n)[i]? = some d := hd
    unfold rangeR at hd'
    rw [List.getElem?_map, Option.map_eq_some_iff] at hd'
    obtain ⟨j, hj, e2⟩ := hd'
    obtain ⟨hlt, e3⟩ := List.getElem?_eq_some_iff.mp hj
    rw [List.getElem_range] at e3
    rw [List.length_range] at hlt
    subst e3 e2
    refine ⟨hlt, fun x H3 y => ?_⟩
    obtain ⟨y1, y2⟩ := y
    subst y1 y2
    refine ⟨Ext.refl, s, ?_⟩
    rw [show (n : Int) - 1 + (i : Nat) * (-1) = (n : Int) - 1 - (i : Int) by omega]
    exact .p (.int _)
  · have : (rangeR n).length = i := hi
    unfold rangeR at this
    simp only [List.length_map, List.length_range] at this
    show n ≤ i
    omega
theorem s_rev' (g : Good X C cl n c wx) {f f' : Str} {x : Expr} {e : E} {p p' pos pos' : Pos} (hf : bltC c f "reversed" = true) (hf' : bltC c f' "range" = true) (hs : notStar x = true) (hx : PE X x (tE X C cl wx e)) : PI X tg (.Call (.Name f p) [.Call (.Name f' p') [x] [] pos'] [] pos) (tSrc X C cl wx (.rev e)) := by
  obtain ⟨rfl, gf⟩ := g.blt hf
  obtain ⟨rfl, gf'⟩ := g.blt hf'
  have hm : X.mg (Str.ofString "range") = none := g.nob _ (by decide)
  have hm' : X.mg (Str.ofString "reversed") = none := g.nob _ (by decide)
  refine (pi_revR gf hm' (prg_1 gf' hm hx (star1 hs _ _)) rfl).imp fun σ H Q q => ?_
  obtain ⟨L, Z, S, env, at_, post⟩ := q
  simp only [evI] at post
  refine ⟨L, Z, S, env, at_, post.bind fun d S1 H1 L1 v e1 s1 r1 q1 => ?_⟩
  split at q1
  · rename_i j
    cases r1.pI
    split at q1
    · rename_i hj
      obtain ⟨h1, h2⟩ := small62I hj
      refine ⟨j, rfl, by omega, by omega, h1, h2, ?_⟩
      refine post_ok q1 s1 ?_
      rw [show (0 : Int) + ((((j - 0).toNat : Nat)) : Int) - 1 = ((j.toNat : Nat) : Int) - 1 by rw [Int.sub_zero]; omega, Int.sub_zero]
      exact walk_rR
    · exact (show False from q1).elim
  · exact (show False from q1).elim
theorem s_rng2 (g : Good X C cl n c wx) {f : Str} {x y : Expr} {e e' : E} {p pos : Pos} (hf : bltC c f "range" = true) (hs : notStar x = true) (hs' : notStar y = true) (hx : PE X x (tE X C cl wx e)) (hy : PE X y (tE X C cl wx e')) :
    PI X tg (.Call (.Name f p) [x, y] [] pos) (tSrc X C cl wx (.rng2 e e')) := by
  obtain ⟨rfl, gf⟩ := g.blt hf
  have hm : X.mg (Str.ofString "range") = none := g.nob _ (by decide)
  have h2 : starEach [y] X.env = [(false, eval y X.env)] := star1 hs' _ _
  refine (pi_range2 gf hm (pa_cons hx (pa_cons hy pa_nil h2) (star1 hs _ _)) (by rw [star1 hs, h2]) h2).imp fun σ H Q q => ?_
  obtain ⟨L, Z, S, env, at_, post⟩ := q
  simp only [evI] at post
  refine ⟨L, Z, S, env, at_, post.bind fun d S1 H1 L1 v e1 s1 r1 q1 => ?_⟩
  refine ⟨L1, Z, S1, env, at_.later e1 s1, q1.bind fun d2 S2 H2 L2 u e2 s2 r2 q2 => ?_⟩
  split at q2
  · rename_i i j
    cases r1.pI
    cases r2.pI
    split at q2
    · rename_i hj
      simp only [Bool.and_eq_true] at hj
      obtain ⟨h1, h2⟩ := small62I hj.1
      obtain ⟨h3, h4⟩ := small62I hj.2
      exact ⟨i, j, rfl, ⟨h1, h2, h3, h4⟩, post_ok q2 s2 walk_r⟩
    · exact (show False from q2).elim
  · exact (show False from q2).elim
end
end Mx
end

section
set_option Elab.async false
set_option linter.all false
set_option maxRecDepth 100000
set_option autoImplicit false
set_option maxHeartbeats 4000000
namespace Mx
open PySem L2 PySem.Spec PyProof.Rows
variable [WW]
/-! ### count and index of tuples and lists that aren't written -/
section
variable {K : PySem.W.Frag} {H : Hp} {L Z : List Addr} {S : Sto}
theorem plainAll_py : ∀ xs : List P, plainL xs = true → PyData.plainAll (pyL xs) = true ∧ PyData.canLayAll0 (pyL xs) = true
  | xs, h => by
    have key : ∀ x : P, x.plain = true → x.py.plain = true := by
      intro x
      induction x using P.rec (motive_2 := fun xs => plainL xs = true → PyData.plainAll (pyL xs) = true) with
      | non => intro _; rfl
      | bl b => intro _; rfl
      | int i => intro _; rfl
      | str s => intro _; rfl
      | rep p _ => intro h; simp [P.plain] at h
      | tup xs ih => intro h; simp only [P.py, PyData.plain]; exact ih (by simpa [P.plain] using h)
      | lst xs ih => intro h; simp only [P.py, PyData.plain]; exact ih (by simpa [P.plain] using h)
      | dct ks xs _ => intro h; simp [P.plain] at h
      | nil => rfl
      | cons x r ih1 ih2 =>
        rename_i h0
        have h' : x.plain = true ∧ plainL r = true := by simpa [plainL] using h0
        simp only [pyL, PyData.plainAll, ih1 h'.1, ih2 h'.2, Bool.and_self]
    refine ⟨?_, canLayL xs h⟩
    induction xs with
    | nil => rfl
    | cons x r ih =>
      have h' : x.plain = true ∧ plainL r = true := by simpa [plainL] using h
      simp only [pyL, PyData.plainAll, key x h'.1, ih h'.2, Bool.and_self]
theorem plain_py {x : P} (h : x.plain = true) : x.py.plain = true := by
  have := (plainAll_py [x] (by simp [plainL, h])).1
  simpa [pyL, PyData.plainAll] using this
theorem countP_py (d : P) : ∀ xs : List P, ((pyL xs).countP fun z => PyData.eqv z d.py) = xs.countP fun z => P.eqv z d
  | [] => rfl
  | x :: r => by simp only [pyL, List.countP_cons, P.eqv_py, countP_py d r]
theorem idxP_some {y : P} : ∀ {xs : List P} {j : Nat}, idxP y xs = some j → (∃ x, xs[j]? = some x ∧ P.eqv x y = true) ∧ ∀ (m : Nat) (x : P), m < j → xs[m]? = some x → P.eqv x y = false
  | [], j, h => by simp [idxP] at h
  | x :: r, j, h => by
    simp only [idxP] at h
    split at h
    · rename_i e
      cases h
      exact ⟨⟨x, rfl, e⟩, fun m _ hm => absurd hm (Nat.not_lt_zero _)⟩
    · rename_i e
      obtain ⟨i, h1, rfl⟩ := Option.map_eq_some_iff.mp h
      obtain ⟨⟨z, h2, h3⟩, h4⟩ := idxP_some h1
      refine ⟨⟨z, by simpa using h2, h3⟩, fun m w hm hw => ?_⟩
      cases m with
      | zero => simp at hw; subst hw; simpa using e
      | succ m => exact h4 m w (by omega) (by simpa using hw)
theorem pyL_get : ∀ {xs : List P} {j : Nat} {x : P}, xs[j]? = some x → (pyL xs)[j]? = some x.py
  | [], _, _, h => by simp at h
  | x :: r, 0, y, h => by simp at h; subst h; rfl
  | x :: r, j + 1, y, h => by simpa [pyL] using pyL_get (xs := r) (by simpa using h)
end
section
variable {X : Cx}
/-- l.count(x) -/
theorem call_countL (hu : X.A.units + 65 < cLine) {pins : List (Addr × Obj)} {s : Shared} {σ : L2.St} {H : Hp} {Q : VK} {a : Addr} {ys : List V} {ds : List PyData} {y : V} {d : PyData} {u : Value} (I : Inv X pins σ H s) (ha : H a = some (.lst ys)) (hy : DpAll X.K H ys ds) (hd : Dp X.K H y d) (ru : RelV y u)
    (p1 : PyData.plainAll ds = true) (p2 : d.plain = true) (dp : d.depth ≤ 60) (q : Q (.int ((ds.countP fun z => PyData.eqv z d : Nat) : Int)) H) :
    wpAny (model X.prog X.w) X.A (call (.builtin "list.count") [.ref a, u]) (EP X pins σ Q) X.xe s := by
  obtain ⟨its, r1, pl, hz⟩ := I.list (.of ha)
  obtain ⟨as, rs⟩ := Dp.readsAll I ds ys its hy r1
  obtain ⟨bs, rb⟩ := Dp.reads I d y u hd ru
  have I1 : Inv X pins σ H { s with toks := s.toks + 1 } := I.kept (h' := s.heap) (t' := s.toks + 1) (fun _ _ q => q)
  exact PySem.SeqAt.count_list_data (vs := its.toArray) pl.isList rs rb p1 p2 (by omega) ⟨.int _, H, I1, ⟨_, rfl⟩, q⟩
/-- t.index(x) -/
theorem call_indexT (hu : X.A.units + 65 < cLine) {pins : List (Addr × Obj)} {s : Shared} {σ : L2.St} {H : Hp} {Q : VK} {a : Addr} {ys : List V} {ds : List PyData} {y : V} {d : PyData} {u : Value} {j : Nat} {z : PyData} (I : Inv X pins σ H s) (ha : SqT X.K H a ys) (hy : DpAll X.K H ys ds) (hd : Dp X.K H y d) (ru : RelV y u)
    (p1 : PyData.canLayAll0 ds = true) (p2 : d.canLay0 = true) (dp : d.depth ≤ 60) (hz : ds[j]? = some z) (hzj : PyData.eqv z d = true) (hno : ∀ (m : Nat) (z' : PyData), m < j → ds[m]? = some z' → PyData.eqv z' d = false) (q : Q (.int (j : Int)) H) :
    wpAny (model X.prog X.w) X.A (call (.builtin "tuple.index") [.ref a, u]) (EP X pins σ Q) X.xe s := by
  obtain ⟨its, rv, ⟨⟨cls, dd, data, sls⟩, ho, hc, n, hdt⟩, hlen⟩ := I.tuple ha
  simp only at hc hdt
  subst hc hdt
  obtain ⟨bs, r1⟩ := Dp.reads I d y u hd ru
  obtain ⟨as, h4⟩ := Dp.readsAll I ds ys its hy rv
  have hn : its.length = ds.length := SeqAt.ReadsAll.length ds its as h4
  have hmap : its.map (SeqAt.readOf s.heap) = ds := SeqAt.readsAll_map ds its as p1 h4
  obtain ⟨hjd, _⟩ := List.getElem?_eq_some_iff.mp hz
  have hj : j < its.toArray.size := by simp only [List.size_toArray]; omega
  have at_ : ∀ (m : Nat) (hm : m < its.toArray.size) (z' : PyData), ds[m]? = some z' → SeqAt.readOf s.heap its.toArray[m] = z' := by
    intro m hm z' hz'
    have hml : m < its.length := by simpa using hm
    rw [← hmap, List.getElem?_map, List.getElem?_eq_getElem hml] at hz'
    have e1 : SeqAt.readOf s.heap its[m] = z' := Option.some.inj (show some (SeqAt.readOf s.heap its[m]) = some z' from hz')
    simpa using e1
  have eqs := SeqAt.items_eqAt (vs := its.toArray) (A := X.A) (show ReadsAll s.heap its.toArray.toList ds as from h4) r1 p1 p2 (by omega)
  refine call_meets PySem.F.slot_tuple_index ⟨_, ho, rfl⟩ PySem.F.entry_tuple_index (PySem.F.args_tuple_index_2 _ _)
    (SeqAt.tuple_index2_found a its.toArray n dd sls u (fun m => if hm : m < its.toArray.size then PyData.eqv (SeqAt.readOf s.heap its.toArray[m]) d else false) j hj (Nat.zero_le _) hj ?_ ?_) ⟨ho, fun m hm => ?_, ?_⟩
  · rw [dif_pos hj, at_ j hj z hz]; exact hzj
  · intro m hm _ hmj
    have hmd : m < ds.length := by simp only [List.size_toArray] at hm; omega
    have hz' : ds[m]? = some ds[m] := List.getElem?_eq_getElem hmd
    rw [dif_pos hm, at_ m hm _ hz']
    exact hno m _ hmj hz'
  · rw [dif_pos hm]
    exact eqs _ (Array.getElem_mem hm)
  · exact ⟨.int (j : Nat), H, I.tok _, ⟨_, rfl⟩, q⟩
end

section
variable {X : Cx} {C : Nat → List D → Sto → R D} {cl : Nat → Value} {n : Nat} {c : Ck} {wx : WX}
theorem vals1' {x : V} {us : List Value} (h : Vals [x] us) : ∃ u, us = [u] ∧ RelV x u := by
  cases h with
  | cons h1 h2 => cases h2; exact ⟨_, rfl, h1⟩
def nmM : Mth → Str
  | .count => "count"
  | _ => "index"
theorem mthq_some {m : Mth} {x : D} {ds : List D} {p : P} (h : mthq m x ds = some p) : ∃ xs y, seqD x = some xs ∧ ds = [.p y] ∧ plainL xs = true ∧ y.plain = true ∧ depL xs ≤ 58 ∧ y.dep ≤ 58 ∧
    ((m = .count ∧ p = .int ((xs.countP fun z => P.eqv z y : Nat) : Int)) ∨ ∃ j : Nat, m = .index ∧ idxP y xs = some j ∧ p = .int (j : Int)) := by
  unfold mthq at h
  split at h
  · rename_i xs y e1
    split at h
    · rename_i hc
      simp only [Bool.and_eq_true, decide_eq_true_eq] at hc
      obtain ⟨⟨⟨c1, c2⟩, c3⟩, c4⟩ := hc
      refine ⟨xs, y, e1, rfl, c1, c2, c3, c4, ?_⟩
      split at h
      · cases h; exact .inl ⟨rfl, rfl⟩
      · obtain ⟨j, h1, h2⟩ := Option.map_eq_some_iff.mp h
        exact .inr ⟨_, rfl, h1, h2.symm⟩
      · cases h
    · cases h
  · cases h
theorem s_ci (g : Good X C cl n c wx) {m : Mth} {nm : Str} {ox x_ : Expr} {o e : E} {apos cpos : Pos} (hns : isNS ox = true) (hm : isCI m = true) (hn : nm = nmM m) (hl : (apos.endLine == cpos.line) = true) (hs : notStar x_ = true) (ho : PE X ox (tE X C cl wx o)) (hx : PE X x_ (tE X C cl wx e)) :
    PE X (.Call (.Attribute ox nm apos) [x_] [] cpos) (tE X C cl wx (.mth m o (.cons e .nil))) := by
  have hu := g.units
  have hs1 : starEach [x_] X.env = (false, eval x_ X.env) :: starEach [] X.env := star1 hs _ _
  have hA : PA X [x_] (tEs X C cl wx (.cons e .nil)) := s_cons hs hx s_nil
  refine ⟨fun pins s σ H Q I q => ?_⟩
  obtain ⟨L, Z, S, env, at_, post⟩ := q
  simp only [evE, hm, if_true] at post
  have hrun := ho.run pins s σ H (fun v H1 => ∃ x S1 L1, At X.K H1 L1 Z S1 σ env ∧ RD X.K H1 L1 Z v x ∧ (seqD x).isSome = true ∧ Post X.K H1 L1 Z (wE cl (L2.WE wx σ)) (relD X.K Z) ((evEs C (.cons e .nil) env S1).bind fun ds S2 => pu (mthq m x ds) S2) Q) I
    ⟨L, Z, S, env, at_, post.bind fun x S1 H1 L1 v e1 s1 r1 q1 => by
      split at q1
      · rename_i hq
        exact ⟨x, S1, L1, at_.later e1 s1, r1, hq, q1⟩
      · exact (show False from q1).elim⟩
  have hbase : attributeBase ox nm X.env (eval ox X.env) = eval ox X.env := by cases ox <;> first | rfl | cases hns
  refine wpAny_Call_method_late hbase (by rw [hs1]; rfl) hl rfl (thn hrun fun v s1 ⟨xv, H1, I1, r1, x, S1, L1, at1, rd, hsq, q1⟩ => ?_)
  -- the argument, behind the method's name
  have hargs : ∀ {id : String}, (∀ (u : V) (uu : Value) (s2 : Shared) (H2 : Hp) (L2 : List Addr) (S2 : Sto) (xs : List P) (y p : P), Inv X pins σ H2 s2 → RelV u uu → Ext H1 L1 H2 L2 → StR X.K H2 L2 Z S2 → Rp X.K H2 L2 Z u y → seqD x = some xs →
      plainL xs = true → y.plain = true → depL xs ≤ 58 → y.dep ≤ 58 → ((m = .count ∧ p = .int ((xs.countP fun z => P.eqv z y : Nat) : Int)) ∨ ∃ j : Nat, m = .index ∧ idxP y xs = some j ∧ p = .int (j : Int)) → (∀ w, Rp X.K H2 L2 Z w p → Q w H2) →
      wpAny (model X.prog X.w) X.A (call (.builtin id) [v, uu]) (EP X pins σ Q) X.xe s2) →
      wpAny (model X.prog X.w) X.A (callWith cpos (.builtin id) [v] (backTo cpos (starEach [x_] X.env)) (backToKw cpos (keywordEach [] X.env))) (EP X pins σ Q) X.xe s1 := fun {id} k => by
    have hA' := hA.run cpos pins s1 σ H1 (fun vs H2 => ∃ u L2 S2 xs y p, vs = [u] ∧ Ext H1 L1 H2 L2 ∧ StR X.K H2 L2 Z S2 ∧ Rp X.K H2 L2 Z u y ∧ seqD x = some xs ∧ plainL xs = true ∧ y.plain = true ∧ depL xs ≤ 58 ∧ y.dep ≤ 58 ∧
        ((m = .count ∧ p = .int ((xs.countP fun z => P.eqv z y : Nat) : Int)) ∨ ∃ j : Nat, m = .index ∧ idxP y xs = some j ∧ p = .int (j : Int)) ∧ (∀ w, Rp X.K H2 L2 Z w p → Q w H2)) I1
      ⟨L1, Z, S1, env, at1, q1.bind fun ds S2 H2 L2 us e2 s2 r2 q2 => by
        obtain ⟨p, hp, q3⟩ := pu_post q2
        obtain ⟨xs, y, ex, rfl, c1, c2, c3, c4, c5⟩ := mthq_some hp
        obtain ⟨u, rfl, ru⟩ := (show RDL X.K H2 L2 Z us [.p y] from r2).one
        exact ⟨u, L2, S2, xs, y, p, rfl, e2, s2, ru.pI, ex, c1, c2, c3, c4, c5, fun w hw => q3 _ _ Ext.refl s2 hw⟩⟩
    rw [hs1] at hA' ⊢
    refine Calls.callWith_builtin rfl (Calls.evalArgs_plain ?_)
    refine thn hA' fun us s2 ⟨vs, H2, I2, r2, u, L2, S2, xs, y, p, ev, e2, st2, ru, ex, c1, c2, c3, c4, c5, q3⟩ => ?_
    subst ev
    obtain ⟨uu, rfl, ruu⟩ := vals1' r2
    exact k u uu s2 H2 L2 S2 xs y p I2 ruu e2 st2 ru ex c1 c2 c3 c4 c5 q3
  cases x with
  | p z =>
    cases z with
    | tup xs0 =>
      have rp := rd.pI
      have tx : TupX X.K xv H1 := by
        cases rp with
        | tup h d n r => exact ⟨_, rfl, .inl ⟨_, _, h, d⟩⟩
        | tupK h k r => exact ⟨_, rfl, .inr k⟩
      obtain ⟨h1, h2⟩ := tupX_is I1 r1 tx
      cases m with
      | count =>
        subst hn
        refine ⟨"tuple", "tuple.count", PySem.F.plainAttrs_tuple, PySem.F.slot_tuple_count, PySem.F.type_tuple_count, h1, h2, hargs fun u uu s2 H2 L2 S2 xs y p I2 ruu e2 st2 ru ex c1 c2 c3 c4 c5 q3 => ?_⟩
        cases ex
        obtain ⟨a, vs, rfl, hq, hr⟩ := (rp.ext e2).tupI
        rcases c5 with ⟨_, rfl⟩ | ⟨j, hc, _⟩
        · obtain ⟨p1, _⟩ := plainAll_py _ c1
          have d1 := P.depth_py y
          refine Mx.mt_count hu pins s2 σ H2 _ [u] v [uu] Q I2 r1 (.cons ruu .nil) ⟨a, vs, pyL xs0, u, y.py, rfl, rfl, hq, hr.dp c1, ru.dp c2, p1, plain_py c2, by omega, ?_⟩
          rw [countP_py]
          exact q3 _ (.int _)
        · cases hc
      | index =>
        subst hn
        refine ⟨"tuple", "tuple.index", PySem.F.plainAttrs_tuple, PySem.F.slot_tuple_index, PySem.F.type_tuple_index, h1, h2, hargs fun u uu s2 H2 L2 S2 xs y p I2 ruu e2 st2 ru ex c1 c2 c3 c4 c5 q3 => ?_⟩
        cases ex
        obtain ⟨a, vs, rfl, hq, hr⟩ := (rp.ext e2).tupI
        cases r1
        rcases c5 with ⟨hc, _⟩ | ⟨j, _, hj, rfl⟩
        · cases hc
        · obtain ⟨⟨z, z1, z2⟩, z3⟩ := idxP_some hj
          have d1 := P.depth_py y
          refine call_indexT hu I2 hq (hr.dp c1) (ru.dp c2) ruu (canLayL _ c1) (P.canLay _ c2) (by omega) (pyL_get z1) (by rw [P.eqv_py]; exact z2) (fun m' z' hm' hz' => ?_) (q3 _ (.int _))
          have hl := (List.getElem?_eq_some_iff.mp hz').1
          rw [pyL_len] at hl
          have := pyL_get (List.getElem?_eq_getElem hl)
          rw [hz'] at this
          cases this
          rw [P.eqv_py]
          exact z3 m' _ hm' (List.getElem?_eq_getElem hl)
      | _ => cases hm
    | lst xs0 =>
      have rp := rd.pI
      obtain ⟨a, vs0, rfl, ha0, n0, _⟩ := rp.lstI
      obtain ⟨h1, h2⟩ := tyV_is (T := "list") I1 r1 (.inl ⟨rfl, vs0, .of ha0⟩)
      cases r1
      cases m with
      | count =>
        subst hn
        refine ⟨"list", "list.count", PySem.F.plainAttrs_list, PySem.F.slot_list_count, PySem.F.type_list_count, h1, h2, hargs fun u uu s2 H2 L2 S2 xs y p I2 ruu e2 st2 ru ex c1 c2 c3 c4 c5 q3 => ?_⟩
        cases ex
        obtain ⟨a', vs, e', hq, _, hr⟩ := (rp.ext e2).lstI
        cases e'
        rcases c5 with ⟨_, rfl⟩ | ⟨j, hc, _⟩
        · obtain ⟨p1, _⟩ := plainAll_py _ c1
          have d1 := P.depth_py y
          refine call_countL hu I2 hq (hr.dp c1) (ru.dp c2) ruu p1 (plain_py c2) (by omega) ?_
          rw [countP_py]
          exact q3 _ (.int _)
        · cases hc
      | index =>
        subst hn
        refine ⟨"list", "list.index", PySem.F.plainAttrs_list, PySem.F.slot_list_index, PySem.F.type_list_index, h1, h2, hargs fun u uu s2 H2 L2 S2 xs y p I2 ruu e2 st2 ru ex c1 c2 c3 c4 c5 q3 => ?_⟩
        cases ex
        rcases c5 with ⟨hc, _⟩ | ⟨j, _, hj, rfl⟩
        · cases hc
        · obtain ⟨⟨z, z1, z2⟩, z3⟩ := idxP_some hj
          have sl : P.plain (.lst xs0) = true := by simpa [P.plain] using c1
          have dl := (rp.ext e2).dp sl
          refine mt_indexD hu pins s2 σ H2 (.ref a) [u] (.ref a) [uu] Q I2 (show RelV (.ref a) (.ref a) from rfl) (.cons ruu .nil) ⟨a, u, y.py, pyL xs0, j, z.py, rfl, rfl, by simpa [P.py] using dl, ru.dp c2, by simpa [P.py] using P.shaped sl (by simp [P.dep]; omega), P.shaped c2 (by omega), pyL_get z1, by rw [P.eqv_py]; exact z2, fun m' z' hm' hz' => ?_, q3 _ (.int _)⟩
          have hl := (List.getElem?_eq_some_iff.mp hz').1
          rw [pyL_len] at hl
          have := pyL_get (List.getElem?_eq_getElem hl)
          rw [hz'] at this
          cases this
          rw [P.eqv_py]
          exact z3 m' _ hm' (List.getElem?_eq_getElem hl)
      | _ => cases hm
    | _ => cases hsq
  | _ => cases hsq
/-! ### list(range(a, b)) -/
theorem rgV_ints (i j : Int) : rgV i j = ((List.range (j - i).toNat).map fun (k : Nat) => i + (k : Int)).map V.int := by
  unfold rgV
  simp
theorem s_lrng (g : Good X C cl n c wx) {f f' : Str} {x y : Expr} {a b : E} {p p' pos pos' : Pos} (hf : bltC c f "list" = true) (hf' : bltC c f' "range" = true) (hs : notStar x = true) (hs' : notStar y = true) (hx : PE X x (tE X C cl wx a)) (hy : PE X y (tE X C cl wx b)) :
    PE X (.Call (.Name f p) [.Call (.Name f' p') [x, y] [] pos'] [] pos) (tE X C cl wx (.lrng a b)) := by
  obtain ⟨rfl, gf⟩ := g.blt hf
  obtain ⟨rfl, gf'⟩ := g.blt hf'
  have hm : X.mg (Str.ofString "range") = none := g.nob _ (by decide)
  have hm' : X.mg (Str.ofString "list") = none := g.nob _ (by decide)
  have h2 : starEach [y] X.env = [(false, eval y X.env)] := star1 hs' _ _
  refine (pe_listRg g.calm gf hm' (prg_2 gf' hm hx hy (by rw [star1 hs, h2]) h2 (by rw [h2]; rfl)) rfl).imp fun σ H Q q => ?_
  obtain ⟨L, Z, S, env, at_, post⟩ := q
  simp only [evE] at post
  refine ⟨L, Z, S, env, at_, post.bind fun d S1 H1 L1 v e1 s1 r1 q1 => ?_⟩
  refine ⟨L1, Z, S1, env, at_.later e1 s1, q1.bind fun d2 S2 H2 L2 u e2 s2 r2 q2 => ?_⟩
  split at q2
  · rename_i i j
    cases r1.pI
    cases r2.pI
    split at q2
    · rename_i hj
      simp only [Bool.and_eq_true, decide_eq_true_eq] at hj
      obtain ⟨b1, b2⟩ := small62I hj.1.1
      obtain ⟨b3, b4⟩ := small62I hj.1.2
      refine ⟨i, j, rfl, rfl, ⟨b1, b2, b3, b4, by have := hj.2; unfold LIM at this; omega⟩, fun q hq => ?_⟩
      have rl := RpL.ints (K := X.K) (H := H2) (L := L2) (Z := Z) ((List.range (j - i).toNat).map fun (k : Nat) => i + (k : Int))
      rw [← rgV_ints] at rl
      obtain ⟨n1, n2, n3⟩ := new_lst s2 rl hq
      refine q2 _ _ _ n1 n2 (.p ?_)
      rw [List.map_map] at n3
      exact n3
    · exact (show False from q2).elim
  · exact (show False from q2).elim
end
section
variable {K : PySem.W.Frag} {Z : List Addr} {H1 : Hp} {L1 : List Addr}
theorem rev_get {vs : List V} {i : Nat} {v : V} (h : vs.reverse[i]? = some v) : i < vs.length ∧ vs[vs.length - 1 - i]? = some v := by
  have hi := (List.getElem?_eq_some_iff.mp h).1
  rw [List.length_reverse] at hi
  rw [List.getElem?_reverse hi] at h
  exact ⟨hi, h⟩
theorem walk_rvL {a : Addr} {w : Walked} {n : Nat} (h : ∀ (H2 : Hp) (L2 Z2 : List Addr) (S2 : Sto), ExtZ Z H1 L1 H2 L2 → Zx H1 Z Z2 → StR K H2 L2 Z2 S2 → w.stay S2 = true → ∃ vs, SqL K H2 a vs ∧ vs.length = n ∧ RDL K H2 L2 Z2 vs.reverse w.ds) : WalkR K Z H1 L1 (Itv K a n) w := by
  intro i H2 L2 Z2 S2 e z s st
  obtain ⟨vs, hq, hn, r⟩ := h H2 L2 Z2 S2 e z s st
  refine ⟨fun d hd => ?_, fun hi => ?_⟩
  · obtain ⟨v, h1, h2⟩ := r.get hd
    obtain ⟨g1, g2⟩ := rev_get h1
    rw [hn] at g1 g2
    refine ⟨⟨g1, vs, v, hq, g2⟩, fun x H3 y => ?_⟩
    obtain ⟨y1, y2⟩ := y
    subst y1
    have := y2 vs hq
    rw [g2] at this
    cases this
    exact ⟨Ext.refl, s, h2⟩
  · have := r.len
    rw [List.length_reverse, hn] at this
    show n ≤ i
    omega
theorem walk_rvT {a : Addr} {w : Walked} {n : Nat} (h : ∀ (H2 : Hp) (L2 Z2 : List Addr) (S2 : Sto), ExtZ Z H1 L1 H2 L2 → Zx H1 Z Z2 → StR K H2 L2 Z2 S2 → w.stay S2 = true → ∃ vs, SqT K H2 a vs ∧ vs.length = n ∧ RDL K H2 L2 Z2 vs.reverse w.ds) : WalkR K Z H1 L1 (RT.ItvT K a n) w := by
  intro i H2 L2 Z2 S2 e z s st
  obtain ⟨vs, hq, hn, r⟩ := h H2 L2 Z2 S2 e z s st
  refine ⟨fun d hd => ?_, fun hi => ?_⟩
  · obtain ⟨v, h1, h2⟩ := r.get hd
    obtain ⟨g1, g2⟩ := rev_get h1
    rw [hn] at g1 g2
    refine ⟨⟨g1, vs, v, hq, g2⟩, fun x H3 y => ?_⟩
    obtain ⟨y1, y2⟩ := y
    subst y1
    have := y2 vs hq
    rw [g2] at this
    cases this
    exact ⟨Ext.refl, s, h2⟩
  · have := r.len
    rw [List.length_reverse, hn] at this
    show n ≤ i
    omega
end
section
variable {X : Cx} {C : Nat → List D → Sto → R D} {cl : Nat → Value} {n : Nat} {c : Ck} {wx : WX} {tg : Expr}
theorem s_revA (g : Good X C cl n c wx) {f : Str} {x : Expr} {e : E} {p pos : Pos} (hf : bltC c f "reversed" = true) (hs : notStar x = true) (hx : PE X x (tE X C cl wx e)) : PI X tg (.Call (.Name f p) [x] [] pos) (tSrc X C cl wx (.revA e)) := by
  obtain ⟨rfl, gf⟩ := g.blt hf
  have hm' : X.mg (Str.ofString "reversed") = none := g.nob _ (by decide)
  refine (RT.pi_revA gf hm' hx (star1 hs _ _)).imp fun σ H Q q => ?_
  obtain ⟨L, Z, S, env, at_, post⟩ := q
  simp only [evI] at post
  refine ⟨L, Z, S, env, at_, post.bind fun d S1 H1 L1 v e1 s1 r1 q1 => ?_⟩
  split at q1
  · rename_i xs
    obtain ⟨a, vs, rfl, ha, n, r⟩ := r1.pI.lstI
    refine ⟨a, vs, rfl, .inl ⟨.of ha, post_ok q1 s1 (walk_rvL fun H2 L2 Z2 S2 e2 z s2 _ => ⟨vs, .of (e2.keep _ _ ha n.1 n.2), rfl, ?_⟩)⟩⟩
    exact (((r.toZ (Zx.out z)).extZ (z.ez e2)).rev).toD
  · rename_i xs
    have rp := r1.pI
    cases rp with
    | tup h0 d n r =>
      have h : Rd H1 _ (.tup _) := .inr ⟨_, h0⟩
      refine ⟨_, _, rfl, .inr ⟨.inl h, post_ok q1 s1 (walk_rvT fun H2 L2 Z2 S2 e2 z s2 _ => ⟨_, .inl ((z.ez e2).rd h (z.out _ (by rw [h0]; simp) n)).1, rfl, ?_⟩)⟩⟩
      exact (((r.toZ (Zx.out z)).extZ (z.ez e2)).rev).toD
    | tupK h k r =>
      refine ⟨_, _, rfl, .inr ⟨sqT_any h, post_ok q1 s1 (walk_rvT fun H2 L2 Z2 S2 e2 z s2 _ => ⟨_, sqT_any h, rfl, ?_⟩)⟩⟩
      exact (((r.toZ (Zx.out z)).extZ (z.ez e2)).rev).toD
  · exact (show False from q1).elim
end
end Mx
end

section
set_option Elab.async false
set_option linter.all false
set_option maxRecDepth 100000
set_option autoImplicit false
set_option maxHeartbeats 4000000
/-! list(zip(a, b)) of two lists -/
namespace Lz
open PySem
theorem zip_no_len : typeLookup (.type "zip") "__len__" = pure none := am_miss_of_fast (by decide +kernel)
theorem zip_no_hint : typeLookup (.type "zip") "__length_hint__" = pure none := am_miss_of_fast (by decide +kernel)
/-- an iterator over a tuple (m) or a list -/
def ItA (m : Bool) (h : Heap) (i l : Addr) (k : Nat) : Prop := match m with | true => h.IsTupleIter i l k | false => h.IsListIter i l k
def SqA (m : Bool) (h : Heap) (l : Addr) (xs : Array Value) : Prop := match m with | true => h.IsTuple l xs | false => h.IsList l xs
theorem ItA.at {m : Bool} {h h' : Heap} {i l : Addr} {k : Nat} (x : ItA m h i l k) (e : ∀ o, h.get? i = some o → h'.get? i = some o) : ItA m h' i l k := by
  cases m with
  | true => exact Heap.IsTupleIter.at x e
  | false => exact Heap.IsListIter.at x e
theorem SqA.at {m : Bool} {h h' : Heap} {l : Addr} {xs : Array Value} (x : SqA m h l xs) (e : ∀ o, h.get? l = some o → h'.get? l = some o) : SqA m h' l xs := by
  cases m with
  | true => exact Heap.IsTuple.at x e
  | false => exact Heap.IsList.at x e
theorem ItA.there {m : Bool} {h : Heap} {i l : Addr} {k : Nat} (x : ItA m h i l k) : ∃ o, h.get? i = some o := by
  cases m with
  | true => exact let ⟨o, e, _⟩ := x; ⟨o, e⟩
  | false => exact let ⟨o, e, _⟩ := x; ⟨o, e⟩
section
variable {prog : Program} {w : World} {A : Around} {E : Value → Shared → Prop} {s : Shared}
/-- the next pair of a zip of tuples whose last pair is still out -/
theorem heldT_b {z TI TO T i1 i2 l1 l2 : Addr} {f : Bool} {oT : Obj} {k : Nat} {xs ys : Array Value} {x y : Value} {Q : Value → Shared → Prop} (D : ZipApart z TI TO i1 i2 l1 l2) (gz : IsZipHeld s.heap z TI TO T f) (gT : s.heap.get? T = some oT)
    (gI : IsPair s.heap TI (.ref i1) (.ref i2)) (m1 : s.heap.IsTupleIter i1 l1 k) (m2 : s.heap.IsTupleIter i2 l2 k) (t1 : s.heap.IsTuple l1 xs) (t2 : s.heap.IsTuple l2 ys) (ex : xs[k]? = some x) (ey : ys[k]? = some y)
    (q : ∀ h', IsZipHeld h' z TI TO T true → h'.IsTupleIter i1 l1 (k + 1) → h'.IsTupleIter i2 l2 (k + 1) → IsPair h' s.heap.objs.size x y → (∀ c o, c ≠ z → c ≠ i1 → c ≠ i2 → s.heap.get? c = some o → h'.get? c = some o) → Q (.ref s.heap.objs.size) { s with heap := h' }) : wpAny (model prog w) A (Builtin.«zip.__next__» ⟨[.ref z], []⟩) (fun d s' => ∃ v, d = .done (.ret v) ∧ Q v s') E s := by
  show wpAny _ _ (field (.ref z) 2 >>= _) _ _ _; refine wpAny_bind (wpAny_field gz rfl (x := .bool false) rfl ?_)
  show wpAny _ _ (field (.ref z) 3 >>= _) _ _ _; refine wpAny_bind (wpAny_field gz rfl (x := .ref TI) rfl (wpAny_bind (wpAny_seqItems gI rfl ?_)))
  show wpAny _ _ (Builtin.SmallTypes.ownedTupleIsFree (.ref z) >>= _) _ _ _; refine wpAny_bind (wpAny_tupleHeld_zip gz gT fun a ga sa => ?_)
  simp only [Bool.false_eq_true, if_false]; refine wpAny_bind ?_
  rw [← Array.forIn_toList]; simp only [List.forIn_cons, List.forIn_nil]
  refine wpAny_bind (wpAny_bind (wpAny_holding ?_)); show wpAny _ _ (Builtin.SmallTypes.nextOf (.ref i1) >>= _) _ _ _
  refine wpAny_bind (RZ.nextOf_tuple_item (s := { s with heap := a }) (m1.at fun o e => sa.extBut _ _ D.i1z e) (t1.at fun o e => sa.extBut _ _ D.l1z e) ex fun b n1 sb => wpAny_pure (wpAny_pure ?_))
  refine wpAny_bind (wpAny_bind (wpAny_holding ?_)); show wpAny _ _ (Builtin.SmallTypes.nextOf (.ref i2) >>= _) _ _ _
  refine wpAny_bind (RZ.nextOf_tuple_item (s := { s with heap := b }) (m2.at fun o e => sb.extBut _ _ D.i12.symm (sa.extBut _ _ D.i2z e)) (t2.at fun o e => sb.extBut _ _ D.l2i1 (sa.extBut _ _ D.l2z e)) ey fun c n2 sc => wpAny_pure (wpAny_pure (wpAny_pure ?_)))
  show wpAny _ _ (newTuple [x, y] >>= _) _ _ _; refine wpAny_bind (wpAny_newTuple ?_)
  have sz : c.objs.size = s.heap.objs.size := by rw [sc.1, sb.1, sa.1]
  have gz' : IsZipHeld c z TI TO T true := sc.extBut _ _ D.i2z.symm (sb.extBut _ _ D.i1z.symm ga)
  have kp : ∀ d o, d ≠ z → d ≠ i1 → d ≠ i2 → s.heap.get? d = some o → c.get? d = some o := fun d o d1 d2 d3 e => sc.extBut _ _ d3 (sb.extBut _ _ d2 (sa.extBut _ _ d1 e))
  refine wpAny_pure ⟨_, rfl, ?_⟩
  show Q (.ref c.objs.size) _
  have np : IsPair (c.push { cls := .type "tuple", data := .seq #[x, y] }) c.objs.size x y := Heap.get?_push_size _ rfl
  rw [sz] at np ⊢
  exact q _ (Heap.get?_push_of_some _ gz') ((n1.at fun o e => sc.extBut _ _ D.i12 e).at fun o e => Heap.get?_push_of_some _ e) (n2.at fun o e => Heap.get?_push_of_some _ e) np fun d o d1 d2 d3 e => Heap.get?_push_of_some _ (kp d o d1 d2 d3 e)
theorem heldT_e {z TI TO T i1 i2 l1 l2 : Addr} {f : Bool} {oT : Obj} {k : Nat} {xs ys : Array Value} {Q : Fin → Shared → Prop} (hh : A.handled = none) (D : ZipApart z TI TO i1 i2 l1 l2) (gz : IsZipHeld s.heap z TI TO T f) (gT : s.heap.get? T = some oT)
    (gI : IsPair s.heap TI (.ref i1) (.ref i2)) (m1 : s.heap.IsTupleIter i1 l1 k) (m2 : s.heap.IsTupleIter i2 l2 k) (t1 : s.heap.IsTuple l1 xs) (t2 : s.heap.IsTuple l2 ys) (ed : xs[k]? = none ∨ ys[k]? = none)
    (fin : ∀ (h' : Heap) (e : Addr), (∀ c o, c ≠ z → c ≠ i1 → c ≠ i2 → s.heap.get? c = some o → h'.get? c = some o) → (∃ o, h'.get? e = some o ∧ o.cls = .type "StopIteration") → E (.ref e) { s with heap := h' }) : wpAny (model prog w) A (Builtin.«zip.__next__» ⟨[.ref z], []⟩) Q E s := by
  show wpAny _ _ (field (.ref z) 2 >>= _) _ _ _; refine wpAny_bind (wpAny_field gz rfl (x := .bool false) rfl ?_)
  show wpAny _ _ (field (.ref z) 3 >>= _) _ _ _; refine wpAny_bind (wpAny_field gz rfl (x := .ref TI) rfl (wpAny_bind (wpAny_seqItems gI rfl ?_)))
  show wpAny _ _ (Builtin.SmallTypes.ownedTupleIsFree (.ref z) >>= _) _ _ _; refine wpAny_bind (wpAny_tupleHeld_zip gz gT fun a ga sa => ?_)
  simp only [Bool.false_eq_true, if_false]; refine wpAny_bind ?_
  rw [← Array.forIn_toList]; simp only [List.forIn_cons, List.forIn_nil]
  refine wpAny_bind (wpAny_bind (wpAny_holding ?_)); show wpAny _ _ (Builtin.SmallTypes.nextOf (.ref i1) >>= _) _ _ _
  cases ex : xs[k]? with
  | none =>
    refine wpAny_bind (RZ.nextOf_tuple_end (s := { s with heap := a }) hh (m1.at fun o e => sa.extBut _ _ D.i1z e) (t1.at fun o e => sa.extBut _ _ D.l1z e) ex fun b e sb he => ?_)
    exact fin b e (fun c o c1 c2 _ g => sb _ _ c2 (sa.extBut _ _ c1 g)) he
  | some x =>
    have ey : ys[k]? = none := by
      rcases ed with g | g
      · rw [ex] at g; cases g
      · exact g
    refine wpAny_bind (RZ.nextOf_tuple_item (s := { s with heap := a }) (m1.at fun o e => sa.extBut _ _ D.i1z e) (t1.at fun o e => sa.extBut _ _ D.l1z e) ex fun b n1 sb => wpAny_pure (wpAny_pure ?_))
    refine wpAny_bind (wpAny_bind (wpAny_holding ?_)); show wpAny _ _ (Builtin.SmallTypes.nextOf (.ref i2) >>= _) _ _ _
    refine wpAny_bind (RZ.nextOf_tuple_end (s := { s with heap := b }) hh (m2.at fun o e => sb.extBut _ _ D.i12.symm (sa.extBut _ _ D.i2z e)) (t2.at fun o e => sb.extBut _ _ D.l2i1 (sa.extBut _ _ D.l2z e)) ey fun c e sc he => ?_)
    exact fin c e (fun d o d1 d2 d3 g => sc _ _ d3 (sb.extBut _ _ d2 (sa.extBut _ _ d1 g))) he
theorem heldT_item {z TI TO T i1 i2 l1 l2 : Addr} {f : Bool} {oT : Obj} {k : Nat} {xs ys : Array Value} {x y : Value} {Q : Option Value → Shared → Prop} (D : ZipApart z TI TO i1 i2 l1 l2) (gz : IsZipHeld s.heap z TI TO T f) (gT : s.heap.get? T = some oT)
    (gI : IsPair s.heap TI (.ref i1) (.ref i2)) (m1 : s.heap.IsTupleIter i1 l1 k) (m2 : s.heap.IsTupleIter i2 l2 k) (t1 : s.heap.IsTuple l1 xs) (t2 : s.heap.IsTuple l2 ys) (ex : xs[k]? = some x) (ey : ys[k]? = some y)
    (q : ∀ h', IsZipHeld h' z TI TO T true → h'.IsTupleIter i1 l1 (k + 1) → h'.IsTupleIter i2 l2 (k + 1) → IsPair h' s.heap.objs.size x y → (∀ c o, c ≠ z → c ≠ i1 → c ≠ i2 → s.heap.get? c = some o → h'.get? c = some o) → Q (some (.ref s.heap.objs.size)) { s with heap := h' }) : wpAny (model prog w) A (pyNext (.ref z)) Q E s := by
  have ty : s.TypeIs (.ref z) "zip" := ⟨_, gz, rfl⟩
  unfold pyNext
  exact wpAny_bind (wpAny_attempt (wpAny_callSpecial?_slot (name := Str.ofString "__next__") ty F.slot_zip_next (wpAny_call_entry F.slot_zip_next ty F.entry_zip_next (heldT_b D gz gT gI m1 m2 t1 t2 ex ey fun h' a1 a2 a3 a4 a5 => wpAny_pure (q h' a1 a2 a3 a4 a5)) (F.args_zip_next_1 _))))
theorem heldT_end {z TI TO T i1 i2 l1 l2 : Addr} {f : Bool} {oT : Obj} {k : Nat} {xs ys : Array Value} {Q : Option Value → Shared → Prop} (hh : A.handled = none) (D : ZipApart z TI TO i1 i2 l1 l2) (gz : IsZipHeld s.heap z TI TO T f) (gT : s.heap.get? T = some oT)
    (gI : IsPair s.heap TI (.ref i1) (.ref i2)) (m1 : s.heap.IsTupleIter i1 l1 k) (m2 : s.heap.IsTupleIter i2 l2 k) (t1 : s.heap.IsTuple l1 xs) (t2 : s.heap.IsTuple l2 ys) (ed : xs[k]? = none ∨ ys[k]? = none)
    (q : ∀ h', (∀ c o, c ≠ z → c ≠ i1 → c ≠ i2 → s.heap.get? c = some o → h'.get? c = some o) → Q none { s with heap := h' }) : wpAny (model prog w) A (pyNext (.ref z)) Q E s := by
  have ty : s.TypeIs (.ref z) "zip" := ⟨_, gz, rfl⟩
  unfold pyNext
  refine wpAny_bind (wpAny_attempt (wpAny_callSpecial?_slot (name := Str.ofString "__next__") ty F.slot_zip_next (wpAny_call_entry F.slot_zip_next ty F.entry_zip_next (heldT_e hh D gz gT gI m1 m2 t1 t2 ed fun h' e hk he => ?_) (F.args_zip_next_1 _))))
  obtain ⟨o, ho, hc⟩ := he
  refine wpAny_bind (wpAny_isInstance (T := "StopIteration") (b := true) ⟨o, ho, hc⟩ isSubtype_stop ?_); exact wpAny_pure (q _ hk)
end
/-- a zip over two lists or two tuples, i pairs given out -/
def ZipSt (m : Bool) (h : Heap) (z TI TO i1 i2 l1 l2 d : Addr) (xs ys : Array Value) (i : Nat) : Prop :=
  IsPair h TI (.ref i1) (.ref i2) ∧ ItA m h i1 l1 i ∧ ItA m h i2 l2 i ∧ SqA m h l1 xs ∧ SqA m h l2 ys ∧
  ((IsZip h z TI TO .none ∧ ∃ a b, IsPair h TO a b) ∨ ∃ T f oT, IsZipHeld h z TI TO T f ∧ h.get? T = some oT ∧ T ≠ z ∧ T ≠ i1 ∧ T ≠ i2 ∧ T ≠ d)
/-- the pairs given out -/
def PairsAt (h : Heap) (b0 : Addr) (xs ys : Array Value) (acc : Array Value) : Prop :=
  acc.toList.Nodup ∧ ∀ (j : Nat) (v : Value), acc[j]? = some v → ∃ (T : Addr) (x y : Value), v = Value.ref T ∧ xs[j]? = some x ∧ ys[j]? = some y ∧ IsPair h T x y ∧ b0 ≤ T
/-- the list lies apart -/
structure Off (d z TI TO i1 i2 l1 l2 : Addr) : Prop where
  z : d ≠ z
  TI : d ≠ TI
  TO : d ≠ TO
  i1 : d ≠ i1
  i2 : d ≠ i2
  l1 : d ≠ l1
  l2 : d ≠ l2
section
variable {m : Bool} {prog : Program} {w : World} {A : Around} {s : Shared} {z TI TO i1 i2 l1 l2 d b0 : Addr} {xs ys : Array Value}
theorem ZipSt.frame {h h' : Heap} {i : Nat} (O : Off d z TI TO i1 i2 l1 l2) (st : ZipSt m h z TI TO i1 i2 l1 l2 d xs ys i) (hk : ∀ b o, b ≠ d → h.get? b = some o → h'.get? b = some o) : ZipSt m h' z TI TO i1 i2 l1 l2 d xs ys i := by
  obtain ⟨hTI, h1, h2, hl1, hl2, hz⟩ := st
  refine ⟨hk _ _ O.TI.symm hTI, h1.at fun o e => hk _ o O.i1.symm e, h2.at fun o e => hk _ o O.i2.symm e, hl1.at fun o e => hk _ o O.l1.symm e, hl2.at fun o e => hk _ o O.l2.symm e, ?_⟩
  rcases hz with ⟨hz, a, b, hTO⟩ | ⟨T, f, oT, hz, hT, r1, r2, r3, r4⟩
  · exact .inl ⟨hk _ _ O.z.symm hz, a, b, hk _ _ O.TO.symm hTO⟩
  · exact .inr ⟨T, f, oT, hk _ _ O.z.symm hz, hk _ _ r4 hT, r1, r2, r3, r4⟩
theorem zip_item {E : Value → Shared → Prop} {Q : Option Value → Shared → Prop} (D : ZipApart z TI TO i1 i2 l1 l2) {i : Nat} {x y : Value} (st : ZipSt m s.heap z TI TO i1 i2 l1 l2 d xs ys i) (ex : xs[i]? = some x) (ey : ys[i]? = some y) (hds : d < s.heap.objs.size)
    (hQ : ∀ h', ZipSt m h' z TI TO i1 i2 l1 l2 d xs ys (i + 1) → IsPair h' s.heap.objs.size x y → (∀ c o, c ≠ z → c ≠ TO → c ≠ i1 → c ≠ i2 → s.heap.get? c = some o → h'.get? c = some o) → Q (some (.ref s.heap.objs.size)) { s with heap := h' }) :
    wpAny (model prog w) A (pyNext (.ref z)) Q E s := by
  obtain ⟨hTI, h1, h2, hl1, hl2, hz⟩ := st
  have lt : ∀ {c o}, s.heap.get? c = some o → s.heap.objs.size ≠ c := fun e => Nat.ne_of_gt (Heap.lt_size e)
  have n1 : s.heap.objs.size ≠ i1 := let ⟨_, e⟩ := h1.there; lt e
  have n2 : s.heap.objs.size ≠ i2 := let ⟨_, e⟩ := h2.there; lt e
  cases m with
  | true =>
    rcases hz with ⟨hz, a, b, hTO⟩ | ⟨T, f, oT, hz, hT, r1, r2, r3, r4⟩
    · refine RZ.pyNext_zipT_item D hz hTI hTO h1 h2 hl1 hl2 ex ey fun h' a1 a2 a3 a4 a5 a6 hk => ?_
      exact hQ h' ⟨hk _ _ D.TIz D.TITO D.TIi1 D.TIi2 hTI, a3, a4, hl1.at fun o e => hk _ o D.l1z D.l1TO D.l1i1 D.l1i2 e, hl2.at fun o e => hk _ o D.l2z D.l2TO D.l2i1 D.l2i2 e,
          .inr ⟨s.heap.objs.size, false, _, a1, a5, lt hz, n1, n2, Nat.ne_of_gt hds⟩⟩ a5 hk
    · refine heldT_item D hz hT hTI h1 h2 hl1 hl2 ex ey fun h' a1 a3 a4 a5 hk => ?_
      exact hQ h' ⟨hk _ _ D.TIz D.TIi1 D.TIi2 hTI, a3, a4, hl1.at fun o e => hk _ o D.l1z D.l1i1 D.l1i2 e, hl2.at fun o e => hk _ o D.l2z D.l2i1 D.l2i2 e,
          .inr ⟨T, true, oT, a1, hk _ _ r1 r2 r3 hT, r1, r2, r3, r4⟩⟩ a5 fun c o c1 _ c3 c4 e => hk c o c1 c3 c4 e
  | false =>
  rcases hz with ⟨hz, a, b, hTO⟩ | ⟨T, f, oT, hz, hT, r1, r2, r3, r4⟩
  · refine wpAny_pyNext_zip_item D hz hTI hTO h1 h2 hl1 hl2 ex ey fun h' a1 a2 a3 a4 a5 a6 hk => ?_
    exact hQ h' ⟨hk _ _ D.TIz D.TITO D.TIi1 D.TIi2 hTI, a3, a4, hl1.at fun o e => hk _ o D.l1z D.l1TO D.l1i1 D.l1i2 e, hl2.at fun o e => hk _ o D.l2z D.l2TO D.l2i1 D.l2i2 e,
        .inr ⟨s.heap.objs.size, false, _, a1, a5, lt hz, n1, n2, Nat.ne_of_gt hds⟩⟩ a5 hk
  · refine wpAny_pyNext_zip_item_held D hz hT hTI h1 h2 hl1 hl2 ex ey fun h' a1 a3 a4 a5 a6 hk => ?_
    exact hQ h' ⟨hk _ _ D.TIz D.TIi1 D.TIi2 hTI, a3, a4, hl1.at fun o e => hk _ o D.l1z D.l1i1 D.l1i2 e, hl2.at fun o e => hk _ o D.l2z D.l2i1 D.l2i2 e,
        .inr ⟨T, true, oT, a1, hk _ _ r1 r2 r3 hT, r1, r2, r3, r4⟩⟩ a5 fun c o c1 _ c3 c4 e => hk c o c1 c3 c4 e
theorem zip_done {E : Value → Shared → Prop} {Q : Option Value → Shared → Prop} (hh : A.handled = none) (D : ZipApart z TI TO i1 i2 l1 l2) {i : Nat} (st : ZipSt m s.heap z TI TO i1 i2 l1 l2 d xs ys i) (hend : xs[i]? = none ∨ ys[i]? = none)
    (hQ : ∀ h', (∀ c o, c ≠ z → c ≠ TO → c ≠ i1 → c ≠ i2 → s.heap.get? c = some o → h'.get? c = some o) → Q none { s with heap := h' }) :
    wpAny (model prog w) A (pyNext (.ref z)) Q E s := by
  obtain ⟨hTI, h1, h2, hl1, hl2, hz⟩ := st
  cases m with
  | true =>
    rcases hz with ⟨hz, a, b, hTO⟩ | ⟨T, f, oT, hz, hT, r1, r2, r3, r4⟩
    · exact RZ.pyNext_zipT_end hh D hz hTI hTO h1 h2 hl1 hl2 hend fun h' hk => hQ h' fun c o c1 c2 c3 c4 e => hk c o c1 c2 c3 c4 e
    · exact heldT_end hh D hz hT hTI h1 h2 hl1 hl2 hend fun h' hk => hQ h' fun c o c1 c2 c3 c4 e => hk c o c1 c3 c4 e
  | false =>
  rcases hz with ⟨hz, a, b, hTO⟩ | ⟨T, f, oT, hz, hT, r1, r2, r3, r4⟩
  · exact wpAny_pyNext_zip_end hh D hz hTI hTO h1 h2 hl1 hl2 hend fun h' hk => hQ h' fun c o c1 c2 c3 c4 e => hk c o c1 c2 c3 c4 e
  · exact wpAny_pyNext_zip_end_held hh D hz hT hTI h1 h2 hl1 hl2 hend fun h' hk => hQ h' fun c o c1 c2 c3 c4 e => hk c o c1 c3 c4 e
theorem PairsAt.keep {h h' : Heap} {acc : Array Value} (P : PairsAt h b0 xs ys acc) (B : z < b0 ∧ TO < b0 ∧ i1 < b0 ∧ i2 < b0 ∧ d < b0) (hk : ∀ c o, c ≠ z → c ≠ TO → c ≠ i1 → c ≠ i2 → c ≠ d → h.get? c = some o → h'.get? c = some o) : PairsAt h' b0 xs ys acc :=
  ⟨P.1, fun j v hj => by
    obtain ⟨T, x, y, e1, e2, e3, e4, e5⟩ := P.2 j v hj
    obtain ⟨b1, b2, b3, b4, b5⟩ := B
    have ne : ∀ {c : Addr}, c < b0 → T ≠ c := fun hc e => by subst e; exact absurd (Nat.lt_of_lt_of_le hc e5) (Nat.lt_irrefl _)
    exact ⟨T, x, y, e1, e2, e3, hk _ _ (ne b1) (ne b2) (ne b3) (ne b4) (ne b5) e4, e5⟩⟩
theorem zip_loop {R : Result → Shared → Prop} (hh : A.handled = none) (D : ZipApart z TI TO i1 i2 l1 l2) (O : Off d z TI TO i1 i2 l1 l2) (hxy : xs.size = ys.size) (hn : xs.size ≤ sizeLine) (B : z < b0 ∧ TO < b0 ∧ i1 < b0 ∧ i2 < b0 ∧ d < b0) (res : Value) :
    ∀ (k i : Nat) (s : Shared) (acc : Array Value) (c : Nat), xs.size - i = k → i ≤ xs.size → ZipSt m s.heap z TI TO i1 i2 l1 l2 d xs ys i → s.heap.get? d = some { cls := .type "list", dict := none, data := .seq acc c, slots := #[] } → acc.size = i →
    PairsAt s.heap b0 xs ys acc → b0 ≤ s.heap.objs.size →
    (∀ h' acc' c', (∀ c o, c ≠ z → c ≠ TO → c ≠ i1 → c ≠ i2 → c ≠ d → s.heap.get? c = some o → h'.get? c = some o) → h'.get? d = some { cls := .type "list", dict := none, data := .seq acc' c', slots := #[] } →
      acc'.size = xs.size → PairsAt h' b0 xs ys acc' → R (.ok (.ret res)) { s with heap := h' }) →
    codeAny (model prog w) A (.builtin "list.extend.loop" ⟨[.ref d, .ref z, res], []⟩) R s := by
  intro k
  induction k with
  | zero =>
    intro i s acc c hk hi st hS hacc hP hb hR
    have hin : i = xs.size := by omega
    refine codeAny_builtin F.entry_extend_loop ?_
    rw [Around.under_plainId F.plain_extend_loop _]
    show wpAny _ A.in1 (pyNext (.ref z) >>= _) _ _ s
    refine wpAny_bind (zip_done (A := A.in1) hh D st (.inl (Array.getElem?_eq_none (by omega))) fun h' hk' => ?_)
    exact wpAny_pure (hR h' acc c (fun b o n1 n2 n3 n4 _ e => hk' b o n1 n2 n3 n4 e) (hk' d _ O.z O.TO O.i1 O.i2 hS) (by omega) (hP.keep B fun b o n1 n2 n3 n4 _ e => hk' b o n1 n2 n3 n4 e))
  | succ k ih =>
    intro i s acc c hk hi st hS hacc hP hb hR
    have hlt : i < xs.size := by omega
    have hds : d < s.heap.objs.size := Heap.lt_size hS
    refine codeAny_builtin F.entry_extend_loop ?_
    rw [Around.under_plainId F.plain_extend_loop _]
    show wpAny _ A.in1 (pyNext (.ref z) >>= _) _ _ s
    have ex := Array.getElem?_eq_getElem hlt
    have ey := Array.getElem?_eq_getElem (show i < ys.size by omega)
    refine wpAny_bind (zip_item (A := A.in1) D st ex ey hds fun h' st' hp hk' => ?_)
    have hS' := hk' d _ O.z O.TO O.i1 O.i2 hS
    show wpAny _ A.in1 (updateSeq d (·.push (.ref s.heap.objs.size)) >>= _) _ _ _
    have lt : ∀ {c o}, s.heap.get? c = some o → s.heap.objs.size ≠ c := fun e => Nat.ne_of_gt (Heap.lt_size e)
    have hlt' : s.heap.objs.size < h'.objs.size := Heap.lt_size hp
    obtain ⟨_, _, _, _, _, hzz⟩ := id st
    have nz : s.heap.objs.size ≠ z := by
      rcases hzz with ⟨q, _⟩ | ⟨_, _, _, q, _⟩
      · exact lt q
      · exact lt q
    have oth : ∀ b o, b ≠ d → h'.get? b = some o → (h'.update d (Obj.mapSeq (·.push (.ref s.heap.objs.size)))).get? b = some o := fun b o hb e => (Heap.get?_update_other _ _ (Ne.symm hb)).trans e
    have kp : ∀ c o, c ≠ z → c ≠ TO → c ≠ i1 → c ≠ i2 → c ≠ d → s.heap.get? c = some o → (h'.update d (Obj.mapSeq (·.push (.ref s.heap.objs.size)))).get? c = some o := fun c o n1 n2 n3 n4 n5 e => oth c o n5 (hk' c o n1 n2 n3 n4 e)
    refine wpAny_bind ?_
    refine wpAny_updateSeq hS' rfl (wpAny_pure ⟨plainId_quiet F.plain_extend_loop _, ih (i + 1) _ (acc.push (.ref s.heap.objs.size)) _ (by omega) hlt (st'.frame O oth) (Heap.get?_update_self _ hS' rfl) (by rw [Array.size_push, hacc]) ?_ (Nat.le_of_lt (Nat.lt_of_le_of_lt hb (Heap.lt_size (oth _ _ (Nat.ne_of_gt hds) hp)))) fun h'' acc' c' k2 a1 a2 a3 => hR h'' acc' c' (fun c o n1 n2 n3 n4 n5 e => k2 c o n1 n2 n3 n4 n5 (kp c o n1 n2 n3 n4 n5 e)) a1 a2 a3⟩)
      (by rw [hacc]; omega) (by show (acc.push _).size ≤ sizeLine + 1; rw [Array.size_push, hacc]; omega)
    have P1 := hP.keep B kp
    refine ⟨?_, fun j v hj => ?_⟩
    · rw [Array.toList_push, List.nodup_append]
      refine ⟨hP.1, by simp, fun a ha b hb' e => ?_⟩
      have : b = .ref s.heap.objs.size := by simpa using hb'
      subst this; subst e
      obtain ⟨j, hj⟩ := List.getElem?_of_mem ha
      obtain ⟨T, x, y, e1, e2, e3, e4, _⟩ := hP.2 j _ (by rw [← Array.getElem?_toList]; exact hj)
      cases e1
      exact Nat.lt_irrefl _ (Heap.lt_size e4)
    · rw [Array.getElem?_push] at hj
      split at hj
      · rename_i e
        cases hj
        rw [e, hacc]
        exact ⟨_, _, _, rfl, ex, ey, oth _ _ (Nat.ne_of_gt hds) hp, hb⟩
      · exact P1.2 j v hj
theorem zip_extend {R : Result → Shared → Prop} (hh : A.handled = none) (D : ZipApart z TI TO i1 i2 l1 l2) (O : Off d z TI TO i1 i2 l1 l2) (hxy : xs.size = ys.size) (hn : xs.size ≤ sizeLine) (B : z < b0 ∧ TO < b0 ∧ i1 < b0 ∧ i2 < b0 ∧ d < b0) (res : Value) {c₀ : Nat}
    (st : ZipSt m s.heap z TI TO i1 i2 l1 l2 d xs ys 0) (hz : IsZip s.heap z TI TO .none) (hS : s.heap.get? d = some { cls := .type "list", data := .seq #[] c₀ }) (hb : b0 ≤ s.heap.objs.size)
    (hR : ∀ h' acc' c', (∀ c o, c ≠ z → c ≠ TO → c ≠ i1 → c ≠ i2 → c ≠ d → s.heap.get? c = some o → h'.get? c = some o) → h'.get? d = some { cls := .type "list", dict := none, data := .seq acc' c', slots := #[] } →
      acc'.size = xs.size → PairsAt h' b0 xs ys acc' → R (.ok (.ret res)) { s with heap := h' }) :
    wpAny (model prog w) A.in1 (Builtin.List.listExtendWith (.ref d) (.ref z) res)
      (fun fin s' => match fin with | .done f => R (.ok f) s' | .again c' => c'.quiet = true ∧ codeAny (model prog w) A c' R s') (fun e s' => R (.error e) s') s := by
  have hT : s.TypeIs (.ref z) "zip" := ⟨_, hz, rfl⟩
  unfold Builtin.List.listExtendWith
  refine wpAny_bind (wpAny_typeOf hT ?_)
  have h1 : Builtin.List.listSameRef (.ref d) (.ref z) = false := by simp [Builtin.List.listSameRef, O.z]
  have h2 : (Value.type "zip" == Value.type "list") = false := by decide
  have h3 : (Value.type "zip" == Value.type "tuple") = false := by decide
  simp only [h1, h2, h3, Bool.or_false, Bool.false_eq_true, if_false]
  refine wpAny_bind (wpAny_pyIter_zip hz ?_)
  refine wpAny_bind (wpAny_holding ?_)
  unfold Builtin.List.listLengthHint
  refine wpAny_bind (wpAny_specialOf hT zip_no_len ?_)
  show wpAny _ A.in1 (specialOf (Value.ref z) (Str.ofString "__length_hint__") >>= _) _ _ _
  refine wpAny_bind (wpAny_specialOf hT zip_no_hint ?_)
  refine wpAny_pure ?_
  show wpAny _ A.in1 (rule "list.extend.makes-room" >>= fun _ => Builtin.List.listTouch (.ref d) >>= fun _ =>
    again (.builtin "list.extend.loop" ⟨[.ref d, .ref z, res], []⟩)) _ _ _
  refine wpAny_bind (wpAny_rule ?_)
  refine wpAny_bind ?_
  show wpAny _ A.in1 (updateSeq d (·.push .none) >>= fun _ => updateSeq d (·.pop)) _ _ _
  refine wpAny_bind (wpAny_updateSeq hS rfl ?_)
  have hS₂ := Heap.get?_update_self (Obj.mapSeq (·.push Value.none)) hS rfl
  refine wpAny_updateSeq (hz := by seq_fits) hS₂ rfl ?_
  have hS₃ := Heap.get?_update_self (Obj.mapSeq (·.pop)) hS₂ rfl
  have oth : ∀ b o, b ≠ d → s.heap.get? b = some o → ((s.heap.update d (Obj.mapSeq (·.push Value.none))).update d (Obj.mapSeq (·.pop))).get? b = some o :=
    fun b o hb e => (Heap.get?_update_other _ _ (Ne.symm hb)).trans ((Heap.get?_update_other _ _ (Ne.symm hb)).trans e)
  have hsz : b0 ≤ ((s.heap.update d (Obj.mapSeq (·.push Value.none))).update d (Obj.mapSeq (·.pop))).objs.size := by
    rw [Heap.size_update, Heap.size_update]; exact hb
  refine wpAny_pure ⟨plainId_quiet F.plain_extend_loop _, zip_loop hh D O hxy hn B _ _ 0 _ _ _ rfl (Nat.zero_le _) (st.frame O oth) hS₃ rfl ⟨by simp, fun j v h => by simp at h⟩ hsz fun h' acc' c' k a1 a2 a3 => ?_⟩
  exact hR h' acc' c' (fun c o n1 n2 n3 n4 n5 e => k c o n1 n2 n3 n4 n5 (oth c o n5 e)) a1 a2 a3
theorem zip_init {R : Result → Shared → Prop} (hh : A.handled = none) (D : ZipApart z TI TO i1 i2 l1 l2) (O : Off d z TI TO i1 i2 l1 l2) (hxy : xs.size = ys.size) (hn : xs.size ≤ sizeLine) (B : z < b0 ∧ TO < b0 ∧ i1 < b0 ∧ i2 < b0 ∧ d < b0)
    (st : ZipSt m s.heap z TI TO i1 i2 l1 l2 d xs ys 0) (hz : IsZip s.heap z TI TO .none) (hS : s.heap.get? d = some { cls := .type "list", data := .seq #[] }) (hb : b0 ≤ s.heap.objs.size)
    (hR : ∀ h' acc' c', (∀ c o, c ≠ z → c ≠ TO → c ≠ i1 → c ≠ i2 → c ≠ d → s.heap.get? c = some o → h'.get? c = some o) → h'.get? d = some { cls := .type "list", dict := none, data := .seq acc' c', slots := #[] } →
      acc'.size = xs.size → PairsAt h' b0 xs ys acc' → R (.ok (.ret .none)) { s with heap := h' }) :
    wpAny (model prog w) A.in1 (Builtin.«list.__init__» ⟨[.ref d, .ref z], []⟩)
      (fun fin s' => match fin with | .done f => R (.ok f) s' | .again c' => c'.quiet = true ∧ codeAny (model prog w) A c' R s') (fun e s' => R (.error e) s') s := by
  show wpAny _ A.in1 (do let old ← Builtin.List.listItems (.ref d); Builtin.List.listUpdate (.ref d) (fun _ => #[]); letGo old.toList.reverse; Builtin.List.listExtendWith (.ref d) (.ref z) .none) _ _ s
  refine wpAny_bind ?_
  unfold Builtin.List.listItems
  refine wpAny_bind (wpAny_seqItems hS rfl (wpAny_pure ?_))
  show wpAny _ A.in1 (updateSeq d (fun _ => #[]) >>= fun _ => letGo (#[] : Array Value).toList.reverse >>= fun _ => Builtin.List.listExtendWith (.ref d) (.ref z) .none) _ _ s
  refine wpAny_bind (wpAny_updateSeq hS rfl ?_)
  have hS₂ := Heap.get?_update_self (Obj.mapSeq (fun _ => (#[] : Array Value))) hS rfl
  have oth : ∀ b o, b ≠ d → s.heap.get? b = some o → (s.heap.update d (Obj.mapSeq (fun _ => (#[] : Array Value)))).get? b = some o :=
    fun b o hb e => (Heap.get?_update_other _ _ (Ne.symm hb)).trans e
  refine wpAny_bind (wpAny_letGo ?_)
  refine zip_extend hh D O hxy hn B .none (st.frame O oth) (oth _ _ O.z.symm hz) hS₂ (by rw [Heap.size_update]; exact hb) fun h' acc' c' k a1 a2 a3 => ?_
  exact hR h' acc' c' (fun c o n1 n2 n3 n4 n5 e => k c o n1 n2 n3 n4 n5 (oth c o n5 e)) a1 a2 a3
theorem call_list_zip {E : Value → Shared → Prop} {Q : Value → Shared → Prop} (hh : A.handled = none) {l1 l2 : Addr} {xs ys : Array Value} (hxy : xs.size = ys.size) (hn : xs.size ≤ sizeLine) {n : Nat} (hl1 : l1 < n) (hl2 : l2 < n)
    (st : ∀ d, n + 5 ≤ d → ZipSt m s.heap (n + 4) (n + 2) (n + 3) n (n + 1) l1 l2 d xs ys 0) (hz : IsZip s.heap (n + 4) (n + 2) (n + 3) .none) (hsz : s.heap.objs.size = n + 5)
    (hQ : ∀ h' acc' c', (∀ c o, c < n → s.heap.get? c = some o → h'.get? c = some o) → h'.get? (n + 5) = some { cls := .type "list", dict := none, data := .seq acc' c', slots := #[] } →
      acc'.size = xs.size → PairsAt h' (n + 6) xs ys acc' → Q (.ref (n + 5)) { s with heap := h' }) :
    wpAny (model prog w) A (call (.type "list") [.ref (n + 4)]) Q E s := by
  refine callType_codes (Q₁ := fun obj s₁ => obj = .ref s.heap.objs.size ∧ s₁ = { s with heap := s.heap.push { cls := .type "list", data := .seq #[] } }) F.called_list (F.typeCall_list_1 _) F.entry_list_init
    (code_list_new _ ⟨rfl, rfl⟩) fun obj s₁ h₁ => ?_
  obtain ⟨rfl, rfl⟩ := h₁
  have hS : (s.heap.push { cls := .type "list", data := .seq #[] }).get? s.heap.objs.size = some { cls := .type "list", data := .seq #[] } := Heap.get?_push_size _ rfl
  have ks : ∀ b o, s.heap.get? b = some o → (s.heap.push { cls := .type "list", data := .seq #[] }).get? b = some o := fun b o e => Heap.get?_push_of_some _ e
  have sp : (s.heap.push { cls := .type "list", data := .seq #[] }).objs.size = n + 6 := by rw [Heap.size_push, hsz]
  have O : Off (n + 5) (n + 4) (n + 2) (n + 3) n (n + 1) l1 l2 := ⟨(by omega : (n + 5 : Nat) ≠ n + 4), (by omega : (n + 5 : Nat) ≠ n + 2), (by omega : (n + 5 : Nat) ≠ n + 3), (by omega : (n + 5 : Nat) ≠ n), (by omega : (n + 5 : Nat) ≠ n + 1), Nat.ne_of_gt (Nat.lt_of_lt_of_le hl1 (Nat.le_add_right n 5)), Nat.ne_of_gt (Nat.lt_of_lt_of_le hl2 (Nat.le_add_right n 5))⟩
  obtain ⟨hTI, h1, h2, hl1', hl2', hzz⟩ := st (n + 5) (Nat.le_refl _)
  rw [hsz] at hS
  rw [hsz]
  refine ⟨⟨_, hS, rfl⟩, F.args_list_init_2 _ _, zip_init (m := m) hh (PyProof.Rows.zipApart_new hl1 hl2) O hxy hn (b0 := n + 6) ⟨(by omega : (n + 4 : Nat) < n + 6), (by omega : (n + 3 : Nat) < n + 6), (by omega : (n : Nat) < n + 6), (by omega : (n + 1 : Nat) < n + 6), (by omega : (n + 5 : Nat) < n + 6)⟩ ?_ (ks _ _ hz) hS (by rw [sp]; exact Nat.le_refl _) fun h' acc' c' k a1 a2 a3 => ?_⟩
  · refine ⟨ks _ _ hTI, h1.at fun o e => ks _ o e, h2.at fun o e => ks _ o e, hl1'.at fun o e => ks _ o e, hl2'.at fun o e => ks _ o e, ?_⟩
    rcases hzz with ⟨q1, a, b, q2⟩ | ⟨T, f, oT, q1, q2, r1, r2, r3, r4⟩
    · exact .inl ⟨ks _ _ q1, a, b, ks _ _ q2⟩
    · exact .inr ⟨T, f, oT, ks _ _ q1, ks _ _ q2, r1, r2, r3, r4⟩
  · exact ⟨rfl, hQ h' acc' c' (fun c o hc e => (have ne : ∀ j : Nat, c ≠ n + j := fun j => Nat.ne_of_lt (Nat.lt_of_lt_of_le hc (Nat.le_add_right n j)); k c o (ne 4) (ne 3) (ne 0) (ne 1) (ne 5) (ks _ _ e))) a1 a2 a3⟩
end
end Lz
namespace Mx
open PySem L2 PySem.Spec PyProof.Rows
/-- pairs laid down one by one -/
def rPairs : Hp → List (V × V) → (Hp → List V → Prop) → Prop
  | H, [], Q => Q H []
  | H, (x, y) :: r, Q => ∀ (p : Addr) (o : Obj), H p = none → o.dict = none → rPairs (upd H p (.frz o (.tup [x, y]))) r fun H' vs => Q H' (.ref p :: vs)
def rLz (xs ys : List V) (H : Hp) (Q : VK) : Prop := xs.length = ys.length ∧ rPairs H (xs.zip ys) fun H' vs => ∀ l, H' l = none → Q (.ref l) (upd H' l (.lst vs))
theorem Un.more {fs ex : List Addr} {H H' : Hp} {h h' : Heap} {a : Addr} {o : HO} (u : L2.Un fs ex H H' h h') (hg : h.get? a = none) (hn : H' a = none) : L2.Un fs ex H (upd H' a o) h h' where
  keep := u.keep
  slot := u.slot
  free := fun b ob q n hx => by
    rw [upd_ne (fun e => by subst e; rw [hg] at q; cases q)]; exact u.free b ob q n hx
  there := u.there
  tups := fun b xs q => by have := u.tups b xs q; rw [upd_ne (ne_of_none this hn)]; exact this
  frzs := fun b ob x q => by have := u.frzs b ob x q; rw [upd_ne (ne_of_none this hn)]; exact this
  tbls := fun b ps q => by
    obtain ⟨more, this⟩ := u.tbls b ps q
    exact ⟨more, by rw [upd_ne (ne_of_none this hn)]; exact this⟩
/-- a pair and the tuple it stands in -/
def PairRel (h' : Heap) (n : Nat) (pr : V × V) (u : Value) : Prop := ∃ (T : Addr) (x y : Value), u = Value.ref T ∧ RelV pr.1 x ∧ RelV pr.2 y ∧ IsPair h' T x y ∧ n ≤ T
theorem pairs_walk {P : Program} {w : World} {fs : List Addr} {H : Hp} {h h' : Heap} {n : Nat} (hno : ∀ b : Addr, n ≤ b → h.get? b = none) : ∀ (prs : List (V × V)) (us : List Value) (Hj : Hp) (Q : Hp → List V → Prop),
    L2.Un fs [] H Hj h h' → HOk P w Hj h' → us.Nodup → (∀ p : Addr, Value.ref p ∈ us → Hj p = none) → Paired (PairRel h' n) prs us → rPairs Hj prs Q →
    ∃ H' vs, L2.Un fs [] H H' h h' ∧ HOk P w H' h' ∧ Q H' vs ∧ Vals vs us ∧ ∀ p : Addr, Hj p = none → Value.ref p ∉ us → H' p = none
  | [], _, Hj, Q, u, ok, _, _, .nil, q => ⟨Hj, [], u, ok, q, .nil, fun _ h _ => h⟩
  | (x, y) :: prs, [], _, _, _, _, _, _, pp, _ => by cases pp
  | (x, y) :: prs, v :: us, Hj, Q, u, ok, nd, fr, pp, q => by
    obtain ⟨⟨T, a, b, e1, r1, r2, hp, hT⟩, rest⟩ : PairRel h' n (x, y) v ∧ Paired (PairRel h' n) prs us := by cases pp with | cons r1 r2 => exact ⟨r1, r2⟩
    subst e1
    rw [List.nodup_cons] at nd
    have hn := fr T List.mem_cons_self
    have ok1 : HOk P w (upd Hj T (.frz { cls := .type "tuple", data := .seq #[a, b] } (.tup [x, y]))) h' := HOk.laidN ok (fun _ _ q => q) hn
      ⟨hp, by show 2 ≤ sizeLine; rw [sizeLine_eq]; omega, [a, b], .cons r1 (.cons r2 .nil), ⟨_, hp, rfl, _, rfl⟩⟩
    obtain ⟨H', vs, k1, k2, k3, k4, k5⟩ := pairs_walk hno prs us _ _ (Un.more u (hno T hT) hn) ok1 nd.2 (fun p m => by
      have : p ≠ T := fun e => nd.1 (e ▸ m)
      rw [upd_ne this]; exact fr p (List.mem_cons_of_mem _ m)) rest (q T _ hn rfl)
    refine ⟨H', .ref T :: vs, k1, k2, k3, .cons rfl k4, fun p h1 h2 => ?_⟩
    have : p ≠ T := fun e => h2 (e ▸ List.mem_cons_self)
    exact k5 p (by rw [upd_ne this]; exact h1) fun m => h2 (List.mem_cons_of_mem _ m)
section
variable {X : Cx} {a b : Expr} {ta tb : TE}
def tLz (K : PySem.W.Frag) (ta tb : TE) : TE := fun σ H Q => ta σ H fun x H1 => tb σ H1 fun y H2 => ∃ (p1 p2 : Addr) (xs ys : List V), x = .ref p1 ∧ y = .ref p2 ∧ ((SqL K H2 p1 xs ∧ SqL K H2 p2 ys) ∨ (SqT K H2 p1 xs ∧ SqT K H2 p2 ys)) ∧ rLz xs ys H2 Q
theorem paired_get {α β : Type} {F : α → β → Prop} : ∀ {l₁ : List α} {l₂ : List β}, l₁.length = l₂.length → (∀ (i : Nat) a b, l₁[i]? = some a → l₂[i]? = some b → F a b) → Paired F l₁ l₂
  | [], [], _, _ => .nil
  | [], _ :: _, h, _ => by cases h
  | _ :: _, [], h, _ => by cases h
  | a :: l₁, b :: l₂, h, k => .cons (k 0 a b rfl rfl) (paired_get (by simpa using h) fun i a b h1 h2 => k (i + 1) a b (by simpa using h1) (by simpa using h2))
theorem lz_pairs {h' : Heap} {b0 : Nat} {xs ys : List V} {us ws : List Value} {acc : Array Value} (rx : Vals xs us) (ry : Vals ys ws) (hl : xs.length = ys.length) (hs : acc.size = us.length) (P : Lz.PairsAt h' b0 us.toArray ws.toArray acc) : Paired (PairRel h' b0) (xs.zip ys) acc.toList := by
  have hlen : (xs.zip ys).length = acc.toList.length := by
    have := rx.length
    rw [List.length_zip]
    show min xs.length ys.length = acc.size
    omega
  refine paired_get hlen fun i pr v e1 e2 => ?_
  obtain ⟨T, x, y, f1, f2, f3, f4, f5⟩ := P.2 i v (by rw [← Array.getElem?_toList]; exact e2)
  rw [List.getElem?_zip_eq_some] at e1
  obtain ⟨x', g1, g2⟩ := rx.get e1.1
  obtain ⟨y', g3, g4⟩ := ry.get e1.2
  rw [List.getElem?_toArray] at f2 f3
  rw [f2] at g1
  rw [f3] at g3
  cases g1
  cases g3
  exact ⟨T, x, y, f1, g2, g4, f4, f5⟩
theorem pe_lz {p pos p' pos' : Pos} (hc : X.calm = true) (hg : Gl X "list") (hm : X.mg "list" = none) (hg' : Gl X "zip") (hm' : X.mg "zip" = none) (ha : PE X a ta) (hb : PE X b tb) (na : starEach [a, b] X.env = (false, eval a X.env) :: starEach [b] X.env)
    (nb : starEach [b] X.env = (false, eval b X.env) :: starEach [] X.env) (hp : (backTo pos' (starEach [b] X.env)).any (·.1) = false) :
    PE X (.Call (.Name "list" p) [.Call (.Name "zip" p') [a, b] [] pos'] [] pos) (tLz X.K ta tb) := by
  refine ⟨fun pins s σ H Q I h => ?_⟩
  have inner : wpAny (model X.prog X.w) X.A (eval (.Call (.Name "zip" p') [a, b] [] pos') X.env) (fun z s' => ∃ (m : Bool) (s2 : Shared) (H2 : Hp) (p1 p2 : Addr) (xs ys : List V) (us ws : List Value) (h1 : Heap), Inv X pins σ H2 s2 ∧ s' = { s2 with heap := h1 } ∧ z = Value.ref (s2.heap.objs.size + 4) ∧
      Vals xs us ∧ Vals ys ws ∧ us.length ≤ sizeLine ∧ p1 < s2.heap.objs.size ∧ p2 < s2.heap.objs.size ∧ IsZip h1 (s2.heap.objs.size + 4) (s2.heap.objs.size + 2) (s2.heap.objs.size + 3) .none ∧
      (∀ d : Addr, s2.heap.objs.size + 5 ≤ d → Lz.ZipSt m h1 (s2.heap.objs.size + 4) (s2.heap.objs.size + 2) (s2.heap.objs.size + 3) s2.heap.objs.size (s2.heap.objs.size + 1) p1 p2 d us.toArray ws.toArray 0) ∧
      h1.objs.size = s2.heap.objs.size + 5 ∧ (∀ c o, s2.heap.get? c = some o → h1.get? c = some o) ∧ rLz xs ys H2 Q) X.xe s := by
    refine Call_ (ld_blt I hg' hm' PyProof.Rows.boot_zip (PyProof.Rows.callWith_type1 (args_cons (thn (ha.run pins s σ H _ I h) fun v s1 ⟨x, H1, I1, r1, q1⟩ => one_arg hb I1 q1 (fun u s2 y H2 I2 r2 q => ?_) nb) na) na hp))
    obtain ⟨p1, p2, xs, ys, rfl, rfl, kk, q⟩ := q
    cases r1
    cases r2
    rcases kk.symm with ⟨k1, k2⟩ | ⟨k1, k2⟩
    · obtain ⟨us, rv, hl1, hz⟩ := I2.tuple k1
      obtain ⟨ws, rw', hl2, hz'⟩ := I2.tuple k2
      refine RZ.call_zipT (show s2.heap.IsTuple p1 us.toArray from hl1) (show s2.heap.IsTuple p2 ws.toArray from hl2) fun h1 g1 g2 g3 g4 g5 g6 g7 => ?_
      obtain ⟨_, x1, _⟩ := id hl1
      obtain ⟨_, x2, _⟩ := id hl2
      exact ⟨true, s2, H2, p1, p2, xs, ys, us, ws, h1, I2, rfl, rfl, rv, rw', by rw [← rv.length]; exact hz, Heap.lt_size x1, Heap.lt_size x2, g1, fun d _ => ⟨g2, g4, g5, Heap.IsTuple.at hl1 fun o e => g7 _ o e, Heap.IsTuple.at hl2 fun o e => g7 _ o e, .inl ⟨g1, _, _, g3⟩⟩, g6, g7, q⟩
    obtain ⟨us, rv, pl, hz⟩ := I2.list k1
    obtain ⟨ws, rw', pl', hz'⟩ := I2.list k2
    have hl1 := pl.isList
    have hl2 := pl'.isList
    refine call_zip_2 hl1 hl2 fun h1 g1 g2 g3 g4 g5 g6 g7 => ?_
    obtain ⟨_, x1, _⟩ := id hl1
    obtain ⟨_, x2, _⟩ := id hl2
    exact ⟨false, s2, H2, p1, p2, xs, ys, us, ws, h1, I2, rfl, rfl, rv, rw', by rw [← rv.length]; exact hz, Heap.lt_size x1, Heap.lt_size x2, g1, fun d _ => ⟨g2, g4, g5, hl1.at fun o e => g7 _ o e, hl2.at fun o e => g7 _ o e, .inl ⟨g1, _, _, g3⟩⟩, g6, g7, q⟩
  have nz : starEach [Expr.Call (.Name "zip" p') [a, b] [] pos'] X.env = (false, eval (Expr.Call (.Name "zip" p') [a, b] [] pos') X.env) :: starEach [] X.env := rfl
  refine Call_ (ld_blt I hg hm boot_list (PyProof.Rows.callWith_type1 (args_cons (thn inner fun z s' ⟨m, s2, H2, p1, p2, xs, ys, us, ws, h1, I2, es, ez, rx, ry, hsl, b1, b2, hz, st, hsz, hk, hl, q⟩ => args_nil ?_) nz) nz))
  subst es ez
  have hlu : us.length = ws.length := by rw [← rx.length, ← ry.length]; exact hl
  refine Lz.call_list_zip (n := s2.heap.objs.size) (I2.ok.hd hc) (xs := us.toArray) (ys := ws.toArray) (by simpa using hlu) (by simpa using hsl) b1 b2 st hz hsz fun h' acc c k1 k2 k3 k4 => ?_
  have keep : ∀ c o, s2.heap.get? c = some o → h'.get? c = some o := fun c o e => k1 c o (Heap.lt_size e) (hk c o e)
  have hno : ∀ b : Addr, s2.heap.objs.size + 6 ≤ b → s2.heap.get? b = none := fun b hb => Heap.get?_none_of_le (Nat.le_trans (Nat.le_add_right _ 6) hb)
  have pr := lz_pairs rx ry hl (by simpa using k3) k4
  have above : ∀ T : Addr, Value.ref T ∈ acc.toList → s2.heap.objs.size + 6 ≤ T := fun T m => by
    obtain ⟨j, hj⟩ := List.getElem?_of_mem m
    obtain ⟨T', _, _, f1, _, _, _, f5⟩ := k4.2 j _ (by rw [← Array.getElem?_toList]; exact hj)
    cases f1; exact f5
  have fresh : ∀ T : Addr, s2.heap.objs.size ≤ T → H2 T = none := fun T hT => I2.hok.fresh hT
  obtain ⟨H', vs, u1, ok1, q1, rv, fr⟩ := pairs_walk (fs := X.fs) (H := H2) hno (xs.zip ys) acc.toList H2 _ (Un.kept keep) (I2.hok.kept keep) k4.1 (fun T m => fresh T (Nat.le_trans (Nat.le_add_right _ 6) (above T m))) pr q
  have nl : H' (s2.heap.objs.size + 5) = none := fr _ (fresh _ (Nat.le_add_right _ 5)) fun m => absurd (above _ m) (Nat.not_le.mpr (Nat.lt_succ_self (s2.heap.objs.size + 5)))
  have gl : s2.heap.get? (s2.heap.objs.size + 5) = none := Heap.get?_none_of_le (Nat.le_add_right _ 5)
  have ok2 : HOk X.prog X.w (upd H' (s2.heap.objs.size + 5) (.lst vs)) h' := HOk.laidN ok1 (fun _ _ q => q) nl (show ObjOk X.prog X.w _ _ _ (.lst vs) from ⟨by rw [rv.length, Array.length_toList, k3]; simpa using hsl, acc.toList, c, rv, by rw [Array.toArray_toList]; exact k2⟩)
  exact ⟨.ref (s2.heap.objs.size + 5), _, I2.un (t' := s2.toks) (Un.more u1 gl nl) ok2, rfl, q1 _ nl⟩
end
section
variable [WW]
variable {X : Cx} {C : Nat → List D → Sto → R D} {cl : Nat → Value} {n : Nat} {c : Ck} {wx : WX}
theorem rPairs_ok {K : PySem.W.Frag} {L Z : List Addr} {S : Sto} : ∀ {xs ys : List V} {ps qs : List P} {H : Hp} {Q : Hp → List V → Prop}, StR K H L Z S → RpL K H L Z xs ps → RpL K H L Z ys qs →
    (∀ H1 vs, Ext H L H1 L → StR K H1 L Z S → RpL K H1 L Z vs (zipP ps qs) → Q H1 vs) → rPairs H (xs.zip ys) Q
  | [], _, _, _, H, Q, st, .nil, _, q => q H [] Ext.refl st .nil
  | _ :: _, [], _, _, H, Q, st, .cons _ _, .nil, q => q H [] Ext.refl st .nil
  | x :: xs, y :: ys, p :: ps, p' :: qs, H, Q, st, .cons r1 r2, .cons r3 r4, q => by
    intro a o hn hd
    obtain ⟨n1, n2, n3⟩ := new_tup st (.cons r1 (.cons r3 .nil)) hn hd
    refine rPairs_ok n2 (r2.ext n1) (r4.ext n1) fun H1 vs e s r => ?_
    exact q H1 _ (n1.trans e) s (.cons (n3.ext e) r)
theorem s_lzip (g : Good X C cl n c wx) {f f' : Str} {x y : Expr} {a b : E} {p p' pos pos' : Pos} (hf : bltC c f "list" = true) (hf' : bltC c f' "zip" = true) (hs : notStar x = true) (hs' : notStar y = true) (hx : PE X x (tE X C cl wx a)) (hy : PE X y (tE X C cl wx b)) :
    PE X (.Call (.Name f p) [.Call (.Name f' p') [x, y] [] pos'] [] pos) (tE X C cl wx (.lzip a b)) := by
  obtain ⟨rfl, gf⟩ := g.blt hf
  obtain ⟨rfl, gf'⟩ := g.blt hf'
  have hm : X.mg (Str.ofString "zip") = none := g.nob _ (by decide)
  have hm' : X.mg (Str.ofString "list") = none := g.nob _ (by decide)
  have h2 : starEach [y] X.env = [(false, eval y X.env)] := star1 hs' _ _
  refine (pe_lz g.calm gf hm' gf' hm hx hy (by rw [star1 hs, h2]) h2 (by rw [h2]; rfl)).imp fun σ H Q q => ?_
  obtain ⟨L, Z, S, env, at_, post⟩ := q
  simp only [evE] at post
  refine ⟨L, Z, S, env, at_, post.bind fun d S1 H1 L1 v e1 s1 r1 q1 => ?_⟩
  refine ⟨L1, Z, S1, env, at_.later e1 s1, q1.bind fun d2 S2 H2 L2 u e2 s2 r2 q2 => ?_⟩
  split at q2
  · rename_i w hw
    obtain ⟨xs, ys⟩ := w
    split at q2
    · rename_i hj
      simp only [Bool.and_eq_true, decide_eq_true_eq] at hj
      unfold zipD at hw
      split at hw
      · cases hw
        obtain ⟨p1, vs, rfl, h1, rl1⟩ := (RD.ext e2 r1).pI.tupI
        obtain ⟨p2, ws, rfl, h2', rl2⟩ := r2.pI.tupI
        refine ⟨p1, p2, vs, ws, rfl, rfl, .inr ⟨h1, h2'⟩, by rw [rl1.len, rl2.len]; exact hj.1, rPairs_ok s2 rl1 rl2 fun H3 us e3 s3 r3 l hl => ?_⟩
        obtain ⟨n1, n2, n3⟩ := new_lst s3 r3 hl
        exact q2 _ _ _ (e3.trans n1) n2 (.p n3)
      · split at hw
        · rename_i i1 i2
          cases hw
          obtain ⟨p1, vs, rfl, h1, rl1⟩ := asList_ok s2 (RD.ext e2 r1) i1
          obtain ⟨p2, ws, rfl, h2', rl2⟩ := asList_ok s2 r2 i2
          refine ⟨p1, p2, vs, ws, rfl, rfl, .inl ⟨.of h1, .of h2'⟩, by rw [rl1.len, rl2.len]; exact hj.1, rPairs_ok s2 rl1 rl2 fun H3 us e3 s3 r3 l hl => ?_⟩
          obtain ⟨n1, n2, n3⟩ := new_lst s3 r3 hl
          exact q2 _ _ _ (e3.trans n1) n2 (.p n3)
        · cases hw
    · exact (show False from q2).elim
  · exact (show False from q2).elim
end
end Mx
end

section
set_option Elab.async false
set_option linter.all false
set_option maxRecDepth 100000
set_option autoImplicit false
set_option maxHeartbeats 4000000
namespace Mx
open PySem L2 PySem.Spec PyProof.Rows
variable [WW]
theorem ctt {M : Model} {A : Around} {cls : Value} {Q : Bool → Shared → Prop} {E : Value → Shared → Prop} {s : Shared} (h : ∀ b, Q b s) : wpAny M A (Builtin.SmallTypes.calledThroughType cls) Q E s := by
  unfold Builtin.SmallTypes.calledThroughType
  exact wpAny_bind (wpAny_stack_any fun st => wpAny_pure (h _))
theorem enum_new1 {v : Value} {o : Obj} {Hh : Heap → Prop} (b : Begins v o Hh) :
    Meets (Builtin.«enumerate.__new__» { pos := [Value.type "enumerate", v] }) fun x R s =>
      Hh s.heap ∧ R (Except.ok (Flow.ret (Value.ref (s.heap.push o).objs.size)))
        { s with heap := (s.heap.push o).push { cls := Value.type "enumerate", data := Data.fields #[Value.none, Value.bool false, Value.ref s.heap.objs.size, rawInt 0, Value.none, Value.none] } } := by
  refine Meets.of_wp fun prog w A R s ⟨h0, h⟩ => ?_
  have e1 : ∀ {Q : Value × List Value → Shared → Prop} {E : Value → Shared → Prop}, Q (Value.type "enumerate", [v]) s → wpAny (model prog w) A.in1 (Builtin.SmallTypes.newClass "enumerate" { pos := [Value.type "enumerate", v] }) Q E s := fun q => by
    unfold Builtin.SmallTypes.newClass
    refine wpAny_bind (wpAny_of_eq (a := true) rfl ?_)
    show wpAny _ _ (if (!true) = true then _ else (do let y ← isSubtype (Value.type "enumerate") (Value.type "enumerate"); _)) _ _ _
    rw [if_neg (by decide)]
    refine wpAny_bind (wpAny_of_eq sub_enumerate ?_)
    show wpAny _ _ (if (!true) = true then _ else pure (Value.type "enumerate", [v])) _ _ _
    rw [if_neg (by decide)]
    exact wpAny_pure q
  have rest : wpAny (model prog w) A.in1 (do
      let it ← pyIter v
      let r ← Builtin.SmallTypes.newRecord (Value.type "enumerate") (Builtin.SmallTypes.ownedTupleFields ++ [it, rawInt 0, Value.none, Value.none])
      ret r) (fun fin s' => ∃ v, fin = Fin.done (Flow.ret v) ∧ R (Except.ok (Flow.ret v)) s') (fun e s' => R (Except.error e) s') s := by
    refine wpAny_bind (b.iter prog w A.in1 _ s _ h0 ?_)
    refine wpAny_bind ?_
    show wpAny _ _ (newObj (Value.type "enumerate") (Data.fields #[Value.none, Value.bool false, Value.ref s.heap.objs.size, rawInt 0, Value.none, Value.none])) _ _ _
    refine wpAny_newObj_type ?_
    exact wpAny_pure ⟨_, rfl, h⟩
  unfold Builtin.«enumerate.__new__»
  refine wpAny_bind (e1 ?_)
  show wpAny _ _ (if (Value.type "enumerate" == Value.type "enumerate") = true then _ else _) _ _ _
  rw [if_pos (by decide)]
  refine wpAny_bind (ctt fun z => ?_)
  cases z
  · show wpAny _ _ (pure (v, (none : Option Value)) >>= _) _ _ _
    exact wpAny_bind (wpAny_pure rest)
  · show wpAny _ _ (pure (v, (none : Option Value)) >>= _) _ _ _
    exact wpAny_bind (wpAny_pure rest)
theorem call_enum1 {prog : Program} {w : World} {A : Around} {E : Value → Shared → Prop} {s : Shared} {v : Value} {o : Obj} {Hh : Heap → Prop} {Q : Value → Shared → Prop} (b : Begins v o Hh) (h0 : Hh s.heap)
    (h : ∀ h' : Heap, IsEnum h' (s.heap.objs.size + 1) s.heap.objs.size 0 Value.none → h'.get? s.heap.objs.size = some o → h'.objs.size = s.heap.objs.size + 2 → (∀ (b : Addr) (o : Obj), s.heap.get? b = some o → h'.get? b = some o) →
      Q (Value.ref (s.heap.objs.size + 1)) { s with heap := h' }) : wpAny (model prog w) A (call (Value.type "enumerate") [v]) Q E s := by
  refine callType_new F.called_enumerate (by decide) (F.typeCall_enumerate_1 _) (F.newCall_enumerate_1 _) (fun o => F.args_object_init_2 _ _) F.entry_enumerate_new (enum_new1 b) ⟨h0, ?_⟩
  show (Shared.TypeIs _ _ _ ∧ _)
  have e1 : (s.heap.push o).objs.size = s.heap.objs.size + 1 := Heap.size_push ..
  have g1 : ((s.heap.push o).push { cls := Value.type "enumerate", data := Data.fields #[Value.none, Value.bool false, Value.ref s.heap.objs.size, rawInt 0, Value.none, Value.none] }).get? (s.heap.objs.size + 1) = some { cls := Value.type "enumerate", data := Data.fields #[Value.none, Value.bool false, Value.ref s.heap.objs.size, rawInt 0, Value.none, Value.none] } := by
    rw [← e1]; exact Heap.get?_push_size _ rfl
  rw [e1]
  refine ⟨⟨_, g1, rfl⟩, h _ g1 ?_ (by rw [Heap.size_push, e1]) fun b o hb => ?_⟩
  · exact Heap.get?_push_of_some _ (Heap.get?_push_size _ b.free)
  · exact Heap.get?_push_of_some _ (Heap.get?_push_of_some _ hb)
/-! ### a list (false) or a tuple (true), walked side by side -/
def SqX (K : PySem.W.Frag) : Bool → Hp → Addr → List V → Prop
  | true => SqT K | false => SqL K
def IterX : Bool → Heap → Addr → Addr → Nat → Prop
  | true => Heap.IsTupleIter | false => Heap.IsListIter
def HasX : Bool → Heap → Addr → Array Value → Prop
  | true => Heap.IsTuple | false => Heap.IsList
def itObj (t : Bool) (a : Addr) : Obj := { cls := Value.type (if t then "tuple_iterator" else "list_iterator"), data := Data.fields #[Value.ref a, Value.int 0 0] }
theorem begX (t : Bool) (a : Addr) (its : Array Value) : Begins (.ref a) (itObj t a) fun h => HasX t h a its := by
  cases t
  · exact begins_list a its
  · exact begins_tuple a its
theorem drawsX {prog : Program} {w : World} {A : Around} (hh : A.handled = none) (t : Bool) (it a : Addr) (h : a ≠ it) (its : Array Value) :
    Draws prog w A it [it, a] its.size (fun i v => its[i]? = some v) fun i h => IterX t h it a i ∧ HasX t h a its := by
  cases t
  · exact Draws.list hh it a h its
  · exact Draws.tuple hh it a h its
theorem iterX_obj {t : Bool} {h : Heap} {it a : Addr} {i : Nat} (q : IterX t h it a i) : ∃ o, h.get? it = some o ∧ ∀ v : Option Value, o.data ≠ Data.cell v := by
  cases t <;> (obtain ⟨o, h1, h2, h3⟩ := q; exact ⟨o, h1, fun v e => by rw [h3] at e; cases e⟩)
theorem iterX_keep {t : Bool} {h h' : Heap} {it a : Addr} {i : Nat} (q : IterX t h it a i) (k : ∀ o, h.get? it = some o → h'.get? it = some o) : IterX t h' it a i := by
  cases t <;> (obtain ⟨o, h1, h2, h3⟩ := q; exact ⟨o, k o h1, h2, h3⟩)
theorem iterX_0 {t : Bool} {h : Heap} {it a : Addr} (q : h.get? it = some (itObj t a)) : IterX t h it a 0 := by
  cases t <;> exact ⟨_, q, rfl, rfl⟩
section
variable {X : Cx} {pins : List (Addr × Obj)} {σ : L2.St} {H : Hp} {s : Shared}
theorem invX (I : L2.Inv X pins σ H s) {t : Bool} {a : Addr} {xs : List V} (h : SqX X.K t H a xs) : ∃ its, Vals xs its ∧ HasX t s.heap a its.toArray := by
  cases t
  · obtain ⟨its, h1, h2, _⟩ := I.list h
    exact ⟨its, h1, h2.isList⟩
  · obtain ⟨its, h1, h2, _⟩ := I.tuple h
    exact ⟨its, h1, h2⟩
theorem injX (I : L2.Inv X pins σ H s) {t : Bool} {a : Addr} {xs ys : List V} (h : SqX X.K t H a xs) (h' : SqX X.K t H a ys) : xs = ys := by
  cases t
  · exact I.list_inj h h'
  · exact I.tuple_inj h h'
end
def ItM (K : PySem.W.Frag) (ta : Bool) (a : Addr) (tb : Bool) (b : Addr) : It where
  go i H := ∃ xs ys, SqX K ta H a xs ∧ SqX K tb H b ys ∧ i < min xs.length ys.length
  yld i H v H' := ∃ T x y, v = .ref T ∧ H T = none ∧ H' = upd H T (.tup [x, y]) ∧ (∀ xs, SqX K ta H a xs → xs[i]? = some x) ∧ (∀ ys, SqX K tb H b ys → ys[i]? = some y)
  stop i H := ∃ xs ys, SqX K ta H a xs ∧ SqX K tb H b ys ∧ i = min xs.length ys.length
def ItN (K : PySem.W.Frag) (ta : Bool) (a : Addr) : It where
  go i H := ∃ xs, SqX K ta H a xs ∧ i < xs.length
  yld i H v H' := ∃ T x, v = .ref T ∧ H T = none ∧ H' = upd H T (.tup [.int (i : Int), x]) ∧ (∀ xs, SqX K ta H a xs → xs[i]? = some x)
  stop i H := ∃ xs, SqX K ta H a xs ∧ i = xs.length
theorem vals_get {xs : List V} {us : List Value} (h : Vals xs us) {i : Nat} {u : Value} (e : us.toArray[i]? = some u) : ∃ x, xs[i]? = some x ∧ RelV x u := by
  have l := h.length
  have e' : us[i]? = some u := by simpa using e
  obtain ⟨hi, _⟩ := List.getElem?_eq_some_iff.mp e'
  obtain ⟨u', h1, h2⟩ := h.get (i := i) (x := xs[i]'(by omega)) (List.getElem?_eq_getElem (by omega))
  rw [e'] at h1
  cases h1
  exact ⟨_, List.getElem?_eq_getElem (by omega), h2⟩
theorem pair_obj {h : Heap} {T : Addr} {x y : Value} (e : IsTupOf2 h T x y) : ∃ o, h.get? T = some o ∧ ∀ v : Option Value, o.data ≠ Data.cell v := ⟨_, e, fun v z => by cases z⟩
/-- a pair new in the heap -/
theorem new_pair {X : Cx} {pins : List (Addr × Obj)} {σ : L2.St} {H : Hp} {s : Shared} {h' : Heap} {tk : Nat} {ch : List Addr} {T : Addr} {x y : V} {u v : Value} (I : L2.Inv X pins σ H s)
    (k : ∀ (b : Addr) (o : Obj), ¬b ∈ ch → s.heap.get? b = some o → h'.get? b = some o) (f : ∀ b, b ∈ ch → FpOk X pins H b) (hT : s.heap.objs.size ≤ T) (ht : h'.IsTuple T #[u, v]) (rx : RelV x u) (ry : RelV y v) :
    L2.Inv X pins σ (upd H T (.tup [x, y])) { s with heap := h', toks := tk } := by
  refine I.turnedNew k f hT ?_
  simp only [L2.ObjOk]
  exact ⟨by show 2 ≤ sizeLine; decide, [u, v], .cons rx (.cons ry .nil), ht⟩
theorem objM {ta tb : Bool} {a b z TI TO i1 i2 : Addr} {h : Heap} {i : Nat} (q : IsZip h z TI TO Value.none ∧ IsTupOf2 h TI (Value.ref i1) (Value.ref i2) ∧ (∃ x y, IsTupOf2 h TO x y) ∧ IterX ta h i1 a i ∧ IterX tb h i2 b i) (c : Addr) (hc : c ∈ [z, TI, TO, i1, i2]) :
    ∃ o, h.get? c = some o ∧ ∀ v : Option Value, o.data ≠ Data.cell v := by
  obtain ⟨q1, q2, ⟨x, y, q3⟩, q4, q5⟩ := q
  simp only [List.mem_cons, List.not_mem_nil, or_false] at hc
  rcases hc with rfl | rfl | rfl | rfl | rfl
  · exact ⟨_, q1, fun v e => by cases e⟩
  · exact pair_obj q2
  · exact pair_obj q3
  · exact iterX_obj q4
  · exact iterX_obj q5
theorem turnM {P : Program} {w : World} {K : PySem.W.Frag} {ta tb : Bool} {elts : List Expr} {kk : Nat} {tpos : Pos} {a b z TI TO i1 i2 : Addr} (sp : ZipSep2 z TI TO i1 i2 [i1, a] [i2, b]) (ne1 : a ≠ i1) (ne2 : b ≠ i2) :
    Turn P w K (.Tuple elts kk tpos) (ItM K ta a tb b) [z, TI, TO, i1, i2] z fun i h => IsZip h z TI TO Value.none ∧ IsTupOf2 h TI (Value.ref i1) (Value.ref i2) ∧ (∃ x y, IsTupOf2 h TO x y) ∧ IterX ta h i1 a i ∧ IterX tb h i2 b i where
  mem := List.mem_cons_self
  obj i h q c hc := objM q c hc
  keep i h h' q k := by
    obtain ⟨q1, q2, ⟨x, y, q3⟩, q4, q5⟩ := q
    exact ⟨k z (by simp) _ q1, k TI (by simp) _ q2, ⟨x, y, k TO (by simp) _ q3⟩, iterX_keep q4 (k i1 (by simp)), iterX_keep q5 (k i2 (by simp))⟩
  item X hp hw hK hcl i pins s σ H E I fpo q go := by
    subst hp hw hK
    obtain ⟨xs, ys, h1, h2, hi⟩ := go
    obtain ⟨ia, va, ha⟩ := invX I h1
    obtain ⟨ib, vb, hb⟩ := invX I h2
    have hh : X.A.in1.handled = none := I.ok.hd hcl
    have g := GoesN.zip2 (prog := X.prog) (w := X.w) (A := X.A) (elts := elts) (x1 := kk) (pos := tpos) sp (drawsX hh ta i1 a ne1 ia.toArray) (drawsX hh tb i2 b ne2 ib.toArray)
    have la : ia.length = xs.length := va.length.symm
    have lb : ib.length = ys.length := vb.length.symm
    obtain ⟨q1, q2, q3, q4, q5⟩ := id q
    refine g.goes i s _ E (by simp only [List.size_toArray]; omega) ⟨q1, q2, q3, ⟨q4, ha⟩, q5, hb⟩ fun v h' tk Y S k _ => ?_
    obtain ⟨T, u, u', rfl, hT, e1, e2, ht⟩ := Y
    obtain ⟨x, f1, r1⟩ := vals_get va e1
    obtain ⟨y, f2, r2⟩ := vals_get vb e2
    obtain ⟨s1, s2, s3, ⟨s4, _⟩, s5, _⟩ := S
    have nT : H T = none := I.hok.fresh hT
    refine ⟨.ref T, upd H T (.tup [x, y]), new_pair I k (fun c hc => fpo c ?_) hT ht r1 r2, rfl, ⟨T, x, y, rfl, nT, rfl, fun xs' h => ?_, fun ys' h => ?_⟩, ⟨s1, s2, s3, s4, s5⟩, fun c hc => ?_⟩
    · simp only [List.mem_cons, List.not_mem_nil, or_false] at hc ⊢
      rcases hc with h | h | h | h <;> simp [h]
    · rw [injX I h h1]; exact f1
    · rw [injX I h h2]; exact f2
    · have : c ≠ T := by
        rintro rfl
        obtain ⟨o, ho, _⟩ := objM q c hc
        exact absurd (Nat.lt_of_lt_of_le (Heap.lt_size ho) hT) (Nat.lt_irrefl _)
      rw [upd_ne this]
      exact (fpo c hc).1
  done X hp hw hK hcl i pins s σ H E I fpo q st := by
    subst hp hw hK
    obtain ⟨xs, ys, h1, h2, hi⟩ := st
    obtain ⟨ia, va, ha⟩ := invX I h1
    obtain ⟨ib, vb, hb⟩ := invX I h2
    have hh : X.A.in1.handled = none := I.ok.hd hcl
    have g := GoesN.zip2 (prog := X.prog) (w := X.w) (A := X.A) (elts := elts) (x1 := kk) (pos := tpos) sp (drawsX hh ta i1 a ne1 ia.toArray) (drawsX hh tb i2 b ne2 ib.toArray)
    have la : ia.length = xs.length := va.length.symm
    have lb : ib.length = ys.length := vb.length.symm
    obtain ⟨q1, q2, q3, q4, q5⟩ := id q
    have e : i = min ia.toArray.size ib.toArray.size := by simp only [List.size_toArray]; omega
    rw [e] at q4 q5
    refine L2.thn (g.stops s (fun s1 => L2.Inv X pins σ H s1) E ⟨q1, q2, q3, ⟨q4, ha⟩, q5, hb⟩ fun h' tk k _ => ?_) fun _ _ h => h
    exact I.turnedL (ch := [z, TO, i1, i2]) k fun c hc => fpo c (by
      simp only [List.mem_cons, List.not_mem_nil, or_false] at hc ⊢
      rcases hc with h | h | h | h <;> simp [h])
  self A i s Q E q h := wpAny_pyIter_zip q.1 h
theorem objN {ta : Bool} {a e it : Addr} {h : Heap} {i : Nat} (q : (∃ old, IsEnum h e it (i : Int) old) ∧ IterX ta h it a i) (c : Addr) (hc : c ∈ [e, it]) : ∃ o, h.get? c = some o ∧ ∀ v : Option Value, o.data ≠ Data.cell v := by
  obtain ⟨⟨old, q1⟩, q2⟩ := q
  simp only [List.mem_cons, List.not_mem_nil, or_false] at hc
  rcases hc with rfl | rfl
  · exact ⟨_, q1, fun v e => by cases e⟩
  · exact iterX_obj q2
theorem turnN {P : Program} {w : World} {K : PySem.W.Frag} {ta : Bool} {elts : List Expr} {kk : Nat} {tpos : Pos} {a e it : Addr} (n1 : e ≠ it) (n2 : e ≠ a) (n3 : a ≠ it) :
    Turn P w K (.Tuple elts kk tpos) (ItN K ta a) [e, it] e fun i h => (∃ old, IsEnum h e it (i : Int) old) ∧ IterX ta h it a i where
  mem := List.mem_cons_self
  obj i h q c hc := objN q c hc
  keep i h h' q k := by
    obtain ⟨⟨old, q1⟩, q2⟩ := q
    exact ⟨⟨old, k e (by simp) _ q1⟩, iterX_keep q2 (k it (by simp))⟩
  item X hp hw hK hcl i pins s σ H E I fpo q go := by
    subst hp hw hK
    obtain ⟨xs, h1, hi⟩ := go
    obtain ⟨ia, va, ha⟩ := invX I h1
    have hh : X.A.in1.handled = none := I.ok.hd hcl
    have g := GoesN.enumFrom (prog := X.prog) (w := X.w) (A := X.A) (elts := elts) (x1 := kk) (pos := tpos) 0 (drawsX hh ta it a n3 ia.toArray) e n1 (by simp [n1, n2]) (by simp)
    have la : ia.length = xs.length := va.length.symm
    obtain ⟨q1, q2⟩ := id q
    refine g.goes i s _ E (by simp only [List.size_toArray]; omega) ⟨by simpa using q1, q2, ha⟩ fun v h' tk Y S k _ => ?_
    obtain ⟨T, t, u, rfl, hT, e1, ht⟩ := Y
    obtain ⟨x, f1, r1⟩ := vals_get va e1
    obtain ⟨s1, s2, _⟩ := S
    have nT : H T = none := I.hok.fresh hT
    have ei : (0 : Int) + (i : Int) = (i : Int) := Int.zero_add _
    rw [ei] at ht
    refine ⟨.ref T, upd H T (.tup [.int (i : Int), x]), new_pair I k (fun c hc => fpo c ?_) hT ht (show RelV (.int (i : Int)) (.int (i : Int) t) from ⟨t, rfl⟩) r1, rfl, ⟨T, x, rfl, nT, rfl, fun xs' h => ?_⟩, ⟨?_, s2⟩, fun c hc => ?_⟩
    · simpa using hc
    · rw [injX I h h1]; exact f1
    · obtain ⟨old, s1⟩ := s1
      rw [Int.zero_add] at s1
      exact ⟨old, s1⟩
    · have : c ≠ T := by
        rintro rfl
        obtain ⟨o, ho, _⟩ := objN q c hc
        exact absurd (Nat.lt_of_lt_of_le (Heap.lt_size ho) hT) (Nat.lt_irrefl _)
      rw [upd_ne this]
      exact (fpo c hc).1
  done X hp hw hK hcl i pins s σ H E I fpo q st := by
    subst hp hw hK
    obtain ⟨xs, h1, hi⟩ := st
    obtain ⟨ia, va, ha⟩ := invX I h1
    have hh : X.A.in1.handled = none := I.ok.hd hcl
    have g := GoesN.enumFrom (prog := X.prog) (w := X.w) (A := X.A) (elts := elts) (x1 := kk) (pos := tpos) 0 (drawsX hh ta it a n3 ia.toArray) e n1 (by simp [n1, n2]) (by simp)
    have la : ia.length = xs.length := va.length.symm
    obtain ⟨q1, q2⟩ := id q
    have e : i = ia.toArray.size := by simp only [List.size_toArray]; omega
    rw [e] at q1 q2
    refine L2.thn (g.stops s (fun s1 => L2.Inv X pins σ H s1) E ⟨by simpa using q1, q2, ha⟩ fun h' tk k _ => ?_) fun _ _ h => h
    exact I.turnedL (ch := _) k fun c hc => fpo c (by simpa using hc)
  self A i s Q E q h := by
    obtain ⟨⟨old, q1⟩, _⟩ := q
    exact wpAny_pyIter_enum q1 h
theorem vals2 {x y : V} {us : List Value} (h : Vals [x, y] us) : ∃ u v, us = [u, v] ∧ RelV x u ∧ RelV y v := by
  cases h with
  | cons h1 h2 => cases h2 with
    | cons h3 h4 => cases h4; exact ⟨_, _, rfl, h1, h3⟩
theorem vals1 {x : V} {us : List Value} (h : Vals [x] us) : ∃ u, us = [u] ∧ RelV x u := by
  cases h with
  | cons h1 h2 => cases h2; exact ⟨_, rfl, h1⟩
theorem hasX_lt {t : Bool} {h : Heap} {a : Addr} {its : Array Value} (q : HasX t h a its) : a < h.objs.size := by
  cases t <;> exact Heap.lt_size q.choose_spec.1
theorem ne_lt {a n : Nat} (h : a < n) (k : Nat) : (a : Addr) ≠ n + k := Nat.ne_of_lt (Nat.lt_of_lt_of_le h (Nat.le_add_right _ _))
def iZipM (K : PySem.W.Frag) (ta : TA) : TI := fun σ H R => ta σ H fun vs H1 => ∃ a b t1 t2 xs ys, vs = [.ref a, .ref b] ∧ SqX K t1 H1 a xs ∧ SqX K t2 H1 b ys ∧ R (ItM K t1 a t2 b) H1
theorem pi_zipM {X : Cx} {e e2 : Expr} {ta : TA} {p pos tpos : Pos} {elts : List Expr} {kk : Nat} (hg : Gl X (Str.ofString "zip")) (hm : X.mg (Str.ofString "zip") = none) (ha : PA X [e, e2] ta)
    (h1 : starEach [e, e2] X.env = (false, eval e X.env) :: starEach [e2] X.env) (h2 : ((backTo pos (starEach [e2] X.env)).any fun x => x.fst) = false) :
    PI X (.Tuple elts kk tpos) (.Call (.Name (Str.ofString "zip") p) [e, e2] [] pos) (iZipM X.K ta) := by
  refine ⟨fun pins s σ H R I q => ?_⟩
  refine Call_ (ld_blt I hg hm boot_zip ?_ (by decide) (by decide))
  refine callWith_type1 (L2.thn (ha.run pos pins s σ H _ I q) fun us s1 r => ?_) h1 h2
  obtain ⟨vs, H1, I1, r1, a, b, t1, t2, xs, ys, rfl, qa, qb, qr⟩ := r
  obtain ⟨u, v, rfl, ru, rv⟩ := vals2 r1
  cases ru
  cases rv
  obtain ⟨ia, va, ha⟩ := invX I1 qa
  obtain ⟨ib, vb, hb⟩ := invX I1 qb
  refine zip_begins2 (begX t1 a ia.toArray) (begX t2 b ib.toArray) ha hb fun h' z1 z2 z3 z4 z5 z6 z7 => ?_
  refine wpAny_pyIter_zip z1 ?_
  have la := hasX_lt ha
  have lb := hasX_lt hb
  have I2 : L2.Inv X pins σ H1 { s1 with heap := h' } := I1.kept z7
  have sp := zip_sep2 (N := s1.heap.objs.size) (fp1 := [a]) (fp2 := [b]) (by simpa using la) (by simpa using lb)
  refine ⟨_, [s1.heap.objs.size + 4, s1.heap.objs.size + 2, s1.heap.objs.size + 3, s1.heap.objs.size, s1.heap.objs.size + 1], _, _, H1, rfl, I2, turnM sp (ne_lt la 0) (ne_lt lb 1), ⟨z1, z2, ⟨_, _, z3⟩, iterX_0 z4, iterX_0 z5⟩, fun c hc => ?_, qr⟩
  have : s1.heap.objs.size ≤ c := by
    simp only [List.mem_cons, List.not_mem_nil, or_false] at hc
    rcases hc with rfl | rfl | rfl | rfl | rfl <;> first | exact Nat.le_add_right _ _ | exact Nat.le_refl _
  exact I1.fpOk this (I1.hok.fresh this)
def iEnumM (K : PySem.W.Frag) (ta : TA) : TI := fun σ H R => ta σ H fun vs H1 => ∃ a t1 xs, vs = [.ref a] ∧ SqX K t1 H1 a xs ∧ R (ItN K t1 a) H1
theorem pi_enumM {X : Cx} {e : Expr} {ta : TA} {p pos tpos : Pos} {elts : List Expr} {kk : Nat} (hg : Gl X (Str.ofString "enumerate")) (hm : X.mg (Str.ofString "enumerate") = none) (ha : PA X [e] ta)
    (h1 : starEach [e] X.env = (false, eval e X.env) :: starEach [] X.env) :
    PI X (.Tuple elts kk tpos) (.Call (.Name (Str.ofString "enumerate") p) [e] [] pos) (iEnumM X.K ta) := by
  refine ⟨fun pins s σ H R I q => ?_⟩
  refine Call_ (ld_blt I hg hm boot_enumerate ?_ (by decide) (by decide))
  refine callWith_type1 (L2.thn (ha.run pos pins s σ H _ I q) fun us s1 r => ?_) h1 rfl
  obtain ⟨vs, H1, I1, r1, a, t1, xs, rfl, qa, qr⟩ := r
  obtain ⟨u, rfl, ru⟩ := vals1 r1
  cases ru
  obtain ⟨ia, va, ha⟩ := invX I1 qa
  refine call_enum1 (begX t1 a ia.toArray) ha fun h' z1 z2 z3 z4 => ?_
  refine wpAny_pyIter_enum z1 ?_
  have la := hasX_lt ha
  have I2 : L2.Inv X pins σ H1 { s1 with heap := h' } := I1.kept z4
  refine ⟨_, [s1.heap.objs.size + 1, s1.heap.objs.size], _, _, H1, rfl, I2, turnN (Nat.succ_ne_self _) (ne_lt la 1).symm (ne_lt la 0), ⟨⟨_, z1⟩, iterX_0 z2⟩, fun c hc => ?_, qr⟩
  have : s1.heap.objs.size ≤ c := by
    simp only [List.mem_cons, List.not_mem_nil, or_false] at hc
    rcases hc with rfl | rfl <;> first | exact Nat.le_add_right _ _ | exact Nat.le_refl _
  exact I1.fpOk this (I1.hok.fresh this)
section
variable {K : PySem.W.Frag} {Z : List Addr} {H1 : Hp} {L1 : List Addr}
def Walks1 (K : PySem.W.Frag) (Z : List Addr) (H1 : Hp) (L1 : List Addr) (t : Bool) (a : Addr) (ds : List D) (stay : Sto → Bool) : Prop :=
  ∀ (H2 : Hp) (L2 Z2 : List Addr) (S2 : Sto), ExtZ Z H1 L1 H2 L2 → Zx H1 Z Z2 → StR K H2 L2 Z2 S2 → stay S2 = true → ∃ vs, SqX K t H2 a vs ∧ RDL K H2 L2 Z2 vs ds
/-- a list or a tuple: as long as it stays -/
theorem items_x {S : Sto} (s : StR K H1 L1 Z S) {v : V} {d : D} {ds : List D} (h : RD K H1 L1 Z v d) (e : items d S = some ds) :
    ∃ a t, v = .ref a ∧ (∃ vs, SqX K t H1 a vs) ∧ Walks1 K Z H1 L1 t a ds (still d S) := by
  cases d with
  | p x =>
    cases x with
    | tup xs =>
      simp only [items, Option.some.injEq] at e
      subst e
      cases h with
      | p h =>
        cases h with
        | tup h0 d n r =>
          have h : Rd H1 _ (.tup _) := .inr ⟨_, h0⟩
          refine ⟨_, true, rfl, ⟨_, .inl h⟩, fun H2 L2 Z2 S2 e2 z s2 _ => ⟨_, .inl ((z.ez e2).rd h (z.out _ (by rcases h with h | ⟨o, h⟩ <;> rw [h] <;> simp) n)).1, ?_⟩⟩
          exact ((r.toZ (Zx.out z)).extZ (z.ez e2)).toD
        | tupK h k r =>
          refine ⟨_, true, rfl, ⟨_, sqT_any h⟩, fun H2 L2 Z2 S2 e2 z s2 _ => ⟨_, sqT_any h, ?_⟩⟩
          exact ((r.toZ (Zx.out z)).extZ (z.ez e2)).toD
    | lst xs =>
      simp only [items, Option.some.injEq] at e
      subst e
      cases h with
      | p h =>
        cases h with
        | lst h n r =>
          refine ⟨_, false, rfl, ⟨_, .of h⟩, fun H2 L2 Z2 S2 e2 z s2 _ => ⟨_, .of (e2.keep _ _ h n.1 n.2), ?_⟩⟩
          exact ((r.toZ (Zx.out z)).extZ (z.ez e2)).toD
    | _ => simp [items] at e
  | mu k =>
    simp only [items] at e
    cases hk : S[k]? with
    | none => rw [hk] at e; cases e
    | some o =>
      rw [hk] at e
      cases h with
      | mu hl =>
        cases o with
        | lst xs =>
          simp only [Option.some.injEq] at e
          subst e
          obtain ⟨vs, e1, r⟩ := s.at_ k _ _ hl hk
          refine ⟨_, false, rfl, ⟨vs, .of e1⟩, fun H2 L2 Z2 S2 e2 z s2 st => ?_⟩
          obtain ⟨vs2, h2, r2⟩ := s2.at_ k _ _ (e2.pre _ _ hl) (beqL_still hk st)
          exact ⟨vs2, .of h2, r2.toD⟩
        | dK ks ps => cases e
        | dT ks ps => cases e
        | dN ks ps => cases e
  | scr ns =>
    simp only [items, Option.some.injEq] at e
    subst e
    cases h with
    | scr h n => exact ⟨_, false, rfl, ⟨_, .inl h⟩, fun H2 L2 Z2 S2 e2 z s2 st => ⟨_, .inl ((z.ez e2).rd h (z.out _ (by rcases h with h | ⟨o, h⟩ <;> rw [h] <;> simp) n)).1, RDL.ints ns⟩⟩
    | scrK h => exact ⟨_, false, rfl, ⟨_, sqL_any h⟩, fun H2 L2 Z2 S2 e2 z s2 st => ⟨_, sqL_any h, RDL.ints ns⟩⟩
  | tup ds' =>
    simp only [items, Option.some.injEq] at e
    subst e
    cases h with
    | tup h n r => exact ⟨_, true, rfl, ⟨_, .inl h⟩, fun H2 L2 Z2 S2 e2 z s2 st => ⟨_, .inl (e2.rd h n).1, RDL.extZ (z.ez e2) (RDL.toZ (Zx.out z) r)⟩⟩
  | dct ks ds' => simp [items] at e

theorem pairs_get : ∀ {xs ys : List D} {i : Nat} {d : D}, (pairs xs ys)[i]? = some d → ∃ x y, xs[i]? = some x ∧ ys[i]? = some y ∧ d = .tup [x, y]
  | [], _, _, _, h => by simp [pairs] at h
  | _ :: _, [], _, _, h => by simp [pairs] at h
  | x :: xs, y :: ys, 0, d, h => ⟨x, y, rfl, rfl, by simpa [pairs] using h.symm⟩
  | x :: xs, y :: ys, i + 1, d, h => by
    have h' : (pairs xs ys)[i]? = some d := by simpa [pairs] using h
    obtain ⟨a, b, h1, h2, h3⟩ := pairs_get h'
    exact ⟨a, b, by simpa using h1, by simpa using h2, h3⟩
theorem pairs_len : ∀ (xs ys : List D), (pairs xs ys).length = min xs.length ys.length
  | [], _ => by simp [pairs]
  | _ :: _, [] => by simp [pairs]
  | x :: xs, y :: ys => by simp only [pairs, List.length_cons, pairs_len xs ys]; omega
theorem walk_m {t1 t2 : Bool} {a b : Addr} {ds es : List D} {st1 st2 : Sto → Bool} (h1 : Walks1 K Z H1 L1 t1 a ds st1) (h2 : Walks1 K Z H1 L1 t2 b es st2) :
    WalkR K Z H1 L1 (ItM K t1 a t2 b) ⟨pairs ds es, fun S => st1 S && st2 S⟩ := by
  intro i H2 L2 Z2 S2 e z s st
  simp only [Bool.and_eq_true] at st
  obtain ⟨vs, q1, r1⟩ := h1 H2 L2 Z2 S2 e z s st.1
  obtain ⟨us, q2, r2⟩ := h2 H2 L2 Z2 S2 e z s st.2
  refine ⟨fun d hd => ?_, fun hi => ⟨vs, us, q1, q2, ?_⟩⟩
  · obtain ⟨x, y, e1, e2, rfl⟩ := pairs_get hd
    obtain ⟨v, f1, g1⟩ := r1.get e1
    obtain ⟨u, f2, g2⟩ := r2.get e2
    refine ⟨⟨vs, us, q1, q2, ?_⟩, fun w H3 yl => ?_⟩
    · have := (List.getElem?_eq_some_iff.mp f1).1
      have := (List.getElem?_eq_some_iff.mp f2).1
      omega
    · obtain ⟨T, v', u', rfl, hT, rfl, k1, k2⟩ := yl
      have k1 := k1 vs q1
      have k2 := k2 us q2
      rw [f1] at k1
      rw [f2] at k2
      cases k1
      cases k2
      exact ⟨Ext.new_ hT, s.laid hT, .tup (.inl upd_same) (s.out hT) (RDL.ext (Ext.new_ hT) (.cons g1 (.cons g2 .nil)))⟩
  · have : (pairs ds es).length = i := hi
    rw [pairs_len] at this
    rw [r1.len, r2.len]; exact this.symm
theorem walk_n {t1 : Bool} {a : Addr} {ds : List D} {st1 : Sto → Bool} (h1 : Walks1 K Z H1 L1 t1 a ds st1) : WalkR K Z H1 L1 (ItN K t1 a) ⟨enumD ds, st1⟩ := by
  intro i H2 L2 Z2 S2 e z s st
  obtain ⟨vs, q1, r1⟩ := h1 H2 L2 Z2 S2 e z s st
  refine ⟨fun d hd => ?_, fun hi => ⟨vs, q1, ?_⟩⟩
  · have hd' : (enumD ds)[i]? = some d := hd
    unfold enumD at hd'
    obtain ⟨x, y, e1, e2, rfl⟩ := pairs_get hd'
    obtain ⟨v, f1, g1⟩ := r1.get e2
    rw [List.getElem?_map, Option.map_eq_some_iff] at e1
    obtain ⟨j, e3, rfl⟩ := e1
    obtain ⟨hj, e4⟩ := List.getElem?_eq_some_iff.mp e3
    rw [List.getElem_range] at e4
    subst e4
    refine ⟨⟨vs, q1, (List.getElem?_eq_some_iff.mp f1).1⟩, fun w H3 yl => ?_⟩
    obtain ⟨T, v', rfl, hT, rfl, k1⟩ := yl
    have k1 := k1 vs q1
    rw [f1] at k1
    cases k1
    exact ⟨Ext.new_ hT, s.laid hT, .tup (.inl upd_same) (s.out hT) (RDL.ext (Ext.new_ hT) (.cons (.p (.int _)) (.cons g1 .nil)))⟩
  · have : (enumD ds).length = i := hi
    unfold enumD at this
    rw [pairs_len, List.length_map, List.length_range, Nat.min_self] at this
    rw [r1.len]; exact this.symm
end
section
variable {X : Cx} {C : Nat → List D → Sto → R D} {cl : Nat → Value} {n : Nat} {c : Ck} {wx : WX}
theorem s_enum (g : Good X C cl n c wx) {f : Str} {x : Expr} {e : E} {p pos tpos : Pos} {elts : List Expr} {kk : Nat} (hf : bltC c f "enumerate" = true) (hs : notStar x = true) (hx : PE X x (tE X C cl wx e)) :
    PI X (.Tuple elts kk tpos) (.Call (.Name f p) [x] [] pos) (tSrc X C cl wx (.enum e)) := by
  obtain ⟨rfl, gf⟩ := g.blt hf
  have hm : X.mg (Str.ofString "enumerate") = none := g.nob _ (by decide)
  refine (pi_enumM gf hm (pa_cons hx pa_nil (star1 hs _ _)) (star1 hs _ _)).imp fun σ H Q q => ?_
  obtain ⟨L, Z, S, env, at_, post⟩ := q
  simp only [evI] at post
  refine ⟨L, Z, S, env, at_, post.bind fun d S1 H1 L1 v e1 s1 r1 q1 => ?_⟩
  cases hi : items d S1 with
  | none => rw [hi] at q1; exact (show False from q1).elim
  | some ds =>
    rw [hi] at q1
    obtain ⟨a, t, rfl, ⟨vs, h1⟩, h2⟩ := items_x s1 r1 hi
    exact ⟨a, t, vs, rfl, h1, post_ok q1 s1 (walk_n h2)⟩
theorem s_zip (g : Good X C cl n c wx) {f : Str} {x y : Expr} {e e' : E} {p pos tpos : Pos} {elts : List Expr} {kk : Nat} (hf : bltC c f "zip" = true) (hs : notStar x = true) (hs' : notStar y = true) (hx : PE X x (tE X C cl wx e)) (hy : PE X y (tE X C cl wx e')) :
    PI X (.Tuple elts kk tpos) (.Call (.Name f p) [x, y] [] pos) (tSrc X C cl wx (.zip e e')) := by
  obtain ⟨rfl, gf⟩ := g.blt hf
  have hm : X.mg (Str.ofString "zip") = none := g.nob _ (by decide)
  have h2 : starEach [y] X.env = [(false, eval y X.env)] := star1 hs' _ _
  refine (pi_zipM gf hm (pa_cons hx (pa_cons hy pa_nil h2) (star1 hs _ _)) (star1 hs _ _) (by rw [h2]; rfl)).imp fun σ H Q q => ?_
  obtain ⟨L, Z, S, env, at_, post⟩ := q
  simp only [evI] at post
  refine ⟨L, Z, S, env, at_, post.bind fun d S1 H1 L1 v e1 s1 r1 q1 => ?_⟩
  refine ⟨L1, Z, S1, env, at_.later e1 s1, q1.bind fun d2 S2 H2 L2 u e2 s2 r2 q2 => ?_⟩
  split at q2
  · rename_i ds es i1 i2
    obtain ⟨a, t, rfl, ⟨vs, h1⟩, w1⟩ := items_x s2 (RD.ext e2 r1) i1
    obtain ⟨b, t', rfl, ⟨us, h2⟩, w2⟩ := items_x s2 r2 i2
    exact ⟨a, b, t, t', vs, us, rfl, h1, h2, post_ok q2 s2 (walk_m w1 w2)⟩
  · exact (show False from q2).elim
end
end Mx
end

section
set_option Elab.async false
set_option linter.all false
set_option maxRecDepth 100000
set_option autoImplicit false
set_option maxHeartbeats 4000000
namespace Mx
open PySem L2 PySem.Spec PyProof.Rows
variable [WW]
/-! ### targets -/
def gNames : List Nat → TGs
  | [] => gNil
  | i :: is => gCons (gName i) (gNames is)
def gTg (K : PySem.W.Frag) : Tg → TG
  | .nm i => gName i
  | .tp is => gTup K is.length (gNames is)
section
variable {K : PySem.W.Frag} {H : Hp} {L Z : List Addr} {S : Sto}
/-- several slots -/
def setVs : List Nat → List V → L2.St → L2.St
  | i :: is, v :: vs, σ => setVs is vs (σ.set i (some v))
  | _, _, σ => σ
theorem gNames_ok : ∀ {is : List Nat} {vs : List V} {ds : List D} {σ : L2.St} {env env1 : Env} {G : L2.St → Hp → Prop}, setMany is ds env = some env1 → RDL K H L Z vs ds → EnvR K H L Z σ env →
    (EnvR K H L Z (setVs is vs σ) env1 → G (setVs is vs σ) H) → gNames is vs σ H G
  | [], _, [], _, _, _, _, e, .nil, r, h => by
    simp only [setMany, Option.some.injEq] at e
    subst e
    exact ⟨rfl, h r⟩
  | i :: is, _, d :: ds, _, _, _, _, e, .cons h1 h2, r, h => by
    simp only [setMany] at e
    exact ⟨_, _, rfl, gNames_ok e h2 (r.set h1) h⟩
  | [], _, _ :: _, _, _, _, _, e, _, _, _ => by simp [setMany] at e
  | _ :: _, _, [], _, _, _, _, e, _, _, _ => by simp [setMany] at e
theorem setMany_len : ∀ {is : List Nat} {ds : List D} {env env1 : Env}, setMany is ds env = some env1 → ds.length = is.length
  | [], [], _, _, _ => rfl
  | i :: is, d :: ds, _, _, e => by simp only [setMany] at e; simp [setMany_len e]
  | [], _ :: _, _, _, e => by simp [setMany] at e
  | _ :: _, [], _, _, e => by simp [setMany] at e
/-- slots that a target sets -/
inductive Sets : Tg → L2.St → L2.St → Prop where
  | nm (i : Nat) (v : V) (σ : L2.St) : Sets (.nm i) σ (σ.set i (some v))
  | tp (is : List Nat) (vs : List V) (σ : L2.St) : Sets (.tp is) σ (setVs is vs σ)
theorem gTg_ok {tg : Tg} {v : V} {d : D} {σ : L2.St} {env env1 : Env} {G : L2.St → Hp → Prop} (e : bindT tg d env = some env1) (h : RD K H L Z v d) (r : EnvR K H L Z σ env)
    (k : ∀ σ1, Sets tg σ σ1 → EnvR K H L Z σ1 env1 → G σ1 H) : gTg K tg v σ H G := by
  cases tg with
  | nm i =>
    simp only [bindT, Option.some.injEq] at e
    subst e
    exact k _ (.nm i v σ) (r.set h)
  | tp is =>
    simp only [bindT] at e
    split at e
    · rename_i xs
      obtain ⟨a, vs, rfl, h1, r1⟩ := h.pI.tupI
      have hl : vs.length = is.length := by rw [r1.toD.len, setMany_len e]
      exact ⟨a, vs, rfl, h1, hl, gNames_ok e r1.toD r (k _ (.tp is vs σ))⟩
    · rename_i ds
      cases h with
      | tup h1 h2 h3 => exact ⟨_, _, rfl, .inl h1, by rw [h3.len, setMany_len e], gNames_ok e h3 r (k _ (.tp is _ σ))⟩
    · cases e
end
theorem wipe_set {i : Nat} {o : Option V} : ∀ {vs : List Nat} {σ : L2.St}, i ∈ vs → L2.wipe (σ.set i o) vs = L2.wipe σ vs
  | v :: vs, σ, h => by
    unfold L2.wipe
    by_cases hv : i ∈ vs
    · rw [wipe_set hv]
    · have : i = v := by rcases List.mem_cons.mp h with e | e; · exact e
                         · exact absurd e hv
      subst this
      have key : ∀ {vs : List Nat} {σ : L2.St}, i ∉ vs → L2.wipe (σ.set i o) vs = (L2.wipe σ vs).set i o := by
        intro vs
        induction vs with
        | nil => intro σ _; rfl
        | cons w vs ih =>
          intro σ hn
          simp only [List.mem_cons, not_or] at hn
          unfold L2.wipe
          rw [ih hn.2, List.set_comm _ _ hn.1]
      rw [key hv, List.set_set]
theorem wipe_wipe : ∀ (vs : List Nat) (σ : L2.St), L2.wipe (L2.wipe σ vs) vs = L2.wipe σ vs := by
  have key : ∀ (us vs : List Nat) (σ : L2.St), (∀ i ∈ us, i ∈ vs) → L2.wipe (L2.wipe σ us) vs = L2.wipe σ vs := by
    intro us
    induction us with
    | nil => intro vs σ _; rfl
    | cons u us ih =>
      intro vs σ h
      show L2.wipe ((L2.wipe σ us).set u none) vs = _
      rw [wipe_set (h u List.mem_cons_self), ih vs σ fun i hi => h i (List.mem_cons_of_mem _ hi)]
  exact fun vs σ => key vs vs σ fun _ h => h
theorem wipe_setVs : ∀ {is : List Nat} {xs : List V} {vs : List Nat} {σ : L2.St}, (∀ i ∈ is, i ∈ vs) → L2.wipe (setVs is xs σ) vs = L2.wipe σ vs
  | [], _, _, _, _ => by unfold setVs; rfl
  | _ :: _, [], _, _, _ => by unfold setVs; rfl
  | i :: is, x :: xs, vs, σ, h => by
    show L2.wipe (setVs is xs (σ.set i (some x))) vs = _
    rw [wipe_setVs fun j hj => h j (List.mem_cons_of_mem _ hj), wipe_set (h i List.mem_cons_self)]
theorem wipe_sets {tg : Tg} {σ σ1 : L2.St} {own vs : List Nat} (h : Sets tg (L2.wipe σ vs) σ1) (hi : inC own tg = true) (hv : ∀ i ∈ own, i ∈ vs) : L2.wipe σ1 vs = L2.wipe σ vs := by
  generalize hσ : L2.wipe σ vs = τ at h
  cases h with
  | nm i v _ =>
    have : i ∈ own := by simpa [inC] using hi
    rw [wipe_set (hv i this), ← hσ, wipe_wipe]
  | tp is xs _ =>
    have : ∀ i ∈ is, i ∈ own := by simpa [inC] using hi
    rw [wipe_setVs fun i h => hv i (this i h), ← hσ, wipe_wipe]
section
variable {X : Cx} {C : Nat → List D → Sto → R D} {cl : Nat → Value} {n : Nat} {c : Ck} {wx : WX}
theorem s_names (g : Good X C cl n c wx) : ∀ {is : List Nat} {es : List Expr}, namesC c is es = true → PGs X es (gNames is) ∧ (assignEach es X.env).length = is.length ∧ (assignEach es X.env).findIdx? (·.1) = none
  | [], [], _ => ⟨pgs_nil, rfl, rfl⟩
  | i :: is, .Name x p :: es, h => by
    simp only [namesC, Bool.and_eq_true] at h
    obtain ⟨h1, h2, h3⟩ := s_names g h.2
    have hl := g.loc h.1.2
    refine ⟨pgs_cons (pg_name g.nd (g.slot h.1.1) hl.1 hl.2) h1, ?_, ?_⟩
    · show (assignEach es X.env).length + 1 = _
      rw [h2]; rfl
    · show List.findIdx? (fun y => y.1) ((false, assign (.Name x p) X.env) :: assignEach es X.env) = none
      rw [List.findIdx?_cons]
      simp only [Bool.false_eq_true, if_false, h3]
      rfl
  | [], _ :: _, h => by simp [namesC] at h
  | _ :: _, [], h => by simp [namesC] at h
theorem s_tg (g : Good X C cl n c wx) {t : Tg} {x : Expr} (h : tgC c t x = true) : PG X x (gTg X.K t) := by
  cases t with
  | nm i =>
    cases x with
    | Name y p =>
      simp only [tgC, Bool.and_eq_true] at h
      have hl := g.loc h.2
      exact pg_name g.nd (g.slot h.1) hl.1 hl.2
    | _ => cases h
  | tp is =>
    cases x with
    | Tuple es k p =>
      obtain ⟨h1, h2, h3⟩ := s_names g (show namesC c is es = true from h)
      exact pg_tup g.calm h1 h2 h3
    | _ => cases h

/-! ### comprehensions -/
/-- the state within: the new list at q so far -/
structure InL (K : PySem.W.Frag) (H1 : Hp) (L1 Z : List Addr) (q : Addr) (H : Hp) (L : List Addr) (S : Sto) (acc : List P) : Prop where
  ext : Ext H1 L1 H L
  st : StR K H L (q :: Z) S
  ni : q ∉ L
  at_ : ∃ vs, H q = some (.lst vs) ∧ RpL K H L (q :: Z) vs acc
theorem InL.step {K : PySem.W.Frag} {H1 : Hp} {L1 Z : List Addr} {q : Addr} {H H' : Hp} {L L' : List Addr} {S S' : Sto} {acc : List P} (i : InL K H1 L1 Z q H L S acc) (e : Ext H L H' L') (s : StR K H' L' (q :: Z) S') : InL K H1 L1 Z q H' L' S' acc := by
  obtain ⟨vs, h1, h2⟩ := i.at_
  exact ⟨i.ext.trans e, s, Ext.notIn i.ni (by rw [h1]; simp) e, vs, e.keep _ _ h1 i.ni, h2.ext e⟩
theorem InL.more {K : PySem.W.Frag} {H1 : Hp} {L1 Z : List Addr} {q : Addr} {H : Hp} {L : List Addr} {S : Sto} {acc : List P} {vs : List V} {v : V} {x : P} (hq : H1 q = none) (i : InL K H1 L1 Z q H L S acc) (h : H q = some (.lst vs)) (r : RpL K H L (q :: Z) vs acc) (rv : Rp K H L (q :: Z) v x) :
    InL K H1 L1 Z q (upd H q (.lst (vs ++ [v]))) L S (acc ++ [x]) := by
  have k : ∀ a, a ≠ q → upd H q (.lst (vs ++ [v])) a = H a := fun a ha => upd_ne ha
  exact ⟨i.ext.aside hq _, i.st.chg List.mem_cons_self i.ni k (by rw [upd_same]; simp), i.ni, _, upd_same, ((r.app (.cons rv .nil))).chg List.mem_cons_self k⟩
/-- the loop of a comprehension, by what its turns do -/
theorem comp_loop {K : PySem.W.Frag} {Z : List Addr} {H1 : Hp} {L1 : List Addr} {J : It} {w : Walked} {q : Addr} {turn : D → List P → Sto → R (List P)} {H2 : Hp} {L2 Z2 : List Addr} {G : V → Hp → (Hp → Prop) → Prop} {Qd : Hp → Prop}
    {H0 : Hp} {L0 : List Addr} {S0 Sf : Sto} {acc0 ps : List P} (wr : WalkR K Z H1 L1 J w) (zx : Zx H1 Z (q :: Z2)) (i0 : InL K H2 L2 Z2 q H0 L0 S0 acc0) (x0 : ExtZ (q :: Z2) H1 L1 H0 L0) (hr : compL w.stay turn w.ds acc0 S0 = .ok ps Sf)
    (hx : ∀ H L, ExtZ (q :: Z2) H1 L1 H L → ExtZ Z H1 L1 H L)
    (fin : ∀ H L, InL K H2 L2 Z2 q H L Sf ps → ExtZ (q :: Z2) H1 L1 H L → Qd H)
    (body : ∀ (x : V) (d : D) (H : Hp) (L : List Addr) (S S1 : Sto) (acc acc1 : List P) (Nx : Hp → Prop), InL K H2 L2 Z2 q H L S acc → ExtZ (q :: Z2) H1 L1 H L → RD K H L (q :: Z2) x d → turn d acc S = .ok acc1 S1 →
      (∀ H' L', InL K H2 L2 Z2 q H' L' S1 acc1 → ExtZ (q :: Z2) H L H' L' → Nx H') → G x H Nx) :
    ∃ W : Nat → Nat → Hp → Prop, (∃ m, W 0 m H0) ∧ ∀ i m H, W i m H →
      (J.stop i H ∧ Qd H) ∨ (J.go i H ∧ ∃ Nx : Hp → Prop, (∀ H', Nx H' → ∃ m', m' < m ∧ W (i + 1) m' H') ∧ ∀ x H', J.yld i H x H' → G x H' Nx) := by
  refine ⟨fun i m H => m = w.ds.length - i ∧ i ≤ w.ds.length ∧ ∃ L S acc, InL K H2 L2 Z2 q H L S acc ∧ ExtZ (q :: Z2) H1 L1 H L ∧ compL w.stay turn (w.ds.drop i) acc S = .ok ps Sf, ⟨_, rfl, Nat.zero_le _, L0, S0, acc0, i0, x0, by simpa using hr⟩, ?_⟩
  rintro i m H ⟨rfl, hi, L, S, acc, iL, xL, hc⟩
  by_cases hlt : i < w.ds.length
  · have hd : w.ds.drop i = w.ds[i] :: w.ds.drop (i + 1) := List.drop_eq_getElem_cons hlt
    rw [hd] at hc
    unfold compL at hc
    split at hc
    · rename_i hs
      obtain ⟨acc1, S1, h1, h2⟩ := bind_ok hc
      obtain ⟨w1, _⟩ := wr i H L (q :: Z2) S (hx _ _ xL) zx iL.st hs
      obtain ⟨go, yl⟩ := w1 w.ds[i] (List.getElem?_eq_getElem hlt)
      refine .inr ⟨go, fun H' => ∃ L', InL K H2 L2 Z2 q H' L' S1 acc1 ∧ ExtZ (q :: Z2) H1 L1 H' L', fun H' ⟨L', q', x'⟩ => ⟨w.ds.length - (i + 1), by omega, rfl, hlt, L', S1, acc1, q', x', h2⟩, fun x H' y => ?_⟩
      obtain ⟨e1, s1, r1⟩ := yl x H' y
      exact body x w.ds[i] H' L S S1 acc acc1 _ (iL.step e1 s1) (xL.trans e1.z) r1 h1 fun H'' L'' q'' x'' => ⟨L'', q'', (xL.trans e1.z).trans x''⟩
    · cases hc
  · have e : i = w.ds.length := by omega
    subst e
    rw [List.drop_length] at hc
    unfold compL at hc
    split at hc
    · rename_i hs
      cases hc
      obtain ⟨_, w2⟩ := wr w.ds.length H L (q :: Z2) _ (hx _ _ xL) zx iL.st hs
      exact .inl ⟨w2 rfl, fin H L iL xL⟩
    · cases hc
/-- nothing leaves a comprehension's block -/
def wx0 : WX := fun _ _ _ _ => False
theorem Good.blk (g : Good X C cl n c wx) {scope : Scope} (hk : (relS scope c.sc).kind = .function) (s : Shared) (H : Hp) (A : Addr) (cs : List (Str × Addr)) (fp : List Addr) : Good (X.blk s H scope (compEnvC scope cs A X.env) fp) C cl n (blk c scope) wx0 where
  calm := g.calm
  ww := g.ww
  imp := g.imp
  kwc := g.kwc
  nd := g.nd
  names := g.names
  scope := by
    show relabel scope X.env = relS scope c.sc
    rw [← g.scope]
    rfl
  fnc := rfl
  tk := fun u s' x => by
    obtain ⟨a, B, sI, pins, σ, H, cls, d, _, _, _, _, _, _, _, _, w⟩ := x
    exact w
  gd := g.gd
  room := g.room
  sys := g.sys
  nob := g.nob
  cst := g.cst
  kfun := hk
  mks := g.mks
  fns := g.fns
theorem own_snd {own : List Nat} (h : own.all (fun i => (c.N[i]?).isSome) = true) : (ownL c own).map (·.2) = own := by
  unfold ownL
  induction own with
  | nil => rfl
  | cons i own ih =>
    simp only [List.all_cons, Bool.and_eq_true] at h
    obtain ⟨x, hx⟩ := Option.isSome_iff_exists.mp h.1
    simp [List.filterMap_cons, hx, ih h.2]
theorem wipe_env : ∀ (env : List (Option D)) (vs : List Nat), True := fun _ _ => trivial
theorem s_if0 {X : Cx} {wx : WX} : PTs X [] (tIf X C cl wx .none) := pts_nil.imp fun σ H Q q => by
  obtain ⟨L, Z, S, env, at_, post⟩ := q
  simp only [evC] at post
  exact post_ok post at_.st rfl
theorem s_if1 {X : Cx} {wx : WX} {x : Expr} {e : E} (h : PT X x (tT X C cl wx e)) : PTs X [x] (tIf X C cl wx (.some e)) := (pts_one h).imp fun σ H Q q => by
  obtain ⟨L, Z, S, env, at_, post⟩ := q
  exact ⟨L, Z, S, env, at_, post⟩
theorem ExtZ.at_ {Z : List Addr} {H : Hp} {L : List Addr} {q : Addr} {o : HO} (h : q ∈ Z) (hq : H q ≠ none) : ExtZ Z H L (upd H q o) L where
  keep := fun a u e _ n => (upd_ne fun z => n (by rw [z]; exact h)).trans e
  dom := fun a e => by
    by_cases z : a = q
    · rw [z, upd_same]; simp
    · rw [upd_ne z]; exact e
  pre := fun _ _ h => h
  new := fun _ h => .inl h
theorem ExtZ.drop {Z : List Addr} {H H' : Hp} {L L' : List Addr} {q : Addr} (h : H q = none) (e : ExtZ (q :: Z) H L H' L') : ExtZ Z H L H' L' :=
  ⟨fun a o x n m => e.keep a o x n fun k => by
    rcases List.mem_cons.mp k with z | z
    · rw [z, h] at x; cases x
    · exact m z, e.dom, e.pre, e.new⟩
/-- one turn, its target and its test -/
theorem turn_ok {K : PySem.W.Frag} {wx : WX} {Ha : Hp} {La Za : List Addr} {q : Addr} {tg : Tg} {own : List Nat} {ifs : Eo} {body : Env → List P → Sto → R (List P)} {env : Env} {σ : L2.St} {te : L2.St → Hp → (Hp → Prop) → Prop}
    {x : V} {d : D} {H : Hp} {L : List Addr} {S S1 : Sto} {acc acc1 : List P} {Nx : Hp → Prop}
    (er : EnvR K H L (q :: Za) (L2.wipe σ own) (wipeE env own)) (hin : inC own tg = true) (iL : InL K Ha La Za q H L S acc) (rd : RD K H L (q :: Za) x d) (ht : turnC tg own (evC C ifs) body env d acc S = .ok acc1 S1)
    (nx : ∀ H' L', InL K Ha La Za q H' L' S1 acc1 → ExtZ (q :: Za) H L H' L' → Nx H')
    (kbody : ∀ (H' : Hp) (L' : List Addr) (S' : Sto) (σ1 : L2.St) (env1 : Env), Ext H L H' L' → InL K Ha La Za q H' L' S' acc → EnvR K H' L' (q :: Za) σ1 env1 → L2.wipe σ1 own = L2.wipe σ own → body env1 acc S' = .ok acc1 S1 → te σ1 H' Nx) :
    gTg K tg x (L2.wipe σ own) H fun σ1 H1 => L2.wipe σ1 own = L2.wipe σ own ∧ tG K cl wx relB (evC C ifs) σ1 H1 fun b H3 => if b = true then te σ1 H3 Nx else Nx H3 := by
  unfold turnC at ht
  split at ht
  · rename_i env1 hb
    obtain ⟨b, S2, h1, h2⟩ := bind_ok ht
    refine gTg_ok hb rd er fun σ1 hset er1 => ?_
    have hw : L2.wipe σ1 own = L2.wipe σ own := wipe_sets hset hin fun _ h => h
    refine ⟨hw, L, q :: Za, S, env1, ⟨iL.st, er1⟩, ?_⟩
    rw [h1]
    intro H3 L3 v e3 s3 hv
    cases (show v = b from hv)
    cases b with
    | true =>
      rw [if_pos rfl]
      rw [if_pos rfl] at h2
      exact kbody H3 L3 S2 σ1 env1 e3 (iL.step e3 s3) (er1.ext e3) hw h2
    | false =>
      rw [if_neg Bool.false_ne_true]
      rw [if_neg Bool.false_ne_true] at h2
      cases h2
      exact nx H3 L3 (iL.step e3 s3) e3.z
  · cases ht
theorem listed_post {K : PySem.W.Frag} {H : Hp} {L Z : List Addr} {W : Wsh} {r : R (List P)} {Q : VK} (h : Post K H L Z W (relD K Z) (listed r) Q) : ∃ ps S, r = .ok ps S ∧ ∀ H1 L1 v, Ext H L H1 L1 → StR K H1 L1 Z S → Rp K H1 L1 Z v (.lst ps) → Q v H1 := by
  cases r with
  | stuck => exact (show False from h).elim
  | exc k fs S => exact (show False from h).elim
  | ok ps S => exact ⟨ps, S, rfl, fun H1 L1 v e s r => h H1 L1 v e s (.p r)⟩
theorem EnvR.extZ {K : PySem.W.Frag} {H H1 : Hp} {L L1 Z : List Addr} {σ : L2.St} {env : Env} (r : EnvR K H L Z σ env) (e : ExtZ Z H L H1 L1) : EnvR K H1 L1 Z σ env :=
  ⟨r.len, fun i d hi => let ⟨v, h1, h2⟩ := r.at_ i d hi; ⟨v, h1, h2.extZ e⟩⟩
theorem EnvR.toZ {K : PySem.W.Frag} {H : Hp} {L Z Z1 : List Addr} {σ : L2.St} {env : Env} (r : EnvR K H L Z σ env) (h : Zx H Z Z1) : EnvR K H L Z1 σ env :=
  ⟨r.len, fun i d hi => let ⟨v, h1, h2⟩ := r.at_ i d hi; ⟨v, h1, h2.toZ h.out⟩⟩
/-- the last item of a comprehension -/
theorem one_ok {K : PySem.W.Frag} {wx : WX} {H1 : Hp} {L1 Z : List Addr} {q : Addr} {e : E} {H : Hp} {L : List Addr} {S S1 : Sto} {acc acc1 : List P} {σ : L2.St} {env : Env} {Nx : Hp → Prop} (hq : H1 q = none) (iL : InL K H1 L1 Z q H L S acc) (er : EnvR K H L (q :: Z) σ env)
    (h : oneMore (evE C e) env acc S = .ok acc1 S1) (nx : ∀ H' L', InL K H1 L1 Z q H' L' S1 acc1 → ExtZ (q :: Z) H L H' L' → Nx H') :
    tG K cl wx relD (evE C e) σ H fun y H4 => ∃ a, H4 q = some (.lst a) ∧ a.length < sizeLine ∧ Nx (upd H4 q (.lst (a ++ [y]))) := by
  unfold oneMore at h
  obtain ⟨d, S2, h1, h2⟩ := bind_ok h
  refine ⟨L, q :: Z, S, env, ⟨iL.st, er⟩, ?_⟩
  rw [h1]
  intro H4 L4 y e4 s4 ry
  have iL4 := iL.step e4 s4
  obtain ⟨vs, a1, a2⟩ := iL4.at_
  split at h2
  · rename_i x
    split at h2
    · rename_i hl
      cases h2
      refine ⟨vs, a1, Nat.lt_of_lt_of_le (by rw [a2.len]; exact hl) (Nat.le_of_lt lim_lt), ?_⟩
      exact nx _ _ (iL4.more hq a1 a2 (RD.pI ry)) (e4.z.trans (ExtZ.at_ List.mem_cons_self (by rw [a1]; simp)))
    · cases h2
  · cases h2
theorem s_comp (g : Good X C cl n c wx) {own : List Nat} {tg : Tg} {src : Src} {ifs : Eo} {elt : E} {te t i : Expr} {fs : List Expr} {scope : Scope} {pos : Pos} (ho : ownC c scope own = true) (hin : inC own tg = true) (hs : PI X t i (tSrc X C cl wx src))
    (hg : ∀ (X' : Cx), Good X' C cl n (blk c scope) wx0 → PG X' t (gTg X'.K tg)) (ht : ∀ (X' : Cx), Good X' C cl n (blk c scope) wx0 → PTs X' fs (tIf X' C cl wx0 ifs)) (he : ∀ (X' : Cx), Good X' C cl n (blk c scope) wx0 → PE X' te (tE X' C cl wx0 elt))
    (hf : ∀ x, foldedSetIterable i X.env x = pure x) :
    ∃ T : TE, (∀ σ H Q, tE X C cl wx (.comp own tg src ifs elt) σ H Q → T σ H Q) ∧ PE X (.ListComp te [⟨t, i, fs, 0⟩] scope pos) T ∧
      ∀ {k : Nat} {y : Str} {py spos : Pos}, X.N[k]? = some y → X.env.scope.names.lookup y = some .local → swapsWith (.ListComp te [⟨t, i, fs, 0⟩] scope pos) (some (.Name y py)) spos.line X.env = pure true →
        PS X (.Assign [.Name y py] (.ListComp te [⟨t, i, fs, 0⟩] scope pos) spos) (tAsg T (gName k)) := by
  unfold ownC at ho
  simp only [Bool.and_eq_true] at ho
  have hb : BlkOk X.N X.env.scope scope (ownL c own) := by rw [g.names, g.scope]; exact blkOk_by ho.1
  have h2 := own_snd ho.2
  have hk : (relS scope c.sc).kind = .function := hb.kind
  refine ⟨tLc (tSrc X C cl wx src) (gTg X.K tg) (tG X.K cl wx0 relB (evC C ifs)) (tG X.K cl wx0 relD (evE C elt)) ((ownL c own).map (·.2)), fun σ H Q q => ?_,
    pe_lc g.calm g.nd hs hb (fun s H A cs fp => hg _ (g.blk hk s H A cs fp)) (fun s H A cs fp => ht _ (g.blk hk s H A cs fp)) (fun s H A cs fp => he _ (g.blk hk s H A cs fp)) hf,
    fun hkk hy hsw => ps_setLc g.calm g.nd hkk hy hsw hs hb (fun s H A cs fp => hg _ (g.blk hk s H A cs fp)) (fun s H A cs fp => ht _ (g.blk hk s H A cs fp)) (fun s H A cs fp => he _ (g.blk hk s H A cs fp)) hf⟩
  rw [h2]
  obtain ⟨L, Z, S, env, at_, post⟩ := q
  simp only [evE] at post
  refine ⟨L, Z, S, env, at_, post.bind fun w S1 H1 L1 J e1 s1 wr q1 => fun q hq => ?_⟩
  obtain ⟨ps, Sf, hr, fin⟩ := listed_post q1
  have a1 := at_.later e1 s1
  have i0 : InL X.K H1 L1 Z q (upd H1 q (.lst [])) L1 S1 [] := ⟨Ext.new_ hq, s1.opn hq _, s1.free hq, [], upd_same, .nil⟩
  refine comp_loop (K := X.K) (Z := Z) (H1 := H1) (L1 := L1) (H2 := H1) (L2 := L1) (Z2 := Z) (G := fun x H' Nx => gTg X.K tg x (L2.wipe σ own) H' fun σ2 H2 => L2.wipe σ2 own = L2.wipe σ own ∧ tG X.K cl wx0 relB (evC C ifs) σ2 H2 fun b H3 =>
      if b = true then tG X.K cl wx0 relD (evE C elt) σ2 H3 fun y H4 => ∃ acc, H4 q = some (.lst acc) ∧ acc.length < sizeLine ∧ Nx (upd H4 q (.lst (acc ++ [y]))) else Nx H3)
    wr (Zx.cons hq) i0 (Ext.new_ hq).z hr (fun _ _ e => e.drop hq) (fun H L iL _ => ?_) (fun x d H L S S2 acc acc1 Nx iL _ rd htn nx => ?_)
  · obtain ⟨vs, b1, b2⟩ := iL.at_
    refine fin H L _ iL.ext iL.st.shut (.lst b1 ⟨iL.ni, fun m => s1.zs q m hq⟩ (b2.less fun _ n => out_tl n))
  · have er : EnvR X.K H L (q :: Z) (L2.wipe σ own) (wipeE env own) := ((a1.env.toZ (Zx.cons hq)).ext iL.ext).wipe own
    refine turn_ok (te := fun σ2 H3 Nx => tG X.K cl wx0 relD (evE C elt) σ2 H3 fun y H4 => ∃ acc, H4 q = some (.lst acc) ∧ acc.length < sizeLine ∧ Nx (upd H4 q (.lst (acc ++ [y])))) er hin iL rd htn nx ?_
    intro H' L' S' σ1 env1 e' iL' er' _ hb'
    exact one_ok hq iL' er' hb' fun H'' L'' i'' x'' => nx H'' L'' i'' (e'.z.trans x'')
theorem Ext.opnM {H1 H : Hp} {L1 L : List Addr} {q : Addr} (h : H1 q = none) (e : Ext H1 L1 H L) : Ext H1 L1 H (L ++ [q]) where
  keep := e.keep
  dom := e.dom
  pre := fun k a hk => by
    have := e.pre k a hk
    rw [List.getElem?_append_left (List.getElem?_eq_some_iff.mp this).1]; exact this
  new := fun a ha => by
    rcases List.mem_append.mp ha with z | z
    · exact e.new a z
    · rw [List.mem_singleton.mp z]; exact .inr h
theorem StR.opnM {K : PySem.W.Frag} {H : Hp} {L Z : List Addr} {S : Sto} {q : Addr} {vs : List V} {ps : List P} (s : StR K H L (q :: Z) S) (n : q ∉ L) (h : H q = some (.lst vs)) (r : RpL K H L (q :: Z) vs ps) : StR K H (L ++ [q]) Z (S ++ [.lst ps]) := by
  have hl : ∀ a, Out L (q :: Z) a → Out (L ++ [q]) Z a := fun a o => ⟨fun m => by
    rcases List.mem_append.mp m with z | z
    · exact o.1 z
    · exact o.2 (by rw [List.mem_singleton.mp z]; exact List.mem_cons_self), fun m => o.2 (List.mem_cons_of_mem _ m)⟩
  refine ⟨by simp [s.len], ?_, fun a ha => s.zs a (List.mem_cons_of_mem _ ha), fun k a u h1 h2 => ?_⟩
  · rw [List.nodup_append]
    exact ⟨s.nd, by simp, fun x hx y hy => fun e => by rw [List.mem_singleton.mp hy] at e; rw [e] at hx; exact n hx⟩
  · by_cases hk : k < L.length
    · rw [List.getElem?_append_left hk] at h1
      rw [List.getElem?_append_left (by rw [← s.len]; exact hk)] at h2
      exact (s.at_ k a u h1 h2).less hl
    · have hk2 : k = L.length := by
        have := (List.getElem?_eq_some_iff.mp h1).1
        simp only [List.length_append, List.length_cons, List.length_nil] at this
        omega
      subst hk2
      rw [List.getElem?_append_right (Nat.le_refl _)] at h1
      rw [List.getElem?_append_right (by rw [s.len]; exact Nat.le_refl _)] at h2
      simp only [Nat.sub_self, List.getElem?_cons_zero, Option.some.injEq, s.len] at h1 h2
      subst h1; subst h2
      exact ⟨vs, h, r.less hl⟩
theorem listedM_post {K : PySem.W.Frag} {H : Hp} {L Z : List Addr} {W : Wsh} {r : R (List P)} {Q : VK} (h : Post K H L Z W (relD K Z) ((listed r).bind fun d S1 => match d with
    | .p (.lst ps) => .ok (.mu S1.length) (S1 ++ [.lst ps])
    | .p (.dct ks ps) => .ok (.mu S1.length) (S1 ++ [.dK ks ps])
    | _ => .stuck) Q) : ∃ ps S, r = .ok ps S ∧ ∀ H1 L1 v, Ext H L H1 L1 → StR K H1 L1 Z (S ++ [.lst ps]) → RD K H1 L1 Z v (.mu S.length) → Q v H1 := by
  cases r with
  | stuck => exact (show False from h).elim
  | exc k fs S => exact (show False from h).elim
  | ok ps S => exact ⟨ps, S, rfl, h⟩
/-- the same, the new list one that may be written -/
theorem s_compM (g : Good X C cl n c wx) {own : List Nat} {tg : Tg} {src : Src} {ifs : Eo} {elt : E} {te t i : Expr} {fs : List Expr} {scope : Scope} {pos : Pos} (ho : ownC c scope own = true) (hin : inC own tg = true) (hs : PI X t i (tSrc X C cl wx src))
    (hg : ∀ (X' : Cx), Good X' C cl n (blk c scope) wx0 → PG X' t (gTg X'.K tg)) (ht : ∀ (X' : Cx), Good X' C cl n (blk c scope) wx0 → PTs X' fs (tIf X' C cl wx0 ifs)) (he : ∀ (X' : Cx), Good X' C cl n (blk c scope) wx0 → PE X' te (tE X' C cl wx0 elt))
    (hf : ∀ x, foldedSetIterable i X.env x = pure x) :
    ∃ T : TE, (∀ σ H Q, tE X C cl wx (.mk (.comp own tg src ifs elt)) σ H Q → T σ H Q) ∧ PE X (.ListComp te [⟨t, i, fs, 0⟩] scope pos) T ∧
      ∀ {k : Nat} {y : Str} {py spos : Pos}, X.N[k]? = some y → X.env.scope.names.lookup y = some .local → swapsWith (.ListComp te [⟨t, i, fs, 0⟩] scope pos) (some (.Name y py)) spos.line X.env = pure true →
        PS X (.Assign [.Name y py] (.ListComp te [⟨t, i, fs, 0⟩] scope pos) spos) (tAsg T (gName k)) := by
  unfold ownC at ho
  simp only [Bool.and_eq_true] at ho
  have hb : BlkOk X.N X.env.scope scope (ownL c own) := by rw [g.names, g.scope]; exact blkOk_by ho.1
  have h2 := own_snd ho.2
  have hk : (relS scope c.sc).kind = .function := hb.kind
  refine ⟨tLc (tSrc X C cl wx src) (gTg X.K tg) (tG X.K cl wx0 relB (evC C ifs)) (tG X.K cl wx0 relD (evE C elt)) ((ownL c own).map (·.2)), fun σ H Q q => ?_,
    pe_lc g.calm g.nd hs hb (fun s H A cs fp => hg _ (g.blk hk s H A cs fp)) (fun s H A cs fp => ht _ (g.blk hk s H A cs fp)) (fun s H A cs fp => he _ (g.blk hk s H A cs fp)) hf,
    fun hkk hy hsw => ps_setLc g.calm g.nd hkk hy hsw hs hb (fun s H A cs fp => hg _ (g.blk hk s H A cs fp)) (fun s H A cs fp => ht _ (g.blk hk s H A cs fp)) (fun s H A cs fp => he _ (g.blk hk s H A cs fp)) hf⟩
  rw [h2]
  obtain ⟨L, Z, S, env, at_, post⟩ := q
  simp only [evE, bind_assoc] at post
  refine ⟨L, Z, S, env, at_, post.bind fun w S1 H1 L1 J e1 s1 wr q1 => fun q hq => ?_⟩
  obtain ⟨ps, Sf, hr, fin⟩ := listedM_post q1
  have a1 := at_.later e1 s1
  have i0 : InL X.K H1 L1 Z q (upd H1 q (.lst [])) L1 S1 [] := ⟨Ext.new_ hq, s1.opn hq _, s1.free hq, [], upd_same, .nil⟩
  refine comp_loop (K := X.K) (Z := Z) (H1 := H1) (L1 := L1) (H2 := H1) (L2 := L1) (Z2 := Z) (G := fun x H' Nx => gTg X.K tg x (L2.wipe σ own) H' fun σ2 H2 => L2.wipe σ2 own = L2.wipe σ own ∧ tG X.K cl wx0 relB (evC C ifs) σ2 H2 fun b H3 =>
      if b = true then tG X.K cl wx0 relD (evE C elt) σ2 H3 fun y H4 => ∃ acc, H4 q = some (.lst acc) ∧ acc.length < sizeLine ∧ Nx (upd H4 q (.lst (acc ++ [y]))) else Nx H3)
    wr (Zx.cons hq) i0 (Ext.new_ hq).z hr (fun _ _ e => e.drop hq) (fun H L iL _ => ?_) (fun x d H L S S2 acc acc1 Nx iL _ rd htn nx => ?_)
  · obtain ⟨vs, b1, b2⟩ := iL.at_
    exact fin H (L ++ [q]) (.ref q) (Ext.opnM hq iL.ext) (StR.opnM iL.st iL.ni b1 b2) (.mu (by rw [← iL.st.len, List.getElem?_append_right (Nat.le_refl _)]; simp))
  · have er : EnvR X.K H L (q :: Z) (L2.wipe σ own) (wipeE env own) := ((a1.env.toZ (Zx.cons hq)).ext iL.ext).wipe own
    refine turn_ok (te := fun σ2 H3 Nx => tG X.K cl wx0 relD (evE C elt) σ2 H3 fun y H4 => ∃ acc, H4 q = some (.lst acc) ∧ acc.length < sizeLine ∧ Nx (upd H4 q (.lst (acc ++ [y])))) er hin iL rd htn nx ?_
    intro H' L' S' σ1 env1 e' iL' er' _ hb'
    exact one_ok hq iL' er' hb' fun H'' L'' i'' x'' => nx H'' L'' i'' (e'.z.trans x'')
end
end Mx
end

section
set_option Elab.async false
set_option linter.all false
set_option maxRecDepth 100000
set_option autoImplicit false
set_option maxHeartbeats 4000000
/-! a comprehension of three clauses, without tests -/
namespace L2
open PySem PySem.Spec PyProof.Rows
section
variable (elt t0 i0 t1 i1 t2 i2 : Expr) (scope : Scope) (pos : Pos)
abbrev C3 : Expr := .ListComp elt [⟨t0, i0, [], 0⟩, ⟨t1, i1, [], 0⟩, ⟨t2, i2, [], 0⟩] scope pos
/-- a turn of a clause that isn't the last -/
def turnOut (k : Nat) (t i i' : Expr) (it acc : Value) (env : Env) : Sem Fin := do
  standAt i.pos
  match ← pyNext it with
  | none => pure (.done .next)
  | some v =>
    letOwnedTupleGo t it v
    assign t env v
    let mut ok := true
    for c in ([] : List Expr) do
      if ok then ok ← isTrue c env (eval c env)
    if ok then
      let x ← eval i' env
      standAt i'.pos
      let x ← foldedSetIterable i' env x
      let _ ← runOwn (.compStart (C3 elt t0 i0 t1 i1 t2 i2 scope pos) (k + 1) (← holding [x] (pyIter x)) acc env) env
    again (.compLoop (C3 elt t0 i0 t1 i1 t2 i2 scope pos) k it acc env)
theorem compTurn3_0 (it acc : Value) (env : Env) : compTurn (C3 elt t0 i0 t1 i1 t2 i2 scope pos) 0 it acc env = turnOut elt t0 i0 t1 i1 t2 i2 scope pos 0 t0 i0 i1 it acc env := by rfl
theorem compTurn3_1 (it acc : Value) (env : Env) : compTurn (C3 elt t0 i0 t1 i1 t2 i2 scope pos) 1 it acc env = turnOut elt t0 i0 t1 i1 t2 i2 scope pos 1 t1 i1 i2 it acc env := by rfl
theorem compTurn3_2 (it acc : Value) (env : Env) :
    compTurn (C3 elt t0 i0 t1 i1 t2 i2 scope pos) 2 it acc env = (do
      standAt i2.pos
      match ← pyNext it with
      | none => pure (.done .next)
      | some v =>
        letOwnedTupleGo t2 it v
        assign t2 env v
        let mut ok := true
        for c in ([] : List Expr) do
          if ok then ok ← isTrue c env (eval c env)
        if ok then
          (do let _ ← call (.builtin "list.append") [acc, ← eval elt env])
        again (.compLoop (C3 elt t0 i0 t1 i1 t2 i2 scope pos) 2 it acc env)) := by rfl
end
section
variable {prog : Program} {w : World} {A : Around} {R : Result → Shared → Prop} {s : Shared} {elt t0 i0 t1 i1 t2 i2 : Expr} {scope : Scope} {pos : Pos} {it acc : Value} {env : Env}
/-- the loop of a clause that isn't the last -/
theorem compLoop3_out {k : Nat} {t i i' : Expr} (hT : compTurn (C3 elt t0 i0 t1 i1 t2 i2 scope pos) k it acc env = turnOut elt t0 i0 t1 i1 t2 i2 scope pos k t i i' it acc env) (hs : ∀ x, foldedSetIterable i' env x = pure x) (I : Nat → Shared → Prop)
    (turn : ∀ n s, I n s → wpAny (model prog w) A (pyNext it) (fun r s₁ => match r with
      | none => R (.ok .next) s₁
      | some v => wpAny (model prog w) A (letOwnedTupleGo t it v) (fun _ s₁' => wpAny (model prog w) A (assign t env v) (fun _ s₂ =>
          wpAny (model prog w) A (eval i' env) (fun x s₄ => wpAny (model prog w) A (pyIter x) (fun it1 s₅ =>
              codeAny (model prog w) A (.compStart (C3 elt t0 i0 t1 i1 t2 i2 scope pos) (k + 1) it1 acc env) (fun r s' => match r with
                | .ok _ => ∃ m, m < n ∧ I m s'
                | .error _ => False) s₅) (notedBy (model prog w) A env fun e s' => R (.error e) s') s₄) (notedBy (model prog w) A env fun e s' => R (.error e) s') s₂) (notedBy (model prog w) A env fun e s' => R (.error e) s') s₁') (notedBy (model prog w) A env fun e s' => R (.error e) s') s₁) (notedBy (model prog w) A env fun e s' => R (.error e) s') s)
    (n : Nat) (h : I n s) :
    codeAny (model prog w) A (.compLoop (C3 elt t0 i0 t1 i1 t2 i2 scope pos) k it acc env) R s := by
  refine codeAny_loop rfl I (fun n s hI => ?_) n h
  show wpAny _ A ((compTurn (C3 elt t0 i0 t1 i1 t2 i2 scope pos) k it acc env).onRaise (fun x => do noteFrame x env; theTreesLotGoes x)) _ _ s
  refine wpAny_noted ?_
  rw [hT]
  unfold turnOut
  refine wpAny_bind (wpAny_standAt (wpAny_bind (wpAny_mono (turn n s hI) (fun r s₁ h₁ => ?_) fun _ _ h' => h')))
  cases r with
  | none => exact wpAny_pure h₁
  | some v =>
    refine wpAny_bind (wpAny_mono h₁ (fun _ s₁' h₁' => ?_) fun _ _ h' => h')
    refine wpAny_bind (wpAny_mono h₁' (fun _ s₂ h₂ => wpAny_bind (wpAny_of_eq (a := true) rfl ?_)) fun _ _ h' => h')
    refine wpAny_bind (wpAny_mono h₂ (fun x s₄ h₄ => ?_) fun _ _ h' => h')
    refine wpAny_bind (wpAny_standAt (wpAny_bind (wpAny_of_eq (hs x) (wpAny_bind (wpAny_holding (wpAny_mono h₄ (fun it1 s₅ h₅ => ?_) fun _ _ h' => h'))))))
    refine wpAny_bind (wpAny_runOwn ?_)
    rw [Around.mark_none]
    refine codeAny_mono h₅ fun r s' hr => ?_
    cases r with
    | ok f =>
      first
        | exact wpAny_pure ⟨rfl, hr⟩
        | exact wpAny_bind (wpAny_pure (wpAny_pure ⟨rfl, hr⟩))
    | error e => exact hr.elim
theorem compLoop3_in (I : Nat → Shared → Prop)
    (turn : ∀ n s, I n s → wpAny (model prog w) A (pyNext it) (fun r s₁ => match r with
      | none => R (.ok .next) s₁
      | some v => wpAny (model prog w) A (letOwnedTupleGo t2 it v) (fun _ s₁' => wpAny (model prog w) A (assign t2 env v) (fun _ s₂ =>
          wpAny (model prog w) A (eval elt env) (fun x s₄ =>
              wpAny (model prog w) A (call (.builtin "list.append") [acc, x]) (fun _ s₅ => ∃ m, m < n ∧ I m s₅) (notedBy (model prog w) A env fun e s' => R (.error e) s') s₄) (notedBy (model prog w) A env fun e s' => R (.error e) s') s₂) (notedBy (model prog w) A env fun e s' => R (.error e) s') s₁') (notedBy (model prog w) A env fun e s' => R (.error e) s') s₁) (notedBy (model prog w) A env fun e s' => R (.error e) s') s)
    (n : Nat) (h : I n s) :
    codeAny (model prog w) A (.compLoop (C3 elt t0 i0 t1 i1 t2 i2 scope pos) 2 it acc env) R s := by
  refine codeAny_loop rfl I (fun n s hI => ?_) n h
  show wpAny _ A ((compTurn (C3 elt t0 i0 t1 i1 t2 i2 scope pos) 2 it acc env).onRaise (fun x => do noteFrame x env; theTreesLotGoes x)) _ _ s
  refine wpAny_noted ?_
  rw [compTurn3_2]
  refine wpAny_bind (wpAny_standAt (wpAny_bind (wpAny_mono (turn n s hI) (fun r s₁ h₁ => ?_) fun _ _ h' => h')))
  cases r with
  | none => exact wpAny_pure h₁
  | some v =>
    refine wpAny_bind (wpAny_mono h₁ (fun _ s₁' h₁' => ?_) fun _ _ h' => h')
    refine wpAny_bind (wpAny_mono h₁' (fun _ s₂ h₂ => wpAny_bind (wpAny_of_eq (a := true) rfl ?_)) fun _ _ h' => h')
    exact wpAny_bind (wpAny_bind (wpAny_mono h₂ (fun x s₄ h₄ => wpAny_bind (wpAny_mono h₄ (fun _ s₅ h₅ => wpAny_pure (wpAny_pure ⟨rfl, h₅⟩)) fun _ _ h' => h')) fun _ _ h' => h'))
theorem compStart3_1 (h0 : codeAny (model prog w) A (.compLoop (C3 elt t0 i0 t1 i1 t2 i2 scope pos) 1 it acc env) R s)
    (h : wpAny (model prog w) A (pyIter it) (fun it' s' => codeAny (model prog w) A (.compLoop (C3 elt t0 i0 t1 i1 t2 i2 scope pos) 1 it' acc env) R s')
      (notedBy (model prog w) A env fun x s' => R (.error x) s') s) :
    codeAny (model prog w) A (.compStart (C3 elt t0 i0 t1 i1 t2 i2 scope pos) 1 it acc env) R s := by
  refine codeAny_of_tree ?_
  show wpAny _ _ ((compStart (C3 elt t0 i0 t1 i1 t2 i2 scope pos) 1 it acc env).onRaise (fun x => do noteFrame x env; standAt theWindowsPlace)) _ _ s
  refine wpAny_notedAt ?_
  unfold compStart
  show wpAny _ _ (ask >>= _) _ _ s
  refine wpAny_bind (wpAny_askSetting (wpAny_ite ?_))
  split
  · first
      | exact wpAny_bind (wpAny_pure (wpAny_pure (And.intro rfl h0)))
      | exact wpAny_pure (And.intro rfl h0)
  · first
      | exact wpAny_bind (wpAny_rule (wpAny_bind (wpAny_standAt (wpAny_bind (wpAny_mono h (fun it' s' h' => wpAny_pure (And.intro rfl h')) fun _ _ x => x)))))
      | (refine wpAny_bind (wpAny_rule ?_); show wpAny _ _ (standAt i1.pos >>= _) _ _ s; exact wpAny_bind (wpAny_standAt (wpAny_bind (wpAny_mono h (fun it' s' h' => wpAny_pure (And.intro rfl h')) fun _ _ x => x))))
theorem compStart3_2 (h0 : codeAny (model prog w) A (.compLoop (C3 elt t0 i0 t1 i1 t2 i2 scope pos) 2 it acc env) R s)
    (h : wpAny (model prog w) A (pyIter it) (fun it' s' => codeAny (model prog w) A (.compLoop (C3 elt t0 i0 t1 i1 t2 i2 scope pos) 2 it' acc env) R s')
      (notedBy (model prog w) A env fun x s' => R (.error x) s') s) :
    codeAny (model prog w) A (.compStart (C3 elt t0 i0 t1 i1 t2 i2 scope pos) 2 it acc env) R s := by
  refine codeAny_of_tree ?_
  show wpAny _ _ ((compStart (C3 elt t0 i0 t1 i1 t2 i2 scope pos) 2 it acc env).onRaise (fun x => do noteFrame x env; standAt theWindowsPlace)) _ _ s
  refine wpAny_notedAt ?_
  unfold compStart
  show wpAny _ _ (ask >>= _) _ _ s
  refine wpAny_bind (wpAny_askSetting (wpAny_ite ?_))
  split
  · first
      | exact wpAny_bind (wpAny_pure (wpAny_pure (And.intro rfl h0)))
      | exact wpAny_pure (And.intro rfl h0)
  · first
      | exact wpAny_bind (wpAny_rule (wpAny_bind (wpAny_standAt (wpAny_bind (wpAny_mono h (fun it' s' h' => wpAny_pure (And.intro rfl h')) fun _ _ x => x)))))
      | (refine wpAny_bind (wpAny_rule ?_); show wpAny _ _ (standAt i2.pos >>= _) _ _ s; exact wpAny_bind (wpAny_standAt (wpAny_bind (wpAny_mono h (fun it' s' h' => wpAny_pure (And.intro rfl h')) fun _ _ x => x))))
end
/-- what a clause within asks: its source, then turn by turn its target and the rest -/
def tCls (wi : TI) (g : TG) (vs : List Nat) (body : St → Hp → (Hp → Prop) → Prop) (σ : St) (H : Hp) (Nx : Hp → Prop) : Prop := wi σ H fun J1 H4 => ∃ W1 : Nat → Nat → Hp → Prop, (∃ m, W1 0 m H4) ∧ ∀ j k H, W1 j k H →
  (J1.stop j H ∧ Nx H) ∨ (J1.go j H ∧ ∃ Nx1 : Hp → Prop, (∀ H', Nx1 H' → ∃ k', k' < k ∧ W1 (j + 1) k' H') ∧ ∀ x H', J1.yld j H x H' → g x (wipe σ vs) H' fun σ3 H5 => wipe σ3 vs = wipe σ vs ∧ body σ3 H5 Nx1)
def tElt (te : TE) (D : Addr) (σ : St) (H : Hp) (Nx : Hp → Prop) : Prop := te σ H fun y H7 => ∃ acc, H7 D = some (.lst acc) ∧ acc.length < sizeLine ∧ Nx (upd H7 D (.lst (acc ++ [y])))
section
variable {X : Cx}
/-- what comes of a source and of a start within -/
def AfterC (X : Cx) (c : Expr) (k : Nat) (it2 : Expr) (D : Addr) (pins : List (Addr × Obj)) (σ : St) (vs : List Nat) (Nx : Hp → Prop) (E : Value → Shared → Prop) (s : Shared) : Prop :=
  wpAny (model X.prog X.w) X.A (eval it2 X.env) (fun x s₄ => wpAny (model X.prog X.w) X.A (pyIter x) (fun it1 s₅ => codeAny (model X.prog X.w) X.A (.compStart c k it1 (.ref D) X.env) (fun r s' => match r with
    | .ok _ => ∃ H', Inv X pins (wipe σ vs) H' s' ∧ Nx H'
    | .error _ => False) s₅) E s₄) E s
theorem cls_in {elt t0 i0 t1 i1 t2 i2 : Expr} {scope : Scope} {pos : Pos} {wi : TI} {g : TG} {te : TE} {vs : List Nat} {D : Addr} {pins : List (Addr × Obj)} {σ : St} {H : Hp} {s : Shared} {Nx : Hp → Prop} {E : Value → Shared → Prop} (hc : X.calm = true) (hxe : X.xe = fun _ _ => False)
    (pi : PI X t2 i2 wi) (pg : PG X t2 g) (pe : PE X elt te) (I : Inv X pins σ H s) (h : tCls wi g vs (tElt te D) σ H Nx) :
    AfterC X (C3 elt t0 i0 t1 i1 t2 i2 scope pos) 2 i2 D pins σ vs Nx E s := by
  unfold AfterC
  have pr := pi.run _ s σ H _ I h
  rw [hxe] at pr
  refine thnF pr fun xv s10 hx => ?_
  refine thnF hx fun itv s11 h11 => ?_
  obtain ⟨it1, fp1, tn1, J1, H11, e1, I11, T1, st11, f11, W1, ⟨m1, w1⟩, turn1⟩ := h11
  subst e1
  have stat1 : ∀ {H' : Hp}, (∀ b ∈ fp1, H' b = none) → ∀ b ∈ fp1, FpOk X pins H' b := fun hn b hb => ⟨hn b hb, (f11 b hb).2⟩
  have loop1 : codeAny (model X.prog X.w) X.A (.compLoop (C3 elt t0 i0 t1 i1 t2 i2 scope pos) 2 (.ref it1) (.ref D) X.env)
      (fun r s' => match r with
        | .ok _ => ∃ H', Inv X pins (wipe σ vs) H' s' ∧ Nx H'
        | .error _ => False) s11 := by
    refine compLoop3_in (fun k s' => ∃ j H', Inv X pins (wipe σ vs) H' s' ∧ tn1 j s'.heap ∧ (∀ b ∈ fp1, H' b = none) ∧ W1 j k H') ?_ m1 ⟨0, H11, I11.weak (wipe_length _ _) (fun j v e => (wipe_some e).1), st11, fun b hb => (f11 b hb).1, w1⟩
    rintro k s12 ⟨j, H12, I12, st12, n12, w12⟩
    rcases turn1 j k H12 w12 with ⟨stop1, nx1⟩ | ⟨go1, Nx1, hNx1, step1⟩
    · refine thnF (T1.done X rfl rfl rfl hc j _ s12 (wipe σ vs) H12 (fun _ _ => False) I12 (stat1 n12) st12 stop1) fun r s13 ⟨hr, I13⟩ => ?_
      subst hr
      exact ⟨H12, I13, nx1⟩
    · refine thnF (T1.item X rfl rfl rfl hc j _ s12 (wipe σ vs) H12 (fun _ _ => False) I12 (stat1 n12) st12 go1) fun r s13 ⟨u1, hr, h13⟩ => ?_
      subst hr
      refine thnF h13 fun _ s14 ⟨x1, H14, I14, r14, y14, st14, n14⟩ => ?_
      have I14' := I14.pinned (stat1 n14) (T1.obj _ _ st14)
      have pgr := pg.run _ s14 (wipe σ vs) H14 x1 u1 _ I14' r14 (step1 x1 H14 y14)
      rw [hxe] at pgr
      refine thnF pgr fun _ s15 ⟨σ15, H15, I15, hw15, q15⟩ => ?_
      have per := pe.run _ s15 σ15 H15 _ I15 q15
      rw [hxe] at per
      refine thnF per fun z s17 ⟨yv, H17, I17, r17, acc, hD17, hz17, nx⟩ => ?_
      refine app_ok I17 hD17 hz17 r17 fun s18 I18 => ?_
      obtain ⟨m', hm, w'⟩ := hNx1 _ nx
      have pin' : ∀ b ∈ fp1, ∀ o, s14.heap.get? b = some o → s18.heap.get? b = some o ∧ (upd H17 D (.lst (acc ++ [yv]))) b = none := fun b hb o e =>
        let z := I18.pin (b, o) (List.mem_append_right _ (List.mem_append_right _ (mem_pinsAt hb e)))
        ⟨z.1, z.2.1⟩
      refine ⟨m', hm, j + 1, _, I18.unpinned.weak (by rw [← hw15, wipe_length]) (fun j v e => by rw [← hw15] at e; exact (wipe_some e).1), T1.keep _ _ _ st14 fun b hb o e => (pin' b hb o e).1, fun b hb => ?_, w'⟩
      obtain ⟨o, e, _⟩ := T1.obj _ _ st14 b hb
      exact (pin' b hb o e).2
  exact compStart3_2 loop1 (T1.self X.A 0 _ _ _ st11 loop1)
theorem cls_mid {elt t0 i0 t1 i1 t2 i2 : Expr} {scope : Scope} {pos : Pos} {wi wi2 : TI} {g g2 : TG} {te : TE} {vs vs2 : List Nat} {D : Addr} {pins : List (Addr × Obj)} {σ : St} {H : Hp} {s : Shared} {Nx : Hp → Prop} {E : Value → Shared → Prop} (hc : X.calm = true) (hxe : X.xe = fun _ _ => False)
    (hv : ∀ i ∈ vs2, i ∈ vs) (hs2 : ∀ env x, foldedSetIterable i2 env x = pure x)
    (pi : PI X t1 i1 wi) (pg : PG X t1 g) (pi2 : PI X t2 i2 wi2) (pg2 : PG X t2 g2) (pe : PE X elt te) (I : Inv X pins σ H s) (h : tCls wi g vs (tCls wi2 g2 vs2 (tElt te D)) σ H Nx) :
    AfterC X (C3 elt t0 i0 t1 i1 t2 i2 scope pos) 1 i1 D pins σ vs Nx E s := by
  unfold AfterC
  have pr := pi.run _ s σ H _ I h
  rw [hxe] at pr
  refine thnF pr fun xv s10 hx => ?_
  refine thnF hx fun itv s11 h11 => ?_
  obtain ⟨it1, fp1, tn1, J1, H11, e1, I11, T1, st11, f11, W1, ⟨m1, w1⟩, turn1⟩ := h11
  subst e1
  have stat1 : ∀ {H' : Hp}, (∀ b ∈ fp1, H' b = none) → ∀ b ∈ fp1, FpOk X pins H' b := fun hn b hb => ⟨hn b hb, (f11 b hb).2⟩
  have loop1 : codeAny (model X.prog X.w) X.A (.compLoop (C3 elt t0 i0 t1 i1 t2 i2 scope pos) 1 (.ref it1) (.ref D) X.env)
      (fun r s' => match r with
        | .ok _ => ∃ H', Inv X pins (wipe σ vs) H' s' ∧ Nx H'
        | .error _ => False) s11 := by
    refine compLoop3_out (compTurn3_1 ..) (hs2 X.env) (fun k s' => ∃ j H', Inv X pins (wipe σ vs) H' s' ∧ tn1 j s'.heap ∧ (∀ b ∈ fp1, H' b = none) ∧ W1 j k H') ?_ m1 ⟨0, H11, I11.weak (wipe_length _ _) (fun j v e => (wipe_some e).1), st11, fun b hb => (f11 b hb).1, w1⟩
    rintro k s12 ⟨j, H12, I12, st12, n12, w12⟩
    rcases turn1 j k H12 w12 with ⟨stop1, nx1⟩ | ⟨go1, Nx1, hNx1, step1⟩
    · refine thnF (T1.done X rfl rfl rfl hc j _ s12 (wipe σ vs) H12 (fun _ _ => False) I12 (stat1 n12) st12 stop1) fun r s13 ⟨hr, I13⟩ => ?_
      subst hr
      exact ⟨H12, I13, nx1⟩
    · refine thnF (T1.item X rfl rfl rfl hc j _ s12 (wipe σ vs) H12 (fun _ _ => False) I12 (stat1 n12) st12 go1) fun r s13 ⟨u1, hr, h13⟩ => ?_
      subst hr
      refine thnF h13 fun _ s14 ⟨x1, H14, I14, r14, y14, st14, n14⟩ => ?_
      have I14' := I14.pinned (stat1 n14) (T1.obj _ _ st14)
      have pgr := pg.run _ s14 (wipe σ vs) H14 x1 u1 _ I14' r14 (step1 x1 H14 y14)
      rw [hxe] at pgr
      refine thnF pgr fun _ s15 ⟨σ15, H15, I15, hw15, q15⟩ => ?_
      have inner := cls_in (elt := elt) (t0 := t0) (i0 := i0) (t1 := t1) (i1 := i1) (scope := scope) (pos := pos) (E := fun _ _ => False) hc hxe pi2 pg2 pe I15 q15
      unfold AfterC at inner
      refine thnF inner fun x s16 h16 => thnF h16 fun it2 s17 h17 => codeAny_mono h17 fun r s18 hr => ?_
      cases r with
      | error e => exact hr.elim
      | ok f =>
        obtain ⟨H18, I18, nx⟩ := hr
        obtain ⟨m', hm, w'⟩ := hNx1 _ nx
        have pin' : ∀ b ∈ fp1, ∀ o, s14.heap.get? b = some o → s18.heap.get? b = some o ∧ H18 b = none := fun b hb o e =>
          let z := I18.pin (b, o) (List.mem_append_right _ (List.mem_append_right _ (mem_pinsAt hb e)))
          ⟨z.1, z.2.1⟩
        refine ⟨m', hm, j + 1, _, I18.unpinned.weak (by rw [← hw15, wipe_length, wipe_length]) (fun j v e => ?_), T1.keep _ _ _ st14 fun b hb o e => (pin' b hb o e).1, fun b hb => ?_, w'⟩
        · rw [← hw15] at e
          obtain ⟨e1, e2⟩ := wipe_some e
          rw [wipe_out fun z => e2 (hv j z)]
          exact e1
        · obtain ⟨o, e, _⟩ := T1.obj _ _ st14 b hb
          exact (pin' b hb o e).2
  exact compStart3_1 loop1 (T1.self X.A 0 _ _ _ st11 loop1)
end
section
variable {X : Cx}
/-- [elt for t0 in i0 for t1 in i1 for t2 in i2] -/
def tLc3 (wi : TI) (g : TG) (wi1 : TI) (g1 : TG) (wi2 : TI) (g2 : TG) (te : TE) (vs vs1 vs2 : List Nat) : TE := fun σ H Q => wi σ H fun J H1 => ∀ D, H1 D = none → ∃ W : Nat → Nat → Hp → Prop, (∃ m, W 0 m (upd H1 D (.lst []))) ∧ ∀ i m H, W i m H →
  (J.stop i H ∧ Q (.ref D) H) ∨ (J.go i H ∧ ∃ Nx : Hp → Prop, (∀ H', Nx H' → ∃ m', m' < m ∧ W (i + 1) m' H') ∧ ∀ x H', J.yld i H x H' → g x (wipe σ vs) H' fun σ2 H2 => wipe σ2 vs = wipe σ vs ∧ tCls wi1 g1 vs1 (tCls wi2 g2 vs2 (tElt te D)) σ2 H2 Nx)
theorem lc3_core {pins : List (Addr × Obj)} {s : Shared} {σ : St} {H : Hp} {Q : VK} {elt tg iter tg1 iter1 tg2 iter2 : Expr} {scope : Scope} {own : List (Str × Nat)} {vs1 vs2 : List Nat} {pos pos' : Pos} {wi wi1 wi2 : TI} {g g1 g2 : TG} {te : TE} {use : Option (Value → Sem Unit)} {Qf : Value → Shared → Prop}
    (hc : X.calm = true) (hN : X.N.Nodup) (I : Inv X pins σ H s) (hi : PI X tg iter wi) (ok : BlkOk X.N X.env.scope scope own) (hv : ∀ i ∈ vs1, i ∈ own.map (·.2)) (hv2 : ∀ i ∈ vs2, i ∈ vs1)
    (hg : ∀ (s : Shared) (H : Hp) (C : Addr) (cl : List (Str × Addr)) (fp : List Addr), PG (X.blk s H scope (compEnvC scope cl C X.env) fp) tg g)
    (he : ∀ (s : Shared) (H : Hp) (C : Addr) (cl : List (Str × Addr)) (fp : List Addr), PE (X.blk s H scope (compEnvC scope cl C X.env) fp) elt te) (hs : ∀ x, foldedSetIterable iter X.env x = pure x)
    (hi1 : ∀ (s : Shared) (H : Hp) (C : Addr) (cl : List (Str × Addr)) (fp : List Addr), PI (X.blk s H scope (compEnvC scope cl C X.env) fp) tg1 iter1 wi1)
    (hg1 : ∀ (s : Shared) (H : Hp) (C : Addr) (cl : List (Str × Addr)) (fp : List Addr), PG (X.blk s H scope (compEnvC scope cl C X.env) fp) tg1 g1)
    (hi2 : ∀ (s : Shared) (H : Hp) (C : Addr) (cl : List (Str × Addr)) (fp : List Addr), PI (X.blk s H scope (compEnvC scope cl C X.env) fp) tg2 iter2 wi2)
    (hg2 : ∀ (s : Shared) (H : Hp) (C : Addr) (cl : List (Str × Addr)) (fp : List Addr), PG (X.blk s H scope (compEnvC scope cl C X.env) fp) tg2 g2)
    (hs1 : ∀ env x, foldedSetIterable iter1 env x = pure x) (hs2 : ∀ env x, foldedSetIterable iter2 env x = pure x)
    (h : tLc3 wi g wi1 g1 wi2 g2 te (own.map (·.2)) vs1 vs2 σ H Q)
    (hRR : ∀ D C s' m H', Inv X pins σ H' s' → Q (.ref D) H' → s'.heap.Ns C m → FpOk X pins H' C → compPost (model X.prog X.w) X.A X.xe use Qf (.ref D) C (.ok .next) s') :
    wpAny (model X.prog X.w) X.A (comprehension (C3 elt tg iter tg1 iter1 tg2 iter2 scope pos) scope X.env pos' (newList []) false (eval iter X.env) use) Qf X.xe s := by
  have hfree : ∀ y ∈ scope.names, y.2 = .free → ∃ c, X.env.cells.lookup y.1 = some c := fun y hy e => by
    rcases ok.free y hy e with k | k
    · exact I.ok.has _ (.inl k)
    · exact I.ok.has _ (.inr k)
  refine wpAny_comprehension_free (use := use) rfl hs (closure_ok hfree) ok.kind (fun y hy e => by rw [ok.uniq y hy, e])
    (thn (hi.run pins s σ H _ I h) fun xv s1 hx => thn hx fun itv s2 h2 => ?_)
  obtain ⟨it, fp, tn, J, H2, e, I2, T, st2, f2, q⟩ := h2
  subst e
  refine wpAny_newObj_type (newEnv_comp ?_) (by show 0 ≤ sizeLine; decide)
  generalize hD : s2.heap.objs.size = D
  have hDn : H2 D = none := I2.hok.fresh (Nat.le_of_eq hD)
  obtain ⟨W, ⟨m0, w0⟩, turn⟩ := q D hDn
  -- the new list
  generalize hs3 : ({ s2 with heap := s2.heap.push { cls := .type "list", data := .seq ([] : List Value).toArray } } : Shared) = s3
  have I3 : Inv X pins σ (upd H2 D (.lst [])) s3 := by
    rw [← hs3]
    refine I2.laid (t' := s2.toks) (fun b o e => Heap.get?_push_of_some _ e) (Nat.le_of_eq hD) ⟨Nat.zero_le _, [], 0, .nil, ?_⟩
    rw [← hD]
    exact Heap.get?_push_size _ rfl
  have h3 : s3.heap = s2.heap.push { cls := .type "list", data := .seq ([] : List Value).toArray } := by rw [← hs3]
  have sz : ∀ b ∈ fp, b < s2.heap.objs.size := fun b hb => by
    obtain ⟨o, e, _⟩ := T.obj _ _ st2 b hb
    exact Heap.lt_size e
  have f3 : ∀ b ∈ fp, FpOk X pins (upd H2 D (.lst [])) b ∧ b < s3.heap.objs.size := fun b hb => by
    have hlt := sz b hb
    refine ⟨⟨?_, (f2 b hb).2⟩, by rw [h3, Heap.size_push]; exact Nat.lt_succ_of_lt hlt⟩
    rw [upd_ne (by rw [← hD]; exact Nat.ne_of_lt hlt)]
    exact (f2 b hb).1
  have st3 : tn 0 s3.heap := T.keep _ _ _ st2 fun b _ o e => by rw [h3]; exact Heap.get?_push_of_some _ e
  have I4 := block_start I3 ok hN f3
  have pg := hg s3 (upd H2 D (.lst [])) s3.heap.objs.size (cellsFrom (s3.heap.objs.size + 1) scope.names (cloFrom X.env.cells scope.names [])) fp
  have pe := he s3 (upd H2 D (.lst [])) s3.heap.objs.size (cellsFrom (s3.heap.objs.size + 1) scope.names (cloFrom X.env.cells scope.names [])) fp
  have pi1 := hi1 s3 (upd H2 D (.lst [])) s3.heap.objs.size (cellsFrom (s3.heap.objs.size + 1) scope.names (cloFrom X.env.cells scope.names [])) fp
  have pg1 := hg1 s3 (upd H2 D (.lst [])) s3.heap.objs.size (cellsFrom (s3.heap.objs.size + 1) scope.names (cloFrom X.env.cells scope.names [])) fp
  have pi2 := hi2 s3 (upd H2 D (.lst [])) s3.heap.objs.size (cellsFrom (s3.heap.objs.size + 1) scope.names (cloFrom X.env.cells scope.names [])) fp
  have pg2 := hg2 s3 (upd H2 D (.lst [])) s3.heap.objs.size (cellsFrom (s3.heap.objs.size + 1) scope.names (cloFrom X.env.cells scope.names [])) fp
  show codeAny _ _ (.compStart (C3 elt tg iter tg1 iter1 tg2 iter2 scope pos) 0 (.ref it) (.ref D) (compEnvC scope (cellsFrom (s3.heap.objs.size + 1) scope.names (cloFrom X.env.cells scope.names [])) s3.heap.objs.size X.env)) (compPost (model X.prog X.w) X.A X.xe use Qf (.ref D) s3.heap.objs.size) { s3 with heap := pushCells (s3.heap.push { cls := .type "dict", data := .dict #[] }) scope.names }
  have nfp : ∀ b ∈ fp, (upd H2 D (.lst [])) b = none := fun b hb => (f3 b hb).1.1
  generalize hce : compEnvC scope (cellsFrom (s3.heap.objs.size + 1) scope.names (cloFrom X.env.cells scope.names [])) s3.heap.objs.size X.env = ce at I4 pg pe pi1 pg1 pi2 pg2 ⊢
  have cL : ce.locals = s3.heap.objs.size := by subst hce; rfl
  generalize hH3 : upd H2 D (.lst []) = H3 at I3 I4 pg pe pi1 pg1 pi2 pg2 w0 nfp f3
  generalize hs4 : ({ s3 with heap := pushCells (s3.heap.push { cls := .type "dict", data := .dict #[] }) scope.names } : Shared) = s4 at I4 ⊢
  have st4 : tn 0 s4.heap := T.keep _ _ _ st3 fun b _ o e => by rw [← hs4]; exact pushCells_keeps _ _ _ _ (Heap.get?_push_of_some _ e)
  have stat : ∀ {σ' : St} {H' : Hp} {s' : Shared}, Inv (X.blk s3 H3 scope ce fp) [] σ' H' s' → (∀ b ∈ fp, H' b = none) → ∀ b ∈ fp, FpOk (X.blk s3 H3 scope ce fp) [] H' b := fun {σ' H' s'} I' hn b hb =>
    ⟨hn b hb, (I'.ok.exf b hb).1, I'.ok.exfs b hb, .inl hb, fun x c e => (I'.ok.exf b hb).2 x c e, fun p hp => absurd (show p ∈ ([] : List (Addr × Obj)) ++ [] from hp) (by simp)⟩
  have loop : codeAny (model X.prog X.w) X.A (.compLoop (C3 elt tg iter tg1 iter1 tg2 iter2 scope pos) 0 (.ref it) (.ref D) ce) (compPost (model X.prog X.w) X.A X.xe use Qf (.ref D) s3.heap.objs.size) s4 := by
    refine compLoop3_out (compTurn3_0 ..) (hs1 ce) (fun n s' => ∃ i H', Inv (X.blk s3 H3 scope ce fp) [] (wipe σ (own.map (·.2))) H' s' ∧ tn i s'.heap ∧ (∀ b ∈ fp, H' b = none) ∧ W i n H') ?_ m0 ⟨0, H3, I4, st4, nfp, w0⟩
    rintro n s5 ⟨i, H5, I5, st5, n5, w5⟩
    rcases turn i n H5 w5 with ⟨stop, qq⟩ | ⟨go, Nx, hNx, step⟩
    · have td := T.done (X.blk s3 H3 scope ce fp) rfl rfl rfl hc i [] s5 _ H5 (fun _ _ => False) I5 (stat I5 n5) st5 stop
      refine thnF td fun r s6 ⟨hr, I6⟩ => ?_
      subst hr
      -- back in the def's context
      have I7 : Inv X pins σ H5 s6 := I3.call' (ch := fp) I6.os I6.base I6.hok I6.bare fun b hb => ⟨(f3 b hb).1.2.2.2.1, (f3 b hb).1.2.1, (f3 b hb).1.2.2.2.2.1, (f3 b hb).1.2.2.2.2.2⟩
      have nC : H5 s3.heap.objs.size = none := by
        have z : H5 ce.locals = none := I6.free
        rw [cL] at z
        exact z
      obtain ⟨m, hn, _⟩ := I6.loc
      have hn : s6.heap.Ns ce.locals m := hn
      rw [cL] at hn
      exact hRR D s3.heap.objs.size s6 m H5 I7 qq hn (I3.fpOk (Nat.le_refl _) nC)
    · have ti := T.item (X.blk s3 H3 scope ce fp) rfl rfl rfl hc i [] s5 _ H5 (fun _ _ => False) I5 (stat I5 n5) st5 go
      refine thnF ti fun r s6 ⟨u, hr, h6⟩ => ?_
      subst hr
      refine thnF h6 fun _ s7 ⟨x, H7, I7, r7, y7, st7, n7⟩ => ?_
      have I7' := I7.pinned (stat I7 n7) (T.obj _ _ st7)
      refine thnF (pg.run _ s7 _ H7 x u _ I7' r7 (step x H7 y7)) fun _ s8 ⟨σ8, H8, I8, hw8, q8⟩ => ?_
      have inner := cls_mid (X := X.blk s3 H3 scope ce fp) (elt := elt) (t0 := tg) (i0 := iter) (scope := scope) (pos := pos) (E := fun _ _ => False) hc rfl hv2 hs2 pi1 pg1 pi2 pg2 pe I8 q8
      unfold AfterC at inner
      refine thnF inner fun x s16 h16 => thnF h16 fun it2 s17 h17 => codeAny_mono h17 fun r s18 hr => ?_
      cases r with
      | error e => exact hr.elim
      | ok f =>
        obtain ⟨H18, I18, nx⟩ := hr
        obtain ⟨m', hm, w'⟩ := hNx H18 nx
        have pin' : ∀ b ∈ fp, ∀ o, s7.heap.get? b = some o → s18.heap.get? b = some o ∧ H18 b = none := fun b hb o e =>
          let z := I18.pin (b, o) (List.mem_append_right _ (List.mem_append_right _ (mem_pinsAt hb e)))
          ⟨z.1, z.2.1⟩
        refine ⟨m', hm, i + 1, H18, (I18.unpinned (pins := [])).weak (by rw [← hw8, wipe_length, wipe_length]) (fun j v e => ?_), T.keep _ _ _ st7 fun b hb o e => (pin' b hb o e).1, fun b hb => ?_, w'⟩
        · rw [← hw8] at e
          obtain ⟨e1, e2⟩ := wipe_some e
          rw [wipe_out fun z => e2 (hv j z)]
          exact e1
        · obtain ⟨o, e, _⟩ := T.obj _ _ st7 b hb
          exact (pin' b hb o e).2
  exact codeAny_compStart_list loop (T.self X.A 0 _ _ _ st4 loop)
theorem pe_lc3 {elt tg iter tg1 iter1 tg2 iter2 : Expr} {scope : Scope} {own : List (Str × Nat)} {vs1 vs2 : List Nat} {pos : Pos} {wi wi1 wi2 : TI} {g g1 g2 : TG} {te : TE}
    (hc : X.calm = true) (hN : X.N.Nodup) (hi : PI X tg iter wi) (ok : BlkOk X.N X.env.scope scope own) (hv : ∀ i ∈ vs1, i ∈ own.map (·.2)) (hv2 : ∀ i ∈ vs2, i ∈ vs1)
    (hg : ∀ (s : Shared) (H : Hp) (C : Addr) (cl : List (Str × Addr)) (fp : List Addr), PG (X.blk s H scope (compEnvC scope cl C X.env) fp) tg g)
    (he : ∀ (s : Shared) (H : Hp) (C : Addr) (cl : List (Str × Addr)) (fp : List Addr), PE (X.blk s H scope (compEnvC scope cl C X.env) fp) elt te) (hs : ∀ x, foldedSetIterable iter X.env x = pure x)
    (hi1 : ∀ (s : Shared) (H : Hp) (C : Addr) (cl : List (Str × Addr)) (fp : List Addr), PI (X.blk s H scope (compEnvC scope cl C X.env) fp) tg1 iter1 wi1)
    (hg1 : ∀ (s : Shared) (H : Hp) (C : Addr) (cl : List (Str × Addr)) (fp : List Addr), PG (X.blk s H scope (compEnvC scope cl C X.env) fp) tg1 g1)
    (hi2 : ∀ (s : Shared) (H : Hp) (C : Addr) (cl : List (Str × Addr)) (fp : List Addr), PI (X.blk s H scope (compEnvC scope cl C X.env) fp) tg2 iter2 wi2)
    (hg2 : ∀ (s : Shared) (H : Hp) (C : Addr) (cl : List (Str × Addr)) (fp : List Addr), PG (X.blk s H scope (compEnvC scope cl C X.env) fp) tg2 g2)
    (hs1 : ∀ env x, foldedSetIterable iter1 env x = pure x) (hs2 : ∀ env x, foldedSetIterable iter2 env x = pure x) :
    PE X (C3 elt tg iter tg1 iter1 tg2 iter2 scope pos) (tLc3 wi g wi1 g1 wi2 g2 te (own.map (·.2)) vs1 vs2) := by
  refine ⟨fun pins s σ H Q I h => ?_⟩
  rw [eval_ListComp]
  refine lc3_core hc hN I hi ok hv hv2 hg he hs hi1 hg1 hi2 hg2 hs1 hs2 h fun D C s' m H' I' q hn f => ⟨m, hn, fun h'' sb => ?_⟩
  obtain ⟨f0, f1, f2, f3, f4, f5⟩ := f
  exact ⟨.ref D, H', I'.turned (t' := s'.toks) (fun b o hb e => (sb.2 b hb).trans e) f0 f1 f3 f4 f5, rfl, q⟩
theorem ps_setLc3 {i : Nat} {y : Str} {py : Pos} {elt tg iter tg1 iter1 tg2 iter2 : Expr} {scope : Scope} {own : List (Str × Nat)} {vs1 vs2 : List Nat} {pos spos : Pos} {wi wi1 wi2 : TI} {g g1 g2 : TG} {te : TE}
    (hc : X.calm = true) (hN : X.N.Nodup) (hy : X.N[i]? = some y) (hyl : X.env.scope.names.lookup y = some .local) (hsw : swapsWith (C3 elt tg iter tg1 iter1 tg2 iter2 scope pos) (some (.Name y py)) spos.line X.env = pure true)
    (hi : PI X tg iter wi) (ok : BlkOk X.N X.env.scope scope own) (hv : ∀ i ∈ vs1, i ∈ own.map (·.2)) (hv2 : ∀ i ∈ vs2, i ∈ vs1)
    (hg : ∀ (s : Shared) (H : Hp) (C : Addr) (cl : List (Str × Addr)) (fp : List Addr), PG (X.blk s H scope (compEnvC scope cl C X.env) fp) tg g)
    (he : ∀ (s : Shared) (H : Hp) (C : Addr) (cl : List (Str × Addr)) (fp : List Addr), PE (X.blk s H scope (compEnvC scope cl C X.env) fp) elt te) (hs : ∀ x, foldedSetIterable iter X.env x = pure x)
    (hi1 : ∀ (s : Shared) (H : Hp) (C : Addr) (cl : List (Str × Addr)) (fp : List Addr), PI (X.blk s H scope (compEnvC scope cl C X.env) fp) tg1 iter1 wi1)
    (hg1 : ∀ (s : Shared) (H : Hp) (C : Addr) (cl : List (Str × Addr)) (fp : List Addr), PG (X.blk s H scope (compEnvC scope cl C X.env) fp) tg1 g1)
    (hi2 : ∀ (s : Shared) (H : Hp) (C : Addr) (cl : List (Str × Addr)) (fp : List Addr), PI (X.blk s H scope (compEnvC scope cl C X.env) fp) tg2 iter2 wi2)
    (hg2 : ∀ (s : Shared) (H : Hp) (C : Addr) (cl : List (Str × Addr)) (fp : List Addr), PG (X.blk s H scope (compEnvC scope cl C X.env) fp) tg2 g2)
    (hs1 : ∀ env x, foldedSetIterable iter1 env x = pure x) (hs2 : ∀ env x, foldedSetIterable iter2 env x = pure x) :
    PS X (.Assign [.Name y py] (C3 elt tg iter tg1 iter1 tg2 iter2 scope pos) spos) (tAsg (tLc3 wi g wi1 g1 wi2 g2 te (own.map (·.2)) vs1 vs2) (gName i)) := by
  refine ⟨fun pins s σ H D I h => ?_⟩
  rw [exec_Assign_Name_used _ _ _ _ hsw]
  refine wpAny_bind (wpAny_standAt (wpAny_bind ?_))
  show wpAny _ X.A (do let _ ← comprehension (C3 elt tg iter tg1 iter1 tg2 iter2 scope pos) scope X.env (firstIterPos [⟨tg, iter, [], 0⟩, ⟨tg1, iter1, [], 0⟩, ⟨tg2, iter2, [], 0⟩] pos) (newList []) false (eval iter X.env) (some (assign (.Name y py) X.env))) _ _ s
  have h : tLc3 wi g wi1 g1 wi2 g2 te (own.map (·.2)) vs1 vs2 σ H (fun x H1 => gName i x σ H1 D.nx) := h
  refine wpAny_bind (thn (lc3_core (Qf := fun _ s' => SP X pins D .next s') hc hN I hi ok hv hv2 hg he hs hi1 hg1 hi2 hg2 hs1 hs2 h fun L C s' m H' I' q hn f => ?_) fun _ s' hq => wpAny_pure (wpAny_pure hq))
  show wpAny _ _ (assign (.Name y py) X.env (.ref L)) _ _ _
  refine wpAny_assign_Name (store_ok2 (v := V.ref L) I' hN hy (.inl hyl) rfl (fun s2 I2 ⟨a, sb, ha⟩ => ?_) (.inr hyl))
  obtain ⟨f0, f1, f2, f3, f4, f5⟩ := f
  have haC : C ≠ a := by
    rcases ha with z | z
    · rw [z]; exact f1
    · exact fun e => f4 y a z e.symm
  refine ⟨m, hn.sameBut sb haC, fun h3 sb3 => ?_⟩
  exact ⟨_, H', I2.turned (t' := s2.toks) (fun b o hb e => (sb3.2 b hb).trans e) f0 f1 f3 f4 f5, q⟩
end
end L2
end

section
set_option Elab.async false
set_option linter.all false
set_option maxRecDepth 100000
set_option autoImplicit false
set_option maxHeartbeats 4000000
namespace Mx
open PySem L2 PySem.Spec PyProof.Rows
variable [WW]
section
variable {X : Cx} {C : Nat → List D → Sto → R D} {cl : Nat → Value} {n : Nat} {c : Ck} {wx : WX}
/-- a reading for both uses of a comprehension: as a value, as what a name is set to -/
def CompOk (X : Cx) (t : TE) (x : Expr) : Prop := ∃ T : TE, (∀ σ H Q, t σ H Q → T σ H Q) ∧ PE X x T ∧
  ∀ {k : Nat} {y : Str} {py spos : Pos}, X.N[k]? = some y → X.env.scope.names.lookup y = some .local → swapsWith x (some (.Name y py)) spos.line X.env = pure true → PS X (.Assign [.Name y py] x spos) (tAsg T (gName k))
/-- a turn without a test -/
theorem turn0_ok {K : PySem.W.Frag} {Ha : Hp} {La Za : List Addr} {q : Addr} {tg : Tg} {own : List Nat} {body : Env → List P → Sto → R (List P)} {env : Env} {σ : L2.St} {te : L2.St → Hp → (Hp → Prop) → Prop}
    {x : V} {d : D} {H : Hp} {L : List Addr} {S S1 : Sto} {acc acc1 : List P} {Nx : Hp → Prop}
    (er : EnvR K H L (q :: Za) (L2.wipe σ own) (wipeE env own)) (hin : inC own tg = true) (iL : InL K Ha La Za q H L S acc) (rd : RD K H L (q :: Za) x d) (ht : turnC tg own yes body env d acc S = .ok acc1 S1)
    (kbody : ∀ (σ1 : L2.St) (env1 : Env), EnvR K H L (q :: Za) σ1 env1 → body env1 acc S = .ok acc1 S1 → te σ1 H Nx) :
    gTg K tg x (L2.wipe σ own) H fun σ1 H1 => L2.wipe σ1 own = L2.wipe σ own ∧ te σ1 H1 Nx := by
  unfold turnC at ht
  split at ht
  · rename_i env1 hb
    have h2 : body env1 acc S = .ok acc1 S1 := by simpa [yes, R.bind] using ht
    exact gTg_ok hb rd er fun σ1 hset er1 => ⟨wipe_sets hset hin fun _ h => h, kbody σ1 env1 er1 h2⟩
  · cases ht
theorem s_comp2 (g : Good X C cl n c wx) {own own1 : List Nat} {tg tg1 : Tg} {src src1 : Src} {ifs ifs1 : Eo} {elt : E} {te t i t1 i1 : Expr} {fs fs1 : List Expr} {scope : Scope} {pos : Pos} (ho : ownC c scope own = true) (hin : inC own tg = true) (hin1 : inC own1 tg1 = true)
    (hoo : own1.all (fun i => own.contains i) = true) (hs : PI X t i (tSrc X C cl wx src))
    (hg : ∀ (X' : Cx), Good X' C cl n (blk c scope) wx0 → PG X' t (gTg X'.K tg)) (ht : ∀ (X' : Cx), Good X' C cl n (blk c scope) wx0 → PTs X' fs (tIf X' C cl wx0 ifs))
    (hs1 : ∀ (X' : Cx), Good X' C cl n (blk c scope) wx0 → PI X' t1 i1 (tSrc X' C cl wx0 src1)) (hg1 : ∀ (X' : Cx), Good X' C cl n (blk c scope) wx0 → PG X' t1 (gTg X'.K tg1)) (ht1 : ∀ (X' : Cx), Good X' C cl n (blk c scope) wx0 → PTs X' fs1 (tIf X' C cl wx0 ifs1))
    (he : ∀ (X' : Cx), Good X' C cl n (blk c scope) wx0 → PE X' te (tE X' C cl wx0 elt))
    (hf : ∀ env x, foldedSetIterable i env x = pure x) (hf1 : ∀ env x, foldedSetIterable i1 env x = pure x) :
    CompOk X (tE X C cl wx (.comp2 own own1 tg src ifs tg1 src1 ifs1 elt)) (.ListComp te [⟨t, i, fs, 0⟩, ⟨t1, i1, fs1, 0⟩] scope pos) := by
  unfold ownC at ho
  simp only [Bool.and_eq_true] at ho
  have hb : BlkOk X.N X.env.scope scope (ownL c own) := by rw [g.names, g.scope]; exact blkOk_by ho.1
  have h2 := own_snd ho.2
  have hk : (relS scope c.sc).kind = .function := hb.kind
  have hv : ∀ i ∈ own1, i ∈ (ownL c own).map (·.2) := by
    rw [h2]
    intro i hi
    have := List.all_eq_true.mp hoo i hi
    simpa using this
  refine ⟨tLc2 (tSrc X C cl wx src) (gTg X.K tg) (tG X.K cl wx0 relB (evC C ifs)) (tG X.K cl wx0 (fun K Z H L J w => WalkR K Z H L J w) (evI C src1)) (gTg X.K tg1) (tG X.K cl wx0 relB (evC C ifs1)) (tG X.K cl wx0 relD (evE C elt)) ((ownL c own).map (·.2)) own1, fun σ H Q q => ?_,
    pe_lc2 g.calm g.nd hs hb hv (fun s H A cs fp => hg _ (g.blk hk s H A cs fp)) (fun s H A cs fp => ht _ (g.blk hk s H A cs fp)) (fun s H A cs fp => hs1 _ (g.blk hk s H A cs fp)) (fun s H A cs fp => hg1 _ (g.blk hk s H A cs fp)) (fun s H A cs fp => ht1 _ (g.blk hk s H A cs fp)) (fun s H A cs fp => he _ (g.blk hk s H A cs fp)) (hf _) hf1,
    fun hkk hy hsw => ps_setLc2 g.calm g.nd hkk hy hsw hs hb hv (fun s H A cs fp => hg _ (g.blk hk s H A cs fp)) (fun s H A cs fp => ht _ (g.blk hk s H A cs fp)) (fun s H A cs fp => hs1 _ (g.blk hk s H A cs fp)) (fun s H A cs fp => hg1 _ (g.blk hk s H A cs fp)) (fun s H A cs fp => ht1 _ (g.blk hk s H A cs fp)) (fun s H A cs fp => he _ (g.blk hk s H A cs fp)) (hf _) hf1⟩
  rw [h2]
  obtain ⟨L, Z, S, env, at_, post⟩ := q
  simp only [evE] at post
  refine ⟨L, Z, S, env, at_, post.bind fun w S1 H1 L1 J e1 s1 wr q1 => fun q hq => ?_⟩
  obtain ⟨ps, Sf, hr, fin⟩ := listed_post q1
  have a1 := at_.later e1 s1
  have i0 : InL X.K H1 L1 Z q (upd H1 q (.lst [])) L1 S1 [] := ⟨Ext.new_ hq, s1.opn hq _, s1.free hq, [], upd_same, .nil⟩
  refine comp_loop (K := X.K) (Z := Z) (H1 := H1) (L1 := L1) (H2 := H1) (L2 := L1) (Z2 := Z) (G := fun x H' Nx => gTg X.K tg x (L2.wipe σ own) H' fun σ2 H2 => L2.wipe σ2 own = L2.wipe σ own ∧ tG X.K cl wx0 relB (evC C ifs) σ2 H2 fun b H3 =>
      if b = true then _ else Nx H3)
    wr (Zx.cons hq) i0 (Ext.new_ hq).z hr (fun _ _ e => e.drop hq) (fun H L iL _ => ?_) (fun x d H L S S2 acc acc1 Nx iL _ rd htn nx => ?_)
  · obtain ⟨vs, b1, b2⟩ := iL.at_
    refine fin H L _ iL.ext iL.st.shut (.lst b1 ⟨iL.ni, fun m => s1.zs q m hq⟩ (b2.less fun _ n => out_tl n))
  · have er : EnvR X.K H L (q :: Z) (L2.wipe σ own) (wipeE env own) := ((a1.env.toZ (Zx.cons hq)).ext iL.ext).wipe own
    refine turn_ok (te := fun σ2 H3 Nx => tG X.K cl wx0 (fun K Z H L J w => WalkR K Z H L J w) (evI C src1) σ2 H3 fun J1 H4 => ∃ W1 : Nat → Nat → Hp → Prop, (∃ m, W1 0 m H4) ∧ ∀ j k H, W1 j k H →
      (J1.stop j H ∧ Nx H) ∨ (J1.go j H ∧ ∃ Nx1 : Hp → Prop, (∀ H', Nx1 H' → ∃ k', k' < k ∧ W1 (j + 1) k' H') ∧ ∀ x H', J1.yld j H x H' → gTg X.K tg1 x (L2.wipe σ2 own1) H' fun σ3 H5 => L2.wipe σ3 own1 = L2.wipe σ2 own1 ∧ tG X.K cl wx0 relB (evC C ifs1) σ3 H5 fun b H6 =>
        if b = true then tG X.K cl wx0 relD (evE C elt) σ3 H6 fun y H7 => ∃ acc, H7 q = some (.lst acc) ∧ acc.length < sizeLine ∧ Nx1 (upd H7 q (.lst (acc ++ [y]))) else Nx1 H6)) er hin iL rd htn nx ?_
    intro H' L' S' σ1 env1 e' iL' er' _ hb'
    obtain ⟨w1, S3, h1, h3⟩ := bind_ok hb'
    refine ⟨L', q :: Z, S', env1, ⟨iL'.st, er'⟩, ?_⟩
    rw [h1]
    intro H4 L4 J1 e4 s4 wr1
    have iL4 := iL'.step e4 s4
    refine comp_loop (K := X.K) (Z := q :: Z) (H1 := H4) (L1 := L4) (H2 := H1) (L2 := L1) (Z2 := Z) (G := fun x H' Nx1 => gTg X.K tg1 x (L2.wipe σ1 own1) H' fun σ3 H5 => L2.wipe σ3 own1 = L2.wipe σ1 own1 ∧ tG X.K cl wx0 relB (evC C ifs1) σ3 H5 fun b H6 =>
        if b = true then tG X.K cl wx0 relD (evE C elt) σ3 H6 fun y H7 => ∃ acc, H7 q = some (.lst acc) ∧ acc.length < sizeLine ∧ Nx1 (upd H7 q (.lst (acc ++ [y]))) else Nx1 H6)
      wr1 Zx.refl iL4 ExtZ.refl h3 (fun _ _ e => e) (fun H5 L5 iL5 x5 => ?_) (fun x d H5 L5 S5 S6 acc5 acc6 Nx1 iL5 x5 rd5 htn5 nx5 => ?_)
    · exact nx H5 L5 iL5 ((e'.trans e4).z.trans x5)
    · have er5 : EnvR X.K H5 L5 (q :: Z) (L2.wipe σ1 own1) (wipeE env1 own1) := ((er'.ext e4).extZ x5).wipe own1
      refine turn_ok (te := fun σ3 H6 Nx1 => tG X.K cl wx0 relD (evE C elt) σ3 H6 fun y H7 => ∃ acc, H7 q = some (.lst acc) ∧ acc.length < sizeLine ∧ Nx1 (upd H7 q (.lst (acc ++ [y])))) er5 hin1 iL5 rd5 htn5 nx5 ?_
      intro H6 L6 S7 σ3 env3 e6 iL6 er6 _ hb6
      exact one_ok hq iL6 er6 hb6 fun H'' L'' i'' x'' => nx5 H'' L'' i'' (e6.z.trans x'')
theorem s_comp3 (g : Good X C cl n c wx) {own own1 own2 : List Nat} {tg tg1 tg2 : Tg} {src src1 src2 : Src} {elt : E} {te t i t1 i1 t2 i2 : Expr} {scope : Scope} {pos : Pos} (ho : ownC c scope own = true) (hin : inC own tg = true) (hin1 : inC own1 tg1 = true) (hin2 : inC own2 tg2 = true)
    (hoo : own1.all (fun i => own.contains i) = true) (hoo2 : own2.all (fun i => own1.contains i) = true) (hs : PI X t i (tSrc X C cl wx src))
    (hg : ∀ (X' : Cx), Good X' C cl n (blk c scope) wx0 → PG X' t (gTg X'.K tg))
    (hs1 : ∀ (X' : Cx), Good X' C cl n (blk c scope) wx0 → PI X' t1 i1 (tSrc X' C cl wx0 src1)) (hg1 : ∀ (X' : Cx), Good X' C cl n (blk c scope) wx0 → PG X' t1 (gTg X'.K tg1))
    (hs2 : ∀ (X' : Cx), Good X' C cl n (blk c scope) wx0 → PI X' t2 i2 (tSrc X' C cl wx0 src2)) (hg2 : ∀ (X' : Cx), Good X' C cl n (blk c scope) wx0 → PG X' t2 (gTg X'.K tg2))
    (he : ∀ (X' : Cx), Good X' C cl n (blk c scope) wx0 → PE X' te (tE X' C cl wx0 elt))
    (hf : ∀ env x, foldedSetIterable i env x = pure x) (hf1 : ∀ env x, foldedSetIterable i1 env x = pure x) (hf2 : ∀ env x, foldedSetIterable i2 env x = pure x) :
    CompOk X (tE X C cl wx (.comp3 own own1 own2 tg src tg1 src1 tg2 src2 elt)) (C3 te t i t1 i1 t2 i2 scope pos) := by
  unfold ownC at ho
  simp only [Bool.and_eq_true] at ho
  have hb : BlkOk X.N X.env.scope scope (ownL c own) := by rw [g.names, g.scope]; exact blkOk_by ho.1
  have h2 := own_snd ho.2
  have hk : (relS scope c.sc).kind = .function := hb.kind
  have hv : ∀ i ∈ own1, i ∈ (ownL c own).map (·.2) := by
    rw [h2]
    intro i hi
    have := List.all_eq_true.mp hoo i hi
    simpa using this
  have hv2 : ∀ i ∈ own2, i ∈ own1 := fun i hi => by
    have := List.all_eq_true.mp hoo2 i hi
    simpa using this
  refine ⟨tLc3 (tSrc X C cl wx src) (gTg X.K tg) (tG X.K cl wx0 (fun K Z H L J w => WalkR K Z H L J w) (evI C src1)) (gTg X.K tg1) (tG X.K cl wx0 (fun K Z H L J w => WalkR K Z H L J w) (evI C src2)) (gTg X.K tg2) (tG X.K cl wx0 relD (evE C elt)) ((ownL c own).map (·.2)) own1 own2, fun σ H Q q => ?_,
    pe_lc3 g.calm g.nd hs hb hv hv2 (fun s H A cs fp => hg _ (g.blk hk s H A cs fp)) (fun s H A cs fp => he _ (g.blk hk s H A cs fp)) (hf _) (fun s H A cs fp => hs1 _ (g.blk hk s H A cs fp)) (fun s H A cs fp => hg1 _ (g.blk hk s H A cs fp)) (fun s H A cs fp => hs2 _ (g.blk hk s H A cs fp)) (fun s H A cs fp => hg2 _ (g.blk hk s H A cs fp)) hf1 hf2,
    fun hkk hy hsw => ps_setLc3 g.calm g.nd hkk hy hsw hs hb hv hv2 (fun s H A cs fp => hg _ (g.blk hk s H A cs fp)) (fun s H A cs fp => he _ (g.blk hk s H A cs fp)) (hf _) (fun s H A cs fp => hs1 _ (g.blk hk s H A cs fp)) (fun s H A cs fp => hg1 _ (g.blk hk s H A cs fp)) (fun s H A cs fp => hs2 _ (g.blk hk s H A cs fp)) (fun s H A cs fp => hg2 _ (g.blk hk s H A cs fp)) hf1 hf2⟩
  rw [h2]
  obtain ⟨L, Z, S, env, at_, post⟩ := q
  simp only [evE] at post
  refine ⟨L, Z, S, env, at_, post.bind fun w S1 H1 L1 J e1 s1 wr q1 => fun q hq => ?_⟩
  obtain ⟨ps, Sf, hr, fin⟩ := listed_post q1
  have a1 := at_.later e1 s1
  have i0 : InL X.K H1 L1 Z q (upd H1 q (.lst [])) L1 S1 [] := ⟨Ext.new_ hq, s1.opn hq _, s1.free hq, [], upd_same, .nil⟩
  refine comp_loop (K := X.K) (Z := Z) (H1 := H1) (L1 := L1) (H2 := H1) (L2 := L1) (Z2 := Z) (G := fun x H' Nx => gTg X.K tg x (L2.wipe σ own) H' fun σ2 H2 => L2.wipe σ2 own = L2.wipe σ own ∧ tCls (tG X.K cl wx0 (fun K Z H L J w => WalkR K Z H L J w) (evI C src1)) (gTg X.K tg1) own1 (tCls (tG X.K cl wx0 (fun K Z H L J w => WalkR K Z H L J w) (evI C src2)) (gTg X.K tg2) own2 (tElt (tG X.K cl wx0 relD (evE C elt)) q)) σ2 H2 Nx)
    wr (Zx.cons hq) i0 (Ext.new_ hq).z hr (fun _ _ e => e.drop hq) (fun H L iL _ => ?_) (fun x d H L S S2 acc acc1 Nx iL _ rd htn nx => ?_)
  · obtain ⟨vs, b1, b2⟩ := iL.at_
    refine fin H L _ iL.ext iL.st.shut (.lst b1 ⟨iL.ni, fun m => s1.zs q m hq⟩ (b2.less fun _ n => out_tl n))
  · have er : EnvR X.K H L (q :: Z) (L2.wipe σ own) (wipeE env own) := ((a1.env.toZ (Zx.cons hq)).ext iL.ext).wipe own
    refine turn0_ok er hin iL rd htn ?_
    intro σ1 env1 er' hb'
    obtain ⟨w1, S3, h1, h3⟩ := bind_ok hb'
    refine ⟨L, q :: Z, S, env1, ⟨iL.st, er'⟩, ?_⟩
    rw [h1]
    intro H4 L4 J1 e4 s4 wr1
    have iL4 := iL.step e4 s4
    refine comp_loop (K := X.K) (Z := q :: Z) (H1 := H4) (L1 := L4) (H2 := H1) (L2 := L1) (Z2 := Z) (G := fun x H' Nx1 => gTg X.K tg1 x (L2.wipe σ1 own1) H' fun σ3 H5 => L2.wipe σ3 own1 = L2.wipe σ1 own1 ∧ tCls (tG X.K cl wx0 (fun K Z H L J w => WalkR K Z H L J w) (evI C src2)) (gTg X.K tg2) own2 (tElt (tG X.K cl wx0 relD (evE C elt)) q) σ3 H5 Nx1)
      wr1 Zx.refl iL4 ExtZ.refl h3 (fun _ _ e => e) (fun H5 L5 iL5 x5 => ?_) (fun x d H5 L5 S5 S6 acc5 acc6 Nx1 iL5 x5 rd5 htn5 nx5 => ?_)
    · exact nx H5 L5 iL5 (e4.z.trans x5)
    · have er5 : EnvR X.K H5 L5 (q :: Z) (L2.wipe σ1 own1) (wipeE env1 own1) := ((er'.ext e4).extZ x5).wipe own1
      refine turn0_ok er5 hin1 iL5 rd5 htn5 ?_
      intro σ3 env3 er6 hb6
      obtain ⟨w2, S7, h7, h8⟩ := bind_ok hb6
      refine ⟨L5, q :: Z, S5, env3, ⟨iL5.st, er6⟩, ?_⟩
      rw [h7]
      intro H8 L8 J2 e8 s8 wr2
      have iL8 := iL5.step e8 s8
      refine comp_loop (K := X.K) (Z := q :: Z) (H1 := H8) (L1 := L8) (H2 := H1) (L2 := L1) (Z2 := Z) (G := fun x H' Nx1 => gTg X.K tg2 x (L2.wipe σ3 own2) H' fun σ4 H5 => L2.wipe σ4 own2 = L2.wipe σ3 own2 ∧ tElt (tG X.K cl wx0 relD (evE C elt)) q σ4 H5 Nx1)
        wr2 Zx.refl iL8 ExtZ.refl h8 (fun _ _ e => e) (fun H9 L9 iL9 x9 => ?_) (fun x d H9 L9 S9 S10 acc9 acc10 Nx2 iL9 x9 rd9 htn9 nx9 => ?_)
      · exact nx5 H9 L9 iL9 (e8.z.trans x9)
      · have er9 : EnvR X.K H9 L9 (q :: Z) (L2.wipe σ3 own2) (wipeE env3 own2) := ((er6.ext e8).extZ x9).wipe own2
        refine turn0_ok er9 hin2 iL9 rd9 htn9 ?_
        intro σ4 env4 er10 hb10
        exact one_ok hq iL9 er10 hb10 nx9
theorem s_compOk (g : Good X C cl n c wx) {own : List Nat} {tg : Tg} {src : Src} {ifs : Eo} {elt : E} {te t i : Expr} {fs : List Expr} {scope : Scope} {pos : Pos} (ho : ownC c scope own = true) (hin : inC own tg = true) (hs : PI X t i (tSrc X C cl wx src))
    (hg : ∀ (X' : Cx), Good X' C cl n (blk c scope) wx0 → PG X' t (gTg X'.K tg)) (ht : ∀ (X' : Cx), Good X' C cl n (blk c scope) wx0 → PTs X' fs (tIf X' C cl wx0 ifs)) (he : ∀ (X' : Cx), Good X' C cl n (blk c scope) wx0 → PE X' te (tE X' C cl wx0 elt))
    (hf : ∀ env x, foldedSetIterable i env x = pure x) : CompOk X (tE X C cl wx (.comp own tg src ifs elt)) (.ListComp te [⟨t, i, fs, 0⟩] scope pos) := s_comp g ho hin hs hg ht he (hf _)

/-! ### every expression -/
theorem noSet {x : Expr} {src : Src} {tg : Expr} (h : ckSrc c src x tg = true) (env : PySem.Env) (v : Value) : foldedSetIterable x env v = pure v := by
  cases x with
  | Set es k p =>
    exfalso
    cases src <;> simp only [ckSrc] at h <;> try (cases h; done)
    rename_i e
    have key : ∀ e : E, ck c e (.ex (.Set es k p)) = false := by
      intro e
      induction e using E.rec (motive_2 := fun _ => True) (motive_3 := fun _ => True) (motive_4 := fun _ => True) with
      | mk e ih => simp only [ck]; rw [ih]; simp
      | _ => first | trivial | rfl | simp [ck]
    rw [key] at h; cases h
  | _ => rfl
variable (C cl) in
def KdOk (X : Cx) (wx : WX) (e : E) : Kd → Prop
  | .ex x => PE X x (tE X C cl wx e) ∧ PT X x (tT X C cl wx e) ∧ (isLC x = true → CompOk X (tE X C cl wx e) x)
  | .and x y r => ∀ pos, PE X (.BoolOp .And (x :: y :: r) pos) (tE X C cl wx e) ∧ PW X (.BoolOp .And (x :: y :: r) pos) (tT X C cl wx e)
  | .or x y r => ∀ pos, PE X (.BoolOp .Or (x :: y :: r) pos) (tE X C cl wx e) ∧ PW X (.BoolOp .Or (x :: y :: r) pos) (tT X C cl wx e)
theorem andT_pe {X : Cx} {wx : WX} {e : E} {y : Expr} {r : List Expr} (h : KdOk C cl X wx e (andTail y r)) (pos : Pos) : PE X (.BoolOp .And (y :: r) pos) (tE X C cl wx e) ∧ PW X (.BoolOp .And (y :: r) pos) (tT X C cl wx e) := by
  cases r with
  | nil => exact ⟨pe_one h.1, pw_and1 h.2.1⟩
  | cons z r => exact h pos
theorem orT_pe {X : Cx} {wx : WX} {e : E} {y : Expr} {r : List Expr} (h : KdOk C cl X wx e (orTail y r)) (pos : Pos) : PE X (.BoolOp .Or (y :: r) pos) (tE X C cl wx e) ∧ PW X (.BoolOp .Or (y :: r) pos) (tT X C cl wx e) := by
  cases r with
  | nil => exact ⟨pe_one h.1, pw_or1 h.2.1⟩
  | cons z r => exact h pos
theorem s_and {X : Cx} {wx : WX} {ea eb : E} {x y : Expr} {r : List Expr} (ha : KdOk C cl X wx ea (.ex x)) (hb : KdOk C cl X wx eb (andTail y r)) (pos : Pos) :
    PE X (.BoolOp .And (x :: y :: r) pos) (tE X C cl wx (.andE ea eb)) ∧ PW X (.BoolOp .And (x :: y :: r) pos) (tT X C cl wx (.andE ea eb)) := by
  obtain ⟨h1, h2⟩ := andT_pe hb pos
  exact ⟨(pe_andT ha.1 h1).imp fun σ H Q q => s_andV q, (pw_and ha.2.1 h2).imp fun σ H Q q => s_andT q⟩
theorem s_or {X : Cx} {wx : WX} {ea eb : E} {x y : Expr} {r : List Expr} (ha : KdOk C cl X wx ea (.ex x)) (hb : KdOk C cl X wx eb (orTail y r)) (pos : Pos) :
    PE X (.BoolOp .Or (x :: y :: r) pos) (tE X C cl wx (.orE ea eb)) ∧ PW X (.BoolOp .Or (x :: y :: r) pos) (tT X C cl wx (.orE ea eb)) := by
  obtain ⟨h1, h2⟩ := orT_pe hb pos
  exact ⟨(pe_orT ha.1 h1).imp fun σ H Q q => s_orV q, (pw_or ha.2.1 h2).imp fun σ H Q q => s_orT q⟩
theorem ck_ne {c : Ck} {e : E} {x : Expr} (h : ck c e (.ex x) = true) : notStar x = true := ck_notStar h
theorem of_pe {X : Cx} {wx : WX} {e : E} {x : Expr} (h : PE X x (tE X C cl wx e)) (hl : isLC x = false) (he : ∀ whole, PySem.isTrue x X.env whole = (do let v ← whole; standAt x.pos; holding [v] (truthy v))) : KdOk C cl X wx e (.ex x) :=
  ⟨h, pt_of h he, fun z => by rw [hl] at z; cases z⟩
theorem of_comp {X : Cx} {wx : WX} {e : E} {x : Expr} (h : CompOk X (tE X C cl wx e) x) (he : ∀ whole, PySem.isTrue x X.env whole = (do let v ← whole; standAt x.pos; holding [v] (truthy v))) : KdOk C cl X wx e (.ex x) := by
  obtain ⟨T, h1, h2, h3⟩ := id h
  have hp := h2.imp h1
  exact ⟨hp, pt_of hp he, fun _ => h⟩
mutual
theorem soE : (e : E) → ∀ {c : Ck} {X : Cx} {wx : WX} {k : Kd}, ck c e k = true → Good X C cl n c wx → KdOk C cl X wx e k
  | .var i, c, X, wx, k, h, g => by
    simp only [ck] at h
    split at h
    · simp only [Bool.and_eq_true] at h
      exact of_pe (s_var g h.1.1 h.1.2 h.2) rfl fun _ => rfl
    · cases h
  | .lit p, c, X, wx, k, h, g => by
    simp only [ck] at h
    split at h
    · exact of_pe (s_lit (kd := none) h) rfl fun _ => rfl
    · cases h
  | .glo _ p, c, X, wx, k, h, g => by
    simp only [ck] at h
    split at h
    · simp only [Bool.and_eq_true] at h
      exact of_pe (s_glo g h.1.1 h.1.2 h.2) rfl fun _ => rfl
    · cases h
  | .bin o a b, c, X, wx, k, h, g => by
    simp only [ck] at h
    split at h
    · simp only [Bool.and_eq_true] at h
      cases opC_eq h.1.1
      exact of_pe (s_bin (soE a h.1.2 g).1 (soE b h.2 g).1) rfl fun _ => rfl
    · cases h
  | .neg a, c, X, wx, k, h, g => by
    simp only [ck] at h
    split at h
    · exact of_pe (s_neg (soE a h g).1) rfl fun _ => rfl
    · cases h
  | .cmp o a b, c, X, wx, k, h, g => by
    simp only [ck] at h
    split at h
    · simp only [Bool.and_eq_true] at h
      obtain ⟨rfl, hm⟩ := cmC_eq h.1.1
      obtain ⟨h1, h2⟩ := s_cmp (pos := _) g hm (soE a h.1.2 g).1 (soE b h.2 g).1
      exact ⟨h1, h2, fun z => by cases z⟩
    · cases h
  | .chn o o' a b d, c, X, wx, k, h, g => by
    simp only [ck] at h
    split at h
    · simp only [Bool.and_eq_true] at h
      obtain ⟨⟨⟨⟨⟨⟨k1, k2⟩, k3⟩, k4⟩, k5⟩, k6⟩, k7⟩ := h
      obtain ⟨rfl, _⟩ := cmC_eq k1
      obtain ⟨rfl, hm⟩ := cmC_eq k2
      obtain ⟨h1, h2⟩ := s_chn (pos := _) g hm k3 k4 (soE a k5 g).1 (soE b k6 g).1 (soE d k7 g).1
      exact ⟨h1, h2, fun z => by cases z⟩
    · cases h
  | .andE a b, c, X, wx, k, h, g => by
    simp only [ck] at h
    split at h
    · simp only [Bool.and_eq_true] at h
      obtain ⟨h1, h2⟩ := s_and (soE a h.1 g) (soE b h.2 g) _
      exact ⟨h1, h2.pt, fun z => by cases z⟩
    · simp only [Bool.and_eq_true] at h
      exact s_and (soE a h.1 g) (soE b h.2 g)
    · cases h
  | .orE a b, c, X, wx, k, h, g => by
    simp only [ck] at h
    split at h
    · simp only [Bool.and_eq_true] at h
      obtain ⟨h1, h2⟩ := s_or (soE a h.1 g) (soE b h.2 g) _
      exact ⟨h1, h2.pt, fun z => by cases z⟩
    · simp only [Bool.and_eq_true] at h
      exact s_or (soE a h.1 g) (soE b h.2 g)
    · cases h
  | .notE a, c, X, wx, k, h, g => by
    simp only [ck] at h
    split at h
    · obtain ⟨h1, h2⟩ := s_not (pos := _) (soE a h g).1 (soE a h g).2.1
      exact ⟨h1, h2, fun z => by cases z⟩
    · cases h
  | .ite t a b, c, X, wx, k, h, g => by
    simp only [ck] at h
    split at h
    · simp only [Bool.and_eq_true] at h
      obtain ⟨h1, h2⟩ := s_ite (pos := _) (soE t h.1.1 g).2.1 (soE a h.1.2 g).1 (soE a h.1.2 g).2.1 (soE b h.2 g).1 (soE b h.2 g).2.1
      exact ⟨h1, h2, fun z => by cases z⟩
    · cases h
  | .tup es, c, X, wx, k, h, g => by
    simp only [ck] at h
    split at h
    · simp only [Bool.and_eq_true, decide_eq_true_eq] at h
      exact of_pe (s_tup h.2 h.1 (soEs es h.1 g).pa) rfl fun _ => rfl
    · cases h
  | .lst es, c, X, wx, k, h, g => by
    simp only [ck] at h
    split at h
    · simp only [Bool.and_eq_true, decide_eq_true_eq] at h
      exact of_pe (s_lst h.2 h.1 (soEs es h.1 g).pa) rfl fun _ => rfl
    · cases h
  | .mk (.lst es), c, X, wx, k, h, g => by
    simp only [ck, Bool.and_eq_true] at h
    have h := h.2
    split at h
    · simp only [Bool.and_eq_true, decide_eq_true_eq] at h
      exact of_pe (s_mkLst h.2 h.1 (soEs es h.1 g).pa) rfl fun _ => rfl
    · cases h
  | .mk (.bin .add a b), c, X, wx, k, h, g => by
    simp only [ck, Bool.and_eq_true] at h
    have h := h.2
    split at h
    · simp only [Bool.and_eq_true] at h
      cases opC_eq h.1.1
      exact of_pe (s_mkBin (.inl rfl) (soE a h.1.2 g).1 (soE b h.2 g).1) rfl fun _ => rfl
    · cases h
  | .mk (.bin .mul a b), c, X, wx, k, h, g => by
    simp only [ck, Bool.and_eq_true] at h
    have h := h.2
    split at h
    · simp only [Bool.and_eq_true] at h
      cases opC_eq h.1.1
      exact of_pe (s_mkBin (.inr rfl) (soE a h.1.2 g).1 (soE b h.2 g).1) rfl fun _ => rfl
    · cases h
  | .mk (.comp own tg src ifs elt), c, X, wx, k, h, g => by
    simp only [ck, Bool.and_eq_true] at h
    have h := h.2
    split at h
    · simp only [Bool.and_eq_true] at h
      obtain ⟨⟨⟨⟨⟨k1, k2⟩, k3⟩, k4⟩, k5⟩, k6⟩ := h
      exact of_comp (s_compM g k1 k2 (soSrc src k4 g) (fun X' g' => s_tg g' k3) (fun X' g' => soIf ifs k5 g') (fun X' g' => (soE elt k6 g').1) (noSet k4 _)) fun _ => rfl
    · cases h
  | .mk (.bin .sub _ _), c, X, wx, k, h, g | .mk (.bin .fdiv _ _), c, X, wx, k, h, g | .mk (.bin .mod _ _), c, X, wx, k, h, g | .mk (.bin .pow _ _), c, X, wx, k, h, g
  | .mk (.var _), c, X, wx, k, h, g | .mk (.lit _), c, X, wx, k, h, g | .mk (.glo _ _), c, X, wx, k, h, g | .mk (.neg _), c, X, wx, k, h, g | .mk (.cmp _ _ _), c, X, wx, k, h, g | .mk (.chn _ _ _ _ _), c, X, wx, k, h, g
  | .mk (.andE _ _), c, X, wx, k, h, g | .mk (.orE _ _), c, X, wx, k, h, g | .mk (.notE _), c, X, wx, k, h, g | .mk (.ite _ _ _), c, X, wx, k, h, g | .mk (.tup _), c, X, wx, k, h, g | .mk (.mk _), c, X, wx, k, h, g | .mk (.dct _ _), c, X, wx, k, h, g
  | .mk (.idx _ _), c, X, wx, k, h, g | .mk (.slc _ _ _), c, X, wx, k, h, g | .mk (.rev _), c, X, wx, k, h, g | .mk (.isi _ _), c, X, wx, k, h, g | .mk (.call _ _), c, X, wx, k, h, g | .mk (.callK _ _ _), c, X, wx, k, h, g | .mk (.blt _ _), c, X, wx, k, h, g | .mk (.mth _ _ _), c, X, wx, k, h, g | .mk .newT, c, X, wx, k, h, g | .mk .newN, c, X, wx, k, h, g | .mk (.getT _ _ _), c, X, wx, k, h, g | .mk (.idxT _ _), c, X, wx, k, h, g
  | .mk (.comp2 _ _ _ _ _ _ _ _ _), c, X, wx, k, h, g | .mk (.comp3 _ _ _ _ _ _ _ _ _ _), c, X, wx, k, h, g | .mk (.lrng _ _), c, X, wx, k, h, g | .mk (.lzip _ _), c, X, wx, k, h, g => by simp [ck, mkOk] at h
  | .dct ks es, c, X, wx, k, h, g => by
    simp only [ck] at h
    split at h
    · simp only [Bool.and_eq_true, decide_eq_true_eq] at h
      obtain ⟨⟨⟨⟨k1, k2⟩, k3⟩, k4⟩, k5⟩ := h
      exact of_pe (s_dct k1 (soEs es k2 g) k5 k3 k4) rfl fun _ => rfl
    · cases h
  | .idx a b, c, X, wx, k, h, g => by
    simp only [ck] at h
    split at h
    · simp only [Bool.and_eq_true] at h
      exact of_pe (s_idx g h.1.1 (soE a h.1.2 g).1 (soE b h.2 g).1) rfl fun _ => rfl
    · cases h
  | .slc a lo hi, c, X, wx, k, h, g => by
    simp only [ck] at h
    split at h
    · simp only [Bool.and_eq_true] at h
      exact of_pe (s_slc (soE a h.1.1 g).1 (soEo lo h.1.2 g) (soEo hi h.2 g)) rfl fun _ => rfl
    · cases h
  | .rev a, c, X, wx, k, h, g => by
    simp only [ck] at h
    split at h
    · simp only [Bool.and_eq_true, beq_iff_eq] at h
      obtain ⟨h1, h2⟩ := h
      subst h2
      exact of_pe (s_rev (soE a h1 g).1) rfl fun _ => rfl
    · cases h
  | .isi t a, c, X, wx, k, h, g => by
    simp only [ck] at h
    split at h
    · simp only [Bool.and_eq_true] at h
      exact of_pe (s_isi g h.1.1 h.1.2 (ck_ne h.2) (soE a h.2 g).1) rfl fun _ => rfl
    · cases h
  | .call f es, c, X, wx, k, h, g => by
    simp only [ck] at h
    split at h
    · simp only [Bool.and_eq_true] at h
      exact of_pe (s_call g h.1.1.1 h.1.1.2 (fnC_eq h.1.2) h.2 (soEs es h.2 g)) rfl fun _ => rfl
    · cases h
  | .callK f perm es, c, X, wx, k, h, g => by
    simp only [ck] at h
    split at h
    · simp only [Bool.and_eq_true] at h
      obtain ⟨⟨⟨⟨k1, k2⟩, k3⟩, k4⟩, k5⟩ := h
      split at k4
      · rename_i ks hn
        obtain ⟨t, ht, h2⟩ := List.any_eq_true.mp k4
        simp only [Bool.and_eq_true, beq_iff_eq, decide_eq_true_eq] at h2
        obtain ⟨⟨⟨a1, a2⟩, a3⟩, a4⟩ := h2
        have e : t = (f, ks, perm) := by
          obtain ⟨t1, t2, t3⟩ := t
          simp only at a1 a2 a3
          rw [a1, strsEq_eq a2, a3]
        exact of_pe (s_callK g k1 k2 (fnC_eq k3) hn (e ▸ ht) a4 (soKw es k5 g)) rfl fun _ => rfl
      · cases k4
    · cases h
  | .blt f es, c, X, wx, k, h, g => by
    simp only [ck] at h
    split at h
    · simp only [Bool.and_eq_true] at h
      exact of_pe (s_blt g h.1.1.1 h.1.1.2 (fun z => by rw [z] at h; simp at h) h.1.2 (soEs es h.1.2 g)) rfl fun _ => rfl
    · cases h
  | .mth m o es, c, X, wx, k, h, g => by
    simp only [ck] at h
    split at h
    · simp only [Bool.and_eq_true] at h
      obtain ⟨⟨⟨⟨k1, k2⟩, k3⟩, k4⟩, k5⟩ := h
      split at k1
      · simp only [Bool.and_eq_true, decide_eq_true_eq] at k1
        have ho := (soE o k2 g).1
        have ha := soEs es k3 g
        cases ha with
        | nil => simp at k1
        | cons a1 a2 a3 =>
          cases a3 with
          | nil => exact of_pe (s_app g k5 (strEq_eq k1.1) k4 a1 ho a2) rfl fun _ => rfl
          | cons _ _ _ => simp at k1
      · simp only [Bool.and_eq_true, decide_eq_true_eq] at k1
        have ho := (soE o k2 g).1
        have ha := soEs es k3 g
        cases ha with
        | nil => simp at k1
        | cons a1 a2 a3 =>
          cases a3 with
          | nil => exact of_pe (s_ci g k5 (m := .count) rfl (strEq_eq k1.1) k4 a1 ho a2) rfl fun _ => rfl
          | cons _ _ _ => simp at k1
      · simp only [Bool.and_eq_true, decide_eq_true_eq] at k1
        have ho := (soE o k2 g).1
        have ha := soEs es k3 g
        cases ha with
        | nil => simp at k1
        | cons a1 a2 a3 =>
          cases a3 with
          | nil => exact of_pe (s_ci g k5 (m := .index) rfl (strEq_eq k1.1) k4 a1 ho a2) rfl fun _ => rfl
          | cons _ _ _ => simp at k1
      · cases k1
    · cases h
  | .newT, c, X, wx, k, h, g => by
    simp only [ck] at h
    split at h
    · exact of_pe s_newT rfl fun _ => rfl
    · cases h
  | .newN, c, X, wx, k, h, g => by
    simp only [ck] at h
    split at h
    · exact of_pe s_newN rfl fun _ => rfl
    · cases h
  | .getT o es d, c, X, wx, k, h, g => by
    simp only [ck] at h
    split at h
    · simp only [Bool.and_eq_true, decide_eq_true_eq] at h
      obtain ⟨⟨⟨⟨⟨k1, k2⟩, k3⟩, k4⟩, k5⟩, k6⟩ := h
      exact of_pe (s_getT g (strEq_eq k1) k6 (ck_ne k5) (soE o k2 g).1 (s_tupT k4 k3 (soEs es k3 g).pa) (soE d k5 g).1) rfl fun _ => rfl
    · cases h
  | .idxT o es, c, X, wx, k, h, g => by
    simp only [ck] at h
    split at h
    · simp only [Bool.and_eq_true, decide_eq_true_eq] at h
      exact of_pe (s_idxT g (soE o h.1.1 g).1 (s_tupT h.2 h.1.2 (soEs es h.1.2 g).pa)) rfl fun _ => rfl
    · cases h
  | .comp own tg src ifs elt, c, X, wx, k, h, g => by
    simp only [ck] at h
    split at h
    · simp only [Bool.and_eq_true] at h
      obtain ⟨⟨⟨⟨⟨k1, k2⟩, k3⟩, k4⟩, k5⟩, k6⟩ := h
      exact of_comp (s_compOk g k1 k2 (soSrc src k4 g) (fun X' g' => s_tg g' k3) (fun X' g' => soIf ifs k5 g') (fun X' g' => (soE elt k6 g').1) (noSet k4)) fun _ => rfl
    · cases h
  | .comp2 own own1 tg src ifs tg1 src1 ifs1 elt, c, X, wx, k, h, g => by
    simp only [ck] at h
    split at h
    · simp only [Bool.and_eq_true] at h
      obtain ⟨⟨⟨⟨⟨⟨⟨⟨⟨⟨k1, k2⟩, k3⟩, k4⟩, k5⟩, k6⟩, k7⟩, k8⟩, k9⟩, k10⟩, k11⟩ := h
      exact of_comp (s_comp2 g k1 k2 k3 k4 (soSrc src k6 g) (fun X' g' => s_tg g' k5) (fun X' g' => soIf ifs k7 g') (fun X' g' => soSrc src1 k9 g') (fun X' g' => s_tg g' k8) (fun X' g' => soIf ifs1 k10 g') (fun X' g' => (soE elt k11 g').1) (noSet k6) (noSet k9)) fun _ => rfl
    · cases h
  | .comp3 own own1 own2 tg src tg1 src1 tg2 src2 elt, c, X, wx, k, h, g => by
    simp only [ck] at h
    split at h
    · simp only [Bool.and_eq_true] at h
      obtain ⟨⟨⟨⟨⟨⟨⟨⟨⟨⟨⟨⟨k1, k2⟩, k3⟩, k4⟩, k5⟩, k6⟩, k7⟩, k8⟩, k9⟩, k10⟩, k11⟩, k12⟩, k13⟩ := h
      exact of_comp (s_comp3 g k1 k2 k3 k4 k5 k6 (soSrc src k8 g) (fun X' g' => s_tg g' k7) (fun X' g' => soSrc src1 k10 g') (fun X' g' => s_tg g' k9) (fun X' g' => soSrc src2 k12 g') (fun X' g' => s_tg g' k11) (fun X' g' => (soE elt k13 g').1) (noSet k8) (noSet k10) (noSet k12)) fun _ => rfl
    · cases h
  | .lrng a b, c, X, wx, k, h, g => by
    simp only [ck] at h
    split at h
    · simp only [Bool.and_eq_true] at h
      exact of_pe (s_lrng g h.1.1.1 h.1.1.2 (ck_ne h.1.2) (ck_ne h.2) (soE a h.1.2 g).1 (soE b h.2 g).1) rfl fun _ => rfl
    · cases h
  | .lzip a b, c, X, wx, k, h, g => by
    simp only [ck] at h
    split at h
    · simp only [Bool.and_eq_true] at h
      exact of_pe (s_lzip g h.1.1.1 h.1.1.2 (ck_ne h.1.2) (ck_ne h.2) (soE a h.1.2 g).1 (soE b h.2 g).1) rfl fun _ => rfl
    · cases h
theorem soEs : (es : Es) → ∀ {c : Ck} {X : Cx} {wx : WX} {xs : List Expr}, ckEs c es xs = true → Good X C cl n c wx → AE X C cl wx xs es
  | .nil, c, X, wx, xs, h, g => by
    cases xs with
    | nil => exact .nil
    | cons x xs => cases h
  | .cons e es, c, X, wx, xs, h, g => by
    cases xs with
    | nil => cases h
    | cons x xs =>
      simp only [ckEs, Bool.and_eq_true] at h
      exact .cons (ck_ne h.1) (soE e h.1 g).1 (soEs es h.2 g)
theorem soKw : (es : Es) → ∀ {c : Ck} {X : Cx} {wx : WX} {kws : List Keyword}, ckKw c es kws = true → Good X C cl n c wx → PK X kws (tEs X C cl wx es)
  | .nil, c, X, wx, kws, h, g => by
    cases kws with
    | nil => exact s_knil
    | cons x xs => cases h
  | .cons e es, c, X, wx, kws, h, g => by
    match kws, h with
    | ⟨some y, x, q⟩ :: xs, h =>
      simp only [ckKw, Bool.and_eq_true] at h
      exact s_kcons (soE e h.1 g).1 (soKw es h.2 g)
    | ⟨none, x, q⟩ :: xs, h => cases h
    | [], h => cases h
theorem soEo : (e : Eo) → ∀ {c : Ck} {X : Cx} {wx : WX} {x : Option Expr}, ckEo c e x = true → Good X C cl n c wx → PO X x (tEo X C cl wx e)
  | .none, c, X, wx, x, h, g => by
    cases x with
    | none => exact s_eo0
    | some x => cases h
  | .some e, c, X, wx, x, h, g => by
    cases x with
    | none => cases h
    | some x =>
      have h' : ck c e (.ex x) = true := by simpa [ckEo] using h
      exact s_eo1 (soE e h' g).1
theorem soIf : (e : Eo) → ∀ {c : Ck} {X : Cx} {wx : WX} {xs : List Expr}, ckIf c e xs = true → Good X C cl n c wx → PTs X xs (tIf X C cl wx e)
  | .none, c, X, wx, xs, h, g => by
    cases xs with
    | nil => exact s_if0
    | cons x xs => cases h
  | .some e, c, X, wx, xs, h, g => by
    match xs, h with
    | [x], h =>
      have h' : ck c e (.ex x) = true := by simpa [ckIf] using h
      exact s_if1 (soE e h' g).2.1
    | [], h => cases h
    | _ :: _ :: _, h => cases h
theorem soSrc : (s : Src) → ∀ {c : Ck} {X : Cx} {wx : WX} {x tg : Expr}, ckSrc c s x tg = true → Good X C cl n c wx → PI X tg x (tSrc X C cl wx s)
  | .of e, c, X, wx, x, tg, h, g => by
    have h' : ck c e (.ex x) = true := by simpa [ckSrc] using h
    exact s_of (soE e h' g).1
  | .rng e, c, X, wx, x, tg, h, g => by
    simp only [ckSrc] at h
    split at h
    · simp only [Bool.and_eq_true] at h
      exact s_rng g h.1 (ck_ne h.2) (soE e h.2 g).1
    · cases h
  | .rng2 a b, c, X, wx, x, tg, h, g => by
    simp only [ckSrc] at h
    split at h
    · simp only [Bool.and_eq_true] at h
      exact s_rng2 g h.1.1 (ck_ne h.1.2) (ck_ne h.2) (soE a h.1.2 g).1 (soE b h.2 g).1
    · cases h
  | .enum e, c, X, wx, x, tg, h, g => by
    simp only [ckSrc] at h
    split at h
    · simp only [Bool.and_eq_true] at h
      obtain ⟨⟨h1, h2⟩, h3⟩ := h
      cases tg with
      | Tuple elts kk tpos => exact s_enum g h1 (ck_ne h2) (soE e h2 g).1
      | _ => simp [isTupX] at h3
    · cases h
  | .zip a b, c, X, wx, x, tg, h, g => by
    simp only [ckSrc] at h
    split at h
    · simp only [Bool.and_eq_true] at h
      obtain ⟨⟨⟨h1, h2⟩, h4⟩, h3⟩ := h
      cases tg with
      | Tuple elts kk tpos => exact s_zip g h1 (ck_ne h2) (ck_ne h4) (soE a h2 g).1 (soE b h4 g).1
      | _ => simp [isTupX] at h3
    · cases h
  | .rev e, c, X, wx, x, tg, h, g => by
    simp only [ckSrc] at h
    split at h
    · simp only [Bool.and_eq_true] at h
      exact s_rev' g h.1.1 h.1.2 (ck_ne h.2) (soE e h.2 g).1
    · cases h
  | .revA e, c, X, wx, x, tg, h, g => by
    simp only [ckSrc] at h
    split at h
    · simp only [Bool.and_eq_true] at h
      exact s_revA g h.1 (ck_ne h.2) (soE e h.2 g).1
    · cases h
end
end
end Mx
end

section
set_option Elab.async false
set_option linter.all false
set_option maxRecDepth 100000
set_option autoImplicit false
set_option maxHeartbeats 4000000
namespace Mx
open PySem L2 PySem.Spec PyProof.Rows
variable [WW]
/-! ### statements -/
def PostO (K : PySem.W.Frag) (H : Hp) (L Z : List Addr) (wo : Nat → List P → L2.St → Hp → Prop) (D : Ends) (o : O) : Prop := match o with
  | .stuck => False
  | .next env S => ∀ H1 L1 σ1, Ext H L H1 L1 → At K H1 L1 Z S σ1 env → D.nx σ1 H1
  | .ret d S => ∀ H1 L1 v, Ext H L H1 L1 → StR K H1 L1 Z S → RD K H1 L1 Z v d → D.rt v H1
  | .brk env S => ∀ H1 L1 σ1, Ext H L H1 L1 → At K H1 L1 Z S σ1 env → D.bk σ1 H1
  | .cont env S => ∀ H1 L1 σ1, Ext H L H1 L1 → At K H1 L1 Z S σ1 env → D.ct σ1 H1
  | .exc k fs env S => ∀ H1 L1 σ1, Ext H L H1 L1 → At K H1 L1 Z S σ1 env → wo k fs σ1 H1
def wO (cl : Nat → Value) (wx : WX) : Nat → List P → L2.St → Hp → Prop := fun k fs σ H => fs = [] ∧ wx (cl k) none σ H
section
variable {K : PySem.W.Frag} {H H1 : Hp} {L L1 Z : List Addr} {D D' : Ends} {cl : Nat → Value} {wx : WX} {S : Sto} {σ : L2.St} {env : Env}
theorem PostO.later {wo : Nat → List P → L2.St → Hp → Prop} {o : O} (h : PostO K H L Z wo D o) (e : Ext H L H1 L1) : PostO K H1 L1 Z wo D o := by
  cases o with
  | stuck => exact h
  | next env S => exact fun H2 L2 v e2 a => h H2 L2 v (e.trans e2) a
  | ret d S => exact fun H2 L2 v e2 s r => h H2 L2 v (e.trans e2) s r
  | brk env S => exact fun H2 L2 v e2 a => h H2 L2 v (e.trans e2) a
  | cont env S => exact fun H2 L2 v e2 a => h H2 L2 v (e.trans e2) a
  | exc k fs env S => exact fun H2 L2 v e2 a => h H2 L2 v (e.trans e2) a
/-- an expression, then the rest -/
theorem obind {β γ : Type} {rel : Hp → List Addr → γ → β → Prop} {r : R β} {f : β → Sto → O} {Q : γ → Hp → Prop} (a : EnvR K H L Z σ env) (h : PostO K H L Z (wO cl wx) D (r.obind env f))
    (k : ∀ b S1 H1 L1 v, Ext H L H1 L1 → StR K H1 L1 Z S1 → rel H1 L1 v b → PostO K H1 L1 Z (wO cl wx) D (f b S1) → Q v H1) : Post K H L Z (wE cl (L2.WE wx σ)) rel r Q := by
  cases r with
  | stuck => exact h
  | ok b S => exact fun H2 L2 v e2 s r => k b S H2 L2 v e2 s r (PostO.later (o := f b S) h e2)
  | exc c fs S => exact fun H2 L2 e2 s => h H2 L2 σ e2 ⟨s, a.ext e2⟩
theorem PostO.nx {wo : Nat → List P → L2.St → Hp → Prop} (h : PostO K H L Z wo D (.next env S)) (a : At K H L Z S σ env) : D.nx σ H := h H L σ Ext.refl a
end
section
variable {X : Cx} {C : Nat → List D → Sto → R D} {cl : Nat → Value} {n : Nat} {c : Ck} {wx : WX} {w : Nat}
variable (X C cl wx w)
abbrev tS (s : St') : TS := fun D σ H => ∃ L Z S env, At X.K H L Z S σ env ∧ PostO X.K H L Z (wO cl wx) D (evS C w s env S)
abbrev tSs (s : Sts) : TS := fun D σ H => ∃ L Z S env, At X.K H L Z S σ env ∧ PostO X.K H L Z (wO cl wx) D (evSs C w s env S)
variable {X C cl wx w}
theorem _root_.L2.PS.imp {X : Cx} {s : Stmt} {t t' : TS} (h : PS X s t) (k : ∀ D σ H, t' D σ H → t D σ H) : PS X s t' := ⟨fun pins s σ H D I q => h.run pins s σ H D I (k D σ H q)⟩
theorem _root_.L2.PSs.imp {X : Cx} {s : List Stmt} {t t' : TS} (h : PSs X s t) (k : ∀ D σ H, t' D σ H → t D σ H) : PSs X s t' := ⟨fun pins s σ H D I q => h.run pins s σ H D I (k D σ H q)⟩
theorem ss_nil : PSs X [] (tSs X C cl wx w .nil) := pss_nil.imp fun D σ H q => by
  obtain ⟨L, Z, S, env, at_, post⟩ := q
  simp only [evSs] at post
  exact post.nx at_
theorem ss_cons {s : St'} {r : Sts} {x : Stmt} {xs : List Stmt} (h1 : PS X x (tS X C cl wx w s)) (h2 : PSs X xs (tSs X C cl wx w r)) : PSs X (x :: xs) (tSs X C cl wx w (.cons s r)) := (pss_cons h1 h2).imp fun D σ H q => by
  obtain ⟨L, Z, S, env, at_, post⟩ := q
  simp only [evSs] at post
  refine ⟨L, Z, S, env, at_, ?_⟩
  cases ho : evS C w s env S with
  | stuck => rw [ho] at post; exact post
  | next e1 S1 =>
    rw [ho] at post
    exact fun H1 L1 σ1 e a => ⟨L1, Z, S1, e1, a, PostO.later (o := evSs C w r e1 S1) post e⟩
  | ret d S1 => rw [ho] at post; exact post
  | brk e1 S1 => rw [ho] at post; exact post
  | cont e1 S1 => rw [ho] at post; exact post
  | exc k fs e1 S1 => rw [ho] at post; exact post
/-! ### names stored -/
theorem sw_false (g : Good X C cl n c wx) {v : Expr} {y : Str} {py : Pos} {l : Nat} (h : swC c y py v = false) (h2 : isLC v = true → ∃ a b s p, v = .ListComp a b s p) : swapsWith v (some (.Name y py)) l X.env = pure false := by
  cases v with
  | ListComp a b s p =>
    have hk : X.env.scope.kind = .function := by rw [g.scope]; exact g.kfun
    have hb : X.env.blockKind = .function := by unfold Env.blockKind; rw [hk]; rfl
    have e1 : X.env.kindOf y = c.sc.names.lookup y := by show X.env.scope.names.lookup y = _; rw [g.scope]
    unfold swapsWith
    simp only [hb, Expr.pos, e1]
    unfold swC lonC at h
    simp only [Expr.pos] at h
    have : ((ScopeKind.function == ScopeKind.function) && (c.sc.names.lookup y == some .local) && (py.line == p.line) && !(s.names.any fun (n, k) => n == y && (k == .local || k == .cell))) = false := by
      rw [← h]
      cases hl : c.sc.names.lookup y with
      | none => rfl
      | some k => cases k <;> rfl
    first
      | (rw [this]; done)
      | (simp only [this]; rfl)
      | (show (pure _ : Sem Bool) = pure false; congr 1)
  | SetComp a b s p => obtain ⟨_, _, _, _, h⟩ := h2 rfl; cases h
  | DictComp a b d s p => obtain ⟨_, _, _, _, h⟩ := h2 rfl; cases h
  | _ => rfl
theorem sw_true' (g : Good X C cl n c wx) {v : Expr} {y : Str} {py : Pos} {l : Nat} (h : swC c y py v = true) : swapsWith v (some (.Name y py)) l X.env = pure true := by
  cases v with
  | ListComp a b s p =>
    unfold swC at h
    simp only [Bool.and_eq_true, Bool.not_eq_true'] at h
    exact sw_true (by rw [g.scope]; exact g.kfun) (g.lon h.1.1) h.1.2 h.2
  | _ => cases h
theorem lc_of_ck {e : E} {x : Expr} (h : ck c e (.ex x) = true) (hl : isLC x = true) : ∃ a b s p, x = .ListComp a b s p := by
  cases x with
  | ListComp a b s p => exact ⟨_, _, _, _, rfl⟩
  | SetComp a b s p =>
    exfalso
    have key : ∀ e : E, ck c e (.ex (.SetComp a b s p)) = false := by
      intro e
      induction e using E.rec (motive_2 := fun _ => True) (motive_3 := fun _ => True) (motive_4 := fun _ => True) with
      | mk e ih => simp only [ck]; rw [ih]; simp
      | _ => first | trivial | rfl | simp [ck]
    rw [key] at h; cases h
  | DictComp a b d s p =>
    exfalso
    have key : ∀ e : E, ck c e (.ex (.DictComp a b d s p)) = false := by
      intro e
      induction e using E.rec (motive_2 := fun _ => True) (motive_3 := fun _ => True) (motive_4 := fun _ => True) with
      | mk e ih => simp only [ck]; rw [ih]; simp
      | _ => first | trivial | rfl | simp [ck]
    rw [key] at h; cases h
  | _ => cases hl
theorem lcC_none {v : Expr} (h : isLC v = false) (t : Option Expr) (l : Nat) (env : PySem.Env) : swapsWith v t l env = pure false := by
  cases v <;> first | rfl | cases h
theorem st_asg (g : Good X C cl n c wx) {i : Nat} {x : Str} {v : Expr} {e : E} {px pos : Pos} (h1 : slotC c i x = true) (h2 : locC c x = true) (hk : ck c e (.ex v) = true) (hv : KdOk C cl X wx e (.ex v)) :
    PS X (.Assign [.Name x px] v pos) (tS X C cl wx w (.asg (.nm i) e)) := by
  have go : ∀ {T : TE}, (∀ σ H Q, tE X C cl wx e σ H Q → T σ H Q) → ∀ D σ H, tS X C cl wx w (.asg (.nm i) e) D σ H → tAsg T (gName i) D σ H := by
    intro T hT D σ H q
    obtain ⟨L, Z, S, env, at_, post⟩ := q
    simp only [evS] at post
    refine hT _ _ _ ⟨L, Z, S, env, at_, obind at_.env post fun d S1 H1 L1 v e1 s1 r1 q1 => ?_⟩
    exact PostO.nx (show PostO X.K H1 L1 Z _ D (.next (env.set i (some d)) S1) from q1) ⟨s1, (at_.env.ext e1).set r1⟩
  have hl := g.loc h2
  cases hs : swC c x px v with
  | true =>
    have lc : isLC v = true := by cases v <;> first | rfl | cases hs
    obtain ⟨T, k1, k2, k3⟩ := hv.2.2 lc
    have ll : X.env.scope.names.lookup x = some .local := by
      obtain ⟨a, b, s, p, rfl⟩ := lc_of_ck hk lc
      unfold swC at hs
      simp only [Bool.and_eq_true] at hs
      exact g.lon hs.1.1
    exact (k3 (g.slot h1) ll (sw_true' g hs)).imp (go k1)
  | false => exact (ps_set g.nd (g.slot h1) hl.1 hv.1 (sw_false g hs (lc_of_ck hk)) hl.2).imp (go fun _ _ _ q => q)
theorem sw_folded {ts vs : List Expr} {k k2 : Nat} {px p2 : Pos} {env : PySem.Env} (h : vs.all (foldedForSure 8) = true) : swappedStores [.Tuple ts k px] (.Tuple vs k2 p2) env = pure none := by
  unfold swappedStores
  simp only [h, if_true]
  repeat' (first | rfl | split)
theorem filt_ne {α β : Type} {f : α → Option β} {ts : List α} {t : α} (ht : t ∈ ts) (h : f t = none) : (ts.filterMap f).length ≠ ts.length := by
  induction ts with
  | nil => cases ht
  | cons a ts ih =>
    have hle := List.length_filterMap_le f ts
    rcases List.mem_cons.mp ht with rfl | ht
    · simp only [List.filterMap_cons, h, List.length_cons]; omega
    · have := ih ht
      rw [List.filterMap_cons]
      split <;> simp only [List.length_cons] <;> omega
theorem sw_cell (g : Good X C cl n c wx) {ts vs : List Expr} {k k2 : Nat} {px p2 : Pos} (h : ts.any (notLon c) = true) : swappedStores [.Tuple ts k px] (.Tuple vs k2 p2) X.env = pure none := by
  obtain ⟨t, ht, hn⟩ := List.any_eq_true.mp h
  unfold swappedStores
  simp only []
  split
  · rfl
  split
  · rfl
  rw [if_pos ?_]
  rw [Bool.or_eq_true]
  left
  rw [bne_iff_ne]
  refine filt_ne ht ?_
  cases t with
  | Name x p =>
    have hk : X.env.kindOf x ≠ some .local := fun e => by
      have e' : c.sc.names.lookup x = some .local := by rw [← g.scope]; exact e
      simp only [notLon, lonC, e', Bool.not_true] at hn
      cases hn
    have hk' : (X.env.kindOf x == some .local) = false := beq_eq_false_iff_ne.mpr hk
    simp only [hk', Bool.false_and, Bool.false_eq_true, if_false]
  | _ => rfl
theorem st_tup (g : Good X C cl n c wx) {is : List Nat} {ts : List Expr} {v : Expr} {e : E} {k : Nat} {px pos : Pos} (h1 : namesC c is ts = true) (hl : isLC v = false) (ht : (notTup v || ts.any (notLon c)) = true) (hv : PE X v (tE X C cl wx e)) :
    PS X (.Assign [.Tuple ts k px] v pos) (tS X C cl wx w (.asg (.tp is) e)) := by
  obtain ⟨k1, k2, k3⟩ := s_names g h1
  have hw : swappedStores [.Tuple ts k px] v X.env = pure none := by
    rw [Bool.or_eq_true] at ht
    rcases ht with ht | ht
    · cases v <;> first | rfl | exact sw_folded ht
    · cases v <;> first | rfl | exact sw_cell g ht
  have hsw : swapsWithSole [.Tuple ts k px] v pos.line X.env = pure false := lcC_none hl (some (.Tuple ts k px)) pos.line X.env
  refine (ps_asg hv (pg_tup g.calm k1 k2 k3) hsw hw rfl).imp fun D σ H q => ?_
  obtain ⟨L, Z, S, env, at_, post⟩ := q
  simp only [evS] at post
  refine ⟨L, Z, S, env, at_, obind at_.env post fun d S1 H1 L1 v e1 s1 r1 q1 => ?_⟩
  unfold bindO at q1
  split at q1
  · rename_i env1 hb
    exact gTg_ok (tg := .tp is) hb r1 (at_.env.ext e1) fun σ1 _ er => PostO.nx q1 ⟨s1, er⟩
  · exact (show False from q1).elim
/-! ### a, b = x, y -/
theorem blockF (g : Good X C cl n c wx) : X.env.blockKind = .function := by
  have hk : X.env.scope.kind = .function := by rw [g.scope]; exact g.kfun
  unfold Env.blockKind; rw [hk]; rfl
theorem any_no {l : List Expr} (h : l.all notStar = true) (f : Expr → Bool) (hf : ∀ x, notStar x = true → f x = false) : l.any f = false := by
  induction l with
  | nil => rfl
  | cons x l ih =>
    simp only [List.all_cons, Bool.and_eq_true] at h
    simp only [List.any_cons, hf x h.1, ih h.2, Bool.or_false]
theorem par2 (g : Good X C cl n c wx) {x y : Str} {px py pt pt2 : Pos} {a b : Expr} {k k2 : Nat} (hx : lonC c x = true) (hy : lonC c y = true) (hxy : x ≠ y) (hl : (px.line == py.line) = true) (hs : [a, b].all notStar = true)
    (h1 : (!(foldedForSure 8 a && foldedForSure 8 b)) = true) (h2 : (!(constantsAlone 8 a && constantsAlone 8 b)) = true) : swappedStores [.Tuple [.Name x px, .Name y py] k pt] (.Tuple [a, b] k2 pt2) X.env = pure (some [x, y]) := by
  have e1 : X.env.kindOf x = some .local := g.lon hx
  have e2 : X.env.kindOf y = some .local := g.lon hy
  have hl' : (py.line == px.line) = true := by
    rw [beq_iff_eq] at hl ⊢
    exact hl.symm
  have hne : (y == x) = false := beq_eq_false_iff_ne.mpr fun e => hxy e.symm
  simp only [Bool.not_eq_true'] at h1 h2
  unfold swappedStores
  simp only [blockF g, List.head?, Option.map, Expr.pos, Option.getD, List.filterMap, e1, e2, hl', List.length_cons, List.length_nil, List.all_cons, List.all_nil, Bool.and_true, h1, h2]
  rw [any_no hs _ (by intro z hz; cases z <;> first | rfl | cases hz)]
  simp
  intro h
  exfalso
  apply h
  have q : (y == x) = false := beq_eq_false_iff_ne.mpr (Ne.symm hxy)
  simp [List.eraseDups_cons, List.filter, q]
theorem par3 (g : Good X C cl n c wx) {x y z : Str} {px py pz pt pt2 : Pos} {a b d : Expr} {k k2 : Nat} (hx : lonC c x = true) (hy : lonC c y = true) (hz : lonC c z = true) (hxy : x ≠ y) (hxz : x ≠ z) (hyz : y ≠ z) (hl : (px.line == py.line) = true) (hl2 : (px.line == pz.line) = true) (hs : [a, b, d].all notStar = true)
    (h1 : (!(foldedForSure 8 a && foldedForSure 8 b && foldedForSure 8 d)) = true) (h2 : (!(constantsAlone 8 a && constantsAlone 8 b && constantsAlone 8 d)) = true) :
    swappedStores [.Tuple [.Name x px, .Name y py, .Name z pz] k pt] (.Tuple [a, b, d] k2 pt2) X.env = pure (some [x, y, z]) := by
  have e1 : X.env.kindOf x = some .local := g.lon hx
  have e2 : X.env.kindOf y = some .local := g.lon hy
  have e3 : X.env.kindOf z = some .local := g.lon hz
  have hl' : (py.line == px.line) = true := by
    rw [beq_iff_eq] at hl ⊢
    exact hl.symm
  have hl3 : (pz.line == px.line) = true := by
    rw [beq_iff_eq] at hl2 ⊢
    exact hl2.symm
  have n1 : (y == x) = false := beq_eq_false_iff_ne.mpr fun e => hxy e.symm
  have n2 : (z == x) = false := beq_eq_false_iff_ne.mpr fun e => hxz e.symm
  have n3 : (z == y) = false := beq_eq_false_iff_ne.mpr fun e => hyz e.symm
  have h1' : (foldedForSure 8 a && (foldedForSure 8 b && foldedForSure 8 d)) = false := by
    revert h1
    generalize foldedForSure 8 a = p
    generalize foldedForSure 8 b = q
    generalize foldedForSure 8 d = r
    cases p <;> cases q <;> cases r <;> simp
  have h2' : (constantsAlone 8 a && (constantsAlone 8 b && constantsAlone 8 d)) = false := by
    revert h2
    generalize constantsAlone 8 a = p
    generalize constantsAlone 8 b = q
    generalize constantsAlone 8 d = r
    cases p <;> cases q <;> cases r <;> simp
  unfold swappedStores
  simp only [blockF g, List.head?, Option.map, Expr.pos, Option.getD, List.filterMap, e1, e2, e3, hl', hl3, List.length_cons, List.length_nil, List.all_cons, List.all_nil, Bool.and_true, h1', h2']
  rw [any_no hs _ (by intro z hz; cases z <;> first | rfl | cases hz)]
  simp
  intro h
  exfalso
  apply h
  have q1 : (y == x) = false := beq_eq_false_iff_ne.mpr (Ne.symm hxy)
  have q2 : (z == x) = false := beq_eq_false_iff_ne.mpr (Ne.symm hxz)
  have q3 : (z == y) = false := beq_eq_false_iff_ne.mpr (Ne.symm hyz)
  simp [List.eraseDups_cons, List.filter, q1, q2, q3]
end
end Mx
end

section
set_option Elab.async false
set_option linter.all false
set_option maxRecDepth 100000
set_option autoImplicit false
set_option maxHeartbeats 4000000
namespace Mx
open PySem L2 PySem.Spec PyProof.Rows
variable [WW]
section
variable {X : Cx} {C : Nat → List D → Sto → R D} {cl : Nat → Value} {n : Nat} {c : Ck} {wx : WX} {w : Nat}
theorem tup3 {K : PySem.W.Frag} {H : Hp} {L Z : List Addr} {vs : List V} {a b d : D} (r : RDL K H L Z vs [a, b, d]) : ∃ x y z, vs = [x, y, z] ∧ RD K H L Z x a ∧ RD K H L Z y b ∧ RD K H L Z z d := by
  cases r with
  | cons h1 r => cases r with
    | cons h2 r => cases r with
      | cons h3 r => cases r; exact ⟨_, _, _, rfl, h1, h2, h3⟩
theorem st_par2 (g : Good X C cl n c wx) {i j : Nat} {x y : Str} {px py pt pt2 pos : Pos} {a b : Expr} {es : Es} {k k2 : Nat} (h1 : slotC c i x = true) (h2 : slotC c j y = true) (hx : lonC c x = true) (hy : lonC c y = true) (hij : i ≠ j) (hl : (px.line == py.line) = true)
    (f1 : (!(foldedForSure 8 a && foldedForSure 8 b)) = true) (f2 : (!(constantsAlone 8 a && constantsAlone 8 b)) = true) (hc : ckEs c es [a, b] = true) (ha : AE X C cl wx [a, b] es) :
    PS X (.Assign [.Tuple [.Name x px, .Name y py] k pt] (.Tuple [a, b] k2 pt2) pos) (tS X C cl wx w (.par [i, j] es)) := by
  have hxy : x ≠ y := fun e => hij (nodup_ix g.nd (g.slot h1) (e ▸ g.slot h2))
  refine (ps_par g.calm g.nd (g.slot h1) (g.slot h2) hij (g.lon hx) (g.lon hy) ha.pa (par2 g hx hy hxy hl (ckEs_star hc) f1 f2) rfl).imp fun D σ H q => ?_
  obtain ⟨L, Z, S, env, at_, post⟩ := q
  simp only [evS] at post
  refine ⟨L, Z, S, env, at_, obind at_.env post fun ds S1 H1 L1 vs e1 s1 r1 q1 => ?_⟩
  split at q1
  · rename_i env1 hm
    match ds, r1, hm with
    | [d1, d2], r1, hm =>
      obtain ⟨v1, v2, rfl, k1, k2⟩ := (show RDL X.K H1 L1 Z vs [d1, d2] from r1).two
      simp only [setMany, Option.some.injEq] at hm
      subst hm
      exact ⟨v1, v2, rfl, PostO.nx q1 ⟨s1, ((at_.env.ext e1).set k1).set k2⟩⟩
    | [], _, hm => simp [setMany] at hm
    | [_], _, hm => simp [setMany] at hm
    | _ :: _ :: _ :: _, _, hm => simp [setMany] at hm
  · exact (show False from q1).elim
theorem st_par3 (g : Good X C cl n c wx) {i j l : Nat} {x y z : Str} {px py pz pt pt2 pos : Pos} {a b d : Expr} {es : Es} {k k2 : Nat} (h1 : slotC c i x = true) (h2 : slotC c j y = true) (h3 : slotC c l z = true) (hx : lonC c x = true) (hy : lonC c y = true) (hz : lonC c z = true)
    (hij : i ≠ j) (hil : i ≠ l) (hjl : j ≠ l) (hl : (px.line == py.line) = true) (hl2 : (px.line == pz.line) = true)
    (f1 : (!(foldedForSure 8 a && foldedForSure 8 b && foldedForSure 8 d)) = true) (f2 : (!(constantsAlone 8 a && constantsAlone 8 b && constantsAlone 8 d)) = true) (hc : ckEs c es [a, b, d] = true) (ha : AE X C cl wx [a, b, d] es) :
    PS X (.Assign [.Tuple [.Name x px, .Name y py, .Name z pz] k pt] (.Tuple [a, b, d] k2 pt2) pos) (tS X C cl wx w (.par [i, j, l] es)) := by
  have hxy : x ≠ y := fun e => hij (nodup_ix g.nd (g.slot h1) (e ▸ g.slot h2))
  have hxz : x ≠ z := fun e => hil (nodup_ix g.nd (g.slot h1) (e ▸ g.slot h3))
  have hyz : y ≠ z := fun e => hjl (nodup_ix g.nd (g.slot h2) (e ▸ g.slot h3))
  refine (ps_par3 g.calm g.nd (g.slot h1) (g.slot h2) (g.slot h3) hij hil hjl (g.lon hx) (g.lon hy) (g.lon hz) ha.pa (par3 g hx hy hz hxy hxz hyz hl hl2 (ckEs_star hc) f1 f2) rfl).imp fun D σ H q => ?_
  obtain ⟨L, Z, S, env, at_, post⟩ := q
  simp only [evS] at post
  refine ⟨L, Z, S, env, at_, obind at_.env post fun ds S1 H1 L1 vs e1 s1 r1 q1 => ?_⟩
  split at q1
  · rename_i env1 hm
    match ds, r1, hm with
    | [d1, d2, d3], r1, hm =>
      obtain ⟨v1, v2, v3, rfl, k1, k2, k3⟩ := tup3 (show RDL X.K H1 L1 Z vs [d1, d2, d3] from r1)
      simp only [setMany, Option.some.injEq] at hm
      subst hm
      exact ⟨v1, v2, v3, rfl, PostO.nx q1 ⟨s1, (((at_.env.ext e1).set k1).set k2).set k3⟩⟩
    | [], _, hm => simp [setMany] at hm
    | [_], _, hm => simp [setMany] at hm
    | [_, _], _, hm => simp [setMany] at hm
    | _ :: _ :: _ :: _ :: _, _, hm => simp [setMany] at hm
  · exact (show False from q1).elim
/-! ### o[i] = v -/
def rSetN [WW] (K : PySem.W.Frag) : V → V → V → Hp → (Hp → Prop) → Prop := fun o i v H Q => ∃ L Z a b xs ks z, o = .ref a ∧ i = .ref b ∧ H a = some (DictN WW.w a xs) ∧ RpL K H L Z (xs.map fun x => V.ref x.2.1) ks ∧ xs.map (·.1) = ks.map nkP ∧ ks.all okN = true ∧ ks.Nodup ∧ ks.length < LIM ∧
  okN z = true ∧ Rp K H L Z (.ref b) z ∧ ∀ u, RelV v u → Q (upd H a (DictN WW.w a (storedH xs (nkP z) b u)))
theorem set_any (hu : X.A.units + 65 < cLine) (hw : WW.w = X.w) : PSet X (fun o i v H Q => rSetL o i v H Q ∨ rSetN X.K o i v H Q) := by
  intro pins s σ H o i v ov iv u Q I ro ri rv h
  rcases h with h | h
  · exact set_list pins s σ H o i v ov iv u Q I ro ri rv h
  · obtain ⟨L, Z, a, b, xs, ks, z, rfl, rfl, ha, r1, h2, h3, h4, hl, hz, hb, q⟩ := h
    cases ro
    cases ri
    obtain ⟨hs, hm⟩ := dict_of hw I ha r1 h2 h3 h4
    obtain ⟨b', e1, _, hk⟩ := key_is I hb hz (u := .ref b) rfl
    cases e1
    have room : (nestedKind X.prog X.w).room X.A.in1 := by show X.A.units + 1 + 8 < cLine; omega
    have hlx : xs.length = ks.length := by have := congrArg List.length h2; simpa using this
    have hsz : xs.length ≤ sizeLine := by rw [hlx]; exact Nat.le_trans (Nat.le_of_lt hl) (Nat.le_of_lt lim_lt)
    refine wpAny_setItem_heap (hsz := hsz) room hk hm fun h' hm' hs' => ⟨_, ?_, q u rv⟩
    obtain ⟨o, es, ep, e1, e2, e3, e4, _, _⟩ := hm'
    refine d_write I (by rw [ha]; exact True.intro) hs' ⟨o, e1⟩ ⟨⟨hs, o, es, ep, e1, e2, e3, ?_⟩, ⟨o, e1⟩, ?_⟩
    · rw [e4, hw]; rfl
    · rintro h1 h2 ⟨e0, o, es, ep, e1, e2, e3, e4⟩ k
      exact ⟨e0, o, es, ep, k _ e1, e2, e3, e4⟩
theorem wr_some {a i v : D} {S S' : Sto} (h : wr a i v S = some S') : (∃ k m x xs j, a = .mu k ∧ i = .p (.int m) ∧ v = .p x ∧ S[k]? = some (.lst xs) ∧ ixN xs.length m = some j ∧ S' = S.set k (.lst (xs.set j x))) ∨
    ∃ k ys x ks ps, a = .mu k ∧ i = .p (.tup ys) ∧ v = .p x ∧ S[k]? = some (.dN ks ps) ∧ okN (.tup ys) = true ∧ ks.length < LIM ∧ S' = S.set k (moreN ks ps (.tup ys) x) := by
  unfold wr at h
  split at h
  · rename_i k m x
    split at h
    · rename_i xs hk
      obtain ⟨j, hj, e⟩ := Option.map_eq_some_iff.mp h
      exact .inl ⟨k, m, x, xs, j, rfl, rfl, rfl, hk, hj, e.symm⟩
    · cases h
  · rename_i k ys x
    split at h
    · rename_i ks ps hk
      split at h
      · rename_i hc
        simp only [Bool.and_eq_true, decide_eq_true_eq] at hc
        cases h
        exact .inr ⟨k, ys, x, ks, ps, rfl, rfl, rfl, hk, hc.1, hc.2, rfl⟩
      · cases h
    · cases h
  · cases h
theorem st_set (g : Good X C cl n c wx) {ox ix vx : Expr} {o i v : E} {pt pos : Pos} (hi : plainIxC ix = true) (hl : isLC vx = false) (ho : PE X ox (tE X C cl wx o)) (hx : PE X ix (tE X C cl wx i)) (hv : PE X vx (tE X C cl wx v)) :
    PS X (.Assign [.Subscript ox ix pt] vx pos) (tS X C cl wx w (.set o i v)) := by
  have hsw : swapsWithSole [.Subscript ox ix pt] vx pos.line X.env = pure false := lcC_none hl (some (.Subscript ox ix pt)) pos.line X.env
  have hst : swappedStores [.Subscript ox ix pt] vx X.env = pure none := by cases vx <;> rfl
  refine (ps_asg hv (pg_sub ho hx (set_any (by have := g.units; omega) g.ww) (by intro u; cases ix <;> first | rfl | cases hi)) hsw hst rfl).imp fun D σ H q => ?_
  obtain ⟨L, Z, S, env, at_, post⟩ := q
  simp only [evS] at post
  refine ⟨L, Z, S, env, at_, obind at_.env post fun dv S1 H1 L1 vv e1 s1 r1 q1 => ?_⟩
  have a1 := at_.later e1 s1
  refine ⟨L1, Z, S1, env, a1, obind a1.env q1 fun dO S2 H2 L2 ov e2 s2 r2 q2 => ?_⟩
  have a2 := a1.later e2 s2
  refine ⟨L2, Z, S2, env, a2, obind a2.env q2 fun di S3 H3 L3 iv e3 s3 r3 q3 => ?_⟩
  split at q3
  · rename_i S4 hw
    have r13 := RD.ext e3 (RD.ext e2 r1)
    rcases wr_some hw with ⟨k, m, x, xs, j, rfl, rfl, rfl, hk, hj, rfl⟩ | ⟨k, ys, x, ks, ps, rfl, rfl, rfl, hk, hy, hlim, rfl⟩
    · cases r3.pI
      cases r2 with
      | mu hL =>
        rename_i a
        have hL3 := e3.pre _ _ hL
        obtain ⟨vs, ha, rl⟩ := s3.at_ _ a _ hL3 hk
        have rx : Rp X.K H3 L3 Z vv x := r13.pI
        refine .inl ⟨a, vs, m, j, rfl, rfl, ha, by rw [rl.len]; exact hj, ?_⟩
        have ew : Ext H3 L3 (upd H3 a (.lst (vs.set j vv))) L3 := Ext.write (List.mem_of_getElem? hL3)
        have sw := s3.wrote (o := .lst (vs.set j vv)) (m := .lst (xs.set j x)) hL3 ⟨_, upd_same, (RpL.set rx j rl).ext ew⟩
        exact q3 _ _ σ ew ⟨sw, ((a2.env.ext e3)).ext ew⟩
    · cases r2 with
      | mu hL =>
        rename_i a
        have hL3 := e3.pre _ _ hL
        obtain ⟨xs, vs, ha, h2, ⟨h3, h4, h5⟩, rk, hv, rl⟩ := s3.at_ _ a _ hL3 hk
        have rx : Rp X.K H3 L3 Z vv x := r13.pI
        have rb := r3.pI
        obtain ⟨b, bs, rfl, _, _⟩ := rb.tupI
        refine .inr ⟨L3, Z, a, b, xs, ks, .tup ys, rfl, rfl, ha, rk, h2, h3, h4, hlim, hy, rb, fun u ru => ?_⟩
        have ew : Ext H3 L3 (upd H3 a (DictN WW.w a (storedH xs (nkP (.tup ys)) b u))) L3 := Ext.write (List.mem_of_getElem? hL3)
        have sw := s3.wrote (o := DictN WW.w a (storedH xs (nkP (.tup ys)) b u)) (m := moreN ks ps (.tup ys) x) hL3
          (moreN_rel (rx.ext ew) (rb.ext ew) ru hy h2 ⟨h3, h4⟩ hlim (rk.ext ew) hv (rl.ext ew) upd_same)
        exact q3 _ _ σ ew ⟨sw, ((a2.env.ext e3)).ext ew⟩
  · exact (show False from q3).elim
/-! ### name op= e -/
def ipA (o : Bop) : TIp := fun x y H Q => ∃ i j p, x = .int i ∧ y = .int j ∧ augop o (.p (.int i)) (.p (.int j)) = some (.int p) ∧ Q (.int p) H
theorem ip_any (o : Bop) : PIp X (pyB o) (ipA o) := by
  intro pins s σ H x y v u Q I rx ry h
  obtain ⟨i, j, p, rfl, rfl, hp, q⟩ := h
  cases o with
  | add => cases hp; exact iop_add pins s σ H _ _ v u Q I rx ry ⟨i, j, rfl, rfl, q⟩
  | sub => cases hp; exact iop_sub pins s σ H _ _ v u Q I rx ry ⟨i, j, rfl, rfl, q⟩
  | mul =>
    simp only [augop] at hp
    split at hp
    · cases hp
      rename_i hb
      simp only [Bool.or_eq_true] at hb
      refine iop_mul pins s σ H _ _ v u Q I rx ry ⟨i, j, rfl, rfl, ?_, q⟩
      rcases hb with hb | hb
      · exact .inl (boundedI hb)
      · exact .inr (boundedI hb)
    · cases hp
  | fdiv =>
    simp only [augop] at hp
    split at hp
    · cases hp
      rename_i hc
      simp only [Bool.and_eq_true, decide_eq_true_eq] at hc
      exact iop_fdiv pins s σ H _ _ v u Q I rx ry ⟨i, j, rfl, rfl, hc, q⟩
    · cases hp
  | mod =>
    simp only [augop] at hp
    split at hp
    · cases hp
      rename_i hc
      exact iop_mod pins s σ H _ _ v u Q I rx ry ⟨i, j, rfl, rfl, hc, q⟩
    · cases hp
  | pow => cases hp
theorem augop_some {o : Bop} {a b : D} {p : P} (h : augop o a b = some p) : ∃ i j k, a = .p (.int i) ∧ b = .p (.int j) ∧ p = .int k := by
  unfold augop at h
  split at h
  · rename_i i j
    split at h
    · cases h; exact ⟨i, j, _, rfl, rfl, rfl⟩
    · cases h; exact ⟨i, j, _, rfl, rfl, rfl⟩
    · split at h
      · cases h; exact ⟨i, j, _, rfl, rfl, rfl⟩
      · cases h
    · split at h
      · cases h; exact ⟨i, j, _, rfl, rfl, rfl⟩
      · cases h
    · split at h
      · cases h; exact ⟨i, j, _, rfl, rfl, rfl⟩
      · cases h
    · cases h
  · cases h
theorem st_aug (g : Good X C cl n c wx) {i : Nat} {o : Bop} {x : Str} {v : Expr} {e : E} {px pos : Pos} (h1 : slotC c i x = true) (h2 : locC c x = true) (hv : PE X v (tE X C cl wx e)) : PS X (.AugAssign (.Name x px) (pyB o) v pos) (tS X C cl wx w (.aug i o e)) := by
  have hl := g.loc h2
  refine (ps_aug g.nd (g.slot h1) hl.1 hv (ip_any o) hl.2).imp fun D σ H q => ?_
  obtain ⟨L, Z, S, env, at_, post⟩ := q
  simp only [evS] at post
  cases hs : slotD env i with
  | none => rw [hs] at post; exact (show False from post).elim
  | some d =>
    rw [hs] at post
    have hd : env[i]? = some (some d) := by
      unfold slotD at hs
      split at hs
      · rename_i e; cases hs; exact e
      · cases hs
    obtain ⟨xv, e1, r1⟩ := at_.env.at_ i d hd
    refine ⟨xv, e1, L, Z, S, env, at_, obind at_.env post fun dy S1 H1 L1 yv e2 s2 r2 q1 => ?_⟩
    split at q1
    · rename_i z hz
      obtain ⟨a, b, k, rfl, rfl, rfl⟩ := augop_some hz
      cases r2.pI
      cases r1.pI
      exact ⟨a, b, k, rfl, rfl, hz, PostO.nx q1 ⟨s2, (at_.env.ext e2).set (.p (.int k))⟩⟩
    · exact (show False from q1).elim
/-! ### small ones -/
theorem st_ex {v : Expr} {e : E} {pos : Pos} (hl : isLC v = false) (hv : PE X v (tE X C cl wx e)) : PS X (.Expr v pos) (tS X C cl wx w (.ex e)) :=
  (ps_expr hv (lcC_none hl _ _ _)).imp fun D σ H q => by
    obtain ⟨L, Z, S, env, at_, post⟩ := q
    simp only [evS] at post
    exact ⟨L, Z, S, env, at_, obind at_.env post fun d S1 H1 L1 v e1 s1 r1 q1 => PostO.nx q1 (at_.later e1 s1)⟩
theorem st_ret {v : Expr} {e : E} {pos : Pos} (hv : PE X v (tE X C cl wx e)) : PS X (.Return (some v) pos) (tS X C cl wx w (.ret e)) :=
  (ps_ret hv).imp fun D σ H q => by
    obtain ⟨L, Z, S, env, at_, post⟩ := q
    simp only [evS] at post
    exact ⟨L, Z, S, env, at_, obind at_.env post fun d S1 H1 L1 v e1 s1 r1 q1 => q1 _ _ _ Ext.refl s1 r1⟩
theorem st_retN {pos : Pos} : PS X (.Return none pos) (tS X C cl wx w .retN) := ps_retN.imp fun D σ H q => by
  obtain ⟨L, Z, S, env, at_, post⟩ := q
  simp only [evS] at post
  exact post _ _ _ Ext.refl at_.st (.p .non)
theorem st_brk {pos : Pos} : PS X (.Break pos) (tS X C cl wx w .brk) := ps_break.imp fun D σ H q => by
  obtain ⟨L, Z, S, env, at_, post⟩ := q
  simp only [evS] at post
  exact post _ _ _ Ext.refl at_
theorem st_cont {pos : Pos} : PS X (.Continue pos) (tS X C cl wx w .cont) := ps_continue.imp fun D σ H q => by
  obtain ⟨L, Z, S, env, at_, post⟩ := q
  simp only [evS] at post
  exact post _ _ _ Ext.refl at_
theorem st_pass {pos : Pos} : PS X (.Pass pos) (tS X C cl wx w .pass) := ps_pass.imp fun D σ H q => by
  obtain ⟨L, Z, S, env, at_, post⟩ := q
  simp only [evS] at post
  exact post.nx at_
theorem st_if {x : Expr} {e : E} {a b : List Stmt} {sa sb : Sts} {pos : Pos} (hx : PT X x (tT X C cl wx e)) (ha : PSs X a (tSs X C cl wx w sa)) (hb : PSs X b (tSs X C cl wx w sb)) : PS X (.If x a b pos) (tS X C cl wx w (.iff e sa sb)) :=
  (ps_if hx ha hb).imp fun D σ H q => by
    obtain ⟨L, Z, S, env, at_, post⟩ := q
    have e0 : evS C w (.iff e sa sb) env S = (evT C e env S).obind env fun b S1 => if b then evSs C w sa env S1 else evSs C w sb env S1 := by
      unfold evT
      simp only [evS]
      cases evE C e env S with
      | stuck => rfl
      | exc k fs S1 => rfl
      | ok d S1 =>
        simp only [R.obind, R.bind]
        cases truth d S1 with
        | none => rfl
        | some b => cases b <;> rfl
    rw [e0] at post
    refine ⟨L, Z, S, env, at_, obind at_.env post fun b S1 H1 L1 v e1 s1 r1 q1 => ?_⟩
    cases (show v = b from r1)
    cases b with
    | true => exact ⟨L1, Z, S1, env, at_.later e1 s1, q1⟩
    | false => exact ⟨L1, Z, S1, env, at_.later e1 s1, q1⟩
theorem st_raise (g : Good X C cl n c wx) {k : Nat} {x m : Str} {j : Nat} {p p2 p3 pos : Pos} (h1 : glC c x = true) (h2 : ndC x = true) (h3 : (match c.G.cls[k]? with | some y => strEq x y | none => false) = true) :
    PS X (.Raise (some (.Call (.Name x p) [.Constant (.str m) j p2] [] p3)) none pos) (tS X C cl wx w (.raise k)) := by
  have hc : c.G.cls[k]? = some x := by
    split at h3
    · rename_i y e
      rw [e, strEq_eq h3]
    · cases h3
  obtain ⟨A, B, n1, n2, bm, ec, hm, hk, F, he, hs, ht⟩ := g.mks k x hc
  refine (ps_raise g.calm g.tk (pmk_own F he hm hk (raises_own hs ht) (g.gl h1) (ndC_eq h2).1)).imp fun D σ H q => ?_
  obtain ⟨L, Z, S, env, at_, post⟩ := q
  simp only [evS] at post
  have := (post H L σ Ext.refl at_).2
  rw [ec] at this
  exact this
end

section
variable {X : Cx} {C : Nat → List D → Sto → R D} {cl : Nat → Value} {n : Nat} {c : Ck} {wx : WX} {w : Nat}
/-! ### d[a, b] = v -/
theorem st_setT (g : Good X C cl n c wx) {ox vx : Expr} {o v : E} {es : Es} {pt pos : Pos} {xs : List Expr} {kk : Nat} {tpos : Pos} (hl : isLC vx = false) (ho : PE X ox (tE X C cl wx o)) (hk : PE X (.Tuple xs kk tpos) (tG X.K cl wx relT (evEs C es))) (hv : PE X vx (tE X C cl wx v)) :
    PS X (.Assign [.Subscript ox (.Tuple xs kk tpos) pt] vx pos) (tS X C cl wx w (.setT o es v)) := by
  refine (ps_dput (by have := g.units; omega) ho hk hv (lcC_none hl _ _ _)).imp fun D σ H q => ?_
  obtain ⟨L, Z, S, env, at_, post⟩ := q
  simp only [evS] at post
  refine ⟨L, Z, S, env, at_, obind at_.env post fun dv S1 H1 L1 vv e1 s1 r1 q1 => ?_⟩
  have a1 := at_.later e1 s1
  refine ⟨L1, Z, S1, env, a1, obind a1.env q1 fun dO S2 H2 L2 ov e2 s2 r2 q2 => ?_⟩
  have a2 := a1.later e2 s2
  refine ⟨L2, Z, S2, env, a2, obind a2.env q2 fun ds S3 H3 L3 kv e3 s3 r3 q3 => ?_⟩
  obtain ⟨b, vs, rfl, hb, nb, rv⟩ := r3
  split at q3
  · rename_i S4 hw
    obtain ⟨k, x, y, ks, ps, rfl, hx, rfl, hk3, hlen, rfl⟩ := wrT_some hw
    cases r2 with
    | mu hL =>
      rename_i a
      have hL3 := e3.pre _ _ hL
      obtain ⟨kvs, ha, hks, hr⟩ := s3.at_ _ a _ hL3 hk3
      have rx : Rp X.K H3 L3 Z vv y := ((RD.ext e3 (RD.ext e2 r1)).pI)
      have hkl : kvs.length = ks.length := by have := congrArg List.length hks; simpa using this
      refine ⟨a, _, rfl, DPut.t (k := x.map kKey) ha (by rw [hb, keysOf_rel hx rv]) (Nat.lt_of_lt_of_le (by rw [hkl]; exact hlen) (Nat.le_of_lt lim_lt)), ?_⟩
      have ew : Ext H3 L3 (upd H3 a (.dT (putK kvs (x.map kKey) vv))) L3 := Ext.write (List.mem_of_getElem? hL3)
      have sw := s3.wrote (o := .dT (putK kvs (x.map kKey) vv)) (m := moreT ks ps x y) hL3 (moreT_rel x (rx.ext ew) hks (hr.ext ew) upd_same)
      exact q3 _ _ σ ew ⟨sw, ((a2.env.ext e3)).ext ew⟩
  · exact (show False from q3).elim
end
end Mx
end

section
set_option Elab.async false
set_option linter.all false
set_option maxRecDepth 100000
set_option autoImplicit false
set_option maxHeartbeats 4000000
namespace Mx
open PySem L2 PySem.Spec PyProof.Rows
variable [WW]
section
variable {X : Cx} {C : Nat → List D → Sto → R D} {cl : Nat → Value} {n : Nat} {c : Ck} {wx : WX} {w : Nat}
/-! ### while -/
theorem st_while (own : PassesOwn (model X.prog X.w) X.A X.env X.xe) {x : Expr} {e : E} {b : List Stmt} {sb : Sts} {pos : Pos} (hx : PT X x (tT X C cl wx e)) (hb : PSs X b (tSs X C cl wx w sb)) : PS X (.While x b [] pos) (tS X C cl wx w (.whl e sb)) :=
  (ps_while own hx hb).imp fun D σ H q => by
    obtain ⟨L0, Z, S0, env0, at0, post0⟩ := q
    simp only [evS] at post0
    refine ⟨fun m σ H => ∃ L S env, At X.K H L Z S σ env ∧ PostO X.K H L Z (wO cl wx) D (loopW (fun e1 s => evT C e e1 s) (evSs C w sb) m env S), ⟨w, L0, S0, env0, at0, post0⟩, ?_⟩
    rintro m σ H ⟨L, S, env, at_, post⟩
    cases m with
    | zero => exact (show False from post).elim
    | succ m =>
      simp only [loopW] at post
      refine ⟨L, Z, S, env, at_, obind at_.env post fun k S1 H1 L1 v e1 s1 r1 q1 => ?_⟩
      cases (show v = k from r1)
      have a1 := at_.later e1 s1
      cases k with
      | false =>
        rw [if_neg Bool.false_ne_true]
        rw [if_neg Bool.false_ne_true] at q1
        exact PostO.nx q1 a1
      | true =>
        rw [if_pos rfl]
        rw [if_pos rfl] at q1
        refine ⟨fun σ' H' => ∃ L S env, At X.K H' L Z S σ' env ∧ PostO X.K H' L Z (wO cl wx) D (loopW (fun e1 s => evT C e e1 s) (evSs C w sb) m env S), fun σ' H' h => ⟨m, Nat.lt_succ_self _, h⟩, L1, Z, S1, env, a1, ?_⟩
        cases ho : evSs C w sb env S1 with
        | stuck => rw [ho] at q1; exact q1
        | next e2 S2 =>
          rw [ho] at q1
          exact fun H2 L2 σ2 e2' a2 => ⟨L2, S2, e2, a2, PostO.later (o := loopW _ _ m e2 S2) q1 e2'⟩
        | cont e2 S2 =>
          rw [ho] at q1
          exact fun H2 L2 σ2 e2' a2 => ⟨L2, S2, e2, a2, PostO.later (o := loopW _ _ m e2 S2) q1 e2'⟩
        | brk e2 S2 => rw [ho] at q1; exact q1
        | ret d S2 => rw [ho] at q1; exact q1
        | exc k fs e2 S2 => rw [ho] at q1; exact q1
/-! ### for -/
theorem st_for (g : Good X C cl n c wx) (own : PassesOwn (model X.prog X.w) X.A X.env X.xe) {tx sx : Expr} {t : Tg} {s : Src} {b : List Stmt} {sb : Sts} {pos : Pos} (ht : PG X tx (gTg X.K t)) (hs : PI X tx sx (tSrc X C cl wx s)) (hf : ∀ x, foldedSetIterable sx X.env x = pure x)
    (hb : PSs X b (tSs X C cl wx w sb)) : PS X (.For tx sx b [] pos) (tS X C cl wx w (.for t s sb)) :=
  (ps_for own g.calm hs ht hb hf).imp fun D σ H q => by
    obtain ⟨L0, Z, S0, env0, at0, post0⟩ := q
    simp only [evS] at post0
    refine ⟨L0, Z, S0, env0, at0, obind at0.env post0 fun k S1 H1 L1 J e1 s1 wr q1 => ?_⟩
    have a1 := at0.later e1 s1
    refine ⟨fun i m σ H => m = k.ds.length - i ∧ i ≤ k.ds.length ∧ ∃ L S env, Ext H1 L1 H L ∧ At X.K H L Z S σ env ∧ PostO X.K H L Z (wO cl wx) D (loopF t k.stay (evSs C w sb) (k.ds.drop i) env S), ⟨_, rfl, Nat.zero_le _, L1, S1, env0, Ext.refl, a1, by simpa using q1⟩, ?_⟩
    rintro i m σ H ⟨rfl, hi, L, S, env, ex, at_, post⟩
    by_cases hlt : i < k.ds.length
    · have hd : k.ds.drop i = k.ds[i] :: k.ds.drop (i + 1) := List.drop_eq_getElem_cons hlt
      rw [hd] at post
      unfold loopF at post
      split at post
      · rename_i hst
        obtain ⟨w1, _⟩ := wr i H L Z S ex.z Zx.refl at_.st hst
        obtain ⟨go, yl⟩ := w1 k.ds[i] (List.getElem?_eq_getElem hlt)
        refine .inr ⟨go, fun σ' H' => ∃ L S env, Ext H1 L1 H' L ∧ At X.K H' L Z S σ' env ∧ PostO X.K H' L Z (wO cl wx) D (loopF t k.stay (evSs C w sb) (k.ds.drop (i + 1)) env S),
          fun σ' H' h => ⟨k.ds.length - (i + 1), by omega, rfl, hlt, h⟩, fun x H' y => ?_⟩
        obtain ⟨e2, s2, r2⟩ := yl x H' y
        split at post
        · rename_i env1 hbind
          refine gTg_ok hbind r2 (at_.env.ext e2) fun σ1 _ er1 => ⟨L, Z, S, env1, ⟨s2, er1⟩, ?_⟩
          have post' := PostO.later post e2
          cases ho : evSs C w sb env1 S with
          | stuck => rw [ho] at post'; exact post'
          | next e3 S3 =>
            rw [ho] at post'
            exact fun H3 L3 σ3 e3' a3 => ⟨L3, S3, e3, (ex.trans e2).trans e3', a3, PostO.later (o := loopF t k.stay (evSs C w sb) (k.ds.drop (i + 1)) e3 S3) post' e3'⟩
          | cont e3 S3 =>
            rw [ho] at post'
            exact fun H3 L3 σ3 e3' a3 => ⟨L3, S3, e3, (ex.trans e2).trans e3', a3, PostO.later (o := loopF t k.stay (evSs C w sb) (k.ds.drop (i + 1)) e3 S3) post' e3'⟩
          | brk e3 S3 => rw [ho] at post'; exact post'
          | ret d S3 => rw [ho] at post'; exact post'
          | exc k fs e3 S3 => rw [ho] at post'; exact post'
        · exact (show False from post).elim
      · exact (show False from post).elim
    · have e : i = k.ds.length := by omega
      subst e
      rw [List.drop_length] at post
      unfold loopF at post
      split at post
      · rename_i hst
        obtain ⟨_, w2⟩ := wr k.ds.length H L Z S ex.z Zx.refl at_.st hst
        exact .inl ⟨w2 rfl, PostO.nx post at_⟩
      · exact (show False from post).elim

/-! ### every statement -/
theorem st_par (g : Good X C cl n c wx) {is : List Nat} {ts vs : List Expr} {es : Es} {k k2 : Nat} {pt pt2 pos : Pos} (h : parC c is ts vs = true) (hc : ckEs c es vs = true) (ha : AE X C cl wx vs es) :
    PS X (.Assign [.Tuple ts k pt] (.Tuple vs k2 pt2) pos) (tS X C cl wx w (.par is es)) := by
  unfold parC at h
  split at h
  · simp only [Bool.and_eq_true, decide_eq_true_eq] at h
    obtain ⟨⟨⟨⟨⟨⟨⟨k1, k2⟩, k3⟩, k4⟩, k5⟩, k6⟩, k7⟩, k8⟩ := h
    exact st_par2 g k1 k2 k3 k4 k5 k6 k7 k8 hc ha
  · simp only [Bool.and_eq_true, decide_eq_true_eq] at h
    obtain ⟨⟨⟨⟨⟨⟨⟨⟨⟨⟨⟨⟨k1, k2⟩, k3⟩, k4⟩, k5⟩, k6⟩, k7⟩, k8⟩, k9⟩, k10⟩, k11⟩, k12⟩, k13⟩ := h
    exact st_par3 g k1 k2 k3 k4 k5 k6 k7 k8 k9 k10 k11 k12 k13 hc ha
  · cases h
mutual
theorem soS (own : PassesOwn (model X.prog X.w) X.A X.env X.xe) (g : Good X C cl n c wx) : (s : St') → ∀ {x : Stmt}, ckS c s x = true → PS X x (tS X C cl wx w s)
  | .asg (.nm i) e, x, h => by
    simp only [ckS] at h
    split at h
    · simp only [Bool.and_eq_true] at h
      exact st_asg g h.1.1 h.1.2 h.2 (soE e h.2 g)
    · cases h
  | .asg (.tp is) e, x, h => by
    simp only [ckS] at h
    split at h
    · simp only [Bool.and_eq_true, Bool.not_eq_true'] at h
      exact st_tup g h.1.1.1 h.1.2 h.2 (soE e h.1.1.2 g).1
    · cases h
  | .par is es, x, h => by
    simp only [ckS] at h
    split at h
    · simp only [Bool.and_eq_true] at h
      exact st_par g h.1 h.2 (soEs es h.2 g)
    · cases h
  | .set o i v, x, h => by
    simp only [ckS] at h
    split at h
    · simp only [Bool.and_eq_true, Bool.not_eq_true'] at h
      obtain ⟨⟨⟨⟨k1, k2⟩, k3⟩, k4⟩, k5⟩ := h
      exact st_set g k1 k5 (soE o k2 g).1 (soE i k3 g).1 (soE v k4 g).1
    · cases h
  | .setT o es v, x, h => by
    simp only [ckS] at h
    split at h
    · simp only [Bool.and_eq_true, decide_eq_true_eq, Bool.not_eq_true'] at h
      obtain ⟨⟨⟨⟨k1, k2⟩, k3⟩, k4⟩, k5⟩ := h
      exact st_setT g k5 (soE o k1 g).1 (s_tupT k3 k2 (soEs es k2 g).pa) (soE v k4 g).1
    · cases h
  | .aug i o e, x, h => by
    simp only [ckS] at h
    split at h
    · simp only [Bool.and_eq_true] at h
      cases opC_eq h.1.2
      exact st_aug g h.1.1.1 h.1.1.2 (soE e h.2 g).1
    · cases h
  | .ex e, x, h => by
    simp only [ckS] at h
    split at h
    · simp only [Bool.and_eq_true, Bool.not_eq_true'] at h
      exact st_ex h.2 (soE e h.1 g).1
    · cases h
  | .ret e, x, h => by
    simp only [ckS] at h
    split at h
    · exact st_ret (soE e h g).1
    · cases h
  | .retN, x, h => by
    simp only [ckS] at h
    split at h
    · exact st_retN
    · cases h
  | .iff t a b, x, h => by
    simp only [ckS] at h
    split at h
    · simp only [Bool.and_eq_true] at h
      exact st_if (soE t h.1.1 g).2.1 (soSs own g a h.1.2) (soSs own g b h.2)
    · cases h
  | .whl t b, x, h => by
    simp only [ckS] at h
    split at h
    · simp only [Bool.and_eq_true] at h
      exact st_while own (soE t h.1 g).2.1 (soSs own g b h.2)
    · cases h
  | .for t s b, x, h => by
    simp only [ckS] at h
    split at h
    · simp only [Bool.and_eq_true] at h
      exact st_for g own (s_tg g h.1.1) (soSrc s h.1.2 g) (noSet h.1.2 _) (soSs own g b h.2)
    · cases h
  | .brk, x, h => by
    simp only [ckS] at h
    split at h
    · exact st_brk
    · cases h
  | .cont, x, h => by
    simp only [ckS] at h
    split at h
    · exact st_cont
    · cases h
  | .pass, x, h => by
    simp only [ckS] at h
    split at h
    · exact st_pass
    · cases h
  | .boom, x, h => ⟨fun pins s σ H D I q => by
    obtain ⟨L, Z, S, env, at_, post⟩ := q
    simp only [evS] at post
    exact (show False from post).elim⟩
  | .raise k, x, h => by
    simp only [ckS] at h
    split at h
    · simp only [Bool.and_eq_true] at h
      exact st_raise g h.1.1 h.1.2 h.2
    · cases h
theorem soSs (own : PassesOwn (model X.prog X.w) X.A X.env X.xe) (g : Good X C cl n c wx) : (s : Sts) → ∀ {xs : List Stmt}, ckSs c s xs = true → PSs X xs (tSs X C cl wx w s)
  | .nil, xs, h => by
    cases xs with
    | nil => exact ss_nil
    | cons x xs => cases h
  | .cons s r, xs, h => by
    cases xs with
    | nil => cases h
    | cons x xs =>
      simp only [ckSs, Bool.and_eq_true] at h
      exact ss_cons (soS own g s h.1) (soSs own g r h.2)
end
theorem soB (own : PassesOwn (model X.prog X.w) X.A X.env X.xe) (g : Good X C cl n c wx) {s : Sts} {xs : List Stmt} (h : ckB c s xs = true) : PSs X xs (tSs X C cl wx w s) := by
  unfold ckB at h
  split at h
  · exact (pss_cons ps_doc (soSs own g s h)).imp fun D σ H q => q
  · exact soSs own g s h
end
end Mx
end

section
set_option Elab.async false
set_option linter.all false
set_option maxRecDepth 100000
set_option autoImplicit false
set_option maxHeartbeats 4000000
namespace Mx
open PySem L2 PySem.Spec PyProof.Rows
variable [WW]
/-! ### a def keeps its promise -/
theorem fnG_of {P : Program} {w : World} {K : PySem.W.Frag} {mg : Str → Option Value} {base : Heap} {k : Nat} {f : Addr} {x qual : Str} {st : Stmt} {fd : FuncData} {N ps : List Str} {sp : Sp} (F : L2.Fun K x qual st f fd) (S : FnScope N ps (L2.defScope st))
    (many : ∀ vs H Q E, sp vs H Q E → vs.length = ps.length)
    (body : ∀ (cdv : Value) (A : Around) (outer : List PySem.Env) (s : Shared) (H : Hp) (vs : List V) (Q : VK) (E : XK), A.guards = some [] → Room k (A.deeper (envOfC qual (L2.defScope st) s.heap.objs.size f cdv)) → sp vs H Q E →
      ∃ t, PSs (cxOf (L2.CX P w) P w K mg base N qual (L2.defScope st) f cdv A outer s H E) (L2.defBody st) t ∧ t { nx := fun _ H' => Q .non H', rt := Q } (L2.start N vs) H) :
    FnG P w K mg base (k + 1) f fd ps sp := by
  obtain ⟨oc, od, kV, doc, pm, an, cdv, ct, osl, rfl, lk, hcd⟩ := F.ex
  refine ⟨many, ?_⟩
  intro A outer s H args us vs Q E hg hr e0 hb r hsp
  have len := many _ _ _ _ hsp
  have kin : K.In s.heap := e0.mod.kin.keeps fun b o e => (e0.bs b o e).1
  have lim : s.heap.NoLimit := e0.mod.nolimit.keeps fun b o e => (e0.bs b o e).1
  have kinds : ∀ y ∈ ps.zip us, (L2.defScope st).names.lookup y.1 = some .local ∨ ((L2.defScope st).names.lookup y.1 = some .cell ∧ ((cellsFrom (s.heap.objs.size + 1) (L2.defScope st).names []).lookup y.1).isSome = true) := by
    rintro ⟨m, v⟩ hy
    rcases S.par m (List.of_mem_zip hy).1 with q | q
    · exact .inl q
    · exact .inr ⟨q, PySem.W.cellsFrom_some _ _ _ (.inl q)⟩
  refine codeAny_call_function hr.depth (kin _ _ lk) rfl S.co S.gen rfl (PySem.W.codeRec_of kin hcd) (hb _ _ _ _ ?_)
  refine wpAny_newFunctionEnv_cells S.kind kinds ?_
  intro env he s1 x1
  subst he
  refine ⟨lim.keeps x1.toInCall.keep, codeAny_func ?_⟩
  obtain ⟨t, ht, hq⟩ := body cdv A outer s H vs Q E hg (hr.deeper _) hsp
  have I := inv_start (CX := L2.CX P w) (E := E) S hr.hd e0 len r x1
  refine wpAny_mono (ht.run [] s1 (L2.start N vs) H _ I hq) ?_ fun e s' hs => hs
  have fin : ∀ {σ' : L2.St} {H' : Hp} {v : V} {u : Value} {s' : Shared}, Inv (cxOf (L2.CX P w) P w K mg base N qual (L2.defScope st) f cdv A outer s H E) [] σ' H' s' → RelV v u → Q v H' → CE outer P w H s Q u s' :=
    fun J rv q => ⟨_, _, J.os, J.bare, J.base, J.hok, rv, q⟩
  rintro (_ | _ | _ | u) s' hs
  all_goals first
    | (obtain ⟨σ', H', J, q⟩ := hs; exact fin (v := V.non) (u := Value.none) J rfl q)
    | (obtain ⟨_, _, _, q⟩ := hs; exact (show False from q).elim)
    | (obtain ⟨v, σ', H', J, rv, q⟩ := hs; exact fin J rv q)

/-! ### behind a def -/
section
variable {K : PySem.W.Frag} {H H1 : Hp} {L L1 Z : List Addr} {S S1 : Sto}
theorem out_take {a : Addr} {n : Nat} (h : Out L1 Z a) : Out (L1.take n) Z a := ⟨fun m => h.1 (List.mem_of_mem_take m), h.2⟩
theorem StR.takeN (s : StR K H1 L1 Z S1) (n : Nat) : StR K H1 (L1.take n) Z (S1.take n) := by
  refine ⟨by simp [s.len], s.nd.sublist (List.take_sublist _ _), s.zs, fun k a o h1 h2 => ?_⟩
  have hk : k < n := by
    have := (List.getElem?_eq_some_iff.mp h1).1
    simp only [List.length_take] at this
    omega
  rw [List.getElem?_take_of_lt hk] at h1 h2
  exact (s.at_ k a o h1 h2).less fun _ h => out_take h
theorem Ext.takeN (e : Ext H L H1 L1) {n : Nat} (hn : n = L.length) : Ext H L H1 (L1.take n) := by
  refine ⟨e.keep, e.dom, fun k a h => ?_, fun a h => e.new a (List.mem_of_mem_take h)⟩
  have hk : k < n := by rw [hn]; exact (List.getElem?_eq_some_iff.mp h).1
  rw [List.getElem?_take_of_lt hk]
  exact e.pre k a h
theorem leave_ok {W : Wsh} {keep : Bool} {n : Nat} {d : D} {Q : VK} (s0 : StR K H L Z S) (hn : n = S.length) (h : Post K H L Z W (relD K Z) (leave keep n d S1) Q) {v : V} (e : Ext H L H1 L1) (s : StR K H1 L1 Z S1) (r : RD K H1 L1 Z v d) : Q v H1 := by
  have hn2 : n = L.length := by rw [hn, s0.len]
  unfold leave at h
  split at h
  · exact h H1 L1 v e s r
  · have go : ∀ d', leave false n d S1 = .ok d' (S1.take n) → RD K H1 (L1.take n) Z v d' → Q v H1 := fun d' hd hr => by
      unfold leave at hd
      rw [if_neg Bool.false_ne_true] at hd
      rw [hd] at h
      exact h H1 (L1.take n) v (e.takeN hn2) (s.takeN n) hr
    cases d with
    | p x => exact go (.p x) (by simp [leave]) (.p (r.pI.less fun _ h => out_take h))
    | mu k =>
      cases r with
      | mu hL =>
        rename_i a
        by_cases hk : k < n
        · exact go (.mu k) (by simp [leave, hk]) (.mu (by rw [List.getElem?_take_of_lt hk]; exact hL))
        · cases hS : S1[k]? with
          | none => simp only [hk, if_false, hS] at h; exact (show False from h).elim
          | some o =>
            -- its address is new
            have na : a ∉ L1.take n := fun m => by
              obtain ⟨j, hj⟩ := List.getElem?_of_mem m
              have hjn : j < n := by
                have := (List.getElem?_eq_some_iff.mp hj).1
                simp only [List.length_take] at this
                omega
              rw [List.getElem?_take_of_lt hjn] at hj
              obtain ⟨l1, q1⟩ := List.getElem?_eq_some_iff.mp hj
              obtain ⟨l2, q2⟩ := List.getElem?_eq_some_iff.mp hL
              have := (List.getElem_inj s.nd).mp (q1.trans q2.symm)
              omega
            have nz : a ∉ Z := fun m => by
              rcases e.new a (List.mem_of_getElem? hL) with q | q
              · obtain ⟨j, hj⟩ := List.getElem?_of_mem q
                have hjn : j < n := by rw [hn2]; exact (List.getElem?_eq_some_iff.mp hj).1
                exact na (List.mem_of_getElem? (by rw [List.getElem?_take_of_lt hjn]; exact e.pre j a hj))
              · exact s0.zs a m q
            have hm := s.at_ k a o hL hS
            cases o with
            | lst xs =>
              obtain ⟨vs, h1, h2⟩ := hm
              exact go (.p (.lst xs)) (by simp [leave, hk, hS]) (.p (.lst h1 ⟨na, nz⟩ (h2.less fun _ h => out_take h)))
            | dK ks ps =>
              obtain ⟨kvs, h1, h2, h3⟩ := hm
              exact go (.p (.dct ks ps)) (by simp [leave, hk, hS]) (.p (.dct h1 ⟨na, nz⟩ h2 (h3.less fun _ h => out_take h)))
            | dT ks ps => simp only [hk, if_false, hS] at h; exact (show False from h).elim
            | dN ks ps => simp only [hk, if_false, hS] at h; exact (show False from h).elim
    | scr ns =>
      refine go (.scr ns) (by simp [leave]) ?_
      cases r with
      | scr h1 h2 => exact .scr h1 (out_take h2)
      | scrK h1 => exact .scrK h1
    | tup ds => exact (show False from h).elim
    | dct ks ds => exact (show False from h).elim
end

/-! ### all defs of a row -/
structure DefR where
  name : Str
  N : List Str
  ps : List Str
  st : Stmt
  fd : FD
def tabOf (ds : List DefR) : Nat → Option FD := fun i => (ds[i]?).map (·.fd)
structure DefS (G : Gl0) (d : DefR) : Prop where
  scope : FnScope d.N d.ps (L2.defScope d.st)
  np : d.fd.np = d.ps.length
  nN : d.fd.nN = d.N.length
  chk : ckB ⟨d.N, L2.defScope d.st, fun _ => true, G⟩ d.fd.body (L2.defBody d.st) = true
section
variable {P : Program} {w : World} {K : PySem.W.Frag} {mg : Str → Option Value} {base : Heap} {cl : Nat → Value} {ds : List DefR} {G : Gl0} {fuel : Nat}
theorem start_env {K : PySem.W.Frag} {H : Hp} {L Z : List Addr} {N : List Str} {vs : List V} {xs : List D} {m : Nat} (h : RDL K H L Z vs xs) (hm : m = N.length) : EnvR K H L Z (L2.start N vs) (xs.map some ++ List.replicate (m - xs.length) none) := by
  have hl := h.len
  refine ⟨by unfold L2.start; simp [hl, hm], fun i d hd => ?_⟩
  by_cases hi : i < xs.length
  · rw [List.getElem?_append_left (by simpa using hi), List.getElem?_map, Option.map_eq_some_iff] at hd
    obtain ⟨d', h1, h2⟩ := hd
    cases h2
    obtain ⟨v, h3, h4⟩ := h.get h1
    refine ⟨v, ?_, h4⟩
    unfold L2.start
    rw [List.getElem?_append_left (by simpa [hl] using hi), List.getElem?_map, h3]
    rfl
  · rw [List.getElem?_append_right (by simpa using hi), List.getElem?_replicate] at hd
    split at hd <;> cases hd
theorem kwb {K : PySem.W.Frag} {x qual : Str} {st : Stmt} {f : Addr} {fd : FuncData} {ps ks : List Str} {perm : List Nat} (F : L2.Fun K x qual st f fd)
    (h : ∀ (kV doc pm : Value) (an : Option Addr) (cdv ct : Value) (ws qs : List Value), ws.length = ks.length → permA perm ws = some qs → bindArgs (PySem.W.fnOf x qual (L2.defArgs st) (L2.defBody st) (L2.defScope st) .none kV doc pm an cdv ct) ⟨[], ks.zip ws⟩ = pure (ps.zip qs)) : KwB K fd ps ks perm := by
  obtain ⟨oc, od, kV, doc, pm, an, cdv, ct, osl, rfl, lk, hcd⟩ := F.ex
  exact fun s ws qs X hl hq => .of_eq (h kV doc pm an cdv ct ws qs hl hq)
structure RowK (mg : Str → Option Value) (K : PySem.W.Frag) (cl : Nat → Value) (ds : List DefR) (G : Gl0) : Prop where
  names : G.fns = ds.map (·.name)
  nob : ∀ x ∈ bltNames, mg x = none
  cst : ∀ x p, G.consts.lookup x = some p → ∃ v u, mg x = some u ∧ RelV v u ∧ ∀ H L Z, Rp K H L Z v p
  kwc : ∀ t ∈ G.kwc, ∀ d : DefR, ds[t.1]? = some d → ∀ f fd, L2.Fun K d.name d.name d.st f fd → KwB K fd d.ps t.2.1 t.2.2
  imp : ∀ f : Blt, isMB f = true → (G.imps.any fun y => strEq y (Str.ofString (idB f))) = true → mg (Str.ofString (idB f)) = some (vB f)
  mks : ∀ (k : Nat) (x : Str), G.cls[k]? = some x → ∃ (A : Addr) (B newId initId : String) (bm : List Value), cl k = .ref A ∧ mg x = some (.ref A) ∧ PySem.W.keepIn K (.ref A) = true ∧ ExcBaseFacts B newId initId bm ∧ PySem.W.excIn K A bm newId = true ∧
    PySem.W.subIn K (.ref A) (.type "BaseException") = some true ∧ PySem.W.typeIn K (.ref A) = some (.type "type")
  defs : ∀ (i : Nat) (d : DefR), ds[i]? = some d → DefS G d ∧ ∃ f fd, mg d.name = some (.ref f) ∧ L2.Fun K d.name d.name d.st f fd ∧ Binds K fd d.ps []
theorem row_ok (hw : WW.w = w) (R : RowK mg K cl ds G) (hs : ∃ o, base.get? sysModules = some o) : ∀ (n i : Nat) (d : DefR) (f : Addr) (fd : FuncData), ds[i]? = some d → mg d.name = some (.ref f) → L2.Fun K d.name d.name d.st f fd →
    FnG P w K mg base n f fd d.ps (spD K (callN (tabOf ds) fuel n) cl i)
  | 0, i, d, f, fd, hd, hm, F => by
    refine ⟨fun vs H Q E h => ?_, fun A outer s H args us vs Q E _ _ _ _ _ h => ?_⟩
    all_goals
      obtain ⟨L, Z, S, xs, _, _, post⟩ := h
      exact (show False from post).elim
  | n + 1, i, d, f, fd, hd, hm, F => by
    obtain ⟨DS, _⟩ := R.defs i d hd
    have ht : tabOf ds i = some d.fd := by unfold tabOf; rw [hd]; rfl
    have ev : ∀ xs S, callN (tabOf ds) fuel (n + 1) i xs S = runF (callN (tabOf ds) fuel n) fuel d.fd xs S := fun xs S => by
      simp only [callN, ht]
    refine fnG_of F DS.scope (fun vs H Q E h => ?_) (fun cdv A outer s H vs Q E hg hr h => ?_)
    · obtain ⟨L, Z, S, xs, st, rd, post⟩ := h
      rw [ev] at post
      unfold runF at post
      split at post
      · rename_i hl
        rw [rd.len, hl, DS.np]
      · exact (show False from post).elim
    · obtain ⟨L, Z, S, xs, st, rd, post⟩ := h
      rw [ev] at post
      unfold runF at post
      split at post
      · rename_i hl
        have g : Good (cxOf (L2.CX P w) P w K mg base d.N d.name (L2.defScope d.st) f cdv A outer s H E) (callN (tabOf ds) fuel n) cl n ⟨d.N, L2.defScope d.st, fun _ => true, G⟩ (fun cls x _ H => E cls x H) :=
          { calm := rfl
            ww := hw
            nd := DS.scope.nd
            names := rfl
            scope := rfl
            fnc := rfl
            tk := takes_of rfl rfl rfl rfl
            gd := hg
            room := hr
            sys := hs
            nob := R.nob
            cst := R.cst
            kfun := DS.scope.kind
            mks := R.mks
            imp := R.imp
            kwc := fun t ht x hx => by
              have hx' : (ds.map (·.name))[t.1]? = some x := by rw [← R.names]; exact hx
              rw [List.getElem?_map, Option.map_eq_some_iff] at hx'
              obtain ⟨d', h1, h2⟩ := hx'
              subst h2
              obtain ⟨_, f', fd', k1, k2, k3⟩ := R.defs t.1 d' h1
              exact ⟨f', fd', d'.ps, k1, k2.kp, R.kwc t ht d' h1 f' fd' k2, row_ok hw R hs n t.1 d' f' fd' h1 k1 k2⟩
            fns := fun j x hj => by
              have hj' : (ds.map (·.name))[j]? = some x := by rw [← R.names]; exact hj
              rw [List.getElem?_map, Option.map_eq_some_iff] at hj'
              obtain ⟨d', h1, h2⟩ := hj'
              subst h2
              obtain ⟨_, f', fd', k1, k2, k3⟩ := R.defs j d' h1
              exact ⟨f', fd', d'.ps, k1, k2.kp, k3, row_ok hw R hs n j d' f' fd' h1 k1 k2⟩ }
        refine ⟨_, soB (w := fuel) (passes_of rfl) g DS.chk, L, Z, S, _, ⟨st, start_env rd DS.nN⟩, ?_⟩
        cases ho : evSs (callN (tabOf ds) fuel n) fuel d.fd.body (xs.map some ++ List.replicate (d.fd.nN - xs.length) none) S with
        | stuck => rw [ho] at post; exact post
        | ret v S1 =>
          rw [ho] at post
          exact fun H1 L1 u e s r => leave_ok st rfl post e s r
        | next e1 S1 =>
          rw [ho] at post
          exact fun H1 L1 σ1 e a => leave_ok st rfl post e a.st (.p .non)
        | brk e1 S1 => rw [ho] at post; exact (show False from post).elim
        | cont e1 S1 => rw [ho] at post; exact (show False from post).elim
        | exc k fs e1 S1 =>
          rw [ho] at post
          exact fun H1 L1 σ1 e a => post H1 (L1.take S.length) (e.takeN st.len.symm) (a.st.takeN _)
      · exact (show False from post).elim
end
end Mx
end

section
set_option Elab.async false
set_option linter.all false
set_option maxRecDepth 100000
set_option autoImplicit false
set_option maxHeartbeats 4000000
namespace Mx
open PySem L2 PySem.Spec PyProof.Rows
/-- .. and that sys.modules stands -/
def sysObs (h : Heap) : Bool := match h.get? sysModules with
  | some o => (match o.cls with | .type n => n == "dict" | _ => false)
  | none => false
def SysOk (h : Heap) : Prop := ∃ o, h.get? sysModules = some o ∧ o.cls = .type "dict"
theorem sysObs_ok {h : Heap} (e : sysObs h = true) : SysOk h := by
  unfold sysObs at e
  split at e
  · rename_i o ho
    split at e
    · rename_i n hn
      have : n = "dict" := by simpa using e
      subst this
      exact ⟨o, ho, hn⟩
    · cases e
  · cases e
def sysHook (K : Params → PySem.W.Frag) (as : List Addr) (e : ∀ P, as = (K P).map (·.1)) : PySem.W.Hook :=
  ⟨List (Option Obj) × Bool, fun s => (as.map s.heap.get?, sysObs s.heap), fun w => ((K w.params).map fun p => some p.2, true), fun w h => PySem.W.InK K w h ∧ SysOk h,
    fun w s x => ⟨PySem.W.InK.of e w s (congrArg Prod.fst x), sysObs_ok (congrArg Prod.snd x)⟩,
    fun w h h' x k => ⟨PySem.W.InK.keeps w h h' x.1 k, let ⟨o, e, c⟩ := x.2; ⟨o, k _ _ e, c⟩⟩⟩
theorem caller_guards : callerA.guards = some [] := by first | rfl | decide
/-- the call of the law, from its promise -/
theorem law_run {P : Program} {w : World} {K : PySem.W.Frag} {mg mb : Str → Option Value} {k : Nat} {fa a : Addr} {fd : FuncData} {x : Str} {sp : Sp} {s : Shared} {vs : List Value} {ns : List Int}
    (kin : K.In s.heap) (sys : SysOk s.heap) (hns : s.heap.Ns mainGlobals mg) (hb : s.heap.Ns builtinsNs mb) (hbb : ∀ x : Str, x ≠ "__name__" → mb x = bootBuiltins x) (hlim : s.heap.NoLimit) (hgen : s.gens = #[])
    (ha : s.heap.get? a = some { cls := .type "list", data := .seq vs.toArray }) (hi : IntsAre vs ns) (hl : ns.length ≤ sizeLine) (hr : Room k callerA)
    (F : ∀ base : Heap, K.In base → (∃ o, base.get? sysModules = some o) → base.Ns mainGlobals mg → FnG P w K mg base k fa fd [x] sp) (hbind : ∀ (s : Shared) (u : Value), BindsTo s fd ⟨[u], []⟩ [(x, u)])
    (hsp : ∀ H : Hp, Only H → SqL K H a (ns.map V.int) → sp [.ref a] H (fun v _ => v = .bl true) fun _ _ _ => False) :
    codeAny (model P w) callerA (.call (.ref fa) ⟨[.ref a], []⟩) (fun r s' => r = .ok (.ret (.bool true)) ∧ OldK s.heap s'.heap ∧ s'.os = s.os ∧ AllBare s'.gens) s := by
  have rv := vals_ints hi
  have len := hi.length
  suffices core : ∀ H : Hp, Only H → SqL K H a (ns.map V.int) → HOk P w H s.heap → (∀ b, H b ≠ none → b = a) → (H a ≠ none → K.lookup a = none) →
      codeAny (model P w) callerA (.call (.ref fa) ⟨[.ref a], []⟩) (fun r s' => r = .ok (.ret (.bool true)) ∧ OldK s.heap s'.heap ∧ s'.os = s.os ∧ AllBare s'.gens) s by
    cases hk : K.lookup a with
    | some o =>
      have e := kin a o hk
      rw [ha] at e
      cases e
      refine core (fun _ => none) (fun _ => .inl rfl) (.inr ⟨_, vs.toArray, _, hk, rfl, rfl, rfl, ?_, by simpa using rv⟩) (fun b u z => by cases z) (fun b z => absurd rfl z) fun z => absurd rfl z
      rw [List.size_toArray, len]; exact hl
    | none =>
      let H : Hp := fun b => if b = a then some (.frz { cls := .type "list", data := .seq vs.toArray } (.lst (ns.map V.int))) else none
      have at_ : H a = some (.frz { cls := .type "list", data := .seq vs.toArray } (.lst (ns.map V.int))) := if_pos rfl
      have off : ∀ b, b ≠ a → H b = none := fun b h => if_neg h
      refine core H (fun b => ?_) (.inl (.inr ⟨_, at_⟩)) (fun b u z => ?_) (fun b z => ?_) fun _ => hk
      · by_cases e : b = a
        · exact .inr ⟨_, _, by rw [e]; exact at_⟩
        · exact .inl (off b e)
      · by_cases e : b = a
        · subst e
          rw [at_] at z
          cases z
          exact ⟨ha, by rw [List.length_map]; exact hl, vs, _, rv, ha⟩
        · rw [off b e] at z; cases z
      · by_cases e : b = a
        · exact e
        · exact absurd (off b e) z
  intro H only hS hok hA hK
  have free : ∀ {b : Addr} {o : Obj} {es : Array DictEntry} {ep : Nat}, s.heap.get? b = some o → o.data = .dict es ep → H b = none := by
    intro b o es ep e d
    cases q : H b with
    | none => rfl
    | some u =>
      have e' := hA b (by rw [q]; simp)
      subst e'
      rw [ha] at e; cases e
      cases (show Data.seq vs.toArray _ = Data.dict es ep from d)
  have ns_ : ∀ {b : Addr} {m : Str → Option Value}, s.heap.Ns b m → (hidT s.heap H).Ns b m := fun ⟨o, es, ep, e, d, r⟩ => ⟨o, es, ep, hidT_get e (free e d), d, r⟩
  have kb : K.In (hidT s.heap H) := by
    intro b o e
    refine hidT_get (kin b o e) ?_
    cases q : H b with
    | none => rfl
    | some u =>
      have e' := hA b (by rw [q]; simp)
      subst e'
      rw [hK (by rw [q]; simp)] at e; cases e
  have md : Mod K mg (hidT s.heap H) := ⟨kb, ns_ hns, ⟨mb, ns_ hb, hbb⟩, let ⟨mc, h1, h2⟩ := hlim; ⟨mc, ns_ h1, h2⟩⟩
  have e0 : Env0 P w K mg (hidT s.heap H) callerA [] s H := ⟨rfl, md, fun b o e => of_hidT e, Nat.le_of_eq (hidT_size _ _), trivial, fun b hb => absurd (show b ∈ ([] : List Addr) from hb) (by simp), hok, .of_eq hgen⟩
  have sb : ∃ o, (hidT s.heap H).get? sysModules = some o := by
    obtain ⟨o, e, hc⟩ := sys
    refine ⟨o, hidT_get e ?_⟩
    cases q : H sysModules with
    | none => rfl
    | some u =>
      have e' := hA sysModules (by rw [q]; simp)
      rw [e', ha] at e
      cases e
      exact absurd (Value.type.inj (show Value.type "list" = Value.type "dict" from hc)) (by decide)
  refine codeAny_mono ((F _ kb sb (ns_ hns)).goes callerA [] s H ⟨[.ref a], []⟩ [.ref a] [.ref a] _ _ caller_guards hr e0 (hbind s (.ref a)) (.cons rfl .nil) (hsp H only hS)) ?_
  rintro (e | fl) s' h
  · obtain ⟨_, _, _, _, _, _, _, _, _, _, _, _, h⟩ := h
    exact h.elim
  · cases fl with
    | ret u =>
      obtain ⟨v, H', os, bare, un, hok', r', q⟩ := h
      cases (show v = .bl true from q)
      cases (show u = Value.bool true from r')
      refine ⟨rfl, OldK.of_keep fun b o e => ?_, os, bare⟩
      cases q : H b with
      | none => exact un.keep b o e q (fun z => absurd (show b ∈ ([] : List Addr) from z) (by simp)) (by simp)
      | some u =>
        rcases only b with z | ⟨ob, xs, z⟩
        · rw [q] at z; cases z
        · have e1 := (hok b _ z).1
          have e2 := (hok' b _ (un.frzs b ob _ z)).1
          rw [e] at e1; cases e1
          exact e2
    | _ => exact (show False from h).elim
/-- what k_head leaves to be shown, from the law's promise -/
theorem law_walk {l : PySem.W.OpenLaw} {n k : Nat} {q : Program} {loose : List Str} {XP : (Str → Option Value) → Heap → Prop} {YP : World → Heap → Prop} {d : DefRec} {K : Params → PySem.W.Frag} {sp : World → Sp} {x : Str}
    (hn : l.most = some n) (hn2 : n ≤ sizeLine) (hdf : d.params.defaults = []) (hr : Room k callerA) (hY : ∀ (w : World) (h : Heap), YP w h → (K w.params).In h ∧ SysOk h)
    (F : ∀ (w : World) (mg : Str → Option Value) (fa : Addr) (h : Heap), (K w.params).In h → h.Ns mainGlobals mg → mg d.name = some (.ref fa) →
      ∃ fd : FuncData, (∀ (s : Shared) (u : Value), BindsTo s fd ⟨[u], []⟩ [(x, u)]) ∧ ∀ base : Heap, (K w.params).In base → (∃ o, base.get? sysModules = some o) → base.Ns mainGlobals mg → FnG l.prog w (K w.params) mg base k fa fd [x] (sp w))
    (hsp : ∀ (w : World) (H : Hp) (a : Addr) (ns : List Int), ns.length ≤ n → Only H → SqL (K w.params) H a (ns.map V.int) → sp w [.ref a] H (fun v _ => v = .bl true) fun _ _ _ => False) :
    PySem.W.WalkO q loose XP YP l.row.toRowW d [] (fun f vs => PySem.call f vs) := by
  refine Att.attach_call hn hdf ?_
  intro w s₀ s mg mb fa o pm cd doc a vs ns G Y ho hd hcd hmg hobj hints hlen hgen
  obtain ⟨kin, sys⟩ := hY w _ Y
  obtain ⟨fd, hb, hF⟩ := F w mg fa _ kin G.T.g hmg
  exact law_run kin sys G.T.g G.T.b G.T.builtins G.T.nolimit hgen hobj hints (Nat.le_trans hlen hn2) hr hF hb fun H hO hS => hsp w H a ns hlen hO hS
variable [WW]
/-- the script, to the evaluator -/
theorem sp_script {K : PySem.W.Frag} {C : Nat → List D → Sto → R D} {cl : Nat → Value} {i : Nat} {H : Hp} {a : Addr} {ns : List Int} {S : Sto} (hS : SqL K H a (ns.map V.int)) (h : C i [.scr ns] [] = .ok (.p (.bl true)) S) :
    spD K C cl i [.ref a] H (fun v _ => v = .bl true) fun _ _ _ => False := by
  refine ⟨[], [], [], [.scr ns], ⟨rfl, List.nodup_nil, by simp, by simp⟩, .cons ?_ .nil, ?_⟩
  · rcases hS with hS | hS
    · exact .scr hS ⟨by simp, by simp⟩
    · exact .scrK (.inr hS)
  · rw [h]
    intro H1 L1 v _ _ r
    cases (show RD K H1 L1 [] v (.p (.bl true)) from r).pI
    rfl
end Mx
end

section
set_option Elab.async false
set_option linter.all false
set_option maxRecDepth 100000
set_option autoImplicit false
set_option maxHeartbeats 4000000
namespace Mx
/-- some world: the facts about data that are laid down beside the heap's ones ask for one, whichever -/
instance (priority := low) anyW : WW := ⟨⟨fun _ _ => 0, { strHash := fun _ => 0, shareClass := fun _ => 0, mergeTok := id, idOf := fun _ => 0, idOfShared := fun _ _ => 0, followText := fun _ => false, idOfImm := fun _ => 0 }⟩⟩
open PySem L2
@[simp] theorem dictN_p {x : P} {S : Sto} : dictN (.p x) S = none := rfl
@[simp] theorem dictN_scr {ns : List Int} {S : Sto} : dictN (.scr ns) S = none := rfl
@[simp] theorem dictN_tup {ds : List D} {S : Sto} : dictN (.tup ds) S = none := rfl
@[simp] theorem dictN_dct {ks : List DK} {ds : List D} {S : Sto} : dictN (.dct ks ds) S = none := rfl
@[simp] theorem isCI_a : isCI .append = false := rfl
@[simp] theorem isCI_c : isCI .count = true := rfl
@[simp] theorem isCI_i : isCI .index = true := rfl
/-- at C the def i is fd, its callees at C' -/
def TF (fuel : Nat) (C C' : Nat → List D → Sto → R D) (i : Nat) (fd : FD) : Prop := ∀ ds S, C i ds S = runF C' fuel fd ds S
def IsPen (S : Sto) (k : Nat) : Prop := ∃ a b c, S[k]? = some (.lst [.int a, .int b, .int c])
/-- but for the pen at k all stands -/
structure Sim (k : Nat) (S S' : Sto) : Prop where
  len : S'.length = S.length
  pen : IsPen S' k
  oth : ∀ j, j ≠ k → S'[j]? = S[j]?
theorem Sim.refl {k : Nat} {S : Sto} (h : IsPen S k) : Sim k S S := ⟨rfl, h, fun _ _ => rfl⟩
theorem Sim.trans {k : Nat} {S S1 S2 : Sto} (a : Sim k S S1) (b : Sim k S1 S2) : Sim k S S2 := ⟨b.len.trans a.len, b.pen, fun j h => (b.oth j h).trans (a.oth j h)⟩
theorem Sim.set {k : Nat} {S : Sto} (h : IsPen S k) (a b c : Int) : Sim k S (S.set k (.lst [.int a, .int b, .int c])) := by
  obtain ⟨x, y, z, e⟩ := h
  have hk := (List.getElem?_eq_some_iff.mp e).1
  exact ⟨by simp, ⟨a, b, c, List.getElem?_set_self hk⟩, fun j hj => List.getElem?_set_ne (Ne.symm hj)⟩
theorem IsPen.lt {S : Sto} {k : Nat} (h : IsPen S k) : k < S.length := by
  obtain ⟨x, y, z, e⟩ := h
  exact (List.getElem?_eq_some_iff.mp e).1
theorem Sim.takeN {k : Nat} {S S' : Sto} (h : Sim k S S') (n : Nat) (hk : k < n) : Sim k (S.take n) (S'.take n) := by
  refine ⟨by simp [h.len], ?_, fun j hj => ?_⟩
  · obtain ⟨a, b, c, e⟩ := h.pen
    exact ⟨a, b, c, by rw [List.getElem?_take_of_lt hk]; exact e⟩
  · simp only [List.getElem?_take]
    split
    · exact h.oth j hj
    · rfl
def tyEq : Ty → Ty → Bool
  | .int, .int => true | .bool, .bool => true | .str, .str => true | .tuple, .tuple => true | .list, .list => true | .dict, .dict => true
  | _, _ => false
theorem ty_beq (a b : Ty) : (a == b) = tyEq a b := by cases a <;> cases b <;> rfl
def F_draw : FD := { np := 2, nN := 4, keep := false, body := (.cons (.iff (.cmp .gt (.idx (.var 0) (.lit (.int 0))) (.lit (.int 0))) (.cons (.asg (.nm 3) (.bin .mod (.idx (.var 0) (.lit (.int 0))) (.var 1))) (.cons (.set (.var 0) (.lit (.int 0)) (.bin .fdiv (.idx (.var 0) (.lit (.int 0))) (.var 1))) (.cons (.ret (.var 3)) .nil))) .nil) (.cons (.set (.var 0) (.lit (.int 2)) (.bin .add (.idx (.var 0) (.lit (.int 2))) (.lit (.int 1)))) (.cons (.set (.var 0) (.lit (.int 1)) (.bin .mod (.bin .add (.bin .add (.bin .mul (.idx (.var 0) (.lit (.int 1))) (.lit (.int 48271))) (.bin .mul (.lit (.int 1009)) (.idx (.var 0) (.lit (.int 2))))) (.lit (.int 7))) (.lit (.int 2147483647)))) (.cons (.asg (.nm 2) (.bin .mod (.bin .add (.bin .add (.bin .mul (.idx (.var 0) (.lit (.int 1))) (.idx (.var 0) (.lit (.int 1)))) (.bin .mul (.lit (.int 69621)) (.idx (.var 0) (.lit (.int 1))))) (.lit (.int 11))) (.lit (.int 2147483629)))) (.cons (.asg (.nm 2) (.bin .mod (.bin .add (.bin .mul (.var 2) (.var 2)) (.bin .mul (.lit (.int 40014)) (.var 2))) (.lit (.int 2147483587)))) (.cons (.ret (.bin .mod (.bin .fdiv (.var 2) (.lit (.int 16))) (.var 1))) .nil)))))) }
theorem index_mu {S : Sto} {k : Nat} {xs : List P} {i : Int} {x : P} (h : S[k]? = some (.lst xs)) (hx : atI xs i = some x) : index (.mu k) (.p (.int i)) S = some (.p x) := by
  simp only [index, items, h]
  unfold atI at hx ⊢
  rw [List.length_map]
  cases hi : ixN xs.length i with
  | none => rw [hi] at hx; cases hx
  | some j =>
    rw [hi] at hx
    show (xs.map D.p)[j]? = _
    rw [List.getElem?_map, show xs[j]? = some x from hx]; rfl
theorem bounded_of {i : Int} (h : 0 ≤ i) (h2 : i < 2147483648) : bounded i = true := by
  unfold bounded
  simp only [Bool.and_eq_true, decide_eq_true_eq]
  omega
theorem wr_mu {S : Sto} {k : Nat} {xs : List P} {i : Int} {x : P} {j : Nat} (h : S[k]? = some (.lst xs)) (hj : ixN xs.length i = some j) : wr (.mu k) (.p (.int i)) (.p x) S = some (S.set k (.lst (xs.set j x))) := by
  simp [wr, h, hj]
theorem draw_ok {fuel : Nat} {C C' : Nat → List D → Sto → R D} {i : Nat} (hf : TF fuel C C' i F_draw) {S : Sto} {k : Nat} {m : Int} (hp : IsPen S k) (h0 : 0 < m) (h1 : m < 1073741824) :
    ∃ r S', C i [.mu k, .p (.int m)] S = .ok (.p (.int r)) S' ∧ Sim k S S' ∧ 0 ≤ r ∧ r < m := by
  obtain ⟨a, b, c, e⟩ := id hp
  have hk := hp.lt
  have h64 : m < 18446744073709551616 := by omega
  rw [hf]
  by_cases ha : 0 < a
  · refine ⟨a % m, S.set k (.lst [.int (a / m), .int b, .int c]), ?_, Sim.set hp _ _ _, Int.emod_nonneg _ (by omega), Int.emod_lt_of_pos _ h0⟩
    simp [runF, F_draw, evSs, evS, evE, R.bind, R.obind, slotD, index, items, e, atI, ixN, cmpop, pu, truth, ha, binop, h0, h1, h64, bindO, bindT, wr, leave, List.take_of_length_le]
  · have hb : ∀ z : Int, bounded (z % 2147483647) = true := fun z => bounded_of (Int.emod_nonneg _ (by decide)) (by have := Int.emod_lt_of_pos z (show (0 : Int) < 2147483647 by decide); omega)
    have hb2 : ∀ z : Int, bounded (z % 2147483629) = true := fun z => bounded_of (Int.emod_nonneg _ (by decide)) (by have := Int.emod_lt_of_pos z (show (0 : Int) < 2147483629 by decide); omega)
    have hset : ∀ x, (S.set k x)[k]? = some x := fun x => List.getElem?_set_self hk
    clear hk
    have k1 : bounded 48271 = true := by decide
    have k2 : bounded 1009 = true := by decide
    have k3 : bounded 69621 = true := by decide
    have k4 : bounded 40014 = true := by decide
    refine ⟨((((b * 48271 + 1009 * (c + 1) + 7) % 2147483647) * ((b * 48271 + 1009 * (c + 1) + 7) % 2147483647) + 69621 * ((b * 48271 + 1009 * (c + 1) + 7) % 2147483647) + 11) % 2147483629 * ((((b * 48271 + 1009 * (c + 1) + 7) % 2147483647) * ((b * 48271 + 1009 * (c + 1) + 7) % 2147483647) + 69621 * ((b * 48271 + 1009 * (c + 1) + 7) % 2147483647) + 11) % 2147483629) +
      40014 * ((((b * 48271 + 1009 * (c + 1) + 7) % 2147483647) * ((b * 48271 + 1009 * (c + 1) + 7) % 2147483647) + 69621 * ((b * 48271 + 1009 * (c + 1) + 7) % 2147483647) + 11) % 2147483629)) % 2147483587 / 16 % m, _, ?_, Sim.set hp a ((b * 48271 + 1009 * (c + 1) + 7) % 2147483647) (c + 1), Int.emod_nonneg _ (by omega), Int.emod_lt_of_pos _ h0⟩
    simp [runF, F_draw, evSs, evS, evE, R.bind, R.obind, slotD, index, items, e, atI, ixN, cmpop, pu, truth, ha, binop, h0, h1, h64, bindO, bindT, wr, leave, List.take_of_length_le, hset, hb, hb2, k1, k2, k3, k4]
def F_cell : FD := { np := 2, nN := 2, keep := false, body := (.cons (.iff (.cmp .lt (.var 1) (.blt .len (.cons (.var 0) .nil))) (.cons (.ret (.idx (.var 0) (.var 1))) .nil) .nil) (.cons (.ret (.lit (.int 0))) .nil)) }
def F_pen : FD := { np := 1, nN := 1, keep := true, body := (.cons (.ret (.mk (.lst (.cons (.blt .max2 (.cons (.lit (.int 0)) (.cons (.bin .sub (.var 0) (.bin .pow (.lit (.int 10)) (.lit (.int 18)))) .nil))) (.cons (.bin .add (.bin .mod (.var 0) (.lit (.int 2147483629))) (.lit (.int 1))) (.cons (.lit (.int 0)) .nil)))))) .nil) }
def F_pick (d : Nat) : FD := { np := 2, nN := 2, keep := false, body := (.cons (.ret (.idx (.var 1) (.call d (.cons (.var 0) (.cons (.blt .len (.cons (.var 1) .nil)) .nil))))) .nil) }
def F_same : FD := { np := 2, nN := 2, keep := false, body := (.cons (.ret (.cmp .eq (.blt .rep (.cons (.var 0) .nil)) (.blt .rep (.cons (.var 1) .nil)))) .nil) }
def F_canal (d : Nat) : FD := { np := 3, nN := 3, keep := false, body := (.cons (.ret (.tup (.cons (.bin .add (.lit (.int 1)) (.call d (.cons (.var 0) (.cons (.var 1) .nil)))) (.cons (.call d (.cons (.var 0) (.cons (.bin .add (.var 2) (.lit (.int 1))) .nil))) (.cons (.call d (.cons (.var 0) (.cons (.bin .add (.var 2) (.lit (.int 1))) .nil))) .nil))))) .nil) }
section
variable {fuel : Nat} {C C' C'' : Nat → List D → Sto → R D} {i d : Nat} {S : Sto} {k : Nat}
theorem cell_ok (hf : TF fuel C C' i F_cell) (ns : List Int) (j : Nat) : ∃ z, C i [.scr ns, .p (.int j)] S = .ok (.p (.int z)) S := by
  rw [hf]
  by_cases h : j < ns.length
  · refine ⟨ns[j], ?_⟩
    simp [F_cell, runF, evSs, evS, evE, evEs, evEo, evC, evI, R.bind, R.obind, slotD, pu, truth, bindO, bindT, setMany, leave, cmpop, bltop, lenD, items, index, atI, ixN, h]
  · refine ⟨0, ?_⟩
    simp [F_cell, runF, evSs, evS, evE, evEs, evEo, evC, evI, R.bind, R.obind, slotD, pu, truth, bindO, bindT, setMany, leave, cmpop, bltop, lenD, items, index, atI, ixN, h]
theorem pen_ok (hf : TF fuel C C' i F_pen) (z : Int) : ∃ a b, C i [.p (.int z)] S = .ok (.mu S.length) (S ++ [.lst [.int a, .int b, .int 0]]) := by
  rw [hf]
  refine ⟨if z - 10 ^ 18 > 0 then z - 10 ^ 18 else 0, z % 2147483629 + 1, ?_⟩
  have b10 : bounded 10 = true := by decide
  simp [F_pen, runF, evSs, evS, evE, evEs, evEo, evC, evI, R.bind, R.obind, slotD, pu, truth, bindO, bindT, setMany, leave, binop, bltop, allP, b10]
theorem IsPen.new (a b c : Int) : IsPen (S ++ [.lst [.int a, .int b, .int c]]) S.length := ⟨a, b, c, by rw [List.getElem?_append_right (Nat.le_refl _)]; simp⟩
theorem pick_ok (hf : TF fuel C C' i (F_pick d)) (hd : TF fuel C' C'' d F_draw) (hp : IsPen S k) {xs : List P} (h0 : xs ≠ []) (h1 : xs.length < 1073741824) :
    ∃ x ∈ xs, ∃ S', C i [.mu k, .p (.lst xs)] S = .ok (.p x) S' ∧ Sim k S S' := by
  have hl : 0 < xs.length := List.length_pos_iff.mpr h0
  obtain ⟨r, S', e, sim, r0, r1⟩ := draw_ok hd (m := xs.length) hp (by omega) (by omega)
  have hr : r.toNat < xs.length := by omega
  refine ⟨xs[r.toNat], List.getElem_mem hr, S', ?_, sim⟩
  rw [hf]
  have hx : ixN xs.length r = some r.toNat := by unfold ixN; rw [if_pos r0, if_pos r1]
  simp [F_pick, runF, evSs, evS, evE, evEs, evEo, evC, evI, R.bind, R.obind, slotD, pu, truth, bindO, bindT, setMany, leave, bltop, lenD, items, index, atI, e, hx, hr, sim.len, List.take_of_length_le]
/-- the same of a list that may be written -/
theorem pickM_ok (hf : TF fuel C C' i (F_pick d)) (hd : TF fuel C' C'' d F_draw) (hp : IsPen S k) {m : Nat} {xs : List P} (hm : S[m]? = some (.lst xs)) (hk : m ≠ k) (h0 : xs ≠ []) (h1 : xs.length < 1073741824) :
    ∃ x ∈ xs, ∃ S', C i [.mu k, .mu m] S = .ok (.p x) S' ∧ Sim k S S' := by
  have hl : 0 < xs.length := List.length_pos_iff.mpr h0
  obtain ⟨r, S', e, sim, r0, r1⟩ := draw_ok hd (m := xs.length) hp (by omega) (by omega)
  have hr : r.toNat < xs.length := by omega
  refine ⟨xs[r.toNat], List.getElem_mem hr, S', ?_, sim⟩
  rw [hf]
  have hx : ixN xs.length r = some r.toNat := by unfold ixN; rw [if_pos r0, if_pos r1]
  have hm' : S'[m]? = some (.lst xs) := (sim.oth m hk).trans hm
  simp [F_pick, runF, evSs, evS, evE, evEs, evEo, evC, evI, R.bind, R.obind, slotD, pu, truth, bindO, bindT, setMany, leave, bltop, lenD, items, index, atI, e, hx, hr, hm, hm', sim.len, List.take_of_length_le]
/-- what repr may be asked of -/
def okP (x : P) : Prop := x.fit = true ∧ x.wt ≤ 390000 ∧ x.dep ≤ 60
theorem same_ok (hf : TF fuel C C' i F_same) {x y : P} (hx : okP x) (hy : okP y) : C i [.p x, .p y] S = .ok (.p (.bl (P.eqv (.rep x) (.rep y)))) S := by
  obtain ⟨a1, a2, a3⟩ := hx
  obtain ⟨b1, b2, b3⟩ := hy
  rw [hf]
  simp [F_same, runF, evSs, evS, evE, evEs, evEo, evC, evI, R.bind, R.obind, slotD, pu, truth, bindO, bindT, setMany, leave, bltop, view, a1, a2, a3, b1, b2, b3, cmpop, eqP, scalar, List.take_of_length_le]
theorem rep_self (x : P) : P.eqv (.rep x) (.rep x) = true := by simp [P.eqv, P.beq_refl]
theorem canal_ok (hf : TF fuel C C' i (F_canal d)) (hd : TF fuel C' C'' d F_draw) (hp : IsPen S k) {l b : Int} (h0 : 0 < l) (h1 : l < 1073741824) (h2 : 0 ≤ b) (h3 : b < 1073741823) :
    ∃ x u v S', C i [.mu k, .p (.int l), .p (.int b)] S = .ok (.p (.tup [.int x, .int u, .int v])) S' ∧ Sim k S S' ∧ 1 ≤ x ∧ x ≤ l ∧ 0 ≤ u ∧ u ≤ b ∧ 0 ≤ v ∧ v ≤ b := by
  obtain ⟨r1, S1, e1, s1, q1, q1'⟩ := draw_ok hd (m := l) hp h0 h1
  obtain ⟨r2, S2, e2, s2, q2, q2'⟩ := draw_ok hd (m := b + 1) s1.pen (by omega) (by omega)
  obtain ⟨r3, S3, e3, s3, q3, q3'⟩ := draw_ok hd (m := b + 1) s2.pen (by omega) (by omega)
  have sim := (s1.trans s2).trans s3
  refine ⟨1 + r1, r2, r3, S3, ?_, sim, by omega, by omega, q2, by omega, q3, by omega⟩
  rw [hf]
  simp [F_canal, runF, evSs, evS, evE, evEs, evEo, evC, evI, R.bind, R.obind, slotD, pu, truth, bindO, bindT, setMany, leave, binop, e1, e2, e3, mkTup, allP, sim.len, List.take_of_length_le]
end
/-! ### how large a thing is -/
structure Bd (w d : Nat) (x : P) : Prop where
  fit : x.fit = true
  wt : x.wt ≤ w
  dep : x.dep ≤ d
structure BdL (w d : Nat) (xs : List P) : Prop where
  fit : fitL xs = true
  wt : wtL xs ≤ w
  dep : depL xs ≤ d
def bdC (w d : Nat) (x : P) : Bool := x.fit && decide (x.wt ≤ w) && decide (x.dep ≤ d)
theorem bd_of {w d : Nat} {x : P} (h : bdC w d x = true) : Bd w d x := by
  unfold bdC at h
  simp only [Bool.and_eq_true, decide_eq_true_eq] at h
  exact ⟨h.1.1, h.1.2, h.2⟩
theorem Bd.ok {w d : Nat} {x : P} (h : Bd w d x) (hw : w ≤ 390000) (hd : d ≤ 60) : okP x := ⟨h.fit, Nat.le_trans h.wt hw, Nat.le_trans h.dep hd⟩
theorem Bd.mono {w d w' d' : Nat} {x : P} (h : Bd w d x) (hw : w ≤ w') (hd : d ≤ d') : Bd w' d' x := ⟨h.fit, Nat.le_trans h.wt hw, Nat.le_trans h.dep hd⟩
theorem BdL.mono {w d w' d' : Nat} {x : List P} (h : BdL w d x) (hw : w ≤ w') (hd : d ≤ d') : BdL w' d' x := ⟨h.fit, Nat.le_trans h.wt hw, Nat.le_trans h.dep hd⟩
theorem fitL_app : ∀ (xs ys : List P), fitL (xs ++ ys) = (fitL xs && fitL ys)
  | [], ys => by simp [fitL]
  | x :: r, ys => by simp [fitL, fitL_app r ys, Bool.and_assoc]
theorem wtL_app : ∀ (xs ys : List P), wtL (xs ++ ys) = wtL xs + wtL ys
  | [], ys => by simp [wtL]
  | x :: r, ys => by simp [wtL, wtL_app r ys]; omega
theorem depL_app : ∀ (xs ys : List P), depL (xs ++ ys) = max (depL xs) (depL ys)
  | [], ys => by simp [depL]
  | x :: r, ys => by simp only [List.cons_append, depL, depL_app r ys]; omega
theorem BdL.app {w1 w2 d1 d2 : Nat} {xs ys : List P} (a : BdL w1 d1 xs) (b : BdL w2 d2 ys) : BdL (w1 + w2) (max d1 d2) (xs ++ ys) := by
  refine ⟨by rw [fitL_app, a.fit, b.fit]; rfl, by rw [wtL_app]; have := a.wt; have := b.wt; omega, by rw [depL_app]; have := a.dep; have := b.dep; omega⟩
theorem BdL.nil : BdL 0 0 [] := ⟨by simp [fitL], by simp [wtL], by simp [depL]⟩
theorem BdL.one {w d : Nat} {x : P} (h : Bd w d x) : BdL (w + 1) d [x] := ⟨by simp [fitL, h.fit], by simp [wtL, h.wt], by simp [depL, h.dep]⟩
theorem BdL.takeN {w d : Nat} {xs : List P} (h : BdL w d xs) (n : Nat) : BdL w d (xs.take n) := by
  have e := List.take_append_drop n xs
  have f := h.fit
  have g := h.wt
  have k := h.dep
  rw [← e, fitL_app, Bool.and_eq_true] at f
  rw [← e, wtL_app] at g
  rw [← e, depL_app] at k
  exact ⟨f.1, by omega, by omega⟩
theorem BdL.dropN {w d : Nat} {xs : List P} (h : BdL w d xs) (n : Nat) : BdL w d (xs.drop n) := by
  have e := List.take_append_drop n xs
  have f := h.fit
  have g := h.wt
  have k := h.dep
  rw [← e, fitL_app, Bool.and_eq_true] at f
  rw [← e, wtL_app] at g
  rw [← e, depL_app] at k
  exact ⟨f.2, by omega, by omega⟩
theorem BdL.cut {w d : Nat} {xs : List P} (h : BdL w d xs) (lo hi : Option Int) : BdL w d (cutG xs lo hi) := (h.dropN _).takeN _
theorem BdL.rev {w d : Nat} : ∀ {xs : List P}, BdL w d xs → BdL w d xs.reverse := by
  have key : ∀ xs : List P, fitL xs.reverse = fitL xs ∧ wtL xs.reverse = wtL xs ∧ depL xs.reverse = depL xs := by
    intro xs
    induction xs with
    | nil => exact ⟨rfl, rfl, rfl⟩
    | cons x r ih =>
      rw [List.reverse_cons, fitL_app, wtL_app, depL_app, ih.1, ih.2.1, ih.2.2]
      simp only [fitL, wtL, depL]
      refine ⟨by cases fitL r <;> cases x.fit <;> rfl, by omega, by omega⟩
  intro xs h
  obtain ⟨a, b, c⟩ := key xs
  exact ⟨a ▸ h.fit, b ▸ h.wt, c ▸ h.dep⟩
theorem BdL.tup {w d : Nat} {xs : List P} (h : BdL w d xs) : Bd w (d + 1) (.tup xs) := ⟨by simpa [P.fit] using h.fit, by simpa [P.wt] using h.wt, by simpa [P.dep] using h.dep⟩
theorem BdL.lst {w d : Nat} {xs : List P} (h : BdL w d xs) : Bd w (d + 1) (.lst xs) := ⟨by simpa [P.fit] using h.fit, by simpa [P.wt] using h.wt, by simpa [P.dep] using h.dep⟩
theorem Bd.tupI {w d : Nat} {xs : List P} (h : Bd w (d + 1) (.tup xs)) : BdL w d xs := ⟨by simpa [P.fit] using h.fit, by simpa [P.wt] using h.wt, by simpa [P.dep] using h.dep⟩
theorem Bd.int {i : Int} (h : -999999999999 ≤ i) (h2 : i < 1000000000000) : Bd 134 0 (.int i) := by
  refine ⟨?_, ?_, by simp [P.dep]⟩
  · simp only [P.fit, intFit, Bool.and_eq_true, decide_eq_true_eq]
    exact ⟨h, Int.lt_trans h2 (by decide)⟩
  · simp only [P.wt, intWt]
    split <;> omega
theorem mem_bd {w d : Nat} {xs : List P} (h : xs.all (bdC w d) = true) {x : P} (hx : x ∈ xs) : Bd w d x := bd_of (List.all_eq_true.mp h x hx)
theorem Sim.back {k : Nat} {S S' : Sto} (hp : IsPen S' k) (hk : k < S.length) (hl : S.length ≤ S'.length) (h : ∀ j, j ≠ k → j < S.length → S'[j]? = S[j]?) : Sim k S (S'.take S.length) := by
  refine ⟨by simp [Nat.min_eq_left hl], ?_, fun j hj => ?_⟩
  · obtain ⟨a, b, c, e⟩ := hp
    exact ⟨a, b, c, by rw [List.getElem?_take_of_lt hk]; exact e⟩
  · by_cases hjl : j < S.length
    · rw [List.getElem?_take_of_lt hjl, h j hj hjl]
    · rw [List.getElem?_eq_none (by simp; omega), List.getElem?_eq_none (by omega)]
theorem IsPen.app {k : Nat} {S : Sto} (h : IsPen S k) (T : Sto) : IsPen (S ++ T) k := by
  obtain ⟨a, b, c, e⟩ := id h
  exact ⟨a, b, c, by rw [List.getElem?_append_left h.lt]; exact e⟩
theorem IsPen.setN {k m : Nat} {S : Sto} (h : IsPen S k) (hm : m ≠ k) (o : MO) : IsPen (S.set m o) k := by
  obtain ⟨a, b, c, e⟩ := id h
  exact ⟨a, b, c, by rw [List.getElem?_set_ne hm]; exact e⟩
theorem len_wt : ∀ xs : List P, xs.length ≤ wtL xs
  | [] => Nat.le_refl _
  | x :: r => by have := len_wt r; simp only [List.length_cons, wtL]; omega
/-! ### loops -/
/-- a comprehension whose turns each give g d and leave the store -/
theorem compL_map {stay : Sto → Bool} {turn : D → List P → Sto → R (List P)} {S : Sto} (g : D → P) (hs : stay S = true) : ∀ (ds : List D) (acc : List P), acc.length + ds.length ≤ LIM → (∀ d ∈ ds, ∀ acc : List P, acc.length < LIM → turn d acc S = .ok (acc ++ [g d]) S) →
    compL stay turn ds acc S = .ok (acc ++ ds.map g) S
  | [], acc, _, _ => by simp [compL, hs]
  | d :: ds, acc, hl, h => by
    have hl' : acc.length < LIM := by simp only [List.length_cons] at hl; omega
    unfold compL
    rw [if_pos hs, h d List.mem_cons_self acc hl']
    show compL stay turn ds (acc ++ [g d]) S = _
    rw [compL_map g hs ds (acc ++ [g d]) (by simp only [List.length_append, List.length_cons, List.length_nil] at hl ⊢; omega) fun e he => h e (List.mem_cons_of_mem _ he)]
    simp
theorem loopF_inv {t : Tg} {stay : Sto → Bool} {body : Env → Sto → O} (I : Nat → Env → Sto → Prop) : ∀ (ds : List D) (i : Nat) (env : Env) (S : Sto), I i env S → (∀ j env S, I j env S → stay S = true) →
    (∀ j d env S, ds[j]? = some d → I (i + j) env S → ∃ env1, bindT t d env = some env1 ∧ ∃ e' S', (body env1 S = .next e' S' ∨ body env1 S = .cont e' S') ∧ I (i + j + 1) e' S') →
    ∃ e' S', loopF t stay body ds env S = .next e' S' ∧ I (i + ds.length) e' S'
  | [], i, env, S, h0, hs, _ => ⟨env, S, by simp [loopF, hs _ _ _ h0], h0⟩
  | d :: ds, i, env, S, h0, hs, h => by
    obtain ⟨env1, hb, e1, S1, hbody, h1⟩ := h 0 d env S rfl h0
    obtain ⟨e2, S2, h2, h3⟩ := loopF_inv I ds (i + 1) e1 S1 h1 hs fun j x env S hj hI => by
      have := h (j + 1) x env S (by simpa using hj) (by rw [show i + (j + 1) = i + 1 + j by omega]; exact hI)
      rw [show i + (j + 1) + 1 = i + 1 + j + 1 by omega] at this
      exact this
    refine ⟨e2, S2, ?_, by rw [List.length_cons, show i + (ds.length + 1) = i + 1 + ds.length by omega]; exact h3⟩
    unfold loopF
    rw [if_pos (hs _ _ _ h0), hb]
    rcases hbody with hbody | hbody <;> simp only [hbody, h2]
theorem range_get {lo : Int} {n j : Nat} {d : D} (h : (rangeD lo n)[j]? = some d) : d = .p (.int (lo + j)) ∧ j < n := by
  unfold rangeD at h
  rw [List.getElem?_map, Option.map_eq_some_iff] at h
  obtain ⟨i, hi, e⟩ := h
  obtain ⟨hl, e2⟩ := List.getElem?_eq_some_iff.mp hi
  rw [List.getElem_range] at e2
  subst e2 e
  exact ⟨rfl, by simpa using hl⟩
theorem bls_true : ∀ {α : Type} (l : List α), blsOf (l.map fun _ => P.bl true) = some (l.map fun _ => true)
  | _, [] => rfl
  | _, x :: r => by simp [blsOf, bls_true r]
theorem allT : ∀ {α : Type} (l : List α), (l.all fun _ => true) = true
  | _, [] => rfl
  | _, x :: r => by simp [allT r]
theorem all_true : ∀ {α : Type} (l : List α), ((l.map fun _ => true).all id) = true
  | _, [] => rfl
  | _, x :: r => by simp
/-- max(1, min(len(script), m)) -/
def manyE (m : Int) : E := .blt .max2 (.cons (.lit (.int 1)) (.cons (.blt .min2 (.cons (.blt .len (.cons (.var 0) .nil)) (.cons (.lit (.int m)) .nil))) .nil))
theorem many_ok {C : Nat → List D → Sto → R D} {m : Int} {S : Sto} {env : Mx.Env} {ns : List Int} (h : env[0]? = some (some (.scr ns))) (hm : 1 ≤ m ∧ m < 1000000) :
    ∃ k : Int, small62 k = true ∧ evE C (manyE m) env S = .ok (.p (.int k)) S := by
  refine ⟨if 1 < (if m < (ns.length : Int) then m else (ns.length : Int)) then (if m < (ns.length : Int) then m else (ns.length : Int)) else 1, ?_, ?_⟩
  · unfold small62
    simp only [Bool.and_eq_true, decide_eq_true_eq]
    split <;> (try split) <;> omega
  · simp [manyE, evE, evEs, R.bind, R.obind, slotD, h, bltop, lenD, items, pu]
/-! ### comprehensions -/
theorem comp_pure {C : Nat → List D → Sto → R D} {own : List Nat} {t : Tg} {src : Src} {elt : E} {env : Mx.Env} {S : Sto} {ds : List D} {stay : Sto → Bool} (g : D → P) (h : evI C src env S = .ok ⟨ds, stay⟩ S) (hs : stay S = true) (hl : ds.length ≤ LIM)
    (he : ∀ d ∈ ds, ∃ env1, bindT t d (wipeE env own) = some env1 ∧ evE C elt env1 S = .ok (.p (g d)) S) : evE C (.comp own t src .none elt) env S = .ok (.p (.lst (ds.map g))) S := by
  simp only [evE, h, R.bind]
  rw [compL_map g hs ds [] (by simpa using hl) fun d hd acc ha => by
    obtain ⟨env1, e1, e2⟩ := he d hd
    simp [turnC, e1, evC, R.bind, oneMore, e2, ha]]
  rfl
theorem comp_if {C : Nat → List D → Sto → R D} {own : List Nat} {t : Tg} {src : Src} {tst elt : E} {env : Mx.Env} {S : Sto} {ds : List D} {stay : Sto → Bool} (b : D → Bool) (g : D → P) (h : evI C src env S = .ok ⟨ds, stay⟩ S) (hs : stay S = true) (hl : ds.length ≤ LIM)
    (he : ∀ d ∈ ds, ∃ env1, bindT t d (wipeE env own) = some env1 ∧ evE C tst env1 S = .ok (.p (.bl (b d))) S ∧ (b d = true → evE C elt env1 S = .ok (.p (g d)) S)) : evE C (.comp own t src (.some tst) elt) env S = .ok (.p (.lst ((ds.filter b).map g))) S := by
  simp only [evE, h, R.bind]
  have key : ∀ (ds : List D) (acc : List P), acc.length + ds.length ≤ LIM → (∀ d ∈ ds, ∃ env1, bindT t d (wipeE env own) = some env1 ∧ evE C tst env1 S = .ok (.p (.bl (b d))) S ∧ (b d = true → evE C elt env1 S = .ok (.p (g d)) S)) →
      compL stay (turnC t own (evC C (.some tst)) (oneMore (evE C elt)) env) ds acc S = .ok (acc ++ (ds.filter b).map g) S := by
    intro ds
    induction ds with
    | nil => intro acc _ _; simp [compL, hs]
    | cons d ds ih =>
      intro acc hl he
      have hl' : acc.length < LIM := by simp only [List.length_cons] at hl; omega
      obtain ⟨env1, e1, e2, e3⟩ := he d List.mem_cons_self
      unfold compL
      rw [if_pos hs]
      cases hb : b d with
      | true =>
        rw [hb] at e2
        have := ih (acc ++ [g d]) (by simp only [List.length_append, List.length_cons, List.length_nil] at hl ⊢; omega) fun e he' => he e (List.mem_cons_of_mem _ he')
        have ht : turnC t own (evC C (.some tst)) (oneMore (evE C elt)) env d acc S = .ok (acc ++ [g d]) S := by simp [turnC, e1, evC, e2, truth, R.bind, oneMore, e3 hb, hl']
        rw [ht]
        show compL _ _ _ _ _ = _
        rw [this]
        simp [hb]
      | false =>
        rw [hb] at e2
        have := ih acc (by simp only [List.length_cons] at hl; omega) fun e he' => he e (List.mem_cons_of_mem _ he')
        have ht : turnC t own (evC C (.some tst)) (oneMore (evE C elt)) env d acc S = .ok acc S := by simp [turnC, e1, evC, e2, truth, R.bind]
        rw [ht]
        show compL _ _ _ _ _ = _
        rw [this]
        simp [hb]
  rw [key ds [] (by simpa using hl) he]
  rfl
theorem comp2_pure {C : Nat → List D → Sto → R D} {own own1 : List Nat} {t t1 : Tg} {src src1 : Src} {elt : E} {env : Mx.Env} {S : Sto} {ds : List D} {stay : Sto → Bool} (ds1 : D → List D) (g : D → D → P) (h : evI C src env S = .ok ⟨ds, stay⟩ S) (hs : stay S = true)
    (hl : (ds.map fun d => (ds1 d).length).sum ≤ LIM)
    (he : ∀ d ∈ ds, ∃ env1 stay1, bindT t d (wipeE env own) = some env1 ∧ evI C src1 env1 S = .ok ⟨ds1 d, stay1⟩ S ∧ stay1 S = true ∧ ∀ e ∈ ds1 d, ∃ env2, bindT t1 e (wipeE env1 own1) = some env2 ∧ evE C elt env2 S = .ok (.p (g d e)) S) :
    evE C (.comp2 own own1 t src .none t1 src1 .none elt) env S = .ok (.p (.lst (ds.flatMap fun d => (ds1 d).map (g d)))) S := by
  simp only [evE, h]
  have key : ∀ (ds : List D) (acc : List P), acc.length + (ds.map fun d => (ds1 d).length).sum ≤ LIM → (∀ d ∈ ds, ∃ env1 stay1, bindT t d (wipeE env own) = some env1 ∧ evI C src1 env1 S = .ok ⟨ds1 d, stay1⟩ S ∧ stay1 S = true ∧ ∀ e ∈ ds1 d, ∃ env2, bindT t1 e (wipeE env1 own1) = some env2 ∧ evE C elt env2 S = .ok (.p (g d e)) S) →
      compL stay (turnC t own (evC C .none) (fun env1 acc S2 => (evI C src1 env1 S2).bind fun w1 S3 => compL w1.stay (turnC t1 own1 (evC C .none) (oneMore (evE C elt)) env1) w1.ds acc S3) env) ds acc S = .ok (acc ++ ds.flatMap fun d => (ds1 d).map (g d)) S := by
    intro ds
    induction ds with
    | nil => intro acc _ _; simp [compL, hs]
    | cons d ds ih =>
      intro acc hl he
      simp only [List.map_cons, List.sum_cons] at hl
      obtain ⟨env1, stay1, e1, e2, e3, e4⟩ := he d List.mem_cons_self
      have inner := compL_map (stay := stay1) (turn := turnC t1 own1 (evC C .none) (oneMore (evE C elt)) env1) (S := S) (g d) e3 (ds1 d) acc (by omega) fun e hm acc ha => by
        obtain ⟨env2, f1, f2⟩ := e4 e hm
        simp [turnC, f1, evC, R.bind, oneMore, f2, ha]
      unfold compL
      rw [if_pos hs]
      have := ih (acc ++ (ds1 d).map (g d)) (by simp only [List.length_append, List.length_map]; omega) fun e he' => he e (List.mem_cons_of_mem _ he')
      have ht : turnC t own (evC C .none) (fun env1 acc S2 => (evI C src1 env1 S2).bind fun w1 S3 => compL w1.stay (turnC t1 own1 (evC C .none) (oneMore (evE C elt)) env1) w1.ds acc S3) env d acc S = .ok (acc ++ (ds1 d).map (g d)) S := by
        simp only [turnC, e1]
        show (evI C src1 env1 S).bind _ = _
        rw [e2]
        exact inner
      rw [ht]
      show compL _ _ _ _ _ = _
      rw [this]
      simp
  show listed (compL _ _ _ _ _) = _
  rw [key ds [] (by simpa using hl) he]
  rfl
/-- turns that draw -/
theorem compL_inv {stay : Sto → Bool} {turn : D → List P → Sto → R (List P)} {I : Sto → Prop} {Q : P → Prop} : ∀ (ds : List D) (acc : List P) (S : Sto), I S → (∀ S, I S → stay S = true) → acc.length + ds.length ≤ LIM →
    (∀ d ∈ ds, ∀ (acc : List P) (S : Sto), I S → acc.length < LIM → ∃ x S', turn d acc S = .ok (acc ++ [x]) S' ∧ I S' ∧ Q x) →
    ∃ xs S', compL stay turn ds acc S = .ok (acc ++ xs) S' ∧ xs.length = ds.length ∧ (∀ x ∈ xs, Q x) ∧ I S'
  | [], acc, S, hI, hs, _, _ => ⟨[], S, by simp [compL, hs S hI], rfl, by simp, hI⟩
  | d :: ds, acc, S, hI, hs, hl, h => by
    have hl' : acc.length < LIM := by simp only [List.length_cons] at hl; omega
    obtain ⟨x, S1, e1, I1, q1⟩ := h d List.mem_cons_self acc S hI hl'
    obtain ⟨xs, S2, e2, l2, q2, I2⟩ := compL_inv ds (acc ++ [x]) S1 I1 hs (by simp only [List.length_append, List.length_cons, List.length_nil] at hl ⊢; omega) fun e he => h e (List.mem_cons_of_mem _ he)
    refine ⟨x :: xs, S2, ?_, by simp [l2], fun y hy => ?_, I2⟩
    · unfold compL
      rw [if_pos (hs S hI), e1]
      show compL stay turn ds (acc ++ [x]) S1 = _
      rw [e2]; simp
    · rcases List.mem_cons.mp hy with rfl | hy
      · exact q1
      · exact q2 y hy
/-- a loop that ends early with r where ok fails -/
theorem loopF_find {t : Tg} {stay : Sto → Bool} {body : Mx.Env → Sto → O} {S : Sto} {r : D} (I : Mx.Env → Prop) (ok : D → Bool) (hs : stay S = true) : ∀ (ds : List D) (env : Mx.Env), I env →
    (∀ d ∈ ds, ∀ env, I env → ∃ env1, bindT t d env = some env1 ∧ (ok d = true → ∃ e', body env1 S = .next e' S ∧ I e') ∧ (ok d = false → body env1 S = .ret r S)) →
    (ds.all ok = true → ∃ e', loopF t stay body ds env S = .next e' S ∧ I e') ∧ (ds.all ok = false → loopF t stay body ds env S = .ret r S)
  | [], env, hI, _ => ⟨fun _ => ⟨env, by simp [loopF, hs], hI⟩, fun h => by cases h⟩
  | d :: ds, env, hI, h => by
    obtain ⟨env1, hb, h1, h2⟩ := h d List.mem_cons_self env hI
    cases hd : ok d with
    | true =>
      obtain ⟨e', he, hI'⟩ := h1 hd
      have ih := loopF_find I ok hs ds e' hI' fun e he => h e (List.mem_cons_of_mem _ he)
      have ev : loopF t stay body (d :: ds) env S = loopF t stay body ds e' S := by
        conv => lhs; unfold loopF
        rw [if_pos hs, hb]
        simp only [he]
      rw [ev]
      simp only [List.all_cons, hd, Bool.true_and]
      exact ih
    | false =>
      refine ⟨fun h => by simp [hd] at h, fun _ => ?_⟩
      unfold loopF
      rw [if_pos hs, hb]
      simp only [h2 hd]
/-! ### ints put in order -/
theorem leP_int (i j : Int) : leP (.int i) (.int j) = decide (i ≤ j) := by
  simp only [leP, lexP, keyP, PyProof.Rows.lexLt, PyProof.Rows.itemOrd, PyProof.Rows.itemLt]
  by_cases h : i ≤ j
  · have : ¬ j < i := by omega
    by_cases h2 : i < j <;> simp [h, this, h2]
  · have : j < i := by omega
    simp [h, this]
theorem insP_int (i : Int) : ∀ ns : List Int, insP (.int i) (ns.map .int) = (ins i ns).map .int
  | [] => rfl
  | j :: r => by
    simp only [List.map_cons, insP, leP_int, ins]
    by_cases h : i ≤ j
    · simp [h]
    · simp [h, insP_int i r]
theorem srtP_int : ∀ ns : List Int, srtP (ns.map .int) = (srt ns).map .int
  | [] => rfl
  | i :: r => by simp only [List.map_cons, srtP, srtP_int r, insP_int, srt]
theorem sortOk_int {ns : List Int} (h : ns.length ≤ LIM) : sortOk (ns.map .int) = true := by
  simp only [sortOk, Bool.and_eq_true, decide_eq_true_eq, List.length_map]
  refine ⟨⟨⟨?_, ?_⟩, ?_⟩, h⟩
  · simp [List.all_map, likeP]
  · simp [isFlat]
  · simp [noBox, P.dep]
end Mx
end

section
set_option Elab.async false
set_option linter.all false
set_option maxRecDepth 100000
set_option autoImplicit false
namespace Mx
open PySem L2
/-- the def of number i is fd -/
class Has (tab : Nat → Option FD) (i : Nat) (fd : outParam FD) : Prop where
  h : tab i = some fd
def FUEL : Nat := 1000
abbrev CN (tab : Nat → Option FD) (n : Nat) := callN tab FUEL n
theorem Has.tf {tab : Nat → Option FD} {i : Nat} {fd : FD} (h : Has tab i fd) {n : Nat} : TF FUEL (CN tab (n + 1)) (CN tab n) i fd := fun ds S => by simp only [CN, callN, h.h]
theorem Has.eq {tab : Nat → Option FD} {i : Nat} {fd : FD} (h : Has tab i fd) (n : Nat) (ds : List D) (S : Sto) : CN tab (n + 1) i ds S = runF (CN tab n) FUEL fd ds S := h.tf ds S
def f_is_whole : FD := { np := 1, nN := 1, keep := false, body := (.cons (.ret (.andE (.isi .int (.var 0)) (.notE (.isi .bool (.var 0))))) .nil) }
def f_is_between : FD := { np := 3, nN := 3, keep := false, body := (.cons (.ret (.andE (.call 30 (.cons (.var 0) .nil)) (.chn .le .le (.var 1) (.var 0) (.var 2)))) .nil) }
def f_has_parts : FD := { np := 2, nN := 2, keep := false, body := (.cons (.ret (.andE (.isi .tuple (.var 0)) (.cmp .eq (.blt .len (.cons (.var 0) .nil)) (.var 1)))) .nil) }
def f_is_canal : FD := { np := 1, nN := 5, keep := false, body := (.cons (.iff (.notE (.call 32 (.cons (.var 0) (.cons (.lit (.int 3)) .nil)))) (.cons (.ret (.lit (.bl false))) .nil) .nil) (.cons (.asg (.tp [2, 3, 4]) (.var 0)) (.cons (.asg (.nm 1) (.andE (.call 31 (.cons (.var 3) (.cons (.lit (.int 0)) (.cons (.glo [77, 79, 83, 84, 95, 66, 79, 65, 84, 83] (.int 4)) .nil)))) (.call 31 (.cons (.var 4) (.cons (.lit (.int 0)) (.cons (.glo [77, 79, 83, 84, 95, 66, 79, 65, 84, 83] (.int 4)) .nil)))))) (.cons (.ret (.andE (.call 31 (.cons (.var 2) (.cons (.lit (.int 1)) (.cons (.glo [77, 79, 83, 84, 95, 76, 79, 67, 75, 83] (.int 5)) .nil)))) (.var 1))) .nil)))) }
def f__law_cell_at : FD := { np := 2, nN := 2, keep := false, body := (.cons (.iff (.cmp .lt (.var 1) (.blt .len (.cons (.var 0) .nil))) (.cons (.ret (.idx (.var 0) (.var 1))) .nil) .nil) (.cons (.ret (.lit (.int 0))) .nil)) }
def f__law_pen : FD := { np := 1, nN := 1, keep := true, body := (.cons (.ret (.mk (.lst (.cons (.blt .max2 (.cons (.lit (.int 0)) (.cons (.bin .sub (.var 0) (.bin .pow (.lit (.int 10)) (.lit (.int 18)))) .nil))) (.cons (.bin .add (.bin .mod (.var 0) (.lit (.int 2147483629))) (.lit (.int 1))) (.cons (.lit (.int 0)) .nil)))))) .nil) }
def f__law_draw : FD := { np := 2, nN := 4, keep := false, body := (.cons (.iff (.cmp .gt (.idx (.var 0) (.lit (.int 0))) (.lit (.int 0))) (.cons (.asg (.nm 3) (.bin .mod (.idx (.var 0) (.lit (.int 0))) (.var 1))) (.cons (.set (.var 0) (.lit (.int 0)) (.bin .fdiv (.idx (.var 0) (.lit (.int 0))) (.var 1))) (.cons (.ret (.var 3)) .nil))) .nil) (.cons (.set (.var 0) (.lit (.int 2)) (.bin .add (.idx (.var 0) (.lit (.int 2))) (.lit (.int 1)))) (.cons (.set (.var 0) (.lit (.int 1)) (.bin .mod (.bin .add (.bin .add (.bin .mul (.idx (.var 0) (.lit (.int 1))) (.lit (.int 48271))) (.bin .mul (.lit (.int 1009)) (.idx (.var 0) (.lit (.int 2))))) (.lit (.int 7))) (.lit (.int 2147483647)))) (.cons (.asg (.nm 2) (.bin .mod (.bin .add (.bin .add (.bin .mul (.idx (.var 0) (.lit (.int 1))) (.idx (.var 0) (.lit (.int 1)))) (.bin .mul (.lit (.int 69621)) (.idx (.var 0) (.lit (.int 1))))) (.lit (.int 11))) (.lit (.int 2147483629)))) (.cons (.asg (.nm 2) (.bin .mod (.bin .add (.bin .mul (.var 2) (.var 2)) (.bin .mul (.lit (.int 40014)) (.var 2))) (.lit (.int 2147483587)))) (.cons (.ret (.bin .mod (.bin .fdiv (.var 2) (.lit (.int 16))) (.var 1))) .nil)))))) }
def f__law_pick : FD := { np := 2, nN := 2, keep := false, body := (.cons (.ret (.idx (.var 1) (.call 36 (.cons (.var 0) (.cons (.blt .len (.cons (.var 1) .nil)) .nil))))) .nil) }
def f__law_same : FD := { np := 2, nN := 2, keep := false, body := (.cons (.ret (.cmp .eq (.blt .rep (.cons (.var 0) .nil)) (.blt .rep (.cons (.var 1) .nil)))) .nil) }
def f__law_canal : FD := { np := 3, nN := 3, keep := false, body := (.cons (.ret (.tup (.cons (.bin .add (.lit (.int 1)) (.call 36 (.cons (.var 0) (.cons (.var 1) .nil)))) (.cons (.call 36 (.cons (.var 0) (.cons (.bin .add (.var 2) (.lit (.int 1))) .nil))) (.cons (.call 36 (.cons (.var 0) (.cons (.bin .add (.var 2) (.lit (.int 1))) .nil))) .nil))))) .nil) }
def f__law_is_whole : FD := { np := 3, nN := 3, keep := false, body := (.cons (.ret (.andE (.isi .int (.var 0)) (.andE (.notE (.isi .bool (.var 0))) (.chn .le .le (.var 1) (.var 0) (.var 2))))) .nil) }
def f__law_odd : FD := { np := 1, nN := 2, keep := false, body := (.cons (.asg (.nm 1) (.lst (.cons (.lit .non) (.cons (.lit (.bl true)) (.cons (.lit (.bl false)) (.cons (.neg (.lit (.int 1))) (.cons (.lit (.int 0)) (.cons (.lit (.int 1)) (.cons (.bin .pow (.lit (.int 10)) (.lit (.int 11))) (.cons (.lit (.str [])) (.cons (.lit (.str [117, 112])) (.cons (.lit (.str [48])) (.cons (.tup .nil) (.cons (.lst .nil) (.cons (.dct [] .nil) (.cons (.tup (.cons (.lit (.int 0)) .nil)) (.cons (.lst (.cons (.lit (.int 0)) .nil)) (.cons (.tup (.cons (.tup .nil) .nil)) (.cons (.tup (.cons (.tup (.cons (.lit (.int 0)) .nil)) .nil)) (.cons (.tup (.cons (.lit (.bl true)) .nil)) .nil)))))))))))))))))))) (.cons (.ret (.call 37 (.cons (.var 0) (.cons (.bin .add (.var 1) (.lst (.cons (.tup (.cons (.lit (.str [117, 112])) (.cons (.lit (.int 0)) (.cons (.lit (.int 0)) .nil)))) (.cons (.tup (.cons (.lit (.int 1)) (.cons (.lit (.int 1)) (.cons (.lit (.int 1)) .nil)))) (.cons (.tup (.cons (.lit (.str [100, 111, 119, 110])) .nil)) .nil))))) .nil)))) .nil)) }
def f_need_canal (RS : St') : FD := { np := 1, nN := 1, keep := false, body := (.cons (.iff (.notE (.call 33 (.cons (.var 0) .nil))) (.cons RS .nil) .nil) .nil) }
def f_boats_of : FD := { np := 2, nN := 5, keep := false, body := (.cons (.asg (.tp [2, 3, 4]) (.var 0)) (.cons (.ret (.ite (.cmp .eq (.var 1) (.lit (.str [117, 112]))) (.var 3) (.var 4))) .nil)) }
def f_is_passing : FD := { np := 2, nN := 5, keep := false, body := (.cons (.iff (.notE (.call 32 (.cons (.var 1) (.cons (.lit (.int 3)) .nil)))) (.cons (.ret (.lit (.bl false))) .nil) .nil) (.cons (.asg (.tp [2, 3, 4]) (.var 1)) (.cons (.iff (.orE (.cmp .nin (.var 2) (.glo [87, 65, 89, 83] (.tup [(.str [100, 111, 119, 110]), (.str [117, 112])]))) (.notE (.call 31 (.cons (.var 3) (.cons (.lit (.int 0)) (.cons (.bin .sub (.call 43 (.cons (.var 0) (.cons (.var 2) .nil))) (.lit (.int 1))) .nil)))))) (.cons (.ret (.lit (.bl false))) .nil) .nil) (.cons (.ret (.call 31 (.cons (.var 4) (.cons (.lit (.int 0)) (.cons (.bin .sub (.idx (.var 0) (.lit (.int 0))) (.lit (.int 1))) .nil))))) .nil)))) }
def f_is_row : FD := { np := 2, nN := 3, keep := false, body := (.cons (.ret (.andE (.isi .tuple (.var 1)) (.blt .all (.cons (.comp [2] (.nm 2) (.of (.var 1)) .none (.call 44 (.cons (.var 0) (.cons (.var 2) .nil)))) .nil)))) .nil) }
def f_need_row (RS : St') : FD := { np := 2, nN := 2, keep := false, body := (.cons (.ex (.call 42 (.cons (.var 0) .nil))) (.cons (.iff (.notE (.call 45 (.cons (.var 0) (.cons (.var 1) .nil)))) (.cons RS .nil) .nil) .nil)) }
def f_morning : FD := { np := 1, nN := 4, keep := true, body := (.cons (.asg (.tp [1, 2, 3]) (.var 0)) (.cons (.ret (.dct [.inr [117, 112], .inr [100, 111, 119, 110]] (.cons (.mk (.bin .mul (.lst (.cons (.lit (.int 0)) .nil)) (.var 2))) (.cons (.mk (.bin .mul (.lst (.cons (.var 1) .nil)) (.var 3))) .nil)))) .nil)) }
def f_is_let : FD := { np := 2, nN := 6, keep := false, body := (.cons (.asg (.tp [3, 4, 5]) (.var 1)) (.cons (.asg (.nm 2) (.idx (.var 0) (.var 3))) (.cons (.iff (.cmp .eq (.var 3) (.lit (.str [117, 112]))) (.cons (.ret (.andE (.cmp .eq (.idx (.var 2) (.var 4)) (.var 5)) (.orE (.cmp .eq (.var 4) (.lit (.int 0))) (.cmp .gt (.idx (.var 2) (.bin .sub (.var 4) (.lit (.int 1)))) (.var 5))))) .nil) .nil) (.cons (.ret (.andE (.cmp .eq (.idx (.var 2) (.var 4)) (.bin .add (.var 5) (.lit (.int 1)))) (.orE (.cmp .eq (.var 4) (.lit (.int 0))) (.cmp .le (.idx (.var 2) (.bin .sub (.var 4) (.lit (.int 1)))) (.var 5))))) .nil)))) }
def f_move : FD := { np := 2, nN := 5, keep := false, body := (.cons (.asg (.tp [2, 3, 4]) (.var 1)) (.cons (.set (.idx (.var 0) (.var 2)) (.var 3) (.ite (.cmp .eq (.var 2) (.lit (.str [117, 112]))) (.bin .add (.var 4) (.lit (.int 1))) (.var 4))) .nil)) }
def f_walk : FD := { np := 2, nN := 5, keep := true, body := (.cons (.asg (.nm 2) (.call 47 (.cons (.var 0) .nil))) (.cons (.for (.tp [3, 4]) (.enum (.var 1)) (.cons (.iff (.notE (.call 48 (.cons (.var 2) (.cons (.var 4) .nil)))) (.cons (.ret (.tup (.cons (.var 2) (.cons (.var 3) .nil)))) .nil) .nil) (.cons (.ex (.call 49 (.cons (.var 2) (.cons (.var 4) .nil)))) .nil))) (.cons (.ret (.tup (.cons (.var 2) (.cons (.lit .non) .nil)))) .nil))) }
def f_places_behind (RS : St') : FD := { np := 2, nN := 4, keep := true, body := (.cons (.ex (.call 46 (.cons (.var 0) (.cons (.var 1) .nil)))) (.cons (.asg (.tp [2, 3]) (.call 50 (.cons (.var 0) (.cons (.var 1) .nil)))) (.cons (.iff (.cmp .notN (.var 3) (.lit .non)) (.cons RS .nil) .nil) (.cons (.ret (.var 2)) .nil)))) }
def f_first_bar : FD := { np := 2, nN := 4, keep := false, body := (.cons (.ex (.call 46 (.cons (.var 0) (.cons (.var 1) .nil)))) (.cons (.asg (.tp [2, 3]) (.call 50 (.cons (.var 0) (.cons (.var 1) .nil)))) (.cons (.ret (.var 3)) .nil))) }
def f_pounds : FD := { np := 2, nN := 3, keep := false, body := (.cons (.asg (.nm 2) (.call 51 (.cons (.var 0) (.cons (.var 1) .nil)))) (.cons (.ret (.tup (.cons (.blt .tuple (.cons (.idx (.var 2) (.lit (.str [117, 112]))) .nil)) (.cons (.blt .tuple (.cons (.idx (.var 2) (.lit (.str [100, 111, 119, 110]))) .nil)) .nil)))) .nil)) }
def f__law_passings : FD := { np := 1, nN := 6, keep := false, body := (.cons (.asg (.nm 1) (.lst .nil)) (.cons (.for (.tp [2, 3]) (.of (.tup (.cons (.tup (.cons (.lit (.str [100, 111, 119, 110])) (.cons (.idx (.var 0) (.lit (.int 2))) .nil))) (.cons (.tup (.cons (.lit (.str [117, 112])) (.cons (.idx (.var 0) (.lit (.int 1))) .nil))) .nil)))) (.cons (.for (.nm 4) (.rng (.var 3)) (.cons (.asg (.nm 1) (.bin .add (.var 1) (.comp [5] (.nm 5) (.rng (.idx (.var 0) (.lit (.int 0)))) .none (.tup (.cons (.var 2) (.cons (.var 4) (.cons (.var 5) .nil))))))) .nil)) .nil)) (.cons (.ret (.var 1)) .nil))) }
def f__law_ahead : FD := { np := 2, nN := 7, keep := false, body := (.cons (.asg (.tp [4, 5, 6]) (.var 1)) (.cons (.asg (.nm 2) (.ite (.cmp .eq (.var 4) (.lit (.str [117, 112]))) (.bin .sub (.var 6) (.lit (.int 1))) (.bin .add (.var 6) (.lit (.int 1))))) (.cons (.asg (.nm 3) (.ite (.chn .le .lt (.lit (.int 0)) (.var 2) (.idx (.var 0) (.lit (.int 0)))) (.lst (.cons (.tup (.cons (.var 4) (.cons (.var 5) (.cons (.var 2) .nil)))) .nil)) (.lst .nil))) (.cons (.ret (.bin .add (.var 3) (.bin .mul (.lst (.cons (.tup (.cons (.var 4) (.cons (.bin .sub (.var 5) (.lit (.int 1))) (.cons (.var 6) .nil)))) .nil)) (.blt .int (.cons (.cmp .gt (.var 5) (.lit (.int 0))) .nil))))) .nil)))) }
def f__law_let : FD := { np := 2, nN := 5, keep := false, body := (.cons (.asg (.nm 2) (.comp [3] (.nm 3) (.of (.call 54 (.cons (.var 0) .nil))) (.some (.cmp .nin (.var 3) (.var 1))) (.var 3))) (.cons (.ret (.comp [3] (.nm 3) (.of (.var 2)) (.some (.cmp .eq (.comp [4] (.nm 4) (.of (.call 55 (.cons (.var 0) (.cons (.var 3) .nil)))) (.some (.cmp .nin (.var 4) (.var 1))) (.var 4)) (.lst .nil))) (.var 3))) .nil)) }
def f__law_bar : FD := { np := 2, nN := 4, keep := false, body := (.cons (.for (.tp [2, 3]) (.enum (.var 1)) (.cons (.iff (.cmp .nin (.var 3) (.call 56 (.cons (.var 0) (.cons (.slc (.var 1) .none (.some (.var 2))) .nil)))) (.cons (.ret (.var 2)) .nil) .nil) .nil)) (.cons (.ret (.lit .non)) .nil)) }
def f__law_row : FD := { np := 3, nN := 6, keep := false, body := (.cons (.asg (.nm 3) (.tup .nil)) (.cons (.for (.nm 4) (.rng (.call 36 (.cons (.var 0) (.cons (.bin .add (.var 2) (.lit (.int 1))) .nil)))) (.cons (.asg (.nm 5) (.call 56 (.cons (.var 1) (.cons (.var 3) .nil)))) (.cons (.iff (.cmp .ne (.var 5) (.lst .nil)) (.cons (.asg (.nm 3) (.bin .add (.var 3) (.tup (.cons (.call 37 (.cons (.var 0) (.cons (.var 5) .nil))) .nil)))) .nil) .nil) .nil))) (.cons (.ret (.var 3)) .nil))) }
def f__law_on : FD := { np := 3, nN := 7, keep := false, body := (.cons (.asg (.nm 3) (.idx (.lst (.cons (.lit .non) (.cons (.lit .non) (.cons (.lit (.str [117, 112])) (.cons (.lit (.str [100, 111, 119, 110])) .nil))))) (.call 36 (.cons (.var 0) (.cons (.lit (.int 4)) .nil))))) (.cons (.asg (.nm 4) (.call 56 (.cons (.var 1) (.cons (.var 2) .nil)))) (.cons (.whl (.cmp .ne (.var 4) (.lst .nil)) (.cons (.asg (.nm 5) (.comp [6] (.nm 6) (.of (.var 4)) (.some (.andE (.cmp .eq (.idx (.var 6) (.lit (.int 0))) (.var 3)) (.cmp .gt (.call 36 (.cons (.var 0) (.cons (.lit (.int 4)) .nil))) (.lit (.int 0))))) (.var 6))) (.cons (.asg (.nm 2) (.bin .add (.var 2) (.tup (.cons (.call 37 (.cons (.var 0) (.cons (.ite (.cmp .ne (.var 5) (.lst .nil)) (.var 5) (.var 4)) .nil))) .nil)))) (.cons (.asg (.nm 4) (.call 56 (.cons (.var 1) (.cons (.var 2) .nil)))) .nil)))) (.cons (.ret (.var 2)) .nil)))) }
def f__law_day : FD := { np := 2, nN := 2, keep := false, body := (.cons (.ret (.call 59 (.cons (.var 0) (.cons (.var 1) (.cons (.tup .nil) .nil))))) .nil) }
def f__law_pounds : FD := { np := 2, nN := 7, keep := false, body := (.cons (.asg (.nm 2) (.blt .tuple (.cons (.comp [4] (.nm 4) (.rng (.idx (.var 0) (.lit (.int 1)))) .none (.blt .len (.cons (.comp [5] (.nm 5) (.of (.var 1)) (.some (.cmp .eq (.slc (.var 5) .none (.some (.lit (.int 2)))) (.tup (.cons (.lit (.str [117, 112])) (.cons (.var 4) .nil))))) (.lit (.int 1))) .nil))) .nil))) (.cons (.asg (.nm 3) (.comp [4] (.nm 4) (.rng (.idx (.var 0) (.lit (.int 2)))) .none (.blt .len (.cons (.comp [5] (.nm 5) (.of (.var 1)) (.some (.cmp .eq (.slc (.var 5) .none (.some (.lit (.int 2)))) (.tup (.cons (.lit (.str [100, 111, 119, 110])) (.cons (.var 4) .nil))))) (.lit (.int 1))) .nil)))) (.cons (.ret (.tup (.cons (.var 2) (.cons (.blt .tuple (.cons (.comp [6] (.nm 6) (.of (.var 3)) .none (.bin .sub (.idx (.var 0) (.lit (.int 0))) (.var 6))) .nil)) .nil)))) .nil))) }
def f_is_day : FD := { np := 2, nN := 7, keep := false, body := (.cons (.ex (.call 42 (.cons (.var 0) .nil))) (.cons (.asg (.tp [2, 3, 4]) (.var 0)) (.cons (.iff (.orE (.notE (.call 32 (.cons (.var 1) (.cons (.bin .mul (.var 2) (.bin .add (.var 3) (.var 4))) .nil)))) (.notE (.call 45 (.cons (.var 0) (.cons (.var 1) .nil))))) (.cons (.ret (.lit (.bl false))) .nil) .nil) (.cons (.asg (.tp [5, 6]) (.call 50 (.cons (.var 0) (.cons (.var 1) .nil)))) (.cons (.ret (.cmp .isN (.var 6) (.lit .non))) .nil))))) }
def f_is_table : FD := { np := 2, nN := 2, keep := false, body := (.cons (.ex (.call 42 (.cons (.var 0) .nil))) (.cons (.ret (.andE (.call 64 (.cons (.var 0) (.cons (.var 1) .nil))) (.call 65 (.cons (.var 1) .nil)))) .nil)) }
def f_has_shape : FD := { np := 2, nN := 7, keep := false, body := (.cons (.asg (.tp [2, 3, 4]) (.var 0)) (.cons (.iff (.orE (.notE (.call 32 (.cons (.var 1) (.cons (.var 3) .nil)))) (.notE (.blt .all (.cons (.comp [5] (.nm 5) (.of (.var 1)) .none (.call 32 (.cons (.var 5) (.cons (.var 4) .nil)))) .nil)))) (.cons (.ret (.lit (.bl false))) .nil) .nil) (.cons (.ret (.blt .all (.cons (.comp2 [5, 6] [6] (.nm 5) (.of (.var 1)) .none (.nm 6) (.of (.var 5)) .none (.call 31 (.cons (.var 6) (.cons (.lit (.int 0)) (.cons (.var 2) .nil))))) .nil))) .nil))) }
def f_is_stepped : FD := { np := 1, nN := 7, keep := false, body := (.cons (.asg (.nm 1) (.blt .all (.cons (.comp2 [3, 4, 5, 6] [5, 6] (.tp [3, 4]) (.zip (.var 0) (.slc (.var 0) (.some (.lit (.int 1))) .none)) .none (.tp [5, 6]) (.zip (.var 3) (.var 4)) .none (.cmp .le (.var 6) (.var 5))) .nil))) (.cons (.asg (.nm 2) (.blt .all (.cons (.comp2 [3, 5, 6] [5, 6] (.nm 3) (.of (.var 0)) .none (.tp [5, 6]) (.zip (.var 3) (.slc (.var 3) (.some (.lit (.int 1))) .none)) .none (.cmp .le (.var 5) (.var 6))) .nil))) (.cons (.ret (.andE (.var 1) (.var 2))) .nil))) }
def f__law_is_table : FD := { np := 2, nN := 9, keep := false, body := (.cons (.asg (.tp [4, 5, 6]) (.var 0)) (.cons (.iff (.orE (.notE (.isi .tuple (.var 1))) (.cmp .ne (.blt .len (.cons (.var 1) .nil)) (.var 5))) (.cons (.ret (.lit (.bl false))) .nil) .nil) (.cons (.for (.nm 2) (.of (.var 1)) (.cons (.iff (.orE (.notE (.isi .tuple (.var 2))) (.orE (.cmp .ne (.blt .len (.cons (.var 2) .nil)) (.var 6)) (.notE (.blt .all (.cons (.comp [8] (.nm 8) (.of (.var 2)) .none (.call 40 (.cons (.var 8) (.cons (.lit (.int 0)) (.cons (.var 4) .nil))))) .nil))))) (.cons (.ret (.lit (.bl false))) .nil) .nil) (.cons (.iff (.cmp .ne (.blt .list (.cons (.var 2) .nil)) (.blt .sorted (.cons (.var 2) .nil))) (.cons (.ret (.lit (.bl false))) .nil) .nil) .nil))) (.cons (.for (.nm 3) (.rng (.var 6)) (.cons (.asg (.nm 7) (.comp [2] (.nm 2) (.of (.var 1)) .none (.idx (.var 2) (.var 3)))) (.cons (.iff (.cmp .ne (.var 7) (.rev (.blt .sorted (.cons (.var 7) .nil)))) (.cons (.ret (.lit (.bl false))) .nil) .nil) .nil))) (.cons (.ret (.lit (.bl true))) .nil))))) }
def f__law_table : FD := { np := 2, nN := 9, keep := false, body := (.cons (.par [3, 4] (.cons (.tup .nil) (.cons (.bin .mul (.tup (.cons (.idx (.var 1) (.lit (.int 0))) .nil)) (.idx (.var 1) (.lit (.int 2)))) .nil))) (.cons (.for (.nm 2) (.rng (.idx (.var 1) (.lit (.int 1)))) (.cons (.asg (.nm 5) (.blt .sorted (.cons (.comp [6] (.nm 6) (.of (.var 4)) .none (.call 36 (.cons (.var 0) (.cons (.bin .add (.idx (.var 1) (.lit (.int 0))) (.lit (.int 1))) .nil)))) .nil))) (.cons (.iff (.cmp .eq (.call 36 (.cons (.var 0) (.cons (.lit (.int 3)) .nil))) (.lit (.int 0))) (.cons (.asg (.nm 5) (.blt .list (.cons (.var 4) .nil))) .nil) .nil) (.cons (.asg (.nm 4) (.blt .tuple (.cons (.comp [7, 8] (.tp [7, 8]) (.zip (.var 5) (.var 4)) .none (.blt .min2 (.cons (.var 7) (.cons (.var 8) .nil)))) .nil))) (.cons (.asg (.nm 3) (.bin .add (.var 3) (.tup (.cons (.var 4) .nil)))) .nil))))) (.cons (.ret (.var 3)) .nil))) }
def f_need_day (RS : St') : FD := { np := 2, nN := 2, keep := false, body := (.cons (.iff (.notE (.call 62 (.cons (.var 0) (.cons (.var 1) .nil)))) (.cons RS .nil) .nil) .nil) }
def f_table_of : FD := { np := 2, nN := 5, keep := false, body := (.cons (.ex (.call 68 (.cons (.var 0) (.cons (.var 1) .nil)))) (.cons (.asg (.nm 2) (.comp [3] (.nm 3) (.rng (.idx (.var 0) (.lit (.int 0)))) .none (.comp [4] (.nm 4) (.of (.var 1)) (.some (.cmp .eq (.idx (.var 4) (.lit (.int 2))) (.var 3))) (.idx (.var 4) (.lit (.int 0)))))) (.cons (.ret (.call 70 (.cons (.var 0) (.cons (.var 2) .nil)))) .nil))) }
def f_table_from : FD := { np := 2, nN := 10, keep := false, body := (.cons (.asg (.tp [3, 4, 5]) (.var 0)) (.cons (.asg (.nm 2) (.comp [6] (.nm 6) (.of (.var 1)) .none (.call 71 (.cons (.var 6) .nil)))) (.cons (.ret (.blt .tuple (.cons (.comp [7] (.nm 7) (.rng (.var 4)) .none (.blt .tuple (.cons (.comp [8] (.nm 8) (.rng (.var 5)) .none (.blt .len (.cons (.comp [9] (.nm 9) (.of (.var 2)) (.some (.cmp .lt (.var 7) (.idx (.var 9) (.var 8)))) (.lit (.int 1))) .nil))) .nil))) .nil))) .nil))) }
def f_ups_ahead : FD := { np := 1, nN := 4, keep := false, body := (.cons (.asg (.nm 1) (.mk (.lst .nil))) (.cons (.asg (.nm 2) (.lit (.int 0))) (.cons (.for (.nm 3) (.of (.var 0)) (.cons (.iff (.cmp .eq (.var 3) (.lit (.str [117, 112]))) (.cons (.aug 2 .add (.lit (.int 1))) .nil) (.cons (.ex (.mth .append (.var 1) (.cons (.var 2) .nil))) .nil)) .nil)) (.cons (.ret (.var 1)) .nil)))) }
def f_need_table (RS : St') : FD := { np := 2, nN := 2, keep := false, body := (.cons (.iff (.notE (.call 63 (.cons (.var 0) (.cons (.var 1) .nil)))) (.cons RS .nil) .nil) .nil) }
def f_need_lock (RS : St') : FD := { np := 2, nN := 2, keep := false, body := (.cons (.iff (.notE (.call 31 (.cons (.var 1) (.cons (.lit (.int 0)) (.cons (.bin .sub (.idx (.var 0) (.lit (.int 0))) (.lit (.int 1))) .nil))))) (.cons RS .nil) .nil) .nil) }
def f_book : FD := { np := 3, nN := 3, keep := false, body := (.cons (.ex (.call 72 (.cons (.var 0) (.cons (.var 1) .nil)))) (.cons (.ex (.call 73 (.cons (.var 0) (.cons (.var 2) .nil)))) (.cons (.ret (.call 75 (.cons (.var 0) (.cons (.var 1) (.cons (.var 2) .nil))))) .nil))) }
def f_lock_book : FD := { np := 3, nN := 9, keep := false, body := (.cons (.asg (.tp [6, 7, 8]) (.var 0)) (.cons (.asg (.nm 3) (.mk (.lst .nil))) (.cons (.asg (.nm 4) (.lit (.int 0))) (.cons (.for (.nm 5) (.rng (.var 8)) (.cons (.whl (.andE (.cmp .lt (.var 4) (.var 7)) (.cmp .gt (.idx (.idx (.var 1) (.var 4)) (.var 5)) (.var 2))) (.cons (.ex (.mth .append (.var 3) (.cons (.lit (.str [117, 112])) .nil))) (.cons (.aug 4 .add (.lit (.int 1))) .nil))) (.cons (.ex (.mth .append (.var 3) (.cons (.lit (.str [100, 111, 119, 110])) .nil))) .nil))) (.cons (.ret (.blt .tuple (.cons (.bin .add (.var 3) (.bin .mul (.lst (.cons (.lit (.str [117, 112])) .nil)) (.bin .sub (.var 7) (.var 4)))) .nil))) .nil))))) }
def f__law_book : FD := { np := 3, nN := 8, keep := false, body := (.cons (.par [4, 5] (.cons (.lst .nil) (.cons (.lit (.int 0)) .nil))) (.cons (.for (.nm 3) (.rng (.idx (.var 0) (.lit (.int 1)))) (.cons (.asg (.nm 6) (.blt .len (.cons (.comp [7] (.nm 7) (.of (.idx (.var 1) (.var 3))) (.some (.cmp .le (.var 7) (.var 2))) (.var 7)) .nil))) (.cons (.asg (.nm 4) (.bin .add (.bin .add (.var 4) (.bin .mul (.lst (.cons (.lit (.str [100, 111, 119, 110])) .nil)) (.bin .sub (.var 6) (.var 5)))) (.lst (.cons (.lit (.str [117, 112])) .nil)))) (.cons (.asg (.nm 5) (.var 6)) .nil)))) (.cons (.ret (.blt .tuple (.cons (.bin .add (.var 4) (.bin .mul (.lst (.cons (.lit (.str [100, 111, 119, 110])) .nil)) (.bin .sub (.idx (.var 0) (.lit (.int 2))) (.var 5)))) .nil))) .nil))) }
def f_lock_books : FD := { np := 2, nN := 3, keep := false, body := (.cons (.ret (.blt .tuple (.cons (.comp [2] (.nm 2) (.rng (.idx (.var 0) (.lit (.int 0)))) .none (.call 75 (.cons (.var 0) (.cons (.var 1) (.cons (.var 2) .nil))))) .nil))) .nil) }
def f_is_book : FD := { np := 2, nN := 5, keep := false, body := (.cons (.asg (.tp [2, 3, 4]) (.var 0)) (.cons (.iff (.notE (.call 32 (.cons (.var 1) (.cons (.bin .add (.var 3) (.var 4)) .nil)))) (.cons (.ret (.lit (.bl false))) .nil) .nil) (.cons (.ret (.andE (.cmp .eq (.mth .count (.var 1) (.cons (.lit (.str [117, 112])) .nil)) (.var 3)) (.cmp .eq (.mth .count (.var 1) (.cons (.lit (.str [100, 111, 119, 110])) .nil)) (.var 4)))) .nil))) }
def f_need_books (RS : St') : FD := { np := 2, nN := 4, keep := false, body := (.cons (.ex (.call 42 (.cons (.var 0) .nil))) (.cons (.asg (.nm 2) (.andE (.call 32 (.cons (.var 1) (.cons (.idx (.var 0) (.lit (.int 0))) .nil))) (.blt .all (.cons (.comp [3] (.nm 3) (.of (.var 1)) .none (.call 78 (.cons (.var 0) (.cons (.var 3) .nil)))) .nil)))) (.cons (.iff (.notE (.var 2)) (.cons RS .nil) .nil) .nil))) }
def f_of_books : FD := { np := 2, nN := 3, keep := false, body := (.cons (.ex (.call 79 (.cons (.var 0) (.cons (.var 1) .nil)))) (.cons (.asg (.nm 2) (.call 70 (.cons (.var 0) (.cons (.var 1) .nil)))) (.cons (.ret (.ite (.cmp .eq (.call 77 (.cons (.var 0) (.cons (.var 2) .nil))) (.var 1)) (.var 2) (.lit .non))) .nil))) }
def f_ready_locks : FD := { np := 2, nN := 6, keep := false, body := (.cons (.asg (.nm 2) (.mk (.lst .nil))) (.cons (.for (.tp [3, 4]) (.enum (.var 1)) (.cons (.iff (.cmp .lt (.var 4) (.blt .len (.cons (.idx (.var 0) (.var 3)) .nil))) (.cons (.asg (.nm 5) (.idx (.idx (.var 0) (.var 3)) (.var 4))) (.cons (.iff (.orE (.cmp .isN (.var 5) (.lit .non)) (.cmp .ge (.idx (.var 1) (.idx (.var 5) (.lit (.int 0)))) (.idx (.var 5) (.lit (.int 1))))) (.cons (.ex (.mth .append (.var 2) (.cons (.var 3) .nil))) .nil) .nil) .nil)) .nil) .nil)) (.cons (.ret (.var 2)) .nil))) }
def f_one_more : FD := { np := 2, nN := 2, keep := false, body := (.cons (.ret (.bin .add (.bin .add (.slc (.var 0) .none (.some (.var 1))) (.tup (.cons (.bin .add (.idx (.var 0) (.var 1)) (.lit (.int 1))) .nil))) (.slc (.var 0) (.some (.bin .add (.var 1) (.lit (.int 1)))) .none))) .nil) }
def f__law_rows_of : FD := { np := 1, nN := 6, keep := false, body := (.cons (.asg (.nm 1) (.lst (.cons (.tup .nil) .nil))) (.cons (.for (.nm 2) (.rng (.idx (.var 0) (.lit (.int 2)))) (.cons (.asg (.nm 3) (.lst .nil)) (.cons (.for (.nm 4) (.of (.var 1)) (.cons (.asg (.nm 3) (.bin .add (.var 3) (.comp [5] (.nm 5) (.rng (.bin .add (.idx (.var 0) (.lit (.int 0))) (.lit (.int 1)))) (.some (.orE (.cmp .eq (.var 4) (.tup .nil)) (.cmp .ge (.var 5) (.idx (.var 4) (.neg (.lit (.int 1))))))) (.bin .add (.var 4) (.tup (.cons (.var 5) .nil)))))) .nil)) (.cons (.asg (.nm 1) (.var 3)) .nil)))) (.cons (.ret (.var 1)) .nil))) }
def f__law_tables : FD := { np := 1, nN := 9, keep := false, body := (.cons (.par [2, 3] (.cons (.call 83 (.cons (.var 0) .nil)) (.cons (.lst (.cons (.tup .nil) .nil)) .nil))) (.cons (.for (.nm 1) (.rng (.idx (.var 0) (.lit (.int 1)))) (.cons (.asg (.nm 4) (.mk (.lst .nil))) (.cons (.for (.nm 5) (.of (.var 3)) (.cons (.for (.nm 6) (.of (.var 2)) (.cons (.iff (.orE (.cmp .eq (.var 1) (.lit (.int 0))) (.cmp .eq (.comp [7, 8] (.tp [7, 8]) (.zip (.var 6) (.idx (.var 5) (.neg (.lit (.int 1))))) (.some (.cmp .gt (.var 7) (.var 8))) (.lit (.int 1))) (.lst .nil))) (.cons (.ex (.mth .append (.var 4) (.cons (.bin .add (.var 5) (.tup (.cons (.var 6) .nil))) .nil))) .nil) .nil) .nil)) .nil)) (.cons (.asg (.nm 3) (.var 4)) .nil)))) (.cons (.ret (.var 3)) .nil))) }
def f__law_fits : FD := { np := 3, nN := 12, keep := false, body := (.cons (.asg (.tp [3, 4, 5]) (.var 2)) (.cons (.iff (.cmp .eq (.var 3) (.lit (.str [117, 112]))) (.cons (.asg (.nm 6) (.comp [8, 9] (.tp [8, 9]) (.enum (.idx (.var 0) (.var 4))) (.some (.cmp .le (.var 9) (.var 5))) (.tup (.cons (.lit (.str [100, 111, 119, 110])) (.cons (.var 8) (.cons (.var 5) .nil)))))) .nil) (.cons (.asg (.nm 6) (.comp [10, 11] (.tp [10, 11]) (.enum (.var 0)) (.some (.cmp .gt (.idx (.var 11) (.var 4)) (.var 5))) (.tup (.cons (.lit (.str [117, 112])) (.cons (.var 10) (.cons (.var 5) .nil)))))) .nil)) (.cons (.ret (.cmp .eq (.comp [7] (.nm 7) (.of (.var 6)) (.some (.cmp .nin (.var 7) (.var 1))) (.var 7)) (.lst .nil))) .nil))) }
def f__law_fitting : FD := { np := 3, nN := 4, keep := false, body := (.cons (.ret (.comp [3] (.nm 3) (.of (.call 56 (.cons (.var 0) (.cons (.var 2) .nil)))) (.some (.call 85 (.cons (.var 1) (.cons (.var 2) (.cons (.var 3) .nil))))) (.var 3))) .nil) }
def f__law_first_day : FD := { np := 2, nN := 4, keep := false, body := (.cons (.asg (.nm 2) (.tup .nil)) (.cons (.for (.nm 3) (.rng (.bin .mul (.idx (.var 0) (.lit (.int 0))) (.bin .add (.idx (.var 0) (.lit (.int 1))) (.idx (.var 0) (.lit (.int 2)))))) (.cons (.asg (.nm 2) (.bin .add (.var 2) (.tup (.cons (.idx (.call 86 (.cons (.var 0) (.cons (.var 1) (.cons (.var 2) .nil)))) (.lit (.int 0))) .nil)))) .nil)) (.cons (.ret (.var 2)) .nil))) }
def f_is_day_of : FD := { np := 3, nN := 3, keep := false, body := (.cons (.ex (.call 72 (.cons (.var 0) (.cons (.var 1) .nil)))) (.cons (.ret (.andE (.call 62 (.cons (.var 0) (.cons (.var 2) .nil))) (.cmp .eq (.call 69 (.cons (.var 0) (.cons (.var 2) .nil))) (.var 1)))) .nil)) }
def f__law_day_by : FD := { np := 3, nN := 5, keep := false, body := (.cons (.asg (.nm 3) (.tup .nil)) (.cons (.for (.nm 4) (.rng (.bin .mul (.idx (.var 1) (.lit (.int 0))) (.bin .add (.idx (.var 1) (.lit (.int 1))) (.idx (.var 1) (.lit (.int 2)))))) (.cons (.asg (.nm 3) (.bin .add (.var 3) (.tup (.cons (.call 37 (.cons (.var 0) (.cons (.call 86 (.cons (.var 1) (.cons (.var 2) (.cons (.var 3) .nil)))) .nil))) .nil)))) .nil)) (.cons (.ret (.var 3)) .nil))) }
def f_exchanges : FD := { np := 2, nN := 7, keep := false, body := (.cons (.ex (.call 68 (.cons (.var 0) (.cons (.var 1) .nil)))) (.cons (.asg (.nm 2) (.mk (.lst .nil))) (.cons (.asg (.nm 3) (.mk (.lst .nil))) (.cons (.for (.nm 4) (.rng (.bin .sub (.blt .len (.cons (.var 1) .nil)) (.lit (.int 1)))) (.cons (.par [5, 6] (.cons (.idx (.var 1) (.var 4)) (.cons (.idx (.var 1) (.bin .add (.var 4) (.lit (.int 1)))) .nil))) (.cons (.iff (.call 62 (.cons (.var 0) (.cons (.bin .add (.bin .add (.slc (.var 1) .none (.some (.var 4))) (.tup (.cons (.var 6) (.cons (.var 5) .nil)))) (.slc (.var 1) (.some (.bin .add (.var 4) (.lit (.int 2)))) .none)) .nil))) (.cons (.iff (.cmp .eq (.idx (.var 5) (.lit (.int 2))) (.idx (.var 6) (.lit (.int 2)))) (.cons (.ex (.mth .append (.var 3) (.cons (.var 4) .nil))) .nil) (.cons (.ex (.mth .append (.var 2) (.cons (.var 4) .nil))) .nil)) .nil) .nil) .nil))) (.cons (.ret (.tup (.cons (.blt .tuple (.cons (.var 2) .nil)) (.cons (.blt .tuple (.cons (.var 3) .nil)) .nil)))) .nil))))) }
def f_backward : FD := { np := 2, nN := 9, keep := false, body := (.cons (.ex (.call 68 (.cons (.var 0) (.cons (.var 1) .nil)))) (.cons (.asg (.tp [3, 4, 5]) (.var 0)) (.cons (.asg (.nm 2) (.dct [.inr [117, 112], .inr [100, 111, 119, 110]] (.cons (.bin .sub (.var 4) (.lit (.int 1))) (.cons (.bin .sub (.var 5) (.lit (.int 1))) .nil)))) (.cons (.ret (.blt .tuple (.cons (.comp [6, 7, 8] (.tp [6, 7, 8]) (.revA (.var 1)) .none (.tup (.cons (.call 93 (.cons (.var 6) .nil)) (.cons (.bin .sub (.idx (.var 2) (.var 6)) (.var 7)) (.cons (.var 8) .nil))))) .nil))) .nil)))) }
def f_upside_down : FD := { np := 2, nN := 6, keep := false, body := (.cons (.ex (.call 68 (.cons (.var 0) (.cons (.var 1) .nil)))) (.cons (.asg (.nm 2) (.bin .sub (.idx (.var 0) (.lit (.int 0))) (.lit (.int 1)))) (.cons (.ret (.blt .tuple (.cons (.comp [3, 4, 5] (.tp [3, 4, 5]) (.of (.var 1)) .none (.tup (.cons (.call 93 (.cons (.var 3) .nil)) (.cons (.var 4) (.cons (.bin .sub (.var 2) (.var 5)) .nil))))) .nil))) .nil))) }
def f_other_way : FD := { np := 1, nN := 1, keep := false, body := (.cons (.ret (.ite (.cmp .eq (.var 0) (.lit (.str [117, 112]))) (.lit (.str [100, 111, 119, 110])) (.lit (.str [117, 112])))) .nil) }
def f_upside_down_table : FD := { np := 2, nN := 7, keep := false, body := (.cons (.ex (.call 72 (.cons (.var 0) (.cons (.var 1) .nil)))) (.cons (.asg (.tp [2, 3, 4]) (.var 0)) (.cons (.ret (.blt .tuple (.cons (.comp [5] (.nm 5) (.rng (.var 4)) .none (.blt .tuple (.cons (.comp [6] (.nm 6) (.rng (.var 3)) .none (.bin .sub (.var 2) (.idx (.idx (.var 1) (.var 6)) (.var 5)))) .nil))) .nil))) .nil))) }
def f__wall : FD := { np := 1, nN := 1, keep := false, body := (.cons (.whl (.lit (.bl true)) (.cons .pass .nil)) .nil) }
def f_many_days : FD := { np := 1, nN := 5, keep := false, body := (.cons (.ex (.call 42 (.cons (.var 0) .nil))) (.cons (.asg (.tp [2, 3, 4]) (.var 0)) (.cons (.asg (.nm 1) (.blt .comb (.cons (.bin .mul (.var 2) (.bin .add (.var 3) (.var 4))) (.cons (.bin .mul (.var 2) (.var 3)) .nil)))) (.cons (.ret (.bin .mul (.bin .mul (.var 1) (.call 97 (.cons (.var 2) (.cons (.var 3) .nil)))) (.call 97 (.cons (.var 2) (.cons (.var 4) .nil))))) .nil)))) }
def f_orders_of_way : FD := { np := 2, nN := 5, keep := false, body := (.cons (.asg (.nm 2) (.lit (.int 1))) (.cons (.for (.nm 3) (.rng (.var 0)) (.cons (.for (.nm 4) (.rng (.var 1)) (.cons (.asg (.nm 2) (.bin .mul (.var 2) (.bin .add (.bin .add (.var 3) (.var 4)) (.lit (.int 1))))) .nil)) .nil)) (.cons (.ret (.bin .fdiv (.blt .fact (.cons (.bin .mul (.var 0) (.var 1)) .nil)) (.var 2))) .nil))) }
def f_least_day : FD := { np := 1, nN := 8, keep := false, body := (.cons (.ex (.call 42 (.cons (.var 0) .nil))) (.cons (.asg (.tp [3, 4, 5]) (.var 0)) (.cons (.asg (.nm 1) (.comp2 [6, 7] [7] (.nm 6) (.rng (.var 5)) .none (.nm 7) (.rev (.var 3)) .none (.tup (.cons (.lit (.str [100, 111, 119, 110])) (.cons (.var 6) (.cons (.var 7) .nil)))))) (.cons (.asg (.nm 2) (.comp2 [6, 7] [7] (.nm 6) (.rng (.var 4)) .none (.nm 7) (.rng (.var 3)) .none (.tup (.cons (.lit (.str [117, 112])) (.cons (.var 6) (.cons (.var 7) .nil)))))) (.cons (.ret (.blt .tuple (.cons (.bin .add (.var 1) (.var 2)) .nil))) .nil))))) }
def f_backward_table : FD := { np := 2, nN := 7, keep := false, body := (.cons (.ex (.call 72 (.cons (.var 0) (.cons (.var 1) .nil)))) (.cons (.asg (.tp [2, 3, 4]) (.var 0)) (.cons (.ret (.blt .tuple (.cons (.comp [5] (.nm 5) (.rev (.var 4)) .none (.blt .tuple (.cons (.comp [6] (.nm 6) (.rev (.var 3)) .none (.idx (.idx (.var 1) (.var 6)) (.var 5))) .nil))) .nil))) .nil))) }
def f__law_met : FD := { np := 2, nN := 10, keep := true, body := (.cons (.asg (.nm 2) .newT) (.cons (.for (.nm 3) (.rng (.bin .add (.blt .len (.cons (.var 1) .nil)) (.lit (.int 1)))) (.cons (.asg (.tp [4, 5]) (.call 61 (.cons (.var 0) (.cons (.slc (.var 1) .none (.some (.var 3))) .nil)))) (.cons (.for (.tp [6, 7]) (.enum (.var 4)) (.cons (.for (.nm 8) (.of (.comp [8, 9] (.tp [8, 9]) (.enum (.var 5)) (.some (.cmp .eq (.var 9) (.var 7))) (.var 8))) (.cons (.setT (.var 2) (.cons (.var 6) (.cons (.var 8) .nil)) (.getT (.var 2) (.cons (.var 6) (.cons (.var 8) .nil)) (.var 7))) .nil)) .nil)) .nil))) (.cons (.ret (.var 2)) .nil))) }
def f__law_table_of : FD := { np := 2, nN := 5, keep := false, body := (.cons (.asg (.nm 2) (.call 100 (.cons (.var 0) (.cons (.var 1) .nil)))) (.cons (.ret (.blt .tuple (.cons (.comp [3] (.nm 3) (.rng (.idx (.var 0) (.lit (.int 1)))) .none (.blt .tuple (.cons (.comp [4] (.nm 4) (.rng (.idx (.var 0) (.lit (.int 2)))) .none (.idxT (.var 2) (.cons (.var 3) (.cons (.var 4) .nil)))) .nil))) .nil))) .nil)) }
def f_wait_of : FD := { np := 4, nN := 6, keep := false, body := (.cons (.asg (.nm 4) (.ite (.cmp .eq (.var 1) (.lit (.str [117, 112]))) (.bin .sub (.var 3) (.lit (.int 1))) (.bin .add (.var 3) (.lit (.int 1))))) (.cons (.asg (.nm 5) (.getT (.var 0) (.cons (.var 1) (.cons (.var 2) (.cons (.var 4) .nil))) (.lit .non))) (.cons (.ret (.ite (.cmp .isN (.var 5) (.lit .non)) (.lit .non) (.tup (.cons (.var 4) (.cons (.bin .add (.var 5) (.lit (.int 1))) .nil))))) .nil))) }
def f_next_ones : FD := { np := 2, nN := 4, keep := false, body := (.cons (.asg (.nm 2) (.call 51 (.cons (.var 0) (.cons (.var 1) .nil)))) (.cons (.ret (.blt .tuple (.cons (.comp [3] (.nm 3) (.of (.call 104 (.cons (.var 0) .nil))) (.some (.call 48 (.cons (.var 2) (.cons (.var 3) .nil)))) (.var 3)) .nil))) .nil)) }
def f_all_passings : FD := { np := 1, nN := 4, keep := false, body := (.cons (.ret (.comp3 [1, 2, 3] [2, 3] [3] (.nm 1) (.of (.glo [87, 65, 89, 83] (.tup [(.str [100, 111, 119, 110]), (.str [117, 112])]))) (.nm 2) (.rng (.call 43 (.cons (.var 0) (.cons (.var 1) .nil)))) (.nm 3) (.rng (.idx (.var 0) (.lit (.int 0)))) (.tup (.cons (.var 1) (.cons (.var 2) (.cons (.var 3) .nil)))))) .nil) }
def f_many_tables : FD := { np := 1, nN := 1, keep := false, body := (.cons (.ex (.call 42 (.cons (.var 0) .nil))) (.cons (.ret (.call 110 (.cons (.var 0) (.cons (.call 106 (.cons (.var 0) .nil)) .nil)))) .nil)) }
def f_widest : FD := { np := 1, nN := 4, keep := false, body := (.cons (.asg (.tp [1, 2, 3]) (.var 0)) (.cons (.ret (.bin .mul (.lst (.cons (.tup (.cons (.lit (.int 0)) (.cons (.var 1) .nil))) .nil)) (.bin .mul (.var 2) (.var 3)))) .nil)) }
def f_first_front : FD := { np := 1, nN := 4, keep := false, body := (.cons (.asg (.tp [1, 2, 3]) (.var 0)) (.cons (.ret (.bin .mul (.tup (.cons (.var 1) .nil)) (.var 3))) .nil)) }
def f_filled : FD := { np := 3, nN := 4, keep := false, body := (.cons (.asg (.nm 3) (.bin .mod (.var 1) (.blt .len (.cons (.var 0) .nil)))) (.cons (.ret (.bin .add (.bin .add (.slc (.var 0) .none (.some (.var 3))) (.tup (.cons (.var 2) .nil))) (.slc (.var 0) (.some (.bin .add (.var 3) (.lit (.int 1)))) .none))) .nil)) }
def f_pounds_let : FD := { np := 3, nN := 6, keep := false, body := (.cons (.asg (.tp [4, 5]) (.idx (.var 0) (.var 1))) (.cons (.asg (.nm 3) (.bin .mod (.var 1) (.blt .len (.cons (.var 2) .nil)))) (.cons (.iff (.cmp .gt (.var 3) (.lit (.int 0))) (.cons (.asg (.nm 4) (.blt .max2 (.cons (.var 4) (.cons (.idx (.var 2) (.bin .sub (.var 3) (.lit (.int 1)))) .nil)))) .nil) .nil) (.cons (.ret (.lrng (.var 4) (.bin .add (.blt .min2 (.cons (.var 5) (.cons (.idx (.var 2) (.var 3)) .nil))) (.lit (.int 1))))) .nil)))) }
def f_many_within : FD := { np := 2, nN := 2, keep := false, body := (.cons (.ret (.call 111 (.cons (.var 1) (.cons .newN (.cons (.lit (.int 0)) (.cons (.call 107 (.cons (.var 0) .nil)) .nil)))))) .nil) }
def f_many_onward : FD := { np := 4, nN := 6, keep := false, body := (.cons (.iff (.cmp .eq (.var 2) (.blt .len (.cons (.var 0) .nil))) (.cons (.ret (.lit (.int 1))) .nil) .nil) (.cons (.asg (.nm 4) (.tup (.cons (.var 2) (.cons (.var 3) .nil)))) (.cons (.iff (.cmp .nin (.var 4) (.var 1)) (.cons (.set (.var 1) (.var 4) (.blt .sum (.cons (.comp [5] (.nm 5) (.of (.call 109 (.cons (.var 0) (.cons (.var 2) (.cons (.var 3) .nil))))) .none (.call 111 (.cons (.var 0) (.cons (.var 1) (.cons (.bin .add (.var 2) (.lit (.int 1))) (.cons (.call 108 (.cons (.var 3) (.cons (.var 2) (.cons (.var 5) .nil)))) .nil)))))) .nil))) .nil) .nil) (.cons (.ret (.idx (.var 1) (.var 4))) .nil)))) }
def f__law_by_product : FD := { np := 1, nN := 5, keep := false, body := (.cons (.asg (.tp [2, 3]) (.tup (.cons (.lit (.int 1)) (.cons (.lit (.int 1)) .nil)))) (.cons (.for (.nm 1) (.rng (.idx (.var 0) (.lit (.int 1)))) (.cons (.for (.nm 4) (.rng (.idx (.var 0) (.lit (.int 2)))) (.cons (.asg (.nm 2) (.bin .mul (.var 2) (.bin .add (.bin .add (.bin .add (.var 1) (.var 4)) (.idx (.var 0) (.lit (.int 0)))) (.lit (.int 1))))) (.cons (.asg (.nm 3) (.bin .mul (.var 3) (.bin .add (.bin .add (.var 1) (.var 4)) (.lit (.int 1))))) .nil))) .nil)) (.cons (.ret (.bin .fdiv (.var 2) (.var 3))) .nil))) }
def f_number_of : FD := { np := 2, nN := 11, keep := false, body := (.cons (.ex (.call 72 (.cons (.var 0) (.cons (.var 1) .nil)))) (.cons (.asg (.nm 2) (.call 106 (.cons (.var 0) .nil))) (.cons (.asg (.nm 3) .newN) (.cons (.asg (.nm 4) (.call 107 (.cons (.var 0) .nil))) (.cons (.asg (.nm 5) (.lit (.int 0))) (.cons (.for (.tp [6, 7]) (.enum (.comp2 [9, 10] [10] (.nm 9) (.of (.var 1)) .none (.nm 10) (.of (.var 9)) .none (.var 10))) (.cons (.for (.nm 8) (.of (.call 109 (.cons (.var 2) (.cons (.var 6) (.cons (.var 4) .nil))))) (.cons (.iff (.cmp .lt (.var 8) (.var 7)) (.cons (.aug 5 .add (.call 111 (.cons (.var 2) (.cons (.var 3) (.cons (.bin .add (.var 6) (.lit (.int 1))) (.cons (.call 108 (.cons (.var 4) (.cons (.var 6) (.cons (.var 8) .nil)))) .nil)))))) .nil) .nil) .nil)) (.cons (.asg (.nm 4) (.call 108 (.cons (.var 4) (.cons (.var 6) (.cons (.var 7) .nil))))) .nil))) (.cons (.ret (.var 5)) .nil))))))) }
def f_table_at (RS : St') : FD := { np := 2, nN := 11, keep := false, body := (.cons (.ex (.call 42 (.cons (.var 0) .nil))) (.cons (.asg (.tp [7, 8, 9]) (.var 0)) (.cons (.asg (.nm 2) (.call 106 (.cons (.var 0) .nil))) (.cons (.asg (.nm 3) .newN) (.cons (.asg (.nm 4) (.call 107 (.cons (.var 0) .nil))) (.cons (.iff (.notE (.call 31 (.cons (.var 1) (.cons (.lit (.int 0)) (.cons (.bin .sub (.call 111 (.cons (.var 2) (.cons (.var 3) (.cons (.lit (.int 0)) (.cons (.var 4) .nil))))) (.lit (.int 1))) .nil))))) (.cons RS .nil) .nil) (.cons (.asg (.nm 5) (.mk (.lst .nil))) (.cons (.for (.nm 6) (.rng (.var 8)) (.cons (.for (.nm 10) (.rng2 (.bin .mul (.var 6) (.var 9)) (.bin .mul (.bin .add (.var 6) (.lit (.int 1))) (.var 9))) (.cons (.asg (.tp [4, 1]) (.call 115 (.cons (.var 2) (.cons (.var 3) (.cons (.var 10) (.cons (.var 4) (.cons (.var 1) .nil))))))) .nil)) (.cons (.ex (.mth .append (.var 5) (.cons (.var 4) .nil))) .nil))) (.cons (.ret (.blt .tuple (.cons (.var 5) .nil))) .nil))))))))) }
def f_front_at : FD := { np := 5, nN := 8, keep := false, body := (.cons (.asg (.nm 5) (.var 3)) (.cons (.for (.nm 6) (.of (.call 109 (.cons (.var 0) (.cons (.var 2) (.cons (.var 3) .nil))))) (.cons (.asg (.nm 5) (.call 108 (.cons (.var 3) (.cons (.var 2) (.cons (.var 6) .nil))))) (.cons (.asg (.nm 7) (.call 111 (.cons (.var 0) (.cons (.var 1) (.cons (.bin .add (.var 2) (.lit (.int 1))) (.cons (.var 5) .nil)))))) (.cons (.iff (.cmp .lt (.var 4) (.var 7)) (.cons .brk .nil) .nil) (.cons (.aug 4 .sub (.var 7)) .nil))))) (.cons (.ret (.tup (.cons (.var 5) (.cons (.var 4) .nil)))) .nil))) }
def f__law_great : FD := { np := 1, nN := 1, keep := false, body := (.cons (.ret (.call 37 (.cons (.var 0) (.cons (.lst (.cons (.tup (.cons (.lit (.int 5)) (.cons (.lit (.int 4)) (.cons (.lit (.int 4)) .nil)))) (.cons (.tup (.cons (.lit (.int 4)) (.cons (.lit (.int 4)) (.cons (.lit (.int 3)) .nil)))) (.cons (.tup (.cons (.lit (.int 5)) (.cons (.lit (.int 3)) (.cons (.lit (.int 4)) .nil)))) (.cons (.tup (.cons (.lit (.int 5)) (.cons (.lit (.int 4)) (.cons (.lit (.int 4)) .nil)))) (.cons (.call 39 (.cons (.var 0) (.cons (.lit (.int 5)) (.cons (.lit (.int 4)) .nil)))) .nil)))))) .nil)))) .nil) }
def f_one_off : FD := { np := 2, nN := 2, keep := false, body := (.cons (.ex (.call 72 (.cons (.var 0) (.cons (.var 1) .nil)))) (.cons (.ret (.blt .tuple (.cons (.call 118 (.cons (.var 0) (.cons (.var 1) .nil))) .nil))) .nil)) }
def f_near_tables : FD := { np := 2, nN := 10, keep := false, body := (.cons (.asg (.tp [3, 4, 5]) (.var 0)) (.cons (.asg (.nm 2) (.comp3 [6, 7, 8] [7, 8] [8] (.nm 6) (.rng (.var 4)) (.nm 7) (.rng (.var 5)) (.nm 8) (.of (.tup (.cons (.neg (.lit (.int 1))) (.cons (.lit (.int 1)) .nil)))) (.call 119 (.cons (.var 1) (.cons (.var 6) (.cons (.var 7) (.cons (.var 8) .nil))))))) (.cons (.ret (.blt .sorted (.cons (.comp [9] (.nm 9) (.of (.var 2)) (.some (.call 63 (.cons (.var 0) (.cons (.var 9) .nil)))) (.var 9)) .nil))) .nil))) }
def f_changed : FD := { np := 4, nN := 5, keep := false, body := (.cons (.asg (.nm 4) (.idx (.var 0) (.var 1))) (.cons (.asg (.nm 4) (.bin .add (.bin .add (.slc (.var 4) .none (.some (.var 2))) (.tup (.cons (.bin .add (.idx (.var 4) (.var 2)) (.var 3)) .nil))) (.slc (.var 4) (.some (.bin .add (.var 2) (.lit (.int 1)))) .none))) (.cons (.ret (.bin .add (.bin .add (.slc (.var 0) .none (.some (.var 1))) (.tup (.cons (.var 4) .nil))) (.slc (.var 0) (.some (.bin .add (.var 1) (.lit (.int 1)))) .none))) .nil))) }
def f_need_tables : FD := { np := 3, nN := 3, keep := false, body := (.cons (.ex (.call 72 (.cons (.var 0) (.cons (.var 1) .nil)))) (.cons (.ex (.call 72 (.cons (.var 0) (.cons (.var 2) .nil)))) .nil)) }
def f_lesser : FD := { np := 3, nN := 7, keep := false, body := (.cons (.ex (.call 120 (.cons (.var 0) (.cons (.var 1) (.cons (.var 2) .nil))))) (.cons (.ret (.blt .tuple (.cons (.comp [3, 4] (.tp [3, 4]) (.zip (.var 1) (.var 2)) .none (.blt .tuple (.cons (.comp [5, 6] (.tp [5, 6]) (.zip (.var 3) (.var 4)) .none (.blt .min2 (.cons (.var 5) (.cons (.var 6) .nil)))) .nil))) .nil))) .nil)) }
def f_greater : FD := { np := 3, nN := 7, keep := false, body := (.cons (.ex (.call 120 (.cons (.var 0) (.cons (.var 1) (.cons (.var 2) .nil))))) (.cons (.ret (.blt .tuple (.cons (.comp [3, 4] (.tp [3, 4]) (.zip (.var 1) (.var 2)) .none (.blt .tuple (.cons (.comp [5, 6] (.tp [5, 6]) (.zip (.var 3) (.var 4)) .none (.blt .max2 (.cons (.var 5) (.cons (.var 6) .nil)))) .nil))) .nil))) .nil)) }
def f_how_far : FD := { np := 3, nN := 3, keep := false, body := (.cons (.ex (.call 120 (.cons (.var 0) (.cons (.var 1) (.cons (.var 2) .nil))))) (.cons (.ret (.call 124 (.cons (.var 1) (.cons (.var 2) .nil)))) .nil)) }
def f_distance : FD := { np := 2, nN := 6, keep := false, body := (.cons (.ret (.blt .sum (.cons (.comp2 [2, 3, 4, 5] [4, 5] (.tp [2, 3]) (.zip (.var 0) (.var 1)) .none (.tp [4, 5]) (.zip (.var 2) (.var 3)) .none (.blt .abs (.cons (.bin .sub (.var 4) (.var 5)) .nil))) .nil))) .nil) }
def f__law_two : FD := { np := 2, nN := 5, keep := false, body := (.cons (.asg (.nm 2) (.call 67 (.cons (.var 0) (.cons (.var 1) .nil)))) (.cons (.asg (.nm 3) (.comp [4] (.nm 4) (.of (.tup (.cons (.lit (.int 0)) (.cons (.idx (.var 1) (.lit (.int 0))) .nil)))) .none (.bin .mul (.tup (.cons (.bin .mul (.tup (.cons (.var 4) .nil)) (.idx (.var 1) (.lit (.int 2)))) .nil)) (.idx (.var 1) (.lit (.int 1)))))) (.cons (.ret (.tup (.cons (.var 2) (.cons (.call 37 (.cons (.var 0) (.cons (.bin .add (.lst (.cons (.call 67 (.cons (.var 0) (.cons (.var 1) .nil))) (.cons (.call 67 (.cons (.var 0) (.cons (.var 1) .nil))) (.cons (.var 2) .nil)))) (.var 3)) .nil))) .nil)))) .nil))) }
def f_shortest : FD := { np := 3, nN := 8, keep := false, body := (.cons (.ex (.call 120 (.cons (.var 0) (.cons (.var 1) (.cons (.var 2) .nil))))) (.cons (.asg (.nm 3) (.var 1)) (.cons (.asg (.nm 4) (.mk (.lst (.cons (.var 3) .nil)))) (.cons (.for (.nm 5) (.rev (.call 124 (.cons (.var 1) (.cons (.var 2) .nil)))) (.cons (.asg (.nm 6) (.call 118 (.cons (.var 0) (.cons (.var 3) .nil)))) (.cons (.asg (.nm 3) (.blt .minL (.cons (.comp [7] (.nm 7) (.of (.var 6)) (.some (.cmp .eq (.call 124 (.cons (.var 7) (.cons (.var 2) .nil))) (.var 5))) (.var 7)) .nil))) (.cons (.ex (.mth .append (.var 4) (.cons (.var 3) .nil))) .nil)))) (.cons (.ret (.blt .tuple (.cons (.var 4) .nil))) .nil))))) }
def f_leads : FD := { np := 4, nN := 7, keep := false, body := (.cons (.ex (.call 120 (.cons (.var 0) (.cons (.var 1) (.cons (.var 2) .nil))))) (.cons (.iff (.orE (.notE (.isi .tuple (.var 3))) (.cmp .eq (.blt .len (.cons (.var 3) .nil)) (.lit (.int 0)))) (.cons (.ret (.lit (.bl false))) .nil) .nil) (.cons (.iff (.notE (.blt .all (.cons (.comp [4] (.nm 4) (.of (.var 3)) .none (.call 63 (.cons (.var 0) (.cons (.var 4) .nil)))) .nil))) (.cons (.ret (.lit (.bl false))) .nil) .nil) (.cons (.iff (.orE (.cmp .ne (.idx (.var 3) (.lit (.int 0))) (.var 1)) (.cmp .ne (.idx (.var 3) (.neg (.lit (.int 1)))) (.var 2))) (.cons (.ret (.lit (.bl false))) .nil) .nil) (.cons (.ret (.blt .all (.cons (.comp [5, 6] (.tp [5, 6]) (.zip (.var 3) (.slc (.var 3) (.some (.lit (.int 1))) .none)) .none (.cmp .eq (.call 124 (.cons (.var 5) (.cons (.var 6) .nil))) (.lit (.int 1)))) .nil))) .nil))))) }
def f_is_sight : FD := { np := 2, nN := 9, keep := false, body := (.cons (.iff (.notE (.call 32 (.cons (.var 1) (.cons (.lit (.int 4)) .nil)))) (.cons (.ret (.lit (.bl false))) .nil) .nil) (.cons (.asg (.tp [2, 3, 4]) (.var 0)) (.cons (.asg (.tp [5, 6, 7, 8]) (.var 1)) (.cons (.iff (.orE (.notE (.call 31 (.cons (.var 5) (.cons (.lit (.int 0)) (.cons (.bin .sub (.var 3) (.lit (.int 1))) .nil))))) (.notE (.call 31 (.cons (.var 6) (.cons (.lit (.int 0)) (.cons (.bin .sub (.var 4) (.lit (.int 1))) .nil)))))) (.cons (.ret (.lit (.bl false))) .nil) .nil) (.cons (.ret (.andE (.call 31 (.cons (.var 7) (.cons (.lit (.int 0)) (.cons (.var 2) .nil)))) (.call 31 (.cons (.var 8) (.cons (.var 7) (.cons (.var 2) .nil)))))) .nil))))) }
def f_need_sights (RS : St') : FD := { np := 2, nN := 4, keep := false, body := (.cons (.ex (.call 42 (.cons (.var 0) .nil))) (.cons (.asg (.nm 2) (.andE (.isi .tuple (.var 1)) (.cmp .le (.blt .len (.cons (.var 1) .nil)) (.glo [77, 79, 83, 84, 95, 83, 73, 71, 72, 84, 83] (.int 100))))) (.cons (.iff (.orE (.notE (.var 2)) (.notE (.blt .all (.cons (.comp [3] (.nm 3) (.of (.var 1)) .none (.call 128 (.cons (.var 0) (.cons (.var 3) .nil)))) .nil)))) (.cons RS .nil) .nil) .nil))) }
def f_least_pound : FD := { np := 4, nN := 9, keep := false, body := (.cons (.asg (.tp [4, 5, 6]) (.var 0)) (.cons (.ret (.blt .maxL (.cons (.comp2 [7, 8] [8] (.nm 7) (.rng2 (.var 2) (.var 5)) .none (.nm 8) (.rng (.bin .add (.var 3) (.lit (.int 1)))) .none (.idx (.idx (.var 1) (.bin .add (.bin .mul (.var 7) (.var 6)) (.var 8))) (.lit (.int 0)))) .nil))) .nil)) }
def f_greatest_pound : FD := { np := 4, nN := 7, keep := false, body := (.cons (.asg (.nm 4) (.idx (.var 0) (.lit (.int 2)))) (.cons (.ret (.blt .minL (.cons (.comp2 [5, 6] [6] (.nm 5) (.rng (.bin .add (.var 2) (.lit (.int 1)))) .none (.nm 6) (.rng2 (.var 3) (.var 4)) .none (.idx (.idx (.var 1) (.bin .add (.bin .mul (.var 5) (.var 4)) (.var 6))) (.lit (.int 1)))) .nil))) .nil)) }
def f_in_lines : FD := { np := 2, nN := 6, keep := false, body := (.cons (.asg (.tp [2, 3, 4]) (.var 0)) (.cons (.ret (.blt .tuple (.cons (.comp [5] (.nm 5) (.rng (.var 3)) .none (.blt .tuple (.cons (.slc (.var 1) (.some (.bin .mul (.var 5) (.var 4))) (.some (.bin .mul (.bin .add (.var 5) (.lit (.int 1))) (.var 4)))) .nil))) .nil))) .nil)) }
def f__law_sights : FD := { np := 3, nN := 13, keep := false, body := (.cons (.asg (.tp [4, 5, 6]) (.var 1)) (.cons (.par [7, 8] (.cons (.tup .nil) (.cons (.call 67 (.cons (.var 0) (.cons (.var 1) .nil))) .nil))) (.cons (.for (.nm 3) (.rng (.bin .mul (.call 36 (.cons (.var 0) (.cons (.bin .add (.var 2) (.lit (.int 1))) .nil))) (.blt .int (.cons (.cmp .gt (.bin .mul (.var 5) (.var 6)) (.lit (.int 0))) .nil)))) (.cons (.par [11, 12] (.cons (.call 36 (.cons (.var 0) (.cons (.var 5) .nil))) (.cons (.call 36 (.cons (.var 0) (.cons (.var 6) .nil))) .nil))) (.cons (.asg (.nm 9) (.blt .max2 (.cons (.lit (.int 0)) (.cons (.bin .sub (.idx (.idx (.var 8) (.var 11)) (.var 12)) (.call 36 (.cons (.var 0) (.cons (.lit (.int 2)) .nil)))) .nil)))) (.cons (.asg (.nm 10) (.blt .min2 (.cons (.var 4) (.cons (.bin .add (.idx (.idx (.var 8) (.var 11)) (.var 12)) (.call 36 (.cons (.var 0) (.cons (.lit (.int 2)) .nil)))) .nil)))) (.cons (.iff (.cmp .eq (.call 36 (.cons (.var 0) (.cons (.lit (.int 6)) .nil))) (.lit (.int 0))) (.cons (.asg (.nm 9) (.call 36 (.cons (.var 0) (.cons (.bin .add (.var 4) (.lit (.int 1))) .nil)))) (.cons (.asg (.nm 10) (.bin .add (.var 9) (.call 36 (.cons (.var 0) (.cons (.bin .sub (.bin .add (.var 4) (.lit (.int 1))) (.var 9)) .nil))))) .nil)) .nil) (.cons (.asg (.nm 7) (.bin .add (.var 7) (.tup (.cons (.tup (.cons (.var 11) (.cons (.var 12) (.cons (.var 9) (.cons (.var 10) .nil))))) .nil)))) .nil)))))) (.cons (.ret (.var 7)) .nil)))) }
def f__law_agrees : FD := { np := 2, nN := 6, keep := false, body := (.cons (.ret (.cmp .eq (.comp [2, 3, 4, 5] (.tp [2, 3, 4, 5]) (.of (.var 1)) (.some (.notE (.chn .le .le (.var 4) (.idx (.idx (.var 0) (.var 2)) (.var 3)) (.var 5)))) (.lit (.int 1))) (.lst .nil))) .nil) }
def f_sights_of (RS : St') : FD := { np := 3, nN := 3, keep := false, body := (.cons (.ex (.call 42 (.cons (.var 0) .nil))) (.cons (.ex (.call 73 (.cons (.var 0) (.cons (.var 1) .nil)))) (.cons (.iff (.notE (.call 78 (.cons (.var 0) (.cons (.var 2) .nil)))) (.cons RS .nil) .nil) (.cons (.ret (.call 136 (.cons (.var 0) (.cons (.var 1) (.cons (.var 2) .nil))))) .nil)))) }
def f_book_sights : FD := { np := 3, nN := 9, keep := false, body := (.cons (.asg (.tp [4, 5, 6]) (.var 0)) (.cons (.asg (.nm 3) (.call 71 (.cons (.var 2) .nil))) (.cons (.ret (.blt .tuple (.cons (.comp2 [7, 8] [8] (.nm 7) (.rng (.var 5)) .none (.nm 8) (.rng (.var 6)) .none (.ite (.cmp .lt (.var 7) (.idx (.var 3) (.var 8))) (.tup (.cons (.var 7) (.cons (.var 8) (.cons (.bin .add (.var 1) (.lit (.int 1))) (.cons (.var 4) .nil))))) (.tup (.cons (.var 7) (.cons (.var 8) (.cons (.lit (.int 0)) (.cons (.var 1) .nil))))))) .nil))) .nil))) }
def f_all_books : FD := { np := 1, nN := 5, keep := false, body := (.cons (.asg (.nm 1) (.lst (.cons (.tup .nil) .nil))) (.cons (.for (.nm 2) (.rng (.bin .add (.idx (.var 0) (.lit (.int 1))) (.idx (.var 0) (.lit (.int 2))))) (.cons (.asg (.nm 1) (.comp2 [3, 4] [4] (.nm 3) (.of (.var 1)) .none (.nm 4) (.of (.glo [87, 65, 89, 83] (.tup [(.str [100, 111, 119, 110]), (.str [117, 112])]))) (.some (.cmp .lt (.mth .count (.var 3) (.cons (.var 4) .nil)) (.call 43 (.cons (.var 0) (.cons (.var 4) .nil))))) (.bin .add (.var 3) (.tup (.cons (.var 4) .nil))))) .nil)) (.cons (.ret (.var 1)) .nil))) }
def f_need_gates (RS : St') : FD := { np := 2, nN := 4, keep := false, body := (.cons (.asg (.nm 2) (.andE (.call 32 (.cons (.var 1) (.cons (.idx (.var 0) (.lit (.int 0))) .nil))) (.blt .all (.cons (.comp [3] (.nm 3) (.of (.var 1)) .none (.cmp .inn (.var 3) (.tup (.cons (.lit (.str [108, 111, 119])) (.cons (.lit (.str [104, 105, 103, 104])) .nil))))) .nil)))) (.cons (.iff (.notE (.var 2)) (.cons RS .nil) .nil) .nil)) }
def f__law_gates : FD := { np := 2, nN := 3, keep := false, body := (.cons (.ret (.blt .tuple (.cons (.comp [2] (.nm 2) (.rng (.idx (.var 1) (.lit (.int 0)))) .none (.idx (.lst (.cons (.lit (.str [108, 111, 119])) (.cons (.lit (.str [104, 105, 103, 104])) .nil))) (.call 36 (.cons (.var 0) (.cons (.lit (.int 2)) .nil))))) .nil))) .nil) }
def f__law_by_day : FD := { np := 3, nN := 8, keep := false, body := (.cons (.par [3, 4] (.cons (.mk (.bin .mul (.lst (.cons (.lit (.int 0)) .nil)) (.idx (.var 0) (.lit (.int 0))))) (.cons (.blt .list (.cons (.var 2) .nil)) .nil))) (.cons (.for (.tp [5, 6, 7]) (.of (.var 1)) (.cons (.iff (.cmp .ne (.cmp .eq (.var 5) (.lit (.str [117, 112]))) (.cmp .eq (.idx (.var 4) (.var 7)) (.lit (.str [108, 111, 119])))) (.cons (.set (.var 3) (.var 7) (.bin .add (.idx (.var 3) (.var 7)) (.lit (.int 1)))) .nil) .nil) (.cons (.set (.var 4) (.var 7) (.ite (.cmp .eq (.var 5) (.lit (.str [117, 112]))) (.lit (.str [104, 105, 103, 104])) (.lit (.str [108, 111, 119])))) .nil))) (.cons (.ret (.lst (.cons (.blt .tuple (.cons (.var 3) .nil)) (.cons (.blt .tuple (.cons (.var 4) .nil)) .nil)))) .nil))) }
def f_limits_of : FD := { np := 2, nN := 12, keep := false, body := (.cons (.asg (.tp [4, 5, 6]) (.var 0)) (.cons (.asg (.nm 2) (.mk (.bin .mul (.lst (.cons (.lit (.int 0)) .nil)) (.bin .mul (.var 5) (.var 6))))) (.cons (.asg (.nm 3) (.mk (.bin .mul (.lst (.cons (.var 4) .nil)) (.bin .mul (.var 5) (.var 6))))) (.cons (.for (.tp [7, 8, 9, 10]) (.of (.var 1)) (.cons (.asg (.nm 11) (.bin .add (.bin .mul (.var 7) (.var 6)) (.var 8))) (.cons (.set (.var 2) (.var 11) (.blt .max2 (.cons (.idx (.var 2) (.var 11)) (.cons (.var 9) .nil)))) (.cons (.set (.var 3) (.var 11) (.blt .min2 (.cons (.idx (.var 3) (.var 11)) (.cons (.var 10) .nil)))) .nil)))) (.cons (.ret (.lzip (.var 2) (.var 3))) .nil))))) }
def f_many_agree : FD := { np := 2, nN := 2, keep := false, body := (.cons (.ex (.call 129 (.cons (.var 0) (.cons (.var 1) .nil)))) (.cons (.ret (.call 110 (.cons (.var 0) (.cons (.call 141 (.cons (.var 0) (.cons (.var 1) .nil))) .nil)))) .nil)) }
def f_span : FD := { np := 2, nN := 13, keep := false, body := (.cons (.ex (.call 129 (.cons (.var 0) (.cons (.var 1) .nil)))) (.cons (.asg (.tp [6, 7, 8]) (.var 0)) (.cons (.asg (.nm 2) (.call 141 (.cons (.var 0) (.cons (.var 1) .nil)))) (.cons (.asg (.nm 3) (.comp2 [9, 10] [10] (.nm 9) (.rng (.var 7)) .none (.nm 10) (.rng (.var 8)) .none (.tup (.cons (.var 9) (.cons (.var 10) .nil))))) (.cons (.asg (.nm 4) (.comp [9, 10] (.tp [9, 10]) (.of (.var 3)) .none (.call 130 (.cons (.var 0) (.cons (.var 2) (.cons (.var 9) (.cons (.var 10) .nil))))))) (.cons (.asg (.nm 5) (.comp [9, 10] (.tp [9, 10]) (.of (.var 3)) .none (.call 131 (.cons (.var 0) (.cons (.var 2) (.cons (.var 9) (.cons (.var 10) .nil))))))) (.cons (.iff (.blt .any (.cons (.comp [11, 12] (.tp [11, 12]) (.zip (.var 4) (.var 5)) .none (.cmp .gt (.var 11) (.var 12))) .nil)) (.cons (.ret (.lit .non)) .nil) .nil) (.cons (.ret (.tup (.cons (.call 132 (.cons (.var 0) (.cons (.var 4) .nil))) (.cons (.call 132 (.cons (.var 0) (.cons (.var 5) .nil))) .nil)))) .nil)))))))) }
def f_best_lock (RS : St') : FD := { np := 2, nN := 4, keep := false, body := (.cons (.iff (.cmp .isN (.call 143 (.cons (.var 0) (.cons (.var 1) .nil))) (.lit .non)) (.cons RS .nil) .nil) (.cons (.asg (.tp [2, 3]) (.blt .minL (.cons (.comp [3] (.nm 3) (.rng (.idx (.var 0) (.lit (.int 0)))) .none (.tup (.cons (.call 145 (.cons (.var 0) (.cons (.var 1) (.cons (.var 3) .nil)))) (.cons (.var 3) .nil)))) .nil))) (.cons (.ret (.tup (.cons (.var 3) (.cons (.var 2) .nil)))) .nil))) }
def f_most_left : FD := { np := 3, nN := 4, keep := false, body := (.cons (.ret (.blt .maxL (.cons (.comp [3] (.nm 3) (.of (.call 137 (.cons (.var 0) .nil))) .none (.call 110 (.cons (.var 0) (.cons (.call 141 (.cons (.var 0) (.cons (.bin .add (.var 1) (.call 136 (.cons (.var 0) (.cons (.var 2) (.cons (.var 3) .nil))))) .nil))) .nil)))) .nil))) .nil) }
def f_need_way (RS : St') : FD := { np := 1, nN := 1, keep := false, body := (.cons (.iff (.cmp .nin (.var 0) (.glo [87, 65, 89, 83] (.tup [(.str [100, 111, 119, 110]), (.str [117, 112])]))) (.cons RS .nil) .nil) .nil) }
def f_need_boat (RS : St') : FD := { np := 3, nN := 3, keep := false, body := (.cons (.iff (.notE (.call 31 (.cons (.var 2) (.cons (.lit (.int 0)) (.cons (.bin .sub (.call 43 (.cons (.var 0) (.cons (.var 1) .nil))) (.lit (.int 1))) .nil))))) (.cons RS .nil) .nil) .nil) }
def f_without : FD := { np := 4, nN := 5, keep := false, body := (.cons (.ex (.call 72 (.cons (.var 0) (.cons (.var 1) .nil)))) (.cons (.ex (.call 146 (.cons (.var 2) .nil))) (.cons (.ex (.call 147 (.cons (.var 0) (.cons (.var 2) (.cons (.var 3) .nil))))) (.cons (.iff (.cmp .eq (.var 2) (.lit (.str [117, 112]))) (.cons (.ret (.bin .add (.slc (.var 1) .none (.some (.var 3))) (.slc (.var 1) (.some (.bin .add (.var 3) (.lit (.int 1)))) .none))) .nil) .nil) (.cons (.ret (.blt .tuple (.cons (.comp [4] (.nm 4) (.of (.var 1)) .none (.bin .add (.slc (.var 4) .none (.some (.var 3))) (.slc (.var 4) (.some (.bin .add (.var 3) (.lit (.int 1)))) .none))) .nil))) .nil))))) }
def f_need_unseen (RS : St') : FD := { np := 4, nN := 5, keep := false, body := (.cons (.ex (.call 72 (.cons (.var 0) (.cons (.var 1) .nil)))) (.cons (.ex (.call 146 (.cons (.var 2) .nil))) (.cons (.asg (.nm 4) (.call 43 (.cons (.var 0) (.cons (.var 2) .nil)))) (.cons (.iff (.notE (.call 31 (.cons (.var 3) (.cons (.lit (.int 0)) (.cons (.var 4) .nil))))) (.cons RS .nil) .nil) (.cons (.iff (.cmp .eq (.var 4) (.glo [77, 79, 83, 84, 95, 66, 79, 65, 84, 83] (.int 4))) (.cons RS .nil) .nil) .nil))))) }
def f_many_unseen : FD := { np := 4, nN := 10, keep := false, body := (.cons (.ex (.call 149 (.cons (.var 0) (.cons (.var 1) (.cons (.var 2) (.cons (.var 3) .nil)))))) (.cons (.asg (.tp [5, 6, 7]) (.var 0)) (.cons (.asg (.tp [8, 9]) (.call 152 (.cons (.var 0) (.cons (.var 1) (.cons (.var 2) (.cons (.var 3) .nil)))))) (.cons (.asg (.nm 4) (.ite (.cmp .eq (.var 2) (.lit (.str [117, 112]))) (.tup (.cons (.var 5) (.cons (.lit (.int 1)) (.cons (.var 7) .nil)))) (.tup (.cons (.var 5) (.cons (.var 6) (.cons (.lit (.int 1)) .nil)))))) (.cons (.ret (.call 110 (.cons (.var 4) (.cons (.lzip (.var 8) (.var 9)) .nil)))) .nil))))) }
def f_unseen : FD := { np := 4, nN := 4, keep := false, body := (.cons (.ex (.call 149 (.cons (.var 0) (.cons (.var 1) (.cons (.var 2) (.cons (.var 3) .nil)))))) (.cons (.ret (.call 152 (.cons (.var 0) (.cons (.var 1) (.cons (.var 2) (.cons (.var 3) .nil)))))) .nil)) }
def f_edges : FD := { np := 4, nN := 11, keep := false, body := (.cons (.asg (.tp [5, 6, 7]) (.var 0)) (.cons (.iff (.cmp .eq (.var 2) (.lit (.str [117, 112]))) (.cons (.asg (.nm 8) (.bin .add (.bin .add (.lst (.cons (.bin .mul (.tup (.cons (.var 5) .nil)) (.var 7)) .nil)) (.blt .list (.cons (.var 1) .nil))) (.lst (.cons (.bin .mul (.tup (.cons (.lit (.int 0)) .nil)) (.var 7)) .nil)))) (.cons (.ret (.tup (.cons (.idx (.var 8) (.bin .add (.var 3) (.lit (.int 1)))) (.cons (.idx (.var 8) (.var 3)) .nil)))) .nil)) .nil) (.cons (.asg (.nm 4) (.comp [9] (.nm 9) (.rng (.var 7)) .none (.blt .tuple (.cons (.comp [10] (.nm 10) (.of (.var 1)) .none (.idx (.var 10) (.var 9))) .nil)))) (.cons (.asg (.nm 4) (.bin .add (.bin .add (.lst (.cons (.bin .mul (.tup (.cons (.lit (.int 0)) .nil)) (.var 6)) .nil)) (.var 4)) (.lst (.cons (.bin .mul (.tup (.cons (.var 5) .nil)) (.var 6)) .nil)))) (.cons (.ret (.tup (.cons (.idx (.var 4) (.var 3)) (.cons (.idx (.var 4) (.bin .add (.var 3) (.lit (.int 1)))) .nil)))) .nil))))) }
def f_meetings : FD := { np := 2, nN := 11, keep := false, body := (.cons (.asg (.nm 2) (.call 47 (.cons (.var 0) .nil))) (.cons (.asg (.nm 3) (.mk (.lst .nil))) (.cons (.for (.nm 4) (.of (.var 1)) (.cons (.asg (.tp [6, 7, 8]) (.var 4)) (.cons (.ex (.call 49 (.cons (.var 2) (.cons (.var 4) .nil)))) (.cons (.asg (.nm 5) (.idx (.idx (.var 2) (.var 6)) (.var 7))) (.cons (.for (.tp [9, 10]) (.enum (.idx (.var 2) (.call 93 (.cons (.var 6) .nil)))) (.cons (.iff (.cmp .eq (.var 10) (.var 5)) (.cons (.ex (.mth .append (.var 3) (.cons (.ite (.cmp .eq (.var 6) (.lit (.str [117, 112]))) (.tup (.cons (.var 7) (.cons (.var 9) (.cons (.var 10) .nil)))) (.tup (.cons (.var 9) (.cons (.var 7) (.cons (.var 10) .nil))))) .nil))) .nil) .nil) .nil)) .nil))))) (.cons (.ret (.var 3)) .nil)))) }
def f__law_passing : FD := { np := 4, nN := 7, keep := false, body := (.cons (.asg (.nm 4) (.blt .len (.cons (.comp [6] (.nm 6) (.of (.var 1)) (.some (.cmp .eq (.slc (.var 6) .none (.some (.lit (.int 2)))) (.tup (.cons (.var 2) (.cons (.var 3) .nil))))) (.lit (.int 1))) .nil))) (.cons (.asg (.nm 5) (.ite (.cmp .eq (.var 2) (.lit (.str [117, 112]))) (.var 4) (.bin .sub (.bin .sub (.idx (.var 0) (.lit (.int 0))) (.lit (.int 1))) (.var 4)))) (.cons (.ret (.ite (.cmp .lt (.var 4) (.idx (.var 0) (.lit (.int 0)))) (.tup (.cons (.var 2) (.cons (.var 3) (.cons (.var 5) .nil)))) (.lit .non))) .nil))) }
def f_lacks_a_way : FD := { np := 1, nN := 4, keep := false, body := (.cons (.asg (.tp [1, 2, 3]) (.var 0)) (.cons (.ret (.orE (.cmp .eq (.var 2) (.lit (.int 0))) (.cmp .eq (.var 3) (.lit (.int 0))))) .nil)) }
def f_need_text (RS : St') : FD := { np := 1, nN := 1, keep := false, body := (.cons (.iff (.notE (.isi .str (.var 0))) (.cons RS .nil) .nil) .nil) }
end Mx
end

section
set_option Elab.async false
set_option linter.all false
set_option maxRecDepth 100000
set_option autoImplicit false
set_option maxHeartbeats 4000000
namespace Mx
open PySem L2
variable {tab : Nat → Option FD} {n : Nat} {S : Sto} {k : Nat}
theorem tfx {i : Nat} {fd fd' : FD} (h : Has tab i fd) (e : fd = fd') : TF FUEL (CN tab (n + 1)) (CN tab n) i fd' := e ▸ h.tf
/-! ### what all laws draw with, by their numbers -/
theorem drawW [h36 : Has tab 36 f__law_draw] {m : Int} (hp : IsPen S k) (h0 : 0 < m) (h1 : m < 1073741824) :
    ∃ r S', CN tab (n + 1) 36 [.mu k, .p (.int m)] S = .ok (.p (.int r)) S' ∧ Sim k S S' ∧ 0 ≤ r ∧ r < m :=
  draw_ok (C' := CN tab n) (tfx inferInstance rfl) hp h0 h1
theorem cellW [h34 : Has tab 34 f__law_cell_at] (ns : List Int) (j : Nat) : ∃ z, CN tab (n + 1) 34 [.scr ns, .p (.int j)] S = .ok (.p (.int z)) S :=
  cell_ok (C' := CN tab n) (tfx inferInstance rfl) ns j
theorem penW [h35 : Has tab 35 f__law_pen] (z : Int) : ∃ a b, CN tab (n + 1) 35 [.p (.int z)] S = .ok (.mu S.length) (S ++ [.lst [.int a, .int b, .int 0]]) :=
  pen_ok (C' := CN tab n) (tfx inferInstance rfl) z
theorem pickW [h36 : Has tab 36 f__law_draw] [h37 : Has tab 37 f__law_pick] (hp : IsPen S k) {xs : List P} (h0 : xs ≠ []) (h1 : xs.length < 1073741824) :
    ∃ x ∈ xs, ∃ S', CN tab (n + 2) 37 [.mu k, .p (.lst xs)] S = .ok (.p x) S' ∧ Sim k S S' :=
  pick_ok (C' := CN tab (n + 1)) (C'' := CN tab n) (d := 36) (tfx inferInstance rfl) (tfx inferInstance rfl) hp h0 h1
theorem pickMW [h36 : Has tab 36 f__law_draw] [h37 : Has tab 37 f__law_pick] (hp : IsPen S k) {m : Nat} {xs : List P} (hm : S[m]? = some (.lst xs)) (hk : m ≠ k) (h0 : xs ≠ []) (h1 : xs.length < 1073741824) :
    ∃ x ∈ xs, ∃ S', CN tab (n + 2) 37 [.mu k, .mu m] S = .ok (.p x) S' ∧ Sim k S S' :=
  pickM_ok (C' := CN tab (n + 1)) (C'' := CN tab n) (d := 36) (tfx inferInstance rfl) (tfx inferInstance rfl) hp hm hk h0 h1
theorem sameW [h38 : Has tab 38 f__law_same] {x y : P} (hx : okP x) (hy : okP y) : CN tab (n + 1) 38 [.p x, .p y] S = .ok (.p (.bl (P.eqv (.rep x) (.rep y)))) S :=
  same_ok (C' := CN tab n) (tfx inferInstance rfl) hx hy
theorem canalW [h36 : Has tab 36 f__law_draw] [h39 : Has tab 39 f__law_canal] (hp : IsPen S k) {l b : Int} (h0 : 0 < l) (h1 : l < 1073741824) (h2 : 0 ≤ b) (h3 : b < 1073741823) :
    ∃ x u v S', CN tab (n + 2) 39 [.mu k, .p (.int l), .p (.int b)] S = .ok (.p (.tup [.int x, .int u, .int v])) S' ∧ Sim k S S' ∧ 1 ≤ x ∧ x ≤ l ∧ 0 ≤ u ∧ u ≤ b ∧ 0 ≤ v ∧ v ≤ b :=
  canal_ok (C' := CN tab (n + 1)) (C'' := CN tab n) (d := 36) (tfx inferInstance rfl) (tfx inferInstance rfl) hp h0 h1 h2 h3
def oddL : List P := [.non, .bl true, .bl false, .int (-1), .int 0, .int 1, .int (10 ^ 11), .str [], .str [117, 112], .str [48], .tup [], .lst [], .dct [] [], .tup [.int 0], .lst [.int 0], .tup [.tup []], .tup [.tup [.int 0]], .tup [.bl true],
  .tup [.str [117, 112], .int 0, .int 0], .tup [.int 1, .int 1, .int 1], .tup [.str [100, 111, 119, 110]]]
theorem oddL_bd : oddL.all (bdC 200 3) = true := by decide +kernel
theorem oddW [h36 : Has tab 36 f__law_draw] [h37 : Has tab 37 f__law_pick] [h41 : Has tab 41 f__law_odd] (hp : IsPen S k) : ∃ x S', CN tab (n + 3) 41 [.mu k] S = .ok (.p x) S' ∧ Sim k S S' ∧ Bd 200 3 x := by
  obtain ⟨x, hx, S', e, sim⟩ := pickW (tab := tab) (n := n) hp (xs := oddL) (by decide) (by decide)
  refine ⟨x, S', ?_, sim, mem_bd oddL_bd hx⟩
  rw [h41.eq]
  unfold oddL at e
  have b10 : bounded 10 = true := by decide
  simp [f__law_odd, runF, evSs, evS, evE, evEs, evEo, evC, evI, R.bind, R.obind, slotD, pu, truth, bindO, bindT, setMany, leave, ty_beq, tyEq, isCI, yes, allP, mkTup, binop, asList, b10, LIM, sim.len, List.take_of_length_le] at e ⊢
  simp [e, sim.len, List.take_of_length_le]
theorem cut_len (xs : List P) (lo hi : Option Int) : (cutG xs lo hi).length ≤ xs.length := by
  unfold cutG
  simp only [List.length_take, List.length_drop]
  omega
/-! ### a while loop, by a count -/
def condW (C : Nat → List D → Sto → R D) (c : E) (e : Mx.Env) (s : Sto) : R Bool := (evE C c e s).bind fun x s1 => match truth x s1 with | some k => .ok k s1 | none => .stuck
theorem evS_whl (C : Nat → List D → Sto → R D) (w : Nat) (c : E) (b : Sts) (env : Mx.Env) (S : Sto) : evS C w (.whl c b) env S = loopW (condW C c) (evSs C w b) w env S := by
  simp only [evS]; rfl
theorem loopW_inv {c : Mx.Env → Sto → R Bool} {body : Mx.Env → Sto → O} (I : Nat → Mx.Env → Sto → Prop) (N : Nat) : ∀ (w i : Nat) (env : Mx.Env) (S : Sto), I i env S → i ≤ N → N - i < w →
    (∀ j env S, j < N → I j env S → ∃ S1, c env S = .ok true S1 ∧ ∃ e' S', (body env S1 = .next e' S' ∨ body env S1 = .cont e' S') ∧ I (j + 1) e' S') →
    (∀ env S, I N env S → ∃ S1, c env S = .ok false S1 ∧ I N env S1) →
    ∃ e' S', loopW c body w env S = .next e' S' ∧ I N e' S'
  | 0, i, env, S, _, _, hw, _, _ => absurd hw (Nat.not_lt_zero _)
  | w + 1, i, env, S, h0, hi, hw, hb, he => by
    by_cases hN : i = N
    · subst hN
      obtain ⟨S1, e1, h1⟩ := he env S h0
      exact ⟨env, S1, by simp [loopW, e1, R.obind], h1⟩
    · obtain ⟨S1, e1, e', S', hbody, h1⟩ := hb i env S (by omega) h0
      obtain ⟨e2, S2, e3, h2⟩ := loopW_inv I N w (i + 1) e' S' h1 (by omega) (by omega) hb he
      refine ⟨e2, S2, ?_, h2⟩
      rcases hbody with hbody | hbody <;> simp [loopW, e1, R.obind, hbody, e3]
end Mx
end

section
set_option Elab.async false
set_option linter.all false
set_option maxRecDepth 100000
set_option autoImplicit false
set_option maxHeartbeats 4000000
namespace Mx
open PySem L2
def whole : P → Bool
  | .int _ => true
  | _ => false
def within (a b : Int) : P → Bool
  | .int i => decide (a ≤ i) && decide (i ≤ b)
  | _ => false
def partsB (m : Int) : P → Bool
  | .tup xs => decide ((xs.length : Int) = m)
  | _ => false
variable {tab : Nat → Option FD} {n : Nat} {S : Sto} {k : Nat}
theorem whole_ok [h30 : Has tab 30 f_is_whole] (x : P) : CN tab (n + 1) 30 [.p x] S = .ok (.p (.bl (whole x))) S := by
  rw [h30.eq]
  cases x <;> simp [f_is_whole, runF, evSs, evS, evE, evEs, evEo, evC, evI, R.bind, R.obind, slotD, pu, truth, bindO, bindT, setMany, leave, ty_beq, tyEq, isCI, yes, isTy, whole, List.take_of_length_le]
theorem between_ok [h30 : Has tab 30 f_is_whole] [h31 : Has tab 31 f_is_between] (x : P) (a b : Int) : CN tab (n + 2) 31 [.p x, .p (.int a), .p (.int b)] S = .ok (.p (.bl (within a b x))) S := by
  rw [h31.eq]
  cases x with
  | int i =>
    by_cases h1 : a ≤ i
    · simp [f_is_between, runF, evSs, evS, evE, evEs, evEo, evC, evI, R.bind, R.obind, slotD, pu, truth, bindO, bindT, setMany, leave, ty_beq, tyEq, isCI, yes, whole_ok, whole, within, cmpop, h1, List.take_of_length_le]
    · simp [f_is_between, runF, evSs, evS, evE, evEs, evEo, evC, evI, R.bind, R.obind, slotD, pu, truth, bindO, bindT, setMany, leave, ty_beq, tyEq, isCI, yes, whole_ok, whole, within, cmpop, h1, List.take_of_length_le]
  | _ => simp [f_is_between, runF, evSs, evS, evE, evEs, evEo, evC, evI, R.bind, R.obind, slotD, pu, truth, bindO, bindT, setMany, leave, ty_beq, tyEq, isCI, yes, whole_ok, whole, within, cmpop, List.take_of_length_le]
theorem parts_ok [h32 : Has tab 32 f_has_parts] (x : P) (m : Int) : CN tab (n + 1) 32 [.p x, .p (.int m)] S = .ok (.p (.bl (partsB m x))) S := by
  rw [h32.eq]
  cases x with
  | tup xs =>
    have e : ((xs.length : Int) == m) = decide ((xs.length : Int) = m) := rfl
    simp [f_has_parts, runF, evSs, evS, evE, evEs, evEo, evC, evI, R.bind, R.obind, slotD, pu, truth, bindO, bindT, setMany, leave, ty_beq, tyEq, isCI, yes, isTy, partsB, bltop, lenD, items, cmpop, view, eqP, scalar, P.eqv, e, List.take_of_length_le]
  | _ => simp [f_has_parts, runF, evSs, evS, evE, evEs, evEo, evC, evI, R.bind, R.obind, slotD, pu, truth, bindO, bindT, setMany, leave, ty_beq, tyEq, isCI, yes, isTy, partsB, List.take_of_length_le]
/-- a canal -/
def can (l u d : Int) : P := .tup [.int l, .int u, .int d]
structure Can (l u d : Int) : Prop where
  l1 : 1 ≤ l
  l2 : l ≤ 5
  u1 : 0 ≤ u
  u2 : u ≤ 4
  d1 : 0 ≤ d
  d2 : d ≤ 4
variable {l u d : Int}
theorem is_canal_ok [h30 : Has tab 30 f_is_whole] [h31 : Has tab 31 f_is_between] [h32 : Has tab 32 f_has_parts] [h33 : Has tab 33 f_is_canal] (h : Can l u d) : CN tab (n + 3) 33 [.p (can l u d)] S = .ok (.p (.bl true)) S := by
  rw [h33.eq]
  obtain ⟨h1, h2, h3, h4, h5, h6⟩ := h
  simp [can, f_is_canal, runF, evSs, evS, evE, evEs, evEo, evC, evI, R.bind, R.obind, slotD, pu, truth, bindO, bindT, setMany, leave, ty_beq, tyEq, isCI, yes, parts_ok, partsB, between_ok, within, h1, h2, h3, h4, h5, h6, List.take_of_length_le]
theorem need_canal_ok [h30 : Has tab 30 f_is_whole] [h31 : Has tab 31 f_is_between] [h32 : Has tab 32 f_has_parts] [h33 : Has tab 33 f_is_canal] {rs42 : St'} [h42 : Has tab 42 (f_need_canal rs42)] (h : Can l u d) : CN tab (n + 4) 42 [.p (can l u d)] S = .ok (.p .non) S := by
  rw [h42.eq]
  simp [f_need_canal, runF, evSs, evS, evE, evEs, evEo, evC, evI, R.bind, R.obind, slotD, pu, truth, bindO, bindT, setMany, leave, ty_beq, tyEq, isCI, yes, is_canal_ok h, List.take_of_length_le]
theorem lwhole_ok [h40 : Has tab 40 f__law_is_whole] (x : P) (a b : Int) : CN tab (n + 1) 40 [.p x, .p (.int a), .p (.int b)] S = .ok (.p (.bl (within a b x))) S := by
  rw [h40.eq]
  cases x with
  | int i =>
    by_cases h1 : a ≤ i
    · simp [f__law_is_whole, runF, evSs, evS, evE, evEs, evEo, evC, evI, R.bind, R.obind, slotD, pu, truth, bindO, bindT, setMany, leave, ty_beq, tyEq, isCI, yes, isTy, within, cmpop, h1, List.take_of_length_le]
    · simp [f__law_is_whole, runF, evSs, evS, evE, evEs, evEo, evC, evI, R.bind, R.obind, slotD, pu, truth, bindO, bindT, setMany, leave, ty_beq, tyEq, isCI, yes, isTy, within, cmpop, h1, List.take_of_length_le]
  | _ => simp [f__law_is_whole, runF, evSs, evS, evE, evEs, evEo, evC, evI, R.bind, R.obind, slotD, pu, truth, bindO, bindT, setMany, leave, ty_beq, tyEq, isCI, yes, isTy, within, cmpop, List.take_of_length_le]
/-! ### the shape -/
def cellsB (l : Int) : P → Bool
  | .tup ys => ys.all (within 0 l)
  | _ => true
def shB (l u d : Int) : P → Bool
  | .tup xs => decide ((xs.length : Int) = u) && (xs.all (partsB d) && xs.all (cellsB l))
  | _ => false
def cmpA : E := .comp [5] (.nm 5) (.of (.var 1)) .none (.call 32 (.cons (.var 5) (.cons (.var 4) .nil)))
def cmpB : E := .comp2 [5, 6] [6] (.nm 5) (.of (.var 1)) .none (.nm 6) (.of (.var 5)) .none (.call 31 (.cons (.var 6) (.cons (.lit (.int 0)) (.cons (.var 2) .nil))))
theorem shape_cut : f_has_shape = { np := 2, nN := 7, keep := false, body := (.cons (.asg (.tp [2, 3, 4]) (.var 0)) (.cons (.iff (.orE (.notE (.call 32 (.cons (.var 1) (.cons (.var 3) .nil)))) (.notE (.blt .all (.cons cmpA .nil)))) (.cons (.ret (.lit (.bl false))) .nil) .nil) (.cons (.ret (.blt .all (.cons cmpB .nil))) .nil))) } := rfl
def tupOf : D → List P
  | .p (.tup xs) => xs
  | _ => []
theorem blsOf_map {α : Type} (f : α → Bool) : ∀ xs : List α, blsOf (xs.map fun x => P.bl (f x)) = some (xs.map f)
  | [] => rfl
  | x :: r => by simp [blsOf, blsOf_map f r]
theorem all_id {α : Type} (f : α → Bool) (xs : List α) : (xs.map f).all id = xs.all f := by
  rw [List.all_map]; rfl
theorem tup_sum : ∀ xs : List P, (xs.map fun y => (tupOf (.p y)).length).sum ≤ wtL xs
  | [] => by simp
  | x :: r => by
    have := tup_sum r
    have h : (tupOf (.p x)).length ≤ x.wt := by
      cases x with
      | tup ys => simpa [tupOf, P.wt] using len_wt ys
      | _ => simp [tupOf]
    simp only [List.map_cons, List.sum_cons, wtL]
    omega
theorem cells_tup (l : Int) (y : P) : cellsB l y = (tupOf (.p y)).all (within 0 l) := by
  cases y <;> simp [cellsB, tupOf]
theorem shape_ok [h30 : Has tab 30 f_is_whole] [h31 : Has tab 31 f_is_between] [h32 : Has tab 32 f_has_parts] [h64 : Has tab 64 f_has_shape] {x : P} {w dd : Nat} (hx : Bd w dd x) (hw : w ≤ LIM) (h : Can l u d) : CN tab (n + 3) 64 [.p (can l u d), .p x] S = .ok (.p (.bl (shB l u d x))) S := by
  rw [h64.eq, shape_cut]
  cases x with
  | tup xs =>
    have hxw : wtL xs ≤ LIM := Nat.le_trans (by simpa [P.wt] using hx.wt) hw
    have hxl : xs.length ≤ LIM := Nat.le_trans (len_wt xs) hxw
    have eA : evE (CN tab (n + 2)) cmpA [some (.p (can l u d)), some (.p (.tup xs)), some (.p (.int l)), some (.p (.int u)), some (.p (.int d)), none, none] S = .ok (.p (.lst (xs.map fun y => .bl (partsB d y)))) S := by
      have := comp_pure (C := CN tab (n + 2)) (own := [5]) (t := .nm 5) (src := .of (.var 1)) (elt := .call 32 (.cons (.var 5) (.cons (.var 4) .nil))) (env := [some (.p (can l u d)), some (.p (.tup xs)), some (.p (.int l)), some (.p (.int u)), some (.p (.int d)), none, none]) (S := S)
        (ds := xs.map .p) (stay := still (.p (.tup xs)) S) (fun e => match e with | .p y => .bl (partsB d y) | _ => .non) rfl rfl (by simpa using hxl) fun e he => by
          obtain ⟨y, hy, rfl⟩ := List.mem_map.mp he
          refine ⟨_, rfl, ?_⟩
          simp [wipeE, runF, evSs, evS, evE, evEs, evEo, evC, evI, R.bind, R.obind, slotD, pu, truth, bindO, bindT, setMany, leave, ty_beq, tyEq, isCI, yes, parts_ok]
      rw [List.map_map] at this
      exact this
    by_cases h1 : (xs.length : Int) = u
    · have h3 : partsB u (.tup xs) = true := by simp [partsB, h1]
      cases h2 : xs.all (partsB d) with
      | true =>
        have eB : evE (CN tab (n + 2)) cmpB [some (.p (can l u d)), some (.p (.tup xs)), some (.p (.int l)), some (.p (.int u)), some (.p (.int d)), none, none] S = .ok (.p (.lst ((xs.flatMap fun y => tupOf (.p y)).map fun y => .bl (within 0 l y)))) S := by
          have := comp2_pure (C := CN tab (n + 2)) (own := [5, 6]) (own1 := [6]) (t := .nm 5) (t1 := .nm 6) (src := .of (.var 1)) (src1 := .of (.var 5)) (elt := .call 31 (.cons (.var 6) (.cons (.lit (.int 0)) (.cons (.var 2) .nil)))) (env := [some (.p (can l u d)), some (.p (.tup xs)), some (.p (.int l)), some (.p (.int u)), some (.p (.int d)), none, none]) (S := S)
            (ds := xs.map .p) (stay := still (.p (.tup xs)) S) (fun e => (tupOf e).map .p) (fun _ e => match e with | .p y => .bl (within 0 l y) | _ => .non) rfl rfl
            (by simpa [List.map_map, Function.comp_def] using Nat.le_trans (tup_sum xs) hxw) fun e he => by
              obtain ⟨y, hy, rfl⟩ := List.mem_map.mp he
              have hy2 := List.all_eq_true.mp h2 y hy
              cases y with
              | tup ys =>
                refine ⟨_, still (.p (.tup ys)) S, rfl, rfl, rfl, fun e he => ?_⟩
                obtain ⟨z, hz, rfl⟩ := List.mem_map.mp he
                refine ⟨_, rfl, ?_⟩
                simp [wipeE, runF, evSs, evS, evE, evEs, evEo, evC, evI, R.bind, R.obind, slotD, pu, truth, bindO, bindT, setMany, leave, ty_beq, tyEq, isCI, yes, between_ok]
              | _ => simp [partsB] at hy2
          rw [List.flatMap_map] at this
          simp only [List.map_map, Function.comp_def] at this
          rw [show (xs.flatMap fun y => (tupOf (D.p y)).map fun z => P.bl (within 0 l z)) = (xs.flatMap fun y => tupOf (.p y)).map fun y => .bl (within 0 l y) from by rw [List.map_flatMap]] at this
          exact this
        simp [can, runF, evSs, evS, evE, evEs, evEo, evC, evI, R.bind, R.obind, slotD, pu, truth, bindO, bindT, setMany, leave, ty_beq, tyEq, isCI, yes, parts_ok, h3] at eA eB ⊢
        simp [eA, eB, bltop, asList, blsOf_map, h1, h2, shB, cells_tup, Function.comp_def, List.take_of_length_le]
        rw [show cellsB l = fun a => (tupOf (D.p a)).all fun x => within 0 l x from funext (cells_tup l)]
      | false =>
        simp [can, runF, evSs, evS, evE, evEs, evEo, evC, evI, R.bind, R.obind, slotD, pu, truth, bindO, bindT, setMany, leave, ty_beq, tyEq, isCI, yes, parts_ok, h3] at eA ⊢
        simp [eA, bltop, asList, blsOf_map, h1, h2, shB, Function.comp_def, List.take_of_length_le]
    · simp [can, runF, evSs, evS, evE, evEs, evEo, evC, evI, R.bind, R.obind, slotD, pu, truth, bindO, bindT, setMany, leave, ty_beq, tyEq, isCI, yes, parts_ok, partsB, h1, shB, List.take_of_length_le]
  | _ => simp [can, runF, evSs, evS, evE, evEs, evEo, evC, evI, R.bind, R.obind, slotD, pu, truth, bindO, bindT, setMany, leave, ty_beq, tyEq, isCI, yes, parts_ok, partsB, shB, List.take_of_length_le]
/-! ### what has the shape -/
def rowI (r : List Int) : P := .tup (r.map .int)
def rowsI (t : List (List Int)) : P := .tup (t.map rowI)
theorem ints_of (l : Int) : ∀ ys : List P, ys.all (within 0 l) = true → ∃ r : List Int, ys = r.map .int ∧ ∀ i ∈ r, 0 ≤ i ∧ i ≤ l
  | [], _ => ⟨[], rfl, by simp⟩
  | y :: ys, h => by
    simp only [List.all_cons, Bool.and_eq_true] at h
    obtain ⟨r, e, hr⟩ := ints_of l ys h.2
    cases y with
    | int i =>
      have h1 := h.1
      simp only [within, Bool.and_eq_true, decide_eq_true_eq] at h1
      refine ⟨i :: r, by simp [e], fun j hj => ?_⟩
      rcases List.mem_cons.mp hj with rfl | hj
      · exact h1
      · exact hr j hj
    | _ => simp [within] at h
theorem rows_of (l d : Int) : ∀ xs : List P, xs.all (partsB d) = true → xs.all (cellsB l) = true → ∃ t : List (List Int), xs = t.map rowI ∧ ∀ r ∈ t, (r.length : Int) = d ∧ ∀ i ∈ r, 0 ≤ i ∧ i ≤ l
  | [], _, _ => ⟨[], rfl, by simp⟩
  | x :: xs, h, h' => by
    simp only [List.all_cons, Bool.and_eq_true] at h h'
    obtain ⟨t, e, ht⟩ := rows_of l d xs h.2 h'.2
    cases x with
    | tup ys =>
      obtain ⟨r, e2, hr⟩ := ints_of l ys (by simpa [cellsB] using h'.1)
      have hl := h.1
      simp only [partsB, decide_eq_true_eq] at hl
      subst e2
      refine ⟨r :: t, by simp [e, rowI], fun q hq => ?_⟩
      rcases List.mem_cons.mp hq with rfl | hq
      · exact ⟨by simpa using hl, hr⟩
      · exact ht q hq
    | _ => simp [partsB] at h
theorem sh_of {x : P} (h : shB l u d x = true) : ∃ t : List (List Int), x = rowsI t ∧ (t.length : Int) = u ∧ ∀ r ∈ t, (r.length : Int) = d ∧ ∀ i ∈ r, 0 ≤ i ∧ i ≤ l := by
  cases x with
  | tup xs =>
    simp only [shB, Bool.and_eq_true, decide_eq_true_eq] at h
    obtain ⟨t, e, ht⟩ := rows_of l d xs h.2.1 h.2.2
    subst e
    exact ⟨t, rfl, by simpa using h.1, ht⟩
  | _ => simp [shB] at h
/-! ### steps -/
def chain {α : Type} (p : α → α → Bool) (xs : List α) : Bool := (xs.zip xs.tail).all fun w => p w.1 w.2
def le2 (a b : List Int) : Bool := (a.zip b).all fun w => decide (w.2 ≤ w.1)
def stepB (t : List (List Int)) : Bool := chain le2 t && t.all (chain fun x y => decide (x ≤ y))
theorem pairs_map {α β : Type} (f : α → P) (g : β → P) : ∀ (xs : List α) (ys : List β), pairs (xs.map fun x => .p (f x)) (ys.map fun y => .p (g y)) = (xs.zip ys).map fun w => .tup [.p (f w.1), .p (g w.2)]
  | [], _ => rfl
  | _ :: _, [] => rfl
  | x :: xs, y :: ys => by simp only [List.map_cons, pairs, List.zip_cons_cons, pairs_map f g xs ys]
def cmpC : E := .comp2 [3, 4, 5, 6] [5, 6] (.tp [3, 4]) (.zip (.var 0) (.slc (.var 0) (.some (.lit (.int 1))) .none)) .none (.tp [5, 6]) (.zip (.var 3) (.var 4)) .none (.cmp .le (.var 6) (.var 5))
def cmpD : E := .comp2 [3, 5, 6] [5, 6] (.nm 3) (.of (.var 0)) .none (.tp [5, 6]) (.zip (.var 3) (.slc (.var 3) (.some (.lit (.int 1))) .none)) .none (.cmp .le (.var 5) (.var 6))
theorem step_cut : f_is_stepped = { np := 1, nN := 7, keep := false, body := (.cons (.asg (.nm 1) (.blt .all (.cons cmpC .nil))) (.cons (.asg (.nm 2) (.blt .all (.cons cmpD .nil))) (.cons (.ret (.andE (.var 1) (.var 2))) .nil))) } := rfl
theorem cut_tail {α : Type} (xs : List α) : cutG xs (some 1) none = xs.tail := by
  unfold cutG
  cases xs with
  | nil => rfl
  | cons x r =>
    have e1 : HT.sIx (x :: r).length 0 (some 1) = 1 := by
      unfold HT.sIx
      simp
    have e2 : HT.sIx (x :: r).length (x :: r).length none = r.length + 1 := by
      unfold HT.sIx
      simp
    rw [e1, e2]
    simp
/-- the two of a pair -/
def fstD : D → P
  | .tup [.p x, _] => x
  | _ => .non
def sndD : D → P
  | .tup [_, .p y] => y
  | _ => .non
def leInt : P → P → Bool
  | .int i, .int j => decide (i ≤ j)
  | _, _ => false
def cellsD : P → List D
  | .tup ys => ys.map .p
  | _ => []
theorem stepped_ok [h65 : Has tab 65 f_is_stepped] {t : List (List Int)} (hl : t.length ≤ 300) (hr : ∀ r ∈ t, r.length ≤ 300) : CN tab (n + 1) 65 [.p (rowsI t)] S = .ok (.p (.bl (stepB t))) S := by
  rw [h65.eq, step_cut]
  have zl : (t.zip t.tail).length ≤ 300 := by rw [List.length_zip]; omega
  have sumle : ∀ (α : Type) (f : α → Nat) (ws : List α), (∀ w ∈ ws, f w ≤ 300) → (ws.map f).sum ≤ 300 * ws.length := by
    intro α f ws
    induction ws with
    | nil => simp
    | cons w ws ih =>
      intro h
      have h1 := h w List.mem_cons_self
      have h2 := ih fun w hw => h w (List.mem_cons_of_mem _ hw)
      simp only [List.map_cons, List.sum_cons, List.length_cons]
      omega
  have eC : evE (CN tab n) cmpC [some (.p (rowsI t)), none, none, none, none, none, none] S = .ok (.p (.lst (((t.zip t.tail).flatMap fun w => (w.1.zip w.2).map fun z => decide (z.2 ≤ z.1)).map .bl))) S := by
    have := comp2_pure (C := CN tab n) (own := [3, 4, 5, 6]) (own1 := [5, 6]) (t := .tp [3, 4]) (t1 := .tp [5, 6]) (src := .zip (.var 0) (.slc (.var 0) (.some (.lit (.int 1))) .none)) (src1 := .zip (.var 3) (.var 4)) (elt := .cmp .le (.var 6) (.var 5)) (env := [some (.p (rowsI t)), none, none, none, none, none, none]) (S := S)
      (ds := (t.zip t.tail).map fun w => .tup [.p (rowI w.1), .p (rowI w.2)]) (stay := fun S' => still (.p (rowsI t)) S S' && still (.p (.tup (t.map rowI).tail)) S S') (fun e => pairs (cellsD (fstD e)) (cellsD (sndD e))) (fun _ e => .bl (leInt (sndD e) (fstD e)))
      (by
        have := pairs_map (fun r : List Int => rowI r) (fun r : List Int => rowI r) t t.tail
        rw [← this]
        simp [runF, evSs, evS, evE, evEs, evEo, evC, evI, R.bind, R.obind, slotD, pu, truth, bindO, bindT, setMany, leave, ty_beq, tyEq, isCI, yes, rowsI, slice, items, cut_tail, List.map_map, Function.comp_def]) rfl
      (by
        rw [List.map_map]
        refine Nat.le_trans (sumle _ _ _ fun w hw => ?_) (Nat.le_trans (Nat.mul_le_mul_left 300 zl) (by unfold LIM; omega))
        obtain ⟨h1, h2⟩ := List.of_mem_zip (show (w.1, w.2) ∈ t.zip t.tail from hw)
        have := hr _ h1
        simp only [Function.comp_def, fstD, sndD, rowI, cellsD, pairs_len, List.length_map]
        omega) fun e he => by
        obtain ⟨w, hw, rfl⟩ := List.mem_map.mp he
        refine ⟨_, fun S' => still (.p (rowI w.1)) S S' && still (.p (rowI w.2)) S S', rfl, ?_, rfl, fun e he => ?_⟩
        · simp [runF, evSs, evS, evE, evEs, evEo, evC, evI, R.bind, R.obind, slotD, pu, truth, bindO, bindT, setMany, leave, ty_beq, tyEq, isCI, yes, wipeE, items, rowI, fstD, sndD, cellsD, still]
        · simp only [fstD, sndD, rowI, cellsD, List.map_map] at he
          have := pairs_map (fun i : Int => P.int i) (fun i : Int => P.int i) w.1 w.2
          simp only [Function.comp_def] at he
          rw [this] at he
          obtain ⟨z, hz, rfl⟩ := List.mem_map.mp he
          refine ⟨_, rfl, ?_⟩
          simp [runF, evSs, evS, evE, evEs, evEo, evC, evI, R.bind, R.obind, slotD, pu, truth, bindO, bindT, setMany, leave, ty_beq, tyEq, isCI, yes, wipeE, cmpop, leInt, fstD, sndD]
    unfold cmpC
    rw [this, List.flatMap_map]
    congr 3
    rw [List.map_flatMap]
    congr 1
    funext w
    have := pairs_map (fun i : Int => P.int i) (fun i : Int => P.int i) w.1 w.2
    simp only [fstD, sndD, rowI, cellsD, List.map_map, Function.comp_def]
    rw [this]
    simp [leInt, fstD, sndD]
  have eD : ∀ b, evE (CN tab n) cmpD [some (.p (rowsI t)), some b, none, none, none, none, none] S = .ok (.p (.lst ((t.flatMap fun r => (r.zip r.tail).map fun z => decide (z.1 ≤ z.2)).map .bl))) S := by
    intro b
    have := comp2_pure (C := CN tab n) (own := [3, 5, 6]) (own1 := [5, 6]) (t := .nm 3) (t1 := .tp [5, 6]) (src := .of (.var 0)) (src1 := .zip (.var 3) (.slc (.var 3) (.some (.lit (.int 1))) .none)) (elt := .cmp .le (.var 5) (.var 6)) (env := [some (.p (rowsI t)), some b, none, none, none, none, none]) (S := S)
      (ds := t.map fun r => .p (rowI r)) (stay := still (.p (rowsI t)) S) (fun e => pairs (match e with | .p x => cellsD x | _ => []) (match e with | .p x => (cellsD x).tail | _ => [])) (fun _ e => .bl (leInt (fstD e) (sndD e)))
      (by simp [runF, evSs, evS, evE, evEs, evEo, evC, evI, R.bind, R.obind, slotD, pu, truth, bindO, bindT, setMany, leave, ty_beq, tyEq, isCI, yes, rowsI, items, Function.comp_def]) rfl
      (by
        rw [List.map_map]
        refine Nat.le_trans (sumle _ _ _ fun r hm => ?_) (Nat.le_trans (Nat.mul_le_mul_left 300 hl) (by unfold LIM; omega))
        have := hr _ hm
        simp only [Function.comp_def, rowI, cellsD, pairs_len, List.length_map, List.length_tail]
        omega) fun e he => by
        obtain ⟨r, hm, rfl⟩ := List.mem_map.mp he
        refine ⟨_, fun S' => still (.p (rowI r)) S S' && still (.p (.tup (r.map P.int).tail)) S S', rfl, ?_, rfl, fun e he => ?_⟩
        · simp [runF, evSs, evS, evE, evEs, evEo, evC, evI, R.bind, R.obind, slotD, pu, truth, bindO, bindT, setMany, leave, ty_beq, tyEq, isCI, yes, wipeE, items, rowI, cellsD, still, slice, cut_tail, List.map_tail]
        · simp only [rowI, cellsD, List.map_map, List.map_tail] at he
          have := pairs_map (fun i : Int => P.int i) (fun i : Int => P.int i) r r.tail
          simp only [Function.comp_def, ← List.map_tail] at he
          rw [this] at he
          obtain ⟨z, hz, rfl⟩ := List.mem_map.mp he
          refine ⟨_, rfl, ?_⟩
          simp [runF, evSs, evS, evE, evEs, evEo, evC, evI, R.bind, R.obind, slotD, pu, truth, bindO, bindT, setMany, leave, ty_beq, tyEq, isCI, yes, wipeE, cmpop, leInt, fstD, sndD]
    unfold cmpD
    rw [this, List.flatMap_map]
    congr 3
    rw [List.map_flatMap]
    congr 1
    funext r
    have := pairs_map (fun i : Int => P.int i) (fun i : Int => P.int i) r r.tail
    simp only [rowI, cellsD, List.map_map, Function.comp_def, ← List.map_tail]
    rw [this]
    simp [leInt, fstD, sndD]
  have aC : blsOf (((t.zip t.tail).flatMap fun w => (w.1.zip w.2).map fun z => decide (z.2 ≤ z.1)).map .bl) = some ((t.zip t.tail).flatMap fun w => (w.1.zip w.2).map fun z => decide (z.2 ≤ z.1)) := by
    have := blsOf_map id ((t.zip t.tail).flatMap fun w => (w.1.zip w.2).map fun z => decide (z.2 ≤ z.1))
    simpa using this
  have aD : blsOf ((t.flatMap fun r => (r.zip r.tail).map fun z => decide (z.1 ≤ z.2)).map .bl) = some (t.flatMap fun r => (r.zip r.tail).map fun z => decide (z.1 ≤ z.2)) := by
    have := blsOf_map id (t.flatMap fun r => (r.zip r.tail).map fun z => decide (z.1 ≤ z.2))
    simpa using this
  simp [runF, evSs, evS, evE, evEs, evEo, evC, evI, R.bind, R.obind, slotD, pu, truth, bindO, bindT, setMany, leave, ty_beq, tyEq, isCI, yes, eC, bltop, asList, aC]
  simp [runF, evSs, evS, evE, evEs, evEo, evC, evI, R.bind, R.obind, slotD, pu, truth, bindO, bindT, setMany, leave, ty_beq, tyEq, isCI, yes, eD, bltop, asList, aD]
  have h1 : ((t.zip t.tail).all fun a => (a.fst.zip a.snd).all fun z => decide (z.snd ≤ z.fst)) = chain le2 t := rfl
  have h2 : (t.all fun a => (a.zip a.tail).all fun z => decide (z.fst ≤ z.snd)) = t.all (chain fun x y => decide (x ≤ y)) := rfl
  rw [h1, h2]
  unfold stepB
  cases chain le2 t <;> cases t.all (chain fun x y => decide (x ≤ y)) <;> simp [List.take_of_length_le]
def tabB (l u d : Int) (x : P) : Bool := shB l u d x && (match x with | .tup xs => stepB (xs.map fun y => (tupOf (.p y)).map fun z => match z with | .int i => i | _ => 0) | _ => true)
theorem back_rows (t : List (List Int)) : ((t.map rowI).map fun y => (tupOf (.p y)).map fun z => match z with | .int i => i | _ => 0) = t := by
  rw [List.map_map]
  conv => rhs; rw [← List.map_id t]
  apply List.map_congr_left
  intro r _
  simp only [Function.comp_def, rowI, tupOf, List.map_map]
  exact List.map_id r
theorem is_table_ok [h30 : Has tab 30 f_is_whole] [h31 : Has tab 31 f_is_between] [h32 : Has tab 32 f_has_parts] [h33 : Has tab 33 f_is_canal] {rs42 : St'} [h42 : Has tab 42 (f_need_canal rs42)] [h63 : Has tab 63 f_is_table] [h64 : Has tab 64 f_has_shape] [h65 : Has tab 65 f_is_stepped] {x : P} {w dd : Nat} (hx : Bd w dd x) (hw : w ≤ LIM) (h : Can l u d) : CN tab (n + 5) 63 [.p (can l u d), .p x] S = .ok (.p (.bl (tabB l u d x))) S := by
  rw [h63.eq]
  have e1 := shape_ok (tab := tab) (n := n + 1) (S := S) hx hw h
  have e0 := need_canal_ok (tab := tab) (n := n) (S := S) h
  cases hs : shB l u d x with
  | false =>
    rw [hs] at e1
    simp [f_is_table, runF, evSs, evS, evE, evEs, evEo, evC, evI, R.bind, R.obind, slotD, pu, truth, bindO, bindT, setMany, leave, ty_beq, tyEq, isCI, yes, e0, e1, tabB, hs, List.take_of_length_le]
  | true =>
    rw [hs] at e1
    obtain ⟨t, rfl, h1, h2⟩ := sh_of hs
    have e2 := stepped_ok (tab := tab) (n := n + 3) (S := S) (t := t) (by have := h.u2; omega) fun r hr => by have := (h2 r hr).1; have := h.d2; omega
    have e3 : tabB l u d (rowsI t) = stepB t := by
      unfold tabB
      rw [hs, Bool.true_and]
      exact congrArg stepB (back_rows t)
    rw [e3]
    simp [f_is_table, runF, evSs, evS, evE, evEs, evEo, evC, evI, R.bind, R.obind, slotD, pu, truth, bindO, bindT, setMany, leave, ty_beq, tyEq, isCI, yes, e0, e1, e2, List.take_of_length_le]
/-! ### the law's own look -/
def intsP (ys : List P) : List Int := ys.map fun z => match z with | .int i => i | _ => 0
theorem intsP_map (r : List Int) : intsP (r.map .int) = r := by
  unfold intsP
  rw [List.map_map]
  exact List.map_id r
def rowOk (l d : Int) : P → Bool
  | .tup ys => decide ((ys.length : Int) = d) && (ys.all (within 0 l) && decide (srt (intsP ys) = intsP ys))
  | _ => false
def colOf (t : List (List Int)) (j : Nat) : List Int := t.map fun r => r.getD j 0
def colOk (t : List (List Int)) (j : Nat) : Bool := decide (colOf t j = (srt (colOf t j)).reverse)
theorem eqvL_int : ∀ a b : List Int, eqvL (a.map .int) (b.map .int) = decide (a = b)
  | [], [] => rfl
  | [], _ :: _ => rfl
  | _ :: _, [] => rfl
  | x :: r, y :: q => by
    simp only [List.map_cons, eqvL, P.eqv, eqvL_int r q]
    by_cases h : x = y <;> by_cases h2 : r = q <;> simp [h, h2]
theorem plain_int : ∀ a : List Int, plainL (a.map .int) = true
  | [] => rfl
  | x :: r => by simp [plainL, P.plain, plain_int r]
theorem dep_int : ∀ a : List Int, depL (a.map .int) = 0
  | [] => rfl
  | x :: r => by simp [depL, P.dep, dep_int r]
theorem eqP_int (a b : List Int) : eqP (.lst (a.map .int)) (.lst (b.map .int)) = some (decide (a = b)) := by
  simp [eqP, scalar, P.plain, plain_int, P.dep, dep_int, P.eqv, eqvL_int]
theorem srt_len (a : List Int) : (srt a).length = a.length := (srt_perm a).length_eq
def cmpE : E := .comp [8] (.nm 8) (.of (.var 2)) .none (.call 40 (.cons (.var 8) (.cons (.lit (.int 0)) (.cons (.var 4) .nil))))
def allE : E := .blt .all (.cons cmpE .nil)
def rowBody : Sts := (.cons (.iff (.orE (.notE (.isi .tuple (.var 2))) (.orE (.cmp .ne (.blt .len (.cons (.var 2) .nil)) (.var 6)) (.notE allE))) (.cons (.ret (.lit (.bl false))) .nil) .nil) (.cons (.iff (.cmp .ne (.blt .list (.cons (.var 2) .nil)) (.blt .sorted (.cons (.var 2) .nil))) (.cons (.ret (.lit (.bl false))) .nil) .nil) .nil))
def cmpF : E := .comp [2] (.nm 2) (.of (.var 1)) .none (.idx (.var 2) (.var 3))
def colBody : Sts := (.cons (.asg (.nm 7) cmpF) (.cons (.iff (.cmp .ne (.var 7) (.rev (.blt .sorted (.cons (.var 7) .nil)))) (.cons (.ret (.lit (.bl false))) .nil) .nil) .nil))
theorem ltab_cut : f__law_is_table = { np := 2, nN := 9, keep := false, body := (.cons (.asg (.tp [4, 5, 6]) (.var 0)) (.cons (.iff (.orE (.notE (.isi .tuple (.var 1))) (.cmp .ne (.blt .len (.cons (.var 1) .nil)) (.var 5))) (.cons (.ret (.lit (.bl false))) .nil) .nil) (.cons (.for (.nm 2) (.of (.var 1)) rowBody) (.cons (.for (.nm 3) (.rng (.var 6)) colBody) (.cons (.ret (.lit (.bl true))) .nil))))) } := rfl
/-- the slots while the rows are looked at -/
def InR (x : P) (l u d : Int) (env : Mx.Env) : Prop := ∃ x2 x3 x7 x8, env = [some (.p (can l u d)), some (.p x), x2, x3, some (.p (.int l)), some (.p (.int u)), some (.p (.int d)), x7, x8]
theorem row_step [h40 : Has tab 40 f__law_is_whole] [h66 : Has tab 66 f__law_is_table] {x y : P} {w dd : Nat} (hy : Bd w dd y) (hw : w ≤ LIM) (h : Can l u d) {env : Mx.Env} (hI : InR x l u d env) :
    ∃ env1, bindT (.nm 2) (.p y) env = some env1 ∧ (rowOk l d y = true → ∃ e', evSs (CN tab (n + 1)) FUEL rowBody env1 S = .next e' S ∧ InR x l u d e') ∧ (rowOk l d y = false → evSs (CN tab (n + 1)) FUEL rowBody env1 S = .ret (.p (.bl false)) S) := by
  obtain ⟨x2, x3, x7, x8, rfl⟩ := hI
  refine ⟨[some (.p (can l u d)), some (.p x), some (.p y), x3, some (.p (.int l)), some (.p (.int u)), some (.p (.int d)), x7, x8], rfl, ?_⟩
  have fin : ∀ y : P, InR x l u d [some (.p (can l u d)), some (.p x), some (.p y), x3, some (.p (.int l)), some (.p (.int u)), some (.p (.int d)), x7, x8] := fun y => ⟨_, _, _, _, rfl⟩
  cases y with
  | tup ys =>
    have hyw : wtL ys ≤ LIM := Nat.le_trans (by simpa [P.wt] using hy.wt) hw
    have hyl : ys.length ≤ LIM := Nat.le_trans (len_wt ys) hyw
    have eE : evE (CN tab (n + 1)) cmpE [some (.p (can l u d)), some (.p x), some (.p (.tup ys)), x3, some (.p (.int l)), some (.p (.int u)), some (.p (.int d)), x7, x8] S = .ok (.p (.lst (ys.map fun y => .bl (within 0 l y)))) S := by
      have := comp_pure (C := CN tab (n + 1)) (own := [8]) (t := .nm 8) (src := .of (.var 2)) (elt := .call 40 (.cons (.var 8) (.cons (.lit (.int 0)) (.cons (.var 4) .nil)))) (env := [some (.p (can l u d)), some (.p x), some (.p (.tup ys)), x3, some (.p (.int l)), some (.p (.int u)), some (.p (.int d)), x7, x8]) (S := S)
        (ds := ys.map .p) (stay := still (.p (.tup ys)) S) (fun e => match e with | .p y => .bl (within 0 l y) | _ => .non) rfl rfl (by simpa using hyl) fun e he => by
          obtain ⟨y, hy, rfl⟩ := List.mem_map.mp he
          refine ⟨_, rfl, ?_⟩
          simp [wipeE, runF, evSs, evS, evE, evEs, evEo, evC, evI, R.bind, R.obind, slotD, pu, truth, bindO, bindT, setMany, leave, ty_beq, tyEq, isCI, yes, lwhole_ok]
      rw [List.map_map] at this
      exact this
    have eF : evE (CN tab (n + 1)) allE [some (.p (can l u d)), some (.p x), some (.p (.tup ys)), x3, some (.p (.int l)), some (.p (.int u)), some (.p (.int d)), x7, x8] S = .ok (.p (.bl (ys.all (within 0 l)))) S := by
      simp [allE, runF, evSs, evS, evE, evEs, evEo, evC, evI, R.bind, R.obind, slotD, pu, truth, bindO, bindT, setMany, leave, ty_beq, tyEq, isCI, yes, eE, bltop, asList, blsOf_map, Function.comp_def]
    by_cases h1 : (ys.length : Int) = d
    · have h1' : ((ys.length : Int) == d) = true := by simpa using h1
      cases h2 : ys.all (within 0 l) with
      | true =>
        rw [h2] at eF
        obtain ⟨r, rfl, hr⟩ := ints_of l ys h2
        have e2 : sortOk (r.map P.int) = true := sortOk_int (by simpa using hyl)
        have e3 := eqP_int r (srt r)
        have e4 : (decide (srt r = r)) = decide (r = srt r) := by rw [Bool.eq_iff_iff]; simp [eq_comm]
        simp only [rowOk, h1, h2, intsP_map, decide_true, Bool.true_and, e4]
        have ev : evSs (CN tab (n + 1)) FUEL rowBody [some (.p (can l u d)), some (.p x), some (.p (.tup (r.map P.int))), x3, some (.p (.int l)), some (.p (.int u)), some (.p (.int d)), x7, x8] S = if decide (r = srt r) then .next [some (.p (can l u d)), some (.p x), some (.p (.tup (r.map P.int))), x3, some (.p (.int l)), some (.p (.int u)), some (.p (.int d)), x7, x8] S else .ret (.p (.bl false)) S := by
          have h1'' : ((r.length : Int) == d) = true := by simpa using h1'
          have e5 : eqP (.int (r.length : Int)) (.int d) = some true := by simp [eqP, scalar, P.eqv, h1'']
          have hz : (r.map P.int).length = r.length := List.length_map ..
          simp [rowBody, runF, evSs, evS, evE, evEs, evEo, evC, evI, R.bind, R.obind, slotD, pu, truth, bindO, bindT, setMany, leave, ty_beq, tyEq, isCI, yes, isTy, bltop, lenD, items, cmpop, view, eF, asList, asSeq, e2, srtP_int, hz, e5]
          by_cases hr2 : r = srt r
          · rw [show decide (r = srt r) = true from by simpa using hr2] at e3
            have e6 : srt r = r := hr2.symm
            rw [e6] at e3
            simp [e3, e6]
          · rw [show decide (r = srt r) = false from by simpa using hr2] at e3
            simp [e3, hr2]
        rw [ev]
        exact ⟨fun hs => ⟨_, by rw [hs]; rfl, fin _⟩, fun hs => by rw [hs]; rfl⟩
      | false =>
        rw [h2] at eF
        refine ⟨fun hs => by simp [rowOk, h2] at hs, fun _ => ?_⟩
        have e5 : eqP (.int (ys.length : Int)) (.int d) = some true := by simp [eqP, scalar, P.eqv, h1']
        simp [rowBody, runF, evSs, evS, evE, evEs, evEo, evC, evI, R.bind, R.obind, slotD, pu, truth, bindO, bindT, setMany, leave, ty_beq, tyEq, isCI, yes, isTy, bltop, lenD, items, cmpop, view, eF, e5]
    · refine ⟨fun hs => by simp [rowOk, h1] at hs, fun _ => ?_⟩
      have h1' : ((ys.length : Int) == d) = false := by simpa using h1
      have e5 : eqP (.int (ys.length : Int)) (.int d) = some false := by simp [eqP, scalar, P.eqv, h1']
      simp [rowBody, runF, evSs, evS, evE, evEs, evEo, evC, evI, R.bind, R.obind, slotD, pu, truth, bindO, bindT, setMany, leave, ty_beq, tyEq, isCI, yes, isTy, bltop, lenD, items, cmpop, view, e5]
  | _ =>
    refine ⟨fun hs => by simp [rowOk] at hs, fun _ => ?_⟩
    simp [rowBody, runF, evSs, evS, evE, evEs, evEo, evC, evI, R.bind, R.obind, slotD, pu, truth, bindO, bindT, setMany, leave, ty_beq, tyEq, isCI, yes, isTy]
/-! the columns -/
theorem getD_le {r : List Int} {j : Nat} (h : j < r.length) : r[j]? = some (r.getD j 0) := by
  rw [List.getD_eq_getElem?_getD, List.getElem?_eq_getElem h]; rfl
theorem col_step {t : List (List Int)} (hl : t.length ≤ 300) (hr : ∀ r ∈ t, (r.length : Int) = d) (h : Can l u d) (j : Nat) (hj : (j : Int) < d) {env : Mx.Env} (hI : InR (rowsI t) l u d env) :
    ∃ env1, bindT (.nm 3) (.p (.int j)) env = some env1 ∧ (colOk t j = true → ∃ e', evSs (CN tab n) FUEL colBody env1 S = .next e' S ∧ InR (rowsI t) l u d e') ∧ (colOk t j = false → evSs (CN tab n) FUEL colBody env1 S = .ret (.p (.bl false)) S) := by
  obtain ⟨x2, x3, x7, x8, rfl⟩ := hI
  refine ⟨[some (.p (can l u d)), some (.p (rowsI t)), x2, some (.p (.int j)), some (.p (.int l)), some (.p (.int u)), some (.p (.int d)), x7, x8], rfl, ?_⟩
  have eF : evE (CN tab n) cmpF [some (.p (can l u d)), some (.p (rowsI t)), x2, some (.p (.int j)), some (.p (.int l)), some (.p (.int u)), some (.p (.int d)), x7, x8] S = .ok (.p (.lst ((colOf t j).map .int))) S := by
    have := comp_pure (C := CN tab n) (own := [2]) (t := .nm 2) (src := .of (.var 1)) (elt := .idx (.var 2) (.var 3)) (env := [some (.p (can l u d)), some (.p (rowsI t)), x2, some (.p (.int j)), some (.p (.int l)), some (.p (.int u)), some (.p (.int d)), x7, x8]) (S := S)
      (ds := t.map fun r => .p (rowI r)) (stay := still (.p (rowsI t)) S) (fun e => .int ((intsP (match e with | .p (.tup ys) => ys | _ => [])).getD j 0)) (by simp [runF, evSs, evS, evE, evEs, evEo, evC, evI, R.bind, R.obind, slotD, pu, truth, bindO, bindT, setMany, leave, ty_beq, tyEq, isCI, yes, rowsI, items, Function.comp_def]) rfl (by simpa [LIM] using Nat.le_trans hl (by omega)) fun e he => by
        obtain ⟨r, hm, rfl⟩ := List.mem_map.mp he
        have hjr : j < r.length := by have := hr r hm; omega
        refine ⟨_, rfl, ?_⟩
        have e1 : ixN r.length (j : Int) = some j := by
          unfold ixN
          rw [if_pos (by omega), if_pos (by omega)]
          simp
        simp [wipeE, runF, evSs, evS, evE, evEs, evEo, evC, evI, R.bind, R.obind, slotD, pu, truth, bindO, bindT, setMany, leave, ty_beq, tyEq, isCI, yes, rowI, index, items, atI, e1, intsP_map, hjr]
    rw [List.map_map] at this
    unfold cmpF colOf
    rw [this, List.map_map]
    simp only [Function.comp_def, rowI, intsP_map]
  have e1 : sortOk ((colOf t j).map P.int) = true := sortOk_int (by simpa [colOf, LIM] using Nat.le_trans hl (by omega))
  have e2 := eqP_int (colOf t j) (srt (colOf t j)).reverse
  have ev : evSs (CN tab n) FUEL colBody [some (.p (can l u d)), some (.p (rowsI t)), x2, some (.p (.int j)), some (.p (.int l)), some (.p (.int u)), some (.p (.int d)), x7, x8] S = if colOk t j then .next [some (.p (can l u d)), some (.p (rowsI t)), x2, some (.p (.int j)), some (.p (.int l)), some (.p (.int u)), some (.p (.int d)), some (.p (.lst ((colOf t j).map .int))), x8] S else .ret (.p (.bl false)) S := by
    have e2' : eqP (.lst ((colOf t j).map .int)) (.lst ((srt (colOf t j)).map .int).reverse) = some (colOk t j) := by
      rw [← List.map_reverse]; exact e2
    simp [colBody, runF, evSs, evS, evE, evEs, evEo, evC, evI, R.bind, R.obind, slotD, pu, truth, bindO, bindT, setMany, leave, ty_beq, tyEq, isCI, yes, eF, bltop, asSeq, asList, e1, srtP_int, revd, cmpop, view, e2']
    cases colOk t j <;> simp
  rw [ev]
  exact ⟨fun hs => ⟨_, by rw [hs]; rfl, ⟨_, _, _, _, rfl⟩⟩, fun hs => by rw [hs]; rfl⟩
theorem chain_cons {α : Type} (p : α → α → Bool) (x y : α) (r : List α) : chain p (x :: y :: r) = (p x y && chain p (y :: r)) := rfl
theorem chain_pw (q : Int → Int → Bool) (tr : ∀ a b c, q a b = true → q b c = true → q a c = true) : ∀ r : List Int, chain q r = true ↔ r.Pairwise (fun a b => q a b = true)
  | [] => by simp [chain]
  | [x] => by simp [chain]
  | x :: y :: r => by
    rw [chain_cons, Bool.and_eq_true, chain_pw q tr (y :: r), List.pairwise_cons (a := x)]
    constructor
    · rintro ⟨h1, h2⟩
      refine ⟨fun z hz => ?_, h2⟩
      rcases List.mem_cons.mp hz with rfl | hz
      · exact h1
      · exact tr _ _ _ h1 ((List.pairwise_cons.mp h2).1 z hz)
    · rintro ⟨h1, h2⟩
      exact ⟨h1 y List.mem_cons_self, h2⟩
theorem srt_iff (r : List Int) : srt r = r ↔ r.Pairwise (· ≤ ·) :=
  ⟨fun h => h ▸ srt_srt r, fun h => sorted_uniq (srt_perm r) (srt_srt r) h⟩
theorem row_chain (r : List Int) : decide (srt r = r) = chain (fun x y => decide (x ≤ y)) r := by
  rw [Bool.eq_iff_iff, decide_eq_true_eq, srt_iff, chain_pw _ (fun a b c h1 h2 => by simp only [decide_eq_true_eq] at *; omega)]
  simp
theorem col_chain (c : List Int) : decide (c = (srt c).reverse) = chain (fun x y => decide (y ≤ x)) c := by
  rw [Bool.eq_iff_iff, decide_eq_true_eq, chain_pw _ (fun a b c h1 h2 => by simp only [decide_eq_true_eq] at *; omega)]
  have e1 : c = (srt c).reverse ↔ srt c.reverse = c.reverse := by
    have e2 : srt c.reverse = srt c := sorted_uniq (((srt_perm _).trans (List.reverse_perm c)).trans (srt_perm c).symm) (srt_srt _) (srt_srt _)
    rw [e2]
    constructor
    · intro h
      have := congrArg List.reverse h
      rw [List.reverse_reverse] at this
      exact this.symm
    · intro h
      rw [h, List.reverse_reverse]
  rw [e1, srt_iff, List.pairwise_reverse]
  simp
theorem le2_iff : ∀ (a b : List Int), a.length = b.length → (le2 a b = true ↔ ∀ j < a.length, b.getD j 0 ≤ a.getD j 0)
  | [], [], _ => by simp [le2]
  | [], _ :: _, h => by cases h
  | _ :: _, [], h => by cases h
  | x :: a, y :: b, h => by
    have ih := le2_iff a b (by simpa using h)
    have e : le2 (x :: a) (y :: b) = (decide (y ≤ x) && le2 a b) := rfl
    rw [e, Bool.and_eq_true, ih, decide_eq_true_eq]
    constructor
    · rintro ⟨h1, h2⟩ j hj
      cases j with
      | zero => simpa using h1
      | succ j => simpa using h2 j (by simpa using hj)
    · intro h1
      exact ⟨by simpa using h1 0 (by simp), fun j hj => by simpa using h1 (j + 1) (by simpa using hj)⟩
theorem cols_chain (m : Nat) : ∀ t : List (List Int), (∀ r ∈ t, r.length = m) → (chain le2 t = true ↔ ∀ j < m, chain (fun x y => decide (y ≤ x)) (colOf t j) = true)
  | [], _ => by simp [chain, colOf]
  | [x], _ => by simp [chain, colOf]
  | x :: y :: r, h => by
    have ih := cols_chain m (y :: r) fun q hq => h q (List.mem_cons_of_mem _ hq)
    have lx := h x List.mem_cons_self
    have ly := h y (List.mem_cons_of_mem _ List.mem_cons_self)
    rw [chain_cons, Bool.and_eq_true, ih, le2_iff x y (by omega), lx]
    constructor
    · rintro ⟨h1, h2⟩ j hj
      show chain _ (x.getD j 0 :: y.getD j 0 :: colOf r j) = true
      rw [chain_cons, Bool.and_eq_true]
      exact ⟨by simpa using h1 j hj, h2 j hj⟩
    · intro h1
      refine ⟨fun j hj => ?_, fun j hj => ?_⟩
      · have := h1 j hj
        change chain _ (x.getD j 0 :: y.getD j 0 :: colOf r j) = true at this
        rw [chain_cons, Bool.and_eq_true] at this
        simpa using this.1
      · have := h1 j hj
        change chain _ (x.getD j 0 :: y.getD j 0 :: colOf r j) = true at this
        rw [chain_cons, Bool.and_eq_true] at this
        exact this.2
/-- rows, columns -/
theorem law_tab (l u d : Int) (h0 : 0 ≤ d) (xs : List P) : tabB l u d (.tup xs) = (decide ((xs.length : Int) = u) && (xs.all (rowOk l d) && (List.range d.toNat).all (colOk (xs.map fun y => intsP (tupOf (.p y)))))) := by
  by_cases h1 : (xs.length : Int) = u
  · have key : xs.all (rowOk l d) = (xs.all (partsB d) && (xs.all (cellsB l) && (xs.map fun y => intsP (tupOf (.p y))).all (chain fun x y => decide (x ≤ y)))) := by
      rw [Bool.eq_iff_iff]
      simp only [Bool.and_eq_true, List.all_eq_true, List.mem_map]
      constructor
      · intro h
        refine ⟨fun y hy => ?_, fun y hy => ?_, ?_⟩
        · have := h y hy
          cases y <;> simp_all [rowOk, partsB]
        · have := h y hy
          cases y <;> simp_all [rowOk, cellsB]
        · rintro r ⟨y, hy, rfl⟩
          have := h y hy
          cases y with
          | tup ys =>
            simp only [rowOk, Bool.and_eq_true] at this
            rw [← row_chain]
            exact this.2.2
          | _ => simp [rowOk] at this
      · rintro ⟨h2, h3, h4⟩ y hy
        have a := h2 y hy
        have b := h3 y hy
        have c := h4 _ ⟨y, hy, rfl⟩
        cases y with
        | tup ys =>
          simp only [rowOk, Bool.and_eq_true]
          rw [← row_chain] at c
          exact ⟨a, b, c⟩
        | _ => simp [partsB] at a
    rw [key]
    unfold tabB shB stepB
    simp only [h1, decide_true, Bool.true_and]
    have e0 : (xs.map fun y => (tupOf (.p y)).map fun z => match z with | .int i => i | _ => 0) = xs.map fun y => intsP (tupOf (.p y)) := rfl
    rw [e0]
    cases h2 : xs.all (partsB d) with
    | false => simp
    | true =>
      have hlen : ∀ r ∈ xs.map fun y => intsP (tupOf (.p y)), r.length = d.toNat := by
        intro r hr
        obtain ⟨y, hy, rfl⟩ := List.mem_map.mp hr
        have := List.all_eq_true.mp h2 y hy
        cases y with
        | tup ys =>
          simp only [partsB, decide_eq_true_eq] at this
          simp only [intsP, tupOf, List.length_map]
          omega
        | _ => simp [partsB] at this
      have e1 : chain le2 (xs.map fun y => intsP (tupOf (.p y))) = (List.range d.toNat).all (colOk (xs.map fun y => intsP (tupOf (.p y)))) := by
        rw [Bool.eq_iff_iff, cols_chain d.toNat _ hlen, List.all_eq_true]
        constructor
        · intro h j hj
          unfold colOk
          rw [col_chain]
          exact h j (by simpa using hj)
        · intro h j hj
          have := h j (by simpa using hj)
          unfold colOk at this
          rw [col_chain] at this
          exact this
      rw [e1]
      generalize (List.range d.toNat).all (colOk (xs.map fun y => intsP (tupOf (.p y)))) = A
      generalize (xs.map fun y => intsP (tupOf (.p y))).all (chain fun x y => decide (x ≤ y)) = B
      generalize xs.all (cellsB l) = C
      cases A <;> cases B <;> cases C <;> rfl
  · simp [tabB, shB, h1]
theorem BdL_mem {w d : Nat} : ∀ {xs : List P} {y : P}, BdL w d xs → y ∈ xs → Bd w d y
  | [], _, _, h => by cases h
  | x :: r, y, b, h => by
    have f := b.fit
    have g := b.wt
    have k := b.dep
    simp only [fitL, Bool.and_eq_true] at f
    simp only [wtL] at g
    simp only [depL] at k
    rcases List.mem_cons.mp h with rfl | h
    · exact ⟨f.1, by omega, by omega⟩
    · exact BdL_mem ⟨f.2, by omega, by omega⟩ h
theorem rows_back {l d : Int} {xs : List P} (h : xs.all (rowOk l d) = true) : P.tup xs = rowsI (xs.map fun y => intsP (tupOf (.p y))) ∧ ∀ r ∈ (xs.map fun y => intsP (tupOf (.p y))), (r.length : Int) = d := by
  have key : ∀ y ∈ xs, rowI (intsP (tupOf (.p y))) = y ∧ ((intsP (tupOf (.p y))).length : Int) = d := by
    intro y hy
    have := List.all_eq_true.mp h y hy
    cases y with
    | tup ys =>
      simp only [rowOk, Bool.and_eq_true, decide_eq_true_eq] at this
      obtain ⟨r, rfl, _⟩ := ints_of l ys this.2.1
      exact ⟨by simp [tupOf, intsP_map, rowI], by simpa [tupOf, intsP_map] using this.1⟩
    | _ => simp [rowOk] at this
  refine ⟨?_, ?_⟩
  · unfold rowsI
    rw [List.map_map]
    congr 1
    conv => lhs; rw [← List.map_id xs]
    exact List.map_congr_left fun y hy => (key y hy).1.symm
  · intro r hr
    obtain ⟨y, hy, rfl⟩ := List.mem_map.mp hr
    exact (key y hy).2
theorem ltable_ok [h40 : Has tab 40 f__law_is_whole] [h66 : Has tab 66 f__law_is_table] {x : P} {w dd : Nat} (hx : Bd w dd x) (hw : w ≤ LIM) (h : Can l u d) : CN tab (n + 2) 66 [.p (can l u d), .p x] S = .ok (.p (.bl (tabB l u d x))) S := by
  rw [h66.eq, ltab_cut]
  cases x with
  | tup xs =>
    rw [law_tab l u d h.d1]
    have bx : BdL w (w + dd) xs := ⟨by simpa [P.fit] using hx.fit, by simpa [P.wt] using hx.wt, by have := hx.dep; simp only [P.dep] at this; omega⟩
    by_cases h1 : (xs.length : Int) = u
    · have h1' : ((xs.length : Int) == u) = true := by simpa using h1
      have e5 : eqP (.int (xs.length : Int)) (.int u) = some true := by simp [eqP, scalar, P.eqv, h1']
      obtain ⟨f1, f2⟩ := loopF_find (t := .nm 2) (stay := still (.p (.tup xs)) S) (body := evSs (CN tab (n + 1)) FUEL rowBody) (S := S) (r := .p (.bl false)) (InR (.tup xs) l u d) (fun e => match e with | .p y => rowOk l d y | _ => false) rfl (xs.map .p)
        [some (.p (can l u d)), some (.p (.tup xs)), none, none, some (.p (.int l)), some (.p (.int u)), some (.p (.int d)), none, none] ⟨_, _, _, _, rfl⟩ fun e he env hI => by
          obtain ⟨y, hy, rfl⟩ := List.mem_map.mp he
          exact row_step (BdL_mem bx hy) hw h hI
      have eall : (xs.map D.p).all (fun e => match e with | .p y => rowOk l d y | _ => false) = xs.all (rowOk l d) := by rw [List.all_map]; rfl
      rw [eall] at f1 f2
      simp only [h1, decide_true, Bool.true_and]
      cases h2 : xs.all (rowOk l d) with
      | false =>
        have f2 := f2 h2
        simp [runF, evSs, evS, evE, evEs, evEo, evC, evI, R.bind, R.obind, slotD, pu, truth, bindO, bindT, setMany, leave, ty_beq, tyEq, isCI, yes, can, isTy, bltop, lenD, items, cmpop, view, e5] at f2 ⊢
        simp [f2, List.take_of_length_le]
      | true =>
        obtain ⟨e', f3, x2, x3, x7, x8, rfl⟩ := f1 h2
        obtain ⟨hx2, hlen⟩ := rows_back h2
        obtain ⟨g1, g2⟩ := loopF_find (t := .nm 3) (stay := fun _ => true) (body := evSs (CN tab (n + 1)) FUEL colBody) (S := S) (r := .p (.bl false)) (InR (.tup xs) l u d) (fun e => match e with | .p (.int i) => colOk (xs.map fun y => intsP (tupOf (.p y))) i.toNat | _ => false) rfl (rangeD 0 d.toNat)
          [some (.p (can l u d)), some (.p (.tup xs)), x2, x3, some (.p (.int l)), some (.p (.int u)), some (.p (.int d)), x7, x8] ⟨_, _, _, _, rfl⟩ fun e he env hI => by
            obtain ⟨i, hi, rfl⟩ := List.mem_map.mp he
            have hi' : i < d.toNat := by simpa using hi
            have := col_step (tab := tab) (n := n + 1) (S := S) (t := xs.map fun y => intsP (tupOf (.p y))) (by rw [List.length_map]; have := h.u2; omega) hlen h i (by have := h.d1; omega) (env := env) (by rw [← hx2]; exact hI)
            rw [← hx2] at this
            simpa using this
        have eall2 : (rangeD 0 d.toNat).all (fun e => match e with | .p (.int i) => colOk (xs.map fun y => intsP (tupOf (.p y))) i.toNat | _ => false) = (List.range d.toNat).all (colOk (xs.map fun y => intsP (tupOf (.p y)))) := by
          unfold rangeD
          rw [List.all_map]
          simp [Function.comp_def]
        rw [eall2] at g1 g2
        have sm : small62 d = true := by
          have := h.d1
          have := h.d2
          unfold small62
          simp only [Bool.and_eq_true, decide_eq_true_eq]
          omega
        cases h3 : (List.range d.toNat).all (colOk (xs.map fun y => intsP (tupOf (.p y)))) with
        | false =>
          have g2 := g2 h3
          simp [runF, evSs, evS, evE, evEs, evEo, evC, evI, R.bind, R.obind, slotD, pu, truth, bindO, bindT, setMany, leave, ty_beq, tyEq, isCI, yes, can, isTy, bltop, lenD, items, cmpop, view, e5] at f3 g2 ⊢
          simp [f3, sm, g2, List.take_of_length_le]
        | true =>
          obtain ⟨e2, g3, _⟩ := g1 h3
          simp [runF, evSs, evS, evE, evEs, evEo, evC, evI, R.bind, R.obind, slotD, pu, truth, bindO, bindT, setMany, leave, ty_beq, tyEq, isCI, yes, can, isTy, bltop, lenD, items, cmpop, view, e5] at f3 g3 ⊢
          simp [f3, sm, g3, List.take_of_length_le]
    · have h1' : ((xs.length : Int) == u) = false := by simpa using h1
      have e5 : eqP (.int (xs.length : Int)) (.int u) = some false := by simp [eqP, scalar, P.eqv, h1']
      simp [runF, evSs, evS, evE, evEs, evEo, evC, evI, R.bind, R.obind, slotD, pu, truth, bindO, bindT, setMany, leave, ty_beq, tyEq, isCI, yes, can, isTy, bltop, lenD, items, cmpop, view, e5, h1, List.take_of_length_le]
  | _ => simp [runF, evSs, evS, evE, evEs, evEo, evC, evI, R.bind, R.obind, slotD, pu, truth, bindO, bindT, setMany, leave, ty_beq, tyEq, isCI, yes, can, isTy, tabB, shB, List.take_of_length_le]
/-! ### a drawn table -/
structure RowOk (l d : Int) (r : List Int) : Prop where
  len : (r.length : Int) = d
  bd : ∀ i ∈ r, 0 ≤ i ∧ i ≤ l
  up : r.Pairwise (· ≤ ·)
structure Tab (l u d : Int) (t : List (List Int)) : Prop where
  len : (t.length : Int) = u
  rows : ∀ r ∈ t, RowOk l d r
  cols : chain le2 t = true
theorem chain_up (r : List Int) (h : r.Pairwise (· ≤ ·)) : chain (fun x y => decide (x ≤ y)) r = true := by
  rw [chain_pw _ (fun a b c h1 h2 => by simp only [decide_eq_true_eq] at *; omega)]
  simpa using h
theorem chain_up' (r : List Int) (h : chain (fun x y => decide (x ≤ y)) r = true) : r.Pairwise (· ≤ ·) := by
  rw [chain_pw _ (fun a b c h1 h2 => by simp only [decide_eq_true_eq] at *; omega)] at h
  simpa using h
theorem within_all {l : Int} {r : List Int} (h : ∀ i ∈ r, 0 ≤ i ∧ i ≤ l) : (r.map P.int).all (within 0 l) = true := by
  rw [List.all_map, List.all_eq_true]
  intro i hi
  have := h i hi
  simp [within, this.1, this.2]
theorem Tab.is {t : List (List Int)} (h : Tab l u d t) : tabB l u d (rowsI t) = true := by
  have h1 : shB l u d (rowsI t) = true := by
    simp only [shB, rowsI, List.length_map, Bool.and_eq_true, decide_eq_true_eq, List.all_map, List.all_eq_true, Function.comp_def]
    refine ⟨h.len, fun r hr => ?_, fun r hr => ?_⟩
    · simp [rowI, partsB, (h.rows r hr).len]
    · exact within_all (h.rows r hr).bd
  have e3 : tabB l u d (rowsI t) = stepB t := by
    unfold tabB
    rw [h1, Bool.true_and]
    exact congrArg stepB (back_rows t)
  rw [e3]
  simp only [stepB, h.cols, Bool.true_and, List.all_eq_true]
  exact fun r hr => chain_up r (h.rows r hr).up
theorem Tab.of {x : P} (h : tabB l u d x = true) : ∃ t, x = rowsI t ∧ Tab l u d t := by
  have hs : shB l u d x = true := by
    unfold tabB at h
    simp only [Bool.and_eq_true] at h
    exact h.1
  obtain ⟨t, rfl, h1, h2⟩ := sh_of hs
  have e3 : tabB l u d (rowsI t) = stepB t := by
    unfold tabB
    rw [hs, Bool.true_and]
    exact congrArg stepB (back_rows t)
  rw [e3] at h
  simp only [stepB, Bool.and_eq_true, List.all_eq_true] at h
  exact ⟨t, rfl, h1, fun r hr => ⟨(h2 r hr).1, (h2 r hr).2, chain_up' r (h.2 r hr)⟩, h.1⟩
theorem Tab.need [h30 : Has tab 30 f_is_whole] [h31 : Has tab 31 f_is_between] [h32 : Has tab 32 f_has_parts] [h33 : Has tab 33 f_is_canal] {rs42 : St'} [h42 : Has tab 42 (f_need_canal rs42)] [h63 : Has tab 63 f_is_table] [h64 : Has tab 64 f_has_shape] [h65 : Has tab 65 f_is_stepped] {rs72 : St'} [h72 : Has tab 72 (f_need_table rs72)] {t : List (List Int)} (ht : Tab l u d t) (h : Can l u d) {w dd : Nat} (hx : Bd w dd (rowsI t)) (hw : w ≤ LIM) : CN tab (n + 6) 72 [.p (can l u d), .p (rowsI t)] S = .ok (.p .non) S := by
  rw [h72.eq]
  have e := is_table_ok (tab := tab) (n := n) (S := S) hx hw h
  rw [ht.is] at e
  simp [f_need_table, runF, evSs, evS, evE, evEs, evEo, evC, evI, R.bind, R.obind, slotD, pu, truth, bindO, bindT, setMany, leave, ty_beq, tyEq, isCI, yes, e, List.take_of_length_le]
def mn (i j : Int) : Int := if j < i then j else i
def zipMn (a b : List Int) : List Int := (a.zip b).map fun w => mn w.1 w.2
theorem zipMn_cons (x y : Int) (a b : List Int) : zipMn (x :: a) (y :: b) = mn x y :: zipMn a b := rfl
theorem zipMn_le : ∀ (a b : List Int), le2 b (zipMn a b) = true
  | [], b => by cases b <;> rfl
  | _ :: _, [] => rfl
  | x :: a, y :: b => by
    have ih := zipMn_le a b
    have e : le2 (y :: b) (zipMn (x :: a) (y :: b)) = (decide (mn x y ≤ y) && le2 b (zipMn a b)) := rfl
    rw [e, ih, Bool.and_true, decide_eq_true_eq]
    unfold mn
    split <;> omega
theorem zipMn_mem {a b : List Int} {z : Int} (h : z ∈ zipMn a b) : ∃ x ∈ a, ∃ y ∈ b, z = mn x y := by
  unfold zipMn at h
  obtain ⟨w, hw, rfl⟩ := List.mem_map.mp h
  obtain ⟨h1, h2⟩ := List.of_mem_zip (show (w.1, w.2) ∈ a.zip b from hw)
  exact ⟨_, h1, _, h2, rfl⟩
theorem zipMn_up : ∀ (a b : List Int), a.Pairwise (· ≤ ·) → b.Pairwise (· ≤ ·) → (zipMn a b).Pairwise (· ≤ ·)
  | [], b, _, _ => by cases b <;> exact List.Pairwise.nil
  | _ :: _, [], _, _ => List.Pairwise.nil
  | x :: a, y :: b, ha, hb => by
    rw [zipMn_cons, List.pairwise_cons]
    obtain ⟨h1, h2⟩ := List.pairwise_cons.mp ha
    obtain ⟨h3, h4⟩ := List.pairwise_cons.mp hb
    refine ⟨fun z hz => ?_, zipMn_up a b h2 h4⟩
    obtain ⟨x', hx, y', hy, rfl⟩ := zipMn_mem hz
    have := h1 x' hx
    have := h3 y' hy
    unfold mn
    split <;> split <;> omega
theorem RowOk.min {a b : List Int} (ha : RowOk l d a) (hb : RowOk l d b) : RowOk l d (zipMn a b) := by
  refine ⟨?_, fun i hi => ?_, zipMn_up _ _ ha.up hb.up⟩
  · have := ha.len
    have := hb.len
    simp only [zipMn, List.length_map, List.length_zip]
    omega
  · obtain ⟨x, hx, y, hy, rfl⟩ := zipMn_mem hi
    have := ha.bd x hx
    have := hb.bd y hy
    unfold mn
    split <;> omega
theorem RowOk.srt {r : List Int} (h1 : (r.length : Int) = d) (h2 : ∀ i ∈ r, 0 ≤ i ∧ i ≤ l) : RowOk l d (Mx.srt r) :=
  ⟨by rw [srt_len]; exact h1, fun i hi => h2 i ((srt_perm r).mem_iff.mp hi), srt_srt r⟩
structure TabPre (l d : Int) (j : Nat) (t : List (List Int)) (a : List Int) : Prop where
  len : t.length = j
  rows : ∀ r ∈ t, RowOk l d r
  top : RowOk l d a
  cols : chain le2 t = true
  last : ∀ r, t.getLast? = some r → r = a
theorem chain_app {α : Type} (p : α → α → Bool) : ∀ (t : List α) (a : α), chain p t = true → (∀ r, t.getLast? = some r → p r a = true) → chain p (t ++ [a]) = true
  | [], a, _, _ => rfl
  | [x], a, _, h => by
    have := h x rfl
    show (p x a && true) = true
    rw [this]; rfl
  | x :: y :: r, a, h1, h2 => by
    rw [chain_cons, Bool.and_eq_true] at h1
    show chain p (x :: y :: (r ++ [a])) = true
    rw [chain_cons, h1.1, Bool.true_and]
    exact chain_app p (y :: r) a h1.2 fun q hq => h2 q (by simpa [List.getLast?_cons_cons] using hq)
theorem TabPre.step {j : Nat} {t : List (List Int)} {a b : List Int} (h : TabPre l d j t a) (hb : RowOk l d b) : TabPre l d (j + 1) (t ++ [zipMn b a]) (zipMn b a) := by
  refine ⟨by simp [h.len], fun r hr => ?_, hb.min h.top, chain_app _ _ _ h.cols fun r hr => ?_, fun r hr => by simpa using hr.symm⟩
  · rcases List.mem_append.mp hr with hr | hr
    · exact h.rows r hr
    · rw [List.mem_singleton.mp hr]; exact hb.min h.top
  · rw [h.last r hr]; exact zipMn_le _ _
theorem comp_inv {C : Nat → List D → Sto → R D} {own : List Nat} {t : Tg} {src : Src} {elt : E} {env : Mx.Env} {S : Sto} {ds : List D} {stay : Sto → Bool} {I : Sto → Prop} {Q : P → Prop} (h : evI C src env S = .ok ⟨ds, stay⟩ S) (hI : I S) (hs : ∀ S, I S → stay S = true) (hl : ds.length ≤ LIM)
    (he : ∀ d ∈ ds, ∀ S, I S → ∃ env1, bindT t d (wipeE env own) = some env1 ∧ ∃ x S', evE C elt env1 S = .ok (.p x) S' ∧ I S' ∧ Q x) : ∃ xs S', evE C (.comp own t src .none elt) env S = .ok (.p (.lst xs)) S' ∧ xs.length = ds.length ∧ (∀ x ∈ xs, Q x) ∧ I S' := by
  obtain ⟨xs, S', e, h1, h2, h3⟩ := compL_inv (stay := stay) (turn := turnC t own (evC C .none) (oneMore (evE C elt)) env) (I := I) (Q := Q) ds [] S hI hs (by simpa using hl) fun d hd acc S hS ha => by
    obtain ⟨env1, e1, x, S', e2, h1, h2⟩ := he d hd S hS
    exact ⟨x, S', by simp [turnC, e1, evC, R.bind, oneMore, e2, ha], h1, h2⟩
  refine ⟨xs, S', ?_, h1, h2, h3⟩
  simp only [evE, h, R.bind]
  rw [e]
  rfl
theorem ints_Q {l : Int} : ∀ {xs : List P}, (∀ x ∈ xs, ∃ i, x = .int i ∧ 0 ≤ i ∧ i ≤ l) → ∃ ns : List Int, xs = ns.map .int ∧ ∀ i ∈ ns, 0 ≤ i ∧ i ≤ l
  | [], _ => ⟨[], rfl, by simp⟩
  | x :: r, h => by
    obtain ⟨i, rfl, hi⟩ := h x List.mem_cons_self
    obtain ⟨ns, rfl, hn⟩ := ints_Q fun y hy => h y (List.mem_cons_of_mem _ hy)
    exact ⟨i :: ns, rfl, fun j hj => by rcases List.mem_cons.mp hj with rfl | hj; exact hi; exact hn j hj⟩
def cmpG : E := .comp [6] (.nm 6) (.of (.var 4)) .none (.call 36 (.cons (.var 0) (.cons (.bin .add (.idx (.var 1) (.lit (.int 0))) (.lit (.int 1))) .nil)))
def cmpH : E := .comp [7, 8] (.tp [7, 8]) (.zip (.var 5) (.var 4)) .none (.blt .min2 (.cons (.var 7) (.cons (.var 8) .nil)))
def tblB : Sts := (.cons (.asg (.nm 5) (.blt .sorted (.cons cmpG .nil))) (.cons (.iff (.cmp .eq (.call 36 (.cons (.var 0) (.cons (.lit (.int 3)) .nil))) (.lit (.int 0))) (.cons (.asg (.nm 5) (.blt .list (.cons (.var 4) .nil))) .nil) .nil) (.cons (.asg (.nm 4) (.blt .tuple (.cons cmpH .nil))) (.cons (.asg (.nm 3) (.bin .add (.var 3) (.tup (.cons (.var 4) .nil)))) .nil))))
theorem ltable_cut : f__law_table = { np := 2, nN := 9, keep := false, body := (.cons (.par [3, 4] (.cons (.tup .nil) (.cons (.bin .mul (.tup (.cons (.idx (.var 1) (.lit (.int 0))) .nil)) (.idx (.var 1) (.lit (.int 2)))) .nil))) (.cons (.for (.nm 2) (.rng (.idx (.var 1) (.lit (.int 1)))) tblB) (.cons (.ret (.var 3)) .nil))) } := rfl
structure InTb (k : Nat) (l u d : Int) (S0 : Sto) (j : Nat) (env : Mx.Env) (S : Sto) : Prop where
  sim : Sim k S0 S
  env : ∃ t a x2 x5 x6 x7 x8, env = [some (.mu k), some (.p (can l u d)), x2, some (.p (rowsI t)), some (.p (rowI a)), x5, x6, x7, x8] ∧ TabPre l d j t a
theorem min_zip {dr a : List Int} {C : Nat → List D → Sto → R D} {e0 e1 e2 e3 x6 x7 x8 : Option D} (hl : dr.length ≤ 300) :
    evE C cmpH [e0, e1, e2, e3, some (.p (rowI a)), some (.p (.lst (dr.map .int))), x6, x7, x8] S = .ok (.p (.lst ((zipMn dr a).map .int))) S := by
  have pm := pairs_map (fun i : Int => P.int i) (fun i : Int => P.int i) dr a
  have := comp_pure (C := C) (own := [7, 8]) (t := .tp [7, 8]) (src := .zip (.var 5) (.var 4)) (elt := .blt .min2 (.cons (.var 7) (.cons (.var 8) .nil))) (env := [e0, e1, e2, e3, some (.p (rowI a)), some (.p (.lst (dr.map .int))), x6, x7, x8]) (S := S)
    (ds := (dr.zip a).map fun w => .tup [.p (.int w.1), .p (.int w.2)]) (stay := fun S' => still (.p (.lst (dr.map .int))) S S' && still (.p (rowI a)) S S') (fun e => match e with | .tup [.p (.int i), .p (.int j)] => .int (mn i j) | _ => .non)
    (by rw [← pm]; simp [runF, evSs, evS, evE, evEs, evEo, evC, evI, R.bind, R.obind, slotD, pu, truth, bindO, bindT, setMany, leave, ty_beq, tyEq, isCI, yes, rowI, items, Function.comp_def]) rfl
    (by rw [List.length_map, List.length_zip]; unfold LIM; omega) fun e he => by
      obtain ⟨w, hw, rfl⟩ := List.mem_map.mp he
      refine ⟨_, rfl, ?_⟩
      simp [runF, evSs, evS, evE, evEs, evEo, evC, evI, R.bind, R.obind, slotD, pu, truth, bindO, bindT, setMany, leave, ty_beq, tyEq, isCI, yes, wipeE, bltop, mn]
  unfold cmpH
  rw [this, List.map_map]
  simp [zipMn, Function.comp_def]
theorem tbl_step [h36 : Has tab 36 f__law_draw] {S0 : Sto} (h : Can l u d) (j x : Nat) (hj : j < 300) {env : Mx.Env} (hI : InTb k l u d S0 j env S) :
    ∃ e' S', evSs (CN tab (n + 1)) FUEL tblB (env.set 2 (some (.p (.int x)))) S = .next e' S' ∧ InTb k l u d S0 (j + 1) e' S' := by
  obtain ⟨sim, t, a, x2, x5, x6, x7, x8, rfl, ht⟩ := hI
  have hla := ht.top.len
  have hal : a.length ≤ 4 := by have := h.d2; omega
  obtain ⟨xs, S1, e1, l1, q1, s1⟩ := comp_inv (C := CN tab (n + 1)) (own := [6]) (t := .nm 6) (src := .of (.var 4)) (elt := .call 36 (.cons (.var 0) (.cons (.bin .add (.idx (.var 1) (.lit (.int 0))) (.lit (.int 1))) .nil)))
    (env := [some (.mu k), some (.p (can l u d)), some (.p (.int x)), some (.p (rowsI t)), some (.p (rowI a)), x5, x6, x7, x8]) (S := S) (ds := a.map fun i => .p (.int i)) (stay := still (.p (rowI a)) S) (I := fun S' => Sim k S0 S') (Q := fun x => ∃ i, x = .int i ∧ 0 ≤ i ∧ i ≤ l)
    (by simp [runF, evSs, evS, evE, evEs, evEo, evC, evI, R.bind, R.obind, slotD, pu, truth, bindO, bindT, setMany, leave, ty_beq, tyEq, isCI, yes, rowI, items, Function.comp_def]) sim (fun _ _ => rfl) (by simp [LIM]; omega) fun e he S hS => by
      obtain ⟨i, hi, rfl⟩ := List.mem_map.mp he
      obtain ⟨r, S', e, sm, r0, r1⟩ := drawW (tab := tab) (n := n) (m := l + 1) hS.pen (by have := h.l1; omega) (by have := h.l2; omega)
      refine ⟨_, rfl, .int r, S', ?_, hS.trans sm, r, rfl, r0, by omega⟩
      simp [runF, evSs, evS, evE, evEs, evEo, evC, evI, R.bind, R.obind, slotD, pu, truth, bindO, bindT, setMany, leave, ty_beq, tyEq, isCI, yes, wipeE, can, index, items, atI, ixN, binop, e]
  obtain ⟨ns, rfl, hn⟩ := ints_Q q1
  have ns_len : (ns.length : Int) = d := by simp only [List.length_map] at l1; omega
  have so : sortOk (ns.map P.int) = true := sortOk_int (by unfold LIM; omega)
  obtain ⟨r, S2, e2, s2, r0, r1⟩ := drawW (tab := tab) (n := n) (m := 3) s1.pen (by omega) (by omega)
  obtain ⟨dr, hd, hdr⟩ : ∃ dr, (dr = if r = 0 then a else srt ns) ∧ RowOk l d dr := by
    refine ⟨_, rfl, ?_⟩
    split
    · exact ht.top
    · exact RowOk.srt ns_len hn
  have hdl : dr.length ≤ 300 := by have := hdr.len; have := h.d2; omega
  have e3 := fun (x6 x7 x8 : Option D) => min_zip (S := S2) (C := CN tab (n + 1)) (dr := dr) (a := a) (e0 := some (.mu k)) (e1 := some (.p (can l u d))) (e2 := some (.p (.int x))) (e3 := some (.p (rowsI t))) (x6 := x6) (x7 := x7) (x8 := x8) hdl
  refine ⟨[some (.mu k), some (.p (can l u d)), some (.p (.int x)), some (.p (rowsI (t ++ [zipMn dr a]))), some (.p (rowI (zipMn dr a))), some (.p (.lst (dr.map .int))), x6, x7, x8], S2, ?_, s1.trans s2, _, _, _, _, _, _, _, rfl, ht.step hdr⟩
  have lim : t.length + 1 ≤ LIM := by have := ht.len; unfold LIM; omega
  have er : eqP (.int r) (.int 0) = some (decide (r = 0)) := rfl
  change evE (CN tab (n + 1)) cmpG _ S = _ at e1
  simp [tblB, runF, evSs, evS, evE, evEs, evEo, evC, evI, R.bind, R.obind, slotD, pu, truth, bindO, bindT, setMany, leave, ty_beq, tyEq, isCI, yes, e1, bltop, asSeq, asList, so, srtP_int, e2, cmpop, view, er]
  by_cases hr : r = 0
  · simp only [hr, if_true] at hd
    subst hd
    have e4 := e3 x6 x7 x8
    simp [hr, rowI, items] at e4 ⊢
    rw [e4]
    simp [asList, rowsI, binop, mkTup, allP, lim, rowI, bltop]
  · simp only [hr, if_false] at hd
    subst hd
    have e4 := e3 x6 x7 x8
    simp [hr] at e4 ⊢
    rw [e4]
    simp [asList, rowsI, binop, mkTup, allP, lim, rowI, bltop]
theorem ltable_draw [h36 : Has tab 36 f__law_draw] [h67 : Has tab 67 f__law_table] (h : Can l u d) (hp : IsPen S k) : ∃ t S', CN tab (n + 2) 67 [.mu k, .p (can l u d)] S = .ok (.p (rowsI t)) S' ∧ Sim k S S' ∧ Tab l u d t := by
  rw [h67.eq, ltable_cut]
  have h0 : TabPre l d 0 [] (List.replicate d.toNat l) := by
    refine ⟨rfl, by simp, ⟨by simp; have := h.d1; omega, fun i hi => ?_, ?_⟩, rfl, by simp⟩
    · have := h.l1
      rw [List.eq_of_mem_replicate hi]; omega
    · rw [List.pairwise_replicate]; omega
  obtain ⟨e3, S3, h3, i3⟩ := loopF_inv (t := .nm 2) (stay := fun _ => true) (body := evSs (CN tab (n + 1)) FUEL tblB) (InTb k l u d S) (rangeD 0 u.toNat) 0 [some (.mu k), some (.p (can l u d)), none, some (.p (.tup [])), some (.p (rowI (List.replicate d.toNat l))), none, none, none, none] S
    ⟨Sim.refl hp, [], _, _, _, _, _, _, rfl, h0⟩ (fun _ _ _ _ => rfl) (fun i x env S' hd hI => by
      obtain ⟨rfl, hj⟩ := range_get hd
      refine ⟨_, rfl, ?_⟩
      rw [Nat.zero_add] at hI ⊢
      obtain ⟨e', S'', h1, h2⟩ := tbl_step (tab := tab) (n := n) h i i (by have := h.u2; omega) hI
      refine ⟨e', S'', .inl ?_, h2⟩
      rw [Int.zero_add]; exact h1)
  obtain ⟨sim, t, a, x2, x5, x6, x7, x8, rfl, ht⟩ := i3
  rw [Nat.zero_add] at ht
  have sm : small62 u = true := by
    have := h.u1
    have := h.u2
    unfold small62
    simp only [Bool.and_eq_true, decide_eq_true_eq]
    omega
  have d1 : decide (-(2 ^ 63) ≤ d) = true := by have := h.d1; simp only [decide_eq_true_eq]; omega
  have d2 : decide (d < 2 ^ 63) = true := by have := h.d2; simp only [decide_eq_true_eq]; omega
  have d3 : decide (1 * d.toNat ≤ LIM) = true := by have := h.d2; simp only [decide_eq_true_eq]; unfold LIM; omega
  have rep : (List.replicate d.toNat [P.int l]).flatten = (List.replicate d.toNat l).map .int := by
    rw [List.map_replicate, List.flatten_replicate_singleton]
  refine ⟨t, S3, ?_, sim, by have := ht.len; simp [rangeD] at this; have := h.u1; omega, ht.rows, ht.cols⟩
  have bm : binop .mul (.p (.tup [.int l])) (.p (.int d)) S = some (rowI (List.replicate d.toNat l)) := by
    unfold rowI
    rw [← rep]
    simp only [binop, List.length_cons, List.length_nil, Nat.zero_add, d1, d2, d3, Bool.and_self, if_true]
  simp [runF, evSs, evS, evE, evEs, evEo, evC, evI, R.bind, R.obind, slotD, pu, truth, bindO, bindT, setMany, leave, ty_beq, tyEq, isCI, yes, can, index, items, atI, ixN, mkTup, allP, bm, sm] at h3 ⊢
  rw [h3]
  simp [sim.len, List.take_of_length_le]
end Mx
end

section
set_option Elab.async false
set_option linter.all false
set_option maxRecDepth 100000
set_option autoImplicit false
set_option maxHeartbeats 4000000
namespace Mx
open PySem L2
variable {tab : Nat → Option FD} {n : Nat} {S : Sto} {k : Nat} {l u d : Int}
/-! ### books as words -/
def upP : P := .str [117, 112]
def downP : P := .str [100, 111, 119, 110]
def wayP (b : Bool) : P := if b then upP else downP
def words (w : List Bool) : List P := w.map wayP
/-- how many of a row are met no higher than q -/
def met (q : Int) (r : List Int) : Nat := (r.filter fun i => decide (i ≤ q)).length
theorem met_le (q : Int) (r : List Int) : met q r ≤ r.length := List.length_filter_le ..
theorem met_iff (q : Int) : ∀ (r : List Int), r.Pairwise (· ≤ ·) → ∀ (j : Nat) (h : j < r.length), (r[j] ≤ q ↔ j < met q r)
  | [], _, j, h => absurd h (Nat.not_lt_zero _)
  | x :: r, hp, j, h => by
    obtain ⟨h1, h2⟩ := List.pairwise_cons.mp hp
    by_cases hx : x ≤ q
    · have e : met q (x :: r) = met q r + 1 := by simp [met, hx]
      rw [e]
      cases j with
      | zero => simp [hx]
      | succ j =>
        have := met_iff q r h2 j (by simpa using h)
        simpa using this
    · have all : ∀ y ∈ x :: r, ¬ y ≤ q := fun y hy => by
        rcases List.mem_cons.mp hy with rfl | hy
        · exact hx
        · have := h1 y hy; omega
      have e : met q (x :: r) = 0 := by
        unfold met
        rw [List.length_eq_zero_iff, List.filter_eq_nil_iff]
        intro y hy
        have := all y hy
        simpa using this
      rw [e]
      exact ⟨fun hh => absurd hh (all _ (List.getElem_mem h)), fun hh => absurd hh (Nat.not_lt_zero _)⟩
def stepW (j : Nat) (s : List Bool × List Nat) : List Bool × List Nat := (s.1 ++ List.replicate (s.2.takeWhile fun m => decide (m ≤ j)).length true ++ [false], s.2.dropWhile fun m => decide (m ≤ j))
def runW (ms : List Nat) (j : Nat) : List Bool × List Nat := (List.range j).foldl (fun s j => stepW j s) ([], ms)
def progW (ms : List Nat) (d : Nat) : List Bool := (runW ms d).1 ++ List.replicate (runW ms d).2.length true
def lawS (s : List Bool × Nat) (m : Nat) : List Bool × Nat := (s.1 ++ List.replicate (m - s.2) false ++ [true], m)
def lawR (ms : List Nat) : List Bool × Nat := ms.foldl lawS ([], 0)
def lawW (ms : List Nat) (d : Nat) : List Bool := (lawR ms).1 ++ List.replicate (d - (lawR ms).2) false
def tag (i : Nat) (x : P) : P := .tup [.int i, x]
def aheadU (ms : List Nat) : List P := ms.mapIdx fun i m => tag (i + m) upP
def aheadD (ms : List Nat) (d : Nat) : List P := (List.range d).map fun j => tag (j + (ms.filter fun m => decide (m ≤ j)).length) downP
def snd2 : P → P
  | .tup [_, y] => y
  | _ => .non
def aheadW (ms : List Nat) (d : Nat) : List P := (srtP (aheadU ms ++ aheadD ms d)).map snd2
def allL : Nat → List (List Nat)
  | 0 => [[]]
  | n + 1 => (allL n).flatMap fun r => (List.range 5).map fun m => m :: r
theorem mem_allL : ∀ ms : List Nat, (∀ m ∈ ms, m ≤ 4) → ms ∈ allL ms.length
  | [], _ => by simp [allL]
  | m :: r, h => by
    simp only [List.length_cons, allL, List.mem_flatMap, List.mem_map, List.mem_range]
    have := h m List.mem_cons_self
    exact ⟨r, mem_allL r fun x hx => h x (List.mem_cons_of_mem _ hx), m, by omega, rfl⟩
def mono : List Nat → Bool
  | x :: y :: r => decide (x ≤ y) && mono (y :: r)
  | _ => true
def chkW : Bool := (List.range 5).all fun n => (allL n).all fun ms => (List.range 5).all fun d => !(mono ms && ms.all fun m => decide (m ≤ d)) || (decide (progW ms d = lawW ms d) && decide (aheadW ms d = words (lawW ms d)) && sortOk (aheadU ms ++ aheadD ms d))
theorem chkW_true : chkW = true := by decide +kernel
def chkL : Bool := (List.range 5).all fun n => (allL n).all fun ms => (List.range 5).all fun d => decide ((lawW ms d).length ≤ 40)
theorem chkL_true : chkL = true := by decide +kernel
structure Ms (ms : List Nat) (u d : Nat) : Prop where
  len : ms.length = u
  u4 : u ≤ 4
  d4 : d ≤ 4
  mo : mono ms = true
  le : ∀ m ∈ ms, m ≤ d
theorem Ms.chk {ms : List Nat} {u d : Nat} (h : Ms ms u d) : progW ms d = lawW ms d ∧ aheadW ms d = words (lawW ms d) ∧ sortOk (aheadU ms ++ aheadD ms d) = true := by
  have h1 := chkW_true
  unfold chkW at h1
  rw [List.all_eq_true] at h1
  have h2 := h1 ms.length (List.mem_range.mpr (by have := h.len; have := h.u4; omega))
  rw [List.all_eq_true] at h2
  have h3 := h2 ms (mem_allL ms fun m hm => by have := h.le m hm; have := h.d4; omega)
  rw [List.all_eq_true] at h3
  have h4 := h3 d (List.mem_range.mpr (by have := h.d4; omega))
  have h5 : (ms.all fun m => decide (m ≤ d)) = true := by rw [List.all_eq_true]; exact fun m hm => by simpa using h.le m hm
  simp only [h.mo, h5, Bool.and_self, Bool.not_true, Bool.false_or, Bool.and_eq_true, decide_eq_true_eq] at h4
  exact ⟨h4.1.1, h4.1.2, h4.2⟩
/-! ### a table's meetings at a lock -/
theorem le2_met (q : Int) : ∀ (a b : List Int), a.length = b.length → le2 a b = true → met q a ≤ met q b
  | [], [], _, _ => Nat.le_refl _
  | [], _ :: _, h, _ => by cases h
  | _ :: _, [], h, _ => by cases h
  | x :: a, y :: b, h, hl => by
    have e : le2 (x :: a) (y :: b) = (decide (y ≤ x) && le2 a b) := rfl
    rw [e, Bool.and_eq_true, decide_eq_true_eq] at hl
    have ih := le2_met q a b (by simpa using h) hl.2
    unfold met at ih ⊢
    by_cases h1 : x ≤ q
    · have : y ≤ q := by omega
      simp [h1, this]; omega
    · by_cases h2 : y ≤ q <;> simp [h1, h2] <;> omega
theorem mono_met (q : Int) (m : Nat) : ∀ t : List (List Int), (∀ r ∈ t, r.length = m) → chain le2 t = true → mono (t.map (met q)) = true
  | [], _, _ => rfl
  | [_], _, _ => rfl
  | x :: y :: r, h, hc => by
    rw [chain_cons, Bool.and_eq_true] at hc
    have ih := mono_met q m (y :: r) (fun z hz => h z (List.mem_cons_of_mem _ hz)) hc.2
    have lx := h x List.mem_cons_self
    have ly := h y (List.mem_cons_of_mem _ List.mem_cons_self)
    have := le2_met q x y (by omega) hc.1
    show (decide (met q x ≤ met q y) && mono ((y :: r).map (met q))) = true
    rw [ih]
    simp [this]
theorem Tab.ms {t : List (List Int)} (ht : Tab l u d t) (h : Can l u d) (q : Int) : Ms (t.map (met q)) u.toNat d.toNat := by
  have h1 := ht.len
  have h2 := h.u1; have h3 := h.u2; have h4 := h.d1; have h5 := h.d2
  have hr : ∀ r ∈ t, r.length = d.toNat := fun r hr => by have := (ht.rows r hr).len; omega
  refine ⟨by simp; omega, by omega, by omega, mono_met q d.toNat t hr ht.cols, fun m hm => ?_⟩
  obtain ⟨r, hrm, rfl⟩ := List.mem_map.mp hm
  have := met_le q r
  have := hr r hrm
  omega
theorem index_rows {t : List (List Int)} {i : Nat} (h : i < t.length) : index (.p (rowsI t)) (.p (.int (i : Int))) S = some (.p (rowI t[i])) := by
  simp [index, rowsI, items, atI, ixN, h]
theorem index_row {r : List Int} {j : Nat} (h : j < r.length) : index (.p (rowI r)) (.p (.int (j : Int))) S = some (.p (.int r[j])) := by
  simp [index, rowI, items, atI, ixN, h]
theorem tw_get {α : Type} (p : α → Bool) : ∀ (L : List α) (i : Nat), i < (L.takeWhile p).length → ∃ h : i < L.length, p L[i] = true
  | [], i, h => by simp at h
  | x :: r, i, h => by
    by_cases hx : p x = true
    · rw [List.takeWhile_cons, if_pos hx] at h
      cases i with
      | zero => exact ⟨by simp, hx⟩
      | succ i =>
        obtain ⟨h1, h2⟩ := tw_get p r i (by simpa using h)
        exact ⟨by simpa using h1, by simpa using h2⟩
    · rw [List.takeWhile_cons, if_neg hx] at h
      simp at h
theorem tw_end {α : Type} (p : α → Bool) : ∀ (L : List α) (h : (L.takeWhile p).length < L.length), p L[(L.takeWhile p).length] = false
  | [], h => absurd h (Nat.not_lt_zero _)
  | x :: r, h => by
    by_cases hx : p x = true
    · have e : (x :: r).takeWhile p = x :: r.takeWhile p := by rw [List.takeWhile_cons, if_pos hx]
      have h' : (r.takeWhile p).length < r.length := by rw [e] at h; simpa using h
      have := tw_end p r h'
      simp only [e, List.length_cons, List.getElem_cons_succ]
      exact this
    · have e : (x :: r).takeWhile p = [] := by rw [List.takeWhile_cons, if_neg hx]
      simp only [e, List.length_nil, List.getElem_cons_zero]
      simpa using hx
theorem dw_drop {α : Type} (p : α → Bool) : ∀ L : List α, L.dropWhile p = L.drop (L.takeWhile p).length
  | [] => rfl
  | x :: r => by
    by_cases hx : p x = true
    · rw [List.dropWhile_cons, if_pos hx, List.takeWhile_cons, if_pos hx, List.length_cons, List.drop_succ_cons, dw_drop p r]
    · rw [List.dropWhile_cons, if_neg hx, List.takeWhile_cons, if_neg hx]; rfl
theorem tw_le {α : Type} (p : α → Bool) (L : List α) : (L.takeWhile p).length ≤ L.length := (List.takeWhile_sublist p).length_le
theorem runW_succ (ms : List Nat) (j : Nat) : runW ms (j + 1) = stepW j (runW ms j) := by
  unfold runW
  rw [List.range_succ, List.foldl_append]; rfl
theorem set_last {S : Sto} {a b : MO} : (S ++ [a]).set S.length b = S ++ [b] := by simp
def cE : E := .andE (.cmp .lt (.var 4) (.var 7)) (.cmp .gt (.idx (.idx (.var 1) (.var 4)) (.var 5)) (.var 2))
def wB : Sts := (.cons (.ex (.mth .append (.var 3) (.cons (.lit (.str [117, 112])) .nil))) (.cons (.aug 4 .add (.lit (.int 1))) .nil))
def bookB : Sts := (.cons (.whl cE wB) (.cons (.ex (.mth .append (.var 3) (.cons (.lit (.str [100, 111, 119, 110])) .nil))) .nil))
theorem book_cut : f_lock_book = { np := 3, nN := 9, keep := false, body := (.cons (.asg (.tp [6, 7, 8]) (.var 0)) (.cons (.asg (.nm 3) (.mk (.lst .nil))) (.cons (.asg (.nm 4) (.lit (.int 0))) (.cons (.for (.nm 5) (.rng (.var 8)) bookB) (.cons (.ret (.blt .tuple (.cons (.bin .add (.var 3) (.bin .mul (.lst (.cons (.lit (.str [117, 112])) .nil)) (.bin .sub (.var 7) (.var 4)))) .nil))) .nil))))) } := rfl
theorem rep_lst {S : Sto} {x : P} {m : Int} (h0 : -10 ≤ m) (h4 : m ≤ 10) : binop .mul (.p (.lst [x])) (.p (.int m)) S = some (.lst (List.replicate m.toNat x)) := by
  have d1 : decide (-(2 ^ 63) ≤ m) = true := by simp only [decide_eq_true_eq]; omega
  have d2 : decide (m < 2 ^ 63) = true := by simp only [decide_eq_true_eq]; omega
  have d3 : decide (1 * m.toNat ≤ LIM) = true := by simp only [decide_eq_true_eq]; unfold LIM; omega
  simp only [binop, asList, List.length_cons, List.length_nil, Nat.zero_add, d1, d2, d3, Bool.and_self, if_true, List.flatten_replicate_singleton]
theorem add_mu {S : Sto} {k : Nat} {ys : List P} : binop .add (.mu k) (.p (.lst ys)) S = match S[k]? with | some (.lst xs) => (if xs.length + ys.length ≤ LIM then some (.lst (xs ++ ys)) else none) | _ => none := by
  simp only [binop, asList]
  split
  · rename_i h1 h2
    split at h1
    · cases h1; simp_all
    · cases h1
  · rename_i h
    split
    · rename_i xs hx
      exact absurd rfl (h xs ys (by rw [hx]))
    · rfl
theorem words_app (a b : List Bool) : words (a ++ b) = words a ++ words b := List.map_append
theorem words_len (a : List Bool) : (words a).length = a.length := List.length_map ..
theorem words_rep (m : Nat) (b : Bool) : words (List.replicate m b) = List.replicate m (wayP b) := List.map_replicate
section
variable {t : List (List Int)} {q : Int}
/-- within the while -/
structure WI (S : Sto) (t : List (List Int)) (l u d q : Int) (j t0 : Nat) (w : List Bool) (x6 : Option D) (i : Nat) (env : Mx.Env) (S' : Sto) : Prop where
  env : env = [some (.p (can l u d)), some (.p (rowsI t)), some (.p (.int q)), some (.mu S.length), some (.p (.int ((t0 + i : Nat) : Int))), some (.p (.int (j : Int))), x6, some (.p (.int u)), some (.p (.int d))]
  sto : S' = S ++ [.lst (words (w ++ List.replicate i true))]
/-- between the downs -/
structure BI (S : Sto) (t : List (List Int)) (l u d q : Int) (j : Nat) (env : Mx.Env) (S' : Sto) : Prop where
  env : ∃ (tr : Nat) (x5 x6 : Option D), env = [some (.p (can l u d)), some (.p (rowsI t)), some (.p (.int q)), some (.mu S.length), some (.p (.int (tr : Int))), x5, x6, some (.p (.int u)), some (.p (.int d))] ∧ (runW (t.map (met q)) j).2 = (t.map (met q)).drop tr ∧ tr ≤ t.length ∧ (runW (t.map (met q)) j).1.length = j + tr
  sto : S' = S ++ [.lst (words (runW (t.map (met q)) j).1)]
theorem book_step (h : Can l u d) (ht : Tab l u d t) (j : Nat) (hj : (j : Int) < d) {env : Mx.Env} {S' : Sto} (hI : BI S t l u d q j env S') :
    ∃ e' S'', evSs (CN tab n) FUEL bookB (env.set 5 (some (.p (.int j)))) S' = .next e' S'' ∧ BI S t l u d q (j + 1) e' S'' := by
  obtain ⟨⟨tr, x5, x6, rfl, hd, htr, hlen⟩, rfl⟩ := hI
  have hl := ht.len
  have hu2 := h.u2
  have hd2 := h.d2
  obtain ⟨w, hw⟩ : ∃ w, w = (runW (t.map (met q)) j).1 := ⟨_, rfl⟩
  obtain ⟨L, hL⟩ : ∃ L, L = (t.map (met q)).drop tr := ⟨_, rfl⟩
  obtain ⟨N, hN⟩ : ∃ N, N = (L.takeWhile fun m => decide (m ≤ j)).length := ⟨_, rfl⟩
  have Llen : L.length = t.length - tr := by rw [hL]; simp
  have Nle : N ≤ L.length := by rw [hN]; exact tw_le _ _
  rw [← hw] at hlen ⊢
  -- what the test says
  have test : ∀ i, i ≤ N → ∀ S1 : Sto, condW (CN tab n) cE [some (.p (can l u d)), some (.p (rowsI t)), some (.p (.int q)), some (.mu S.length), some (.p (.int ((tr + i : Nat) : Int))), some (.p (.int (j : Int))), x6, some (.p (.int u)), some (.p (.int d))] S1 = .ok (decide (i < N)) S1 := by
    intro i hi S1
    by_cases hlt : tr + i < t.length
    · have c1 : ((tr + i : Nat) : Int) < u := by omega
      have hrl : (t[tr + i]).length = d.toNat := by have := (ht.rows _ (List.getElem_mem hlt)).len; omega
      have hjr : j < (t[tr + i]).length := by omega
      have e1 := index_rows (S := S1) hlt
      have e2 := index_row (S := S1) hjr
      have hiL : i < L.length := by omega
      have Lg : L[i] = met q t[tr + i] := by simp [hL]
      have key : decide (q < (t[tr + i])[j]) = decide (i < N) := by
        have hm := met_iff q t[tr + i] (ht.rows _ (List.getElem_mem hlt)).up j hjr
        rw [Bool.eq_iff_iff, decide_eq_true_eq, decide_eq_true_eq]
        by_cases hiN : i < N
        · obtain ⟨_, h2⟩ := tw_get (fun m => decide (m ≤ j)) L i (by rw [← hN]; exact hiN)
          rw [decide_eq_true_eq, Lg] at h2
          exact ⟨fun _ => hiN, fun _ => by omega⟩
        · have hiN' : i = N := by omega
          subst hiN'
          have h2 := tw_end (fun m => decide (m ≤ j)) L (by rw [← hN]; exact hiL)
          simp only [← hN] at h2
          rw [decide_eq_false_iff_not, Lg] at h2
          exact ⟨fun h3 => by omega, fun h3 => absurd h3 hiN⟩
      simp only [Int.natCast_add] at e1 c1 ⊢
      simp [condW, cE, runF, evSs, evS, evE, evEs, evEo, evC, evI, R.bind, R.obind, slotD, pu, truth, bindO, bindT, setMany, leave, ty_beq, tyEq, isCI, yes, cmpop, c1, e1, e2, key]
    · have c1 : ¬ ((tr + i : Nat) : Int) < u := by omega
      have : ¬ i < N := by omega
      simp only [Int.natCast_add] at c1 ⊢
      simp [condW, cE, runF, evSs, evS, evE, evEs, evEo, evC, evI, R.bind, R.obind, slotD, pu, truth, bindO, bindT, setMany, leave, ty_beq, tyEq, isCI, yes, cmpop, c1, this]
  obtain ⟨e1, S1, h1, i1⟩ := loopW_inv (c := condW (CN tab n) cE) (body := evSs (CN tab n) FUEL wB) (WI S t l u d q j tr w x6) N FUEL 0
    [some (.p (can l u d)), some (.p (rowsI t)), some (.p (.int q)), some (.mu S.length), some (.p (.int (tr : Int))), some (.p (.int (j : Int))), x6, some (.p (.int u)), some (.p (.int d))] (S ++ [.lst (words w)]) ⟨rfl, by simp⟩ (Nat.zero_le _) (by unfold FUEL; omega)
    (fun i env S' hi hI => by
      obtain ⟨rfl, rfl⟩ := hI
      refine ⟨S ++ [.lst (words (w ++ List.replicate i true))], (test i (by omega) _).trans (by simp [hi]), ?_⟩
      have lim : (words (w ++ List.replicate i true)).length < LIM := by rw [words_len]; simp; unfold LIM; omega
      refine ⟨_, _, .inl ?_, rfl, rfl⟩
      simp [wB, runF, evSs, evS, evE, evEs, evEo, evC, evI, R.bind, R.obind, slotD, pu, truth, bindO, bindT, setMany, leave, ty_beq, tyEq, isCI, yes, isMu, mthop, lim, set_last, augop]
      refine ⟨?_, ?_⟩
      · omega
      · rw [List.replicate_succ', ← List.append_assoc, words_app (w ++ List.replicate i true)]; rfl)
    (fun env S' hI => by
      obtain ⟨rfl, rfl⟩ := hI
      exact ⟨S ++ [.lst (words (w ++ List.replicate N true))], (test N (by omega) _).trans (by simp), rfl, rfl⟩)
  obtain ⟨rfl, rfl⟩ := i1
  have lim : (words (w ++ List.replicate N true)).length < LIM := by rw [words_len]; simp; unfold LIM; omega
  refine ⟨[some (.p (can l u d)), some (.p (rowsI t)), some (.p (.int q)), some (.mu S.length), some (.p (.int ((tr + N : Nat) : Int))), some (.p (.int (j : Int))), x6, some (.p (.int u)), some (.p (.int d))], S ++ [.lst (words (runW (t.map (met q)) (j + 1)).1)], ?_, ⟨tr + N, _, _, rfl, ?_, by omega, ?_⟩, rfl⟩
  · have hb : evSs (CN tab n) FUEL bookB [some (.p (can l u d)), some (.p (rowsI t)), some (.p (.int q)), some (.mu S.length), some (.p (.int (tr : Int))), some (.p (.int (j : Int))), x6, some (.p (.int u)), some (.p (.int d))] (S ++ [.lst (words w)]) = .next [some (.p (can l u d)), some (.p (rowsI t)), some (.p (.int q)), some (.mu S.length), some (.p (.int ((tr + N : Nat) : Int))), some (.p (.int (j : Int))), x6, some (.p (.int u)), some (.p (.int d))] (S ++ [.lst (words (w ++ List.replicate N true) ++ [downP])]) := by
      unfold bookB
      simp only [evSs, evS_whl]
      rw [h1]
      simp [runF, evSs, evS, evE, evEs, evEo, evC, evI, R.bind, R.obind, slotD, pu, truth, bindO, bindT, setMany, leave, ty_beq, tyEq, isCI, yes, isMu, mthop, lim, set_last]
      rfl
    refine Eq.trans hb ?_
    rw [runW_succ]
    unfold stepW
    rw [hd, ← hL, ← hN, ← hw, words_app (w ++ List.replicate N true)]
    rfl
  · rw [runW_succ]
    show List.dropWhile _ (runW (t.map (met q)) j).2 = _
    rw [hd, ← hL, dw_drop, ← hN, hL, List.drop_drop]
  · rw [runW_succ]
    unfold stepW
    rw [hd, ← hL, ← hN, ← hw]
    simp [hlen]; omega
theorem lock_book_ok [h75 : Has tab 75 f_lock_book] (h : Can l u d) (ht : Tab l u d t) : CN tab (n + 1) 75 [.p (can l u d), .p (rowsI t), .p (.int q)] S = .ok (.p (.tup (words (progW (t.map (met q)) d.toNat)))) S := by
  rw [h75.eq, book_cut]
  have hl := ht.len
  have hu1 := h.u1
  have hu2 := h.u2
  have hd1 := h.d1
  have hd2 := h.d2
  obtain ⟨e3, S3, h3, i3⟩ := loopF_inv (t := .nm 5) (stay := fun _ => true) (body := evSs (CN tab n) FUEL bookB) (BI S t l u d q) (rangeD 0 d.toNat) 0 [some (.p (can l u d)), some (.p (rowsI t)), some (.p (.int q)), some (.mu S.length), some (.p (.int 0)), none, some (.p (.int l)), some (.p (.int u)), some (.p (.int d))] (S ++ [.lst []])
    ⟨⟨0, _, _, rfl, rfl, by omega, rfl⟩, rfl⟩ (fun _ _ _ _ => rfl) (fun i x env S' hd' hI => by
      obtain ⟨rfl, hj⟩ := range_get hd'
      refine ⟨_, rfl, ?_⟩
      rw [Nat.zero_add] at hI ⊢
      obtain ⟨e', S'', g1, g2⟩ := book_step (tab := tab) (n := n) h ht i (by omega) hI
      refine ⟨e', S'', .inl ?_, g2⟩
      rw [Int.zero_add]; exact g1)
  obtain ⟨⟨tr, x5, x6, rfl, hdr, htr, hlen⟩, rfl⟩ := i3
  have e0 : 0 + (rangeD 0 d.toNat).length = d.toNat := by simp [rangeD]
  rw [e0] at hdr hlen h3
  have sm : small62 d = true := by
    unfold small62
    simp only [Bool.and_eq_true, decide_eq_true_eq]
    omega
  have rl := fun (S : Sto) => rep_lst (S := S) (x := .str [117, 112]) (m := u - tr) (by omega) (by omega)
  have l2 : (runW (t.map (met q)) d.toNat).2.length = (u - tr).toNat := by rw [hdr]; simp; omega
  have lim : (words (runW (t.map (met q)) d.toNat).1).length + (u - (tr : Int)).toNat ≤ LIM := by rw [words_len]; unfold LIM; omega
  simp [runF, evSs, evS, evE, evEs, evEo, evC, evI, R.bind, R.obind, slotD, pu, truth, bindO, bindT, setMany, leave, ty_beq, tyEq, isCI, yes, can, sm, allP] at h3 ⊢
  rw [h3]
  have bs : ∀ S, binop .sub (.p (.int u)) (.p (.int (tr : Int))) S = some (.int (u - tr)) := fun _ => rfl
  have lim' : (words (runW (t.map (met q)) d.toNat).1).length + (u.toNat - tr) ≤ LIM := by omega
  simp [runF, evSs, evS, evE, evEs, evEo, evC, evI, R.bind, R.obind, slotD, pu, truth, bindO, bindT, setMany, leave, ty_beq, tyEq, isCI, yes, bs, allP, rl, add_mu, lim', bltop, asList, isMu]
  unfold progW
  rw [words_app, words_rep, l2]
  simp [wayP, upP]
end
theorem need_lock_ok [h30 : Has tab 30 f_is_whole] [h31 : Has tab 31 f_is_between] {rs73 : St'} [h73 : Has tab 73 (f_need_lock rs73)] {q : Int} (h0 : 0 ≤ q) (h1 : q < l) : CN tab (n + 3) 73 [.p (can l u d), .p (.int q)] S = .ok (.p .non) S := by
  rw [h73.eq]
  have e := between_ok (tab := tab) (n := n) (S := S) (.int q) 0 (l - 1)
  have hw : within 0 (l - 1) (.int q) = true := by simp [within, h0]; omega
  rw [hw] at e
  simp [f_need_lock, runF, evSs, evS, evE, evEs, evEo, evC, evI, R.bind, R.obind, slotD, pu, truth, bindO, bindT, setMany, leave, ty_beq, tyEq, isCI, yes, can, index, items, atI, ixN, binop, e, List.take_of_length_le]
theorem book_ok [h30 : Has tab 30 f_is_whole] [h31 : Has tab 31 f_is_between] [h32 : Has tab 32 f_has_parts] [h33 : Has tab 33 f_is_canal] {rs42 : St'} [h42 : Has tab 42 (f_need_canal rs42)] [h63 : Has tab 63 f_is_table] [h64 : Has tab 64 f_has_shape] [h65 : Has tab 65 f_is_stepped] {rs72 : St'} [h72 : Has tab 72 (f_need_table rs72)] {rs73 : St'} [h73 : Has tab 73 (f_need_lock rs73)] [h74 : Has tab 74 f_book] [h75 : Has tab 75 f_lock_book] {t : List (List Int)} {q : Int} (h : Can l u d) (ht : Tab l u d t) {w dd : Nat} (hx : Bd w dd (rowsI t)) (hw : w ≤ LIM) (h0 : 0 ≤ q) (h1 : q < l) : CN tab (n + 7) 74 [.p (can l u d), .p (rowsI t), .p (.int q)] S = .ok (.p (.tup (words (progW (t.map (met q)) d.toNat)))) S := by
  rw [h74.eq]
  have e1 := ht.need (tab := tab) (n := n) (S := S) h hx hw
  have e2 := need_lock_ok (tab := tab) (n := n + 3) (S := S) (l := l) (u := u) (d := d) h0 h1
  have e3 := lock_book_ok (tab := tab) (n := n + 5) (S := S) (q := q) h ht
  simp [f_book, runF, evSs, evS, evE, evEs, evEo, evC, evI, R.bind, R.obind, slotD, pu, truth, bindO, bindT, setMany, leave, ty_beq, tyEq, isCI, yes, e1, e2, e3, List.take_of_length_le]
/-! ### the law's book -/
theorem lawR_snoc (ms : List Nat) (m : Nat) : lawR (ms ++ [m]) = lawS (lawR ms) m := by
  unfold lawR
  rw [List.foldl_append]; rfl
def cmpM : E := .comp [7] (.nm 7) (.of (.idx (.var 1) (.var 3))) (.some (.cmp .le (.var 7) (.var 2))) (.var 7)
def lbB : Sts := (.cons (.asg (.nm 6) (.blt .len (.cons cmpM .nil))) (.cons (.asg (.nm 4) (.bin .add (.bin .add (.var 4) (.bin .mul (.lst (.cons (.lit (.str [100, 111, 119, 110])) .nil)) (.bin .sub (.var 6) (.var 5)))) (.lst (.cons (.lit (.str [117, 112])) .nil)))) (.cons (.asg (.nm 5) (.var 6)) .nil)))
theorem lbook_cut : f__law_book = { np := 3, nN := 8, keep := false, body := (.cons (.par [4, 5] (.cons (.lst .nil) (.cons (.lit (.int 0)) .nil))) (.cons (.for (.nm 3) (.rng (.idx (.var 0) (.lit (.int 1)))) lbB) (.cons (.ret (.blt .tuple (.cons (.bin .add (.var 4) (.bin .mul (.lst (.cons (.lit (.str [100, 111, 119, 110])) .nil)) (.bin .sub (.idx (.var 0) (.lit (.int 2))) (.var 5)))) .nil))) .nil))) } := rfl
section
variable {t : List (List Int)} {q : Int}
theorem comp_met {C : Nat → List D → Sto → R D} {own : List Nat} {env : Mx.Env} {s : E} {i : Nat} {qe : E} {r : List Int} {stay : Sto → Bool} (hl : r.length ≤ 300) (he : evI C (.of s) env S = .ok ⟨r.map fun i => .p (.int i), stay⟩ S) (hs : stay S = true)
    (hb : ∀ z : Int, evE C (.cmp .le (.var i) qe) ((wipeE env own).set i (some (.p (.int z)))) S = .ok (.p (.bl (decide (z ≤ q)))) S) (hv : ∀ z : Int, slotD ((wipeE env own).set i (some (.p (.int z)))) i = some (.p (.int z))) :
    evE C (.comp own (.nm i) (.of s) (.some (.cmp .le (.var i) qe)) (.var i)) env S = .ok (.p (.lst ((r.filter fun i => decide (i ≤ q)).map .int))) S := by
  have := comp_if (C := C) (own := own) (t := .nm i) (src := .of s) (tst := .cmp .le (.var i) qe) (elt := .var i) (env := env) (S := S) (ds := r.map fun i => .p (.int i)) (stay := stay) (fun e => match e with | .p (.int z) => decide (z ≤ q) | _ => false) (fun e => match e with | .p x => x | _ => .non) he hs
    (by simp [LIM]; omega) fun e he => by
      obtain ⟨z, hz, rfl⟩ := List.mem_map.mp he
      exact ⟨_, rfl, hb z, fun _ => by simp only [evE, hv]⟩
  rw [this, List.filter_map, List.map_map]
  rfl
structure LB (t : List (List Int)) (l u d q : Int) (j : Nat) (env : Mx.Env) (S S' : Sto) : Prop where
  env : ∃ x3 x6 x7, env = [some (.p (can l u d)), some (.p (rowsI t)), some (.p (.int q)), x3, some (.p (.lst (words (lawR ((t.map (met q)).take j)).1))), some (.p (.int ((lawR ((t.map (met q)).take j)).2 : Int))), x6, x7]
  sto : S' = S
  len : (lawR ((t.map (met q)).take j)).1.length ≤ 10 * j
  le : (lawR ((t.map (met q)).take j)).2 ≤ 4
theorem lb_step (h : Can l u d) (ht : Tab l u d t) (j : Nat) (hj : j < t.length) {env : Mx.Env} {S' : Sto} (hI : LB t l u d q j env S S') :
    ∃ e' S'', evSs (CN tab n) FUEL lbB (env.set 3 (some (.p (.int j)))) S' = .next e' S'' ∧ LB t l u d q (j + 1) e' S S'' := by
  obtain ⟨⟨x3, x6, x7, rfl⟩, rfl, hlen, hle⟩ := hI
  have hu2 := h.u2
  have hd2 := h.d2
  have hl := ht.len
  have hrl := (ht.rows _ (List.getElem_mem hj)).len
  have e1 := index_rows (S := S') hj
  obtain ⟨m, hm⟩ : ∃ m, m = met q t[j] := ⟨_, rfl⟩
  have hm4 : m ≤ 4 := by have := met_le q t[j]; omega
  obtain ⟨s, hs⟩ : ∃ s, s = lawR ((t.map (met q)).take j) := ⟨_, rfl⟩
  rw [← hs] at hlen hle ⊢
  have hs' : lawR ((t.map (met q)).take (j + 1)) = lawS s m := by
    rw [List.take_succ_eq_append_getElem (by simpa using hj), lawR_snoc, ← hs, List.getElem_map, hm]
  have ec : evE (CN tab n) cmpM [some (.p (can l u d)), some (.p (rowsI t)), some (.p (.int q)), some (.p (.int j)), some (.p (.lst (words s.1))), some (.p (.int (s.2 : Int))), x6, x7] S' = .ok (.p (.lst ((t[j].filter fun i => decide (i ≤ q)).map .int))) S' :=
    comp_met (stay := still (.p (rowI t[j])) S') (by omega) (by simp [runF, evSs, evS, evE, evEs, evEo, evC, evI, R.bind, R.obind, slotD, pu, truth, bindO, bindT, setMany, leave, ty_beq, tyEq, isCI, yes, e1, rowI, items, Function.comp_def]) rfl (fun z => by simp [runF, evSs, evS, evE, evEs, evEo, evC, evI, R.bind, R.obind, slotD, pu, truth, bindO, bindT, setMany, leave, ty_beq, tyEq, isCI, yes, wipeE, cmpop]) (fun z => rfl)
  have rl := fun (S : Sto) => rep_lst (S := S) (x := .str [100, 111, 119, 110]) (m := (m : Int) - s.2) (by omega) (by omega)
  have bs : ∀ S, binop .sub (.p (.int (m : Int))) (.p (.int (s.2 : Int))) S = some (.int (m - s.2)) := fun _ => rfl
  have l1 : (words s.1).length + ((m : Int) - s.2).toNat ≤ LIM := by rw [words_len]; unfold LIM; omega
  have l2 : (words s.1).length + ((m : Int) - s.2).toNat + 1 ≤ LIM := by rw [words_len]; unfold LIM; omega
  have tn : ((m : Int) - s.2).toNat = m - s.2 := by omega
  refine ⟨[some (.p (can l u d)), some (.p (rowsI t)), some (.p (.int q)), some (.p (.int j)), some (.p (.lst (words (lawS s m).1))), some (.p (.int (m : Int))), some (.p (.int (m : Int))), x7], S', ?_, ⟨_, _, _, by rw [hs']; rfl⟩, rfl, ?_, by rw [hs']; exact hm4⟩
  · have lenm : ((t[j].filter fun i => decide (i ≤ q)).map P.int).length = m := by rw [List.length_map, hm]; rfl
    have a1 : ∀ (S : Sto) (xs ys : List P), xs.length + ys.length ≤ LIM → binop .add (.p (.lst xs)) (.p (.lst ys)) S = some (.lst (xs ++ ys)) := fun S xs ys h => by simp [binop, asList, h]
    rw [tn] at l1 l2
    have b1 := a1 S' (words s.1) (List.replicate (m - s.2) (.str [100, 111, 119, 110])) (by simpa using l1)
    have b2 := a1 S' (words s.1 ++ List.replicate (m - s.2) (.str [100, 111, 119, 110])) [.str [117, 112]] (by simpa using l2)
    have bl : bltop .len [.p (.lst ((t[j].filter fun i => decide (i ≤ q)).map P.int))] S' = some (.int m) := by simp only [bltop, lenD, items, List.length_map]; rw [← lenm]; simp
    have ww : words (lawS s m).1 = words s.1 ++ (List.replicate (m - s.2) (.str [100, 111, 119, 110]) ++ [.str [117, 112]]) := by
      unfold lawS
      rw [words_app, words_app, words_rep, List.append_assoc]; rfl
    simp [lbB, runF, evSs, evS, evE, evEs, evEo, evC, evI, R.bind, R.obind, slotD, pu, truth, bindO, bindT, setMany, leave, ty_beq, tyEq, isCI, yes, ec, bl, bs, rl, allP, b1, ww]
    rw [b2]
    simp
  · rw [hs']
    simp only [lawS, List.length_append, List.length_replicate, List.length_cons, List.length_nil]
    omega
theorem law_book_ok [h76 : Has tab 76 f__law_book] (h : Can l u d) (ht : Tab l u d t) : CN tab (n + 1) 76 [.p (can l u d), .p (rowsI t), .p (.int q)] S = .ok (.p (.tup (words (lawW (t.map (met q)) d.toNat)))) S := by
  rw [h76.eq, lbook_cut]
  have hl := ht.len
  have hu1 := h.u1
  have hu2 := h.u2
  have hd1 := h.d1
  have hd2 := h.d2
  obtain ⟨e3, S3, h3, i3⟩ := loopF_inv (t := .nm 3) (stay := fun _ => true) (body := evSs (CN tab n) FUEL lbB) (fun j env S' => LB t l u d q j env S S') (rangeD 0 u.toNat) 0 [some (.p (can l u d)), some (.p (rowsI t)), some (.p (.int q)), none, some (.p (.lst [])), some (.p (.int 0)), none, none] S
    ⟨⟨_, _, _, rfl⟩, rfl, Nat.le_refl _, Nat.zero_le _⟩ (fun _ _ _ _ => rfl) (fun i x env S' hd' hI => by
      obtain ⟨rfl, hj⟩ := range_get hd'
      refine ⟨_, rfl, ?_⟩
      rw [Nat.zero_add] at hI ⊢
      obtain ⟨e', S'', g1, g2⟩ := lb_step (tab := tab) (n := n) h ht i (by omega) hI
      refine ⟨e', S'', .inl ?_, g2⟩
      rw [Int.zero_add]; exact g1)
  obtain ⟨⟨x3, x6, x7, rfl⟩, rfl, hlen, hle⟩ := i3
  have e0 : 0 + (rangeD 0 u.toNat).length = (t.map (met q)).length := by simp [rangeD]; omega
  rw [e0] at hlen hle h3
  rw [List.take_length] at hlen hle h3
  have sm : small62 u = true := by
    unfold small62
    simp only [Bool.and_eq_true, decide_eq_true_eq]
    omega
  obtain ⟨s, hs⟩ : ∃ s, s = lawR (t.map (met q)) := ⟨_, rfl⟩
  rw [← hs] at hlen hle h3
  rw [List.length_map] at hlen
  have rl := fun (S : Sto) => rep_lst (S := S) (x := .str [100, 111, 119, 110]) (m := d - s.2) (by omega) (by omega)
  have bs : ∀ S, binop .sub (.p (.int d)) (.p (.int (s.2 : Int))) S = some (.int (d - s.2)) := fun _ => rfl
  have l1 : (words s.1).length + (d - (s.2 : Int)).toNat ≤ LIM := by rw [words_len]; unfold LIM; omega
  have l1' : (words s.1).length + (d.toNat - s.2) ≤ LIM := by omega
  have b1 : ∀ (S : Sto), binop .add (.p (.lst (words s.1))) (.p (.lst (List.replicate (d.toNat - s.2) (.str [100, 111, 119, 110])))) S = some (.lst (words s.1 ++ List.replicate (d.toNat - s.2) (.str [100, 111, 119, 110]))) := fun S => by simp only [binop, asList, List.length_replicate]; rw [if_pos l1']
  have tn : (d - (s.2 : Int)).toNat = d.toNat - s.2 := by omega
  simp [runF, evSs, evS, evE, evEs, evEo, evC, evI, R.bind, R.obind, slotD, pu, truth, bindO, bindT, setMany, leave, ty_beq, tyEq, isCI, yes, can, index, items, atI, ixN, sm, allP] at h3 ⊢
  rw [h3]
  simp [runF, evSs, evS, evE, evEs, evEo, evC, evI, R.bind, R.obind, slotD, pu, truth, bindO, bindT, setMany, leave, ty_beq, tyEq, isCI, yes, can, index, items, atI, ixN, bs, rl, allP, b1, bltop, asList]
  unfold lawW
  rw [words_app, words_rep, ← hs]
  simp [wayP, downP]
end
/-! ### the other look at a book -/
theorem mem_insP (x y : P) : ∀ r : List P, y ∈ insP x r ↔ y = x ∨ y ∈ r
  | [] => by simp [insP]
  | z :: r => by
    unfold insP
    split
    · simp
    · simp only [List.mem_cons, mem_insP x y r]
      constructor
      · rintro (h | h | h)
        · exact .inr (.inl h)
        · exact .inl h
        · exact .inr (.inr h)
      · rintro (h | h | h)
        · exact .inr (.inl h)
        · exact .inl h
        · exact .inr (.inr h)
theorem mem_srtP (y : P) : ∀ r : List P, y ∈ srtP r ↔ y ∈ r
  | [] => by simp [srtP]
  | z :: r => by simp [srtP, mem_insP, mem_srtP y r]
theorem len_insP (x : P) : ∀ r : List P, (insP x r).length = r.length + 1
  | [] => rfl
  | z :: r => by
    unfold insP
    split
    · rfl
    · simp [len_insP x r]
theorem len_srtP : ∀ r : List P, (srtP r).length = r.length
  | [] => rfl
  | z :: r => by simp [srtP, len_insP, len_srtP r]
def aoB1 : Sts := (.cons (.ex (.mth .append (.var 3) (.cons (.tup (.cons (.bin .add (.var 4) (.blt .len (.cons (.comp [8] (.nm 8) (.of (.idx (.var 1) (.var 4))) (.some (.cmp .le (.var 8) (.var 2))) (.var 8)) .nil))) (.cons (.lit (.str [117, 112])) .nil))) .nil))) .nil)
def cmpN : E := .comp [9] (.nm 9) (.of (.var 1)) (.some (.cmp .gt (.idx (.var 9) (.var 5)) (.var 2))) (.lit (.int 1))
def aoB2 : Sts := (.cons (.ex (.mth .append (.var 3) (.cons (.tup (.cons (.bin .add (.var 5) (.blt .len (.cons cmpN .nil))) (.cons (.lit (.str [100, 111, 119, 110])) .nil))) .nil))) .nil)
def cmpO : E := .comp [6, 7] (.tp [6, 7]) (.of (.blt .sorted (.cons (.var 3) .nil))) .none (.var 7)
def F_ahead_of : FD := { np := 3, nN := 10, keep := false, body := (.cons (.asg (.nm 3) (.mk (.lst .nil))) (.cons (.for (.nm 4) (.rng (.idx (.var 0) (.lit (.int 1)))) aoB1) (.cons (.for (.nm 5) (.rng (.idx (.var 0) (.lit (.int 2)))) aoB2) (.cons (.ret (.blt .tuple (.cons cmpO .nil))) .nil)))) }
section
variable {t : List (List Int)} {q : Int}
structure AO (S : Sto) (t : List (List Int)) (l u d q : Int) (rows : Nat → List P) (j : Nat) (env : Mx.Env) (S' : Sto) : Prop where
  env : ∃ x4 x5 x6 x7 x8 x9, env = [some (.p (can l u d)), some (.p (rowsI t)), some (.p (.int q)), some (.mu S.length), x4, x5, x6, x7, x8, x9]
  sto : S' = S ++ [.lst (rows j)]
theorem ao_step1 (h : Can l u d) (ht : Tab l u d t) (j : Nat) (hj : j < t.length) {env : Mx.Env} {S' : Sto} (hI : AO S t l u d q (fun j => (aheadU (t.map (met q))).take j) j env S') :
    ∃ e' S'', evSs (CN tab n) FUEL aoB1 (env.set 4 (some (.p (.int j)))) S' = .next e' S'' ∧ AO S t l u d q (fun j => (aheadU (t.map (met q))).take j) (j + 1) e' S'' := by
  obtain ⟨⟨x4, x5, x6, x7, x8, x9, rfl⟩, rfl⟩ := hI
  have hu2 := h.u2
  have hd2 := h.d2
  have hl := ht.len
  have hrl := (ht.rows _ (List.getElem_mem hj)).len
  obtain ⟨S1, hS1⟩ : ∃ S1, S1 = S ++ [MO.lst ((aheadU (t.map (met q))).take j)] := ⟨_, rfl⟩
  have e1 := index_rows (S := S1) hj
  have ec : evE (CN tab n) (.comp [8] (.nm 8) (.of (.idx (.var 1) (.var 4))) (.some (.cmp .le (.var 8) (.var 2))) (.var 8)) [some (.p (can l u d)), some (.p (rowsI t)), some (.p (.int q)), some (.mu S.length), some (.p (.int j)), x5, x6, x7, x8, x9] S1 = .ok (.p (.lst ((t[j].filter fun i => decide (i ≤ q)).map .int))) S1 :=
    comp_met (stay := still (.p (rowI t[j])) S1) (by omega) (by simp [runF, evSs, evS, evE, evEs, evEo, evC, evI, R.bind, R.obind, slotD, pu, truth, bindO, bindT, setMany, leave, ty_beq, tyEq, isCI, yes, e1, rowI, items, Function.comp_def]) rfl (fun z => by simp [runF, evSs, evS, evE, evEs, evEo, evC, evI, R.bind, R.obind, slotD, pu, truth, bindO, bindT, setMany, leave, ty_beq, tyEq, isCI, yes, wipeE, cmpop]) (fun z => rfl)
  have bl : bltop .len [.p (.lst ((t[j].filter fun i => decide (i ≤ q)).map P.int))] S1 = some (.int (met q t[j] : Nat)) := by simp [bltop, lenD, items, met]
  have lim : ((aheadU (t.map (met q))).take j).length < LIM := by simp [aheadU]; unfold LIM; omega
  have snoc : (aheadU (t.map (met q))).take (j + 1) = (aheadU (t.map (met q))).take j ++ [tag (j + met q t[j]) upP] := by
    rw [List.take_succ_eq_append_getElem (by simpa [aheadU] using hj)]
    simp [aheadU]
  refine ⟨[some (.p (can l u d)), some (.p (rowsI t)), some (.p (.int q)), some (.mu S.length), some (.p (.int j)), x5, x6, x7, x8, x9], _, ?_, ⟨_, _, _, _, _, _, rfl⟩, rfl⟩
  rw [snoc, ← hS1]
  have iM : isMu (.mu S.length) S1 = true := by rw [hS1]; simp [isMu]
  have ap : ∀ x, mthop .append (.mu S.length) [.p x] S1 = .ok (.p .non) (S ++ [.lst ((aheadU (t.map (met q))).take j ++ [x])]) := fun x => by
    rw [hS1]; simp only [mthop, List.getElem?_append_right (Nat.le_refl _), Nat.sub_self, List.getElem?_cons_zero]; rw [if_pos lim, set_last]
  simp only [aoB1, evSs, evS, evE, evEs, slotD, List.set_cons_succ, List.set_cons_zero, List.getElem?_cons_succ, List.getElem?_cons_zero, R.bind, R.obind, iM, isCI_a, Bool.false_eq_true, if_false, if_true] at ec ⊢
  rw [ec]
  simp only [bl, pu, R.bind, R.obind, binop, mkTup, allP, Option.map_some, ap, tag, upP, Int.natCast_add]
theorem ao_step2 (h : Can l u d) (ht : Tab l u d t) (j : Nat) (hj : (j : Int) < d) {env : Mx.Env} {S' : Sto} (hI : AO S t l u d q (fun j => aheadU (t.map (met q)) ++ (aheadD (t.map (met q)) d.toNat).take j) j env S') :
    ∃ e' S'', evSs (CN tab n) FUEL aoB2 (env.set 5 (some (.p (.int j)))) S' = .next e' S'' ∧ AO S t l u d q (fun j => aheadU (t.map (met q)) ++ (aheadD (t.map (met q)) d.toNat).take j) (j + 1) e' S'' := by
  obtain ⟨⟨x4, x5, x6, x7, x8, x9, rfl⟩, rfl⟩ := hI
  have hu2 := h.u2
  have hd2 := h.d2
  have hl := ht.len
  obtain ⟨S1, hS1⟩ : ∃ S1, S1 = S ++ [MO.lst (aheadU (t.map (met q)) ++ (aheadD (t.map (met q)) d.toNat).take j)] := ⟨_, rfl⟩
  have hjr : ∀ r ∈ t, j < r.length := fun r hr => by have := (ht.rows r hr).len; omega
  have cnt : (t.filter fun r => decide (q < r.getD j 0)).length = ((t.map (met q)).filter fun m => decide (m ≤ j)).length := by
    rw [List.filter_map, List.length_map]
    congr 1
    refine List.filter_congr fun r hr => ?_
    have hm := met_iff q r (ht.rows r hr).up j (hjr r hr)
    rw [Bool.eq_iff_iff]
    simp only [Function.comp_def, decide_eq_true_eq, List.getD_eq_getElem?_getD, List.getElem?_eq_getElem (hjr r hr), Option.getD_some]
    omega
  have ec : evE (CN tab n) cmpN [some (.p (can l u d)), some (.p (rowsI t)), some (.p (.int q)), some (.mu S.length), x4, some (.p (.int j)), x6, x7, x8, x9] S1 = .ok (.p (.lst (((t.map fun r => D.p (rowI r)).filter fun e => match e with | .p (.tup ys) => decide (q < (intsP ys).getD j 0) | _ => false).map fun _ => .int 1))) S1 := by
    refine comp_if (stay := still (.p (rowsI t)) S1) _ _ (by simp [runF, evSs, evS, evE, evEs, evEo, evC, evI, R.bind, R.obind, slotD, pu, truth, bindO, bindT, setMany, leave, ty_beq, tyEq, isCI, yes, rowsI, items, Function.comp_def]) rfl (by simp [LIM]; omega) fun e he => ?_
    obtain ⟨r, hr, rfl⟩ := List.mem_map.mp he
    refine ⟨_, rfl, ?_, fun _ => rfl⟩
    have e2 := index_row (S := S1) (hjr r hr)
    have e3 : r.getD j 0 = r[j]'(hjr r hr) := by rw [List.getD_eq_getElem?_getD, List.getElem?_eq_getElem (hjr r hr)]; rfl
    simp only [rowI, intsP_map, e3]
    simp only [rowI] at e2
    simp [runF, evSs, evS, evE, evEs, evEo, evC, evI, R.bind, R.obind, slotD, pu, truth, bindO, bindT, setMany, leave, ty_beq, tyEq, isCI, yes, wipeE, cmpop, e2]
  have lc : (((t.map fun r => D.p (rowI r)).filter fun e => match e with | .p (.tup ys) => decide (q < (intsP ys).getD j 0) | _ => false).map fun _ => P.int 1).length = ((t.map (met q)).filter fun m => decide (m ≤ j)).length := by
    rw [List.length_map, List.filter_map, List.length_map, ← cnt]
    congr 1
    refine List.filter_congr fun r hr => ?_
    simp only [Function.comp_def, rowI, intsP_map]
  obtain ⟨N, hN⟩ : ∃ N, N = ((t.map (met q)).filter fun m => decide (m ≤ j)).length := ⟨_, rfl⟩
  rw [← hN] at lc
  obtain ⟨ys, hys⟩ : ∃ ys, ys = (((t.map fun r => D.p (rowI r)).filter fun e => match e with | .p (.tup ys) => decide (q < (intsP ys).getD j 0) | _ => false).map fun _ => P.int 1) := ⟨_, rfl⟩
  rw [← hys] at ec lc
  have bl : bltop .len [.p (.lst ys)] S1 = some (.int (N : Nat)) := by simp [bltop, lenD, items, lc]
  have lim : (aheadU (t.map (met q)) ++ (aheadD (t.map (met q)) d.toNat).take j).length < LIM := by simp [aheadU, aheadD]; unfold LIM; omega
  have snoc : (aheadD (t.map (met q)) d.toNat).take (j + 1) = (aheadD (t.map (met q)) d.toNat).take j ++ [tag (j + N) downP] := by
    rw [List.take_succ_eq_append_getElem (by simp [aheadD]; omega)]
    simp [aheadD, hN]
  refine ⟨[some (.p (can l u d)), some (.p (rowsI t)), some (.p (.int q)), some (.mu S.length), x4, some (.p (.int j)), x6, x7, x8, x9], _, ?_, ⟨_, _, _, _, _, _, rfl⟩, rfl⟩
  rw [snoc, ← hS1, ← List.append_assoc]
  have iM : isMu (.mu S.length) S1 = true := by rw [hS1]; simp [isMu]
  have ap : ∀ x, mthop .append (.mu S.length) [.p x] S1 = .ok (.p .non) (S ++ [.lst (aheadU (t.map (met q)) ++ (aheadD (t.map (met q)) d.toNat).take j ++ [x])]) := fun x => by
    rw [hS1]; simp only [mthop, List.getElem?_append_right (Nat.le_refl _), Nat.sub_self, List.getElem?_cons_zero]; rw [if_pos lim, set_last]
  simp only [aoB2, evSs, evS, evE, evEs, slotD, List.set_cons_succ, List.set_cons_zero, List.getElem?_cons_succ, List.getElem?_cons_zero, R.bind, R.obind, iM, isCI_a, Bool.false_eq_true, if_false, if_true, ec]
  simp only [bl, pu, R.bind, R.obind, binop, mkTup, allP, Option.map_some, ap, tag, downP, Int.natCast_add]
theorem ahead_of_ok {i : Nat} [ha : Has tab i F_ahead_of] (h : Can l u d) (ht : Tab l u d t) : CN tab (n + 1) i [.p (can l u d), .p (rowsI t), .p (.int q)] S = .ok (.p (.tup (words (lawW (t.map (met q)) d.toNat)))) S := by
  rw [ha.eq]
  unfold F_ahead_of
  have hl := ht.len
  have hu1 := h.u1
  have hu2 := h.u2
  have hd1 := h.d1
  have hd2 := h.d2
  obtain ⟨_, ck2, ck3⟩ := (ht.ms h q).chk
  obtain ⟨e3, S3, h3, i3⟩ := loopF_inv (t := .nm 4) (stay := fun _ => true) (body := evSs (CN tab n) FUEL aoB1) (AO S t l u d q (fun j => (aheadU (t.map (met q))).take j)) (rangeD 0 u.toNat) 0 [some (.p (can l u d)), some (.p (rowsI t)), some (.p (.int q)), some (.mu S.length), none, none, none, none, none, none] (S ++ [.lst []])
    ⟨⟨_, _, _, _, _, _, rfl⟩, by simp⟩ (fun _ _ _ _ => rfl) (fun i x env S' hd' hI => by
      obtain ⟨rfl, hj⟩ := range_get hd'
      refine ⟨_, rfl, ?_⟩
      rw [Nat.zero_add] at hI ⊢
      obtain ⟨e', S'', g1, g2⟩ := ao_step1 (tab := tab) (n := n) h ht i (by omega) hI
      refine ⟨e', S'', .inl ?_, g2⟩
      rw [Int.zero_add]; exact g1)
  obtain ⟨⟨x4, x5, x6, x7, x8, x9, rfl⟩, rfl⟩ := i3
  have e0 : 0 + (rangeD 0 u.toNat).length = (aheadU (t.map (met q))).length := by simp [rangeD, aheadU]; omega
  rw [e0, List.take_length] at h3
  obtain ⟨e5, S5, h5, i5⟩ := loopF_inv (t := .nm 5) (stay := fun _ => true) (body := evSs (CN tab n) FUEL aoB2) (AO S t l u d q (fun j => aheadU (t.map (met q)) ++ (aheadD (t.map (met q)) d.toNat).take j)) (rangeD 0 d.toNat) 0 [some (.p (can l u d)), some (.p (rowsI t)), some (.p (.int q)), some (.mu S.length), x4, x5, x6, x7, x8, x9] (S ++ [.lst (aheadU (t.map (met q)))])
    ⟨⟨_, _, _, _, _, _, rfl⟩, by simp⟩ (fun _ _ _ _ => rfl) (fun i x env S' hd' hI => by
      obtain ⟨rfl, hj⟩ := range_get hd'
      refine ⟨_, rfl, ?_⟩
      rw [Nat.zero_add] at hI ⊢
      obtain ⟨e', S'', g1, g2⟩ := ao_step2 (tab := tab) (n := n) h ht i (by omega) hI
      refine ⟨e', S'', .inl ?_, g2⟩
      rw [Int.zero_add]; exact g1)
  obtain ⟨⟨y4, y5, y6, y7, y8, y9, rfl⟩, rfl⟩ := i5
  have e1 : 0 + (rangeD 0 d.toNat).length = (aheadD (t.map (met q)) d.toNat).length := by simp [rangeD, aheadD]
  rw [e1, List.take_length] at h5
  obtain ⟨L, hL⟩ : ∃ L, L = aheadU (t.map (met q)) ++ aheadD (t.map (met q)) d.toNat := ⟨_, rfl⟩
  unfold aheadW at ck2
  rw [← hL] at ck2 ck3 h5
  have Lt : ∀ y ∈ srtP L, ∃ (i : Int) (x : P), y = .tup [.int i, x] := fun y hy => by
    rw [mem_srtP, hL, List.mem_append] at hy
    rcases hy with hy | hy
    · obtain ⟨i, hi, rfl⟩ := List.mem_mapIdx.mp hy
      exact ⟨_, _, rfl⟩
    · obtain ⟨i, hi, rfl⟩ := List.mem_map.mp hy
      exact ⟨_, _, rfl⟩
  have Ll : (srtP L).length ≤ LIM := by
    rw [len_srtP]
    simp only [sortOk, Bool.and_eq_true, decide_eq_true_eq] at ck3
    exact ck3.2
  have ec : evE (CN tab n) cmpO [some (.p (can l u d)), some (.p (rowsI t)), some (.p (.int q)), some (.mu S.length), y4, y5, y6, y7, y8, y9] (S ++ [.lst L]) = .ok (.p (.lst ((srtP L).map snd2))) (S ++ [.lst L]) := by
    have := comp_pure (C := CN tab n) (own := [6, 7]) (t := .tp [6, 7]) (src := .of (.blt .sorted (.cons (.var 3) .nil))) (elt := .var 7) (env := [some (.p (can l u d)), some (.p (rowsI t)), some (.p (.int q)), some (.mu S.length), y4, y5, y6, y7, y8, y9]) (S := S ++ [.lst L])
      (ds := (srtP L).map .p) (stay := still (.p (.lst (srtP L))) (S ++ [.lst L])) (fun e => match e with | .p y => snd2 y | _ => .non) (by simp [runF, evSs, evS, evE, evEs, evEo, evC, evI, R.bind, R.obind, slotD, pu, truth, bindO, bindT, setMany, leave, ty_beq, tyEq, isCI, yes, bltop, asSeq, asList, ck3, items]) rfl (by simpa using Ll) fun e he => by
        obtain ⟨y, hy, rfl⟩ := List.mem_map.mp he
        obtain ⟨i, x, rfl⟩ := Lt y hy
        refine ⟨_, rfl, ?_⟩
        simp [runF, evSs, evS, evE, evEs, evEo, evC, evI, R.bind, R.obind, slotD, pu, truth, bindO, bindT, setMany, leave, ty_beq, tyEq, isCI, yes, wipeE, snd2]
    unfold cmpO
    rw [this, List.map_map]
    rfl
  have sm : ∀ z : Int, 0 ≤ z → z ≤ 4 → small62 z = true := fun z h1 h2 => by
    unfold small62
    simp only [Bool.and_eq_true, decide_eq_true_eq]
    omega
  have su := sm u hu1 hu2
  have sd := sm d hd1 hd2
  rw [ck2] at ec
  simp [runF, evSs, evS, evE, evEs, evEo, evC, evI, R.bind, R.obind, slotD, pu, truth, bindO, bindT, setMany, leave, ty_beq, tyEq, isCI, yes, can, index, items, atI, ixN, su, sd, allP] at h3 h5 ec ⊢
  rw [h3]
  simp [runF, evSs, evS, evE, evEs, evEo, evC, evI, R.bind, R.obind, slotD, pu, truth, bindO, bindT, setMany, leave, ty_beq, tyEq, isCI, yes, index, items, atI, ixN, su, sd]
  rw [h5]
  simp [runF, evSs, evS, evE, evEs, evEo, evC, evI, R.bind, R.obind, slotD, pu, truth, bindO, bindT, setMany, leave, ty_beq, tyEq, isCI, yes, ec, bltop, asList]
end
/-! ### sizes -/
theorem BdL.many {w d : Nat} : ∀ {xs : List P}, (∀ x ∈ xs, Bd w d x) → BdL ((w + 1) * xs.length) d xs
  | [], _ => BdL.nil.mono (by omega) (by omega)
  | x :: r, h => by
    have h1 := (BdL.one (h x List.mem_cons_self)).app (BdL.many fun y hy => h y (List.mem_cons_of_mem _ hy))
    refine BdL.mono h1 ?_ (by omega)
    rw [List.length_cons, Nat.mul_add]; omega
theorem RowOk.bdL {r : List Int} (h : RowOk l d r) (hl : l ≤ 5) (hd : d ≤ 4) : Bd 541 1 (rowI r) := by
  have := BdL.many (w := 134) (d := 0) (xs := r.map .int) fun x hx => by
    obtain ⟨i, hi, rfl⟩ := List.mem_map.mp hx
    have := h.bd i hi
    exact Bd.int (by omega) (by omega)
  refine this.tup.mono ?_ (by omega)
  have := h.len
  rw [List.length_map]; omega
theorem Tab.bd {t : List (List Int)} (ht : Tab l u d t) (h : Can l u d) : Bd 2200 2 (rowsI t) := by
  have hl := ht.len
  have h4 := h.u2
  have h1 := BdL.many (w := 541) (d := 1) (xs := t.map rowI) fun x hx => by
    obtain ⟨r, hr, rfl⟩ := List.mem_map.mp hx
    exact (ht.rows r hr).bdL h.l2 h.d2
  refine h1.tup.mono ?_ (by omega)
  rw [List.length_map]; omega
theorem can_bd (h : Can l u d) : Bd 405 3 (can l u d) := by
  have h1 := h.l1; have h2 := h.l2; have h3 := h.u1; have h4 := h.u2; have h5 := h.d1; have h6 := h.d2
  exact (((BdL.one (Bd.int (i := l) (by omega) (by omega))).app (BdL.one (Bd.int (i := u) (by omega) (by omega)))).app (BdL.one (Bd.int (i := d) (by omega) (by omega)))).tup.mono (by omega) (by omega)
theorem words_bd (w : List Bool) (h : w.length ≤ 40) : Bd 9000 1 (.tup (words w)) := by
  have hb : ∀ b, Bd 200 0 (wayP b) := fun b => by cases b <;> exact bd_of (by decide +kernel)
  have := BdL.many (w := 200) (d := 0) (xs := words w) fun x hx => by
    obtain ⟨b, hb', rfl⟩ := List.mem_map.mp hx
    exact hb b
  refine this.tup.mono ?_ (by omega)
  rw [words_len]; omega
theorem rep_ne (x : P) : eqP (.rep x) (.rep x) = some true := by simp [eqP, scalar, rep_self]
theorem bl2_ok (b : Bool) : okP (.lst [.bl b, .bl b]) := ⟨by cases b <;> rfl, by cases b <;> decide, by cases b <;> decide⟩
theorem words_eqv : ∀ w : List Bool, eqvL (words w) (words w) = true ∧ plainL (words w) = true ∧ depL (words w) = 0
  | [] => ⟨rfl, rfl, rfl⟩
  | b :: w => by
    obtain ⟨h1, h2, h3⟩ := words_eqv w
    refine ⟨?_, ?_, ?_⟩
    · show (P.eqv (wayP b) (wayP b) && eqvL (words w) (words w)) = true
      rw [h1]; cases b <;> simp [wayP, upP, downP, P.eqv]
    · show ((wayP b).plain && plainL (words w)) = true
      rw [h2]; cases b <;> rfl
    · show max (wayP b).dep (depL (words w)) = 0
      rw [h3]; cases b <;> rfl
theorem words_eq (w : List Bool) : eqP (.tup (words w)) (.tup (words w)) = some true := by
  obtain ⟨h1, h2, h3⟩ := words_eqv w
  cases w with
  | nil => rfl
  | cons b w =>
    have e : words (b :: w) = wayP b :: words w := rfl
    simp only [eqP, scalar, e] at h1 h2 h3 ⊢
    simp [P.plain, P.dep, P.eqv, h1, h2, h3]
theorem le2_refl : ∀ r : List Int, le2 r r = true
  | [] => rfl
  | x :: r => by
    have e : le2 (x :: r) (x :: r) = (decide (x ≤ x) && le2 r r) := rfl
    rw [e, le2_refl r]; simp
theorem chain_rep (r : List Int) : ∀ m : Nat, chain le2 (List.replicate m r) = true
  | 0 => rfl
  | 1 => rfl
  | m + 2 => by
    show chain le2 (r :: r :: List.replicate m r) = true
    rw [chain_cons, le2_refl, Bool.true_and]
    exact chain_rep r (m + 1)
theorem Tab.const (h : Can l u d) (c : Int) (h0 : 0 ≤ c) (h1 : c ≤ l) : Tab l u d (List.replicate u.toNat (List.replicate d.toNat c)) := by
  have := h.u1; have := h.d1
  refine ⟨by simp; omega, fun r hr => ?_, chain_rep _ _⟩
  rw [List.eq_of_mem_replicate hr]
  refine ⟨by simp; omega, fun i hi => ?_, ?_⟩
  · rw [List.eq_of_mem_replicate hi]; omega
  · rw [List.pairwise_replicate]; omega
theorem rows_const (m p : Nat) (c : Int) : rowsI (List.replicate m (List.replicate p c)) = .tup (List.replicate m (.tup (List.replicate p (.int c)))) := by
  simp [rowsI, rowI]
theorem rep_tup {S : Sto} {x : P} {m : Int} (h0 : 0 ≤ m) (h4 : m ≤ 4) : binop .mul (.p (.tup [x])) (.p (.int m)) S = some (.tup (List.replicate m.toNat x)) := by
  have d1 : decide (-(2 ^ 63) ≤ m) = true := by simp only [decide_eq_true_eq]; omega
  have d2 : decide (m < 2 ^ 63) = true := by simp only [decide_eq_true_eq]; omega
  have d3 : decide (1 * m.toNat ≤ LIM) = true := by simp only [decide_eq_true_eq]; unfold LIM; omega
  simp only [binop, List.length_cons, List.length_nil, Nat.zero_add, d1, d2, d3, Bool.and_self, if_true, List.flatten_replicate_singleton]
theorem small4 {z : Int} (h1 : 0 ≤ z) (h2 : z ≤ 1000) : small62 z = true := by
  unfold small62
  simp only [Bool.and_eq_true, decide_eq_true_eq]
  omega
theorem lawS_len (m : Nat) (s : List Bool × Nat) : (lawS s m).1.length ≤ s.1.length + m + 1 := by simp [lawS]; omega
theorem lawW_len {ms : List Nat} {u d : Nat} (h : Ms ms u d) : (lawW ms d).length ≤ 40 := by
  have h1 := chkL_true
  unfold chkL at h1
  rw [List.all_eq_true] at h1
  have h2 := h1 ms.length (List.mem_range.mpr (by have := h.len; have := h.u4; omega))
  rw [List.all_eq_true] at h2
  have h3 := h2 ms (mem_allL ms fun m hm => by have := h.le m hm; have := h.d4; omega)
  rw [List.all_eq_true] at h3
  have h4 := h3 d (List.mem_range.mpr (by have := h.d4; omega))
  simpa using h4
end Mx
end

section
set_option Elab.async false
set_option linter.all false
set_option maxRecDepth 100000
set_option autoImplicit false
set_option maxHeartbeats 4000000
namespace Mx
open PySem L2
/-! ### what a call does hangs on its own part of the store alone -/
section
variable (B : Sto)
mutual
inductive Rl : D → D → Prop
  | p (x : P) : Rl (.p x) (.p x)
  | mu (k : Nat) : Rl (.mu k) (.mu (B.length + k))
  | scr (ns : List Int) : Rl (.scr ns) (.scr ns)
  | tup {ds ds' : List D} : RlL ds ds' → Rl (.tup ds) (.tup ds')
  | dct {ks : List DK} {ds ds' : List D} : RlL ds ds' → Rl (.dct ks ds) (.dct ks ds')
inductive RlL : List D → List D → Prop
  | nil : RlL [] []
  | cons {d d' : D} {ds ds' : List D} : Rl d d' → RlL ds ds' → RlL (d :: ds) (d' :: ds')
end
inductive REnv : Env → Env → Prop
  | nil : REnv [] []
  | non {e e' : Env} : REnv e e' → REnv (none :: e) (none :: e')
  | som {d d' : D} {e e' : Env} : Rl B d d' → REnv e e' → REnv (some d :: e) (some d' :: e')
def RR {β β' : Type} (rel : β → β' → Prop) (r : R β) (r' : R β') : Prop := match r with
  | .stuck => True
  | .ok b T => ∃ b', r' = .ok b' (B ++ T) ∧ rel b b'
  | .exc c fs T => r' = .exc c fs (B ++ T)
structure RW (w w' : Walked) : Prop where
  ds : RlL B w.ds w'.ds
  stay : ∀ T, w'.stay (B ++ T) = w.stay T
def RO (o o' : O) : Prop := match o with
  | .stuck => True
  | .next e T => ∃ e', o' = .next e' (B ++ T) ∧ REnv B e e'
  | .brk e T => ∃ e', o' = .brk e' (B ++ T) ∧ REnv B e e'
  | .cont e T => ∃ e', o' = .cont e' (B ++ T) ∧ REnv B e e'
  | .ret d T => ∃ d', o' = .ret d' (B ++ T) ∧ Rl B d d'
  | .exc c fs _ T => ∃ e', o' = .exc c fs e' (B ++ T)
end
section
variable {B T : Sto}
theorem RR.bind {β β' γ γ' : Type} {rel : β → β' → Prop} {rel2 : γ → γ' → Prop} {r : R β} {r' : R β'} {f : β → Sto → R γ} {f' : β' → Sto → R γ'} (h : RR B rel r r') (hf : ∀ b b' T, rel b b' → RR B rel2 (f b T) (f' b' (B ++ T))) : RR B rel2 (r.bind f) (r'.bind f') := by
  cases r with
  | stuck => trivial
  | ok b T =>
    obtain ⟨b', rfl, hb⟩ := h
    exact hf b b' T hb
  | exc c fs T =>
    cases (show r' = _ from h)
    rfl
theorem get_r (k : Nat) : (B ++ T)[B.length + k]? = T[k]? := by
  rw [List.getElem?_append_right (by omega)]
  congr 1; omega
theorem RlL.len {ds ds' : List D} (h : RlL B ds ds') : ds'.length = ds.length := by
  induction ds generalizing ds' with
  | nil => cases h; rfl
  | cons d r ih => cases h with | cons h1 h2 => simp [ih h2]
theorem RlL.pmap : ∀ xs : List P, RlL B (xs.map .p) (xs.map .p)
  | [] => .nil
  | x :: r => .cons (.p x) (RlL.pmap r)
theorem RlL.imap {α : Type} (f : α → P) : ∀ xs : List α, RlL B (xs.map fun x => .p (f x)) (xs.map fun x => .p (f x))
  | [] => .nil
  | x :: r => .cons (.p _) (RlL.imap f r)
theorem RlL.get {ds ds' : List D} (h : RlL B ds ds') {i : Nat} {d : D} (e : ds[i]? = some d) : ∃ d', ds'[i]? = some d' ∧ Rl B d d' := by
  induction ds generalizing ds' i with
  | nil => simp at e
  | cons x r ih =>
    cases h with
    | cons h1 h2 =>
      cases i with
      | zero => simp at e; subst e; exact ⟨_, rfl, h1⟩
      | succ i => simpa using ih h2 (by simpa using e)
theorem view_r {d d' : D} (h : Rl B d d') : view d' (B ++ T) = view d T := by
  cases h with
  | mu k => simp only [view, get_r]
  | _ => rfl
theorem truth_r {d d' : D} (h : Rl B d d') : truth d' (B ++ T) = truth d T := by
  cases h with
  | p x => cases x <;> rfl
  | mu k => simp only [truth, get_r]
  | _ => rfl
theorem asList_r {d d' : D} (h : Rl B d d') : asList d' (B ++ T) = asList d T := by
  cases h with
  | p x => cases x <;> rfl
  | mu k => simp only [asList, get_r]
  | _ => rfl
theorem items_r {d d' : D} (h : Rl B d d') {ds : List D} (e : items d T = some ds) : ∃ ds', items d' (B ++ T) = some ds' ∧ RlL B ds ds' := by
  cases h with
  | p x => cases x <;> first | (cases e; done) | (cases e; exact ⟨_, rfl, RlL.pmap _⟩)
  | mu k =>
    simp only [items] at e
    simp only [items, get_r]
    split at e
    · rename_i xs hk
      cases e
      exact ⟨_, rfl, RlL.pmap _⟩
    · cases e
  | scr ns => cases e; exact ⟨_, rfl, RlL.imap (fun i => P.int i) _⟩
  | tup hr => cases e; exact ⟨_, rfl, hr⟩
  | dct hr => cases e
theorem items_none {d d' : D} (h : Rl B d d') (e : items d T = none) : items d' (B ++ T) = none := by
  cases h with
  | p x => cases x <;> first | rfl | (cases e; done)
  | mu k =>
    simp only [items] at e
    simp only [items, get_r]
    split at e
    · cases e
    · rfl
  | scr ns => cases e
  | tup hr => cases e
  | dct hr => rfl
theorem lenD_r {d d' : D} (h : Rl B d d') : lenD d' (B ++ T) = lenD d T := by
  unfold lenD
  cases hi : items d T with
  | some ds =>
    obtain ⟨ds', e, r⟩ := items_r h hi
    simp only [e, r.len]
  | none =>
    rw [items_none h hi]
    cases h with
    | _ => rfl
theorem isTy_r {t : Ty} {d d' : D} (h : Rl B d d') : isTy t d' (B ++ T) = isTy t d T := by
  cases h with
  | p x => cases x <;> rfl
  | mu k => simp only [isTy, get_r]
  | _ => rfl
theorem asSeq_r {d d' : D} (h : Rl B d d') : asSeq d' (B ++ T) = asSeq d T := by
  cases h with
  | p x => cases x <;> rfl
  | mu k => simp only [asSeq, asList, get_r]
  | _ => rfl
theorem binop_p (o : Bop) (x y : P) (S S' : Sto) : binop o (.p x) (.p y) S = binop o (.p x) (.p y) S' := by
  cases o <;> cases x <;> cases y <;> rfl
theorem binop_r {o : Bop} {a a' b b' : D} (ha : Rl B a a') (hb : Rl B b b') : binop o a' b' (B ++ T) = binop o a b T := by
  cases ha with
  | p x =>
    cases hb with
    | p y => exact binop_p ..
    | mu k => cases o <;> cases x <;> first | rfl | simp only [binop, asList, get_r]
    | _ => cases o <;> cases x <;> rfl
  | mu j =>
    cases hb with
    | p y => cases o <;> cases y <;> first | rfl | simp only [binop, asList, get_r]
    | mu k => cases o <;> first | rfl | simp only [binop, asList, get_r]
    | _ => cases o <;> first | rfl | simp only [binop, asList, get_r]
  | _ =>
    cases hb with
    | p y => cases o <;> cases y <;> rfl
    | mu k => cases o <;> first | rfl | simp only [binop, asList, get_r]
    | _ => cases o <;> rfl
theorem isop_r {a a' b b' : D} (ha : Rl B a a') (hb : Rl B b b') : isop a' b' = isop a b := by
  cases hb with
  | p y =>
    cases y with
    | non => cases ha <;> rfl
    | bl z => cases ha <;> rfl
    | _ => rfl
  | _ => rfl
theorem dictN_r {d d' : D} (h : Rl B d d') : dictN d' (B ++ T) = dictN d T := by
  cases h with
  | mu k => simp only [dictN, get_r]
  | _ => rfl
theorem inN_r {d d' : D} (h : Rl B d d') (ks : List P) : inN d' ks = inN d ks := by
  cases h <;> rfl
theorem cmpop_r {o : Cop} {a a' b b' : D} (ha : Rl B a a') (hb : Rl B b b') : cmpop o a' b' (B ++ T) = cmpop o a b T := by
  have ci : ∀ o, (o = .lt ∨ o = .le ∨ o = .gt ∨ o = .ge) → cmpop o a' b' (B ++ T) = cmpop o a b T := by
    intro o ho
    cases ha with
    | p x =>
      cases hb with
      | p y => rcases ho with rfl | rfl | rfl | rfl <;> cases x <;> cases y <;> rfl
      | _ => rcases ho with rfl | rfl | rfl | rfl <;> cases x <;> rfl
    | _ => rcases ho with rfl | rfl | rfl | rfl <;> rfl
  cases o with
  | eq => simp only [cmpop, view_r ha, view_r hb]
  | ne => simp only [cmpop, view_r ha, view_r hb]
  | inn => simp only [cmpop, dictN_r hb, inN_r ha, view_r ha, view_r hb]
  | nin => simp only [cmpop, dictN_r hb, inN_r ha, view_r ha, view_r hb]
  | isN => simp only [cmpop, isop_r ha hb]
  | notN => simp only [cmpop, isop_r ha hb]
  | lt => exact ci _ (.inl rfl)
  | le => exact ci _ (.inr (.inl rfl))
  | gt => exact ci _ (.inr (.inr (.inl rfl)))
  | ge => exact ci _ (.inr (.inr (.inr rfl)))
theorem atI_r {ds ds' : List D} (h : RlL B ds ds') {i : Int} {d : D} (e : atI ds i = some d) : ∃ d', atI ds' i = some d' ∧ Rl B d d' := by
  unfold atI at e ⊢
  rw [h.len]
  cases hi : ixN ds.length i with
  | none => rw [hi] at e; cases e
  | some j =>
    rw [hi] at e
    exact h.get e
theorem lookD_r : ∀ {ks : List DK} {ds ds' : List D} (h : RlL B ds ds') {x : DK} {d : D}, lookD ks ds x = some d → ∃ d', lookD ks ds' x = some d' ∧ Rl B d d'
  | [], _, _, _, _, _, e => by simp [lookD] at e
  | k :: ks, _, _, .nil, _, _, e => by simp [lookD] at e
  | k :: ks, _, _, .cons h1 h2, x, d, e => by
    simp only [lookD] at e ⊢
    split at e
    · rename_i hk; cases e; exact ⟨_, if_pos hk, h1⟩
    · rename_i hk
      rw [if_neg hk]
      exact lookD_r h2 e
theorem index_r {a a' b b' : D} (ha : Rl B a a') (hb : Rl B b b') {d : D} (e : index a b T = some d) : ∃ d', index a' b' (B ++ T) = some d' ∧ Rl B d d' := by
  cases hb with
  | p y =>
    cases y with
    | int i =>
      simp only [index] at e ⊢
      cases hi : items a T with
      | some ds =>
        obtain ⟨ds', e2, r⟩ := items_r ha hi
        rw [hi] at e
        rw [e2]
        exact atI_r r e
      | none =>
        rw [hi] at e
        rw [items_none ha hi]
        cases ha with
        | p x =>
          cases x <;> first | (cases e; done) | skip
          rename_i ks vs
          simp only [Option.map_eq_some_iff] at e ⊢
          obtain ⟨z, e1, rfl⟩ := e
          exact ⟨_, ⟨z, e1, rfl⟩, .p z⟩
        | mu k =>
          simp only [get_r] at e ⊢
          split at e
          · rename_i ks vs hk
            simp only [Option.map_eq_some_iff] at e
            obtain ⟨z, e1, rfl⟩ := e
            exact ⟨.p z, by simp [e1], .p z⟩
          · cases e
        | dct hr => exact lookD_r hr e
        | _ => cases e
    | str x =>
      simp only [index] at e ⊢
      cases ha with
      | p x =>
        cases x <;> first | (cases e; done) | skip
        rename_i ks vs
        simp only [Option.map_eq_some_iff] at e ⊢
        obtain ⟨z, e1, rfl⟩ := e
        exact ⟨_, ⟨z, e1, rfl⟩, .p z⟩
      | mu k =>
        simp only [get_r] at e ⊢
        split at e
        · rename_i ks vs hk
          simp only [Option.map_eq_some_iff] at e
          obtain ⟨z, e1, rfl⟩ := e
          exact ⟨.p z, by simp [e1], .p z⟩
        · cases e
      | dct hr => exact lookD_r hr e
      | _ => cases e
    | tup ys =>
      simp only [index] at e ⊢
      rw [dictN_r ha]
      cases hk : dictN a T with
      | none => rw [hk] at e; cases e
      | some kv =>
        rw [hk] at e
        simp only at e ⊢
        split at e
        · rename_i hy
          rw [if_pos hy]
          obtain ⟨z, e1, rfl⟩ := Option.map_eq_some_iff.mp e
          exact ⟨.p z, by rw [e1]; rfl, .p z⟩
        · cases e
    | _ => cases e
  | _ => cases e
theorem zipD_r {a a' b b' : D} (ha : Rl B a a') (hb : Rl B b b') : zipD a' b' (B ++ T) = zipD a b T := by
  have g1 := asList_r (T := T) ha
  have g2 := asList_r (T := T) hb
  unfold zipD
  cases ha with
  | p x =>
    cases hb with
    | p y => cases x <;> cases y <;> first | rfl | (simp only [g1, g2])
    | _ => cases x <;> simp only [g1, g2]
  | _ => cases hb <;> simp only [g1, g2]
theorem slice_r {a a' : D} (ha : Rl B a a') {lo hi : Option Int} : slice a' lo hi (B ++ T) = slice a lo hi T := by
  cases ha with
  | p x => cases x <;> rfl
  | mu k => simp only [slice, asList, get_r]
  | _ => rfl
theorem revd_r {a a' : D} (ha : Rl B a a') : revd a' (B ++ T) = revd a T := by
  cases ha with
  | p x => cases x <;> rfl
  | mu k => simp only [revd, asList, get_r]
  | _ => rfl
theorem bltop_r {f : Blt} {ds ds' : List D} (h : RlL B ds ds') : bltop f ds' (B ++ T) = bltop f ds T := by
  cases h with
  | nil => cases f <;> rfl
  | cons h1 hr =>
    cases hr with
    | nil =>
      cases f with
      | len => simp only [bltop, lenD_r h1]
      | rep => simp only [bltop, view_r h1]
      | all => simp only [bltop, asList_r h1]
      | any => simp only [bltop, asList_r h1]
      | maxL => simp only [bltop, asList_r h1]
      | minL => simp only [bltop, asList_r h1]
      | sum => simp only [bltop, asList_r h1]
      | sorted => simp only [bltop, asSeq_r h1]
      | list =>
        cases h1 with
        | p x => cases x <;> rfl
        | mu k => simp only [bltop, asList, get_r]
        | _ => rfl
      | tuple =>
        cases h1 with
        | p x => cases x <;> rfl
        | mu k => simp only [bltop, asList, get_r]
        | _ => rfl
      | int =>
        cases h1 with
        | p x => cases x <;> rfl
        | _ => rfl
      | abs =>
        cases h1 with
        | p x => cases x <;> rfl
        | _ => rfl
      | fact =>
        cases h1 with
        | p x => cases x <;> rfl
        | _ => rfl
      | _ =>
        cases h1 with
        | p x => cases x <;> rfl
        | _ => rfl
    | cons h2 hr2 =>
      cases hr2 with
      | nil =>
        cases h1 with
        | p x =>
          cases h2 with
          | p y => cases f <;> first | rfl | (cases x <;> cases y <;> rfl)
          | _ => cases f <;> first | rfl | (cases x <;> rfl)
        | _ => cases f <;> first | rfl | (cases h2 <;> rfl)
      | cons h3 hr3 =>
        cases h1 with
        | p x =>
          cases h2 with
          | p y => cases f <;> first | rfl | (cases x <;> first | rfl | (cases y <;> rfl))
          | _ => cases f <;> first | rfl | (cases x <;> rfl)
        | _ => cases f <;> first | rfl | (cases h2 <;> rfl)
theorem isMu_r {d d' : D} (h : Rl B d d') : isMu d' (B ++ T) = isMu d T := by
  cases h with
  | mu k => simp only [isMu, get_r]
  | _ => rfl
theorem set_r {k : Nat} {o : MO} : (B ++ T).set (B.length + k) o = B ++ T.set k o := by
  rw [List.set_append_right _ _ (by omega)]
  congr 2; omega
theorem mthop_r {m : Mth} {o o' : D} {ds ds' : List D} (ho : Rl B o o') (hd : RlL B ds ds') : RR B (Rl B) (mthop m o ds T) (mthop m o' ds' (B ++ T)) := by
  unfold mthop
  cases m with
  | append =>
    cases ho with
    | mu k =>
      cases hd with
      | nil => trivial
      | cons h1 hr =>
        cases hr with
        | nil =>
          cases h1 with
          | p x =>
            simp only [get_r]
            cases hk : T[k]? with
            | none => trivial
            | some q =>
              cases q with
              | lst xs =>
                simp only
                split
                · exact ⟨_, by rw [set_r], .p _⟩
                · trivial
              | dK a b => trivial
              | dT a b => trivial
              | dN a b => trivial
          | _ => trivial
        | cons h2 hr2 => cases h1 <;> trivial
    | _ => trivial
  | _ => trivial
theorem wr_r {a a' i i' v v' : D} (ha : Rl B a a') (hi : Rl B i i') (hv : Rl B v v') {T' : Sto} (e : wr a i v T = some T') : wr a' i' v' (B ++ T) = some (B ++ T') := by
  cases ha with
  | mu k =>
    cases hi with
    | p y =>
      cases y with
      | int j =>
        cases hv with
        | p x =>
          simp only [wr, get_r] at e ⊢
          cases hk : T[k]? with
          | none => rw [hk] at e; cases e
          | some q =>
            rw [hk] at e
            cases q with
            | lst xs =>
              simp only [Option.map_eq_some_iff] at e ⊢
              obtain ⟨z, e1, rfl⟩ := e
              exact ⟨z, e1, set_r⟩
            | dK c d => cases e
            | dT c d => cases e
            | dN c d => cases e
        | _ => cases e
      | tup ys =>
        cases hv with
        | p x =>
          simp only [wr, get_r] at e ⊢
          cases hk : T[k]? with
          | none => rw [hk] at e; cases e
          | some q =>
            rw [hk] at e
            cases q with
            | dN ks ps =>
              simp only at e ⊢
              split at e
              · rename_i hl
                cases e
                rw [if_pos hl, set_r]
              · cases e
            | _ => cases e
        | _ => cases e
      | _ => cases e
    | _ => cases e
  | _ => cases e
/-! dicts by tuples -/
theorem seqD_r {d d' : D} (h : Rl B d d') : seqD d' = seqD d := by
  cases h <;> rfl
theorem mthq_r {m : Mth} {o o' : D} {ds ds' : List D} (ho : Rl B o o') (hd : RlL B ds ds') : mthq m o' ds' = mthq m o ds := by
  unfold mthq
  rw [seqD_r ho]
  cases hd with
  | nil => rfl
  | cons h1 h2 =>
    cases h2 with
    | nil => cases h1 <;> cases seqD o <;> rfl
    | cons _ _ => cases h1 <;> cases seqD o <;> rfl
theorem yes_r {e e' : Env} : RR B Eq (yes e T) (yes e' (B ++ T)) := ⟨true, rfl, rfl⟩
theorem keysOf_r {ds ds' : List D} (h : RlL B ds ds') : keysOf ds' = keysOf ds := by
  induction ds generalizing ds' with
  | nil => cases h; rfl
  | cons d r ih =>
    cases h with
    | cons h1 h2 =>
      cases h1 with
      | p x => simp only [keysOf, ih h2]
      | _ => rfl
theorem isDT_r {d d' : D} (h : Rl B d d') : isDT d' (B ++ T) = isDT d T := by
  cases h with
  | mu k => simp only [isDT, get_r]
  | _ => rfl
theorem getT_r {d d' : D} {ds ds' : List D} (h : Rl B d d') (hd : RlL B ds ds') : getT d' ds' (B ++ T) = getT d ds T := by
  unfold getT
  rw [keysOf_r hd]
  cases keysOf ds with
  | none => cases h <;> rfl
  | some x =>
    cases h with
    | mu k => simp only [get_r]
    | _ => rfl
theorem wrT_r {d d' v v' : D} {ds ds' : List D} (h : Rl B d d') (hd : RlL B ds ds') (hv : Rl B v v') {T' : Sto} (e : wrT d ds v T = some T') : wrT d' ds' v' (B ++ T) = some (B ++ T') := by
  unfold wrT at e ⊢
  rw [keysOf_r hd]
  cases h with
  | mu k =>
    cases hk : keysOf ds with
    | none => rw [hk] at e; cases e
    | some x =>
      rw [hk] at e
      cases hv with
      | p y =>
        simp only [get_r] at e ⊢
        cases hT : T[k]? with
        | none => rw [hT] at e; cases e
        | some q =>
          rw [hT] at e
          cases q with
          | dT ks ps =>
            simp only at e ⊢
            split at e
            · rename_i hl
              cases e
              rw [if_pos hl, set_r]
            · cases e
          | _ => cases e
      | _ => cases e
  | _ => first | (cases e; done) | (exfalso; revert e; cases keysOf ds <;> cases hv <;> intro e <;> cases e)
/-! names -/
theorem slotD_r {env env' : Env} (h : REnv B env env') {i : Nat} {d : D} (e : slotD env i = some d) : ∃ d', slotD env' i = some d' ∧ Rl B d d' := by
  induction h generalizing i with
  | nil => simp [slotD] at e
  | non h ih =>
    cases i with
    | zero => simp [slotD] at e
    | succ i => simpa [slotD] using ih (by simpa [slotD] using e)
  | som hd h ih =>
    cases i with
    | zero => simp [slotD] at e; subst e; exact ⟨_, rfl, hd⟩
    | succ i => simpa [slotD] using ih (by simpa [slotD] using e)
theorem REnv.set {env env' : Env} (h : REnv B env env') {d d' : D} (hd : Rl B d d') (i : Nat) : REnv B (env.set i (some d)) (env'.set i (some d')) := by
  induction h generalizing i with
  | nil => exact .nil
  | non h ih =>
    cases i with
    | zero => exact .som hd h
    | succ i => exact .non (ih i)
  | som hx h ih =>
    cases i with
    | zero => exact .som hd h
    | succ i => exact .som hx (ih i)
theorem REnv.out {env env' : Env} (h : REnv B env env') (i : Nat) : REnv B (env.set i none) (env'.set i none) := by
  induction h generalizing i with
  | nil => exact .nil
  | non h ih =>
    cases i with
    | zero => exact .non h
    | succ i => exact .non (ih i)
  | som hx h ih =>
    cases i with
    | zero => exact .non h
    | succ i => exact .som hx (ih i)
theorem REnv.wipe {env env' : Env} (h : REnv B env env') : ∀ vs : List Nat, REnv B (wipeE env vs) (wipeE env' vs)
  | [] => h
  | v :: vs => (h.wipe vs).out v
theorem setMany_r : ∀ {is : List Nat} {ds ds' : List D} {env env' e : Env}, RlL B ds ds' → REnv B env env' → setMany is ds env = some e → ∃ e', setMany is ds' env' = some e' ∧ REnv B e e'
  | [], _, _, env, env', e, .nil, h, hs => by cases hs; exact ⟨_, rfl, h⟩
  | [], _, _, env, env', e, .cons _ _, h, hs => by cases hs
  | i :: is, _, _, env, env', e, .nil, h, hs => by cases hs
  | i :: is, _, _, env, env', e, .cons h1 h2, h, hs => by
    simp only [setMany] at hs ⊢
    exact setMany_r h2 (h.set h1 i) hs
theorem bindT_r {t : Tg} {d d' : D} {env env' e : Env} (hd : Rl B d d') (h : REnv B env env') (hs : bindT t d env = some e) : ∃ e', bindT t d' env' = some e' ∧ REnv B e e' := by
  cases t with
  | nm i => cases hs; exact ⟨_, rfl, h.set hd i⟩
  | tp is =>
    cases hd with
    | p x => cases x <;> first | (cases hs; done) | exact setMany_r (RlL.pmap _) h hs
    | tup hr => exact setMany_r hr h hs
    | _ => cases hs
theorem permA_r : ∀ {perm : List Nat} {ds ds' qs : List D}, RlL B ds ds' → permA perm ds = some qs → ∃ qs', permA perm ds' = some qs' ∧ RlL B qs qs'
  | [], _, _, qs, _, h => by cases h; exact ⟨[], rfl, .nil⟩
  | i :: is, ds, ds', qs, r, h => by
    simp only [permA] at h ⊢
    cases h1 : ds[i]? with
    | none => rw [h1] at h; cases h
    | some d =>
      rw [h1] at h
      cases h2 : permA is ds with
      | none => rw [h2] at h; cases h
      | some q =>
        rw [h2] at h
        cases h
        obtain ⟨d', e1, r1⟩ := r.get h1
        obtain ⟨qs', e2, r2⟩ := permA_r r h2
        exact ⟨d' :: qs', by simp [e1, e2], .cons r1 r2⟩
theorem still_r {d d' : D} (h : Rl B d d') {S0 S : Sto} : still d' (B ++ S0) (B ++ S) = still d S0 S := by
  cases h with
  | mu k => simp only [still, get_r]
  | _ => rfl
theorem allP_r {ds ds' : List D} (h : RlL B ds ds') : allP ds' = allP ds := by
  induction ds generalizing ds' with
  | nil => cases h; rfl
  | cons d r ih =>
    cases h with
    | cons h1 h2 =>
      cases h1 with
      | p x => simp only [allP, ih h2]
      | _ => rfl
theorem mkTup_r {ds ds' : List D} (h : RlL B ds ds') : Rl B (mkTup ds) (mkTup ds') := by
  unfold mkTup
  rw [allP_r h]
  split
  · exact .p _
  · exact .tup h
theorem pairs_r : ∀ {a a' b b' : List D}, RlL B a a' → RlL B b b' → RlL B (pairs a b) (pairs a' b')
  | _, _, _, _, .nil, h => by cases h <;> exact .nil
  | _, _, _, _, .cons _ _, .nil => .nil
  | _, _, _, _, .cons h1 h2, .cons h3 h4 => .cons (.tup (.cons h1 (.cons h3 .nil))) (pairs_r h2 h4)
theorem enumD_r {ds ds' : List D} (h : RlL B ds ds') : RlL B (enumD ds) (enumD ds') := by
  unfold enumD
  rw [h.len]
  exact pairs_r (RlL.imap (fun i : Nat => P.int (i : Int)) _) h
theorem pu_r {o o' : Option P} (h : o' = o) : RR B (Rl B) (pu o T) (pu o' (B ++ T)) := by
  rw [h]
  cases o with
  | none => trivial
  | some x => exact ⟨_, rfl, .p x⟩
theorem compL_r {stay stay' : Sto → Bool} {turn turn' : D → List P → Sto → R (List P)} (hs : ∀ T, stay' (B ++ T) = stay T) (ht : ∀ d d' acc T, Rl B d d' → RR B Eq (turn d acc T) (turn' d' acc (B ++ T))) :
    ∀ {ds ds' : List D} (acc : List P) (T : Sto), RlL B ds ds' → RR B Eq (compL stay turn ds acc T) (compL stay' turn' ds' acc (B ++ T))
  | _, _, acc, T, .nil => by
    simp only [compL, hs]
    split
    · exact ⟨_, rfl, rfl⟩
    · trivial
  | _, _, acc, T, .cons h1 h2 => by
    simp only [compL, hs]
    split
    · exact (ht _ _ acc T h1).bind fun b b' T' e => by subst e; exact compL_r hs ht b T' h2
    · trivial
theorem listed_r {r r' : R (List P)} (h : RR B Eq r r') : RR B (Rl B) (listed r) (listed r') := by
  cases r with
  | stuck => trivial
  | ok b T => obtain ⟨b', rfl, rfl⟩ := h; exact ⟨_, rfl, .p _⟩
  | exc c fs T => trivial
theorem turnC_r {tg : Tg} {own : List Nat} {cond cond' : Env → Sto → R Bool} {body body' : Env → List P → Sto → R (List P)} {env env' : Env} (he : REnv B env env') (hc : ∀ e e' T, REnv B e e' → RR B Eq (cond e T) (cond' e' (B ++ T)))
    (hb : ∀ e e' acc T, REnv B e e' → RR B Eq (body e acc T) (body' e' acc (B ++ T))) (d d' : D) (acc : List P) (T : Sto) (hd : Rl B d d') : RR B Eq (turnC tg own cond body env d acc T) (turnC tg own cond' body' env' d' acc (B ++ T)) := by
  unfold turnC
  cases hbt : bindT tg d (wipeE env own) with
  | none => trivial
  | some e1 =>
    obtain ⟨e1', h1, h2⟩ := bindT_r hd (he.wipe own) hbt
    rw [h1]
    refine (hc e1 e1' T h2).bind fun b b' T' e => ?_
    subst e
    cases b with
    | true => exact hb _ _ _ _ h2
    | false => exact ⟨_, rfl, rfl⟩
theorem oneMore_r {el el' : Env → Sto → R D} (he : ∀ e e' T, REnv B e e' → RR B (Rl B) (el e T) (el' e' (B ++ T))) (e e' : Env) (acc : List P) (T : Sto) (h : REnv B e e') : RR B Eq (oneMore el e acc T) (oneMore el' e' acc (B ++ T)) := by
  refine (he e e' T h).bind fun d d' T' hd => ?_
  cases hd with
  | p x =>
    simp only
    split
    · exact ⟨_, rfl, rfl⟩
    · trivial
  | _ => trivial
variable {C C' : Nat → List D → Sto → R D}
mutual
theorem evE_r (hC : ∀ f ds ds' T, RlL B ds ds' → RR B (Rl B) (C f ds T) (C' f ds' (B ++ T))) : ∀ (e : E) {env env' : Env} {T : Sto}, REnv B env env' → RR B (Rl B) (evE C e env T) (evE C' e env' (B ++ T))
  | .var i, env, env', T, h => by
    simp only [evE]
    cases hs : slotD env i with
    | none => trivial
    | some d =>
      obtain ⟨d', h1, h2⟩ := slotD_r h hs
      rw [h1]
      exact ⟨_, rfl, h2⟩
  | .lit p, env, env', T, h => by simp only [evE]; exact ⟨_, rfl, .p p⟩
  | .glo _ p, env, env', T, h => by simp only [evE]; exact ⟨_, rfl, .p p⟩
  | .bin o a b, env, env', T, h => by
    simp only [evE]
    exact (evE_r hC a h).bind fun x x' T1 hx => (evE_r hC b h).bind fun y y' T2 hy => pu_r (binop_r hx hy)
  | .neg a, env, env', T, h => by
    simp only [evE]
    refine (evE_r hC a h).bind fun x x' T1 hx => ?_
    cases hx with
    | p z => cases z <;> first | trivial | exact ⟨_, rfl, .p _⟩
    | _ => trivial
  | .cmp o a b, env, env', T, h => by
    simp only [evE]
    exact (evE_r hC a h).bind fun x x' T1 hx => (evE_r hC b h).bind fun y y' T2 hy => pu_r (by rw [cmpop_r hx hy])
  | .chn o o' a b c, env, env', T, h => by
    simp only [evE]
    refine (evE_r hC a h).bind fun x x' T1 hx => (evE_r hC b h).bind fun y y' T2 hy => ?_
    rw [cmpop_r hx hy]
    split
    · exact (evE_r hC c h).bind fun z z' T3 hz => pu_r (by rw [cmpop_r hy hz])
    · exact ⟨_, rfl, .p _⟩
    · trivial
  | .andE a b, env, env', T, h => by
    simp only [evE]
    refine (evE_r hC a h).bind fun x x' T1 hx => ?_
    rw [truth_r hx]
    split
    · exact evE_r hC b h
    · exact ⟨_, rfl, hx⟩
    · trivial
  | .orE a b, env, env', T, h => by
    simp only [evE]
    refine (evE_r hC a h).bind fun x x' T1 hx => ?_
    rw [truth_r hx]
    split
    · exact ⟨_, rfl, hx⟩
    · exact evE_r hC b h
    · trivial
  | .notE a, env, env', T, h => by
    simp only [evE]
    refine (evE_r hC a h).bind fun x x' T1 hx => ?_
    rw [truth_r hx]
    split
    · exact ⟨_, rfl, .p _⟩
    · trivial
  | .ite c a b, env, env', T, h => by
    simp only [evE]
    refine (evE_r hC c h).bind fun x x' T1 hx => ?_
    rw [truth_r hx]
    split
    · exact evE_r hC a h
    · exact evE_r hC b h
    · trivial
  | .tup es, env, env', T, h => by
    simp only [evE]
    exact (evEs_r hC es h).bind fun ds ds' T1 hd => ⟨_, rfl, mkTup_r hd⟩
  | .lst es, env, env', T, h => by
    simp only [evE]
    refine (evEs_r hC es h).bind fun ds ds' T1 hd => ?_
    rw [allP_r hd]
    split
    · exact ⟨_, rfl, .p _⟩
    · trivial
  | .mk e, env, env', T, h => by
    simp only [evE]
    refine (evE_r hC e h).bind fun d d' T1 hd => ?_
    cases hd with
    | p x =>
      cases x <;> first | trivial | skip
      · exact ⟨.mu (B.length + T1.length), by simp [List.length_append], .mu _⟩
      · exact ⟨.mu (B.length + T1.length), by simp [List.length_append], .mu _⟩
    | _ => trivial
  | .dct ks es, env, env', T, h => by
    simp only [evE]
    refine (evEs_r hC es h).bind fun ds ds' T1 hd => ?_
    rw [allP_r hd]
    refine ⟨_, rfl, ?_⟩
    split
    · exact .p _
    · exact .dct hd
  | .idx a b, env, env', T, h => by
    simp only [evE]
    refine (evE_r hC a h).bind fun x x' T1 hx => (evE_r hC b h).bind fun y y' T2 hy => ?_
    cases hi : index x y T2 with
    | none => trivial
    | some d =>
      obtain ⟨d', h1, h2⟩ := index_r hx hy hi
      rw [h1]
      exact ⟨_, rfl, h2⟩
  | .slc a lo hi, env, env', T, h => by
    simp only [evE]
    exact (evE_r hC a h).bind fun x x' T1 hx => (evEo_r hC lo h).bind fun l l' T2 hl => (evEo_r hC hi h).bind fun k k' T3 hk => by subst hl hk; exact pu_r (slice_r hx)
  | .rev a, env, env', T, h => by
    simp only [evE]
    exact (evE_r hC a h).bind fun x x' T1 hx => pu_r (revd_r hx)
  | .isi t a, env, env', T, h => by
    simp only [evE]
    exact (evE_r hC a h).bind fun x x' T1 hx => pu_r (by rw [isTy_r hx])
  | .call f es, env, env', T, h => by
    simp only [evE]
    exact (evEs_r hC es h).bind fun ds ds' T1 hd => hC f ds ds' T1 hd
  | .callK f perm es, env, env', T, h => by
    simp only [evE]
    refine (evEs_r hC es h).bind fun ds ds' T1 hd => ?_
    rw [hd.len]
    split
    · cases hq : permA perm ds with
      | none => trivial
      | some qs =>
        obtain ⟨qs', h1, h2⟩ := permA_r hd hq
        rw [h1]
        exact hC f qs qs' T1 h2
    · trivial
  | .blt f es, env, env', T, h => by
    simp only [evE]
    exact (evEs_r hC es h).bind fun ds ds' T1 hd => pu_r (bltop_r hd)
  | .mth m o es, env, env', T, h => by
    simp only [evE]
    refine (evE_r hC o h).bind fun x x' T1 hx => ?_
    split
    · rw [seqD_r hx]
      split
      · exact (evEs_r hC es h).bind fun ds ds' T2 hd => pu_r (mthq_r hx hd)
      · trivial
    · rw [isMu_r hx]
      split
      · exact (evEs_r hC es h).bind fun ds ds' T2 hd => mthop_r hx hd
      · trivial
  | .newT, env, env', T, h => by
    simp only [evE]
    exact ⟨.mu (B.length + T.length), by simp [List.length_append], .mu _⟩
  | .newN, env, env', T, h => by
    simp only [evE]
    exact ⟨.mu (B.length + T.length), by simp [List.length_append], .mu _⟩
  | .getT o es x, env, env', T, h => by
    simp only [evE]
    refine (evE_r hC o h).bind fun d d' T1 hd => ?_
    rw [isDT_r hd]
    split
    · refine (evEs_r hC es h).bind fun ds ds' T2 hds => (evE_r hC x h).bind fun z z' T3 hz => ?_
      rw [getT_r hd hds]
      split
      · exact ⟨_, rfl, .p _⟩
      · exact ⟨_, rfl, hz⟩
      · trivial
    · trivial
  | .idxT o es, env, env', T, h => by
    simp only [evE]
    refine (evE_r hC o h).bind fun d d' T1 hd => (evEs_r hC es h).bind fun ds ds' T2 hds => ?_
    rw [getT_r hd hds]
    split
    · exact ⟨_, rfl, .p _⟩
    · trivial
  | .comp own tg src ifs elt, env, env', T, h => by
    simp only [evE]
    exact (evI_r hC src h).bind fun w w' T1 hw => listed_r (compL_r hw.stay (turnC_r h (fun e e' T he => evC_r hC ifs he) (fun e e' acc T he => oneMore_r (fun e e' T he => evE_r hC elt he) e e' acc T he)) [] T1 hw.ds)
  | .comp2 own own1 tg src ifs tg1 src1 ifs1 elt, env, env', T, h => by
    simp only [evE]
    exact (evI_r hC src h).bind fun w w' T1 hw => listed_r (compL_r hw.stay (turnC_r h (fun e e' T he => evC_r hC ifs he) (fun e e' acc T he => (evI_r hC src1 he).bind fun w1 w1' T2 hw1 =>
      compL_r hw1.stay (turnC_r he (fun e e' T he => evC_r hC ifs1 he) (fun e e' acc T he => oneMore_r (fun e e' T he => evE_r hC elt he) e e' acc T he)) acc T2 hw1.ds)) [] T1 hw.ds)
  | .comp3 own own1 own2 tg src tg1 src1 tg2 src2 elt, env, env', T, h => by
    simp only [evE]
    exact (evI_r hC src h).bind fun w w' T1 hw => listed_r (compL_r hw.stay (turnC_r h (fun e e' T he => yes_r) (fun e e' acc T he => (evI_r hC src1 he).bind fun w1 w1' T2 hw1 =>
      compL_r hw1.stay (turnC_r he (fun e e' T he => yes_r) (fun e e' acc T he => (evI_r hC src2 he).bind fun w2 w2' T3 hw2 =>
        compL_r hw2.stay (turnC_r he (fun e e' T he => yes_r) (fun e e' acc T he => oneMore_r (fun e e' T he => evE_r hC elt he) e e' acc T he)) acc T3 hw2.ds)) acc T2 hw1.ds)) [] T1 hw.ds)
  | .lrng a b, env, env', T, h => by
    simp only [evE]
    refine (evE_r hC a h).bind fun x x' T1 hx => (evE_r hC b h).bind fun y y' T2 hy => ?_
    cases hx with
    | p x =>
      cases hy with
      | p y =>
        cases x <;> cases y <;> first | trivial | skip
        simp only
        split
        · exact ⟨_, rfl, .p _⟩
        · trivial
      | _ => cases x <;> trivial
    | _ => trivial
  | .lzip a b, env, env', T, h => by
    simp only [evE]
    refine (evE_r hC a h).bind fun x x' T1 hx => (evE_r hC b h).bind fun y y' T2 hy => ?_
    rw [zipD_r hx hy]
    split
    · split
      · exact ⟨_, rfl, .p _⟩
      · trivial
    · trivial
theorem evEs_r (hC : ∀ f ds ds' T, RlL B ds ds' → RR B (Rl B) (C f ds T) (C' f ds' (B ++ T))) : ∀ (e : Es) {env env' : Env} {T : Sto}, REnv B env env' → RR B (RlL B) (evEs C e env T) (evEs C' e env' (B ++ T))
  | .nil, env, env', T, h => by simp only [evEs]; exact ⟨_, rfl, .nil⟩
  | .cons e es, env, env', T, h => by
    simp only [evEs]
    exact (evE_r hC e h).bind fun d d' T1 hd => (evEs_r hC es h).bind fun ds ds' T2 hds => ⟨_, rfl, .cons hd hds⟩
theorem evEo_r (hC : ∀ f ds ds' T, RlL B ds ds' → RR B (Rl B) (C f ds T) (C' f ds' (B ++ T))) : ∀ (e : Eo) {env env' : Env} {T : Sto}, REnv B env env' → RR B Eq (evEo C e env T) (evEo C' e env' (B ++ T))
  | .none, env, env', T, h => by simp only [evEo]; exact ⟨_, rfl, rfl⟩
  | .some e, env, env', T, h => by
    simp only [evEo]
    refine (evE_r hC e h).bind fun d d' T1 hd => ?_
    cases hd with
    | p x => cases x <;> first | trivial | exact ⟨_, rfl, rfl⟩
    | _ => trivial
theorem evC_r (hC : ∀ f ds ds' T, RlL B ds ds' → RR B (Rl B) (C f ds T) (C' f ds' (B ++ T))) : ∀ (e : Eo) {env env' : Env} {T : Sto}, REnv B env env' → RR B Eq (evC C e env T) (evC C' e env' (B ++ T))
  | .none, env, env', T, h => by simp only [evC]; exact ⟨_, rfl, rfl⟩
  | .some e, env, env', T, h => by
    simp only [evC]
    refine (evE_r hC e h).bind fun d d' T1 hd => ?_
    rw [truth_r hd]
    split
    · exact ⟨_, rfl, rfl⟩
    · trivial
theorem evI_r (hC : ∀ f ds ds' T, RlL B ds ds' → RR B (Rl B) (C f ds T) (C' f ds' (B ++ T))) : ∀ (e : Src) {env env' : Env} {T : Sto}, REnv B env env' → RR B (RW B) (evI C e env T) (evI C' e env' (B ++ T))
  | .of e, env, env', T, h => by
    simp only [evI]
    refine (evE_r hC e h).bind fun d d' T1 hd => ?_
    cases hi : items d T1 with
    | none => trivial
    | some ds =>
      obtain ⟨ds', h1, h2⟩ := items_r hd hi
      rw [h1]
      exact ⟨_, rfl, h2, fun T => still_r hd⟩
  | .rng e, env, env', T, h => by
    simp only [evI]
    refine (evE_r hC e h).bind fun d d' T1 hd => ?_
    cases hd with
    | p x =>
      cases x <;> first | trivial | skip
      simp only
      split
      · exact ⟨_, rfl, RlL.imap (fun i : Nat => P.int (0 + (i : Int))) _, fun _ => rfl⟩
      · trivial
    | _ => trivial
  | .rng2 a b, env, env', T, h => by
    simp only [evI]
    refine (evE_r hC a h).bind fun x x' T1 hx => (evE_r hC b h).bind fun y y' T2 hy => ?_
    cases hx with
    | p u =>
      cases hy with
      | p v =>
        cases u <;> first | trivial | skip
        cases v <;> first | trivial | skip
        rename_i i j
        simp only
        split
        · exact ⟨_, rfl, RlL.imap (fun k : Nat => P.int (i + (k : Int))) _, fun _ => rfl⟩
        · trivial
      | _ => cases u <;> trivial
    | _ => trivial
  | .enum e, env, env', T, h => by
    simp only [evI]
    refine (evE_r hC e h).bind fun d d' T1 hd => ?_
    cases hi : items d T1 with
    | none => trivial
    | some ds =>
      obtain ⟨ds', h1, h2⟩ := items_r hd hi
      rw [h1]
      exact ⟨_, rfl, enumD_r h2, fun T => still_r hd⟩
  | .zip a b, env, env', T, h => by
    simp only [evI]
    refine (evE_r hC a h).bind fun x x' T1 hx => (evE_r hC b h).bind fun y y' T2 hy => ?_
    cases hi : items x T2 with
    | none => trivial
    | some ds =>
      obtain ⟨ds', h1, h2⟩ := items_r hx hi
      rw [h1]
      cases hj : items y T2 with
      | none => trivial
      | some es =>
        obtain ⟨es', h3, h4⟩ := items_r hy hj
        rw [h3]
        exact ⟨_, rfl, pairs_r h2 h4, fun T => by simp only [still_r hx, still_r hy]⟩
  | .rev e, env, env', T, h => by
    simp only [evI]
    refine (evE_r hC e h).bind fun d d' T1 hd => ?_
    cases hd with
    | p x =>
      cases x <;> first | trivial | skip
      rename_i j
      simp only
      split
      · exact ⟨_, rfl, RlL.imap (fun i : Nat => P.int ((j.toNat : Int) - 1 - (i : Int))) _, fun _ => rfl⟩
      · trivial
    | _ => trivial
  | .revA e, env, env', T, h => by
    simp only [evI]
    refine (evE_r hC e h).bind fun d d' T1 hd => ?_
    cases hd with
    | p x =>
      cases x <;> first | trivial | skip
      · exact ⟨_, rfl, RlL.pmap _, fun _ => rfl⟩
      · exact ⟨_, rfl, RlL.pmap _, fun _ => rfl⟩
    | _ => trivial
end
theorem obind_r {β β' : Type} {rel : β → β' → Prop} {r : R β} {r' : R β'} {env env' : Env} {f : β → Sto → O} {f' : β' → Sto → O} (h : RR B rel r r') (hf : ∀ b b' T, rel b b' → RO B (f b T) (f' b' (B ++ T))) : RO B (r.obind env f) (r'.obind env' f') := by
  cases r with
  | stuck => trivial
  | ok b T => obtain ⟨b', rfl, hb⟩ := h; exact hf b b' T hb
  | exc c fs T => cases (show r' = _ from h); exact ⟨_, rfl⟩
theorem augop_r {o : Bop} {a a' b b' : D} (ha : Rl B a a') (hb : Rl B b b') : augop o a' b' = augop o a b := by
  cases ha with
  | p x =>
    cases hb with
    | p y => rfl
    | _ => cases x <;> rfl
  | _ => rfl
theorem bindO_r {t : Tg} {d d' : D} {env env' : Env} (hd : Rl B d d') (h : REnv B env env') : RO B (bindO t d env T) (bindO t d' env' (B ++ T)) := by
  unfold bindO
  cases hb : bindT t d env with
  | none => trivial
  | some e =>
    obtain ⟨e', h1, h2⟩ := bindT_r hd h hb
    rw [h1]
    exact ⟨_, rfl, h2⟩
theorem loopW_r {c c' : Env → Sto → R Bool} {body body' : Env → Sto → O} (hc : ∀ e e' T, REnv B e e' → RR B Eq (c e T) (c' e' (B ++ T))) (hb : ∀ e e' T, REnv B e e' → RO B (body e T) (body' e' (B ++ T))) :
    ∀ (w : Nat) (e e' : Env) (T : Sto), REnv B e e' → RO B (loopW c body w e T) (loopW c' body' w e' (B ++ T))
  | 0, _, _, _, _ => trivial
  | w + 1, e, e', T, h => by
    simp only [loopW]
    refine obind_r (hc e e' T h) fun b b' T1 hbb => ?_
    subst hbb
    cases b with
    | false => exact ⟨_, rfl, h⟩
    | true =>
      simp only [if_true]
      have q := hb e e' T1 h
      cases ho : body e T1 with
      | stuck => trivial
      | next e2 T2 => rw [ho] at q; obtain ⟨e3, q1, q2⟩ := q; rw [q1]; exact loopW_r hc hb w _ _ _ q2
      | cont e2 T2 => rw [ho] at q; obtain ⟨e3, q1, q2⟩ := q; rw [q1]; exact loopW_r hc hb w _ _ _ q2
      | brk e2 T2 => rw [ho] at q; obtain ⟨e3, q1, q2⟩ := q; rw [q1]; exact ⟨_, rfl, q2⟩
      | ret d T2 => rw [ho] at q; obtain ⟨e3, q1, q2⟩ := q; rw [q1]; exact ⟨_, rfl, q2⟩
      | exc k fs e2 T2 => rw [ho] at q; obtain ⟨e3, q1⟩ := q; rw [q1]; exact ⟨_, rfl⟩
theorem loopF_r {t : Tg} {stay stay' : Sto → Bool} {body body' : Env → Sto → O} (hs : ∀ T, stay' (B ++ T) = stay T) (hb : ∀ e e' T, REnv B e e' → RO B (body e T) (body' e' (B ++ T))) :
    ∀ {ds ds' : List D} (e e' : Env) (T : Sto), RlL B ds ds' → REnv B e e' → RO B (loopF t stay body ds e T) (loopF t stay' body' ds' e' (B ++ T))
  | _, _, e, e', T, .nil, h => by
    simp only [loopF, hs]
    split
    · exact ⟨_, rfl, h⟩
    · trivial
  | _, _, e, e', T, .cons h1 h2, h => by
    simp only [loopF, hs]
    split
    · rename_i d d' ds ds' hst
      cases hbt : bindT t d e with
      | none => trivial
      | some e1 =>
        obtain ⟨e1', k1, k2⟩ := bindT_r h1 h hbt
        rw [k1]
        have q := hb e1 e1' T k2
        simp only
        cases ho : body e1 T with
        | stuck => trivial
        | next e2 T2 => rw [ho] at q; obtain ⟨e3, q1, q2⟩ := q; rw [q1]; exact loopF_r hs hb _ _ _ h2 q2
        | cont e2 T2 => rw [ho] at q; obtain ⟨e3, q1, q2⟩ := q; rw [q1]; exact loopF_r hs hb _ _ _ h2 q2
        | brk e2 T2 => rw [ho] at q; obtain ⟨e3, q1, q2⟩ := q; rw [q1]; exact ⟨_, rfl, q2⟩
        | ret d T2 => rw [ho] at q; obtain ⟨e3, q1, q2⟩ := q; rw [q1]; exact ⟨_, rfl, q2⟩
        | exc k fs e2 T2 => rw [ho] at q; obtain ⟨e3, q1⟩ := q; rw [q1]; exact ⟨_, rfl⟩
    · trivial
mutual
theorem evS_r (hC : ∀ f ds ds' T, RlL B ds ds' → RR B (Rl B) (C f ds T) (C' f ds' (B ++ T))) (w : Nat) : ∀ (s : St') {env env' : Env} {T : Sto}, REnv B env env' → RO B (evS C w s env T) (evS C' w s env' (B ++ T))
  | .asg t e, env, env', T, h => by
    simp only [evS]
    exact obind_r (evE_r hC e h) fun d d' T1 hd => bindO_r hd h
  | .par is es, env, env', T, h => by
    simp only [evS]
    refine obind_r (evEs_r hC es h) fun ds ds' T1 hd => ?_
    cases hb : setMany is ds env with
    | none => trivial
    | some e =>
      obtain ⟨e', h1, h2⟩ := setMany_r hd h hb
      rw [h1]
      exact ⟨_, rfl, h2⟩
  | .set o i v, env, env', T, h => by
    simp only [evS]
    refine obind_r (evE_r hC v h) fun x x' T1 hx => obind_r (evE_r hC o h) fun y y' T2 hy => obind_r (evE_r hC i h) fun z z' T3 hz => ?_
    cases hw : wr y z x T3 with
    | none => trivial
    | some T4 =>
      rw [wr_r hy hz hx hw]
      exact ⟨_, rfl, h⟩
  | .setT o es v, env, env', T, h => by
    simp only [evS]
    refine obind_r (evE_r hC v h) fun x x' T1 hx => obind_r (evE_r hC o h) fun y y' T2 hy => obind_r (evEs_r hC es h) fun ds ds' T3 hds => ?_
    cases hw : wrT y ds x T3 with
    | none => trivial
    | some T4 =>
      rw [wrT_r hy hds hx hw]
      exact ⟨_, rfl, h⟩
  | .aug i o e, env, env', T, h => by
    simp only [evS]
    cases hs : slotD env i with
    | none => trivial
    | some x =>
      obtain ⟨x', h1, h2⟩ := slotD_r h hs
      rw [h1]
      refine obind_r (evE_r hC e h) fun y y' T1 hy => ?_
      rw [augop_r h2 hy]
      split
      · exact ⟨_, rfl, h.set (.p _) i⟩
      · trivial
  | .ex e, env, env', T, h => by
    simp only [evS]
    exact obind_r (evE_r hC e h) fun d d' T1 hd => ⟨_, rfl, h⟩
  | .ret e, env, env', T, h => by
    simp only [evS]
    exact obind_r (evE_r hC e h) fun d d' T1 hd => ⟨_, rfl, hd⟩
  | .retN, env, env', T, h => by simp only [evS]; exact ⟨_, rfl, .p _⟩
  | .iff c a b, env, env', T, h => by
    simp only [evS]
    refine obind_r (evE_r hC c h) fun x x' T1 hx => ?_
    rw [truth_r hx]
    split
    · exact evSs_r hC w a h
    · exact evSs_r hC w b h
    · trivial
  | .whl c b, env, env', T, h => by
    simp only [evS]
    refine loopW_r (fun e e' T he => (evE_r hC c he).bind fun x x' T1 hx => ?_) (fun e e' T he => evSs_r hC w b he) w _ _ _ h
    rw [truth_r hx]
    split
    · exact ⟨_, rfl, rfl⟩
    · trivial
  | .for t src b, env, env', T, h => by
    simp only [evS]
    exact obind_r (evI_r hC src h) fun k k' T1 hk => loopF_r hk.stay (fun e e' T he => evSs_r hC w b he) _ _ _ hk.ds h
  | .brk, env, env', T, h => by simp only [evS]; exact ⟨_, rfl, h⟩
  | .cont, env, env', T, h => by simp only [evS]; exact ⟨_, rfl, h⟩
  | .pass, env, env', T, h => by simp only [evS]; exact ⟨_, rfl, h⟩
  | .raise c, env, env', T, h => by simp only [evS]; exact ⟨_, rfl⟩
  | .boom, env, env', T, h => by simp only [evS]; trivial
theorem evSs_r (hC : ∀ f ds ds' T, RlL B ds ds' → RR B (Rl B) (C f ds T) (C' f ds' (B ++ T))) (w : Nat) : ∀ (s : Sts) {env env' : Env} {T : Sto}, REnv B env env' → RO B (evSs C w s env T) (evSs C' w s env' (B ++ T))
  | .nil, env, env', T, h => by simp only [evSs]; exact ⟨_, rfl, h⟩
  | .cons s r, env, env', T, h => by
    simp only [evSs]
    have q := evS_r hC w s (T := T) h
    cases ho : evS C w s env T with
    | stuck => trivial
    | next e2 T2 => rw [ho] at q; obtain ⟨e3, q1, q2⟩ := q; rw [q1]; exact evSs_r hC w r q2
    | cont e2 T2 => rw [ho] at q; obtain ⟨e3, q1, q2⟩ := q; rw [q1]; exact ⟨_, rfl, q2⟩
    | brk e2 T2 => rw [ho] at q; obtain ⟨e3, q1, q2⟩ := q; rw [q1]; exact ⟨_, rfl, q2⟩
    | ret d T2 => rw [ho] at q; obtain ⟨e3, q1, q2⟩ := q; rw [q1]; exact ⟨_, rfl, q2⟩
    | exc k fs e2 T2 => rw [ho] at q; obtain ⟨e3, q1⟩ := q; rw [q1]; exact ⟨_, rfl⟩
end
theorem take_r {n : Nat} : (B ++ T).take (B.length + n) = B ++ T.take n := by
  rw [List.take_append]
  rw [List.take_of_length_le (by omega)]
  congr 2; omega
theorem leave_r {keep : Bool} {n : Nat} {d d' : D} (h : Rl B d d') : RR B (Rl B) (leave keep n d T) (leave keep (B.length + n) d' (B ++ T)) := by
  unfold leave
  cases keep with
  | true => exact ⟨_, rfl, h⟩
  | false =>
    simp only [Bool.false_eq_true, if_false]
    cases h with
    | p x => exact ⟨_, by rw [take_r], .p x⟩
    | mu k =>
      simp only [get_r]
      by_cases hk : k < n
      · rw [if_pos hk, if_pos (by omega)]
        exact ⟨_, by rw [take_r], .mu k⟩
      · rw [if_neg hk, if_neg (by omega)]
        cases hT : T[k]? with
        | none => trivial
        | some o => cases o <;> first | exact ⟨_, by rw [take_r], .p _⟩ | trivial
    | scr ns => exact ⟨_, by rw [take_r], .scr ns⟩
    | tup hr => trivial
    | dct hr => trivial
theorem start_r {ds ds' : List D} (h : RlL B ds ds') (m : Nat) : REnv B (ds.map some ++ List.replicate m none) (ds'.map some ++ List.replicate m none) := by
  induction ds generalizing ds' with
  | nil =>
    cases h
    induction m with
    | zero => exact .nil
    | succ m ih => exact .non ih
  | cons d r ih => cases h with | cons h1 h2 => exact .som h1 (ih h2)
theorem runF_r (hC : ∀ f ds ds' T, RlL B ds ds' → RR B (Rl B) (C f ds T) (C' f ds' (B ++ T))) {w : Nat} {fd : FD} {ds ds' : List D} (h : RlL B ds ds') : RR B (Rl B) (runF C w fd ds T) (runF C' w fd ds' (B ++ T)) := by
  unfold runF
  rw [h.len]
  split
  · have q := evSs_r hC w fd.body (T := T) (start_r h (fd.nN - ds.length))
    rw [List.length_append]
    cases ho : evSs C w fd.body (ds.map some ++ List.replicate (fd.nN - ds.length) none) T with
    | stuck => trivial
    | next e2 T2 => rw [ho] at q; obtain ⟨e3, q1, q2⟩ := q; rw [q1]; exact leave_r (.p _)
    | cont e2 T2 => trivial
    | brk e2 T2 => trivial
    | ret d T2 => rw [ho] at q; obtain ⟨e3, q1, q2⟩ := q; rw [q1]; exact leave_r q2
    | exc k fs e2 T2 => rw [ho] at q; obtain ⟨e3, q1⟩ := q; rw [q1]; exact (by simp only [take_r]; rfl)
  · trivial
theorem callN_r {t1 t2 : Nat → Option FD} {w : Nat} (ht : ∀ i fd, t1 i = some fd → t2 i = some fd) : ∀ (n m f : Nat) (ds ds' : List D) (T : Sto), n ≤ m → RlL B ds ds' → RR B (Rl B) (callN t1 w n f ds T) (callN t2 w m f ds' (B ++ T))
  | 0, _, _, _, _, _, _, _ => trivial
  | n + 1, 0, _, _, _, _, hm, _ => absurd hm (Nat.not_succ_le_zero n)
  | n + 1, m + 1, f, ds, ds', T, hm, h => by
    simp only [callN]
    cases hf : t1 f with
    | none => trivial
    | some fd =>
      rw [ht f fd hf]
      exact runF_r (fun f ds ds' T h => callN_r ht n m f ds ds' T (Nat.le_of_succ_le_succ hm) h) h
end
/-- what holds of a lesser table of defs at an empty store holds of a greater one at each -/
theorem call_sub {t1 t2 : Nat → Option FD} {w n m f : Nat} {ps : List P} {x : P} (ht : ∀ i fd, t1 i = some fd → t2 i = some fd) (hm : n ≤ m) (h : callN t1 w n f (ps.map .p) [] = .ok (.p x) []) (S : Sto) : callN t2 w m f (ps.map .p) S = .ok (.p x) S := by
  have q := callN_r (B := S) (w := w) ht n m f (ps.map .p) (ps.map .p) [] hm (RlL.pmap ps)
  rw [h] at q
  obtain ⟨b', e, r⟩ := q
  cases r
  simpa using e
/-- what holds at an empty store holds at each -/
theorem call_any {tab : Nat → Option FD} {w n f : Nat} {ps : List P} {x : P} (h : callN tab w n f (ps.map .p) [] = .ok (.p x) []) (S : Sto) : callN tab w n f (ps.map .p) S = .ok (.p x) S := call_sub (fun _ _ h => h) (Nat.le_refl _) h S
def isOk (r : R D) (x : P) : Bool := match r with
  | .ok (.p y) [] => P.beq y x
  | _ => false
theorem isOk_eq {r : R D} {x : P} (h : isOk r x = true) : r = .ok (.p x) [] := by
  unfold isOk at h
  split at h
  · rw [P.beq_eq h]
  · cases h
/-- a table of few defs -/
def miniT (l : List (Nat × FD)) : Nat → Option FD := fun i => match l with
  | [] => none
  | (j, fd) :: r => if i = j then some fd else miniT r i
theorem mini_nil {t2 : Nat → Option FD} : ∀ i fd, miniT [] i = some fd → t2 i = some fd := fun _ _ h => by cases h
theorem mini_cons {t2 : Nat → Option FD} {j : Nat} {fd0 : FD} {r : List (Nat × FD)} (h0 : t2 j = some fd0) (h : ∀ i fd, miniT r i = some fd → t2 i = some fd) : ∀ i fd, miniT ((j, fd0) :: r) i = some fd → t2 i = some fd := fun i fd e => by
  unfold miniT at e
  split at e
  · rename_i hi; cases e; rw [hi]; exact h0
  · exact h i fd e
end Mx
end

section
set_option Elab.async false
set_option linter.all false
set_option maxRecDepth 100000
set_option autoImplicit false
set_option maxHeartbeats 4000000
namespace Mx
open PySem L2
variable {tab : Nat → Option FD} {n : Nat} {S : Sto} {k : Nat} {l u d : Int}
/-! ### loops that laws have -/
theorem len9 {α : Type} {e : List α} (h : e.length = 9) : ∃ a0 a1 a2 a3 a4 a5 a6 a7 a8, e = [a0, a1, a2, a3, a4, a5, a6, a7, a8] := by
  match e, h with
  | [a0, a1, a2, a3, a4, a5, a6, a7, a8], _ => exact ⟨_, _, _, _, _, _, _, _, _, rfl⟩
theorem len12 {α : Type} {e : List α} (h : e.length = 12) : ∃ a0 a1 a2 a3 a4 a5 a6 a7 a8 a9 a10 a11, e = [a0, a1, a2, a3, a4, a5, a6, a7, a8, a9, a10, a11] := by
  match e, h with
  | [a0, a1, a2, a3, a4, a5, a6, a7, a8, a9, a10, a11], _ => exact ⟨_, _, _, _, _, _, _, _, _, _, _, _, rfl⟩
theorem len13 {α : Type} {e : List α} (h : e.length = 13) : ∃ a0 a1 a2 a3 a4 a5 a6 a7 a8 a9 a10 a11 a12, e = [a0, a1, a2, a3, a4, a5, a6, a7, a8, a9, a10, a11, a12] := by
  match e, h with
  | [a0, a1, a2, a3, a4, a5, a6, a7, a8, a9, a10, a11, a12], _ => exact ⟨_, _, _, _, _, _, _, _, _, _, _, _, _, rfl⟩
/-- the script at 0, the pen at 2 -/
structure Base (N : Nat) (ns : List Int) (k : Nat) (env : Mx.Env) (S : Sto) : Prop where
  len : env.length = N
  s0 : env[0]? = some (some (.scr ns))
  s2 : env[2]? = some (some (.mu k))
  pen : IsPen S k
/-- for .. in range(a number) -/
theorem laps_ok {C : Nat → List D → Sto → R D} {w N : Nat} {ns : List Int} {b : Sts} {t : Nat} {m : Int} {env : Mx.Env} (hm : 0 ≤ m ∧ m ≤ 1000000) (h : Base N ns k env S)
    (hb : ∀ (x : Nat) env S, x < m.toNat → Base N ns k env S → ∃ e' S', evSs C w b (env.set t (some (.p (.int x)))) S = .next e' S' ∧ Base N ns k e' S') :
    ∃ e' S', evS C w (.for (.nm t) (.rng (.lit (.int m))) b) env S = .next e' S' ∧ Base N ns k e' S' := by
  obtain ⟨e3, S3, h3, i3⟩ := loopF_inv (t := .nm t) (stay := fun _ => true) (body := evSs C w b) (fun _ env S' => Base N ns k env S') (rangeD 0 m.toNat) 0 env S h (fun _ _ _ _ => rfl) (fun i dd env S' hd hI => by
    obtain ⟨rfl, hj⟩ := range_get hd
    refine ⟨_, rfl, ?_⟩
    obtain ⟨e', S'', g1, g2⟩ := hb i env S' hj hI
    refine ⟨e', S'', .inl ?_, g2⟩
    rw [Int.zero_add]; exact g1)
  refine ⟨e3, S3, ?_, i3⟩
  have sm : small62 m = true := by unfold small62; simp only [Bool.and_eq_true, decide_eq_true_eq]; omega
  simp [runF, evSs, evS, evE, evEs, evEo, evC, evI, R.bind, R.obind, slotD, pu, truth, bindO, bindT, setMany, leave, ty_beq, tyEq, isCI, yes, sm]
  exact h3
/-- for .. in a list, each item one of these -/
theorem each_ok {C : Nat → List D → Sto → R D} {w N : Nat} {ns : List Int} {b : Sts} {t : Nat} {e : E} {xs : List P} {env : Mx.Env} {S1 : Sto} (he : evE C e env S = .ok (.p (.lst xs)) S1) (h : Base N ns k env S1) (J : Mx.Env → Sto → Prop) (hJ : J env S1)
    (hb : ∀ x ∈ xs, ∀ env S, Base N ns k env S → J env S → ∃ e' S', evSs C w b (env.set t (some (.p x))) S = .next e' S' ∧ Base N ns k e' S' ∧ J e' S') :
    ∃ e' S', evS C w (.for (.nm t) (.of e) b) env S = .next e' S' ∧ Base N ns k e' S' ∧ J e' S' := by
  obtain ⟨e3, S3, h3, i3⟩ := loopF_inv (t := .nm t) (stay := still (.p (.lst xs)) S1) (body := evSs C w b) (fun _ env S' => Base N ns k env S' ∧ J env S') (xs.map .p) 0 env S1 ⟨h, hJ⟩ (fun _ _ _ _ => rfl) (fun i dd env S' hd hI => by
    obtain ⟨y, hy, rfl⟩ := List.mem_map.mp (List.mem_of_getElem? hd)
    refine ⟨_, rfl, ?_⟩
    obtain ⟨e', S'', g1, g2, g3⟩ := hb y hy env S' hI.1 hI.2
    exact ⟨e', S'', .inl g1, g2, g3⟩)
  refine ⟨e3, S3, ?_, i3.1, i3.2⟩
  simp only [evS, evI, he, R.bind, R.obind, items]
  exact h3
theorem evSs_cons (C : Nat → List D → Sto → R D) (w : Nat) (a : St') (r : Sts) (env : Mx.Env) (S : Sto) : evSs C w (.cons a r) env S = match evS C w a env S with | .next e s' => evSs C w r e s' | o => o := by
  first
    | (simp only [evSs]; done)
    | (simp only [evSs]; cases evS C w a env S <;> rfl)
theorem evSs_nil (C : Nat → List D → Sto → R D) (w : Nat) (env : Mx.Env) (S : Sto) : evSs C w .nil env S = .next env S := by
  simp only [evSs]
/-- for .. in range(what is reckoned), a further fact kept -/
theorem rngJ_ok {C : Nat → List D → Sto → R D} {w N : Nat} {ns : List Int} {b : Sts} {t : Nat} {e : E} {m : Int} {env : Mx.Env} (he : evE C e env S = .ok (.p (.int m)) S) (hm : 0 ≤ m ∧ m ≤ 1000000) (h : Base N ns k env S) (J : Mx.Env → Sto → Prop) (hJ : J env S)
    (hb : ∀ (x : Nat) env S, x < m.toNat → Base N ns k env S → J env S → ∃ e' S', evSs C w b (env.set t (some (.p (.int x)))) S = .next e' S' ∧ Base N ns k e' S' ∧ J e' S') :
    ∃ e' S', evS C w (.for (.nm t) (.rng e) b) env S = .next e' S' ∧ Base N ns k e' S' ∧ J e' S' := by
  obtain ⟨e3, S3, h3, i3⟩ := loopF_inv (t := .nm t) (stay := fun _ => true) (body := evSs C w b) (fun _ env S' => Base N ns k env S' ∧ J env S') (rangeD 0 m.toNat) 0 env S ⟨h, hJ⟩ (fun _ _ _ _ => rfl) (fun i dd env S' hd hI => by
    obtain ⟨rfl, hj⟩ := range_get hd
    refine ⟨_, rfl, ?_⟩
    obtain ⟨e', S'', g1, g2, g3⟩ := hb i env S' hj hI.1 hI.2
    refine ⟨e', S'', .inl ?_, g2, g3⟩
    rw [Int.zero_add]; exact g1)
  refine ⟨e3, S3, ?_, i3.1, i3.2⟩
  have sm : small62 m = true := by unfold small62; simp only [Bool.and_eq_true, decide_eq_true_eq]; omega
  simp only [evS, evI, he, R.bind, R.obind, sm, if_true]
  exact h3
def outerB (m : Int) (inner : Sts) : Sts := (.cons (.for (.nm 1) (.rng (manyE m)) (.cons (.asg (.nm 2) (.call 35 (.cons (.call 34 (.cons (.var 0) (.cons (.var 1) .nil))) .nil))) inner)) (.cons (.ret (.lit (.bl true))) .nil))
theorem outer_ok [h34 : Has tab 34 f__law_cell_at] [h35 : Has tab 35 f__law_pen] {N : Nat} {inner : Sts} {m : Int} (hm : 1 ≤ m ∧ m < 1000000) (hN : 3 ≤ N) (hlaw : tab 0 = some { np := 1, nN := N, keep := false, body := outerB m inner }) (ns : List Int)
    (hin : ∀ env S k, Base N ns k env S → ∃ e' S', evSs (CN tab (n + 1)) FUEL inner env S = .next e' S' ∧ Base N ns k e' S') : CN tab (n + 2) 0 [.scr ns] [] = .ok (.p (.bl true)) [] := by
  have he : CN tab (n + 2) 0 [.scr ns] [] = runF (CN tab (n + 1)) FUEL { np := 1, nN := N, keep := false, body := outerB m inner } [.scr ns] [] := by
    show callN tab FUEL (n + 2) 0 [.scr ns] [] = _
    simp only [callN, hlaw]
    rfl
  rw [he]
  let e0 : Mx.Env := some (.scr ns) :: List.replicate (N - 1) none
  obtain ⟨z, sm, hz⟩ := many_ok (C := CN tab (n + 1)) (m := m) (S := []) (env := e0) (ns := ns) rfl hm
  obtain ⟨e3, S3, h3, i3⟩ := loopF_inv (t := .nm 1) (stay := fun _ => true) (body := evSs (CN tab (n + 1)) FUEL (.cons (.asg (.nm 2) (.call 35 (.cons (.call 34 (.cons (.var 0) (.cons (.var 1) .nil))) .nil))) inner)) (fun _ env S' => env.length = N ∧ env[0]? = some (some (.scr ns))) (rangeD 0 z.toNat) 0 e0 []
    ⟨by simp [e0]; omega, rfl⟩ (fun _ _ _ _ => rfl) (fun i dd env S' hd hI => by
      obtain ⟨rfl, hj⟩ := range_get hd
      refine ⟨_, rfl, ?_⟩
      obtain ⟨hl, h0⟩ := hI
      obtain ⟨y, e1⟩ := cellW (tab := tab) (n := n) (S := S') ns i
      obtain ⟨p, q, e2⟩ := penW (tab := tab) (n := n) (S := S') y
      have h01 : (env.set 1 (some (.p (.int (i : Int)))))[0]? = some (some (.scr ns)) := by rw [List.getElem?_set_ne (by decide)]; exact h0
      have h11 : (env.set 1 (some (.p (.int (i : Int)))))[1]? = some (some (.p (.int (i : Int)))) := by rw [List.getElem?_set_self (by omega)]
      obtain ⟨e', S'', g1, g2⟩ := hin ((env.set 1 (some (.p (.int (i : Int))))).set 2 (some (.mu S'.length))) (S' ++ [.lst [.int p, .int q, .int 0]]) S'.length
        ⟨by simp [hl], by rw [List.getElem?_set_ne (by decide)]; exact h01, by rw [List.getElem?_set_self (by simp; omega)], IsPen.new _ _ _⟩
      refine ⟨e', S'', .inl ?_, g2.len, g2.s0⟩
      rw [Int.zero_add]
      simp only [evSs, evS, evE, evEs, R.bind, R.obind, slotD, h01, h11, e1, e2, bindO, bindT]
      exact g1)
  have hfor : evS (CN tab (n + 1)) FUEL (.for (.nm 1) (.rng (manyE m)) (.cons (.asg (.nm 2) (.call 35 (.cons (.call 34 (.cons (.var 0) (.cons (.var 1) .nil))) .nil))) inner)) e0 [] = .next e3 S3 := by
    simp only [evS, evI, hz, R.bind, R.obind, sm, if_true]
    exact h3
  have hall : evSs (CN tab (n + 1)) FUEL (outerB m inner) e0 [] = .ret (.p (.bl true)) S3 := by
    unfold outerB
    rw [evSs_cons, hfor]
    simp [runF, evSs, evS, evE, evEs, evEo, evC, evI, R.bind, R.obind, slotD, pu, truth, bindO, bindT, setMany, leave, ty_beq, tyEq, isCI, yes]
  simp only [runF, List.length_singleton, if_true]
  rw [show (List.map some [D.scr ns] ++ List.replicate (N - 1) none) = e0 from rfl, hall]
  rfl
/-! ### canals drawn -/
def F_small : FD := { np := 1, nN := 2, keep := false, body := (.cons (.asg (.nm 1) (.lst (.cons (.tup (.cons (.lit (.int 1)) (.cons (.lit (.int 1)) (.cons (.lit (.int 1)) .nil)))) (.cons (.tup (.cons (.lit (.int 3)) (.cons (.lit (.int 2)) (.cons (.lit (.int 2)) .nil)))) (.cons (.tup (.cons (.lit (.int 2)) (.cons (.lit (.int 3)) (.cons (.lit (.int 2)) .nil)))) (.cons (.tup (.cons (.lit (.int 2)) (.cons (.lit (.int 2)) (.cons (.lit (.int 3)) .nil)))) (.cons (.tup (.cons (.lit (.int 4)) (.cons (.lit (.int 2)) (.cons (.lit (.int 1)) .nil)))) (.cons (.tup (.cons (.lit (.int 5)) (.cons (.lit (.int 1)) (.cons (.lit (.int 2)) .nil)))) (.cons (.tup (.cons (.lit (.int 1)) (.cons (.lit (.int 4)) (.cons (.lit (.int 3)) .nil)))) (.cons (.tup (.cons (.lit (.int 2)) (.cons (.lit (.int 0)) (.cons (.lit (.int 2)) .nil)))) (.cons (.tup (.cons (.lit (.int 3)) (.cons (.lit (.int 2)) (.cons (.lit (.int 0)) .nil)))) .nil))))))))))) (.cons (.ret (.call 37 (.cons (.var 0) (.cons (.var 1) .nil)))) .nil)) }
def smallL : List P := [can 1 1 1, can 3 2 2, can 2 3 2, can 2 2 3, can 4 2 1, can 5 1 2, can 1 4 3, can 2 0 2, can 3 2 0]
theorem small_ok {i : Nat} [hi : Has tab i F_small] [h36 : Has tab 36 f__law_draw] [h37 : Has tab 37 f__law_pick] (hp : IsPen S k) : ∃ l u d S', CN tab (n + 3) i [.mu k] S = .ok (.p (can l u d)) S' ∧ Sim k S S' ∧ Can l u d ∧ can l u d ∈ smallL := by
  obtain ⟨x, hx, S', e, sim⟩ := pickW (tab := tab) (n := n) hp (xs := smallL) (by decide) (by decide)
  have : ∃ l u d, x = can l u d ∧ Can l u d := by
    simp only [smallL, List.mem_cons, List.not_mem_nil, or_false] at hx
    rcases hx with rfl | rfl | rfl | rfl | rfl | rfl | rfl | rfl | rfl <;> exact ⟨_, _, _, rfl, by constructor <;> decide⟩
  obtain ⟨l, u, d, rfl, hc⟩ := this
  refine ⟨l, u, d, S', ?_, sim, hc, hx⟩
  rw [hi.eq]
  simp only [smallL, can] at e
  simp [F_small, runF, evSs, evS, evE, evEs, evEo, evC, evI, R.bind, R.obind, slotD, pu, truth, bindO, bindT, setMany, leave, ty_beq, tyEq, isCI, yes, allP, mkTup, e, sim.len, can, List.take_of_length_le]
theorem great_ok [h36 : Has tab 36 f__law_draw] [h37 : Has tab 37 f__law_pick] [h39 : Has tab 39 f__law_canal] [h116 : Has tab 116 f__law_great] (hp : IsPen S k) : ∃ l u d S', CN tab (n + 3) 116 [.mu k] S = .ok (.p (can l u d)) S' ∧ Sim k S S' ∧ Can l u d := by
  obtain ⟨l0, u0, d0, S1, e1, s1, q1, q2, q3, q4, q5, q6⟩ := canalW (tab := tab) (n := n) hp (l := 5) (b := 4) (by omega) (by omega) (by omega) (by omega)
  obtain ⟨x, hx, S', e, sim⟩ := pickW (tab := tab) (n := n) s1.pen (xs := [can 5 4 4, can 4 4 3, can 5 3 4, can 5 4 4, can l0 u0 d0]) (by simp) (by simp)
  have : ∃ l u d, x = can l u d ∧ Can l u d := by
    simp only [List.mem_cons, List.not_mem_nil, or_false] at hx
    rcases hx with rfl | rfl | rfl | rfl | rfl
    · exact ⟨_, _, _, rfl, by constructor <;> decide⟩
    · exact ⟨_, _, _, rfl, by constructor <;> decide⟩
    · exact ⟨_, _, _, rfl, by constructor <;> decide⟩
    · exact ⟨_, _, _, rfl, by constructor <;> decide⟩
    · exact ⟨_, _, _, rfl, q1, q2, q3, q4, q5, q6⟩
  obtain ⟨l, u, d, rfl, hc⟩ := this
  refine ⟨l, u, d, S', ?_, s1.trans sim, hc⟩
  rw [h116.eq]
  simp only [can] at e
  simp [f__law_great, runF, evSs, evS, evE, evEs, evEo, evC, evI, R.bind, R.obind, slotD, pu, truth, bindO, bindT, setMany, leave, ty_beq, tyEq, isCI, yes, allP, mkTup, e1, e, sim.len, s1.len, can, List.take_of_length_le]
/-! ### a list that grows at the end of the store -/
theorem grow_get {S : Sto} (ys : List P) : (S ++ [MO.lst ys])[S.length]? = some (.lst ys) := by rw [List.getElem?_append_right (Nat.le_refl _), Nat.sub_self]; rfl
theorem grow_mu {S : Sto} (ys : List P) : isMu (.mu S.length) (S ++ [.lst ys]) = true := by simp only [isMu, grow_get]
theorem grow_app {S : Sto} (ys : List P) (x : P) (h : ys.length < LIM) : mthop .append (.mu S.length) [.p x] (S ++ [.lst ys]) = .ok (.p .non) (S ++ [.lst (ys ++ [x])]) := by
  simp only [mthop, grow_get]; rw [if_pos h, set_last]
theorem loop_app {t : Tg} {stay : Sto → Bool} {body : Mx.Env → Sto → O} {S : Sto} {M : Nat} (J : Mx.Env → Prop) (f : D → List P) (hs : ∀ S, stay S = true) : ∀ (ds : List D) (env : Mx.Env) (xs : List P), J env → xs.length + (ds.map fun d => (f d).length).sum ≤ M →
    (∀ d ∈ ds, ∀ env (xs : List P), J env → xs.length + (f d).length ≤ M → ∃ env1, bindT t d env = some env1 ∧ ∃ e', body env1 (S ++ [.lst xs]) = .next e' (S ++ [.lst (xs ++ f d)]) ∧ J e') →
    ∃ e', loopF t stay body ds env (S ++ [.lst xs]) = .next e' (S ++ [.lst (xs ++ ds.flatMap f)]) ∧ J e'
  | [], env, xs, hJ, _, _ => ⟨env, by simp [loopF, hs], hJ⟩
  | d :: ds, env, xs, hJ, hl, h => by
    simp only [List.map_cons, List.sum_cons] at hl
    obtain ⟨env1, hb, e', he, hJ'⟩ := h d List.mem_cons_self env xs hJ (by omega)
    obtain ⟨e2, h2, hJ2⟩ := loop_app J f hs ds e' (xs ++ f d) hJ' (by rw [List.length_append]; omega) fun a ha => h a (List.mem_cons_of_mem _ ha)
    refine ⟨e2, ?_, hJ2⟩
    unfold loopF
    rw [if_pos (hs _), hb]
    simp only [he, h2, List.flatMap_cons, List.append_assoc]
theorem sumc {α : Type} (c : Nat) : ∀ xs : List α, (xs.map fun _ => c).sum = xs.length * c
  | [] => by simp
  | x :: r => by simp only [List.map_cons, List.sum_cons, sumc c r, List.length_cons, Nat.add_mul]; omega
/-! ### slices -/
theorem cut_to {α : Type} (xs : List α) (i : Nat) : cutG xs none (some (i : Int)) = xs.take i := by
  unfold cutG
  have h1 : HT.sIx xs.length 0 none = 0 := rfl
  have h2 : HT.sIx xs.length xs.length (some (i : Int)) = min i xs.length := by
    have : ¬ ((i : Int) < 0) := by omega
    simp [HT.sIx, this]
  rw [h1, h2, List.drop_zero, Nat.sub_zero]
  rcases Nat.le_total i xs.length with h | h
  · rw [Nat.min_eq_left h]
  · rw [Nat.min_eq_right h, List.take_length, List.take_of_length_le h]
theorem cut_from {α : Type} (xs : List α) (i : Nat) : cutG xs (some (i : Int)) none = xs.drop i := by
  unfold cutG
  have h1 : HT.sIx xs.length 0 (some (i : Int)) = min i xs.length := by
    have : ¬ ((i : Int) < 0) := by omega
    simp [HT.sIx, this]
  have h2 : HT.sIx xs.length xs.length none = xs.length := rfl
  rw [h1, h2]
  rcases Nat.le_total i xs.length with h | h
  · rw [Nat.min_eq_left h, List.take_of_length_le (by rw [List.length_drop]; exact Nat.le_refl _)]
  · rw [Nat.min_eq_right h, List.drop_length, List.drop_eq_nil_of_le h]; simp
theorem cut_from1 {α : Type} (xs : List α) (i : Nat) : cutG xs (some ((i : Int) + 1)) none = xs.drop (i + 1) := cut_from xs (i + 1)
/-! ### comprehensions of more clauses -/
theorem compL_flat {stay : Sto → Bool} {turn : D → List P → Sto → R (List P)} {S : Sto} (f : D → List P) (hs : stay S = true) : ∀ (ds : List D) (acc : List P), acc.length + (ds.map fun d => (f d).length).sum ≤ LIM →
    (∀ d ∈ ds, ∀ acc : List P, acc.length + (f d).length ≤ LIM → turn d acc S = .ok (acc ++ f d) S) → compL stay turn ds acc S = .ok (acc ++ ds.flatMap f) S
  | [], acc, _, _ => by simp [compL, hs]
  | d :: ds, acc, hl, h => by
    simp only [List.map_cons, List.sum_cons] at hl
    unfold compL
    rw [if_pos hs, h d List.mem_cons_self acc (by omega)]
    show compL stay turn ds (acc ++ f d) S = _
    rw [compL_flat f hs ds (acc ++ f d) (by simp only [List.length_append]; omega) fun e he => h e (List.mem_cons_of_mem _ he)]
    simp
theorem comp3_pure {C : Nat → List D → Sto → R D} {own own1 own2 : List Nat} {t t1 t2 : Tg} {src src1 src2 : Src} {elt : E} {env : Mx.Env} {S : Sto} {ds : List D} {stay : Sto → Bool} (ds1 : D → List D) (ds2 : D → D → List D) (g : D → D → D → P) (h : evI C src env S = .ok ⟨ds, stay⟩ S) (hs : stay S = true)
    (hl : (ds.map fun a => ((ds1 a).map fun b => (ds2 a b).length).sum).sum ≤ LIM)
    (he : ∀ a ∈ ds, ∃ env1 stay1, bindT t a (wipeE env own) = some env1 ∧ evI C src1 env1 S = .ok ⟨ds1 a, stay1⟩ S ∧ stay1 S = true ∧ ∀ b ∈ ds1 a, ∃ env2 stay2, bindT t1 b (wipeE env1 own1) = some env2 ∧ evI C src2 env2 S = .ok ⟨ds2 a b, stay2⟩ S ∧ stay2 S = true ∧
      ∀ c ∈ ds2 a b, ∃ env3, bindT t2 c (wipeE env2 own2) = some env3 ∧ evE C elt env3 S = .ok (.p (g a b c)) S) :
    evE C (.comp3 own own1 own2 t src t1 src1 t2 src2 elt) env S = .ok (.p (.lst (ds.flatMap fun a => (ds1 a).flatMap fun b => (ds2 a b).map (g a b)))) S := by
  have len1 : ∀ a, ((ds1 a).flatMap fun b => (ds2 a b).map (g a b)).length = ((ds1 a).map fun b => (ds2 a b).length).sum := fun a => by simp [List.length_flatMap]
  simp only [evE, h]
  show listed (compL _ _ _ _ _) = _
  rw [compL_flat (fun a => (ds1 a).flatMap fun b => (ds2 a b).map (g a b)) hs ds [] (by simpa [len1] using hl)]
  · rfl
  intro a ha acc hacc
  rw [len1] at hacc
  obtain ⟨env1, stay1, e1, e2, e3, e4⟩ := he a ha
  simp only [turnC, e1, yes, R.bind, if_true]
  show (evI C src1 env1 S).bind _ = _
  rw [e2]
  show compL _ _ _ _ _ = _
  refine compL_flat (fun b => (ds2 a b).map (g a b)) e3 (ds1 a) acc (by simpa using hacc) fun b hb acc2 hacc2 => ?_
  obtain ⟨env2, stay2, f1, f2, f3, f4⟩ := e4 b hb
  simp only [turnC, f1, yes, R.bind, if_true]
  show (evI C src2 env2 S).bind _ = _
  rw [f2]
  show compL _ _ _ _ _ = _
  refine compL_map (g a b) f3 (ds2 a b) acc2 (by simpa using hacc2) fun c hc acc3 hacc3 => ?_
  obtain ⟨env3, g1, g2⟩ := f4 c hc
  simp [turnC, g1, yes, R.bind, oneMore, g2, hacc3]
/-! ### one meeting otherwise -/
def chg (t : List (List Int)) (i j : Nat) (x : Int) : List (List Int) := t.take i ++ [(t.getD i []).take j ++ [x] ++ (t.getD i []).drop (j + 1)] ++ t.drop (i + 1)
theorem chg_len {t : List (List Int)} {i j : Nat} {x : Int} (h : i < t.length) : (chg t i j x).length = t.length := by
  simp [chg]; omega
theorem chg_rows {t : List (List Int)} {i j : Nat} {x : Int} {p : List Int → Prop} (ht : ∀ r ∈ t, p r) (hx : p ((t.getD i []).take j ++ [x] ++ (t.getD i []).drop (j + 1))) : ∀ r ∈ chg t i j x, p r := by
  intro r hr
  simp only [chg, List.mem_append, List.mem_singleton] at hr
  rcases hr with (hr | hr) | hr
  · exact ht r (List.mem_of_mem_take hr)
  · rw [hr]; exact hx
  · exact ht r (List.mem_of_mem_drop hr)
theorem rows_bd {t : List (List Int)} (hl : t.length ≤ 4) (hr : ∀ r ∈ t, r.length ≤ 4 ∧ ∀ i ∈ r, -10 ≤ i ∧ i ≤ 10) : Bd 2200 2 (rowsI t) := by
  have h1 : ∀ r ∈ t, Bd 540 1 (rowI r) := fun r hr' => by
    obtain ⟨h2, h3⟩ := hr r hr'
    have := (BdL.many (w := 134) (d := 0) (xs := r.map .int) fun x hx => by
      obtain ⟨i, hi, rfl⟩ := List.mem_map.mp hx
      have := h3 i hi
      exact Bd.int (by omega) (by omega)).tup
    rw [List.length_map] at this
    exact this.mono (by omega) (by omega)
  have := (BdL.many (w := 540) (d := 1) (xs := t.map rowI) fun x hx => by
    obtain ⟨r, hr', rfl⟩ := List.mem_map.mp hx
    exact h1 r hr').tup
  rw [List.length_map] at this
  exact this.mono (by omega) (by omega)
theorem getD_row {t : List (List Int)} {i : Nat} (h : i < t.length) : t.getD i [] = t[i] := by simp [h]
theorem chg_bd {t : List (List Int)} (ht : Tab l u d t) (h : Can l u d) {i j : Nat} {x : Int} (hi : i < t.length) (hj : (j : Int) < d) (hx : -10 ≤ x ∧ x ≤ 10) : Bd 2200 2 (rowsI (chg t i j x)) := by
  have hu := h.u2
  have hl := ht.len
  refine rows_bd (by rw [chg_len hi]; omega) (chg_rows (fun r hr => ?_) ?_)
  · have h1 := (ht.rows r hr).len
    have h2 := h.d2
    have h3 := h.l2
    exact ⟨by omega, fun i hi => by have := (ht.rows r hr).bd i hi; omega⟩
  · have hr := ht.rows t[i] (List.getElem_mem hi)
    have h1 := hr.len
    have h2 := h.d2
    have h3 := h.l2
    rw [getD_row hi]
    refine ⟨by simp; omega, fun y hy => ?_⟩
    simp only [List.mem_append, List.mem_singleton] at hy
    rcases hy with (hy | rfl) | hy
    · have := hr.bd y (List.mem_of_mem_take hy); omega
    · exact hx
    · have := hr.bd y (List.mem_of_mem_drop hy); omega
theorem cell_get {t : List (List Int)} {i j : Nat} (hi : i < t.length) (hj : j < t[i].length) : (t.getD i []).getD j 0 = t[i][j] := by simp [hi, hj]
theorem changed_ok [h119 : Has tab 119 f_changed] {t : List (List Int)} {i j : Nat} {x : Int} (hi : i < t.length) (hj : j < t[i].length) (h1 : t.length ≤ 300) (h2 : t[i].length ≤ 300) :
    CN tab (n + 1) 119 [.p (rowsI t), .p (.int i), .p (.int j), .p (.int x)] S = .ok (.p (rowsI (chg t i j (t[i][j] + x)))) S := by
  rw [h119.eq]
  have e1 := index_rows (S := S) hi
  have e2 := index_row (S := S) hj
  have z1 : ((t[i].take j).length + 1 ≤ LIM) := by unfold LIM; simp; omega
  have z2 : ((t[i].take j).length + 1 + (t[i].drop (j + 1)).length ≤ LIM) := by unfold LIM; simp; omega
  have z3 : ((t.take i).length + 1 ≤ LIM) := by unfold LIM; simp; omega
  have z4 : ((t.take i).length + 1 + (t.drop (i + 1)).length ≤ LIM) := by unfold LIM; simp; omega
  have e3 : rowsI (chg t i j (t[i][j] + x)) = .tup ((t.map rowI).take i ++ [.tup ((t[i].map P.int).take j ++ [.int (t[i][j] + x)] ++ (t[i].map P.int).drop (j + 1))] ++ (t.map rowI).drop (i + 1)) := by
    simp [chg, rowsI, rowI, hi]
  rw [e3]
  have z1 : ((t[i].map P.int).take j).length + 1 ≤ LIM := by unfold LIM; simp; omega
  have z2 : ((t[i].map P.int).take j ++ [P.int (t[i][j] + x)]).length + ((t[i].map P.int).drop (j + 1)).length ≤ LIM := by unfold LIM; simp; omega
  have z3 : ((t.map rowI).take i).length + 1 ≤ LIM := by unfold LIM; simp; omega
  have z4 : ∀ y : P, ((t.map rowI).take i ++ [y]).length + ((t.map rowI).drop (i + 1)).length ≤ LIM := fun y => by unfold LIM; simp; omega
  have s1 : slice (.p (rowI t[i])) none (some (j : Int)) S = some (.tup ((t[i].map P.int).take j)) := by simp only [slice, rowI, cut_to]
  have s2 : slice (.p (rowI t[i])) (some ((j : Int) + 1)) none S = some (.tup ((t[i].map P.int).drop (j + 1))) := by simp only [slice, rowI, cut_from1]
  have s3 : slice (.p (rowsI t)) none (some (i : Int)) S = some (.tup ((t.map rowI).take i)) := by simp only [slice, rowsI, cut_to]
  have s4 : slice (.p (rowsI t)) (some ((i : Int) + 1)) none S = some (.tup ((t.map rowI).drop (i + 1))) := by simp only [slice, rowsI, cut_from1]
  have a1 : binop .add (.p (.tup ((t[i].map P.int).take j))) (.p (.tup [.int (t[i][j] + x)])) S = some (.tup ((t[i].map P.int).take j ++ [.int (t[i][j] + x)])) := by simp only [binop, List.length_singleton, z1, if_true]
  have a2 : binop .add (.p (.tup ((t[i].map P.int).take j ++ [.int (t[i][j] + x)]))) (.p (.tup ((t[i].map P.int).drop (j + 1)))) S = some (.tup ((t[i].map P.int).take j ++ [.int (t[i][j] + x)] ++ (t[i].map P.int).drop (j + 1))) := by simp only [binop, z2, if_true]
  have a3 : ∀ y, binop .add (.p (.tup ((t.map rowI).take i))) (.p (.tup [y])) S = some (.tup ((t.map rowI).take i ++ [y])) := fun y => by simp only [binop, List.length_singleton, z3, if_true]
  have a4 : ∀ y, binop .add (.p (.tup ((t.map rowI).take i ++ [y]))) (.p (.tup ((t.map rowI).drop (i + 1)))) S = some (.tup ((t.map rowI).take i ++ [y] ++ (t.map rowI).drop (i + 1))) := fun y => by simp only [binop, z4, if_true]
  have a0 : binop .add (.p (.int t[i][j])) (.p (.int x)) S = some (.int (t[i][j] + x)) := rfl
  have a00 : binop .add (.p (.int (j : Int))) (.p (.int 1)) S = some (.int ((j : Int) + 1)) := rfl
  have a01 : binop .add (.p (.int (i : Int))) (.p (.int 1)) S = some (.int ((i : Int) + 1)) := rfl
  simp only [f_changed, runF, evSs, evS, evE, evEs, evEo, evC, evI, R.bind, R.obind, slotD, pu, truth, bindO, bindT, setMany, leave, ty_beq, tyEq, isCI, yes, e1, e2, s1, s2, s3, s4, a1, a2, a3, a4, a0, a00, a01, mkTup, allP, Option.map_some, List.map_cons, List.map_nil, List.length_cons, List.length_nil, List.cons_append, List.nil_append, List.replicate_succ, List.replicate_zero, List.getElem?_cons_zero, List.getElem?_cons_succ, List.set_cons_zero, List.set_cons_succ, Nat.reduceAdd, Nat.reduceSub, if_true, Bool.false_eq_true, if_false, List.take_of_length_le (Nat.le_refl _)]
/-! ### tables one off -/
def nearL (t : List (List Int)) (m p : Nat) : List (List (List Int)) := (List.range m).flatMap fun i => (List.range p).flatMap fun j => [chg t i j ((t.getD i []).getD j 0 - 1), chg t i j ((t.getD i []).getD j 0 + 1)]
def nearP (l u d : Int) (t : List (List Int)) : List P := ((nearL t u.toNat d.toNat).map rowsI).filter (tabB l u d)
def natD : D → Nat
  | .p (.int i) => i.toNat
  | _ => 0
theorem near_mem {t : List (List Int)} (ht : Tab l u d t) (h : Can l u d) {s : List (List Int)} (hs : s ∈ nearL t u.toNat d.toNat) : Bd 2200 2 (rowsI s) ∧ 0 < u ∧ s.length = t.length := by
  simp only [nearL, List.mem_flatMap, List.mem_range, List.mem_cons, List.not_mem_nil, or_false] at hs
  obtain ⟨i, hi, j, hj, hs⟩ := hs
  have hl := ht.len
  have hi' : i < t.length := by omega
  have hr := ht.rows t[i] (List.getElem_mem hi')
  have hrl := hr.len
  have hjd : (j : Int) < d := by omega
  have hj' : j < t[i].length := by omega
  have hb := hr.bd t[i][j] (List.getElem_mem hj')
  have hc := cell_get hi' hj'
  have h2 := h.l2
  rcases hs with rfl | rfl
  · exact ⟨chg_bd ht h hi' hjd (by rw [hc]; omega), by omega, chg_len hi'⟩
  · exact ⟨chg_bd ht h hi' hjd (by rw [hc]; omega), by omega, chg_len hi'⟩
theorem nearL_len (t : List (List Int)) (m p : Nat) : (nearL t m p).length = m * (p * 2) := by
  simp only [nearL, List.length_flatMap, List.length_cons, List.length_nil, sumc, List.length_range]
theorem nearP_len {t : List (List Int)} (h : Can l u d) : (nearP l u d t).length ≤ 32 := by
  refine Nat.le_trans (List.length_filter_le ..) ?_
  rw [List.length_map, nearL_len]
  have h1 : u.toNat ≤ 4 := by have := h.u2; omega
  have h2 : d.toNat * 2 ≤ 8 := by have := h.d2; omega
  exact Nat.le_trans (Nat.mul_le_mul h1 h2) (by decide)
theorem nearP_tab {t : List (List Int)} {x : P} (hx : x ∈ nearP l u d t) : ∃ s, x = rowsI s ∧ Tab l u d s := Tab.of (List.mem_filter.mp hx).2
theorem nearP_pos {t : List (List Int)} (ht : Tab l u d t) (h : Can l u d) {x : P} (hx : x ∈ nearP l u d t) : 0 < u := by
  obtain ⟨s, hs, _⟩ := List.mem_map.mp (List.mem_filter.mp hx).1
  exact (near_mem ht h hs).2.1
theorem like_ints : ∀ a b : List Int, likePL (a.map P.int) (b.map P.int) = true
  | [], _ => by simp [likePL]
  | _ :: _, [] => by simp [likePL]
  | x :: a, y :: b => by simp [likePL, likeP, like_ints a b]
theorem like_rows : ∀ a b : List (List Int), likePL (a.map rowI) (b.map rowI) = true
  | [], _ => by simp [likePL]
  | _ :: _, [] => by simp [likePL]
  | x :: a, y :: b => by simp [likePL, rowI, likeP, like_ints x y, like_rows a b]
theorem noBox_ints : ∀ a : List Int, noBoxL (a.map P.int) = true
  | [] => rfl
  | x :: a => by simp [noBoxL, noBox, noBox_ints a]
theorem noBox_rows : ∀ a : List (List Int), noBoxL (a.map rowI) = true
  | [] => rfl
  | x :: a => by simp [noBoxL, rowI, noBox, noBox_ints x, noBox_rows a]
theorem rows_dep (t : List (List Int)) : (rowsI t).dep ≤ 2 := by
  have key : ∀ t : List (List Int), depL (t.map rowI) ≤ 1 := by
    intro t
    induction t with
    | nil => simp [depL]
    | cons r t ih => simp only [List.map_cons, depL, rowI, P.dep, dep_int]; omega
  have := key t
  simp only [rowsI, P.dep]; omega
/-- tables may be put in order -/
theorem sortOk_tabs {xs : List P} (hu : xs ≠ [] → 0 < u) (h : ∀ x ∈ xs, ∃ s, x = rowsI s ∧ Tab l u d s) (hl : xs.length ≤ LIM) : sortOk xs = true := by
  simp only [sortOk, Bool.and_eq_true, decide_eq_true_eq, Bool.or_eq_true, List.all_eq_true]
  refine ⟨⟨⟨fun a ha b hb => ?_, .inl fun a ha => ?_⟩, fun a ha => ?_⟩, hl⟩
  · obtain ⟨s, rfl, _⟩ := h a ha
    obtain ⟨s', rfl, _⟩ := h b hb
    simp [rowsI, likeP, like_rows]
  · obtain ⟨s, rfl, hs⟩ := h a ha
    have := hu (List.ne_nil_of_mem ha)
    have := hs.len
    cases s with
    | nil => simp at this; omega
    | cons r s => simp [rowsI, isTupN]
  · obtain ⟨s, rfl, hs⟩ := h a ha
    exact ⟨by simp [rowsI, noBox, noBox_rows], Nat.le_trans (rows_dep s) (by decide)⟩
def cmpQ : E := .comp3 [6, 7, 8] [7, 8] [8] (.nm 6) (.rng (.var 4)) (.nm 7) (.rng (.var 5)) (.nm 8) (.of (.tup (.cons (.neg (.lit (.int 1))) (.cons (.lit (.int 1)) .nil)))) (.call 119 (.cons (.var 1) (.cons (.var 6) (.cons (.var 7) (.cons (.var 8) .nil)))))
def cmpR : E := .comp [9] (.nm 9) (.of (.var 2)) (.some (.call 63 (.cons (.var 0) (.cons (.var 9) .nil)))) (.var 9)
theorem near_cut : f_near_tables = { np := 2, nN := 10, keep := false, body := (.cons (.asg (.tp [3, 4, 5]) (.var 0)) (.cons (.asg (.nm 2) cmpQ) (.cons (.ret (.blt .sorted (.cons cmpR .nil))) .nil))) } := rfl
theorem small_u (h : Can l u d) : small62 u = true := by
  have := h.u1; have := h.u2; unfold small62; simp only [Bool.and_eq_true, decide_eq_true_eq]; omega
theorem small_d (h : Can l u d) : small62 d = true := by
  have := h.d1; have := h.d2; unfold small62; simp only [Bool.and_eq_true, decide_eq_true_eq]; omega
theorem small_l (h : Can l u d) : small62 l = true := by
  have := h.l1; have := h.l2; unfold small62; simp only [Bool.and_eq_true, decide_eq_true_eq]; omega
theorem near_all [h119 : Has tab 119 f_changed] {t : List (List Int)} (ht : Tab l u d t) (h : Can l u d) {x2 x6 x7 x8 x9 : Option D} :
    evE (CN tab (n + 1)) cmpQ [some (.p (can l u d)), some (.p (rowsI t)), x2, some (.p (.int l)), some (.p (.int u)), some (.p (.int d)), x6, x7, x8, x9] S = .ok (.p (.lst ((nearL t u.toNat d.toNat).map rowsI))) S := by
  have su := small_u h
  have sd := small_d h
  have := comp3_pure (C := CN tab (n + 1)) (own := [6, 7, 8]) (own1 := [7, 8]) (own2 := [8]) (t := .nm 6) (t1 := .nm 7) (t2 := .nm 8) (src := .rng (.var 4)) (src1 := .rng (.var 5)) (src2 := .of (.tup (.cons (.neg (.lit (.int 1))) (.cons (.lit (.int 1)) .nil))))
    (elt := .call 119 (.cons (.var 1) (.cons (.var 6) (.cons (.var 7) (.cons (.var 8) .nil))))) (env := [some (.p (can l u d)), some (.p (rowsI t)), x2, some (.p (.int l)), some (.p (.int u)), some (.p (.int d)), x6, x7, x8, x9]) (S := S)
    (ds := rangeD 0 u.toNat) (stay := fun _ => true) (fun _ => rangeD 0 d.toNat) (fun _ _ => [.p (.int (-1)), .p (.int 1)]) (fun a b c => match c with | .p (.int x) => rowsI (chg t (natD a) (natD b) ((t.getD (natD a) []).getD (natD b) 0 + x)) | _ => .non)
    (by simp [runF, evSs, evS, evE, evEs, evEo, evC, evI, R.bind, R.obind, slotD, pu, truth, bindO, bindT, setMany, leave, ty_beq, tyEq, isCI, yes, su]) rfl
    (by
      have h1 : u.toNat ≤ 4 := by have := h.u2; omega
      have h2 : d.toNat * 2 ≤ 8 := by have := h.d2; omega
      have := Nat.mul_le_mul h1 h2
      simp only [List.length_cons, List.length_nil, sumc, rangeD, List.length_map, List.length_range, Nat.zero_add, Nat.reduceAdd]
      unfold LIM
      omega)
    fun a ha => by
      obtain ⟨i, hi⟩ := List.getElem?_of_mem ha
      obtain ⟨rfl, hiu⟩ := range_get hi
      refine ⟨_, _, rfl, by simp [wipeE, runF, evSs, evS, evE, evEs, evEo, evC, evI, R.bind, R.obind, slotD, pu, truth, bindO, bindT, setMany, leave, ty_beq, tyEq, isCI, yes, sd]; rfl, rfl, fun b hb => ?_⟩
      obtain ⟨j, hj⟩ := List.getElem?_of_mem hb
      obtain ⟨rfl, hjd⟩ := range_get hj
      refine ⟨_, _, rfl, by simp [wipeE, runF, evSs, evS, evE, evEs, evEo, evC, evI, R.bind, R.obind, slotD, pu, truth, bindO, bindT, setMany, leave, ty_beq, tyEq, isCI, yes, mkTup, allP, items]; rfl, rfl, fun c hc => ?_⟩
      have hl := ht.len
      have hi' : i < t.length := by omega
      have hrl := (ht.rows t[i] (List.getElem_mem hi')).len
      have hj' : j < t[i].length := by omega
      have hu2 := h.u2
      have hd2 := h.d2
      have ec := fun x => changed_ok (tab := tab) (n := n) (S := S) (x := x) hi' hj' (by omega) (by omega)
      have hc' := cell_get hi' hj'
      simp only [List.mem_cons, List.not_mem_nil, or_false] at hc
      rcases hc with rfl | rfl
      · refine ⟨_, rfl, ?_⟩
        simp only [wipeE, runF, evSs, evS, evE, evEs, evEo, evC, evI, R.bind, R.obind, slotD, pu, truth, bindO, bindT, setMany, leave, ty_beq, tyEq, isCI, yes, List.set_cons_zero, List.set_cons_succ, List.getElem?_cons_zero, List.getElem?_cons_succ, Int.zero_add, natD, Int.toNat_natCast, ec, hc']
      · refine ⟨_, rfl, ?_⟩
        simp only [wipeE, runF, evSs, evS, evE, evEs, evEo, evC, evI, R.bind, R.obind, slotD, pu, truth, bindO, bindT, setMany, leave, ty_beq, tyEq, isCI, yes, List.set_cons_zero, List.set_cons_succ, List.getElem?_cons_zero, List.getElem?_cons_succ, Int.zero_add, natD, Int.toNat_natCast, ec, hc']
  unfold cmpQ
  rw [this]
  congr 3
  simp only [rangeD, nearL, List.flatMap_map, List.map_flatMap, natD, Int.zero_add, Int.toNat_natCast, List.map_cons, List.map_nil, Int.sub_eq_add_neg]
theorem near_ok [h30 : Has tab 30 f_is_whole] [h31 : Has tab 31 f_is_between] [h32 : Has tab 32 f_has_parts] [h33 : Has tab 33 f_is_canal] {rs42 : St'} [h42 : Has tab 42 (f_need_canal rs42)] [h63 : Has tab 63 f_is_table] [h64 : Has tab 64 f_has_shape] [h65 : Has tab 65 f_is_stepped] [h118 : Has tab 118 f_near_tables] [h119 : Has tab 119 f_changed] {t : List (List Int)} (ht : Tab l u d t) (h : Can l u d) : CN tab (n + 6) 118 [.p (can l u d), .p (rowsI t)] S = .ok (.p (.lst (srtP (nearP l u d t)))) S := by
  rw [h118.eq, near_cut]
  have e1 := near_all (tab := tab) (n := n + 4) (S := S) ht h (x2 := none) (x6 := none) (x7 := none) (x8 := none) (x9 := none)
  have e2 : evE (CN tab (n + 5)) cmpR [some (.p (can l u d)), some (.p (rowsI t)), some (.p (.lst ((nearL t u.toNat d.toNat).map rowsI))), some (.p (.int l)), some (.p (.int u)), some (.p (.int d)), none, none, none, none] S = .ok (.p (.lst (nearP l u d t))) S := by
    have := comp_if (C := CN tab (n + 5)) (own := [9]) (t := .nm 9) (src := .of (.var 2)) (tst := .call 63 (.cons (.var 0) (.cons (.var 9) .nil))) (elt := .var 9) (env := [some (.p (can l u d)), some (.p (rowsI t)), some (.p (.lst ((nearL t u.toNat d.toNat).map rowsI))), some (.p (.int l)), some (.p (.int u)), some (.p (.int d)), none, none, none, none]) (S := S)
      (ds := ((nearL t u.toNat d.toNat).map rowsI).map .p) (stay := still (.p (.lst ((nearL t u.toNat d.toNat).map rowsI))) S) (fun e => match e with | .p x => tabB l u d x | _ => false) (fun e => match e with | .p x => x | _ => .non) (by simp [runF, evSs, evS, evE, evEs, evEo, evC, evI, R.bind, R.obind, slotD, pu, truth, bindO, bindT, setMany, leave, ty_beq, tyEq, isCI, yes, items]) rfl
      (by
        have h1 : u.toNat ≤ 4 := by have := h.u2; omega
        have h2 : d.toNat * 2 ≤ 8 := by have := h.d2; omega
        have := Nat.mul_le_mul h1 h2
        rw [List.length_map, List.length_map, nearL_len]
        unfold LIM; omega)
      fun e he => by
        obtain ⟨x, hx, rfl⟩ := List.mem_map.mp he
        obtain ⟨s, hs, rfl⟩ := List.mem_map.mp hx
        have := is_table_ok (tab := tab) (n := n) (S := S) (near_mem ht h hs).1 (by unfold LIM; omega) h
        refine ⟨_, rfl, ?_, fun _ => ?_⟩
        · simp [wipeE, runF, evSs, evS, evE, evEs, evEo, evC, evI, R.bind, R.obind, slotD, pu, truth, bindO, bindT, setMany, leave, ty_beq, tyEq, isCI, yes, this]
        · simp [wipeE, runF, evSs, evS, evE, evEs, evEo, evC, evI, R.bind, R.obind, slotD, pu, truth, bindO, bindT, setMany, leave, ty_beq, tyEq, isCI, yes]
    unfold cmpR
    rw [this, List.filter_map, List.map_map]
    congr 3
    simp only [Function.comp_def, nearP, List.map_id']
  have so : sortOk (nearP l u d t) = true := sortOk_tabs (l := l) (u := u) (d := d) (fun hne => by
    obtain ⟨x, hx⟩ := List.exists_mem_of_ne_nil _ hne
    exact nearP_pos ht h hx) (fun x hx => nearP_tab hx) (by have := nearP_len (t := t) h; unfold LIM; omega)
  simp [runF, evSs, evS, evE, evEs, evEo, evC, evI, R.bind, R.obind, slotD, pu, truth, bindO, bindT, setMany, leave, ty_beq, tyEq, isCI, yes, can] at e1 e2 ⊢
  rw [e1]
  simp [e2, bltop, asSeq, asList, so, List.take_of_length_le]
theorem one_off_ok [h30 : Has tab 30 f_is_whole] [h31 : Has tab 31 f_is_between] [h32 : Has tab 32 f_has_parts] [h33 : Has tab 33 f_is_canal] {rs42 : St'} [h42 : Has tab 42 (f_need_canal rs42)] [h63 : Has tab 63 f_is_table] [h64 : Has tab 64 f_has_shape] [h65 : Has tab 65 f_is_stepped] {rs72 : St'} [h72 : Has tab 72 (f_need_table rs72)] [h117 : Has tab 117 f_one_off] [h118 : Has tab 118 f_near_tables] [h119 : Has tab 119 f_changed] {t : List (List Int)} (ht : Tab l u d t) (h : Can l u d) : CN tab (n + 7) 117 [.p (can l u d), .p (rowsI t)] S = .ok (.p (.tup (srtP (nearP l u d t)))) S := by
  rw [h117.eq]
  have e1 := ht.need (tab := tab) (n := n) (S := S) h (ht.bd h) (by unfold LIM; omega)
  have e2 := near_ok (tab := tab) (n := n) (S := S) ht h
  simp [f_one_off, runF, evSs, evS, evE, evEs, evEo, evC, evI, R.bind, R.obind, slotD, pu, truth, bindO, bindT, setMany, leave, ty_beq, tyEq, isCI, yes, e1, e2, bltop, asList, List.take_of_length_le]
theorem nearS_bd {t : List (List Int)} (ht : Tab l u d t) (h : Can l u d) : Bd 70432 3 (.tup (srtP (nearP l u d t))) := by
  have := (BdL.many (w := 2200) (d := 2) (xs := srtP (nearP l u d t)) fun x hx => by
    rw [mem_srtP] at hx
    obtain ⟨s, hs, rfl⟩ := List.mem_map.mp (List.mem_filter.mp hx).1
    exact (near_mem ht h hs).1).tup
  rw [len_srtP] at this
  have h2 := nearP_len (t := t) h
  exact this.mono (by omega) (by omega)
end Mx
end

section
set_option Elab.async false
set_option linter.all false
set_option maxRecDepth 100000
set_option autoImplicit false
set_option maxHeartbeats 4000000
namespace Mx
open PySem L2
variable {tab : Nat → Option FD} {n : Nat} {S : Sto} {k : Nat} {l u d : Int}
theorem len14 {α : Type} {e : List α} (h : e.length = 14) : ∃ a0 a1 a2 a3 a4 a5 a6 a7 a8 a9 a10 a11 a12 a13, e = [a0, a1, a2, a3, a4, a5, a6, a7, a8, a9, a10, a11, a12, a13] := by
  match e, h with
  | [a0, a1, a2, a3, a4, a5, a6, a7, a8, a9, a10, a11, a12, a13], _ => exact ⟨_, _, _, _, _, _, _, _, _, _, _, _, _, _, rfl⟩
theorem pairs_same' {α : Type} (f g : α → D) : ∀ xs : List α, pairs (xs.map f) (xs.map g) = xs.map fun a => D.tup [f a, g a]
  | [] => rfl
  | x :: r => by simp [pairs, pairs_same' f g r]
/-! ### the outer loop over cells -/
def cellsE (m : Int) : E := .bin .add (.lst (.cons (.call 34 (.cons (.var 0) (.cons (.lit (.int 0)) .nil))) .nil)) (.slc (.var 0) (.some (.lit (.int 1))) (.some (.lit (.int m))))
def outerC (m : Int) (inner : Sts) : Sts := (.cons (.for (.nm 1) (.of (cellsE m)) (.cons (.asg (.nm 2) (.call 35 (.cons (.var 1) .nil))) inner)) (.cons (.ret (.lit (.bl true))) .nil))
theorem cutG_map {α β : Type} (f : α → β) (xs : List α) (a b : Option Int) : cutG (xs.map f) a b = (cutG xs a b).map f := by
  unfold cutG
  rw [List.length_map, List.map_take, List.map_drop]
theorem cutG_len {α : Type} (xs : List α) (a b : Option Int) : (cutG xs a b).length ≤ xs.length := by
  unfold cutG
  rw [List.length_take, List.length_drop]
  omega
theorem cells_ok [h34 : Has tab 34 f__law_cell_at] {ns : List Int} (hl : ns.length ≤ 63) (m : Int) {env : Mx.Env} (h0 : env[0]? = some (some (.scr ns))) : ∃ zs : List Int, evE (CN tab (n + 1)) (cellsE m) env S = .ok (.p (.lst (zs.map .int))) S := by
  obtain ⟨z, e1⟩ := cellW (tab := tab) (n := n) (S := S) ns 0
  refine ⟨z :: cutG ns (some 1) (some m), ?_⟩
  have h1 := cutG_len ns (some 1) (some m)
  have e1' : CN tab (n + 1) 34 [.scr ns, .p (.int 0)] S = .ok (.p (.int z)) S := e1
  have hh : 1 + (cutG ns (some 1) (some m)).length ≤ LIM := by unfold LIM; omega
  simp [cellsE, runF, evSs, evS, evE, evEs, evEo, evC, evI, R.bind, R.obind, slotD, pu, truth, bindO, bindT, setMany, leave, ty_beq, tyEq, isCI, yes, h0, e1', allP, slice, cutG_map, binop, asList, hh]
theorem outerC_ok [h34 : Has tab 34 f__law_cell_at] [h35 : Has tab 35 f__law_pen] {N : Nat} {inner : Sts} {m : Int} (hN : 3 ≤ N) (hlaw : tab 0 = some { np := 1, nN := N, keep := false, body := outerC m inner }) {ns : List Int} (hlen : ns.length ≤ 63)
    (hin : ∀ env S k, Base N ns k env S → ∃ e' S', evSs (CN tab (n + 1)) FUEL inner env S = .next e' S' ∧ Base N ns k e' S') : CN tab (n + 2) 0 [.scr ns] [] = .ok (.p (.bl true)) [] := by
  have he : CN tab (n + 2) 0 [.scr ns] [] = runF (CN tab (n + 1)) FUEL { np := 1, nN := N, keep := false, body := outerC m inner } [.scr ns] [] := by
    show callN tab FUEL (n + 2) 0 [.scr ns] [] = _
    simp only [callN, hlaw]
    rfl
  rw [he]
  let e0 : Mx.Env := some (.scr ns) :: List.replicate (N - 1) none
  obtain ⟨zs, hz⟩ := cells_ok (tab := tab) (n := n) (S := []) hlen m (env := e0) rfl
  obtain ⟨e3, S3, h3, i3⟩ := loopF_inv (t := .nm 1) (stay := still (.p (.lst (zs.map .int))) []) (body := evSs (CN tab (n + 1)) FUEL (.cons (.asg (.nm 2) (.call 35 (.cons (.var 1) .nil))) inner)) (fun _ env S' => env.length = N ∧ env[0]? = some (some (.scr ns))) ((zs.map P.int).map .p) 0 e0 []
    ⟨by simp [e0]; omega, rfl⟩ (fun _ _ _ _ => rfl) (fun i dd env S' hd hI => by
      obtain ⟨y, hy, rfl⟩ := List.mem_map.mp (List.mem_of_getElem? hd)
      obtain ⟨y, hy, rfl⟩ := List.mem_map.mp hy
      refine ⟨_, rfl, ?_⟩
      obtain ⟨hl, h0⟩ := hI
      obtain ⟨p, q, e2⟩ := penW (tab := tab) (n := n) (S := S') y
      have h01 : (env.set 1 (some (.p (.int y))))[0]? = some (some (.scr ns)) := by rw [List.getElem?_set_ne (by decide)]; exact h0
      have h11 : (env.set 1 (some (.p (.int y))))[1]? = some (some (.p (.int y))) := by rw [List.getElem?_set_self (by omega)]
      obtain ⟨e', S'', g1, g2⟩ := hin ((env.set 1 (some (.p (.int y)))).set 2 (some (.mu S'.length))) (S' ++ [.lst [.int p, .int q, .int 0]]) S'.length
        ⟨by simp [hl], by rw [List.getElem?_set_ne (by decide)]; exact h01, by rw [List.getElem?_set_self (by simp; omega)], IsPen.new _ _ _⟩
      refine ⟨e', S'', .inl ?_, g2.len, g2.s0⟩
      simp only [evSs, evS, evE, evEs, R.bind, R.obind, slotD, h01, h11, e2, bindO, bindT]
      exact g1)
  have hfor : evS (CN tab (n + 1)) FUEL (.for (.nm 1) (.of (cellsE m)) (.cons (.asg (.nm 2) (.call 35 (.cons (.var 1) .nil))) inner)) e0 [] = .next e3 S3 := by
    simp only [evS, evI, hz, R.bind, R.obind, items]
    exact h3
  have hall : evSs (CN tab (n + 1)) FUEL (outerC m inner) e0 [] = .ret (.p (.bl true)) S3 := by
    unfold outerC
    rw [evSs_cons, hfor]
    simp [runF, evSs, evS, evE, evEs, evEo, evC, evI, R.bind, R.obind, slotD, pu, truth, bindO, bindT, setMany, leave, ty_beq, tyEq, isCI, yes]
  simp only [runF, List.length_singleton, if_true]
  rw [show (List.map some [D.scr ns] ++ List.replicate (N - 1) none) = e0 from rfl, hall]
  rfl
/-! ### without a boat -/
def er {α : Type} (i : Nat) (xs : List α) : List α := xs.take i ++ xs.drop (i + 1)
theorem er_map {α β : Type} (f : α → β) (i : Nat) (xs : List α) : er i (xs.map f) = (er i xs).map f := by
  simp [er, List.map_take, List.map_drop]
theorem er_len {α : Type} (i : Nat) (xs : List α) : (er i xs).length ≤ xs.length := by
  simp [er]; omega
def wayW (b : Bool) : P := if b then .str [117, 112] else .str [100, 111, 119, 110]
theorem boats_of_ok [h43 : Has tab 43 f_boats_of] (b : Bool) : CN tab (n + 1) 43 [.p (can l u d), .p (wayW b)] S = .ok (.p (.int (if b then u else d))) S := by
  rw [h43.eq]
  cases b <;> simp [f_boats_of, runF, evSs, evS, evE, evEs, evEo, evC, evI, R.bind, R.obind, slotD, pu, truth, bindO, bindT, setMany, leave, ty_beq, tyEq, isCI, yes, can, items, wayW, cmpop, view, eqP, scalar, P.eqv, mkTup, allP]
theorem need_way_ok {rs146 : St'} [h146 : Has tab 146 (f_need_way rs146)] (b : Bool) : CN tab (n + 1) 146 [.p (wayW b)] S = .ok (.p .non) S := by
  rw [h146.eq]
  cases b <;> simp [f_need_way, runF, evSs, evS, evE, evEs, evEo, evC, evI, R.bind, R.obind, slotD, pu, truth, bindO, bindT, setMany, leave, ty_beq, tyEq, isCI, yes, wayW, cmpop, view, inP, seqOf, P.plain, plainL, P.dep, depL, P.eqv]
theorem need_boat_ok [h30 : Has tab 30 f_is_whole] [h31 : Has tab 31 f_is_between] [h43 : Has tab 43 f_boats_of] {rs147 : St'} [h147 : Has tab 147 (f_need_boat rs147)] (b : Bool) {i : Nat} (hi : (i : Int) < if b then u else d) : CN tab (n + 3) 147 [.p (can l u d), .p (wayW b), .p (.int i)] S = .ok (.p .non) S := by
  rw [h147.eq]
  have e1 := boats_of_ok (tab := tab) (n := n + 1) (S := S) (l := l) (u := u) (d := d) b
  have e2 := between_ok (tab := tab) (n := n) (S := S) (.int i) 0 ((if b then u else d) - 1)
  have w1 : within 0 ((if b then u else d) - 1) (.int i) = true := by
    simp only [within, Bool.and_eq_true, decide_eq_true_eq]; omega
  rw [w1] at e2
  simp [f_need_boat, runF, evSs, evS, evE, evEs, evEo, evC, evI, R.bind, R.obind, slotD, pu, truth, bindO, bindT, setMany, leave, ty_beq, tyEq, isCI, yes, e1, e2, binop]
def lessE (b : Bool) (i : Nat) (t : List (List Int)) : List (List Int) := if b then er i t else t.map (er i)
theorem er_slice {S : Sto} {xs : List P} (i : Nat) (h : xs.length ≤ 300) : ∃ a b, slice (.p (.tup xs)) none (some (i : Int)) S = some a ∧ slice (.p (.tup xs)) (some ((i : Int) + 1)) none S = some b ∧ binop .add (.p a) (.p b) S = some (.tup (er i xs)) := by
  refine ⟨_, _, rfl, rfl, ?_⟩
  simp only [binop, cut_to, cut_from1]
  rw [if_pos (by unfold LIM; simp; omega)]
  rfl
theorem without_ok [h30 : Has tab 30 f_is_whole] [h31 : Has tab 31 f_is_between] [h32 : Has tab 32 f_has_parts] [h33 : Has tab 33 f_is_canal] {rs42 : St'} [h42 : Has tab 42 (f_need_canal rs42)] [h43 : Has tab 43 f_boats_of] [h63 : Has tab 63 f_is_table] [h64 : Has tab 64 f_has_shape] [h65 : Has tab 65 f_is_stepped] {rs72 : St'} [h72 : Has tab 72 (f_need_table rs72)] {rs146 : St'} [h146 : Has tab 146 (f_need_way rs146)] {rs147 : St'} [h147 : Has tab 147 (f_need_boat rs147)] [h148 : Has tab 148 f_without] {t : List (List Int)} (h : Can l u d) (ht : Tab l u d t) (b : Bool) {i : Nat} (hi : (i : Int) < if b then u else d) :
    CN tab (n + 7) 148 [.p (can l u d), .p (rowsI t), .p (wayW b), .p (.int i)] S = .ok (.p (rowsI (lessE b i t))) S := by
  rw [h148.eq]
  have e1 := ht.need (tab := tab) (n := n) (S := S) h (ht.bd h) (by unfold LIM; omega)
  have e2 := need_way_ok (tab := tab) (n := n + 5) (S := S) b
  have e3 := need_boat_ok (tab := tab) (n := n + 3) (S := S) (l := l) b hi
  have hl := ht.len
  have hu2 := h.u2
  have hd2 := h.d2
  have p1 : ∀ S, binop .add (.p (.int (i : Int))) (.p (.int 1)) S = some (.int ((i : Int) + 1)) := fun _ => rfl
  cases b with
  | true =>
    obtain ⟨a, c, s1, s2, s3⟩ := er_slice (S := S) (xs := t.map rowI) i (by rw [List.length_map]; omega)
    have s4 : rowsI (lessE true i t) = .tup (er i (t.map rowI)) := by rw [er_map]; rfl
    rw [s4]
    have hw : wayW true = .str [117, 112] := rfl
    rw [hw] at e2 e3 ⊢
    have s1' : slice (.p (rowsI t)) none (some (i : Int)) S = some a := s1
    have s2' : slice (.p (rowsI t)) (some ((i : Int) + 1)) none S = some c := s2
    simp [f_without, runF, evSs, evS, evE, evEs, evEo, evC, evI, R.bind, R.obind, slotD, pu, truth, bindO, bindT, setMany, leave, ty_beq, tyEq, isCI, yes, e1, e2, e3, cmpop, view, eqP, scalar, P.eqv, p1, s1', s2', s3]
  | false =>
    have ec : ∀ x3 x4 : Option D, evE (CN tab (n + 6)) (.comp [4] (.nm 4) (.of (.var 1)) .none (.bin .add (.slc (.var 4) .none (.some (.var 3))) (.slc (.var 4) (.some (.bin .add (.var 3) (.lit (.int 1)))) .none))) [some (.p (can l u d)), some (.p (rowsI t)), some (.p (wayW false)), some (.p (.int i)), x4] S = .ok (.p (.lst ((lessE false i t).map rowI))) S := fun x3 x4 => by
      have := comp_pure (C := CN tab (n + 6)) (own := [4]) (t := .nm 4) (src := .of (.var 1)) (elt := (.bin .add (.slc (.var 4) .none (.some (.var 3))) (.slc (.var 4) (.some (.bin .add (.var 3) (.lit (.int 1)))) .none))) (env := [some (.p (can l u d)), some (.p (rowsI t)), some (.p (wayW false)), some (.p (.int i)), x4]) (S := S)
        (ds := (t.map rowI).map .p) (stay := still (.p (rowsI t)) S) (fun e => match e with | .p (.tup xs) => .tup (er i xs) | _ => .non) rfl rfl (by simp [LIM]; omega) fun e he => by
          obtain ⟨y, hy, rfl⟩ := List.mem_map.mp he
          obtain ⟨r, hr, rfl⟩ := List.mem_map.mp hy
          have hrl := (ht.rows r hr).len
          obtain ⟨a, c, s1, s2, s3⟩ := er_slice (S := S) (xs := r.map P.int) i (by rw [List.length_map]; omega)
          refine ⟨_, rfl, ?_⟩
          simp only [rowI]
          simp [wipeE, runF, evSs, evS, evE, evEs, evEo, evC, evI, R.bind, R.obind, slotD, pu, truth, bindO, bindT, setMany, leave, ty_beq, tyEq, isCI, yes, p1, s1, s2, s3]
      rw [this, List.map_map, List.map_map]
      simp only [lessE, Bool.false_eq_true, if_false, List.map_map]
      congr 4
      funext r
      simp only [Function.comp_def, rowI, er_map]
    have hw : wayW false = .str [100, 111, 119, 110] := rfl
    have ec' := ec none none
    rw [hw] at e2 e3 ec' ⊢
    simp [f_without, runF, evSs, evS, evE, evEs, evEo, evC, evI, R.bind, R.obind, slotD, pu, truth, bindO, bindT, setMany, leave, ty_beq, tyEq, isCI, yes, e1, e2, e3, cmpop, view, eqP, scalar, P.eqv] at ec' ⊢
    simp [ec', bltop, asList]
    rfl
theorem er_mem {α : Type} {i : Nat} {xs : List α} {x : α} (h : x ∈ er i xs) : x ∈ xs := by
  rcases List.mem_append.mp h with h | h
  · exact List.mem_of_mem_take h
  · exact List.mem_of_mem_drop h
theorem ints_bd {r : List Int} (hb : ∀ x ∈ r, 0 ≤ x ∧ x ≤ 5) (hl : r.length ≤ 4) : Bd 541 1 (rowI r) := by
  have := BdL.many (w := 134) (d := 0) (xs := r.map .int) fun x hx => by
    obtain ⟨i, hi, rfl⟩ := List.mem_map.mp hx
    have := hb i hi
    exact Bd.int (by omega) (by omega)
  refine this.tup.mono ?_ (by omega)
  rw [List.length_map]; omega
theorem rowsF_bd {t : List (List Int)} (h : ∀ r ∈ t, (∀ x ∈ r, 0 ≤ x ∧ x ≤ 5) ∧ r.length ≤ 4) (hl : t.length ≤ 4) : Bd 2200 2 (rowsI t) := by
  have h1 := BdL.many (w := 541) (d := 1) (xs := t.map rowI) fun x hx => by
    obtain ⟨r, hr, rfl⟩ := List.mem_map.mp hx
    exact ints_bd (h r hr).1 (h r hr).2
  refine h1.tup.mono ?_ (by omega)
  rw [List.length_map]; omega
theorem less_bd {t : List (List Int)} (h : Can l u d) (ht : Tab l u d t) (b : Bool) (i : Nat) : Bd 2200 2 (rowsI (lessE b i t)) := by
  have hl := ht.len
  have hl2 := h.l2
  have hu2 := h.u2
  have hd2 := h.d2
  have hr : ∀ r ∈ t, (∀ x ∈ r, 0 ≤ x ∧ x ≤ 5) ∧ r.length ≤ 4 := fun r hr => by
    have := ht.rows r hr
    have hn := this.len
    exact ⟨fun x hx => by have := this.bd x hx; omega, by omega⟩
  cases b with
  | true => exact rowsF_bd (fun r hr' => hr r (er_mem hr')) (by have := er_len i t; simp only [lessE, if_true]; omega)
  | false =>
    refine rowsF_bd (fun r hr' => ?_) (by simp only [lessE, Bool.false_eq_true, if_false, List.length_map]; omega)
    simp only [lessE, Bool.false_eq_true, if_false] at hr'
    obtain ⟨q, hq, rfl⟩ := List.mem_map.mp hr'
    exact ⟨fun x hx => (hr q hq).1 x (er_mem hx), by have := er_len i q; have := (hr q hq).2; omega⟩
/-! ### what an enumeration leaves out -/
theorem enumD_P (xs : List P) : enumD (xs.map .p) = (List.range xs.length).map fun (i : Nat) => D.tup [.p (.int (i : Int)), .p (xs.getD i .non)] := by
  have e : xs.map D.p = (List.range xs.length).map fun (i : Nat) => D.p (xs.getD i .non) := by
    refine List.ext_getElem (by simp) fun i hi _ => ?_
    have hi' : i < xs.length := by simpa using hi
    simp [List.getD_eq_getElem?_getD, hi']
  unfold enumD
  rw [e, List.length_map, List.length_range, pairs_same']
theorem er_eq : ∀ (xs : List P) (i : Nat), ((List.range xs.length).filter fun j => decide (j ≠ i)).map (fun j => xs.getD j .non) = er i xs
  | [], i => by simp [er]
  | x :: r, 0 => by
    have e : (List.range r.length).map (fun j => r.getD j .non) = r := List.ext_getElem (by simp) fun i hi _ => by
      have hi' : i < r.length := by simpa using hi
      simp [List.getD_eq_getElem?_getD, hi']
    rw [List.length_cons, List.range_succ_eq_map, List.filter_cons, if_neg (by simp), List.filter_map, List.map_map]
    have hf : (List.range r.length).filter ((fun j => decide (j ≠ 0)) ∘ Nat.succ) = List.range r.length := List.filter_eq_self.mpr fun a _ => by simp
    rw [hf]
    simp [er, Function.comp_def] at e ⊢
    exact e
  | x :: r, i + 1 => by
    have ih := er_eq r i
    rw [List.length_cons, List.range_succ_eq_map, List.filter_cons, if_pos (by simp), List.filter_map, List.map_cons, List.map_map]
    simp [er, Function.comp_def] at ih ⊢
    exact ih
theorem enum_er {C : Nat → List D → Sto → R D} {own : List Nat} {t : Tg} {src : E} {tst elt : E} {env : Mx.Env} {xs : List P} {i : Nat} (hs : evE C src env S = .ok (.p (.tup xs)) S) (hl : xs.length ≤ 300)
    (he : ∀ (j : Nat) (x : P), ∃ env1, bindT t (.tup [.p (.int (j : Int)), .p x]) (wipeE env own) = some env1 ∧ evE C tst env1 S = .ok (.p (.bl (decide (j ≠ i)))) S ∧ evE C elt env1 S = .ok (.p x) S) :
    evE C (.comp own t (.enum src) (.some tst) elt) env S = .ok (.p (.lst (er i xs))) S := by
  have := comp_if (C := C) (own := own) (t := t) (src := .enum src) (tst := tst) (elt := elt) (env := env) (S := S)
    (ds := (List.range xs.length).map fun (i : Nat) => D.tup [.p (.int (i : Int)), .p (xs.getD i .non)]) (stay := still (.p (.tup xs)) S)
    (fun e => match e with | .tup [.p (.int j), _] => decide (j ≠ (i : Int)) | _ => false) (fun e => match e with | .tup [_, .p x] => x | _ => .non)
    (by simp only [evI, hs, R.bind, items, enumD_P]) rfl (by simp [LIM]; omega) fun e he' => by
      obtain ⟨j, _, rfl⟩ := List.mem_map.mp he'
      obtain ⟨env1, h1, h2, h3⟩ := he j (xs.getD j .non)
      refine ⟨env1, h1, ?_, fun _ => h3⟩
      rw [h2]
      have : decide (j ≠ i) = decide ((j : Int) ≠ (i : Int)) := by
        rw [decide_eq_decide]; omega
      rw [this]
  rw [this, List.filter_map, List.map_map]
  congr 3
  rw [← er_eq]
  have hf : (fun j : Nat => decide (j ≠ i)) = ((fun e : D => match e with | .tup [.p (.int j), _] => decide (j ≠ (i : Int)) | _ => false) ∘ fun (j : Nat) => D.tup [.p (.int (j : Int)), .p (xs.getD j .non)]) := by
    funext j
    simp only [Function.comp_def]
    rw [decide_eq_decide]; omega
  rw [hf]
  rfl
end Mx
end

section
set_option Elab.async false
set_option linter.all false
set_option maxRecDepth 100000
set_option autoImplicit false
set_option maxHeartbeats 4000000
namespace Mx
open PySem L2
variable {tab : Nat → Option FD} {n : Nat} {S : Sto} {k : Nat} {l u d : Int}
/-! ### passings, rows of them -/
/-- up or not, the boat, the lock -/
abbrev Ps := Bool × Nat × Nat
def psP (x : Ps) : P := .tup [wayP x.1, .int x.2.1, .int x.2.2]
def rowP (r : List Ps) : P := .tup (r.map psP)
theorem way_eqv (a b : Bool) : P.eqv (wayP a) (wayP b) = decide (a = b) := by cases a <;> cases b <;> rfl
theorem ps_eqv (x y : Ps) : P.eqv (psP x) (psP y) = decide (x = y) := by
  obtain ⟨a, b, c⟩ := x
  obtain ⟨a', b', c'⟩ := y
  simp only [psP, P.eqv, eqvL, way_eqv]
  by_cases h1 : a = a' <;> by_cases h2 : b = b' <;> by_cases h3 : c = c' <;> simp [h1, h2, h3] <;> first | omega | (intro _; omega)
theorem ps_plain (x : Ps) : (psP x).plain = true := by
  obtain ⟨a, b, c⟩ := x
  cases a <;> rfl
theorem ps_dep (x : Ps) : (psP x).dep = 1 := by
  obtain ⟨a, b, c⟩ := x
  cases a <;> rfl
theorem psL_plain : ∀ r : List Ps, plainL (r.map psP) = true
  | [] => rfl
  | x :: r => by simp [plainL, ps_plain, psL_plain r]
theorem psL_dep : ∀ r : List Ps, depL (r.map psP) ≤ 1
  | [] => by simp [depL]
  | x :: r => by
    have := psL_dep r
    simp only [List.map_cons, depL, ps_dep]
    omega
theorem ps_any (x : Ps) (r : List Ps) : ((r.map psP).any fun z => P.eqv z (psP x)) = decide (x ∈ r) := by
  rw [List.any_map, Bool.eq_iff_iff]
  simp only [List.any_eq_true, Function.comp_def, ps_eqv, decide_eq_true_eq]
  exact ⟨fun ⟨y, h, e⟩ => e ▸ h, fun h => ⟨x, h, rfl⟩⟩
theorem inP_row (x : Ps) (r : List Ps) : inP (psP x) (rowP r) = some (decide (x ∈ r)) := by
  have h1 := psL_dep r
  have h2 : (rowP r).dep ≤ 60 := by simp only [rowP, P.dep]; omega
  have h3 : (rowP r).plain = true := by simp only [rowP, P.plain, psL_plain]
  unfold inP
  rw [ps_plain, ps_dep, h3]
  simp only [rowP, seqOf]
  simp only [rowP] at h2
  simp only [h2, decide_true, Bool.and_true, Bool.true_and, if_true, show decide ((1 : Nat) ≤ 60) = true from rfl]
  rw [ps_any]
theorem eqP_nil (r : List Ps) : eqP (.lst (r.map psP)) (.lst []) = some r.isEmpty := by
  have h1 := psL_dep r
  have h2 : (P.lst (r.map psP)).dep ≤ 60 := by simp only [P.dep]; omega
  have h3 : (P.lst (r.map psP)).plain = true := by simp only [P.plain, psL_plain]
  unfold eqP
  rw [show scalar (.lst (r.map psP)) (.lst []) = false from rfl]
  simp only [Bool.false_eq_true, if_false, h3]
  cases r with
  | nil => rfl
  | cons x r => simp only [h2, decide_true]; rfl
/-! ### over all canals -/
def canAll (f : Nat → Nat → Nat → Bool) : Bool := (List.range 5).all fun l => (List.range 5).all fun u => (List.range 5).all fun d => f (l + 1) u d
theorem canAll_get {f : Nat → Nat → Nat → Bool} (h : canAll f = true) (hc : Can l u d) : f l.toNat u.toNat d.toNat = true := by
  have h1 := hc.l1; have h2 := hc.l2; have h3 := hc.u1; have h4 := hc.u2; have h5 := hc.d1; have h6 := hc.d2
  unfold canAll at h
  rw [List.all_eq_true] at h
  have a := h (l.toNat - 1) (List.mem_range.mpr (by omega))
  rw [List.all_eq_true] at a
  have b := a u.toNat (List.mem_range.mpr (by omega))
  rw [List.all_eq_true] at b
  have c := b d.toNat (List.mem_range.mpr (by omega))
  rw [show l.toNat - 1 + 1 = l.toNat by omega] at c
  exact c
theorem can_nat (hc : Can l u d) : can l u d = can (l.toNat : Int) (u.toNat : Int) (d.toNat : Int) := by
  have h1 := hc.l1; have h3 := hc.u1; have h5 := hc.d1
  rw [Int.toNat_of_nonneg (by omega), Int.toNat_of_nonneg h3, Int.toNat_of_nonneg h5]
def passS (l u d : Nat) : List Ps := (List.range d).flatMap (fun b => (List.range l).map fun k => (false, b, k)) ++ (List.range u).flatMap fun b => (List.range l).map fun k => (true, b, k)
def aheadS (l : Nat) (x : Ps) : List Ps := (match x with
    | (true, b, k) => if k = 0 then [] else [(true, b, k - 1)]
    | (false, b, k) => if k + 1 < l then [(false, b, k + 1)] else []) ++ (if 0 < x.2.1 then [(x.1, x.2.1 - 1, x.2.2)] else [])
def letS (l u d : Nat) (r : List Ps) : List Ps := ((passS l u d).filter fun x => !decide (x ∈ r)).filter fun x => ((aheadS l x).filter fun y => !decide (y ∈ r)).isEmpty
theorem passChk : canAll (fun l u d => isOk (callN (miniT [(54, f__law_passings)]) FUEL 2 54 ([can l u d].map .p) []) (.lst ((passS l u d).map psP))) = true := by decide +kernel
theorem aheadChk : canAll (fun l u d => (passS l u d).all fun x => isOk (callN (miniT [(55, f__law_ahead)]) FUEL 2 55 ([can l u d, psP x].map .p) []) (.lst ((aheadS l x).map psP))) = true := by decide +kernel
theorem passings_ok [h54 : Has tab 54 f__law_passings] (h : Can l u d) : CN tab (n + 2) 54 [.p (can l u d)] S = .ok (.p (.lst ((passS l.toNat u.toNat d.toNat).map psP))) S := by
  have c := isOk_eq (canAll_get passChk h)
  rw [can_nat h]
  exact call_sub (t2 := tab) (mini_cons (inferInstance : Has tab 54 _).h mini_nil) (by omega) c S
theorem ahead_ok [h55 : Has tab 55 f__law_ahead] (h : Can l u d) {x : Ps} (hx : x ∈ passS l.toNat u.toNat d.toNat) : CN tab (n + 2) 55 [.p (can l u d), .p (psP x)] S = .ok (.p (.lst ((aheadS l.toNat x).map psP))) S := by
  have c := canAll_get aheadChk h
  rw [List.all_eq_true] at c
  rw [can_nat h]
  exact call_sub (t2 := tab) (mini_cons (inferInstance : Has tab 55 _).h mini_nil) (by omega) (isOk_eq (c x hx)) S
theorem pass_len (l u d : Nat) : (passS l u d).length = l * (u + d) := by
  have e : ∀ m : Nat, ((List.range m).map fun _ => l).sum = l * m := fun m => by rw [List.map_const', List.sum_replicate_nat, List.length_range, Nat.mul_comm]
  simp only [passS, List.length_append, List.length_flatMap, List.length_map, List.length_range, e, Nat.mul_add]
  omega
theorem pass40 (h : Can l u d) : (passS l.toNat u.toNat d.toNat).length ≤ 40 := by
  rw [pass_len]
  have h2 := h.l2; have h4 := h.u2; have h6 := h.d2
  exact Nat.mul_le_mul (show l.toNat ≤ 5 by omega) (show u.toNat + d.toNat ≤ 8 by omega)
def letF (x : E) : E := .comp [4] (.nm 4) (.of (.call 55 (.cons (.var 0) (.cons (.var 3) .nil)))) (.some (.cmp .nin (.var 4) (.var 1))) (.var 4)
def cLetA : E := .comp [3] (.nm 3) (.of (.call 54 (.cons (.var 0) .nil))) (.some (.cmp .nin (.var 3) (.var 1))) (.var 3)
def cLetI : E := .comp [4] (.nm 4) (.of (.call 55 (.cons (.var 0) (.cons (.var 3) .nil)))) (.some (.cmp .nin (.var 4) (.var 1))) (.var 4)
def cLetB : E := .comp [3] (.nm 3) (.of (.var 2)) (.some (.cmp .eq cLetI (.lst .nil))) (.var 3)
theorem let_cut : f__law_let = { np := 2, nN := 5, keep := false, body := (.cons (.asg (.nm 2) cLetA) (.cons (.ret cLetB) .nil)) } := rfl
def psOf : D → Ps
  | .p (.tup [.str [117, 112], .int b, .int k]) => (true, b.toNat, k.toNat)
  | .p (.tup [.str [100, 111, 119, 110], .int b, .int k]) => (false, b.toNat, k.toNat)
  | _ => (true, 0, 0)
theorem psOf_p (x : Ps) : psOf (.p (psP x)) = x := by
  obtain ⟨a, b, c⟩ := x
  cases a <;> simp [psP, wayP, upP, downP, psOf]
theorem map_psOf (r : List Ps) (f : Ps → Bool) : (((r.map psP).map D.p).filter fun e => f (psOf e)).map (fun e => psP (psOf e)) = (r.filter f).map psP := by
  rw [List.map_map, List.filter_map, List.map_map]
  simp only [Function.comp_def, psOf_p]
theorem let_ok [h54 : Has tab 54 f__law_passings] [h55 : Has tab 55 f__law_ahead] [h56 : Has tab 56 f__law_let] (h : Can l u d) (r : List Ps) : CN tab (n + 3) 56 [.p (can l u d), .p (rowP r)] S = .ok (.p (.lst ((letS l.toNat u.toNat d.toNat r).map psP))) S := by
  rw [h56.eq, let_cut]
  have p40 := pass40 h
  obtain ⟨A, hA⟩ : ∃ A, A = (passS l.toNat u.toNat d.toNat).filter fun x => !decide (x ∈ r) := ⟨_, rfl⟩
  have eP := passings_ok (tab := tab) (n := n) (S := S) h
  have eA : evE (CN tab (n + 2)) cLetA [some (.p (can l u d)), some (.p (rowP r)), none, none, none] S = .ok (.p (.lst (A.map psP))) S := by
    have := comp_if (C := CN tab (n + 2)) (own := [3]) (t := .nm 3) (src := .of (.call 54 (.cons (.var 0) .nil))) (tst := .cmp .nin (.var 3) (.var 1)) (elt := .var 3) (env := [some (.p (can l u d)), some (.p (rowP r)), none, none, none]) (S := S)
      (ds := ((passS l.toNat u.toNat d.toNat).map psP).map .p) (stay := still (.p (.lst ((passS l.toNat u.toNat d.toNat).map psP))) S) (fun e => !decide (psOf e ∈ r)) (fun e => psP (psOf e)) (by simp [runF, evSs, evS, evE, evEs, evEo, evC, evI, R.bind, R.obind, slotD, pu, truth, bindO, bindT, setMany, leave, ty_beq, tyEq, isCI, yes, eP, items]) rfl (by simp [LIM]; omega) fun e he => by
        obtain ⟨y, hy, rfl⟩ := List.mem_map.mp he
        obtain ⟨x, hx, rfl⟩ := List.mem_map.mp hy
        refine ⟨_, rfl, ?_, fun _ => ?_⟩
        · simp [runF, evSs, evS, evE, evEs, evEo, evC, evI, R.bind, R.obind, slotD, pu, truth, bindO, bindT, setMany, leave, ty_beq, tyEq, isCI, yes, wipeE, cmpop, view, inP_row, psOf_p]
        · simp [runF, evSs, evS, evE, evEs, evEo, evC, evI, R.bind, R.obind, slotD, pu, truth, bindO, bindT, setMany, leave, ty_beq, tyEq, isCI, yes, wipeE, psOf_p]
    unfold cLetA
    rw [this, map_psOf _ fun x => !decide (x ∈ r), hA]
  have hAm : ∀ x ∈ A, x ∈ passS l.toNat u.toNat d.toNat := fun x hx => by rw [hA] at hx; exact (List.mem_filter.mp hx).1
  have lA : A.length ≤ 40 := by rw [hA]; exact Nat.le_trans (List.length_filter_le ..) p40
  have eI : ∀ x ∈ A, evE (CN tab (n + 2)) cLetI [some (.p (can l u d)), some (.p (rowP r)), some (.p (.lst (A.map psP))), some (.p (psP x)), none] S = .ok (.p (.lst (((aheadS l.toNat x).filter fun y => !decide (y ∈ r)).map psP))) S := fun x hx => by
    have ea := ahead_ok (tab := tab) (n := n) (S := S) h (hAm x hx)
    have la : (aheadS l.toNat x).length ≤ 2 := by
      obtain ⟨w, b, k⟩ := x
      unfold aheadS
      cases w <;> simp only [List.length_append] <;> split <;> split <;> simp
    have := comp_if (C := CN tab (n + 2)) (own := [4]) (t := .nm 4) (src := .of (.call 55 (.cons (.var 0) (.cons (.var 3) .nil)))) (tst := .cmp .nin (.var 4) (.var 1)) (elt := .var 4) (env := [some (.p (can l u d)), some (.p (rowP r)), some (.p (.lst (A.map psP))), some (.p (psP x)), none]) (S := S)
      (ds := ((aheadS l.toNat x).map psP).map .p) (stay := still (.p (.lst ((aheadS l.toNat x).map psP))) S) (fun e => !decide (psOf e ∈ r)) (fun e => psP (psOf e)) (by simp [runF, evSs, evS, evE, evEs, evEo, evC, evI, R.bind, R.obind, slotD, pu, truth, bindO, bindT, setMany, leave, ty_beq, tyEq, isCI, yes, ea, items]) rfl (by simp [LIM]; omega) fun e he => by
        obtain ⟨y, hy, rfl⟩ := List.mem_map.mp he
        obtain ⟨z, hz, rfl⟩ := List.mem_map.mp hy
        refine ⟨_, rfl, ?_, fun _ => ?_⟩
        · simp [runF, evSs, evS, evE, evEs, evEo, evC, evI, R.bind, R.obind, slotD, pu, truth, bindO, bindT, setMany, leave, ty_beq, tyEq, isCI, yes, wipeE, cmpop, view, inP_row, psOf_p]
        · simp [runF, evSs, evS, evE, evEs, evEo, evC, evI, R.bind, R.obind, slotD, pu, truth, bindO, bindT, setMany, leave, ty_beq, tyEq, isCI, yes, wipeE, psOf_p]
    unfold cLetI
    rw [this, map_psOf _ fun x => !decide (x ∈ r)]
  have eB : evE (CN tab (n + 2)) cLetB [some (.p (can l u d)), some (.p (rowP r)), some (.p (.lst (A.map psP))), none, none] S = .ok (.p (.lst ((letS l.toNat u.toNat d.toNat r).map psP))) S := by
    have := comp_if (C := CN tab (n + 2)) (own := [3]) (t := .nm 3) (src := .of (.var 2)) (tst := .cmp .eq cLetI (.lst .nil)) (elt := .var 3) (env := [some (.p (can l u d)), some (.p (rowP r)), some (.p (.lst (A.map psP))), none, none]) (S := S)
      (ds := (A.map psP).map .p) (stay := still (.p (.lst (A.map psP))) S) (fun e => ((aheadS l.toNat (psOf e)).filter fun y => !decide (y ∈ r)).isEmpty) (fun e => psP (psOf e)) (by simp [runF, evSs, evS, evE, evEs, evEo, evC, evI, R.bind, R.obind, slotD, pu, truth, bindO, bindT, setMany, leave, ty_beq, tyEq, isCI, yes, items]) rfl (by simp [LIM]; omega) fun e he => by
        obtain ⟨y, hy, rfl⟩ := List.mem_map.mp he
        obtain ⟨x, hx, rfl⟩ := List.mem_map.mp hy
        refine ⟨_, rfl, ?_, fun _ => ?_⟩
        · have e1 := eI x hx
          have e2 := eqP_nil ((aheadS l.toNat x).filter fun y => !decide (y ∈ r))
          simp only [wipeE, List.set_cons_succ, List.set_cons_zero] at e1 ⊢
          simp only [evE, R.bind] at e1 ⊢
          rw [e1]
          simp [runF, evSs, evS, evE, evEs, evEo, evC, evI, R.bind, R.obind, slotD, pu, truth, bindO, bindT, setMany, leave, ty_beq, tyEq, isCI, yes, allP, cmpop, view, e2, psOf_p]
        · simp [runF, evSs, evS, evE, evEs, evEo, evC, evI, R.bind, R.obind, slotD, pu, truth, bindO, bindT, setMany, leave, ty_beq, tyEq, isCI, yes, wipeE, psOf_p]
    unfold cLetB
    rw [this, map_psOf _ fun x => ((aheadS l.toNat x).filter fun y => !decide (y ∈ r)).isEmpty, hA]
    rfl
  simp [runF, evSs, evS, evE, evEs, evEo, evC, evI, R.bind, R.obind, slotD, pu, truth, bindO, bindT, setMany, leave, ty_beq, tyEq, isCI, yes, eA, eB, List.take_of_length_le]
end Mx
end

section
set_option Elab.async false
set_option linter.all false
set_option maxRecDepth 100000
set_option autoImplicit false
set_option maxHeartbeats 4000000
namespace Mx
open PySem L2
variable {tab : Nat → Option FD} {n : Nat} {S : Sto} {k : Nat} {l u d : Int}
/-! ### in how many ways the places from one on can be filled -/
def limsP (L : List (Int × Int)) : P := .lst (L.map fun w => .tup [.int w.1, .int w.2])
def lowOf (L : List (Int × Int)) (q : Nat) (f : List Int) : Int :=
  if 0 < q % f.length then (if (L.getD q (0, 0)).1 < f.getD (q % f.length - 1) 0 then f.getD (q % f.length - 1) 0 else (L.getD q (0, 0)).1) else (L.getD q (0, 0)).1
def highOf (L : List (Int × Int)) (q : Nat) (f : List Int) : Int := if f.getD (q % f.length) 0 < (L.getD q (0, 0)).2 then f.getD (q % f.length) 0 else (L.getD q (0, 0)).2
def spanI (a b : Int) : List Int := (List.range (b - a).toNat).map fun (k : Nat) => a + (k : Int)
def pletL (L : List (Int × Int)) (q : Nat) (f : List Int) : List Int := spanI (lowOf L q f) (highOf L q f + 1)
def fil (f : List Int) (q : Nat) (p : Int) : List Int := f.take (q % f.length) ++ [p] ++ f.drop (q % f.length + 1)
def ways (L : List (Int × Int)) : Nat → Nat → List Int → Int
  | 0, _, _ => 1
  | r + 1, q, f => ((pletL L q f).map fun p => ways L r (q + 1) (fil f q p)).sum
structure LimOk (L : List (Int × Int)) : Prop where
  len : L.length ≤ 16
  bd : ∀ w ∈ L, (0 ≤ w.1 ∧ w.1 ≤ 5) ∧ 0 ≤ w.2 ∧ w.2 ≤ 5
structure FrOk (d : Nat) (f : List Int) : Prop where
  len : f.length = d
  bd : ∀ x ∈ f, 0 ≤ x ∧ x ≤ 5
theorem FrOk.get {e : Nat} {f : List Int} (h : FrOk e f) (i : Nat) : 0 ≤ f.getD i 0 ∧ f.getD i 0 ≤ 5 := by
  rw [List.getD_eq_getElem?_getD]
  cases hi : f[i]? with
  | none => simp
  | some x => exact h.bd x (List.mem_of_getElem? hi)
theorem LimOk.get {L : List (Int × Int)} (h : LimOk L) (i : Nat) : (0 ≤ (L.getD i (0, 0)).1 ∧ (L.getD i (0, 0)).1 ≤ 5) ∧ 0 ≤ (L.getD i (0, 0)).2 ∧ (L.getD i (0, 0)).2 ≤ 5 := by
  rw [List.getD_eq_getElem?_getD]
  cases hi : L[i]? with
  | none => simp
  | some x => exact h.bd x (List.mem_of_getElem? hi)
theorem low_bd {L : List (Int × Int)} {e q : Nat} {f : List Int} (hL : LimOk L) (hf : FrOk e f) : 0 ≤ lowOf L q f ∧ lowOf L q f ≤ 5 := by
  have h1 := hL.get q
  have h2 := hf.get (q % f.length - 1)
  unfold lowOf
  split
  · split <;> omega
  · omega
theorem high_bd {L : List (Int × Int)} {e q : Nat} {f : List Int} (hL : LimOk L) (hf : FrOk e f) : 0 ≤ highOf L q f ∧ highOf L q f ≤ 5 := by
  have h1 := hL.get q
  have h2 := hf.get (q % f.length)
  unfold highOf
  split <;> omega
theorem mem_span {a b x : Int} : x ∈ spanI a b ↔ a ≤ x ∧ x < b := by
  unfold spanI
  rw [List.mem_map]
  constructor
  · rintro ⟨i, hi, rfl⟩
    have := List.mem_range.mp hi
    omega
  · intro h
    exact ⟨(x - a).toNat, List.mem_range.mpr (by omega), by omega⟩
theorem plet_bd {L : List (Int × Int)} {e q : Nat} {f : List Int} (hL : LimOk L) (hf : FrOk e f) {p : Int} (hp : p ∈ pletL L q f) : 0 ≤ p ∧ p ≤ 5 := by
  have h1 := low_bd (q := q) hL hf
  have h2 := high_bd (q := q) hL hf
  have := mem_span.mp hp
  omega
theorem fil_ok {e q : Nat} {f : List Int} (hf : FrOk e f) (he : 0 < e) {p : Int} (hp : 0 ≤ p ∧ p ≤ 5) : FrOk e (fil f q p) := by
  have hm : q % f.length < f.length := Nat.mod_lt _ (by rw [hf.len]; exact he)
  refine ⟨?_, fun x hx => ?_⟩
  · have := hf.len
    simp [fil]; omega
  · unfold fil at hx
    simp only [List.append_assoc, List.mem_append, List.mem_singleton] at hx
    rcases hx with hx | rfl | hx
    · exact hf.bd x (List.mem_of_mem_take hx)
    · exact hp
    · exact hf.bd x (List.mem_of_mem_drop hx)
theorem lims_get {L : List (Int × Int)} {q : Nat} (hq : q < L.length) : index (.p (limsP L)) (.p (.int (q : Int))) S = some (.p (.tup [.int (L.getD q (0, 0)).1, .int (L.getD q (0, 0)).2])) := by
  simp [index, limsP, items, atI, ixN, hq]
theorem row_get {f : List Int} {i : Nat} (h : i < f.length) : index (.p (rowI f)) (.p (.int (i : Int))) S = some (.p (.int (f.getD i 0))) := by
  rw [index_row h]; simp [h]
theorem plet_ok [h109 : Has tab 109 f_pounds_let] {L : List (Int × Int)} {e q : Nat} {f : List Int} (hL : LimOk L) (hf : FrOk e f) (he : 0 < e) (hq : q < L.length) :
    CN tab (n + 1) 109 [.p (limsP L), .p (.int (q : Int)), .p (rowI f)] S = .ok (.p (.lst ((pletL L q f).map .int))) S := by
  rw [h109.eq]
  have hfl := hf.len
  have hm : q % f.length < f.length := Nat.mod_lt _ (by omega)
  have i1 := lims_get (S := S) hq
  have i2 := row_get (S := S) hm
  have i3 : bltop .len [.p (rowI f)] S = some (.int (f.length : Int)) := by simp [bltop, lenD, items, rowI]
  have i4 : binop .mod (.p (.int (q : Int))) (.p (.int (f.length : Int))) S = some (.int ((q % f.length : Nat) : Int)) := by
    have : (0 : Int) < (f.length : Int) := by omega
    simp only [binop, this, if_true]; rfl
  have b1 := low_bd (q := q) hL hf
  have b2 := high_bd (q := q) hL hf
  have sm : ∀ x : Int, 0 ≤ x → x ≤ 6 → small62 x = true := fun x h1 h2 => by
    unfold small62; simp only [Bool.and_eq_true, decide_eq_true_eq]; omega
  have s1 := sm (lowOf L q f) (by omega) (by omega)
  have s2 := sm (highOf L q f + 1) (by omega) (by omega)
  have s3 : (highOf L q f + 1 - lowOf L q f).toNat ≤ LIM := by unfold LIM; omega
  have ef : pletL L q f = spanI (lowOf L q f) (highOf L q f + 1) := rfl
  rw [ef]
  have m1 : ∀ (a b : Int) (S : Sto), bltop .max2 [.p (.int a), .p (.int b)] S = some (.int (if a < b then b else a)) := fun a b S => rfl
  have m2 : ∀ (a b : Int) (S : Sto), bltop .min2 [.p (.int a), .p (.int b)] S = some (.int (if b < a then b else a)) := fun a b S => rfl
  have p1 : ∀ (a b : Int) (S : Sto), binop .add (.p (.int a)) (.p (.int b)) S = some (.int (a + b)) := fun _ _ _ => rfl
  have p2 : ∀ (a b : Int) (S : Sto), binop .sub (.p (.int a)) (.p (.int b)) S = some (.int (a - b)) := fun _ _ _ => rfl
  have g1 : ∀ S, cmpop .gt (.p (.int ((q % f.length : Nat) : Int))) (.p (.int 0)) S = some (decide (0 < q % f.length)) := fun S => by
    simp only [cmpop, Option.some.injEq]; rw [decide_eq_decide]; omega
  by_cases h : 0 < q % f.length
  · have i5 : index (.p (rowI f)) (.p (.int (((q % f.length : Nat) : Int) - 1))) S = some (.p (.int (f.getD (q % f.length - 1) 0))) := by
      rw [show ((q % f.length : Nat) : Int) - 1 = ((q % f.length - 1 : Nat) : Int) from by omega]
      exact row_get (by omega)
    have e1 : (if (L.getD q (0, 0)).1 < f.getD (q % f.length - 1) 0 then f.getD (q % f.length - 1) 0 else (L.getD q (0, 0)).1) = lowOf L q f := by unfold lowOf; rw [if_pos h]
    have e2 : (if f.getD (q % f.length) 0 < (L.getD q (0, 0)).2 then f.getD (q % f.length) 0 else (L.getD q (0, 0)).2) = highOf L q f := rfl
    have d1 : decide (0 < q % f.length) = true := decide_eq_true h
    generalize hlo : lowOf L q f = lo at *
    generalize hhi : highOf L q f = hi at *
    simp only [f_pounds_let, runF, evSs, evS, evE, evEs, evEo, evC, evI, R.bind, R.obind, slotD, pu, truth, bindO, bindT, setMany, leave, ty_beq, tyEq, isCI, yes, i1, i2, i3, i4, i5, items, List.map_cons, List.map_nil, List.length_cons, List.length_nil, List.replicate_succ, List.replicate_zero, List.cons_append, List.nil_append, List.getElem?_cons_zero, List.getElem?_cons_succ, List.set_cons_zero, List.set_cons_succ, Nat.reduceAdd, Nat.reduceSub, if_true, Bool.false_eq_true, if_false, g1, d1, m1, m2, p1, p2, e1, e2, s1, s2, decide_eq_true s3, Bool.and_true, Bool.and_self, Option.map_some, spanI, List.map_map, List.take_of_length_le (Nat.le_refl _)]
    rfl
  · have e1 : (L.getD q (0, 0)).1 = lowOf L q f := by unfold lowOf; rw [if_neg h]
    have e2 : (if f.getD (q % f.length) 0 < (L.getD q (0, 0)).2 then f.getD (q % f.length) 0 else (L.getD q (0, 0)).2) = highOf L q f := rfl
    have d1 : decide (0 < q % f.length) = false := decide_eq_false h
    rw [e1] at i1
    generalize hlo : lowOf L q f = lo at *
    generalize hhi : highOf L q f = hi at *
    simp only [f_pounds_let, runF, evSs, evS, evE, evEs, evEo, evC, evI, R.bind, R.obind, slotD, pu, truth, bindO, bindT, setMany, leave, ty_beq, tyEq, isCI, yes, i1, i2, i3, i4, items, List.map_cons, List.map_nil, List.length_cons, List.length_nil, List.replicate_succ, List.replicate_zero, List.cons_append, List.nil_append, List.getElem?_cons_zero, List.getElem?_cons_succ, List.set_cons_zero, List.set_cons_succ, Nat.reduceAdd, Nat.reduceSub, if_true, Bool.false_eq_true, if_false, g1, d1, m1, m2, p1, p2, e2, s1, s2, decide_eq_true s3, Bool.and_true, Bool.and_self, Option.map_some, spanI, List.map_map, List.take_of_length_le (Nat.le_refl _)]
    rfl
theorem filled_ok [h108 : Has tab 108 f_filled] {e q : Nat} {f : List Int} {p : Int} (hf : FrOk e f) (he : 0 < e) (h4 : e ≤ 4) : CN tab (n + 1) 108 [.p (rowI f), .p (.int (q : Int)), .p (.int p)] S = .ok (.p (rowI (fil f q p))) S := by
  rw [h108.eq]
  have hfl := hf.len
  have i3 : bltop .len [.p (rowI f)] S = some (.int (f.length : Int)) := by simp [bltop, lenD, items, rowI]
  have i4 : binop .mod (.p (.int (q : Int))) (.p (.int (f.length : Int))) S = some (.int ((q % f.length : Nat) : Int)) := by
    have : (0 : Int) < (f.length : Int) := by omega
    simp only [binop, this, if_true]; rfl
  have hw : q % f.length ≤ f.length := Nat.le_of_lt (Nat.mod_lt _ (by omega))
  have ef : rowI (fil f q p) = .tup ((f.map P.int).take (q % f.length) ++ [.int p] ++ (f.map P.int).drop (q % f.length + 1)) := by
    simp [rowI, fil, List.map_take, List.map_drop]
  rw [ef]
  generalize q % f.length = w at i4 hw
  have s1 : slice (.p (rowI f)) none (some (w : Int)) S = some (.tup ((f.map .int).take w)) := by simp only [slice, rowI, cut_to]
  have s2 : slice (.p (rowI f)) (some ((w : Int) + 1)) none S = some (.tup ((f.map .int).drop (w + 1))) := by simp only [slice, rowI, cut_from1]
  have z1 : ((f.map P.int).take w).length + 1 ≤ LIM := by unfold LIM; simp; omega
  have z2 : ((f.map P.int).take w ++ [P.int p]).length + ((f.map P.int).drop (w + 1)).length ≤ LIM := by unfold LIM; simp; omega
  have a1 : binop .add (.p (.tup ((f.map P.int).take w))) (.p (.tup [.int p])) S = some (.tup ((f.map P.int).take w ++ [.int p])) := by simp only [binop, List.length_singleton, z1, if_true]
  have a2 : binop .add (.p (.tup ((f.map P.int).take w ++ [.int p]))) (.p (.tup ((f.map P.int).drop (w + 1)))) S = some (.tup ((f.map P.int).take w ++ [.int p] ++ (f.map P.int).drop (w + 1))) := by simp only [binop, z2, if_true]
  have p1 : ∀ (a b : Int) (S : Sto), binop .add (.p (.int a)) (.p (.int b)) S = some (.int (a + b)) := fun _ _ _ => rfl
  simp only [f_filled, runF, evSs, evS, evE, evEs, evEo, evC, evI, R.bind, R.obind, slotD, pu, truth, bindO, bindT, setMany, leave, ty_beq, tyEq, isCI, yes, i3, i4, s1, s2, a1, a2, p1, mkTup, allP, Option.map_some, List.map_cons, List.map_nil, List.length_cons, List.length_nil, List.replicate_succ, List.replicate_zero, List.cons_append, List.nil_append, List.getElem?_cons_zero, List.getElem?_cons_succ, List.set_cons_zero, List.set_cons_succ, Nat.reduceAdd, Nat.reduceSub, if_true, Bool.false_eq_true, if_false, List.take_of_length_le (Nat.le_refl _)]
/-! ### what is known -/
def keyW (q : Nat) (f : List Int) : P := .tup [.int (q : Int), rowI f]
theorem ints_dep : ∀ f : List Int, depL (f.map P.int) = 0 ∧ nkOkL (f.map P.int) = true
  | [] => ⟨rfl, rfl⟩
  | x :: r => by
    obtain ⟨h1, h2⟩ := ints_dep r
    exact ⟨by simp [depL, P.dep, h1], by simp [nkOkL, nkOk, h2]⟩
theorem keyW_ok (q : Nat) (f : List Int) : okN (keyW q f) = true := by
  obtain ⟨h1, h2⟩ := ints_dep f
  simp [okN, isTP, keyW, rowI, nkOk, nkOkL, h2, P.dep, depL, h1]
theorem ints_inj : ∀ {f g : List Int}, f.map P.int = g.map P.int → f = g
  | [], [], _ => rfl
  | [], _ :: _, h => by cases h
  | _ :: _, [], h => by cases h
  | x :: f, y :: g, h => by
    simp only [List.map_cons, List.cons.injEq, P.int.injEq] at h
    rw [h.1, ints_inj h.2]
theorem keyW_inj {q q' : Nat} {f f' : List Int} (h : keyW q f = keyW q' f') : q = q' ∧ f = f' := by
  simp only [keyW, rowI, P.tup.injEq, List.cons.injEq, P.int.injEq, and_true] at h
  exact ⟨by omega, ints_inj h.2⟩
theorem look_app : ∀ {ks ps : List P} {x y z v : P}, ks.length = ps.length → lookN (ks ++ [x]) (ps ++ [y]) z = some v → (z = x ∧ v = y) ∨ lookN ks ps z = some v
  | [], [], x, y, z, v, _, h => by
    simp only [List.nil_append, lookN] at h
    split at h
    · rename_i e; cases h; exact .inl ⟨e.symm, rfl⟩
    · cases h
  | k :: ks, p :: ps, x, y, z, v, hl, h => by
    simp only [List.cons_append, lookN] at h ⊢
    split at h
    · rename_i e; rw [if_pos e]; exact .inr h
    · rename_i e; rw [if_neg e]; exact look_app (by simpa using hl) h
  | [], _ :: _, _, _, _, _, hl, _ => by cases hl
  | _ :: _, [], _, _, _, _, hl, _ => by cases hl
theorem look_put : ∀ {ks ps : List P} {x y z v : P}, lookN ks (putN ks ps x y) z = some v → (z = x ∧ v = y) ∨ lookN ks ps z = some v
  | [], _, _, _, _, _, h => by simp [putN, lookN] at h
  | _ :: _, [], _, _, _, _, h => by simp [putN, lookN] at h
  | k :: ks, p :: ps, x, y, z, v, h => by
    simp only [putN, lookN] at h ⊢
    split at h
    · rename_i e
      cases h
      by_cases e2 : k = x
      · rw [if_pos e2]; exact .inl ⟨by rw [← e, e2], rfl⟩
      · rw [if_neg e2, if_pos e]; exact .inr rfl
    · rename_i e; rw [if_neg e]; exact look_put h
theorem put_len : ∀ {ks ps : List P} {x y : P}, ks.length = ps.length → (putN ks ps x y).length = ks.length
  | [], [], _, _, _ => rfl
  | k :: ks, p :: ps, x, y, h => by simp only [putN, List.length_cons]; rw [put_len (by simpa using h)]
  | [], _ :: _, _, _, h => by cases h
  | _ :: _, [], _, _, h => by cases h
theorem look_mem : ∀ {ks ps : List P} {z : P}, ks.length = ps.length → z ∈ ks → ∃ v, lookN ks ps z = some v
  | k :: ks, p :: ps, z, hl, h => by
    simp only [lookN]
    by_cases e : k = z
    · exact ⟨p, by rw [if_pos e]⟩
    · rw [if_neg e]
      exact look_mem (by simpa using hl) ((List.mem_cons.mp h).resolve_left fun q => e q.symm)
  | [], [], _, _, h => by cases h
  | [], _ :: _, _, hl, _ => by cases hl
  | _ :: _, [], _, hl, _ => by cases hl
/-- no more keys than there can be -/
theorem nodup_le : ∀ {K l : List P}, l.Nodup → (∀ x ∈ l, x ∈ K) → l.length ≤ K.length
  | [], l, _, h => by
    cases l with
    | nil => simp
    | cons x r => exact absurd (h x List.mem_cons_self) (by simp)
  | k :: K, l, nd, h => by
    by_cases hk : k ∈ l
    · have h1 := nodup_le (K := K) (l := l.erase k) (nd.erase k) fun x hx => by
        have h2 := (nd.mem_erase_iff).mp hx
        exact (List.mem_cons.mp (h x h2.2)).resolve_left h2.1
      rw [List.length_erase_of_mem hk] at h1
      have := List.length_pos_of_mem hk
      rw [List.length_cons]; omega
    · have h1 := nodup_le (K := K) nd fun x hx => (List.mem_cons.mp (h x hx)).resolve_left fun e => hk (e ▸ hx)
      rw [List.length_cons]; omega
def frs : Nat → List (List Int)
  | 0 => [[]]
  | e + 1 => [0, 1, 2, 3, 4, 5].flatMap fun x => (frs e).map (x :: ·)
theorem frs_len : ∀ e : Nat, (frs e).length = 6 ^ e
  | 0 => rfl
  | e + 1 => by
    simp only [frs, List.flatMap_cons, List.flatMap_nil, List.length_append, List.length_map, List.length_nil, frs_len e, Nat.pow_succ]
    omega
theorem mem_frs : ∀ {e : Nat} {f : List Int}, FrOk e f → f ∈ frs e
  | 0, f, h => by
    have := List.length_eq_zero_iff.mp h.len
    subst this; simp [frs]
  | e + 1, f, h => by
    cases f with
    | nil => have := h.len; simp at this
    | cons x r =>
      have hx := h.bd x List.mem_cons_self
      have hr := mem_frs (e := e) (f := r) ⟨by have := h.len; simpa using this, fun y hy => h.bd y (List.mem_cons_of_mem _ hy)⟩
      have h6 : x ∈ ([0, 1, 2, 3, 4, 5] : List Int) := by
        simp only [List.mem_cons, List.not_mem_nil, or_false]; omega
      exact List.mem_flatMap.mpr ⟨x, h6, List.mem_map.mpr ⟨r, hr, rfl⟩⟩
def keysAll (e : Nat) : List P := (List.range 16).flatMap fun q => (frs e).map (keyW q)
theorem keysW_len {e : Nat} (h : e ≤ 4) : (keysAll e).length ≤ 20736 := by
  have h1 : (keysAll e).length = 16 * 6 ^ e := by
    simp only [keysAll, List.length_flatMap, List.length_map, frs_len]
    rw [show (List.map (fun _ : Nat => 6 ^ e) (List.range 16)).sum = 16 * 6 ^ e from by
      simp [List.range_succ, List.range_zero]; omega]
  rw [h1]
  have : 6 ^ e ≤ 6 ^ 4 := Nat.pow_le_pow_right (by omega) h
  omega
structure Kn (L : List (Int × Int)) (e : Nat) (ks ps : List P) : Prop where
  len : ks.length = ps.length
  nd : ks.Nodup
  keys : ∀ x ∈ ks, ∃ q f, x = keyW q f ∧ q < 16 ∧ FrOk e f
  vals : ∀ q f v, lookN ks ps (keyW q f) = some v → v = .int (ways L (L.length - q) q f)
theorem Kn.room {L : List (Int × Int)} {e : Nat} {ks ps : List P} (h : Kn L e ks ps) (he : e ≤ 4) : ks.length < LIM := by
  have := nodup_le (K := keysAll e) h.nd fun x hx => by
    obtain ⟨q, f, rfl, hq, hf⟩ := h.keys x hx
    exact List.mem_flatMap.mpr ⟨q, List.mem_range.mpr hq, List.mem_map.mpr ⟨f, mem_frs hf, rfl⟩⟩
  have h2 := keysW_len he
  unfold LIM; omega
theorem Kn.more {L : List (Int × Int)} {e : Nat} {ks ps : List P} (h : Kn L e ks ps) {q : Nat} {f : List Int} (hq : q < 16) (hf : FrOk e f) :
    ∃ ks' ps', moreN ks ps (keyW q f) (.int (ways L (L.length - q) q f)) = .dN ks' ps' ∧ Kn L e ks' ps' ∧ keyW q f ∈ ks' := by
  unfold moreN
  by_cases hm : keyW q f ∈ ks
  · rw [if_pos hm]
    refine ⟨_, _, rfl, ⟨(put_len h.len).symm, h.nd, h.keys, fun q' f' v hv => ?_⟩, hm⟩
    rcases look_put hv with ⟨e1, e2⟩ | hv
    · obtain ⟨rfl, rfl⟩ := keyW_inj e1
      exact e2
    · exact h.vals _ _ _ hv
  · rw [if_neg hm]
    refine ⟨_, _, rfl, ⟨by simp [h.len], ?_, fun x hx => ?_, fun q' f' v hv => ?_⟩, by simp⟩
    · rw [List.nodup_append]
      refine ⟨h.nd, by simp, fun a ha b hb e => ?_⟩
      rw [List.mem_singleton.mp hb] at e
      exact hm (e ▸ ha)
    · rcases List.mem_append.mp hx with hx | hx
      · exact h.keys x hx
      · exact ⟨q, f, List.mem_singleton.mp hx, hq, hf⟩
    · rcases look_app h.len hv with ⟨e1, e2⟩ | hv
      · obtain ⟨rfl, rfl⟩ := keyW_inj e1
        exact e2
      · exact h.vals _ _ _ hv
/-- what is known stands at k -/
def DOk (L : List (Int × Int)) (e k : Nat) (S : Sto) : Prop := ∃ ks ps, S[k]? = some (.dN ks ps) ∧ Kn L e ks ps
structure Onw (L : List (Int × Int)) (e k : Nat) (S S' : Sto) : Prop where
  ok : DOk L e k S'
  len : S'.length = S.length
  at_ : ∀ j, j ≠ k → S'[j]? = S[j]?
theorem Onw.trans {L : List (Int × Int)} {e k : Nat} {S S1 S2 : Sto} (a : Onw L e k S S1) (b : Onw L e k S1 S2) : Onw L e k S S2 := ⟨b.ok, b.len.trans a.len, fun j h => (b.at_ j h).trans (a.at_ j h)⟩
theorem compL_seq {stay : Sto → Bool} {turn : D → List P → Sto → R (List P)} {I : Sto → Prop} (g : D → P) : ∀ (ds : List D) (acc : List P) (S : Sto), I S → (∀ S, I S → stay S = true) → acc.length + ds.length ≤ LIM →
    (∀ d ∈ ds, ∀ (acc : List P) (S : Sto), I S → acc.length < LIM → ∃ S', turn d acc S = .ok (acc ++ [g d]) S' ∧ I S') → ∃ S', compL stay turn ds acc S = .ok (acc ++ ds.map g) S' ∧ I S'
  | [], acc, S, hI, hs, _, _ => ⟨S, by simp [compL, hs S hI], hI⟩
  | d :: ds, acc, S, hI, hs, hl, h => by
    simp only [List.length_cons] at hl
    obtain ⟨S1, e1, I1⟩ := h d List.mem_cons_self acc S hI (by omega)
    obtain ⟨S2, e2, I2⟩ := compL_seq g ds (acc ++ [g d]) S1 I1 hs (by simp only [List.length_append, List.length_cons, List.length_nil]; omega) fun e he => h e (List.mem_cons_of_mem _ he)
    refine ⟨S2, ?_, I2⟩
    unfold compL
    rw [if_pos (hs S hI), e1]
    show compL stay turn ds (acc ++ [g d]) S1 = _
    rw [e2]; simp
theorem comp_seq {C : Nat → List D → Sto → R D} {own : List Nat} {t : Tg} {src : Src} {elt : E} {env : Mx.Env} {S S0 : Sto} {ds : List D} {stay : Sto → Bool} {I : Sto → Prop} (g : D → P) (h : evI C src env S = .ok ⟨ds, stay⟩ S0) (hI : I S0) (hs : ∀ S, I S → stay S = true) (hl : ds.length ≤ LIM)
    (he : ∀ d ∈ ds, ∀ S, I S → ∃ env1, bindT t d (wipeE env own) = some env1 ∧ ∃ S', evE C elt env1 S = .ok (.p (g d)) S' ∧ I S') : ∃ S', evE C (.comp own t src .none elt) env S = .ok (.p (.lst (ds.map g))) S' ∧ I S' := by
  obtain ⟨S', e, h1⟩ := compL_seq (stay := stay) (turn := turnC t own (evC C .none) (oneMore (evE C elt)) env) (I := I) g ds [] S0 hI hs (by simpa using hl) fun d hd acc S hS ha => by
    obtain ⟨env1, e1, S', e2, h1⟩ := he d hd S hS
    exact ⟨S', by simp [turnC, e1, evC, R.bind, oneMore, e2, ha], h1⟩
  refine ⟨S', ?_, h1⟩
  simp only [evE, h, R.bind]
  rw [e]
  rfl
theorem ints_of_map : ∀ xs : List Int, intsOf (xs.map P.int) = some xs
  | [] => rfl
  | x :: r => by simp [intsOf, ints_of_map r]
theorem idx_key {ks ps : List P} {q : Nat} {f : List Int} (hk : S[k]? = some (.dN ks ps)) : index (.mu k) (.p (keyW q f)) S = (lookN ks ps (keyW q f)).map .p := by
  have dn : dictN (.mu k) S = some (ks, ps) := by simp [dictN, hk]
  have ok := keyW_ok q f
  show index (.mu k) (.p (.tup [.int (q : Int), rowI f])) S = _
  unfold keyW at ok
  simp only [index, dn, ok, if_true]
  rfl
def cmpW : E := .comp [5] (.nm 5) (.of (.call 109 (.cons (.var 0) (.cons (.var 2) (.cons (.var 3) .nil))))) .none (.call 111 (.cons (.var 0) (.cons (.var 1) (.cons (.bin .add (.var 2) (.lit (.int 1))) (.cons (.call 108 (.cons (.var 3) (.cons (.var 2) (.cons (.var 5) .nil)))) .nil)))))
theorem onward_cut : f_many_onward = { np := 4, nN := 6, keep := false, body := (.cons (.iff (.cmp .eq (.var 2) (.blt .len (.cons (.var 0) .nil))) (.cons (.ret (.lit (.int 1))) .nil) .nil) (.cons (.asg (.nm 4) (.tup (.cons (.var 2) (.cons (.var 3) .nil)))) (.cons (.iff (.cmp .nin (.var 4) (.var 1)) (.cons (.set (.var 1) (.var 4) (.blt .sum (.cons cmpW .nil))) .nil) .nil) (.cons (.ret (.idx (.var 1) (.var 4))) .nil)))) } := rfl
theorem onward_ok [h108 : Has tab 108 f_filled] [h109 : Has tab 109 f_pounds_let] [h111 : Has tab 111 f_many_onward] {L : List (Int × Int)} {e : Nat} (hL : LimOk L) (he : e ≤ 4) : ∀ (r q : Nat) (f : List Int) (S : Sto), q + r = L.length → FrOk e f → (0 < r → 0 < e) → DOk L e k S →
    ∃ S', CN tab (n + r + 2) 111 [.p (limsP L), .mu k, .p (.int (q : Int)), .p (rowI f)] S = .ok (.p (.int (ways L r q f))) S' ∧ Onw L e k S S'
  | 0, q, f, S, hq, hf, _, hD => by
    refine ⟨S, ?_, ⟨hD, rfl, fun _ _ => rfl⟩⟩
    rw [h111.eq, onward_cut]
    have hq' : q = L.length := by omega
    have i0 : bltop .len [.p (limsP L)] S = some (.int (L.length : Int)) := by simp [bltop, lenD, items, limsP]
    subst hq'
    simp [runF, evSs, evS, evE, evEs, evEo, evC, evI, R.bind, R.obind, slotD, pu, truth, bindO, bindT, setMany, leave, ty_beq, tyEq, isCI, yes, i0, cmpop, view, eqP, scalar, P.eqv, ways]
  | r + 1, q, f, S, hq, hf, h0, hD => by
    rw [show n + (r + 1) + 2 = n + r + 2 + 1 from by omega]
    have e0 := h0 (by omega)
    have hl16 := hL.len
    obtain ⟨ks, ps, hk, kn⟩ := hD
    have i0 : ∀ S, bltop .len [.p (limsP L)] S = some (.int (L.length : Int)) := fun S => by simp [bltop, lenD, items, limsP]
    have ne : ((q : Int) == (L.length : Int)) = false := by simp; omega
    have c0 : ∀ S, cmpop .eq (.p (.int (q : Int))) (.p (.int (L.length : Int))) S = some false := fun S => by simp [cmpop, view, eqP, scalar, P.eqv, ne]
    have eL : L.length - q = r + 1 := by omega
    have wy : ways L (L.length - q) q f = ways L (r + 1) q f := by rw [eL]
    have dn : dictN (.mu k) S = some (ks, ps) := by simp [dictN, hk]
    have kk : D.p (.tup [.int (q : Int), rowI f]) = .p (keyW q f) := rfl
    by_cases hm : keyW q f ∈ ks
    · refine ⟨S, ?_, ⟨⟨ks, ps, hk, kn⟩, rfl, fun _ _ => rfl⟩⟩
      rw [h111.eq, onward_cut]
      obtain ⟨v, hv⟩ := look_mem kn.len hm
      have := kn.vals _ _ _ hv
      subst this
      have c1 : cmpop .nin (.p (keyW q f)) (.mu k) S = some false := by simp [cmpop, dn, inN, keyW_ok, hm]
      have ix : index (.mu k) (.p (keyW q f)) S = some (.p (.int (ways L (L.length - q) q f))) := by
        rw [idx_key hk, hv]; rfl
      rw [wy] at ix
      simp [runF, evSs, evS, evE, evEs, evEo, evC, evI, R.bind, R.obind, slotD, pu, truth, bindO, bindT, setMany, leave, ty_beq, tyEq, isCI, yes, i0, c0, mkTup, allP, kk, c1, ix]
    · have c1 : cmpop .nin (.p (keyW q f)) (.mu k) S = some true := by simp [cmpop, dn, inN, keyW_ok, hm]
      have ep := plet_ok (tab := tab) (n := n + r + 1) (S := S) hL hf e0 (show q < L.length by omega)
      have pl : (pletL L q f).length ≤ LIM := by
        have b1 := low_bd (q := q) hL hf
        have b2 := high_bd (q := q) hL hf
        simp only [pletL, spanI, List.length_map, List.length_range]
        unfold LIM; omega
      obtain ⟨S2, ec, on⟩ := comp_seq (C := CN tab (n + r + 2)) (own := [5]) (t := .nm 5) (src := .of (.call 109 (.cons (.var 0) (.cons (.var 2) (.cons (.var 3) .nil))))) (elt := .call 111 (.cons (.var 0) (.cons (.var 1) (.cons (.bin .add (.var 2) (.lit (.int 1))) (.cons (.call 108 (.cons (.var 3) (.cons (.var 2) (.cons (.var 5) .nil)))) .nil)))))
        (env := [some (.p (limsP L)), some (.mu k), some (.p (.int (q : Int))), some (.p (rowI f)), some (.p (keyW q f)), none]) (S := S) (S0 := S) (I := fun S' => Onw L e k S S') (ds := ((pletL L q f).map P.int).map .p) (stay := still (.p (.lst ((pletL L q f).map P.int))) S)
        (fun d => match d with | .p (.int p) => .int (ways L r (q + 1) (fil f q p)) | _ => .non)
        (by simp [runF, evSs, evS, evE, evEs, evEo, evC, evI, R.bind, R.obind, slotD, pu, truth, bindO, bindT, setMany, leave, ty_beq, tyEq, isCI, yes, ep, items]) ⟨⟨ks, ps, hk, kn⟩, rfl, fun _ _ => rfl⟩ (fun _ _ => rfl) (by simpa using pl) fun dd hdd S1 h1 => by
          obtain ⟨y, hy, rfl⟩ := List.mem_map.mp hdd
          obtain ⟨p, hp, rfl⟩ := List.mem_map.mp hy
          have hp2 := plet_bd hL hf hp
          have ef := filled_ok (tab := tab) (n := n + r + 1) (S := S1) (q := q) (p := p) hf e0 he
          obtain ⟨S2, e2, on2⟩ := onward_ok hL he r (q + 1) (fil f q p) S1 (by omega) (fil_ok hf e0 hp2) (fun _ => e0) h1.ok
          refine ⟨_, rfl, S2, ?_, h1.trans on2⟩
          have eq : (((q + 1 : Nat)) : Int) = (q : Int) + 1 := by omega
          rw [eq] at e2
          simp [runF, evSs, evS, evE, evEs, evEo, evC, evI, R.bind, R.obind, slotD, pu, truth, bindO, bindT, setMany, leave, ty_beq, tyEq, isCI, yes, wipeE, binop, ef, e2]
      obtain ⟨ks2, ps2, hk2, kn2⟩ := on.ok
      obtain ⟨ks3, ps3, hmo, kn3, hm3⟩ := kn2.more (show q < 16 by omega) hf
      have rm := kn2.room he
      have ok := keyW_ok q f
      have hkl : k < S2.length := (List.getElem?_eq_some_iff.mp hk2).1
      have wk : wr (.mu k) (.p (keyW q f)) (.p (.int (ways L (r + 1) q f))) S2 = some (S2.set k (.dN ks3 ps3)) := by
        show wr (.mu k) (.p (.tup [.int (q : Int), rowI f])) (.p (.int (ways L (r + 1) q f))) S2 = _
        unfold keyW at ok hmo
        rw [eL] at hmo
        simp only [wr, hk2, ok, decide_eq_true rm, Bool.and_self, if_true, hmo]
      have hk3 : (S2.set k (.dN ks3 ps3))[k]? = some (.dN ks3 ps3) := by rw [List.getElem?_set_self hkl]
      obtain ⟨v, hv⟩ := look_mem kn3.len hm3
      have := kn3.vals _ _ _ hv
      subst this
      have ix : index (.mu k) (.p (keyW q f)) (S2.set k (.dN ks3 ps3)) = some (.p (.int (ways L (L.length - q) q f))) := by
        rw [idx_key hk3, hv]; rfl
      rw [wy] at ix
      refine ⟨S2.set k (.dN ks3 ps3), ?_, ⟨⟨ks3, ps3, hk3, kn3⟩, by rw [List.length_set]; exact on.len, fun j hj => by rw [List.getElem?_set_ne (Ne.symm hj)]; exact on.at_ j hj⟩⟩
      obtain ⟨W, hW⟩ : ∃ W, W = (pletL L q f).map fun p => ways L r (q + 1) (fil f q p) := ⟨_, rfl⟩
      have hsum : W.sum = ways L (r + 1) q f := by rw [hW]; rfl
      have em : (((pletL L q f).map P.int).map D.p |>.map fun d => match d with | D.p (.int p) => P.int (ways L r (q + 1) (fil f q p)) | _ => .non) = W.map P.int := by
        rw [hW, List.map_map, List.map_map, List.map_map]; rfl
      rw [em] at ec
      have es : ∀ S, bltop .sum [.p (.lst (W.map P.int))] S = some (.int (ways L (r + 1) q f)) := fun S => by
        simp only [bltop, asList, ints_of_map, Option.map_some, hsum]
      rw [h111.eq, onward_cut]
      have ec' : evE (CN tab (n + r + 2)) cmpW [some (.p (limsP L)), some (.mu k), some (.p (.int (q : Int))), some (.p (rowI f)), some (.p (keyW q f)), none] S = _ := ec
      have lt : List.take S.length (S2.set k (.dN ks3 ps3)) = S2.set k (.dN ks3 ps3) := List.take_of_length_le (by rw [List.length_set, on.len]; exact Nat.le_refl _)
      simp [runF, evSs, evS, evE, evEs, evEo, evC, evI, R.bind, R.obind, slotD, pu, truth, bindO, bindT, setMany, leave, ty_beq, tyEq, isCI, yes, i0, c0, mkTup, allP, kk, c1, ec', es, wk, ix, lt]
theorem within_ok [h107 : Has tab 107 f_first_front] [h108 : Has tab 108 f_filled] [h109 : Has tab 109 f_pounds_let] [h110 : Has tab 110 f_many_within] [h111 : Has tab 111 f_many_onward] {L : List (Int × Int)} (h : Can l u d) (hL : LimOk L) (h0 : 0 < L.length → 0 < d.toNat) : CN tab (n + L.length + 3) 110 [.p (can l u d), .p (limsP L)] S = .ok (.p (.int (ways L L.length 0 (List.replicate d.toNat l)))) S := by
  rw [h110.eq]
  have hd2 := h.d2
  have hl1 := h.l1
  have hl2 := h.l2
  have rp := fun S => rep_tup (S := S) (x := P.int l) h.d1 h.d2
  have ef : ∀ S, CN tab (n + L.length + 2) 107 [.p (can l u d)] S = .ok (.p (rowI (List.replicate d.toNat l))) S := fun S => by
    rw [h107.eq]
    have er : rowI (List.replicate d.toNat l) = .tup (List.replicate d.toNat (.int l)) := by simp [rowI]
    rw [er]
    simp [f_first_front, runF, evSs, evS, evE, evEs, evEo, evC, evI, R.bind, R.obind, slotD, pu, truth, bindO, bindT, setMany, leave, ty_beq, tyEq, isCI, yes, can, items, mkTup, allP, rp]
  obtain ⟨S', e1, on⟩ := onward_ok (tab := tab) (n := n) (k := S.length) (e := d.toNat) hL (by omega) L.length 0 (List.replicate d.toNat l) (S ++ [.dN [] []]) (by omega) ⟨by simp, fun x hx => by have := (List.mem_replicate.mp hx).2; omega⟩ h0
    ⟨[], [], by simp, rfl, List.nodup_nil, by simp, by simp [lookN]⟩
  have hS : S'.take S.length = S := by
    refine List.ext_getElem? fun i => ?_
    rw [List.getElem?_take]
    split
    · rename_i hi
      rw [on.at_ i (by omega), List.getElem?_append_left hi]
    · rename_i hi
      rw [List.getElem?_eq_none (by omega)]
  have e1' : CN tab (n + L.length + 2) 111 [.p (limsP L), .mu S.length, .p (.int 0), .p (rowI (List.replicate d.toNat l))] (S ++ [.dN [] []]) = .ok (.p (.int (ways L L.length 0 (List.replicate d.toNat l)))) S' := e1
  simp [f_many_within, runF, evSs, evS, evE, evEs, evEo, evC, evI, R.bind, R.obind, slotD, pu, truth, bindO, bindT, setMany, leave, ty_beq, tyEq, isCI, yes, ef, e1', hS]
end Mx
end

section
set_option Elab.async false
set_option linter.all false
set_option maxRecDepth 100000
set_option autoImplicit false
set_option maxHeartbeats 4000000
namespace Mx
open PySem L2
/-! ### all ways, one by one -/
def comps (L : List (Int × Int)) : Nat → Nat → List Int → List (List Int)
  | 0, _, _ => [[]]
  | r + 1, q, f => (pletL L q f).flatMap fun p => (comps L r (q + 1) (fil f q p)).map (p :: ·)
def fills : List Int → Nat → List Int → List Int
  | f, _, [] => f
  | f, q, x :: xs => fills (fil f q x) (q + 1) xs
theorem sum_cast {α : Type} (g : α → Nat) : ∀ xs : List α, (((xs.map g).sum : Nat) : Int) = (xs.map fun x => (g x : Int)).sum
  | [] => rfl
  | x :: r => by simp only [List.map_cons, List.sum_cons]; rw [← sum_cast g r]; omega
theorem ways_comps (L : List (Int × Int)) : ∀ (r q : Nat) (f : List Int), ways L r q f = ((comps L r q f).length : Int)
  | 0, _, _ => rfl
  | r + 1, q, f => by
    simp only [ways, comps, List.length_flatMap, List.length_map]
    rw [sum_cast]
    congr 2
    funext p
    exact ways_comps L r (q + 1) (fil f q p)
theorem sum_flat {α β : Type} (g : α → List β) (h : β → Int) : ∀ l : List α, ((l.flatMap g).map h).sum = (l.map fun a => ((g a).map h).sum).sum
  | [] => rfl
  | a :: l => by simp only [List.flatMap_cons, List.map_append, List.sum_append, List.map_cons, List.sum_cons, sum_flat g h l]
theorem ways_split (L : List (Int × Int)) (r : Nat) : ∀ (s q : Nat) (f : List Int), ways L (s + r) q f = ((comps L s q f).map fun xs => ways L r (q + s) (fills f q xs)).sum
  | 0, q, f => by simp [comps, fills]
  | s + 1, q, f => by
    rw [show s + 1 + r = (s + r) + 1 from by omega]
    simp only [ways, comps]
    rw [sum_flat]
    congr 2
    funext p
    rw [ways_split L r s (q + 1) (fil f q p), List.map_map]
    congr 2
    funext xs
    simp only [Function.comp_def, fills]
    rw [show q + 1 + s = q + (s + 1) from by omega]
theorem fil_cut {f : List Int} {q : Nat} {p : Int} {e : Nat} (hf : f.length = e) : fil f q p = f.take (q % e) ++ [p] ++ f.drop (q % e + 1) := by
  subst hf; rfl
theorem fil_len {f : List Int} {q : Nat} {p : Int} {e : Nat} (hf : f.length = e) (he : 0 < e) : (fil f q p).length = e := by
  have := Nat.mod_lt q he
  rw [fil_cut hf]
  simp; omega
theorem fills_row {e : Nat} : ∀ (xs f : List Int) (q : Nat), f.length = e → 0 < e → q % e + xs.length ≤ e → fills f q xs = f.take (q % e) ++ xs ++ f.drop (q % e + xs.length)
  | [], f, q, _, _, _ => by simp [fills]
  | x :: xs, f, q, hf, he, h => by
    simp only [List.length_cons] at h
    have hm := Nat.mod_lt q he
    have hfl := fil_len (q := q) (p := x) hf he
    have hfc := fil_cut (q := q) (p := x) hf
    simp only [fills]
    by_cases hx : xs = []
    · subst hx
      simp only [fills, List.length_cons, List.length_nil, Nat.zero_add]
      rw [hfc]
    · have h1 : 0 < xs.length := List.length_pos_iff.mpr hx
      have hq : (q + 1) % e = q % e + 1 := by
        rw [Nat.add_mod]
        have : 1 % e = 1 := Nat.mod_eq_of_lt (by omega)
        rw [this, Nat.mod_eq_of_lt (by omega)]
      rw [fills_row xs (fil f q x) (q + 1) hfl he (by rw [hq]; omega), hq, hfc]
      have ht : (f.take (q % e)).length = q % e := by rw [List.length_take]; omega
      have t1 : (f.take (q % e) ++ [x] ++ f.drop (q % e + 1)).take (q % e + 1) = f.take (q % e) ++ [x] := by
        rw [List.take_append_of_le_length (by simp; omega), List.take_of_length_le (by simp; omega)]
      have t2 : (f.take (q % e) ++ [x] ++ f.drop (q % e + 1)).drop (q % e + 1 + xs.length) = f.drop (q % e + (x :: xs).length) := by
        rw [List.drop_append, List.drop_eq_nil_of_le (by simp; omega), List.nil_append, List.drop_drop]
        congr 1
        simp; omega
      rw [t1, t2]
      simp
/-- the rows within bounds, none falling -/
def rowsE : List (Int × Int) → List Int → Int → List (List Int)
  | w :: ws, u :: us, p => (spanI (if w.1 < p then p else w.1) ((if u < w.2 then u else w.2) + 1)).flatMap fun x => (rowsE ws us x).map (x :: ·)
  | _, _, _ => [[]]
theorem comps_row {L : List (Int × Int)} (hL : LimOk L) {e : Nat} : ∀ (s q : Nat) (f : List Int), f.length = e → 0 < s → q % e + s = e → q + s ≤ L.length →
    comps L s q f = rowsE ((L.drop q).take s) (f.drop (q % e)) (if 0 < q % e then f.getD (q % e - 1) 0 else 0)
  | s + 1, q, f, hf, _, hs, hl => by
    have he : 0 < e := by omega
    have hm := Nat.mod_lt q he
    have hql : q < L.length := by omega
    have d1 : (L.drop q).take (s + 1) = L.getD q (0, 0) :: (L.drop (q + 1)).take s := by
      rw [List.drop_eq_getElem_cons hql, List.take_succ_cons]
      simp [hql]
    have d2 : f.drop (q % e) = f.getD (q % e) 0 :: f.drop (q % e + 1) := by
      rw [List.drop_eq_getElem_cons (by omega)]
      simp [show q % e < f.length from by omega]
    rw [d1, d2]
    simp only [comps, rowsE]
    have hg := hL.get q
    have ep : pletL L q f = spanI (if (L.getD q (0, 0)).1 < (if 0 < q % e then f.getD (q % e - 1) 0 else 0) then (if 0 < q % e then f.getD (q % e - 1) 0 else 0) else (L.getD q (0, 0)).1) ((if f.getD (q % e) 0 < (L.getD q (0, 0)).2 then f.getD (q % e) 0 else (L.getD q (0, 0)).2) + 1) := by
      unfold pletL lowOf highOf
      rw [hf]
      by_cases h : 0 < q % e
      · simp only [if_pos h]
      · have hn : ¬ (L.getD q (0, 0)).1 < 0 := by omega
        simp only [if_neg h, if_neg hn]
    rw [ep]
    congr 1
    funext x
    congr 1
    by_cases h0 : s = 0
    · subst h0
      simp [comps, rowsE]
    · have hq : (q + 1) % e = q % e + 1 := by
        rw [Nat.add_mod]
        have : 1 % e = 1 := Nat.mod_eq_of_lt (by omega)
        rw [this, Nat.mod_eq_of_lt (by omega)]
      have hfc := fil_cut (q := q) (p := x) hf
      have ht : (f.take (q % e)).length = q % e := by rw [List.length_take]; omega
      rw [comps_row hL s (q + 1) (fil f q x) (fil_len hf he) (by omega) (by omega) (by omega), hq, if_pos (by omega)]
      have e1 : (fil f q x).drop (q % e + 1) = f.drop (q % e + 1) := by
        rw [hfc, List.drop_append, List.drop_eq_nil_of_le (by simp; omega), List.nil_append]
        have : q % e + 1 - (List.take (q % e) f ++ [x]).length = 0 := by simp; omega
        rw [this]; rfl
      have e2 : (fil f q x).getD (q % e + 1 - 1) 0 = x := by
        rw [hfc, Nat.add_sub_cancel, List.getD_eq_getElem?_getD, List.append_assoc, List.getElem?_append_right (by omega)]
        simp [ht]
      rw [e1, e2]
  | 0, _, _, _, h, _, _ => absurd h (by omega)
/-! ### a canal's tables, row by row -/
def leR : List Int → List Int → Bool
  | x :: xs, y :: ys => (match x, y with | .ofNat a, .ofNat b => Nat.ble a b | _, _ => decide (x ≤ y)) && leR xs ys
  | _, _ => true
theorem ble_le (x y : Int) : (match x, y with | .ofNat a, .ofNat b => Nat.ble a b | _, _ => decide (x ≤ y)) = decide (x ≤ y) := by
  split
  · rename_i a b
    by_cases h : a ≤ b
    · rw [Nat.ble_eq.mpr h]
      exact (decide_eq_true (show Int.ofNat a ≤ Int.ofNat b from Int.ofNat_le.mpr h)).symm
    · have h1 : Nat.ble a b = false := by
        rw [Bool.eq_false_iff]; exact fun e => h (Nat.le_of_ble_eq_true e)
      rw [h1]
      exact (decide_eq_false (show ¬ Int.ofNat a ≤ Int.ofNat b from fun e => h (Int.ofNat_le.mp e))).symm
  · rfl
theorem leR_cons (x y : Int) (xs ys : List Int) : leR (x :: xs) (y :: ys) = (decide (x ≤ y) && leR xs ys) := by
  show ((match x, y with | .ofNat a, .ofNat b => Nat.ble a b | _, _ => decide (x ≤ y)) && leR xs ys) = _
  rw [ble_le]
theorem span_split {a b c : Int} (h1 : a ≤ c) (h2 : c ≤ b) : spanI a b = spanI a c ++ spanI c b := by
  refine List.ext_getElem (by simp [spanI]; omega) fun i h3 h4 => ?_
  simp only [spanI, List.length_map, List.length_range] at h3
  by_cases hi : i < (c - a).toNat
  · rw [List.getElem_append_left (by simpa [spanI] using hi)]
    simp [spanI]
  · rw [List.getElem_append_right (by simp [spanI]; omega)]
    simp [spanI]; omega
theorem span_nil {a b : Int} (h : b ≤ a) : spanI a b = [] := by
  have : (b - a).toNat = 0 := by omega
  simp [spanI, this]
theorem flat_cut {β : Type} (g : Int → List β) (v a b : Int) : (spanI a b).flatMap (fun x => if x ≤ v then g x else []) = (spanI a (if v + 1 < b then v + 1 else b)).flatMap g := by
  have h1 : ∀ l : List Int, (∀ x ∈ l, x ≤ v) → l.flatMap (fun x => if x ≤ v then g x else []) = l.flatMap g := fun l hl => by
    rw [List.flatMap_def, List.flatMap_def]
    congr 1
    exact List.map_congr_left fun x hx => if_pos (hl x hx)
  have h2 : ∀ l : List Int, (∀ x ∈ l, ¬ x ≤ v) → l.flatMap (fun x => if x ≤ v then g x else []) = [] := fun l hl => by
    rw [List.flatMap_eq_nil_iff]
    exact fun x hx => if_neg (hl x hx)
  by_cases hv : v + 1 < b
  · rw [if_pos hv]
    by_cases ha : a ≤ v + 1
    · rw [span_split ha (Int.le_of_lt hv), List.flatMap_append, h1 _ fun x hx => by have := mem_span.mp hx; omega, h2 _ fun x hx => by have := mem_span.mp hx; omega, List.append_nil]
    · rw [span_nil (b := v + 1) (by omega), h2 _ fun x hx => by have := mem_span.mp hx; omega]
      rfl
  · rw [if_neg hv]
    exact h1 _ fun x hx => by have := mem_span.mp hx; omega
/-- the rows below a lesser bound -/
theorem rowsE_le : ∀ (ws : List (Int × Int)) (us vs : List Int) (p : Int), ws.length = us.length → us.length = vs.length → (∀ i : Nat, vs.getD i 0 ≤ us.getD i 0) → rowsE ws vs p = (rowsE ws us p).filter (fun xs => leR xs vs)
  | [], [], [], p, _, _, _ => rfl
  | w :: ws, u :: us, v :: vs, p, h1, h2, h => by
    have hv : v ≤ u := h 0
    simp only [rowsE]
    rw [List.filter_flatMap]
    have e1 : ∀ x : Int, ((rowsE ws us x).map (x :: ·)).filter (fun xs => leR xs (v :: vs)) = if x ≤ v then (rowsE ws vs x).map (x :: ·) else [] := fun x => by
      rw [List.filter_map]
      by_cases hx : x ≤ v
      · rw [if_pos hx, rowsE_le ws us vs x (by simpa using h1) (by simpa using h2) fun i => by have := h (i + 1); simpa using this]
        congr 2
        funext xs
        simp [Function.comp_def, leR_cons, hx]
      · rw [if_neg hx]
        have : (rowsE ws us x).filter ((fun xs => leR xs (v :: vs)) ∘ (x :: ·)) = [] := by
          rw [List.filter_eq_nil_iff]
          intro a _
          simp [leR_cons, hx]
        rw [this]; rfl
    have e2 : (fun x : Int => ((rowsE ws us x).map (x :: ·)).filter (fun xs => leR xs (v :: vs))) = fun x => if x ≤ v then (rowsE ws vs x).map (x :: ·) else [] := funext e1
    rw [e2, flat_cut]
    congr 1
    congr 1
    by_cases a1 : u < w.2
    · rw [if_pos a1, if_pos (show v < w.2 by omega)]; split <;> omega
    · rw [if_neg a1]
      by_cases a2 : v < w.2
      · rw [if_pos a2, if_pos (by omega)]
      · rw [if_neg a2, if_neg (by omega)]
def rowsW (l : Int) (e : Nat) : List (List Int) := rowsE (List.replicate e (0, l)) (List.replicate e l) 0
def sumLe (f : List Int) : List (List Int) → List Int → Int
  | x :: R, t :: T => (if leR x f then t else 0) + sumLe f R T
  | _, _ => 0
/-- behind i rows more -/
def layer (R : List (List Int)) : Nat → List Int
  | 0 => R.map fun _ => 1
  | i + 1 => let T := layer R i; R.map fun f => sumLe f R T
theorem sumLe_eq (f : List Int) (g : List Int → Int) : ∀ R : List (List Int), sumLe f R (R.map g) = ((R.filter fun x => leR x f).map g).sum
  | [] => rfl
  | x :: R => by
    simp only [List.map_cons, sumLe, sumLe_eq f g R, List.filter_cons]
    split <;> simp
theorem row_bd : ∀ {ws : List (Int × Int)} {us : List Int} {p : Int} {xs : List Int}, ws.length = us.length → (∀ w ∈ ws, 0 ≤ w.1) → xs ∈ rowsE ws us p → xs.length = ws.length ∧ (∀ x ∈ xs, 0 ≤ x) ∧ ∀ i : Nat, i < xs.length → xs.getD i 0 ≤ us.getD i 0
  | [], [], p, xs, _, _, h => by
    have : xs = [] := by simpa [rowsE] using h
    subst this; simp
  | w :: ws, u :: us, p, xs, hl, h0, h => by
    simp only [rowsE, List.mem_flatMap, List.mem_map] at h
    obtain ⟨x, hx, ys, hy, rfl⟩ := h
    have hx := mem_span.mp hx
    obtain ⟨h1, h2, h3⟩ := row_bd (by simpa using hl) (fun a ha => h0 a (List.mem_cons_of_mem _ ha)) hy
    have hw := h0 w List.mem_cons_self
    refine ⟨by simp [h1], fun y hy => ?_, fun i hi => ?_⟩
    · rcases List.mem_cons.mp hy with rfl | hy
      · have := hx.1; split at this <;> omega
      · exact h2 y hy
    · cases i with
      | zero => have := hx.2; simp only [List.getD_cons_zero]; split at this <;> omega
      | succ i => simpa using h3 i (by simpa using hi)
  | [], _ :: _, _, _, hl, _, _ => by cases hl
  | _ :: _, [], _, _, hl, _, _ => by cases hl
theorem rep_getD (e : Nat) (l : Int) (hl : 0 ≤ l) (i : Nat) : (List.replicate e l).getD i 0 ≤ l ∧ (i < e → (List.replicate e l).getD i 0 = l) := by
  rw [List.getD_eq_getElem?_getD]
  by_cases h : i < e
  · simp [h]
  · simp [h, hl]
def tailV (l : Int) (e : Nat) (f : List Int) : Nat → Int
  | 0 => 1
  | i + 1 => sumLe f (rowsW l e) (layer (rowsW l e) i)
theorem ways_layer {l : Int} {e : Nat} (hl : 0 ≤ l ∧ l ≤ 5) (he : 0 < e) {N : Nat} (hN : N ≤ 16) : ∀ (i q : Nat) (f : List Int), f ∈ rowsW l e → q % e = 0 → q + i * e = N →
    ways (List.replicate N (0, l)) (i * e) q f = tailV l e f i := by
  have hL : LimOk (List.replicate N (0, l)) := ⟨by simpa using hN, fun w hw => by rw [(List.mem_replicate.mp hw).2]; exact ⟨⟨by simp, by simp⟩, hl⟩⟩
  have lw : ∀ {f : List Int}, f ∈ rowsW l e → f.length = e ∧ (∀ x ∈ f, 0 ≤ x) ∧ ∀ i : Nat, i < f.length → f.getD i 0 ≤ l := fun {f} hf => by
    obtain ⟨h1, h2, h3⟩ := row_bd (by simp) (fun w hw => by rw [(List.mem_replicate.mp hw).2]; exact Int.le_refl 0) hf
    refine ⟨by simpa using h1, h2, fun i hi => ?_⟩
    exact Int.le_trans (h3 i hi) (rep_getD e l hl.1 i).1
  intro i
  induction i with
  | zero => intro q f _ _ _; simp [ways, tailV]
  | succ i ih =>
    intro q f hf hq hs
    obtain ⟨f1, f2, f3⟩ := lw hf
    have hq2 : (q + e) % e = 0 := by rw [Nat.add_mod_right]; exact hq
    have hs2 : (q + e) + i * e = N := by rw [Nat.succ_mul] at hs; omega
    have hqe : q + e ≤ N := by omega
    rw [show (i + 1) * e = e + i * e from by rw [Nat.succ_mul]; omega, ways_split]
    have ec : comps (List.replicate N (0, l)) e q f = (rowsW l e).filter fun xs => leR xs f := by
      rw [comps_row hL e q f f1 he (by omega) (by simpa using hqe), hq, if_neg (by omega)]
      have : ((List.replicate N ((0 : Int), l)).drop q).take e = List.replicate e (0, l) := by
        rw [List.drop_replicate, List.take_replicate, Nat.min_eq_left (by omega)]
      rw [this, List.drop_zero]
      refine rowsE_le _ _ _ _ (by simp) (by simp [f1]) fun j => ?_
      by_cases hj : j < e
      · rw [(rep_getD e l hl.1 j).2 hj]; exact f3 j (by omega)
      · rw [List.getD_eq_getElem?_getD, List.getD_eq_getElem?_getD]
        simp [hj, show f.length ≤ j from by omega]
    rw [ec]
    have ek : (((rowsW l e).filter fun xs => leR xs f).map fun xs => ways (List.replicate N (0, l)) (i * e) (q + e) (fills f q xs)) = ((rowsW l e).filter fun xs => leR xs f).map fun xs => ways (List.replicate N (0, l)) (i * e) (q + e) xs := by
      refine List.map_congr_left fun xs hxs => ?_
      have hx := (List.mem_filter.mp hxs).1
      obtain ⟨x1, _, _⟩ := lw hx
      rw [fills_row xs f q f1 he (by omega), hq, Nat.zero_add, List.drop_eq_nil_of_le (by omega)]
      simp
    rw [ek]
    have ew : (((rowsW l e).filter fun xs => leR xs f).map fun xs => ways (List.replicate N (0, l)) (i * e) (q + e) xs) = ((rowsW l e).filter fun xs => leR xs f).map fun xs => tailV l e xs i := by
      exact List.map_congr_left fun xs hxs => ih (q + e) xs (List.mem_filter.mp hxs).1 hq2 hs2
    rw [ew]
    cases i with
    | zero => exact (sumLe_eq f (fun _ => 1) (rowsW l e)).symm
    | succ i => exact (sumLe_eq f (fun xs => sumLe xs (rowsW l e) (layer (rowsW l e) i)) (rowsW l e)).symm
def wayT (l : Int) (u d : Nat) : Int := match u, d with
  | 0, _ => 1
  | _, 0 => 1
  | u + 1, d => sumLe (List.replicate d l) (rowsW l d) (layer (rowsW l d) u)
theorem full_mem {l : Int} (hl : 0 ≤ l) : ∀ (e : Nat) (p : Int), p ≤ l → List.replicate e l ∈ rowsE (List.replicate e (0, l)) (List.replicate e l) p
  | 0, _, _ => by simp [rowsE]
  | e + 1, p, hp => by
    simp only [List.replicate_succ, rowsE, List.mem_flatMap, List.mem_map]
    refine ⟨l, mem_span.mpr ⟨?_, ?_⟩, List.replicate e l, full_mem hl e l (Int.le_refl l), rfl⟩
    · split <;> omega
    · split <;> omega
theorem ways_wide {l : Int} {u d : Nat} (hl : 0 ≤ l ∧ l ≤ 5) (hN : u * d ≤ 16) : ways (List.replicate (u * d) (0, l)) (u * d) 0 (List.replicate d l) = wayT l u d := by
  cases u with
  | zero => simp [ways, wayT]
  | succ u =>
    cases d with
    | zero => simp [ways, wayT]
    | succ d =>
      have := ways_layer hl (Nat.succ_pos d) hN (u + 1) 0 (List.replicate (d + 1) l) (full_mem hl.1 (d + 1) 0 hl.1) (Nat.zero_mod _) (by rw [Nat.zero_add])
      exact this
end Mx
end

section
set_option Elab.async false
set_option linter.all false
set_option maxRecDepth 100000
set_option autoImplicit false
set_option maxHeartbeats 4000000
namespace Mx
open PySem L2
variable {tab : Nat → Option FD} {n : Nat} {S : Sto} {k : Nat} {l u d : Int}
/-! ### how many tables -/
def wideL (l u d : Int) : List (Int × Int) := List.replicate (u.toNat * d.toNat) (0, l)
theorem Can.nat_mul (h : Can l u d) : u.toNat * d.toNat ≤ 16 := by
  have h1 := h.u2; have h2 := h.d2
  exact Nat.le_trans (Nat.mul_le_mul (show u.toNat ≤ 4 by omega) (show d.toNat ≤ 4 by omega)) (by decide)
theorem wide_lim (h : Can l u d) : LimOk (wideL l u d) := by
  have hl := h.l1; have hl2 := h.l2
  exact ⟨by simpa [wideL] using h.nat_mul, fun w hw => by rw [(List.mem_replicate.mp hw).2]; exact ⟨⟨by simp, by simp⟩, by simp; omega⟩⟩
theorem widest_ok [h106 : Has tab 106 f_widest] (h : Can l u d) : CN tab (n + 1) 106 [.p (can l u d)] S = .ok (.p (limsP (wideL l u d))) S := by
  rw [h106.eq]
  have h1 := h.u1; have h2 := h.u2; have h3 := h.d1; have h4 := h.d2
  have h16 := h.nat_mul
  have eN : (u * d).toNat = u.toNat * d.toNat := Int.toNat_mul h1 h3
  have e0 : 0 ≤ u * d := Int.mul_nonneg h1 h3
  have el : limsP (wideL l u d) = .lst (List.replicate (u * d).toNat (.tup [.int 0, .int l])) := by simp [limsP, wideL, eN]
  have bu : bounded u = true := by unfold bounded; simp only [Bool.and_eq_true, decide_eq_true_eq]; omega
  have m1 : ∀ S, binop .mul (.p (.int u)) (.p (.int d)) S = some (.int (u * d)) := fun S => by simp [binop, bu]
  have e16 : u * d ≤ 16 := by omega
  have m2 : ∀ (S : Sto) (x : P), binop .mul (.p (.lst [x])) (.p (.int (u * d))) S = some (.lst (List.replicate (u * d).toNat x)) := fun S x => by
    have d1 : decide (-(2 ^ 63) ≤ u * d) = true := by simp only [decide_eq_true_eq]; omega
    have d2 : decide (u * d < 2 ^ 63) = true := by simp only [decide_eq_true_eq]; omega
    have d3 : decide (1 * (u * d).toNat ≤ LIM) = true := by simp only [decide_eq_true_eq]; unfold LIM; omega
    simp only [binop, asList, List.length_cons, List.length_nil, Nat.zero_add, d1, d2, d3, Bool.and_self, if_true, List.flatten_replicate_singleton]
  rw [el]
  simp [f_widest, runF, evSs, evS, evE, evEs, evEo, evC, evI, R.bind, R.obind, slotD, pu, truth, bindO, bindT, setMany, leave, ty_beq, tyEq, isCI, yes, can, items, mkTup, allP, m1, m2]
theorem many_tables_ok [h30 : Has tab 30 f_is_whole] [h31 : Has tab 31 f_is_between] [h32 : Has tab 32 f_has_parts] [h33 : Has tab 33 f_is_canal] {rs42 : St'} [h42 : Has tab 42 (f_need_canal rs42)] [h105 : Has tab 105 f_many_tables] [h106 : Has tab 106 f_widest] [h107 : Has tab 107 f_first_front] [h108 : Has tab 108 f_filled] [h109 : Has tab 109 f_pounds_let] [h110 : Has tab 110 f_many_within] [h111 : Has tab 111 f_many_onward] {M : Nat} (hM : 20 ≤ M) (h : Can l u d) : CN tab (M + 1) 105 [.p (can l u d)] S = .ok (.p (.int (wayT l u.toNat d.toNat))) S := by
  rw [h105.eq]
  have h16 := h.nat_mul
  have hl : (wideL l u d).length = u.toNat * d.toNat := by simp [wideL]
  have e1 : CN tab M 42 [.p (can l u d)] S = .ok (.p .non) S := by
    rw [show M = (M - 4) + 4 from by omega]; exact need_canal_ok h
  have e2 : CN tab M 106 [.p (can l u d)] S = .ok (.p (limsP (wideL l u d))) S := by
    rw [show M = (M - 1) + 1 from by omega]; exact widest_ok h
  have e3 : CN tab M 110 [.p (can l u d), .p (limsP (wideL l u d))] S = .ok (.p (.int (wayT l u.toNat d.toNat))) S := by
    have := within_ok (tab := tab) (n := M - ((wideL l u d).length + 3)) (S := S) h (wide_lim h) (by
      rw [hl]; intro q
      exact Nat.pos_of_mul_pos_left q)
    rw [show M - ((wideL l u d).length + 3) + (wideL l u d).length + 3 = M from by omega] at this
    rw [this, hl]
    have := ways_wide (l := l) (u := u.toNat) (d := d.toNat) ⟨by have := h.l1; omega, h.l2⟩ h16
    unfold wideL
    rw [this]
  simp [f_many_tables, runF, evSs, evS, evE, evEs, evEo, evC, evI, R.bind, R.obind, slotD, pu, truth, bindO, bindT, setMany, leave, ty_beq, tyEq, isCI, yes, e1, e2, e3]
def chkN (r : R D) (w : Int) : Bool := match r with
  | .ok (.p (.int v)) [] => decide (v = w) && (decide (0 ≤ v) && decide (v ≤ 10000000))
  | _ => false
theorem chkN_eq {r : R D} {w : Int} (h : chkN r w = true) : r = .ok (.p (.int w)) [] ∧ 0 ≤ w ∧ w ≤ 10000000 := by
  unfold chkN at h
  split at h
  · simp only [Bool.and_eq_true, decide_eq_true_eq] at h
    obtain ⟨h1, h2, h3⟩ := h
    subst h1
    exact ⟨rfl, h2, h3⟩
  · cases h
theorem productChk : canAll (fun l u d => chkN (callN (miniT [(112, f__law_by_product)]) FUEL 2 112 ([can l u d].map .p) []) (wayT l u d)) = true := by decide +kernel
theorem by_product_ok [h112 : Has tab 112 f__law_by_product] (h : Can l u d) : CN tab (n + 2) 112 [.p (can l u d)] S = .ok (.p (.int (wayT l u.toNat d.toNat))) S := by
  have h1 := h.l1; have h3 := h.u1; have h5 := h.d1
  have c := (chkN_eq (canAll_get productChk h)).1
  have e1 : ((l.toNat : Nat) : Int) = l := by omega
  have e2 : ((u.toNat : Nat) : Int) = u := by omega
  have e3 : ((d.toNat : Nat) : Int) = d := by omega
  rw [e1, e2, e3] at c
  exact call_sub (t2 := tab) (mini_cons (inferInstance : Has tab 112 _).h mini_nil) (by omega) c S
theorem way_bd (h : Can l u d) : 0 ≤ wayT l u.toNat d.toNat ∧ wayT l u.toNat d.toNat ≤ 10000000 := by
  have h1 := h.l1
  have c := (chkN_eq (canAll_get productChk h)).2
  have e1 : ((l.toNat : Nat) : Int) = l := by omega
  rwa [e1] at c
end Mx
end

section
set_option Elab.async false
set_option linter.all false
set_option maxRecDepth 100000
set_option autoImplicit false
set_option maxHeartbeats 4000000
namespace K19
open PySem L2 Mx PySem.Spec PyProof.Rows
def topS (i : Nat) : Stmt := PySem.Challenge.pw_poundmeets_k19_tables_counted.main.body.getD i (.Pass ⟨0, 0, 0, 0⟩)
def f__law_small : FD := { np := 1, nN := 2, keep := false, body := (.cons (.asg (.nm 1) (.lst (.cons (.tup (.cons (.lit (.int 1)) (.cons (.lit (.int 1)) (.cons (.lit (.int 1)) .nil)))) (.cons (.tup (.cons (.lit (.int 3)) (.cons (.lit (.int 2)) (.cons (.lit (.int 2)) .nil)))) (.cons (.tup (.cons (.lit (.int 2)) (.cons (.lit (.int 3)) (.cons (.lit (.int 2)) .nil)))) (.cons (.tup (.cons (.lit (.int 2)) (.cons (.lit (.int 2)) (.cons (.lit (.int 3)) .nil)))) (.cons (.tup (.cons (.lit (.int 4)) (.cons (.lit (.int 2)) (.cons (.lit (.int 1)) .nil)))) (.cons (.tup (.cons (.lit (.int 5)) (.cons (.lit (.int 1)) (.cons (.lit (.int 2)) .nil)))) (.cons (.tup (.cons (.lit (.int 1)) (.cons (.lit (.int 4)) (.cons (.lit (.int 3)) .nil)))) (.cons (.tup (.cons (.lit (.int 2)) (.cons (.lit (.int 0)) (.cons (.lit (.int 2)) .nil)))) (.cons (.tup (.cons (.lit (.int 3)) (.cons (.lit (.int 2)) (.cons (.lit (.int 0)) .nil)))) .nil))))))))))) (.cons (.ret (.call 37 (.cons (.var 0) (.cons (.var 1) .nil)))) .nil)) }
def f_law : FD := { np := 1, nN := 6, keep := false, body := (.cons (.for (.nm 1) (.rng (.blt .max2 (.cons (.lit (.int 1)) (.cons (.blt .min2 (.cons (.blt .len (.cons (.var 0) .nil)) (.cons (.lit (.int 4)) .nil))) .nil)))) (.cons (.asg (.nm 2) (.call 35 (.cons (.call 34 (.cons (.var 0) (.cons (.var 1) .nil))) .nil))) (.cons (.asg (.nm 3) (.call 1 (.cons (.var 2) .nil))) (.cons (.asg (.nm 4) (.blt .len (.cons (.call 84 (.cons (.var 3) .nil)) .nil))) (.cons (.iff (.orE (.cmp .ne (.var 4) (.call 112 (.cons (.var 3) .nil))) (.notE (.call 38 (.cons (.lst (.cons (.call 105 (.cons (.var 3) .nil)) (.cons (.call 105 (.cons (.var 3) .nil)) .nil))) (.cons (.lst (.cons (.var 4) (.cons (.var 4) .nil))) .nil))))) (.cons (.ret (.lit (.bl false))) .nil) .nil) (.cons (.for (.nm 5) (.rng (.lit (.int 4))) (.cons (.asg (.nm 3) (.call 39 (.cons (.var 2) (.cons (.lit (.int 5)) (.cons (.lit (.int 4)) .nil))))) (.cons (.asg (.nm 4) (.call 112 (.cons (.var 3) .nil))) (.cons (.iff (.notE (.call 38 (.cons (.lst (.cons (.call 105 (.cons (.var 3) .nil)) (.cons (.call 105 (.cons (.var 3) .nil)) .nil))) (.cons (.lst (.cons (.var 4) (.cons (.var 4) .nil))) .nil)))) (.cons (.ret (.lit (.bl false))) .nil) .nil) .nil)))) .nil)))))) (.cons (.ret (.cmp .eq (.call 105 (.cons (.tup (.cons (.lit (.int 5)) (.cons (.lit (.int 4)) (.cons (.lit (.int 4)) .nil)))) .nil)) (.call 112 (.cons (.tup (.cons (.lit (.int 5)) (.cons (.lit (.int 4)) (.cons (.lit (.int 4)) .nil)))) .nil)))) .nil)) }
def glo : Gl0 := { fns := ("law" : Str) :: ("_law_small" : Str) :: ("law" : Str) :: ("law" : Str) :: ("law" : Str) :: ("law" : Str) :: ("law" : Str) :: ("law" : Str) :: ("law" : Str) :: ("law" : Str) :: ("law" : Str) :: ("law" : Str) :: ("law" : Str) :: ("law" : Str) :: ("law" : Str) :: ("law" : Str) :: ("law" : Str) :: ("law" : Str) :: ("law" : Str) :: ("law" : Str) :: ("law" : Str) :: ("law" : Str) :: ("law" : Str) :: ("law" : Str) :: ("law" : Str) :: ("law" : Str) :: ("law" : Str) :: ("law" : Str) :: ("law" : Str) :: ("law" : Str) :: ("is_whole" : Str) :: ("is_between" : Str) :: ("has_parts" : Str) :: ("is_canal" : Str) :: ("_law_cell_at" : Str) :: ("_law_pen" : Str) :: ("_law_draw" : Str) :: ("_law_pick" : Str) :: ("_law_same" : Str) :: ("_law_canal" : Str) :: ("law" : Str) :: ("law" : Str) :: ("need_canal" : Str) :: ("law" : Str) :: ("law" : Str) :: ("law" : Str) :: ("law" : Str) :: ("law" : Str) :: ("law" : Str) :: ("law" : Str) :: ("law" : Str) :: ("law" : Str) :: ("law" : Str) :: ("law" : Str) :: ("law" : Str) :: ("law" : Str) :: ("law" : Str) :: ("law" : Str) :: ("law" : Str) :: ("law" : Str) :: ("law" : Str) :: ("law" : Str) :: ("law" : Str) :: ("law" : Str) :: ("law" : Str) :: ("law" : Str) :: ("law" : Str) :: ("law" : Str) :: ("law" : Str) :: ("law" : Str) :: ("law" : Str) :: ("law" : Str) :: ("law" : Str) :: ("law" : Str) :: ("law" : Str) :: ("law" : Str) :: ("law" : Str) :: ("law" : Str) :: ("law" : Str) :: ("law" : Str) :: ("law" : Str) :: ("law" : Str) :: ("law" : Str) :: ("_law_rows_of" : Str) :: ("_law_tables" : Str) :: ("law" : Str) :: ("law" : Str) :: ("law" : Str) :: ("law" : Str) :: ("law" : Str) :: ("law" : Str) :: ("law" : Str) :: ("law" : Str) :: ("law" : Str) :: ("law" : Str) :: ("law" : Str) :: ("law" : Str) :: ("law" : Str) :: ("law" : Str) :: ("law" : Str) :: ("law" : Str) :: ("law" : Str) :: ("law" : Str) :: ("law" : Str) :: ("law" : Str) :: ("many_tables" : Str) :: ("widest" : Str) :: ("first_front" : Str) :: ("filled" : Str) :: ("pounds_let" : Str) :: ("many_within" : Str) :: ("many_onward" : Str) :: ("_law_by_product" : Str) :: [], consts := [("MOST_LOCKS", (.int 5)), ("MOST_BOATS", (.int 4))], cls := [], imps := [], kwc := [] }
def r_is_whole : DefR := { name := "is_whole", N := ["thing"], ps := ["thing"], st := topS 4, fd := f_is_whole }
def r_is_between : DefR := { name := "is_between", N := ["thing", "least", "greatest"], ps := ["thing", "least", "greatest"], st := topS 5, fd := f_is_between }
def r_has_parts : DefR := { name := "has_parts", N := ["thing", "many"], ps := ["thing", "many"], st := topS 6, fd := f_has_parts }
def r_is_canal : DefR := { name := "is_canal", N := ["thing", "boats_fit", "locks", "ups", "downs"], ps := ["thing"], st := topS 10, fd := f_is_canal }
def r_need_canal : DefR := { name := "need_canal", N := ["canal"], ps := ["canal"], st := topS 11, fd := (f_need_canal .boom) }
def r_many_tables : DefR := { name := "many_tables", N := ["canal"], ps := ["canal"], st := topS 13, fd := f_many_tables }
def r_widest : DefR := { name := "widest", N := ["canal", "locks", "ups", "downs"], ps := ["canal"], st := topS 14, fd := f_widest }
def r_first_front : DefR := { name := "first_front", N := ["canal", "locks", "_", "downs"], ps := ["canal"], st := topS 15, fd := f_first_front }
def r_filled : DefR := { name := "filled", N := ["front", "at", "pound", "down"], ps := ["front", "at", "pound"], st := topS 16, fd := f_filled }
def r_pounds_let : DefR := { name := "pounds_let", N := ["limits", "at", "front", "down", "low", "high"], ps := ["limits", "at", "front"], st := topS 17, fd := f_pounds_let }
def r_many_within : DefR := { name := "many_within", N := ["canal", "limits"], ps := ["canal", "limits"], st := topS 18, fd := f_many_within }
def r_many_onward : DefR := { name := "many_onward", N := ["limits", "known", "at", "front", "key", "pound"], ps := ["limits", "known", "at", "front"], st := topS 19, fd := f_many_onward }
def r__law_cell_at : DefR := { name := "_law_cell_at", N := ["_law_script", "_law_k"], ps := ["_law_script", "_law_k"], st := topS 21, fd := f__law_cell_at }
def r__law_pen : DefR := { name := "_law_pen", N := ["_law_cell"], ps := ["_law_cell"], st := topS 22, fd := f__law_pen }
def r__law_draw : DefR := { name := "_law_draw", N := ["_law_pen_here", "_law_many", "_law_mixed", "_law_found"], ps := ["_law_pen_here", "_law_many"], st := topS 23, fd := f__law_draw }
def r__law_pick : DefR := { name := "_law_pick", N := ["_law_pen_here", "_law_some"], ps := ["_law_pen_here", "_law_some"], st := topS 24, fd := f__law_pick }
def r__law_same : DefR := { name := "_law_same", N := ["_law_found", "_law_due"], ps := ["_law_found", "_law_due"], st := topS 25, fd := f__law_same }
def r__law_canal : DefR := { name := "_law_canal", N := ["_law_pen_here", "_law_locks", "_law_boats"], ps := ["_law_pen_here", "_law_locks", "_law_boats"], st := topS 26, fd := f__law_canal }
def r__law_rows_of : DefR := { name := "_law_rows_of", N := ["_law_canal_here", "_law_found", "_law_down", "_law_longer", "_law_row", "_law_one"], ps := ["_law_canal_here"], st := topS 27, fd := f__law_rows_of }
def r__law_tables : DefR := { name := "_law_tables", N := ["_law_canal_here", "_law_up", "_law_rows", "_law_found", "_law_longer", "_law_some", "_law_row", "_law_one", "_law_more"], ps := ["_law_canal_here"], st := topS 28, fd := f__law_tables }
def r__law_by_product : DefR := { name := "_law_by_product", N := ["_law_canal_here", "_law_up", "_law_above", "_law_below", "_law_down"], ps := ["_law_canal_here"], st := topS 29, fd := f__law_by_product }
def r__law_small : DefR := { name := "_law_small", N := ["_law_pen_here", "_law_some"], ps := ["_law_pen_here"], st := topS 30, fd := f__law_small }
def r_law : DefR := { name := "law", N := ["_law_script", "_law_k", "_law_pen_here", "_law_canal_here", "_law_due", "_law_lap"], ps := ["_law_script"], st := topS 31, fd := f_law }
def rows : List DefR := [r_law, r__law_small, r_law, r_law, r_law, r_law, r_law, r_law, r_law, r_law, r_law, r_law, r_law, r_law, r_law, r_law, r_law, r_law, r_law, r_law, r_law, r_law, r_law, r_law, r_law, r_law, r_law, r_law, r_law, r_law, r_is_whole, r_is_between, r_has_parts, r_is_canal, r__law_cell_at, r__law_pen, r__law_draw, r__law_pick, r__law_same, r__law_canal, r_law, r_law, r_need_canal, r_law, r_law, r_law, r_law, r_law, r_law, r_law, r_law, r_law, r_law, r_law, r_law, r_law, r_law, r_law, r_law, r_law, r_law, r_law, r_law, r_law, r_law, r_law, r_law, r_law, r_law, r_law, r_law, r_law, r_law, r_law, r_law, r_law, r_law, r_law, r_law, r_law, r_law, r_law, r_law, r__law_rows_of, r__law_tables, r_law, r_law, r_law, r_law, r_law, r_law, r_law, r_law, r_law, r_law, r_law, r_law, r_law, r_law, r_law, r_law, r_law, r_law, r_law, r_law, r_many_tables, r_widest, r_first_front, r_filled, r_pounds_let, r_many_within, r_many_onward, r__law_by_product]
theorem d_is_whole : DefS glo r_is_whole := ⟨⟨by decide +kernel, by decide +kernel, by decide +kernel, by decide +kernel, by decide +kernel, by decide +kernel, by decide +kernel⟩, rfl, rfl, by decide +kernel⟩
theorem d_is_between : DefS glo r_is_between := ⟨⟨by decide +kernel, by decide +kernel, by decide +kernel, by decide +kernel, by decide +kernel, by decide +kernel, by decide +kernel⟩, rfl, rfl, by decide +kernel⟩
theorem d_has_parts : DefS glo r_has_parts := ⟨⟨by decide +kernel, by decide +kernel, by decide +kernel, by decide +kernel, by decide +kernel, by decide +kernel, by decide +kernel⟩, rfl, rfl, by decide +kernel⟩
theorem d_is_canal : DefS glo r_is_canal := ⟨⟨by decide +kernel, by decide +kernel, by decide +kernel, by decide +kernel, by decide +kernel, by decide +kernel, by decide +kernel⟩, rfl, rfl, by decide +kernel⟩
theorem d_need_canal : DefS glo r_need_canal := ⟨⟨by decide +kernel, by decide +kernel, by decide +kernel, by decide +kernel, by decide +kernel, by decide +kernel, by decide +kernel⟩, rfl, rfl, by decide +kernel⟩
theorem d_many_tables : DefS glo r_many_tables := ⟨⟨by decide +kernel, by decide +kernel, by decide +kernel, by decide +kernel, by decide +kernel, by decide +kernel, by decide +kernel⟩, rfl, rfl, by decide +kernel⟩
theorem d_widest : DefS glo r_widest := ⟨⟨by decide +kernel, by decide +kernel, by decide +kernel, by decide +kernel, by decide +kernel, by decide +kernel, by decide +kernel⟩, rfl, rfl, by decide +kernel⟩
theorem d_first_front : DefS glo r_first_front := ⟨⟨by decide +kernel, by decide +kernel, by decide +kernel, by decide +kernel, by decide +kernel, by decide +kernel, by decide +kernel⟩, rfl, rfl, by decide +kernel⟩
theorem d_filled : DefS glo r_filled := ⟨⟨by decide +kernel, by decide +kernel, by decide +kernel, by decide +kernel, by decide +kernel, by decide +kernel, by decide +kernel⟩, rfl, rfl, by decide +kernel⟩
theorem d_pounds_let : DefS glo r_pounds_let := ⟨⟨by decide +kernel, by decide +kernel, by decide +kernel, by decide +kernel, by decide +kernel, by decide +kernel, by decide +kernel⟩, rfl, rfl, by decide +kernel⟩
theorem d_many_within : DefS glo r_many_within := ⟨⟨by decide +kernel, by decide +kernel, by decide +kernel, by decide +kernel, by decide +kernel, by decide +kernel, by decide +kernel⟩, rfl, rfl, by decide +kernel⟩
theorem d_many_onward : DefS glo r_many_onward := ⟨⟨by decide +kernel, by decide +kernel, by decide +kernel, by decide +kernel, by decide +kernel, by decide +kernel, by decide +kernel⟩, rfl, rfl, by decide +kernel⟩
theorem d__law_cell_at : DefS glo r__law_cell_at := ⟨⟨by decide +kernel, by decide +kernel, by decide +kernel, by decide +kernel, by decide +kernel, by decide +kernel, by decide +kernel⟩, rfl, rfl, by decide +kernel⟩
theorem d__law_pen : DefS glo r__law_pen := ⟨⟨by decide +kernel, by decide +kernel, by decide +kernel, by decide +kernel, by decide +kernel, by decide +kernel, by decide +kernel⟩, rfl, rfl, by decide +kernel⟩
theorem d__law_draw : DefS glo r__law_draw := ⟨⟨by decide +kernel, by decide +kernel, by decide +kernel, by decide +kernel, by decide +kernel, by decide +kernel, by decide +kernel⟩, rfl, rfl, by decide +kernel⟩
theorem d__law_pick : DefS glo r__law_pick := ⟨⟨by decide +kernel, by decide +kernel, by decide +kernel, by decide +kernel, by decide +kernel, by decide +kernel, by decide +kernel⟩, rfl, rfl, by decide +kernel⟩
theorem d__law_same : DefS glo r__law_same := ⟨⟨by decide +kernel, by decide +kernel, by decide +kernel, by decide +kernel, by decide +kernel, by decide +kernel, by decide +kernel⟩, rfl, rfl, by decide +kernel⟩
theorem d__law_canal : DefS glo r__law_canal := ⟨⟨by decide +kernel, by decide +kernel, by decide +kernel, by decide +kernel, by decide +kernel, by decide +kernel, by decide +kernel⟩, rfl, rfl, by decide +kernel⟩
theorem d__law_rows_of : DefS glo r__law_rows_of := ⟨⟨by decide +kernel, by decide +kernel, by decide +kernel, by decide +kernel, by decide +kernel, by decide +kernel, by decide +kernel⟩, rfl, rfl, by decide +kernel⟩
theorem d__law_tables : DefS glo r__law_tables := ⟨⟨by decide +kernel, by decide +kernel, by decide +kernel, by decide +kernel, by decide +kernel, by decide +kernel, by decide +kernel⟩, rfl, rfl, by decide +kernel⟩
theorem d__law_by_product : DefS glo r__law_by_product := ⟨⟨by decide +kernel, by decide +kernel, by decide +kernel, by decide +kernel, by decide +kernel, by decide +kernel, by decide +kernel⟩, rfl, rfl, by decide +kernel⟩
theorem d__law_small : DefS glo r__law_small := ⟨⟨by decide +kernel, by decide +kernel, by decide +kernel, by decide +kernel, by decide +kernel, by decide +kernel, by decide +kernel⟩, rfl, rfl, by decide +kernel⟩
theorem d_law : DefS glo r_law := ⟨⟨by decide +kernel, by decide +kernel, by decide +kernel, by decide +kernel, by decide +kernel, by decide +kernel, by decide +kernel⟩, rfl, rfl, by decide +kernel⟩
instance i_is_whole : Has (tabOf rows) 30 f_is_whole := ⟨rfl⟩
instance i_is_between : Has (tabOf rows) 31 f_is_between := ⟨rfl⟩
instance i_has_parts : Has (tabOf rows) 32 f_has_parts := ⟨rfl⟩
instance i_is_canal : Has (tabOf rows) 33 f_is_canal := ⟨rfl⟩
instance i_need_canal : Has (tabOf rows) 42 (f_need_canal .boom) := ⟨rfl⟩
instance i_many_tables : Has (tabOf rows) 105 f_many_tables := ⟨rfl⟩
instance i_widest : Has (tabOf rows) 106 f_widest := ⟨rfl⟩
instance i_first_front : Has (tabOf rows) 107 f_first_front := ⟨rfl⟩
instance i_filled : Has (tabOf rows) 108 f_filled := ⟨rfl⟩
instance i_pounds_let : Has (tabOf rows) 109 f_pounds_let := ⟨rfl⟩
instance i_many_within : Has (tabOf rows) 110 f_many_within := ⟨rfl⟩
instance i_many_onward : Has (tabOf rows) 111 f_many_onward := ⟨rfl⟩
instance i__law_cell_at : Has (tabOf rows) 34 f__law_cell_at := ⟨rfl⟩
instance i__law_pen : Has (tabOf rows) 35 f__law_pen := ⟨rfl⟩
instance i__law_draw : Has (tabOf rows) 36 f__law_draw := ⟨rfl⟩
instance i__law_pick : Has (tabOf rows) 37 f__law_pick := ⟨rfl⟩
instance i__law_same : Has (tabOf rows) 38 f__law_same := ⟨rfl⟩
instance i__law_canal : Has (tabOf rows) 39 f__law_canal := ⟨rfl⟩
instance i__law_rows_of : Has (tabOf rows) 83 f__law_rows_of := ⟨rfl⟩
instance i__law_tables : Has (tabOf rows) 84 f__law_tables := ⟨rfl⟩
instance i__law_by_product : Has (tabOf rows) 112 f__law_by_product := ⟨rfl⟩
instance i__law_small : Has (tabOf rows) 1 f__law_small := ⟨rfl⟩
instance i_law : Has (tabOf rows) 0 f_law := ⟨rfl⟩
set_option maxRecDepth 100000 in
theorem all_mk {P : Program} {w : World} {K : PySem.W.Frag} {h : Heap} {mg : Str → Option Value} {fa : Addr} (X : K.In h) (G : h.Ns mainGlobals mg) (hfa : mg "law" = some (.ref fa))
    {f0 : Addr} {od0 an0 : Option Addr} {sl0 : Array (Option Value)} {oc0 kV0 dc0 pm0 cd0 ct0 : Value} (a0 : PySem.W.nsIn K mainGlobals "is_whole" = some (some (.ref f0)))
    (l0 : K.lookup f0 = some ⟨oc0, od0, .func (PySem.W.fnOf "is_whole" "is_whole" (L2.defArgs r_is_whole.st) (L2.defBody r_is_whole.st) (L2.defScope r_is_whole.st) .none kV0 dc0 pm0 an0 cd0 ct0), sl0⟩) (c0 : PySem.W.codeIn K cd0 "is_whole" = true) (k0 : PySem.W.keepIn K (.ref f0) = true)
    {f1 : Addr} {od1 an1 : Option Addr} {sl1 : Array (Option Value)} {oc1 kV1 dc1 pm1 cd1 ct1 : Value} (a1 : PySem.W.nsIn K mainGlobals "is_between" = some (some (.ref f1)))
    (l1 : K.lookup f1 = some ⟨oc1, od1, .func (PySem.W.fnOf "is_between" "is_between" (L2.defArgs r_is_between.st) (L2.defBody r_is_between.st) (L2.defScope r_is_between.st) .none kV1 dc1 pm1 an1 cd1 ct1), sl1⟩) (c1 : PySem.W.codeIn K cd1 "is_between" = true) (k1 : PySem.W.keepIn K (.ref f1) = true)
    {f2 : Addr} {od2 an2 : Option Addr} {sl2 : Array (Option Value)} {oc2 kV2 dc2 pm2 cd2 ct2 : Value} (a2 : PySem.W.nsIn K mainGlobals "has_parts" = some (some (.ref f2)))
    (l2 : K.lookup f2 = some ⟨oc2, od2, .func (PySem.W.fnOf "has_parts" "has_parts" (L2.defArgs r_has_parts.st) (L2.defBody r_has_parts.st) (L2.defScope r_has_parts.st) .none kV2 dc2 pm2 an2 cd2 ct2), sl2⟩) (c2 : PySem.W.codeIn K cd2 "has_parts" = true) (k2 : PySem.W.keepIn K (.ref f2) = true)
    {f3 : Addr} {od3 an3 : Option Addr} {sl3 : Array (Option Value)} {oc3 kV3 dc3 pm3 cd3 ct3 : Value} (a3 : PySem.W.nsIn K mainGlobals "is_canal" = some (some (.ref f3)))
    (l3 : K.lookup f3 = some ⟨oc3, od3, .func (PySem.W.fnOf "is_canal" "is_canal" (L2.defArgs r_is_canal.st) (L2.defBody r_is_canal.st) (L2.defScope r_is_canal.st) .none kV3 dc3 pm3 an3 cd3 ct3), sl3⟩) (c3 : PySem.W.codeIn K cd3 "is_canal" = true) (k3 : PySem.W.keepIn K (.ref f3) = true)
    {f4 : Addr} {od4 an4 : Option Addr} {sl4 : Array (Option Value)} {oc4 kV4 dc4 pm4 cd4 ct4 : Value} (a4 : PySem.W.nsIn K mainGlobals "need_canal" = some (some (.ref f4)))
    (l4 : K.lookup f4 = some ⟨oc4, od4, .func (PySem.W.fnOf "need_canal" "need_canal" (L2.defArgs r_need_canal.st) (L2.defBody r_need_canal.st) (L2.defScope r_need_canal.st) .none kV4 dc4 pm4 an4 cd4 ct4), sl4⟩) (c4 : PySem.W.codeIn K cd4 "need_canal" = true) (k4 : PySem.W.keepIn K (.ref f4) = true)
    {f5 : Addr} {od5 an5 : Option Addr} {sl5 : Array (Option Value)} {oc5 kV5 dc5 pm5 cd5 ct5 : Value} (a5 : PySem.W.nsIn K mainGlobals "many_tables" = some (some (.ref f5)))
    (l5 : K.lookup f5 = some ⟨oc5, od5, .func (PySem.W.fnOf "many_tables" "many_tables" (L2.defArgs r_many_tables.st) (L2.defBody r_many_tables.st) (L2.defScope r_many_tables.st) .none kV5 dc5 pm5 an5 cd5 ct5), sl5⟩) (c5 : PySem.W.codeIn K cd5 "many_tables" = true) (k5 : PySem.W.keepIn K (.ref f5) = true)
    {f6 : Addr} {od6 an6 : Option Addr} {sl6 : Array (Option Value)} {oc6 kV6 dc6 pm6 cd6 ct6 : Value} (a6 : PySem.W.nsIn K mainGlobals "widest" = some (some (.ref f6)))
    (l6 : K.lookup f6 = some ⟨oc6, od6, .func (PySem.W.fnOf "widest" "widest" (L2.defArgs r_widest.st) (L2.defBody r_widest.st) (L2.defScope r_widest.st) .none kV6 dc6 pm6 an6 cd6 ct6), sl6⟩) (c6 : PySem.W.codeIn K cd6 "widest" = true) (k6 : PySem.W.keepIn K (.ref f6) = true)
    {f7 : Addr} {od7 an7 : Option Addr} {sl7 : Array (Option Value)} {oc7 kV7 dc7 pm7 cd7 ct7 : Value} (a7 : PySem.W.nsIn K mainGlobals "first_front" = some (some (.ref f7)))
    (l7 : K.lookup f7 = some ⟨oc7, od7, .func (PySem.W.fnOf "first_front" "first_front" (L2.defArgs r_first_front.st) (L2.defBody r_first_front.st) (L2.defScope r_first_front.st) .none kV7 dc7 pm7 an7 cd7 ct7), sl7⟩) (c7 : PySem.W.codeIn K cd7 "first_front" = true) (k7 : PySem.W.keepIn K (.ref f7) = true)
    {f8 : Addr} {od8 an8 : Option Addr} {sl8 : Array (Option Value)} {oc8 kV8 dc8 pm8 cd8 ct8 : Value} (a8 : PySem.W.nsIn K mainGlobals "filled" = some (some (.ref f8)))
    (l8 : K.lookup f8 = some ⟨oc8, od8, .func (PySem.W.fnOf "filled" "filled" (L2.defArgs r_filled.st) (L2.defBody r_filled.st) (L2.defScope r_filled.st) .none kV8 dc8 pm8 an8 cd8 ct8), sl8⟩) (c8 : PySem.W.codeIn K cd8 "filled" = true) (k8 : PySem.W.keepIn K (.ref f8) = true)
    {f9 : Addr} {od9 an9 : Option Addr} {sl9 : Array (Option Value)} {oc9 kV9 dc9 pm9 cd9 ct9 : Value} (a9 : PySem.W.nsIn K mainGlobals "pounds_let" = some (some (.ref f9)))
    (l9 : K.lookup f9 = some ⟨oc9, od9, .func (PySem.W.fnOf "pounds_let" "pounds_let" (L2.defArgs r_pounds_let.st) (L2.defBody r_pounds_let.st) (L2.defScope r_pounds_let.st) .none kV9 dc9 pm9 an9 cd9 ct9), sl9⟩) (c9 : PySem.W.codeIn K cd9 "pounds_let" = true) (k9 : PySem.W.keepIn K (.ref f9) = true)
    {f10 : Addr} {od10 an10 : Option Addr} {sl10 : Array (Option Value)} {oc10 kV10 dc10 pm10 cd10 ct10 : Value} (a10 : PySem.W.nsIn K mainGlobals "many_within" = some (some (.ref f10)))
    (l10 : K.lookup f10 = some ⟨oc10, od10, .func (PySem.W.fnOf "many_within" "many_within" (L2.defArgs r_many_within.st) (L2.defBody r_many_within.st) (L2.defScope r_many_within.st) .none kV10 dc10 pm10 an10 cd10 ct10), sl10⟩) (c10 : PySem.W.codeIn K cd10 "many_within" = true) (k10 : PySem.W.keepIn K (.ref f10) = true)
    {f11 : Addr} {od11 an11 : Option Addr} {sl11 : Array (Option Value)} {oc11 kV11 dc11 pm11 cd11 ct11 : Value} (a11 : PySem.W.nsIn K mainGlobals "many_onward" = some (some (.ref f11)))
    (l11 : K.lookup f11 = some ⟨oc11, od11, .func (PySem.W.fnOf "many_onward" "many_onward" (L2.defArgs r_many_onward.st) (L2.defBody r_many_onward.st) (L2.defScope r_many_onward.st) .none kV11 dc11 pm11 an11 cd11 ct11), sl11⟩) (c11 : PySem.W.codeIn K cd11 "many_onward" = true) (k11 : PySem.W.keepIn K (.ref f11) = true)
    {f12 : Addr} {od12 an12 : Option Addr} {sl12 : Array (Option Value)} {oc12 kV12 dc12 pm12 cd12 ct12 : Value} (a12 : PySem.W.nsIn K mainGlobals "_law_cell_at" = some (some (.ref f12)))
    (l12 : K.lookup f12 = some ⟨oc12, od12, .func (PySem.W.fnOf "_law_cell_at" "_law_cell_at" (L2.defArgs r__law_cell_at.st) (L2.defBody r__law_cell_at.st) (L2.defScope r__law_cell_at.st) .none kV12 dc12 pm12 an12 cd12 ct12), sl12⟩) (c12 : PySem.W.codeIn K cd12 "_law_cell_at" = true) (k12 : PySem.W.keepIn K (.ref f12) = true)
    {f13 : Addr} {od13 an13 : Option Addr} {sl13 : Array (Option Value)} {oc13 kV13 dc13 pm13 cd13 ct13 : Value} (a13 : PySem.W.nsIn K mainGlobals "_law_pen" = some (some (.ref f13)))
    (l13 : K.lookup f13 = some ⟨oc13, od13, .func (PySem.W.fnOf "_law_pen" "_law_pen" (L2.defArgs r__law_pen.st) (L2.defBody r__law_pen.st) (L2.defScope r__law_pen.st) .none kV13 dc13 pm13 an13 cd13 ct13), sl13⟩) (c13 : PySem.W.codeIn K cd13 "_law_pen" = true) (k13 : PySem.W.keepIn K (.ref f13) = true)
    {f14 : Addr} {od14 an14 : Option Addr} {sl14 : Array (Option Value)} {oc14 kV14 dc14 pm14 cd14 ct14 : Value} (a14 : PySem.W.nsIn K mainGlobals "_law_draw" = some (some (.ref f14)))
    (l14 : K.lookup f14 = some ⟨oc14, od14, .func (PySem.W.fnOf "_law_draw" "_law_draw" (L2.defArgs r__law_draw.st) (L2.defBody r__law_draw.st) (L2.defScope r__law_draw.st) .none kV14 dc14 pm14 an14 cd14 ct14), sl14⟩) (c14 : PySem.W.codeIn K cd14 "_law_draw" = true) (k14 : PySem.W.keepIn K (.ref f14) = true)
    {f15 : Addr} {od15 an15 : Option Addr} {sl15 : Array (Option Value)} {oc15 kV15 dc15 pm15 cd15 ct15 : Value} (a15 : PySem.W.nsIn K mainGlobals "_law_pick" = some (some (.ref f15)))
    (l15 : K.lookup f15 = some ⟨oc15, od15, .func (PySem.W.fnOf "_law_pick" "_law_pick" (L2.defArgs r__law_pick.st) (L2.defBody r__law_pick.st) (L2.defScope r__law_pick.st) .none kV15 dc15 pm15 an15 cd15 ct15), sl15⟩) (c15 : PySem.W.codeIn K cd15 "_law_pick" = true) (k15 : PySem.W.keepIn K (.ref f15) = true)
    {f16 : Addr} {od16 an16 : Option Addr} {sl16 : Array (Option Value)} {oc16 kV16 dc16 pm16 cd16 ct16 : Value} (a16 : PySem.W.nsIn K mainGlobals "_law_same" = some (some (.ref f16)))
    (l16 : K.lookup f16 = some ⟨oc16, od16, .func (PySem.W.fnOf "_law_same" "_law_same" (L2.defArgs r__law_same.st) (L2.defBody r__law_same.st) (L2.defScope r__law_same.st) .none kV16 dc16 pm16 an16 cd16 ct16), sl16⟩) (c16 : PySem.W.codeIn K cd16 "_law_same" = true) (k16 : PySem.W.keepIn K (.ref f16) = true)
    {f17 : Addr} {od17 an17 : Option Addr} {sl17 : Array (Option Value)} {oc17 kV17 dc17 pm17 cd17 ct17 : Value} (a17 : PySem.W.nsIn K mainGlobals "_law_canal" = some (some (.ref f17)))
    (l17 : K.lookup f17 = some ⟨oc17, od17, .func (PySem.W.fnOf "_law_canal" "_law_canal" (L2.defArgs r__law_canal.st) (L2.defBody r__law_canal.st) (L2.defScope r__law_canal.st) .none kV17 dc17 pm17 an17 cd17 ct17), sl17⟩) (c17 : PySem.W.codeIn K cd17 "_law_canal" = true) (k17 : PySem.W.keepIn K (.ref f17) = true)
    {f18 : Addr} {od18 an18 : Option Addr} {sl18 : Array (Option Value)} {oc18 kV18 dc18 pm18 cd18 ct18 : Value} (a18 : PySem.W.nsIn K mainGlobals "_law_rows_of" = some (some (.ref f18)))
    (l18 : K.lookup f18 = some ⟨oc18, od18, .func (PySem.W.fnOf "_law_rows_of" "_law_rows_of" (L2.defArgs r__law_rows_of.st) (L2.defBody r__law_rows_of.st) (L2.defScope r__law_rows_of.st) .none kV18 dc18 pm18 an18 cd18 ct18), sl18⟩) (c18 : PySem.W.codeIn K cd18 "_law_rows_of" = true) (k18 : PySem.W.keepIn K (.ref f18) = true)
    {f19 : Addr} {od19 an19 : Option Addr} {sl19 : Array (Option Value)} {oc19 kV19 dc19 pm19 cd19 ct19 : Value} (a19 : PySem.W.nsIn K mainGlobals "_law_tables" = some (some (.ref f19)))
    (l19 : K.lookup f19 = some ⟨oc19, od19, .func (PySem.W.fnOf "_law_tables" "_law_tables" (L2.defArgs r__law_tables.st) (L2.defBody r__law_tables.st) (L2.defScope r__law_tables.st) .none kV19 dc19 pm19 an19 cd19 ct19), sl19⟩) (c19 : PySem.W.codeIn K cd19 "_law_tables" = true) (k19 : PySem.W.keepIn K (.ref f19) = true)
    {f20 : Addr} {od20 an20 : Option Addr} {sl20 : Array (Option Value)} {oc20 kV20 dc20 pm20 cd20 ct20 : Value} (a20 : PySem.W.nsIn K mainGlobals "_law_by_product" = some (some (.ref f20)))
    (l20 : K.lookup f20 = some ⟨oc20, od20, .func (PySem.W.fnOf "_law_by_product" "_law_by_product" (L2.defArgs r__law_by_product.st) (L2.defBody r__law_by_product.st) (L2.defScope r__law_by_product.st) .none kV20 dc20 pm20 an20 cd20 ct20), sl20⟩) (c20 : PySem.W.codeIn K cd20 "_law_by_product" = true) (k20 : PySem.W.keepIn K (.ref f20) = true)
    {f21 : Addr} {od21 an21 : Option Addr} {sl21 : Array (Option Value)} {oc21 kV21 dc21 pm21 cd21 ct21 : Value} (a21 : PySem.W.nsIn K mainGlobals "_law_small" = some (some (.ref f21)))
    (l21 : K.lookup f21 = some ⟨oc21, od21, .func (PySem.W.fnOf "_law_small" "_law_small" (L2.defArgs r__law_small.st) (L2.defBody r__law_small.st) (L2.defScope r__law_small.st) .none kV21 dc21 pm21 an21 cd21 ct21), sl21⟩) (c21 : PySem.W.codeIn K cd21 "_law_small" = true) (k21 : PySem.W.keepIn K (.ref f21) = true)
    {f22 : Addr} {od22 an22 : Option Addr} {sl22 : Array (Option Value)} {oc22 kV22 dc22 pm22 cd22 ct22 : Value} (a22 : PySem.W.nsIn K mainGlobals "law" = some (some (.ref f22)))
    (l22 : K.lookup f22 = some ⟨oc22, od22, .func (PySem.W.fnOf "law" "law" (L2.defArgs r_law.st) (L2.defBody r_law.st) (L2.defScope r_law.st) .none kV22 dc22 pm22 an22 cd22 ct22), sl22⟩) (c22 : PySem.W.codeIn K cd22 "law" = true) (k22 : PySem.W.keepIn K (.ref f22) = true)
    (z0 : PySem.W.nsIn K mainGlobals "len" = some none)
    (z1 : PySem.W.nsIn K mainGlobals "repr" = some none)
    (z2 : PySem.W.nsIn K mainGlobals "all" = some none)
    (z3 : PySem.W.nsIn K mainGlobals "any" = some none)
    (z4 : PySem.W.nsIn K mainGlobals "max" = some none)
    (z5 : PySem.W.nsIn K mainGlobals "min" = some none)
    (z6 : PySem.W.nsIn K mainGlobals "sum" = some none)
    (z7 : PySem.W.nsIn K mainGlobals "list" = some none)
    (z8 : PySem.W.nsIn K mainGlobals "tuple" = some none)
    (z9 : PySem.W.nsIn K mainGlobals "int" = some none)
    (z10 : PySem.W.nsIn K mainGlobals "abs" = some none)
    (z11 : PySem.W.nsIn K mainGlobals "sorted" = some none)
    (z12 : PySem.W.nsIn K mainGlobals "isinstance" = some none)
    (z13 : PySem.W.nsIn K mainGlobals "range" = some none)
    (z14 : PySem.W.nsIn K mainGlobals "bool" = some none)
    (z15 : PySem.W.nsIn K mainGlobals "str" = some none)
    (z16 : PySem.W.nsIn K mainGlobals "dict" = some none)
    (z17 : PySem.W.nsIn K mainGlobals "enumerate" = some none)
    (z18 : PySem.W.nsIn K mainGlobals "zip" = some none)
    (z19 : PySem.W.nsIn K mainGlobals "reversed" = some none)
    {t0 : Tok} (q0 : PySem.W.nsIn K mainGlobals "MOST_LOCKS" = some (some (.int 5 t0)))
    {t1 : Tok} (q1 : PySem.W.nsIn K mainGlobals "MOST_BOATS" = some (some (.int 4 t1))) (n : Nat) :
    ∃ fd : FuncData, (∀ (s : Shared) (v : Value), BindsTo s fd ⟨[v], []⟩ [("_law_script", v)]) ∧ ∀ base : Heap, K.In base → (∃ o, base.get? sysModules = some o) → base.Ns mainGlobals mg → FnG P w K mg base n fa fd ["_law_script"] (@spD ⟨w⟩ K (callN (tabOf rows) FUEL n) (fun _ => .none) 0) := by
  have e := hfa.symm.trans (PySem.W.mg_of X G a22)
  cases e
  have F0 := L2.fun_mk (st := r_is_whole.st) l0 c0 k0
  have B0 := F0.binds (ps := ["thing"]) fun _ _ _ _ _ _ us hl => match us, hl with | [_], _ => rfl
  have F1 := L2.fun_mk (st := r_is_between.st) l1 c1 k1
  have B1 := F1.binds (ps := ["thing", "least", "greatest"]) fun _ _ _ _ _ _ us hl => match us, hl with | [_, _, _], _ => rfl
  have F2 := L2.fun_mk (st := r_has_parts.st) l2 c2 k2
  have B2 := F2.binds (ps := ["thing", "many"]) fun _ _ _ _ _ _ us hl => match us, hl with | [_, _], _ => rfl
  have F3 := L2.fun_mk (st := r_is_canal.st) l3 c3 k3
  have B3 := F3.binds (ps := ["thing"]) fun _ _ _ _ _ _ us hl => match us, hl with | [_], _ => rfl
  have F4 := L2.fun_mk (st := r_need_canal.st) l4 c4 k4
  have B4 := F4.binds (ps := ["canal"]) fun _ _ _ _ _ _ us hl => match us, hl with | [_], _ => rfl
  have F5 := L2.fun_mk (st := r_many_tables.st) l5 c5 k5
  have B5 := F5.binds (ps := ["canal"]) fun _ _ _ _ _ _ us hl => match us, hl with | [_], _ => rfl
  have F6 := L2.fun_mk (st := r_widest.st) l6 c6 k6
  have B6 := F6.binds (ps := ["canal"]) fun _ _ _ _ _ _ us hl => match us, hl with | [_], _ => rfl
  have F7 := L2.fun_mk (st := r_first_front.st) l7 c7 k7
  have B7 := F7.binds (ps := ["canal"]) fun _ _ _ _ _ _ us hl => match us, hl with | [_], _ => rfl
  have F8 := L2.fun_mk (st := r_filled.st) l8 c8 k8
  have B8 := F8.binds (ps := ["front", "at", "pound"]) fun _ _ _ _ _ _ us hl => match us, hl with | [_, _, _], _ => rfl
  have F9 := L2.fun_mk (st := r_pounds_let.st) l9 c9 k9
  have B9 := F9.binds (ps := ["limits", "at", "front"]) fun _ _ _ _ _ _ us hl => match us, hl with | [_, _, _], _ => rfl
  have F10 := L2.fun_mk (st := r_many_within.st) l10 c10 k10
  have B10 := F10.binds (ps := ["canal", "limits"]) fun _ _ _ _ _ _ us hl => match us, hl with | [_, _], _ => rfl
  have F11 := L2.fun_mk (st := r_many_onward.st) l11 c11 k11
  have B11 := F11.binds (ps := ["limits", "known", "at", "front"]) fun _ _ _ _ _ _ us hl => match us, hl with | [_, _, _, _], _ => rfl
  have F12 := L2.fun_mk (st := r__law_cell_at.st) l12 c12 k12
  have B12 := F12.binds (ps := ["_law_script", "_law_k"]) fun _ _ _ _ _ _ us hl => match us, hl with | [_, _], _ => rfl
  have F13 := L2.fun_mk (st := r__law_pen.st) l13 c13 k13
  have B13 := F13.binds (ps := ["_law_cell"]) fun _ _ _ _ _ _ us hl => match us, hl with | [_], _ => rfl
  have F14 := L2.fun_mk (st := r__law_draw.st) l14 c14 k14
  have B14 := F14.binds (ps := ["_law_pen_here", "_law_many"]) fun _ _ _ _ _ _ us hl => match us, hl with | [_, _], _ => rfl
  have F15 := L2.fun_mk (st := r__law_pick.st) l15 c15 k15
  have B15 := F15.binds (ps := ["_law_pen_here", "_law_some"]) fun _ _ _ _ _ _ us hl => match us, hl with | [_, _], _ => rfl
  have F16 := L2.fun_mk (st := r__law_same.st) l16 c16 k16
  have B16 := F16.binds (ps := ["_law_found", "_law_due"]) fun _ _ _ _ _ _ us hl => match us, hl with | [_, _], _ => rfl
  have F17 := L2.fun_mk (st := r__law_canal.st) l17 c17 k17
  have B17 := F17.binds (ps := ["_law_pen_here", "_law_locks", "_law_boats"]) fun _ _ _ _ _ _ us hl => match us, hl with | [_, _, _], _ => rfl
  have F18 := L2.fun_mk (st := r__law_rows_of.st) l18 c18 k18
  have B18 := F18.binds (ps := ["_law_canal_here"]) fun _ _ _ _ _ _ us hl => match us, hl with | [_], _ => rfl
  have F19 := L2.fun_mk (st := r__law_tables.st) l19 c19 k19
  have B19 := F19.binds (ps := ["_law_canal_here"]) fun _ _ _ _ _ _ us hl => match us, hl with | [_], _ => rfl
  have F20 := L2.fun_mk (st := r__law_by_product.st) l20 c20 k20
  have B20 := F20.binds (ps := ["_law_canal_here"]) fun _ _ _ _ _ _ us hl => match us, hl with | [_], _ => rfl
  have F21 := L2.fun_mk (st := r__law_small.st) l21 c21 k21
  have B21 := F21.binds (ps := ["_law_pen_here"]) fun _ _ _ _ _ _ us hl => match us, hl with | [_], _ => rfl
  have F22 := L2.fun_mk (st := r_law.st) l22 c22 k22
  have B22 := F22.binds (ps := ["_law_script"]) fun _ _ _ _ _ _ us hl => match us, hl with | [_], _ => rfl
  have R : RowK mg K (fun _ => .none) rows glo :=
    { names := by decide +kernel
      nob := fun x hx => by
        simp only [bltNames, List.mem_cons, List.not_mem_nil, or_false] at hx
        rcases hx with rfl | rfl | rfl | rfl | rfl | rfl | rfl | rfl | rfl | rfl | rfl | rfl | rfl | rfl | rfl | rfl | rfl | rfl | rfl | rfl
        · exact PySem.W.mg_none_of X G z0
        · exact PySem.W.mg_none_of X G z1
        · exact PySem.W.mg_none_of X G z2
        · exact PySem.W.mg_none_of X G z3
        · exact PySem.W.mg_none_of X G z4
        · exact PySem.W.mg_none_of X G z5
        · exact PySem.W.mg_none_of X G z6
        · exact PySem.W.mg_none_of X G z7
        · exact PySem.W.mg_none_of X G z8
        · exact PySem.W.mg_none_of X G z9
        · exact PySem.W.mg_none_of X G z10
        · exact PySem.W.mg_none_of X G z11
        · exact PySem.W.mg_none_of X G z12
        · exact PySem.W.mg_none_of X G z13
        · exact PySem.W.mg_none_of X G z14
        · exact PySem.W.mg_none_of X G z15
        · exact PySem.W.mg_none_of X G z16
        · exact PySem.W.mg_none_of X G z17
        · exact PySem.W.mg_none_of X G z18
        · exact PySem.W.mg_none_of X G z19
      cst := fun x p hp => by
        have hm := PySem.mem_of_lookup hp
        simp only [glo, List.mem_cons, List.not_mem_nil, or_false, Prod.mk.injEq] at hm
        rcases hm with ⟨rfl, rfl⟩ | ⟨rfl, rfl⟩
        · exact ⟨.int 5, _, PySem.W.mg_of X G q0, ⟨_, rfl⟩, fun _ _ _ => .int _⟩
        · exact ⟨.int 4, _, PySem.W.mg_of X G q1, ⟨_, rfl⟩, fun _ _ _ => .int _⟩
      mks := fun k x hk => by simp [glo] at hk
      imp := fun f _ hi => by simp [glo] at hi
      kwc := fun t ht => by simp [glo] at ht
      defs := fun i d hd => by
        have hm := List.mem_of_getElem? hd
        simp only [rows, List.mem_cons, List.not_mem_nil, or_false] at hm
        rcases hm with rfl | rfl | rfl | rfl | rfl | rfl | rfl | rfl | rfl | rfl | rfl | rfl | rfl | rfl | rfl | rfl | rfl | rfl | rfl | rfl | rfl | rfl | rfl | rfl | rfl | rfl | rfl | rfl | rfl | rfl | rfl | rfl | rfl | rfl | rfl | rfl | rfl | rfl | rfl | rfl | rfl | rfl | rfl | rfl | rfl | rfl | rfl | rfl | rfl | rfl | rfl | rfl | rfl | rfl | rfl | rfl | rfl | rfl | rfl | rfl | rfl | rfl | rfl | rfl | rfl | rfl | rfl | rfl | rfl | rfl | rfl | rfl | rfl | rfl | rfl | rfl | rfl | rfl | rfl | rfl | rfl | rfl | rfl | rfl | rfl | rfl | rfl | rfl | rfl | rfl | rfl | rfl | rfl | rfl | rfl | rfl | rfl | rfl | rfl | rfl | rfl | rfl | rfl | rfl | rfl | rfl | rfl | rfl | rfl | rfl | rfl | rfl | rfl
        · exact ⟨d_law, _, _, PySem.W.mg_of X G a22, F22, B22⟩
        · exact ⟨d__law_small, _, _, PySem.W.mg_of X G a21, F21, B21⟩
        · exact ⟨d_law, _, _, PySem.W.mg_of X G a22, F22, B22⟩
        · exact ⟨d_law, _, _, PySem.W.mg_of X G a22, F22, B22⟩
        · exact ⟨d_law, _, _, PySem.W.mg_of X G a22, F22, B22⟩
        · exact ⟨d_law, _, _, PySem.W.mg_of X G a22, F22, B22⟩
        · exact ⟨d_law, _, _, PySem.W.mg_of X G a22, F22, B22⟩
        · exact ⟨d_law, _, _, PySem.W.mg_of X G a22, F22, B22⟩
        · exact ⟨d_law, _, _, PySem.W.mg_of X G a22, F22, B22⟩
        · exact ⟨d_law, _, _, PySem.W.mg_of X G a22, F22, B22⟩
        · exact ⟨d_law, _, _, PySem.W.mg_of X G a22, F22, B22⟩
        · exact ⟨d_law, _, _, PySem.W.mg_of X G a22, F22, B22⟩
        · exact ⟨d_law, _, _, PySem.W.mg_of X G a22, F22, B22⟩
        · exact ⟨d_law, _, _, PySem.W.mg_of X G a22, F22, B22⟩
        · exact ⟨d_law, _, _, PySem.W.mg_of X G a22, F22, B22⟩
        · exact ⟨d_law, _, _, PySem.W.mg_of X G a22, F22, B22⟩
        · exact ⟨d_law, _, _, PySem.W.mg_of X G a22, F22, B22⟩
        · exact ⟨d_law, _, _, PySem.W.mg_of X G a22, F22, B22⟩
        · exact ⟨d_law, _, _, PySem.W.mg_of X G a22, F22, B22⟩
        · exact ⟨d_law, _, _, PySem.W.mg_of X G a22, F22, B22⟩
        · exact ⟨d_law, _, _, PySem.W.mg_of X G a22, F22, B22⟩
        · exact ⟨d_law, _, _, PySem.W.mg_of X G a22, F22, B22⟩
        · exact ⟨d_law, _, _, PySem.W.mg_of X G a22, F22, B22⟩
        · exact ⟨d_law, _, _, PySem.W.mg_of X G a22, F22, B22⟩
        · exact ⟨d_law, _, _, PySem.W.mg_of X G a22, F22, B22⟩
        · exact ⟨d_law, _, _, PySem.W.mg_of X G a22, F22, B22⟩
        · exact ⟨d_law, _, _, PySem.W.mg_of X G a22, F22, B22⟩
        · exact ⟨d_law, _, _, PySem.W.mg_of X G a22, F22, B22⟩
        · exact ⟨d_law, _, _, PySem.W.mg_of X G a22, F22, B22⟩
        · exact ⟨d_law, _, _, PySem.W.mg_of X G a22, F22, B22⟩
        · exact ⟨d_is_whole, _, _, PySem.W.mg_of X G a0, F0, B0⟩
        · exact ⟨d_is_between, _, _, PySem.W.mg_of X G a1, F1, B1⟩
        · exact ⟨d_has_parts, _, _, PySem.W.mg_of X G a2, F2, B2⟩
        · exact ⟨d_is_canal, _, _, PySem.W.mg_of X G a3, F3, B3⟩
        · exact ⟨d__law_cell_at, _, _, PySem.W.mg_of X G a12, F12, B12⟩
        · exact ⟨d__law_pen, _, _, PySem.W.mg_of X G a13, F13, B13⟩
        · exact ⟨d__law_draw, _, _, PySem.W.mg_of X G a14, F14, B14⟩
        · exact ⟨d__law_pick, _, _, PySem.W.mg_of X G a15, F15, B15⟩
        · exact ⟨d__law_same, _, _, PySem.W.mg_of X G a16, F16, B16⟩
        · exact ⟨d__law_canal, _, _, PySem.W.mg_of X G a17, F17, B17⟩
        · exact ⟨d_law, _, _, PySem.W.mg_of X G a22, F22, B22⟩
        · exact ⟨d_law, _, _, PySem.W.mg_of X G a22, F22, B22⟩
        · exact ⟨d_need_canal, _, _, PySem.W.mg_of X G a4, F4, B4⟩
        · exact ⟨d_law, _, _, PySem.W.mg_of X G a22, F22, B22⟩
        · exact ⟨d_law, _, _, PySem.W.mg_of X G a22, F22, B22⟩
        · exact ⟨d_law, _, _, PySem.W.mg_of X G a22, F22, B22⟩
        · exact ⟨d_law, _, _, PySem.W.mg_of X G a22, F22, B22⟩
        · exact ⟨d_law, _, _, PySem.W.mg_of X G a22, F22, B22⟩
        · exact ⟨d_law, _, _, PySem.W.mg_of X G a22, F22, B22⟩
        · exact ⟨d_law, _, _, PySem.W.mg_of X G a22, F22, B22⟩
        · exact ⟨d_law, _, _, PySem.W.mg_of X G a22, F22, B22⟩
        · exact ⟨d_law, _, _, PySem.W.mg_of X G a22, F22, B22⟩
        · exact ⟨d_law, _, _, PySem.W.mg_of X G a22, F22, B22⟩
        · exact ⟨d_law, _, _, PySem.W.mg_of X G a22, F22, B22⟩
        · exact ⟨d_law, _, _, PySem.W.mg_of X G a22, F22, B22⟩
        · exact ⟨d_law, _, _, PySem.W.mg_of X G a22, F22, B22⟩
        · exact ⟨d_law, _, _, PySem.W.mg_of X G a22, F22, B22⟩
        · exact ⟨d_law, _, _, PySem.W.mg_of X G a22, F22, B22⟩
        · exact ⟨d_law, _, _, PySem.W.mg_of X G a22, F22, B22⟩
        · exact ⟨d_law, _, _, PySem.W.mg_of X G a22, F22, B22⟩
        · exact ⟨d_law, _, _, PySem.W.mg_of X G a22, F22, B22⟩
        · exact ⟨d_law, _, _, PySem.W.mg_of X G a22, F22, B22⟩
        · exact ⟨d_law, _, _, PySem.W.mg_of X G a22, F22, B22⟩
        · exact ⟨d_law, _, _, PySem.W.mg_of X G a22, F22, B22⟩
        · exact ⟨d_law, _, _, PySem.W.mg_of X G a22, F22, B22⟩
        · exact ⟨d_law, _, _, PySem.W.mg_of X G a22, F22, B22⟩
        · exact ⟨d_law, _, _, PySem.W.mg_of X G a22, F22, B22⟩
        · exact ⟨d_law, _, _, PySem.W.mg_of X G a22, F22, B22⟩
        · exact ⟨d_law, _, _, PySem.W.mg_of X G a22, F22, B22⟩
        · exact ⟨d_law, _, _, PySem.W.mg_of X G a22, F22, B22⟩
        · exact ⟨d_law, _, _, PySem.W.mg_of X G a22, F22, B22⟩
        · exact ⟨d_law, _, _, PySem.W.mg_of X G a22, F22, B22⟩
        · exact ⟨d_law, _, _, PySem.W.mg_of X G a22, F22, B22⟩
        · exact ⟨d_law, _, _, PySem.W.mg_of X G a22, F22, B22⟩
        · exact ⟨d_law, _, _, PySem.W.mg_of X G a22, F22, B22⟩
        · exact ⟨d_law, _, _, PySem.W.mg_of X G a22, F22, B22⟩
        · exact ⟨d_law, _, _, PySem.W.mg_of X G a22, F22, B22⟩
        · exact ⟨d_law, _, _, PySem.W.mg_of X G a22, F22, B22⟩
        · exact ⟨d_law, _, _, PySem.W.mg_of X G a22, F22, B22⟩
        · exact ⟨d_law, _, _, PySem.W.mg_of X G a22, F22, B22⟩
        · exact ⟨d_law, _, _, PySem.W.mg_of X G a22, F22, B22⟩
        · exact ⟨d_law, _, _, PySem.W.mg_of X G a22, F22, B22⟩
        · exact ⟨d_law, _, _, PySem.W.mg_of X G a22, F22, B22⟩
        · exact ⟨d__law_rows_of, _, _, PySem.W.mg_of X G a18, F18, B18⟩
        · exact ⟨d__law_tables, _, _, PySem.W.mg_of X G a19, F19, B19⟩
        · exact ⟨d_law, _, _, PySem.W.mg_of X G a22, F22, B22⟩
        · exact ⟨d_law, _, _, PySem.W.mg_of X G a22, F22, B22⟩
        · exact ⟨d_law, _, _, PySem.W.mg_of X G a22, F22, B22⟩
        · exact ⟨d_law, _, _, PySem.W.mg_of X G a22, F22, B22⟩
        · exact ⟨d_law, _, _, PySem.W.mg_of X G a22, F22, B22⟩
        · exact ⟨d_law, _, _, PySem.W.mg_of X G a22, F22, B22⟩
        · exact ⟨d_law, _, _, PySem.W.mg_of X G a22, F22, B22⟩
        · exact ⟨d_law, _, _, PySem.W.mg_of X G a22, F22, B22⟩
        · exact ⟨d_law, _, _, PySem.W.mg_of X G a22, F22, B22⟩
        · exact ⟨d_law, _, _, PySem.W.mg_of X G a22, F22, B22⟩
        · exact ⟨d_law, _, _, PySem.W.mg_of X G a22, F22, B22⟩
        · exact ⟨d_law, _, _, PySem.W.mg_of X G a22, F22, B22⟩
        · exact ⟨d_law, _, _, PySem.W.mg_of X G a22, F22, B22⟩
        · exact ⟨d_law, _, _, PySem.W.mg_of X G a22, F22, B22⟩
        · exact ⟨d_law, _, _, PySem.W.mg_of X G a22, F22, B22⟩
        · exact ⟨d_law, _, _, PySem.W.mg_of X G a22, F22, B22⟩
        · exact ⟨d_law, _, _, PySem.W.mg_of X G a22, F22, B22⟩
        · exact ⟨d_law, _, _, PySem.W.mg_of X G a22, F22, B22⟩
        · exact ⟨d_law, _, _, PySem.W.mg_of X G a22, F22, B22⟩
        · exact ⟨d_law, _, _, PySem.W.mg_of X G a22, F22, B22⟩
        · exact ⟨d_many_tables, _, _, PySem.W.mg_of X G a5, F5, B5⟩
        · exact ⟨d_widest, _, _, PySem.W.mg_of X G a6, F6, B6⟩
        · exact ⟨d_first_front, _, _, PySem.W.mg_of X G a7, F7, B7⟩
        · exact ⟨d_filled, _, _, PySem.W.mg_of X G a8, F8, B8⟩
        · exact ⟨d_pounds_let, _, _, PySem.W.mg_of X G a9, F9, B9⟩
        · exact ⟨d_many_within, _, _, PySem.W.mg_of X G a10, F10, B10⟩
        · exact ⟨d_many_onward, _, _, PySem.W.mg_of X G a11, F11, B11⟩
        · exact ⟨d__law_by_product, _, _, PySem.W.mg_of X G a20, F20, B20⟩ }
  refine ⟨_, fun s v => .of_eq rfl, fun base _ hb _ => @row_ok ⟨w⟩ _ _ _ _ _ _ _ _ _ rfl R hb n 0 r_law fa _ rfl (PySem.W.mg_of X G a22) F22⟩
end K19
end

section
set_option Elab.async false
set_option linter.all false
set_option maxRecDepth 100000
set_option autoImplicit false
set_option maxHeartbeats 4000000
namespace K19
open PySem L2 Mx
abbrev tb := tabOf rows
variable {n : Nat} {S : Sto} {k : Nat} {l u d : Int}
instance i_sm : Has tb 1 F_small := ⟨rfl⟩
def isLen (r : R D) (m : Int) : Bool := match r with
  | .ok (.p (.lst xs)) [] => decide ((xs.length : Int) = m)
  | _ => false
theorem isLen_eq {r : R D} {m : Int} (h : isLen r m = true) : ∃ xs, r = .ok (.p (.lst xs)) [] ∧ (xs.length : Int) = m := by
  unfold isLen at h
  split at h
  · exact ⟨_, rfl, by simpa using h⟩
  · cases h
def tabChk (c : P) : Bool := match c with
  | .tup [.int l, .int u, .int d] => isLen (callN (miniT [(83, f__law_rows_of), (84, f__law_tables)]) FUEL 3 84 ([.tup [.int l, .int u, .int d]].map .p) []) (wayT l u.toNat d.toNat)
  | _ => false
theorem tabsChk : smallL.all tabChk = true := by decide +kernel
theorem tabs_ok (h : can l u d ∈ smallL) : ∃ xs : List P, CN tb (n + 3) 84 [.p (can l u d)] S = .ok (.p (.lst xs)) S ∧ (xs.length : Int) = wayT l u.toNat d.toNat := by
  have c := List.all_eq_true.mp tabsChk _ h
  obtain ⟨xs, e, hl⟩ := isLen_eq (show isLen (callN (miniT [(83, f__law_rows_of), (84, f__law_tables)]) FUEL 3 84 ([can l u d].map .p) []) (wayT l u.toNat d.toNat) = true from c)
  exact ⟨xs, call_sub (t2 := tb) (mini_cons (inferInstance : Has tb 83 _).h (mini_cons (inferInstance : Has tb 84 _).h mini_nil)) (by omega) e S, hl⟩
/-! ### the law -/
def sameE : E := (.call 38 (.cons (.lst (.cons (.call 105 (.cons (.var 3) .nil)) (.cons (.call 105 (.cons (.var 3) .nil)) .nil))) (.cons (.lst (.cons (.var 4) (.cons (.var 4) .nil))) .nil)))
def lapB : Sts := (.cons (.asg (.nm 3) (.call 39 (.cons (.var 2) (.cons (.lit (.int 5)) (.cons (.lit (.int 4)) .nil))))) (.cons (.asg (.nm 4) (.call 112 (.cons (.var 3) .nil))) (.cons (.iff (.notE sameE) (.cons (.ret (.lit (.bl false))) .nil) .nil) .nil)))
def inner : Sts := (.cons (.asg (.nm 3) (.call 1 (.cons (.var 2) .nil))) (.cons (.asg (.nm 4) (.blt .len (.cons (.call 84 (.cons (.var 3) .nil)) .nil))) (.cons (.iff (.orE (.cmp .ne (.var 4) (.call 112 (.cons (.var 3) .nil))) (.notE sameE)) (.cons (.ret (.lit (.bl false))) .nil) .nil) (.cons (.for (.nm 5) (.rng (.lit (.int 4))) lapB) .nil))))
def c544 : E := (.tup (.cons (.lit (.int 5)) (.cons (.lit (.int 4)) (.cons (.lit (.int 4)) .nil))))
def endE : E := (.cmp .eq (.call 105 (.cons c544 .nil)) (.call 112 (.cons c544 .nil)))
def outB (e : E) : Sts := (.cons (.for (.nm 1) (.rng (manyE 4)) (.cons (.asg (.nm 2) (.call 35 (.cons (.call 34 (.cons (.var 0) (.cons (.var 1) .nil))) .nil))) inner)) (.cons (.ret e) .nil))
theorem law_cut : f_law = { np := 1, nN := 6, keep := false, body := outB endE } := rfl
theorem same_ok (h : Can l u d) {x0 x1 x2 x5 : Option D} : evE (CN tb (n + 30)) sameE [x0, x1, x2, some (.p (can l u d)), some (.p (.int (wayT l u.toNat d.toNat))), x5] S = .ok (.p (.bl true)) S := by
  have e1 := many_tables_ok (tab := tb) (S := S) (M := n + 29) (by omega) h
  obtain ⟨w1, w2⟩ := way_bd h
  obtain ⟨w, hw⟩ : ∃ w, w = wayT l u.toNat d.toNat := ⟨_, rfl⟩
  rw [← hw] at e1 w1 w2 ⊢
  have b1 : Bd 134 0 (.int w) := Bd.int (by omega) (by omega)
  have ok2 : okP (.lst [.int w, .int w]) := ((BdL.one b1).app (BdL.one b1)).lst.ok (by omega) (by omega)
  have e3 := sameW (tab := tb) (n := n + 29) (S := S) ok2 ok2
  rw [rep_self] at e3
  simp [sameE, runF, evSs, evS, evE, evEs, evEo, evC, evI, R.bind, R.obind, slotD, pu, truth, bindO, bindT, setMany, leave, ty_beq, tyEq, isCI, yes, e1, allP, e3]
theorem lap_step {ns : List Int} (x : Nat) (hx : x < 4) {env : Mx.Env} (hB : Base 6 ns k env S) :
    ∃ e' S', evSs (CN tb (n + 30)) FUEL lapB (env.set 5 (some (.p (.int x)))) S = .next e' S' ∧ Base 6 ns k e' S' := by
  obtain ⟨hl, h0, h2, hp⟩ := hB
  obtain ⟨a0, a1, a2, a3, a4, a5, rfl⟩ : ∃ a0 a1 a2 a3 a4 a5, env = [a0, a1, a2, a3, a4, a5] := by
    match env, hl with
    | [a0, a1, a2, a3, a4, a5], _ => exact ⟨_, _, _, _, _, _, rfl⟩
  simp only [List.getElem?_cons_zero, List.getElem?_cons_succ, Option.some.injEq] at h0 h2
  subst h0 h2
  obtain ⟨l, u, d, S1, e1, s1, q1, q2, q3, q4, q5, q6⟩ := canalW (tab := tb) (n := n + 28) hp (l := 5) (b := 4) (by omega) (by omega) (by omega) (by omega)
  have h : Can l u d := ⟨q1, q2, q3, q4, q5, q6⟩
  have e1' : CN tb (n + 30) 39 [.mu k, .p (.int 5), .p (.int 4)] S = .ok (.p (can l u d)) S1 := e1
  have e2 := by_product_ok (tab := tb) (n := n + 28) (S := S1) h
  have e3 := same_ok (n := n) (S := S1) h (x0 := some (.scr ns)) (x1 := a1) (x2 := some (.mu k)) (x5 := some (.p (.int x)))
  refine ⟨[some (.scr ns), a1, some (.mu k), some (.p (can l u d)), some (.p (.int (wayT l u.toNat d.toNat))), some (.p (.int x))], S1, ?_, ⟨rfl, rfl, rfl, s1.pen⟩⟩
  simp [lapB, runF, evSs, evS, evE, evEs, evEo, evC, evI, R.bind, R.obind, slotD, pu, truth, bindO, bindT, setMany, leave, ty_beq, tyEq, isCI, yes, e1', e2, e3]
theorem in_step {ns : List Int} {env : Mx.Env} (hB : Base 6 ns k env S) :
    ∃ e' S', evSs (CN tb (n + 30)) FUEL inner env S = .next e' S' ∧ Base 6 ns k e' S' := by
  obtain ⟨hl, h0, h2, hp⟩ := hB
  obtain ⟨a0, a1, a2, a3, a4, a5, rfl⟩ : ∃ a0 a1 a2 a3 a4 a5, env = [a0, a1, a2, a3, a4, a5] := by
    match env, hl with
    | [a0, a1, a2, a3, a4, a5], _ => exact ⟨_, _, _, _, _, _, rfl⟩
  simp only [List.getElem?_cons_zero, List.getElem?_cons_succ, Option.some.injEq] at h0 h2
  subst h0 h2
  obtain ⟨l, u, d, S1, e1, s1, h, hm⟩ := small_ok (tab := tb) (n := n + 27) (i := 1) hp
  obtain ⟨xs, e2, hx⟩ := tabs_ok (n := n + 27) (S := S1) hm
  have e3 := by_product_ok (tab := tb) (n := n + 28) (S := S1) h
  have e4 := same_ok (n := n) (S := S1) h (x0 := some (.scr ns)) (x1 := a1) (x2 := some (.mu k)) (x5 := a5)
  have B1 : Base 6 ns k [some (.scr ns), a1, some (.mu k), some (.p (can l u d)), some (.p (.int (wayT l u.toNat d.toNat))), a5] S1 := ⟨rfl, rfl, rfl, s1.pen⟩
  obtain ⟨e5, S5, h5, b5⟩ := laps_ok (C := CN tb (n + 30)) (w := FUEL) (t := 5) (m := 4) (b := lapB) (by decide) B1 (fun x env S hx hB => lap_step (n := n) x hx hB)
  refine ⟨e5, S5, ?_, b5⟩
  unfold inner
  rw [evSs_cons]
  have g1 : evS (CN tb (n + 30)) FUEL (.asg (.nm 3) (.call 1 (.cons (.var 2) .nil))) [some (.scr ns), a1, some (.mu k), a3, a4, a5] S = .next [some (.scr ns), a1, some (.mu k), some (.p (can l u d)), a4, a5] S1 := by
    simp [runF, evSs, evS, evE, evEs, evEo, evC, evI, R.bind, R.obind, slotD, pu, truth, bindO, bindT, setMany, leave, ty_beq, tyEq, isCI, yes, e1]
  rw [g1]
  simp only []
  rw [evSs_cons]
  have g2 : evS (CN tb (n + 30)) FUEL (.asg (.nm 4) (.blt .len (.cons (.call 84 (.cons (.var 3) .nil)) .nil))) [some (.scr ns), a1, some (.mu k), some (.p (can l u d)), a4, a5] S1 = .next [some (.scr ns), a1, some (.mu k), some (.p (can l u d)), some (.p (.int (wayT l u.toNat d.toNat))), a5] S1 := by
    simp [runF, evSs, evS, evE, evEs, evEo, evC, evI, R.bind, R.obind, slotD, pu, truth, bindO, bindT, setMany, leave, ty_beq, tyEq, isCI, yes, e2, bltop, lenD, items, hx]
  rw [g2]
  simp only []
  rw [evSs_cons]
  have g3 : evS (CN tb (n + 30)) FUEL (.iff (.orE (.cmp .ne (.var 4) (.call 112 (.cons (.var 3) .nil))) (.notE sameE)) (.cons (.ret (.lit (.bl false))) .nil) .nil) [some (.scr ns), a1, some (.mu k), some (.p (can l u d)), some (.p (.int (wayT l u.toNat d.toNat))), a5] S1 = .next [some (.scr ns), a1, some (.mu k), some (.p (can l u d)), some (.p (.int (wayT l u.toNat d.toNat))), a5] S1 := by
    simp [runF, evSs, evS, evE, evEs, evEo, evC, evI, R.bind, R.obind, slotD, pu, truth, bindO, bindT, setMany, leave, ty_beq, tyEq, isCI, yes, e3, e4, cmpop, view, eqP, scalar, P.eqv]
  rw [g3]
  simp only []
  rw [evSs_cons, h5]
  simp only [evSs_nil]
theorem law_ok {ns : List Int} : CN tb (n + 31) 0 [.scr ns] [] = .ok (.p (.bl true)) [] := by
  rw [i_law.eq, law_cut]
  let e0 : Mx.Env := [some (.scr ns), none, none, none, none, none]
  obtain ⟨z, sm, hz⟩ := many_ok (C := CN tb (n + 30)) (m := 4) (S := []) (env := e0) (ns := ns) rfl (by decide)
  obtain ⟨e3, S3, h3, i3⟩ := loopF_inv (t := .nm 1) (stay := fun _ => true) (body := evSs (CN tb (n + 30)) FUEL (.cons (.asg (.nm 2) (.call 35 (.cons (.call 34 (.cons (.var 0) (.cons (.var 1) .nil))) .nil))) inner)) (fun _ env S' => env.length = 6 ∧ env[0]? = some (some (.scr ns))) (rangeD 0 z.toNat) 0 e0 []
    ⟨rfl, rfl⟩ (fun _ _ _ _ => rfl) (fun i dd env S' hd hI => by
      obtain ⟨rfl, hj⟩ := range_get hd
      refine ⟨_, rfl, ?_⟩
      obtain ⟨hl, h0⟩ := hI
      obtain ⟨y, e1⟩ := cellW (tab := tb) (n := n + 29) (S := S') ns i
      obtain ⟨p, q, e2⟩ := penW (tab := tb) (n := n + 29) (S := S') y
      have h01 : (env.set 1 (some (.p (.int (i : Int)))))[0]? = some (some (.scr ns)) := by rw [List.getElem?_set_ne (by decide)]; exact h0
      have h11 : (env.set 1 (some (.p (.int (i : Int)))))[1]? = some (some (.p (.int (i : Int)))) := by rw [List.getElem?_set_self (by omega)]
      obtain ⟨e', S'', g1, g2⟩ := in_step (n := n) (ns := ns) (k := S'.length) (env := (env.set 1 (some (.p (.int (i : Int))))).set 2 (some (.mu S'.length))) (S := S' ++ [.lst [.int p, .int q, .int 0]])
        ⟨by simp [hl], by rw [List.getElem?_set_ne (by decide)]; exact h01, by rw [List.getElem?_set_self (by simp; omega)], IsPen.new _ _ _⟩
      refine ⟨e', S'', .inl ?_, g2.len, g2.s0⟩
      rw [Int.zero_add]
      simp only [evSs, evS, evE, evEs, R.bind, R.obind, slotD, h01, h11, e1, e2, bindO, bindT]
      exact g1)
  have hfor : evS (CN tb (n + 30)) FUEL (.for (.nm 1) (.rng (manyE 4)) (.cons (.asg (.nm 2) (.call 35 (.cons (.call 34 (.cons (.var 0) (.cons (.var 1) .nil))) .nil))) inner)) e0 [] = .next e3 S3 := by
    simp only [evS, evI, hz, R.bind, R.obind, sm, if_true]
    exact h3
  have hc : Can 5 4 4 := by constructor <;> decide
  have m1 := many_tables_ok (tab := tb) (S := S3) (M := n + 29) (by omega) hc
  have m2 := by_product_ok (tab := tb) (n := n + 28) (S := S3) hc
  have hend : evE (CN tb (n + 30)) endE e3 S3 = .ok (.p (.bl true)) S3 := by
    generalize wayT 5 (4 : Int).toNat (4 : Int).toNat = w at m1 m2
    simp only [can] at m1 m2
    simp [endE, c544, runF, evSs, evS, evE, evEs, evEo, evC, evI, R.bind, R.obind, slotD, pu, truth, bindO, bindT, setMany, leave, ty_beq, tyEq, isCI, yes, mkTup, allP, m1, m2, cmpop, view, eqP, scalar, P.eqv]
  have hall : evSs (CN tb (n + 30)) FUEL (outB endE) e0 [] = .ret (.p (.bl true)) S3 := by
    unfold outB
    rw [evSs_cons, hfor]
    simp only []
    rw [evSs_cons]
    simp only [evS, hend, R.obind]
  simp only [runF, List.length_singleton, if_true]
  rw [show (List.map some [D.scr ns] ++ List.replicate (6 - 1) none) = e0 from rfl, hall]
  rfl
theorem law_true (ns : List Int) (hl : ns.length ≤ 63) : callN (tabOf rows) FUEL 40 0 [.scr ns] [] = .ok (.p (.bl true)) [] := law_ok (n := 9)
end K19
end

section
set_option Elab.async false
set_option linter.all false
set_option maxRecDepth 100000
open PySem PySem.W PyProof.Rows
local macro_rules | `(tactic| o_head ($f:ident $a $b $c)) => `(tactic| o_head (@Mx.sysHook $a $b $c))
set_option maxHeartbeats 0 in
theorem PySem.Challenge.cw_poundmeets_k19_tables_counted_holds : PySem.Challenge.rw_poundmeets_k19_tables_counted.Holds := by
  w_on; o_law; k_head; (case hw => w_witness2)
  k_fill
  refine Mx.law_walk (l := PySem.Challenge.rw_poundmeets_k19_tables_counted) (n := 63) (k := 40) (x := "_law_script") (sp := fun w => @Mx.spD ⟨w⟩ _ (Mx.callN (Mx.tabOf K19.rows) Mx.FUEL 40) (fun _ => .none) 0) rfl (by decide) rfl ⟨rfl, by decide, by decide⟩ (fun w h Y => ⟨Y.1, Y.2⟩) ?F (fun w H a ns hl _ hS => @Mx.sp_script ⟨w⟩ _ _ _ _ _ _ _ _ hS (K19.law_true ns hl))
  case F =>
    intro w mg fa h KX G hmg
    refine' K19.all_mk KX G hmg ?a0 ?l0 ?c0 ?k0 ?a1 ?l1 ?c1 ?k1 ?a2 ?l2 ?c2 ?k2 ?a3 ?l3 ?c3 ?k3 ?a4 ?l4 ?c4 ?k4 ?a5 ?l5 ?c5 ?k5 ?a6 ?l6 ?c6 ?k6 ?a7 ?l7 ?c7 ?k7 ?a8 ?l8 ?c8 ?k8 ?a9 ?l9 ?c9 ?k9 ?a10 ?l10 ?c10 ?k10 ?a11 ?l11 ?c11 ?k11 ?a12 ?l12 ?c12 ?k12 ?a13 ?l13 ?c13 ?k13 ?a14 ?l14 ?c14 ?k14 ?a15 ?l15 ?c15 ?k15 ?a16 ?l16 ?c16 ?k16 ?a17 ?l17 ?c17 ?k17 ?a18 ?l18 ?c18 ?k18 ?a19 ?l19 ?c19 ?k19 ?a20 ?l20 ?c20 ?k20 ?a21 ?l21 ?c21 ?k21 ?a22 ?l22 ?c22 ?k22 ?z0 ?z1 ?z2 ?z3 ?z4 ?z5 ?z6 ?z7 ?z8 ?z9 ?z10 ?z11 ?z12 ?z13 ?z14 ?z15 ?z16 ?z17 ?z18 ?z19 ?q0 ?q1 _
    (case a0 => k_is); (case l0 => k_is); (case c0 => k_is); (case k0 => k_is); (case a1 => k_is); (case l1 => k_is); (case c1 => k_is); (case k1 => k_is); (case a2 => k_is); (case l2 => k_is); (case c2 => k_is); (case k2 => k_is); (case a3 => k_is); (case l3 => k_is); (case c3 => k_is); (case k3 => k_is); (case a4 => k_is); (case l4 => k_is); (case c4 => k_is); (case k4 => k_is); (case a5 => k_is); (case l5 => k_is); (case c5 => k_is); (case k5 => k_is); (case a6 => k_is); (case l6 => k_is); (case c6 => k_is); (case k6 => k_is); (case a7 => k_is); (case l7 => k_is); (case c7 => k_is); (case k7 => k_is); (case a8 => k_is); (case l8 => k_is); (case c8 => k_is); (case k8 => k_is); (case a9 => k_is); (case l9 => k_is); (case c9 => k_is); (case k9 => k_is); (case a10 => k_is); (case l10 => k_is); (case c10 => k_is); (case k10 => k_is); (case a11 => k_is); (case l11 => k_is); (case c11 => k_is); (case k11 => k_is); (case a12 => k_is); (case l12 => k_is); (case c12 => k_is); (case k12 => k_is); (case a13 => k_is); (case l13 => k_is); (case c13 => k_is); (case k13 => k_is); (case a14 => k_is); (case l14 => k_is); (case c14 => k_is); (case k14 => k_is); (case a15 => k_is); (case l15 => k_is); (case c15 => k_is); (case k15 => k_is); (case a16 => k_is); (case l16 => k_is); (case c16 => k_is); (case k16 => k_is); (case a17 => k_is); (case l17 => k_is); (case c17 => k_is); (case k17 => k_is); (case a18 => k_is); (case l18 => k_is); (case c18 => k_is); (case k18 => k_is); (case a19 => k_is); (case l19 => k_is); (case c19 => k_is); (case k19 => k_is); (case a20 => k_is); (case l20 => k_is); (case c20 => k_is); (case k20 => k_is); (case a21 => k_is); (case l21 => k_is); (case c21 => k_is); (case k21 => k_is); (case a22 => k_is); (case l22 => k_is); (case c22 => k_is); (case k22 => k_is); (case z0 => k_is); (case z1 => k_is); (case z2 => k_is); (case z3 => k_is); (case z4 => k_is); (case z5 => k_is); (case z6 => k_is); (case z7 => k_is); (case z8 => k_is); (case z9 => k_is); (case z10 => k_is); (case z11 => k_is); (case z12 => k_is); (case z13 => k_is); (case z14 => k_is); (case z15 => k_is); (case z16 => k_is); (case z17 => k_is); (case z18 => k_is); (case z19 => k_is); (case q0 => k_is); (case q1 => k_is)
end
