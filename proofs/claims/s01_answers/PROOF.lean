import PyProof.Rows.All
import Wide.All
import OpenK.AllK
import Wide.FinOn
import PyProof.EqAt
import PyProof.EqKinds
import PyProof.TupleCall
import KE.BitLaws
import Open.SpecLaws
import KE.OsHead
import KE.OsGo
import PyProof.TupleOfGen
import PyProof.ListRange
import KE.KLam
import KE.KSortKeyAny
import KE.KMinKey
import PyFlatLaws
import PySem.Challenge.RW_pairsthathold_s01_answers
section
set_option linter.all false
namespace PM
open Km464
theorem withIn_nil (a : Nat) : withIn [] a = a := rfl
theorem K2 (q : Nat × Nat) (p : List (Nat × Nat)) (a : Nat) : withIn (q :: p) a = if q.1 = a then q.2 else if q.2 = a then q.1 else withIn p a := by
  unfold withIn
  rw [List.find?_cons]
  by_cases h1 : q.1 = a
  · simp [h1]
  · by_cases h2 : q.2 = a
    · simp [h1, h2]
    · have e : (q.1 == a || q.2 == a) = false := by simp [h1, h2]
      rw [e]
      simp only [if_neg h1, if_neg h2]
def Dj (q r : Nat × Nat) : Prop := q.1 ≠ r.1 ∧ q.1 ≠ r.2 ∧ q.2 ≠ r.1 ∧ q.2 ≠ r.2
structure Ok (n : Nat) (p : List (Nat × Nat)) : Prop where
  lt : ∀ q ∈ p, q.1 < q.2 ∧ q.2 < n
  dj : p.Pairwise Dj
theorem Ok.nil (n : Nat) : Ok n [] := ⟨fun _ h => (by cases h), .nil⟩
theorem Ok.tail {n : Nat} {q : Nat × Nat} {p : List (Nat × Nat)} (h : Ok n (q :: p)) : Ok n p := ⟨fun r hr => h.lt r (List.mem_cons_of_mem _ hr), (List.pairwise_cons.mp h.dj).2⟩
theorem Ok.head {n : Nat} {q : Nat × Nat} {p : List (Nat × Nat)} (h : Ok n (q :: p)) : (q.1 < q.2 ∧ q.2 < n) ∧ ∀ r ∈ p, Dj q r := ⟨h.lt q List.mem_cons_self, (List.pairwise_cons.mp h.dj).1⟩
theorem J6 {p : List (Nat × Nat)} {a : Nat} (h : ∀ q ∈ p, q.1 ≠ a ∧ q.2 ≠ a) : withIn p a = a := by
  induction p with
  | nil => rfl
  | cons q p ih =>
    rw [K2, if_neg (h q List.mem_cons_self).1, if_neg (h q List.mem_cons_self).2]
    exact ih fun r hr => h r (List.mem_cons_of_mem _ hr)
theorem Ok.alone1 {n : Nat} {q : Nat × Nat} {p : List (Nat × Nat)} (h : Ok n (q :: p)) : withIn p q.1 = q.1 := J6 fun r hr => ⟨fun e => (h.head.2 r hr).1 e.symm, fun e => (h.head.2 r hr).2.1 e.symm⟩
theorem Ok.alone2 {n : Nat} {q : Nat × Nat} {p : List (Nat × Nat)} (h : Ok n (q :: p)) : withIn p q.2 = q.2 := J6 fun r hr => ⟨fun e => (h.head.2 r hr).2.2.1 e.symm, fun e => (h.head.2 r hr).2.2.2 e.symm⟩
theorem withIn_cases (p : List (Nat × Nat)) (a : Nat) : (withIn p a = a ∧ ∀ q ∈ p, q.1 ≠ a ∧ q.2 ≠ a) ∨ (∃ q ∈ p, (q.1 = a ∧ withIn p a = q.2) ∨ (q.2 = a ∧ withIn p a = q.1)) := by
  induction p with
  | nil => exact .inl ⟨rfl, fun _ h => by cases h⟩
  | cons q p ih =>
    rw [K2]
    by_cases h1 : q.1 = a
    · exact .inr ⟨q, List.mem_cons_self, .inl ⟨h1, by rw [if_pos h1]⟩⟩
    · by_cases h2 : q.2 = a
      · exact .inr ⟨q, List.mem_cons_self, .inr ⟨h2, by rw [if_neg h1, if_pos h2]⟩⟩
      · rw [if_neg h1, if_neg h2]
        rcases ih with ⟨e, h⟩ | ⟨r, hr, h⟩
        · refine .inl ⟨e, fun r hr => ?_⟩
          rcases List.mem_cons.mp hr with e | hr
          · subst e; exact ⟨h1, h2⟩
          · exact h r hr
        · exact .inr ⟨r, List.mem_cons_of_mem _ hr, h⟩
theorem Ok.lt_of {n : Nat} {p : List (Nat × Nat)} (h : Ok n p) {a : Nat} (ha : a < n) : withIn p a < n := by
  rcases withIn_cases p a with ⟨e, _⟩ | ⟨q, hq, ⟨_, e⟩ | ⟨_, e⟩⟩
  · rw [e]; exact ha
  · rw [e]; exact (h.lt q hq).2
  · rw [e]; exact Nat.lt_trans (h.lt q hq).1 (h.lt q hq).2
theorem Ok.back {n : Nat} {p : List (Nat × Nat)} (h : Ok n p) (a : Nat) : withIn p (withIn p a) = a := by
  induction p with
  | nil => rfl
  | cons q p ih =>
    have ih := ih h.tail
    have hq := h.head.1
    rw [K2 q p a]
    by_cases h1 : q.1 = a
    · rw [if_pos h1, K2, if_neg (by omega), if_pos rfl, h1]
    · rw [if_neg h1]
      by_cases h2 : q.2 = a
      · rw [if_pos h2, K2, if_pos rfl, h2]
      · rw [if_neg h2, K2]
        have e1 := h.alone1
        have e2 := h.alone2
        rw [if_neg (fun e => ?_), if_neg (fun e => ?_)]
        · exact ih
        · rw [← e, e2] at ih; exact h2 ih
        · rw [← e, e1] at ih; exact h1 ih
theorem Ok.ne_mem {n : Nat} {p : List (Nat × Nat)} (h : Ok n p) {a : Nat} (ha : withIn p a = a) : ∀ q ∈ p, q.1 ≠ a ∧ q.2 ≠ a := by
  intro q hq
  rcases withIn_cases p a with ⟨_, h'⟩ | ⟨r, hr, ⟨e1, e2⟩ | ⟨e1, e2⟩⟩
  · exact h' q hq
  · exact absurd (e1.trans (ha.symm.trans e2)) (Nat.ne_of_lt (h.lt r hr).1)
  · exact absurd (e1.trans (ha.symm.trans e2)).symm (Nat.ne_of_lt (h.lt r hr).1)
def notouch (l : List Nat) (p : Nat × Nat) : Bool := !(l.contains p.1) && !(l.contains p.2)
theorem Ok.filter {n : Nat} {p : List (Nat × Nat)} (h : Ok n p) (f : Nat × Nat → Bool) : Ok n (p.filter f) := ⟨fun q hq => h.lt q (List.mem_filter.mp hq).1, h.dj.filter f⟩
theorem zu5 {n : Nat} {p : List (Nat × Nat)} (h : Ok n p) (l : List Nat) (x : Nat) : withIn (p.filter (notouch l)) x = if x ∈ l ∨ withIn p x ∈ l then x else withIn p x := by
  induction p with
  | nil => rw [List.filter_nil, withIn_nil]; split <;> rfl
  | cons q p ih =>
    have ih := ih h.tail
    rw [List.filter_cons]
    by_cases t : notouch l q = true
    · rw [if_pos t, K2, K2, ih]
      have t' : q.1 ∉ l ∧ q.2 ∉ l := by simpa [notouch] using t
      by_cases h1 : q.1 = x
      · subst h1; simp [t'.1, t'.2]
      · by_cases h2 : q.2 = x
        · subst h2; simp [h1, t'.1, t'.2]
        · simp [h1, h2]
    · rw [if_neg t, ih, K2]
      have t' : q.1 ∈ l ∨ q.2 ∈ l := by
        by_cases m1 : q.1 ∈ l
        · exact .inl m1
        · by_cases m2 : q.2 ∈ l
          · exact .inr m2
          · exact absurd (by simp [notouch, m1, m2]) t
      by_cases h1 : q.1 = x
      · have e := h.alone1
        subst h1
        rw [e, if_pos rfl, if_pos t']
        split <;> rfl
      · by_cases h2 : q.2 = x
        · have e := h.alone2
          subst h2
          rw [e, if_neg h1, if_pos rfl, if_pos (Or.comm.mp t')]
          split <;> rfl
        · rw [if_neg h1, if_neg h2]
theorem zu7 (p r : List (Nat × Nat)) (x : Nat) : withIn (p ++ r) x = if withIn p x = x ∧ (∀ q ∈ p, q.1 ≠ x ∧ q.2 ≠ x) then withIn r x else withIn p x := by
  induction p with
  | nil => simp [withIn_nil]
  | cons q p ih =>
    rw [List.cons_append, K2, K2, ih]
    by_cases h1 : q.1 = x
    · simp [h1]
    · by_cases h2 : q.2 = x
      · simp [h1, h2]
      · rw [if_neg h1, if_neg h2, if_neg h1, if_neg h2]
        have e : (∀ r ∈ q :: p, r.1 ≠ x ∧ r.2 ≠ x) ↔ ∀ r ∈ p, r.1 ≠ x ∧ r.2 ≠ x := ⟨fun h r hr => h r (List.mem_cons_of_mem _ hr), fun h r hr => by
          rcases List.mem_cons.mp hr with e | hr
          · subst e; exact ⟨h1, h2⟩
          · exact h r hr⟩
        simp only [e]
theorem P7 {p : List (Nat × Nat)} {a b : Nat} (ha : ∀ q ∈ p, q.1 ≠ a ∧ q.2 ≠ a) (hb : ∀ q ∈ p, q.1 ≠ b ∧ q.2 ≠ b) (x : Nat) :
    withIn (p ++ [(a, b)]) x = if x = a then b else if x = b then a else withIn p x := by
  rw [zu7, K2, withIn_nil]
  by_cases h1 : x = a
  · subst h1; rw [if_pos ⟨J6 ha, ha⟩]; simp
  · by_cases h2 : x = b
    · subst h2; rw [if_pos ⟨J6 hb, hb⟩]; simp [h1, Ne.symm h1]
    · simp only [Ne.symm h1, Ne.symm h2, h1, h2, if_false]
      split
      · rename_i h; exact h.1.symm
      · rfl
theorem key_cases (a b : Nat) (h : a ≠ b) : (a < b ∧ key a b = (a, b)) ∨ (b < a ∧ key a b = (b, a)) := by
  unfold key
  by_cases h1 : a < b
  · exact .inl ⟨h1, if_pos h1⟩
  · exact .inr ⟨by omega, if_neg h1⟩
theorem zu6 {p : List (Nat × Nat)} {a b : Nat} (hab : a ≠ b) (ha : ∀ q ∈ p, q.1 ≠ a ∧ q.2 ≠ a) (hb : ∀ q ∈ p, q.1 ≠ b ∧ q.2 ≠ b) (x : Nat) :
    withIn (p ++ [key a b]) x = if x = a then b else if x = b then a else withIn p x := by
  rcases key_cases a b hab with ⟨_, e⟩ | ⟨_, e⟩
  · rw [e, P7 ha hb]
  · rw [e, P7 hb ha]
    by_cases h1 : x = a
    · subst h1; rw [if_neg hab, if_pos rfl, if_pos rfl]
    · by_cases h2 : x = b
      · subst h2; rw [if_pos rfl, if_neg h1, if_pos rfl]
      · rw [if_neg h2, if_neg h1, if_neg h1, if_neg h2]
theorem Ok.snoc {n : Nat} {p : List (Nat × Nat)} (h : Ok n p) {q : Nat × Nat} (hq : q.1 < q.2 ∧ q.2 < n) (d : ∀ r ∈ p, Dj r q) : Ok n (p ++ [q]) := by
  refine ⟨fun r hr => ?_, List.pairwise_append.mpr ⟨h.dj, List.pairwise_singleton _ _, fun r hr s hs => ?_⟩⟩
  · rcases List.mem_append.mp hr with hr | hr
    · exact h.lt r hr
    · rw [List.mem_singleton.mp hr]; exact hq
  · rw [List.mem_singleton.mp hs]; exact d r hr
theorem Ok.key {n : Nat} {p : List (Nat × Nat)} (h : Ok n p) {a b : Nat} (hab : a ≠ b) (la : a < n) (lb : b < n) (ha : ∀ q ∈ p, q.1 ≠ a ∧ q.2 ≠ a) (hb : ∀ q ∈ p, q.1 ≠ b ∧ q.2 ≠ b) : Ok n (p ++ [key a b]) := by
  rcases key_cases a b hab with ⟨l, e⟩ | ⟨l, e⟩
  · rw [e]; exact h.snoc ⟨l, lb⟩ fun r hr => ⟨(ha r hr).1, (hb r hr).1, (ha r hr).2, (hb r hr).2⟩
  · rw [e]; exact h.snoc ⟨l, la⟩ fun r hr => ⟨(hb r hr).1, (ha r hr).1, (hb r hr).2, (ha r hr).2⟩
theorem K5 {l : List Nat} {p : List (Nat × Nat)} {a : Nat} (ha : a ∈ l) : ∀ q ∈ p.filter (notouch l), q.1 ≠ a ∧ q.2 ≠ a := by
  intro q hq
  have t : q.1 ∉ l ∧ q.2 ∉ l := by simpa [notouch] using (List.mem_filter.mp hq).2
  exact ⟨fun e => t.1 (e ▸ ha), fun e => t.2 (e ▸ ha)⟩
theorem qh0 {α : Type} [DecidableEq α] {l : List α} {f g : α → Bool} {i : α} (nd : l.Nodup) (hi : i ∈ l) (he : ∀ x ∈ l, x ≠ i → f x = g x) (fi : f i = true) (gi : g i = false) : l.countP f = l.countP g + 1 := by
  induction l with
  | nil => cases hi
  | cons y l ih =>
    rw [List.countP_cons, List.countP_cons]
    have nd' := List.nodup_cons.mp nd
    rcases List.mem_cons.mp hi with e | hi
    · subst e
      have : l.countP f = l.countP g := List.countP_congr fun x hx => by
        rw [he x (List.mem_cons_of_mem _ hx) fun e => nd'.1 (e ▸ hx)]
      rw [this, fi, gi]; simp
    · rw [ih nd'.2 hi (fun x hx => he x (List.mem_cons_of_mem _ hx)), he y List.mem_cons_self (fun e => nd'.1 (e ▸ hi))]
      omega
theorem qg9 {n : Nat} {p : List (Nat × Nat)} (h : Ok n p) : (List.range n).countP (fun a => decide (a < withIn p a)) = p.length := by
  induction p with
  | nil =>
    rw [List.countP_eq_zero.mpr]
    · rfl
    · intro a _; simp [withIn_nil]
  | cons q p ih =>
    have hq := h.head.1
    rw [qh0 (g := fun a => decide (a < withIn p a)) (i := q.1) List.nodup_range (List.mem_range.mpr (by omega)), ih h.tail, List.length_cons]
    · intro x hx ne
      show decide _ = decide _
      rw [K2, if_neg (Ne.symm ne)]
      by_cases h2 : q.2 = x
      · have e := h.alone2
        subst h2
        rw [if_pos rfl, e]
        simp
        omega
      · rw [if_neg h2]
    · show decide _ = true
      rw [K2, if_pos rfl]; simp [hq.1]
    · show decide _ = false
      rw [h.alone1]; simp
def mOf (n : Nat) (p : List (Nat × Nat)) : List Nat := (List.range n).map (withIn p)
theorem E1 (n : Nat) (p : List (Nat × Nat)) : (mOf n p).length = n := by simp [mOf]
theorem Q3 {n : Nat} (p : List (Nat × Nat)) {a : Nat} (h : a < n) : (mOf n p)[a]? = some (withIn p a) := by simp [mOf, h]
theorem j2 {n : Nat} (p : List (Nat × Nat)) {a : Nat} (h : a < n) : (mOf n p).getD a 0 = withIn p a := by
  rw [List.getD_eq_getElem?_getD, Q3 p h]; rfl
theorem zm5 (n : Nat) : mOf n [] = List.range n := by
  show (List.range n).map (withIn []) = _
  rw [show withIn [] = id from funext fun a => withIn_nil a, List.map_id]
theorem zq7 {n : Nat} {l : List Nat} {p : List (Nat × Nat)} (hl : l.length = n) (h : ∀ a, a < n → l[a]? = some (withIn p a)) : l = mOf n p := by
  apply List.ext_getElem?
  intro i
  by_cases hi : i < n
  · rw [h i hi, Q3 p hi]
  · rw [List.getElem?_eq_none (by omega), List.getElem?_eq_none (by rw [E1]; omega)]
def Y2 (m : List Nat) (a : Nat) : List Nat := (m.set (m.getD a 0) (m.getD a 0)).set a a
def x3 (m : List Nat) (a b : Nat) : List Nat := ((Y2 (Y2 m a) b).set a b).set b a
theorem X2 (m : List Nat) (a : Nat) : (Y2 m a).length = m.length := by simp [Y2]
theorem zj1 (m : List Nat) (a b : Nat) : (x3 m a b).length = m.length := by simp [x3, X2]
theorem V6 {n : Nat} {p : List (Nat × Nat)} (h : Ok n p) {a : Nat} (ha : a < n) : Y2 (mOf n p) a = mOf n (p.filter (notouch [a])) := by
  refine zq7 (by rw [X2, E1]) fun x hx => ?_
  unfold Y2
  rw [j2 p ha, List.getElem?_set, List.getElem?_set, zu5 h]
  simp only [List.length_set, E1, List.mem_singleton]
  by_cases h1 : a = x
  · subst h1; rw [if_pos rfl, if_pos ha]; simp
  · rw [if_neg h1]
    by_cases h2 : withIn p a = x
    · have hb := h.back a
      subst h2
      rw [if_pos rfl, if_pos hx, hb, if_pos (.inr rfl)]
    · rw [if_neg h2, Q3 p hx, if_neg]
      intro q
      rcases q with q | q
      · exact h1 q.symm
      · exact h2 (by rw [← q]; exact h.back x)
theorem zY8 (a b : Nat) (p : List (Nat × Nat)) : (p.filter (notouch [a])).filter (notouch [b]) = p.filter (notouch [a, b]) := by
  rw [List.filter_filter]
  apply List.filter_congr
  intro q _
  simp only [notouch, List.contains_cons, List.contains_nil, Bool.or_false]
  cases (q.1 == a) <;> cases (q.2 == a) <;> cases (q.1 == b) <;> cases (q.2 == b) <;> rfl
theorem zi9 {n : Nat} {p : List (Nat × Nat)} (h : Ok n p) {a b : Nat} (hab : a ≠ b) (ha : a < n) (hb : b < n) : x3 (mOf n p) a b = mOf n (p.filter (notouch [a, b]) ++ [key a b]) := by
  unfold x3
  rw [V6 h ha, V6 (h.filter _) hb, zY8]
  refine zq7 (by simp [E1]) fun x hx => ?_
  rw [zu6 hab (K5 (by simp)) (K5 (by simp)), List.getElem?_set, List.getElem?_set]
  simp only [List.length_set, E1]
  by_cases h2 : b = x
  · subst h2; rw [if_pos rfl, if_pos hb, if_neg (Ne.symm hab), if_pos rfl]
  · rw [if_neg h2]
    by_cases h1 : a = x
    · subst h1; rw [if_pos rfl, if_pos ha, if_pos rfl]
    · rw [if_neg h1, Q3 _ hx, if_neg (Ne.symm h1), if_neg (Ne.symm h2)]
theorem zq2 {p : List (Nat × Nat)} {l : List Nat} (h : ∀ q ∈ p, q.1 ∉ l ∧ q.2 ∉ l) : p.filter (notouch l) = p := List.filter_eq_self.mpr fun q hq => by simp [notouch, (h q hq).1, (h q hq).2]
theorem zj0 {n : Nat} {p : List (Nat × Nat)} (h : Ok n p) {a b : Nat} (hab : a ≠ b) (ha : a < n) (hb : b < n) (wa : withIn p a = a) (wb : withIn p b = b) : x3 (mOf n p) a b = mOf n (p ++ [key a b]) := by
  rw [zi9 h hab ha hb, zq2]
  intro q hq
  have h1 := h.ne_mem wa q hq
  have h2 := h.ne_mem wb q hq
  simp [h1.1, h1.2, h2.1, h2.2]
section
variable (L : List (List Nat))
def S1 (a b : Nat) : Bool := (⟨L, []⟩ : House).would a b
def plc (a b : Nat) : Nat := (⟨L, []⟩ : House).stands a b
def brk (m : List Nat) (a b : Nat) : Bool := S1 L a b && (decide (plc L a b < plc L a (m.getD a 0)) && decide (plc L b a < plc L b (m.getD b 0)))
def later (a n : Nat) : List Nat := List.range' (a + 1) (n - (a + 1))
def E6 (m : List Nat) : List (Nat × Nat) := (List.range L.length).flatMap fun a => ((later a L.length).filter fun b => brk L m a b).map fun b => (a, b)
def E3 (m : List Nat) : Bool := (List.range L.length).all fun a => (later a L.length).all fun b => !brk L m a b
def U5 (m : List Nat) (a : Nat) : List Nat := (later a L.length).filter fun b => m.getD a 0 == a && (m.getD b 0 == b && S1 L a b)
def ext (m : List Nat) (a : Nat) : List (List Nat) := m :: (U5 L m a).map fun b => x3 m a b
def withChoices (P : List (List Nat)) (a : Nat) : List (List Nat) := P.flatMap fun m => ext L m a
def x4 : List (List Nat) := (List.range L.length).foldl (withChoices L) [List.range L.length]
def A7 : List (List Nat) := (x4 L).filter (E3 L)
end
theorem zn3 (a n : Nat) : (List.range n).filter (fun j => decide (a < j)) = later a n := by
  unfold later
  induction n with
  | zero => simp
  | succ n ih =>
    rw [List.range_succ, List.filter_append, ih]
    by_cases h : a < n
    · rw [List.filter_cons, if_pos (by simp [h]), List.filter_nil, show n + 1 - (a + 1) = (n - (a + 1)) + 1 by omega, List.range'_1_concat]
      congr 2; omega
    · rw [List.filter_cons, if_neg (by simp; omega), List.filter_nil, show n + 1 - (a + 1) = 0 by omega, show n - (a + 1) = 0 by omega]
      rfl
theorem ql2 {a n b : Nat} : b ∈ later a n ↔ a < b ∧ b < n := by
  rw [← zn3]; simp [List.mem_filter, and_comm]
theorem zS2 (n : Nat) : pairs n = (List.range n).flatMap fun i => (later i n).map fun j => (i, j) := by
  unfold pairs
  congr 1
  funext i
  rw [zn3]
theorem G7 (s : House) {p : List (Nat × Nat)} {a b : Nat} (ha : a < s.many) (hb : b < s.many) : brk s.wish (mOf s.many p) a b = s.breaks p a b := by
  unfold brk
  rw [j2 p ha, j2 p hb]
  rfl
theorem zq3 {α β : Type} (f : α → β) (p : β → Bool) (l : List α) : (l.map f).filter p = (l.filter fun x => p (f x)).map f := by
  rw [List.filter_map]; rfl
theorem d9 (s : House) (p : List (Nat × Nat)) : E6 s.wish (mOf s.many p) = s.breakers p := by
  unfold House.breakers E6
  rw [zS2, List.filter_flatMap]
  show List.flatMap _ (List.range s.many) = _
  unfold List.flatMap
  congr 1
  apply List.map_congr_left
  intro a ha
  rw [zq3]
  congr 1
  apply List.filter_congr
  intro b hb
  exact G7 s (List.mem_range.mp ha) (ql2.mp hb).2
theorem qe0 (L : List (List Nat)) (m : List Nat) : E3 L m = (E6 L m == []) := by
  unfold E3 E6
  rw [Bool.eq_iff_iff]
  simp only [List.all_eq_true, beq_iff_eq, List.flatMap_eq_nil_iff, List.map_eq_nil_iff, List.filter_eq_nil_iff]
  constructor
  · intro h a ha b hb; have := h a ha b hb; simpa using this
  · intro h a ha b hb; have := h a ha b hb; simpa using this
theorem zo4 (s : House) (p : List (Nat × Nat)) : E3 s.wish (mOf s.many p) = s.holds p := by
  rw [qe0, d9]; rfl
def expand (L : List (List Nat)) (as : List Nat) (P : List (List Nat)) : List (List Nat) := as.foldl (withChoices L) P
theorem T8 (L : List (List Nat)) : ∀ (as : List Nat) (P : List (List Nat)), expand L as P = P.flatMap fun m => expand L as [m]
  | [], P => by
    show P = P.flatMap fun m => [m]
    exact (List.flatMap_singleton' P).symm
  | a :: as, P => by
    show expand L as (withChoices L P a) = P.flatMap fun m => expand L as (withChoices L [m] a)
    rw [T8 L as]
    unfold withChoices
    rw [List.flatMap_assoc]
    congr 1
    funext m
    rw [T8 L as ([m].flatMap _)]
    rw [List.flatMap_cons, List.flatMap_nil, List.append_nil]
theorem l8 (s : House) : ∀ (f g : Nat) (l : List Nat), l.length ≤ f → l.length ≤ g → s.pairings f l = s.pairings g l
  | 0, 0, _, _, _ => rfl
  | 0, g + 1, [], _, _ => rfl
  | f + 1, 0, [], _, _ => rfl
  | f + 1, g + 1, [], _, _ => rfl
  | 0, _, _ :: _, h, _ => by simp at h
  | _, 0, _ :: _, _, h => by simp at h
  | f + 1, g + 1, a :: l, h1, h2 => by
    have h1' : l.length ≤ f := by simpa using h1
    have h2' : l.length ≤ g := by simpa using h2
    unfold House.pairings
    rw [l8 s f g l h1' h2']
    congr 2
    funext b
    rw [l8 s f g _ (Nat.le_trans (List.length_filter_le _ _) h1') (Nat.le_trans (List.length_filter_le _ _) h2')]
theorem S8 (s : House) : ∀ (k f : Nat) (p : List (Nat × Nat)), k ≤ s.many → k ≤ f → Ok s.many p → (∀ q ∈ p, q.1 < s.many - k) →
    expand s.wish (List.range' (s.many - k) k) [mOf s.many p] = (s.pairings f ((List.range' (s.many - k) k).filter fun x => withIn p x == x)).map fun r => mOf s.many (p ++ r)
  | 0, f, p, _, _, _, _ => by
    show [mOf s.many p] = _
    cases f <;> simp [House.pairings]
  | k + 1, 0, _, _, h, _, _ => by omega
  | k + 1, f + 1, p, hk, hf, hp, hlt => by
    have e0 : s.many - (k + 1) + 1 = s.many - k := by omega
    rw [List.range'_succ, e0]
    generalize ha : s.many - (k + 1) = a
    have han : a < s.many := by omega
    have hlater : later a s.many = List.range' (s.many - k) k := by
      unfold later
      rw [show a + 1 = s.many - k by omega, show s.many - (s.many - k) = k by omega]
    show expand s.wish (List.range' (s.many - k) k) (withChoices s.wish [mOf s.many p] a) = _
    have hone := S8 s k f p (by omega) (by omega) hp (fun q hq => by have := hlt q hq; omega)
    have hw : withChoices s.wish [mOf s.many p] a = ext s.wish (mOf s.many p) a := by
      unfold withChoices; rw [List.flatMap_cons, List.flatMap_nil, List.append_nil]
    rw [hw, T8]
    unfold ext
    rw [List.flatMap_cons, hone, List.flatMap_map]
    by_cases al : withIn p a = a
    · rw [List.filter_cons, if_pos (by simp [al])]
      show _ = List.map _ (s.pairings f _ ++ List.flatMap _ _)
      rw [List.map_append]
      congr 1
      rw [List.map_flatMap]
      have hch : U5 s.wish (mOf s.many p) a = ((List.range' (s.many - k) k).filter fun x => withIn p x == x).filter fun b => s.would a b := by
        unfold U5
        rw [show s.wish.length = s.many from rfl, hlater, List.filter_filter]
        apply List.filter_congr
        intro b hb
        have hb' : b < s.many := by rw [← hlater] at hb; exact (ql2.mp hb).2
        rw [j2 p han, j2 p hb', al]
        simp only [beq_self_eq_true, Bool.true_and]
        rw [Bool.and_comm]
        rfl
      rw [hch]
      unfold List.flatMap
      congr 1
      apply List.map_congr_left
      intro b hb
      have hb1 := List.mem_filter.mp hb
      have hb2 := List.mem_filter.mp hb1.1
      have hbl : a < b ∧ b < s.many := by rw [← hlater] at hb2; exact ql2.mp hb2.1
      have wb : withIn p b = b := by simpa using hb2.2
      have hab : a ≠ b := by omega
      have hkey : key a b = (a, b) := if_pos hbl.1
      rw [zj0 hp hab han hbl.2 al wb, hkey]
      have hp' : Ok s.many (p ++ [(a, b)]) := by
        have := hp.key hab han hbl.2 (hp.ne_mem al) (hp.ne_mem wb)
        rw [hkey] at this; exact this
      rw [S8 s k f (p ++ [(a, b)]) (by omega) (by omega) hp' (fun q hq => by
        rcases List.mem_append.mp hq with hq | hq
        · have := hlt q hq; omega
        · rw [List.mem_singleton.mp hq]; show a < _; omega)]
      rw [List.map_map]
      have hfil : ((List.range' (s.many - k) k).filter fun x => withIn (p ++ [(a, b)]) x == x) = (((List.range' (s.many - k) k).filter fun x => withIn p x == x).filter fun x => x != b) := by
        rw [List.filter_filter]
        apply List.filter_congr
        intro x hx
        have hx' : a < x := by rw [← hlater] at hx; exact (ql2.mp hx).1
        rw [P7 (hp.ne_mem al) (hp.ne_mem wb), if_neg (by omega)]
        by_cases hxb : x = b
        · subst hxb; rw [if_pos rfl]; simp [hab]
        · rw [if_neg hxb]; simp [hxb]
      rw [hfil]
      apply List.map_congr_left
      intro r _
      show mOf s.many (p ++ [(a, b)] ++ r) = mOf s.many (p ++ (a, b) :: r)
      rw [List.append_assoc]; rfl
    · rw [List.filter_cons, if_neg (by simp [al])]
      have hch : U5 s.wish (mOf s.many p) a = [] := by
        unfold U5
        apply List.filter_eq_nil_iff.mpr
        intro b hb
        rw [j2 p han]
        simp [al]
      rw [hch, List.flatMap_nil, List.append_nil]
      congr 1
      have hl : ((List.range' (s.many - k) k).filter fun x => withIn p x == x).length ≤ k := Nat.le_trans (List.length_filter_le _ _) (by simp)
      exact l8 s _ _ _ (by omega) (by omega)
theorem zu0 (s : House) : x4 s.wish = (s.pairings (s.many + 1) s.all).map (mOf s.many) := by
  have h := S8 s s.many (s.many + 1) [] (Nat.le_refl _) (by omega) (Ok.nil _) (fun _ h => by cases h)
  rw [Nat.sub_self, zm5] at h
  unfold x4 House.all
  rw [show s.wish.length = s.many from rfl, List.range_eq_range']
  rw [List.range_eq_range'] at h
  show expand s.wish _ _ = _
  rw [h]
  congr 2
  exact List.filter_eq_self.mpr fun x _ => by simp [withIn_nil]
theorem U3 (s : House) : A7 s.wish = s.good.map (mOf s.many) := by
  unfold A7 House.good
  rw [zu0, zq3]
  congr 1
  apply List.filter_congr
  intro p _
  exact zo4 s p
theorem k8 (s : House) {n : Nat} : ∀ (f : Nat) (l : List Nat), l.Pairwise (· < ·) → (∀ x ∈ l, x < n) → ∀ r ∈ s.pairings f l, Ok n r ∧ ∀ q ∈ r, q.1 ∈ l ∧ q.2 ∈ l ∧ s.would q.1 q.2 = true
  | 0, _, _, _, r, hr => by
    rw [List.mem_singleton.mp hr]; exact ⟨Ok.nil _, fun _ h => by cases h⟩
  | f + 1, [], _, _, r, hr => by
    rw [List.mem_singleton.mp hr]; exact ⟨Ok.nil _, fun _ h => by cases h⟩
  | f + 1, a :: l, hl, hn, r, hr => by
    have hl' := List.pairwise_cons.mp hl
    unfold House.pairings at hr
    rcases List.mem_append.mp hr with hr | hr
    · have ih := k8 s f l hl'.2 (fun x hx => hn x (List.mem_cons_of_mem _ hx)) r hr
      exact ⟨ih.1, fun q hq => ⟨List.mem_cons_of_mem _ (ih.2 q hq).1, List.mem_cons_of_mem _ (ih.2 q hq).2.1, (ih.2 q hq).2.2⟩⟩
    · obtain ⟨b, hb, hr⟩ := List.mem_flatMap.mp hr
      obtain ⟨r', hr', e⟩ := List.mem_map.mp hr
      subst e
      have hb' := List.mem_filter.mp hb
      have ih := k8 s f (l.filter fun x => x != b) (hl'.2.filter _) (fun x hx => hn x (List.mem_cons_of_mem _ (List.mem_filter.mp hx).1)) r' hr'
      have hab := hl'.1 b hb'.1
      refine ⟨⟨fun q hq => ?_, List.pairwise_cons.mpr ⟨fun q hq => ?_, ih.1.dj⟩⟩, fun q hq => ?_⟩
      · rcases List.mem_cons.mp hq with e | hq
        · subst e; exact ⟨hab, hn b (List.mem_cons_of_mem _ hb'.1)⟩
        · exact ih.1.lt q hq
      · have h := ih.2 q hq
        have h1 := List.mem_filter.mp h.1
        have h2 := List.mem_filter.mp h.2.1
        have l1 := hl'.1 _ h1.1
        have l2 := hl'.1 _ h2.1
        have n1 : q.1 ≠ b := by simpa using h1.2
        have n2 : q.2 ≠ b := by simpa using h2.2
        exact ⟨by show a ≠ _; omega, by show a ≠ _; omega, Ne.symm n1, Ne.symm n2⟩
      · rcases List.mem_cons.mp hq with e | hq
        · subst e; exact ⟨List.mem_cons_self, List.mem_cons_of_mem _ hb'.1, hb'.2⟩
        · have h := ih.2 q hq
          exact ⟨List.mem_cons_of_mem _ (List.mem_filter.mp h.1).1, List.mem_cons_of_mem _ (List.mem_filter.mp h.2.1).1, h.2.2⟩
structure Fit (s : House) (p : List (Nat × Nat)) : Prop where
  ok : Ok s.many p
  sh : ∀ q ∈ p, s.would q.1 q.2 = true
theorem zi8 (s : House) {r : List (Nat × Nat)} (h : r ∈ s.pairings (s.many + 1) s.all) : Fit s r := by
  have := k8 s (s.many + 1) s.all (by unfold House.all; exact List.pairwise_lt_range) (fun x hx => List.mem_range.mp hx) r h
  exact ⟨this.1, fun q hq => (this.2 q hq).2.2⟩
theorem good_fit (s : House) {r : List (Nat × Nat)} (h : r ∈ s.good) : Fit s r := zi8 s (List.mem_filter.mp h).1
theorem z4 (s : House) (a b : Nat) : s.would a b = s.would b a := by unfold House.would; rw [Bool.and_comm]
theorem Fit.with_ {s : House} {p : List (Nat × Nat)} (h : Fit s p) (a : Nat) : withIn p a = a ∨ s.would a (withIn p a) = true := by
  rcases withIn_cases p a with ⟨e, _⟩ | ⟨q, hq, ⟨e1, e2⟩ | ⟨e1, e2⟩⟩
  · exact .inl e
  · rw [e2, ← e1]; exact .inr (h.sh q hq)
  · rw [e2, ← e1, z4]; exact .inr (h.sh q hq)
end PM
end
section
set_option linter.all false
namespace PM
open Km464
theorem L5 {α : Type} {l : List α} : l.Nodup ↔ ∀ i j, i < j → j < l.length → l[i]? ≠ l[j]? := by
  unfold List.Nodup
  rw [List.pairwise_iff_getElem]
  constructor
  · intro h i j hij hj e
    have hi : i < l.length := by omega
    rw [List.getElem?_eq_getElem hi, List.getElem?_eq_getElem hj] at e
    exact h i j hi hj hij (Option.some.inj e)
  · intro h i j hi hj hij e
    exact h i j hij hj (by rw [List.getElem?_eq_getElem hi, List.getElem?_eq_getElem hj, e])
structure OkL (n a : Nat) (l : List Nat) : Prop where
  lt : ∀ b ∈ l, b < n
  ne : ∀ b ∈ l, b ≠ a
  nd : l.Nodup
  len : l.length ≤ 6
structure GoodH (s : House) : Prop where
  n7 : s.many ≤ 7
  lst : ∀ a, a < s.many → OkL s.many a (s.list a)
  fit : Fit s s.paired
structure GoodD (d : Desk) : Prop where
  now : GoodH d.now
  past : ∀ h ∈ d.past, GoodH h
  fut : ∀ h ∈ d.future, GoodH h
  len : d.past.length + d.future.length ≤ 20
theorem GoodH.no_self {s : House} (g : GoodH s) {a : Nat} (ha : a < s.many) : s.onList a a = false := by
  unfold House.onList
  cases e : (s.list a).contains a with
  | false => rfl
  | true => exact absurd rfl ((g.lst a ha).ne a (by simpa using e))
theorem GoodH.would_ne {s : House} (g : GoodH s) {a b : Nat} (ha : a < s.many) (h : s.would a b = true) : a ≠ b := by
  intro e
  subst e
  unfold House.would at h
  rw [g.no_self ha] at h
  cases h
theorem zj3 {n : Nat} (h : n ≤ 7) : GoodH (opened n) := by
  have hm : (opened n).many = n := by simp [opened, House.many]
  refine ⟨by rw [hm]; exact h, fun a ha => ?_, ⟨Ok.nil _, fun _ h => by cases h⟩⟩
  have e : (opened n).list a = [] := by
    unfold House.list opened
    rw [List.getD_eq_getElem?_getD, List.getElem?_replicate]
    split <;> rfl
  rw [e]
  exact ⟨fun _ h => (by cases h), fun _ h => (by cases h), .nil, by simp⟩
theorem k7 (s : House) {a : Nat} (l : List Nat) (ha : a < s.many) : (s.setWish a l).list a = l := by
  unfold House.list House.setWish
  rw [List.getD_eq_getElem?_getD, List.getElem?_set_self (by exact ha)]
  rfl
theorem x6 (s : House) {a b : Nat} (l : List Nat) (h : a ≠ b) : (s.setWish a l).list b = s.list b := by
  unfold House.list House.setWish
  rw [List.getD_eq_getElem?_getD, List.getElem?_set_ne h, ← List.getD_eq_getElem?_getD]
theorem j7 (s : House) (a : Nat) (l : List Nat) : (s.setWish a l).many = s.many := by simp [House.many, House.setWish]
theorem zu4 (s : House) {a x y : Nat} (l : List Nat) (hx : a ≠ x) (hy : a ≠ y) : (s.setWish a l).would x y = s.would x y := by
  unfold House.would House.onList
  rw [x6 s l hx, x6 s l hy]
theorem zX9 {n a : Nat} {l : List Nat} : okWish n a l = true ↔ (∀ b ∈ l, b < n ∧ b ≠ a) ∧ l.Nodup := by
  unfold okWish
  rw [Bool.and_eq_true, List.all_eq_true, List.all_eq_true]
  refine and_congr ⟨fun h b hb => by simpa using h b hb, fun h b hb => by simpa using h b hb⟩ ?_
  rw [L5]
  constructor
  · intro h i j hij hj e
    have h1 := h i (List.mem_range.mpr (by omega))
    rw [List.all_eq_true] at h1
    have h2 := h1 j (List.mem_range.mpr hj)
    have hne : (i == j) = false := by simp; omega
    rw [hne, Bool.false_or] at h2
    rw [List.getD_eq_getElem?_getD, List.getD_eq_getElem?_getD, e] at h2
    simp at h2
  · intro h i hi
    rw [List.all_eq_true]
    intro j hj
    have hi' := List.mem_range.mp hi
    have hj' := List.mem_range.mp hj
    by_cases e : i = j
    · simp [e]
    · have hne : l[i]? ≠ l[j]? := by
        rcases Nat.lt_or_gt_of_ne e with e | e
        · exact h i j e hj'
        · exact (h j i e hi').symm
      have : l.getD i 0 ≠ l.getD j 0 := by
        rw [List.getD_eq_getElem?_getD, List.getD_eq_getElem?_getD, List.getElem?_eq_getElem hi', List.getElem?_eq_getElem hj']
        rw [List.getElem?_eq_getElem hi', List.getElem?_eq_getElem hj'] at hne
        exact fun q => hne (congrArg some q)
      rw [Bool.or_eq_true]
      exact .inr (bne_iff_ne.mpr this)
theorem GoodH.wish {s : House} (g : GoodH s) {a : Nat} {l : List Nat} (ha : a < s.many) (ok : OkL s.many a l) : GoodH (s.setWish a l).mended := by
  have hm : (s.setWish a l).mended.many = s.many := j7 s a l
  refine ⟨by rw [hm]; exact g.n7, fun b hb => ?_, ⟨?_, ?_⟩⟩
  · rw [hm]
    rw [hm] at hb
    show OkL _ _ ((s.setWish a l).list b)
    by_cases e : a = b
    · subst e; rw [k7 s l ha]; exact ok
    · rw [x6 s l e]; exact g.lst b hb
  · rw [hm]
    exact g.fit.ok.filter _
  · intro q hq
    exact (List.mem_filter.mp hq).2
theorem C8 {l : List Nat} {i j : Nat} (hi : i < l.length) (hj : j < l.length) (x : Nat) : x ∈ (l.set i (l.getD j 0)).set j (l.getD i 0) ↔ x ∈ l := by
  have gi : l.getD i 0 = l[i] := by rw [List.getD_eq_getElem?_getD, List.getElem?_eq_getElem hi]; rfl
  have gj : l.getD j 0 = l[j] := by rw [List.getD_eq_getElem?_getD, List.getElem?_eq_getElem hj]; rfl
  rw [gi, gj]
  simp only [List.mem_iff_getElem?, List.getElem?_set, List.length_set]
  constructor
  · rintro ⟨k, hk⟩
    by_cases e1 : j = k
    · subst e1
      rw [if_pos rfl, if_pos hj] at hk
      exact ⟨i, by rw [List.getElem?_eq_getElem hi]; exact hk⟩
    · rw [if_neg e1] at hk
      by_cases e2 : i = k
      · subst e2
        rw [if_pos rfl, if_pos hi] at hk
        exact ⟨j, by rw [List.getElem?_eq_getElem hj]; exact hk⟩
      · rw [if_neg e2] at hk
        exact ⟨k, hk⟩
  · rintro ⟨k, hk⟩
    by_cases e1 : k = i
    · subst e1
      refine ⟨j, ?_⟩
      rw [if_pos rfl, if_pos hj, ← hk, List.getElem?_eq_getElem hi]
    · by_cases e2 : k = j
      · subst e2
        refine ⟨i, ?_⟩
        rw [if_neg (fun e => e1 e), if_pos rfl, if_pos hi, ← hk, List.getElem?_eq_getElem hj]
      · exact ⟨k, by rw [if_neg (fun e => e2 e.symm), if_neg (fun e => e1 e.symm)]; exact hk⟩
theorem zx6 {l : List Nat} {i j : Nat} (hi : i < l.length) (hj : j < l.length) (nd : l.Nodup) : ((l.set i (l.getD j 0)).set j (l.getD i 0)).Nodup := by
  have gi : l.getD i 0 = l[i] := by rw [List.getD_eq_getElem?_getD, List.getElem?_eq_getElem hi]; rfl
  have gj : l.getD j 0 = l[j] := by rw [List.getD_eq_getElem?_getD, List.getElem?_eq_getElem hj]; rfl
  rw [gi, gj]
  have inj : ∀ {p q : Nat} (hp : p < l.length) (hq : q < l.length), l[p]? = l[q]? → p = q := fun {p q} hp hq e => by
    rw [List.getElem?_eq_getElem hp, List.getElem?_eq_getElem hq] at e
    exact (List.getElem_inj nd).mp (Option.some.inj e)
  have at_ : ∀ k, k < l.length → ((l.set i l[j]).set j l[i])[k]? = l[if j = k then i else if i = k then j else k]? := by
    intro k hk
    rw [List.getElem?_set, List.getElem?_set]
    simp only [List.length_set]
    by_cases h1 : j = k
    · rw [if_pos h1, if_pos hj, if_pos h1, List.getElem?_eq_getElem hi]
    · rw [if_neg h1, if_neg h1]
      by_cases h2 : i = k
      · rw [if_pos h2, if_pos hi, if_pos h2, List.getElem?_eq_getElem hj]
      · rw [if_neg h2, if_neg h2]
  have lt_ : ∀ k, k < l.length → (if j = k then i else if i = k then j else k) < l.length := by
    intro k hk
    split
    · exact hi
    · split
      · exact hj
      · exact hk
  rw [L5]
  intro p q hpq hq e
  simp only [List.length_set] at hq
  have hp : p < l.length := by omega
  rw [at_ p hp, at_ q hq] at e
  have h := inj (lt_ p hp) (lt_ q hq) e
  split at h <;> split at h <;> (try split at h) <;> (try split at h) <;> omega
theorem GoodH.swap {s : House} (g : GoodH s) {a i j : Nat} (ha : a < s.many) (hi : i < (s.list a).length) (hj : j < (s.list a).length) :
    GoodH (s.setWish a (((s.list a).set i ((s.list a).getD j 0)).set j ((s.list a).getD i 0))) := by
  have hm := j7 s a (((s.list a).set i ((s.list a).getD j 0)).set j ((s.list a).getD i 0))
  have ok := g.lst a ha
  have on : ∀ x y, (s.setWish a (((s.list a).set i ((s.list a).getD j 0)).set j ((s.list a).getD i 0))).onList x y = s.onList x y := by
    intro x y
    unfold House.onList
    by_cases e : a = x
    · subst e
      rw [k7 s _ ha, Bool.eq_iff_iff, List.contains_iff_mem, List.contains_iff_mem, C8 hi hj]
    · rw [x6 s _ e]
  refine ⟨by rw [hm]; exact g.n7, fun b hb => ?_, ⟨by rw [hm]; exact g.fit.ok, fun q hq => ?_⟩⟩
  · rw [hm]
    rw [hm] at hb
    by_cases e : a = b
    · subst e
      rw [k7 s _ ha]
      exact ⟨fun b hb => ok.lt b ((C8 hi hj b).mp hb), fun b hb => ok.ne b ((C8 hi hj b).mp hb), zx6 hi hj ok.nd, by simpa using ok.len⟩
    · rw [x6 s _ e]; exact g.lst b hb
  · unfold House.would
    rw [on, on]
    exact g.fit.sh q hq
theorem Fit.pair {s : House} {p : List (Nat × Nat)} (h : Fit s p) {a b : Nat} (hab : a ≠ b) (ha : a < s.many) (hb : b < s.many) (w : s.would a b = true) (fa : ∀ q ∈ p, q.1 ≠ a ∧ q.2 ≠ a) (fb : ∀ q ∈ p, q.1 ≠ b ∧ q.2 ≠ b) : Fit s (p ++ [key a b]) := by
  refine ⟨h.ok.key hab ha hb fa fb, fun q hq => ?_⟩
  rcases List.mem_append.mp hq with hq | hq
  · exact h.sh q hq
  · rw [List.mem_singleton.mp hq]
    rcases key_cases a b hab with ⟨_, e⟩ | ⟨_, e⟩
    · rw [e]; exact w
    · rw [e, z4]; exact w
theorem Fit.filter {s : House} {p : List (Nat × Nat)} (h : Fit s p) (f : Nat × Nat → Bool) : Fit s (p.filter f) := ⟨h.ok.filter f, fun q hq => h.sh q (List.mem_filter.mp hq).1⟩
theorem GoodH.with_ {s : House} (g : GoodH s) {p : List (Nat × Nat)} (h : Fit s p) : GoodH { s with paired := p } := ⟨g.n7, g.lst, ⟨h.ok, h.sh⟩⟩
theorem zs9 {s : House} {p : List (Nat × Nat)} {a b : Nat} (h : s.breaks p a b = true) : s.would a b = true := by
  unfold House.breaks at h
  rw [Bool.and_eq_true] at h
  exact h.1
theorem GoodD.become {d : Desk} (g : GoodD d) {s : House} (h : GoodH s) : GoodD (d.become s) := by
  refine ⟨h, fun k hk => ?_, fun k hk => (by cases hk), ?_⟩
  · rcases List.mem_cons.mp (List.mem_of_mem_take hk) with e | hk
    · rw [e]; exact g.now
    · exact g.past k hk
  · show ((d.now :: d.past).take PAST).length + 0 ≤ 20
    rw [List.length_take]
    exact Nat.min_le_left _ _
theorem zt9 {n : Nat} {p : List (Nat × Nat)} (h : Ok n p) {a : Nat} (e : ¬ withIn p a ≠ a) : ∀ q ∈ p, q.1 ≠ a ∧ q.2 ≠ a := h.ne_mem (by simpa using e)
theorem qj7 {d : Desk} (g : GoodD d) (c : Call) : GoodD (act d c).1 := by
  cases c with
  | start n =>
    dsimp only [act]
    by_cases h : MOST < n
    · rw [if_pos h]; exact g
    · rw [if_neg h]
      exact ⟨zj3 (by unfold MOST at h; omega), fun _ h => (by cases h), fun _ h => (by cases h), by simp⟩
  | wish a n l =>
    dsimp only [act]
    by_cases h : d.now.many ≤ a
    · rw [if_pos h]; exact g
    · rw [if_neg h]
      by_cases h2 : MOST - 1 < n ∨ okWish d.now.many a (l.take n) = false
      · rw [if_pos h2]; exact g
      · rw [if_neg h2]
        have hn : n ≤ 6 := by
          have : ¬ MOST - 1 < n := fun q => h2 (.inl q)
          unfold MOST at this; omega
        have ho : okWish d.now.many a (l.take n) = true := by
          cases e : okWish d.now.many a (l.take n) with
          | true => rfl
          | false => exact absurd (.inr e) h2
        obtain ⟨o1, o2⟩ := zX9.mp ho
        exact g.become (g.now.wish (by omega) ⟨fun b hb => (o1 b hb).1, fun b hb => (o1 b hb).2, o2, by rw [List.length_take]; omega⟩)
  | swap a i j =>
    dsimp only [act]
    by_cases h : d.now.many ≤ a
    · rw [if_pos h]; exact g
    · rw [if_neg h]
      by_cases h2 : (d.now.list a).length ≤ i ∨ (d.now.list a).length ≤ j ∨ i = j
      · rw [if_pos h2]; exact g
      · rw [if_neg h2]
        exact g.become (g.now.swap (by omega) (by omega) (by omega))
  | pair a b =>
    dsimp only [act]
    by_cases h : d.now.many ≤ a ∨ d.now.many ≤ b
    · rw [if_pos h]; exact g
    · rw [if_neg h]
      by_cases h2 : d.now.would a b = false
      · rw [if_pos h2]; exact g
      · rw [if_neg h2]
        by_cases h3 : withIn d.now.paired a ≠ a ∨ withIn d.now.paired b ≠ b
        · rw [if_pos h3]; exact g
        · rw [if_neg h3]
          have w : d.now.would a b = true := by simpa using h2
          exact g.become (g.now.with_ (g.now.fit.pair (g.now.would_ne (by omega) w) (by omega) (by omega) w (zt9 g.now.fit.ok fun q => h3 (.inl q)) (zt9 g.now.fit.ok fun q => h3 (.inr q))))
  | part a =>
    dsimp only [act]
    by_cases h : d.now.many ≤ a
    · rw [if_pos h]; exact g
    · rw [if_neg h]
      by_cases h2 : withIn d.now.paired a = a
      · rw [if_pos h2]; exact g
      · rw [if_neg h2]
        exact g.become (g.now.with_ (g.now.fit.filter _))
  | break_ a b =>
    dsimp only [act]
    by_cases h : d.now.many ≤ a ∨ d.now.many ≤ b
    · rw [if_pos h]; exact g
    · rw [if_neg h]
      by_cases h2 : d.now.breaks d.now.paired a b = false
      · rw [if_pos h2]; exact g
      · rw [if_neg h2]
        have w : d.now.would a b = true := zs9 (by simpa using h2)
        exact g.become (g.now.with_ ((g.now.fit.filter (notouch [a, b])).pair (g.now.would_ne (by omega) w) (by omega) (by omega) w (K5 (by simp)) (K5 (by simp))))
  | all_ =>
    dsimp only [act]
    cases e : d.now.good with
    | nil => exact g
    | cons m r => exact g.become (g.now.with_ (good_fit d.now (by rw [e]; exact List.mem_cons_self)))
  | back =>
    dsimp only [act]
    cases e : d.past with
    | nil => exact g
    | cons k r =>
      have l := g.len
      rw [e] at l
      refine ⟨g.past k (by rw [e]; exact List.mem_cons_self), fun x hx => g.past x (by rw [e]; exact List.mem_cons_of_mem _ hx), fun x hx => ?_, by simp at l ⊢; omega⟩
      rcases List.mem_cons.mp hx with q | hx
      · rw [q]; exact g.now
      · exact g.fut x hx
  | again =>
    dsimp only [act]
    cases e : d.future with
    | nil => exact g
    | cons k r =>
      have l := g.len
      rw [e] at l
      refine ⟨g.fut k (by rw [e]; exact List.mem_cons_self), fun x hx => ?_, fun x hx => g.fut x (by rw [e]; exact List.mem_cons_of_mem _ hx), ?_⟩
      · rcases List.mem_cons.mp (List.mem_of_mem_take hx) with q | hx
        · rw [q]; exact g.now
        · exact g.past x hx
      · simp at l ⊢; omega
  | _ => exact g
theorem qf0 : GoodD (fresh 0) := ⟨zj3 (by omega), fun _ h => (by cases h), fun _ h => (by cases h), by simp [fresh]⟩
theorem qa1 {s : House} (g : GoodH s) {a : Nat} {l : List Nat} (ha : a < s.many) (na : a ∉ l) :
    (s.setWish a l).mended.paired = if (s.setWish a l).would a (withIn s.paired a) = true then s.paired else s.paired.filter (notouch [a]) := by
  show s.paired.filter _ = _
  have h0 : ∀ q ∈ s.paired, q.1 ≠ a → q.2 ≠ a → (s.setWish a l).would q.1 q.2 = true := fun q hq h1 h2 => by
    rw [zu4 s l (Ne.symm h1) (Ne.symm h2)]
    exact g.fit.sh q hq
  have hself : (s.setWish a l).would a a = false := by
    unfold House.would House.onList
    rw [k7 s l ha]
    have : l.contains a = false := by
      cases e : l.contains a with
      | false => rfl
      | true => exact absurd (by simpa using e) na
    rw [this]; rfl
  rcases withIn_cases s.paired a with ⟨e, h⟩ | ⟨q, hq, hc⟩
  · rw [e, hself, if_neg (by simp), zq2 (fun q hq => by simp [(h q hq).1, (h q hq).2])]
    exact List.filter_eq_self.mpr fun q hq => h0 q hq (h q hq).1 (h q hq).2
  · have others : ∀ r ∈ s.paired, r ≠ q → r.1 ≠ a ∧ r.2 ≠ a := by
      intro r hr hne
      have dj := g.fit.ok.dj
      have : Dj r q ∨ Dj q r := by
        obtain ⟨i, hi⟩ := List.getElem?_of_mem hr
        obtain ⟨j, hj⟩ := List.getElem?_of_mem hq
        obtain ⟨hi', ei⟩ := List.getElem?_eq_some_iff.mp hi
        obtain ⟨hj', ej⟩ := List.getElem?_eq_some_iff.mp hj
        rw [List.pairwise_iff_getElem] at dj
        rcases Nat.lt_trichotomy i j with h | h | h
        · left; rw [← ei, ← ej]; exact dj i j hi' hj' h
        · subst h; exact absurd (ei.symm.trans ej) hne
        · right; rw [← ei, ← ej]; exact dj j i hj' hi' h
      rcases hc with ⟨c1, _⟩ | ⟨c1, _⟩ <;> rcases this with t | t <;> rw [← c1] <;> refine ⟨?_, ?_⟩
      · exact t.1
      · exact t.2.2.1
      · exact Ne.symm t.1
      · exact Ne.symm t.2.1
      · exact t.2.1
      · exact t.2.2.2
      · exact Ne.symm t.2.2.1
      · exact Ne.symm t.2.2.2
    have wq : (s.setWish a l).would q.1 q.2 = (s.setWish a l).would a (withIn s.paired a) := by
      rcases hc with ⟨c1, c2⟩ | ⟨c1, c2⟩
      · rw [c2, c1]
      · rw [c2, ← c1, z4]
    by_cases w : (s.setWish a l).would a (withIn s.paired a) = true
    · rw [if_pos w]
      refine List.filter_eq_self.mpr fun r hr => ?_
      by_cases e : r = q
      · subst e; rw [wq]; exact w
      · exact h0 r hr (others r hr e).1 (others r hr e).2
    · rw [if_neg w]
      apply List.filter_congr
      intro r hr
      by_cases e : r = q
      · subst e
        rw [wq]
        have : notouch [a] r = false := by
          rcases hc with ⟨c1, _⟩ | ⟨c1, _⟩ <;> simp [notouch, c1]
        rw [this]
        simpa using w
      · have o := others r hr e
        rw [h0 r hr o.1 o.2]
        simp [notouch, o.1, o.2]
end PM
end
section
set_option linter.all false
namespace PM
open Km464
def nat (x : Nat) : Int := (x : Int)
def C1 : Call → List Int
  | .start n => [0, nat n]
  | .wish a n l => 1 :: nat a :: nat n :: nat l.length :: l.map nat
  | .swap a i j => [2, nat a, nat i, nat j]
  | .pair a b => [3, nat a, nat b]
  | .part a => [4, nat a]
  | .break_ a b => [5, nat a, nat b]
  | .all_ => [6]
  | .holds => [7]
  | .breakers => [8]
  | .would a b => [9, nat a, nat b]
  | .good => [10]
  | .nth k => [11, nat k]
  | .bestOf a => [12, nat a]
  | .worstOf a => [13, nat a]
  | .alone => [14]
  | .ever a b => [15, nat a, nat b]
  | .rings => [16]
  | .ring a => [17, nat a]
  | .odds => [18]
  | .without w => [19, nat w]
  | .place a b => [20, nat a, nat b]
  | .friends a => [21, nat a]
  | .with_ a => [22, nat a]
  | .single => [23]
  | .glad => [24]
  | .fairest => [25]
  | .look a => [26, nat a]
  | .back => [27]
  | .again => [28]
  | .state => [29]
def B4 : Call → Prop
  | .wish _ _ l => l.length = 6
  | _ => True
theorem v6 {z : Int} {b : Nat} (h : Km464Neutral.natural z b = true) : nat z.toNat = z := by
  unfold Km464Neutral.natural at h
  rw [Bool.and_eq_true] at h
  have h1 : 0 ≤ z := by simpa using h.1
  unfold nat
  omega
theorem zZ2 {l : List Int} (h : l.all (fun (z : Int) => Km464Neutral.natural z 32) = true) : (Km464Neutral.nats l).map nat = l := by
  unfold Km464Neutral.nats
  rw [List.map_map]
  have : l.map (nat ∘ Int.toNat) = l.map id := List.map_congr_left fun z hz => v6 (List.all_eq_true.mp h z hz)
  rw [this, List.map_id]
theorem zn0 {α : Type} : ∀ {l : List α}, 2 = l.length → ∃ a b, l = [a, b]
  | [a, b], _ => ⟨a, b, rfl⟩
theorem qb6 {α : Type} : ∀ {l : List α}, 3 = l.length → ∃ a b c, l = [a, b, c]
  | [a, b, c], _ => ⟨a, b, c, rfl⟩
theorem qf5 (p : Int) (a : List Int) (xs : List (List Int)) (hs : PyKm464.shape p = some (a.length, xs.length)) (hq : Km464Neutral.asked1 (PyKm464.whole ((p :: a) :: xs)) = true) :
    ∃ x, Km464Neutral.callOf (PyKm464.whole ((p :: a) :: xs)) = some x ∧ PyFlat.put1 ((p :: a) :: xs) = C1 x ∧ B4 x := by
  unfold PyKm464.shape at hs
  have fin0 : ∀ {p : Int} {x : Call}, some (0, 0) = some (a.length, xs.length) → (a = [] ∧ xs = []) := fun h => by
    have h1 := Prod.mk.inj (Option.some.inj h)
    exact ⟨List.eq_nil_of_length_eq_zero h1.1.symm, List.eq_nil_of_length_eq_zero h1.2.symm⟩
  have fin1 : some (1, 0) = some (a.length, xs.length) → ∃ b0, a = [b0] ∧ xs = [] := fun h => by
    have h1 := Prod.mk.inj (Option.some.inj h)
    obtain ⟨b0, e⟩ := List.length_eq_one_iff.mp h1.1.symm
    exact ⟨b0, e, List.eq_nil_of_length_eq_zero h1.2.symm⟩
  have fin2 : some (2, 0) = some (a.length, xs.length) → ∃ b0 b1, a = [b0, b1] ∧ xs = [] := fun h => by
    have h1 := Prod.mk.inj (Option.some.inj h)
    obtain ⟨b0, b1, e⟩ := zn0 h1.1
    exact ⟨b0, b1, e, List.eq_nil_of_length_eq_zero h1.2.symm⟩
  have fin3 : some (3, 0) = some (a.length, xs.length) → ∃ b0 b1 b2, a = [b0, b1, b2] ∧ xs = [] := fun h => by
    have h1 := Prod.mk.inj (Option.some.inj h)
    obtain ⟨b0, b1, b2, e⟩ := qb6 h1.1
    exact ⟨b0, b1, b2, e, List.eq_nil_of_length_eq_zero h1.2.symm⟩
  have fin21 : some (2, 1) = some (a.length, xs.length) → ∃ b0 b1 r, a = [b0, b1] ∧ xs = [r] := fun h => by
    have h1 := Prod.mk.inj (Option.some.inj h)
    obtain ⟨b0, b1, e⟩ := zn0 h1.1
    obtain ⟨r, e2⟩ := List.length_eq_one_iff.mp h1.2.symm
    exact ⟨b0, b1, r, e, e2⟩
  have go1 : ∀ (b0 : Int), Km464Neutral.natural b0 32 = true → nat b0.toNat = b0 := fun b0 h => v6 h
  have go2 : ∀ (b0 b1 : Int), (Km464Neutral.natural b0 32 && Km464Neutral.natural b1 32) = true → nat b0.toNat = b0 ∧ nat b1.toNat = b1 := fun b0 b1 h => by
    rw [Bool.and_eq_true] at h; exact ⟨v6 h.1, v6 h.2⟩
  by_cases e : p = 0
  · subst e; obtain ⟨b0, rfl, rfl⟩ := fin1 hs
    have h := go1 b0 hq; exact ⟨_, rfl, by show [0, b0] = [0, nat b0.toNat]; rw [h], trivial⟩
  rw [if_neg e] at hs; clear e
  by_cases e : p = 1
  · subst e; obtain ⟨b0, b1, r, rfl, rfl⟩ := fin21 hs
    have h : (Km464Neutral.natural b0 32 && Km464Neutral.natural b1 32 && (decide (r.length = 6) && r.all (fun (z : Int) => Km464Neutral.natural z 32))) = true := hq
    rw [Bool.and_eq_true] at h
    obtain ⟨h4, h5⟩ := h
    rw [Bool.and_eq_true] at h5
    have h0 := go2 b0 b1 h4
    have h1 := zZ2 h5.2
    have h2 : r.length = 6 := by simpa using h5.1
    have h3 : (Km464Neutral.nats r).length = r.length := by simp [Km464Neutral.nats]
    refine ⟨_, rfl, ?_, by show (Km464Neutral.nats r).length = 6; rw [h3]; exact h2⟩
    show [1, b0, b1] ++ (((r.length : Int) :: r) ++ []) = 1 :: nat b0.toNat :: nat b1.toNat :: nat (Km464Neutral.nats r).length :: (Km464Neutral.nats r).map nat
    rw [h0.1, h0.2, h1, h3, List.append_nil]; rfl
  rw [if_neg e] at hs; clear e
  by_cases e : p = 2
  · subst e; obtain ⟨b0, b1, b2, rfl, rfl⟩ := fin3 hs
    have h : (Km464Neutral.natural b0 32 && Km464Neutral.natural b1 32 && Km464Neutral.natural b2 32) = true := hq
    rw [Bool.and_eq_true] at h
    have h0 := go2 b0 b1 h.1
    exact ⟨_, rfl, by show [2, b0, b1, b2] = [2, nat b0.toNat, nat b1.toNat, nat b2.toNat]; rw [h0.1, h0.2, v6 h.2], trivial⟩
  rw [if_neg e] at hs; clear e
  by_cases e : p = 3
  · subst e; obtain ⟨b0, b1, rfl, rfl⟩ := fin2 hs
    have h := go2 b0 b1 hq; exact ⟨_, rfl, by show [3, b0, b1] = [3, nat b0.toNat, nat b1.toNat]; rw [h.1, h.2], trivial⟩
  rw [if_neg e] at hs; clear e
  by_cases e : p = 4
  · subst e; obtain ⟨b0, rfl, rfl⟩ := fin1 hs
    have h := go1 b0 hq; exact ⟨_, rfl, by show [4, b0] = [4, nat b0.toNat]; rw [h], trivial⟩
  rw [if_neg e] at hs; clear e
  by_cases e : p = 5
  · subst e; obtain ⟨b0, b1, rfl, rfl⟩ := fin2 hs
    have h := go2 b0 b1 hq; exact ⟨_, rfl, by show [5, b0, b1] = [5, nat b0.toNat, nat b1.toNat]; rw [h.1, h.2], trivial⟩
  rw [if_neg e] at hs; clear e
  by_cases e : p = 6
  · subst e; obtain ⟨rfl, rfl⟩ := fin0 (p := 0) (x := .all_) hs; exact ⟨_, rfl, rfl, trivial⟩
  rw [if_neg e] at hs; clear e
  by_cases e : p = 7
  · subst e; obtain ⟨rfl, rfl⟩ := fin0 (p := 0) (x := .all_) hs; exact ⟨_, rfl, rfl, trivial⟩
  rw [if_neg e] at hs; clear e
  by_cases e : p = 8
  · subst e; obtain ⟨rfl, rfl⟩ := fin0 (p := 0) (x := .all_) hs; exact ⟨_, rfl, rfl, trivial⟩
  rw [if_neg e] at hs; clear e
  by_cases e : p = 9
  · subst e; obtain ⟨b0, b1, rfl, rfl⟩ := fin2 hs
    have h := go2 b0 b1 hq; exact ⟨_, rfl, by show [9, b0, b1] = [9, nat b0.toNat, nat b1.toNat]; rw [h.1, h.2], trivial⟩
  rw [if_neg e] at hs; clear e
  by_cases e : p = 10
  · subst e; obtain ⟨rfl, rfl⟩ := fin0 (p := 0) (x := .all_) hs; exact ⟨_, rfl, rfl, trivial⟩
  rw [if_neg e] at hs; clear e
  by_cases e : p = 11
  · subst e; obtain ⟨b0, rfl, rfl⟩ := fin1 hs
    have h := go1 b0 hq; exact ⟨_, rfl, by show [11, b0] = [11, nat b0.toNat]; rw [h], trivial⟩
  rw [if_neg e] at hs; clear e
  by_cases e : p = 12
  · subst e; obtain ⟨b0, rfl, rfl⟩ := fin1 hs
    have h := go1 b0 hq; exact ⟨_, rfl, by show [12, b0] = [12, nat b0.toNat]; rw [h], trivial⟩
  rw [if_neg e] at hs; clear e
  by_cases e : p = 13
  · subst e; obtain ⟨b0, rfl, rfl⟩ := fin1 hs
    have h := go1 b0 hq; exact ⟨_, rfl, by show [13, b0] = [13, nat b0.toNat]; rw [h], trivial⟩
  rw [if_neg e] at hs; clear e
  by_cases e : p = 14
  · subst e; obtain ⟨rfl, rfl⟩ := fin0 (p := 0) (x := .all_) hs; exact ⟨_, rfl, rfl, trivial⟩
  rw [if_neg e] at hs; clear e
  by_cases e : p = 15
  · subst e; obtain ⟨b0, b1, rfl, rfl⟩ := fin2 hs
    have h := go2 b0 b1 hq; exact ⟨_, rfl, by show [15, b0, b1] = [15, nat b0.toNat, nat b1.toNat]; rw [h.1, h.2], trivial⟩
  rw [if_neg e] at hs; clear e
  by_cases e : p = 16
  · subst e; obtain ⟨rfl, rfl⟩ := fin0 (p := 0) (x := .all_) hs; exact ⟨_, rfl, rfl, trivial⟩
  rw [if_neg e] at hs; clear e
  by_cases e : p = 17
  · subst e; obtain ⟨b0, rfl, rfl⟩ := fin1 hs
    have h := go1 b0 hq; exact ⟨_, rfl, by show [17, b0] = [17, nat b0.toNat]; rw [h], trivial⟩
  rw [if_neg e] at hs; clear e
  by_cases e : p = 18
  · subst e; obtain ⟨rfl, rfl⟩ := fin0 (p := 0) (x := .all_) hs; exact ⟨_, rfl, rfl, trivial⟩
  rw [if_neg e] at hs; clear e
  by_cases e : p = 19
  · subst e; obtain ⟨b0, rfl, rfl⟩ := fin1 hs
    have h := go1 b0 hq; exact ⟨_, rfl, by show [19, b0] = [19, nat b0.toNat]; rw [h], trivial⟩
  rw [if_neg e] at hs; clear e
  by_cases e : p = 20
  · subst e; obtain ⟨b0, b1, rfl, rfl⟩ := fin2 hs
    have h := go2 b0 b1 hq; exact ⟨_, rfl, by show [20, b0, b1] = [20, nat b0.toNat, nat b1.toNat]; rw [h.1, h.2], trivial⟩
  rw [if_neg e] at hs; clear e
  by_cases e : p = 21
  · subst e; obtain ⟨b0, rfl, rfl⟩ := fin1 hs
    have h := go1 b0 hq; exact ⟨_, rfl, by show [21, b0] = [21, nat b0.toNat]; rw [h], trivial⟩
  rw [if_neg e] at hs; clear e
  by_cases e : p = 22
  · subst e; obtain ⟨b0, rfl, rfl⟩ := fin1 hs
    have h := go1 b0 hq; exact ⟨_, rfl, by show [22, b0] = [22, nat b0.toNat]; rw [h], trivial⟩
  rw [if_neg e] at hs; clear e
  by_cases e : p = 23
  · subst e; obtain ⟨rfl, rfl⟩ := fin0 (p := 0) (x := .all_) hs; exact ⟨_, rfl, rfl, trivial⟩
  rw [if_neg e] at hs; clear e
  by_cases e : p = 24
  · subst e; obtain ⟨rfl, rfl⟩ := fin0 (p := 0) (x := .all_) hs; exact ⟨_, rfl, rfl, trivial⟩
  rw [if_neg e] at hs; clear e
  by_cases e : p = 25
  · subst e; obtain ⟨rfl, rfl⟩ := fin0 (p := 0) (x := .all_) hs; exact ⟨_, rfl, rfl, trivial⟩
  rw [if_neg e] at hs; clear e
  by_cases e : p = 26
  · subst e; obtain ⟨b0, rfl, rfl⟩ := fin1 hs
    have h := go1 b0 hq; exact ⟨_, rfl, by show [26, b0] = [26, nat b0.toNat]; rw [h], trivial⟩
  rw [if_neg e] at hs; clear e
  by_cases e : p = 27
  · subst e; obtain ⟨rfl, rfl⟩ := fin0 (p := 0) (x := .all_) hs; exact ⟨_, rfl, rfl, trivial⟩
  rw [if_neg e] at hs; clear e
  by_cases e : p = 28
  · subst e; obtain ⟨rfl, rfl⟩ := fin0 (p := 0) (x := .all_) hs; exact ⟨_, rfl, rfl, trivial⟩
  rw [if_neg e] at hs; clear e
  by_cases e : p = 29
  · subst e; obtain ⟨rfl, rfl⟩ := fin0 (p := 0) (x := .all_) hs; exact ⟨_, rfl, rfl, trivial⟩
  rw [if_neg e] at hs; clear e
  cases hs
def N7 (s : Km464Neutral.S) (d : Desk) : Prop := s = some d ∨ (s = none ∧ d = fresh 0)
theorem zy0 {s : Km464Neutral.S} {d : Desk} {c : List (List Int)} {x : Call} (r : N7 s d) (hx : Km464Neutral.callOf c = some x) (hne : (Km464Neutral.step s c).2 ≠ []) :
    (Km464Neutral.step s c).2 = Km464Neutral.told (act d x).2 ∧ N7 (Km464Neutral.step s c).1 (act d x).1 := by
  unfold Km464Neutral.step at hne ⊢
  rw [hx] at hne ⊢
  rcases r with e | ⟨e, ed⟩
  · subst e; exact ⟨rfl, .inl rfl⟩
  · subst e; subst ed
    dsimp only at hne ⊢
    cases x with
    | start n =>
      refine ⟨rfl, ?_⟩
      show N7 (if (Km464Neutral.told (act (fresh 0) (.start n)).2).headD 0 < 0 then none else some (act (fresh 0) (.start n)).1) _
      by_cases h : MOST < n
      · have e : act (fresh 0) (.start n) = (fresh 0, only (-22)) := if_pos h
        rw [e]; exact .inr ⟨rfl, rfl⟩
      · have e : act (fresh 0) (.start n) = (⟨opened n, [], []⟩, only 0) := if_neg h
        rw [e]; exact .inl rfl
    | _ => exact absurd rfl hne
def z3 (d : Desk) (cs : List Call) : Desk := cs.foldl (fun d x => (act d x).1) d
def B3 : Desk → List Call → List Int
  | _, [] => []
  | d, x :: cs => ((Km464Neutral.told (act d x).2).length : Int) :: Km464Neutral.told (act d x).2 ++ B3 (act d x).1 cs
theorem zm7 : ∀ (raw : List (List (List Int))) (s : Km464Neutral.S) (d : Desk), N7 s d → (∀ c ∈ raw, PyFlat.okCall PyKm464.shape c) → (raw.map PyKm464.whole).all Km464Neutral.asked1 = true → Km464Neutral.may s (raw.map PyKm464.whole) = true →
    ∃ cs : List Call, cs.length = raw.length ∧ PyFlat.put raw = (cs.map C1).flatten ∧ (∀ x ∈ cs, B4 x) ∧ PyFlat.told (PyFlat.played Km464Neutral.step s (raw.map PyKm464.whole)) = B3 d cs
  | [], _, _, _, _, _, _ => ⟨[], rfl, rfl, fun _ h => (by cases h), rfl⟩
  | c :: raw, s, d, r, ok, ask, may => by
    rw [List.map_cons, List.all_cons, Bool.and_eq_true] at ask
    rw [List.map_cons] at may
    unfold Km464Neutral.may at may
    rw [Bool.and_eq_true] at may
    obtain ⟨p, a, xs, rfl, hs⟩ := ok c List.mem_cons_self
    obtain ⟨x, hx, hf, hr⟩ := qf5 p a xs hs ask.1
    have hne : (Km464Neutral.step s (PyKm464.whole ((p :: a) :: xs))).2 ≠ [] := by
      intro e; rw [e] at may; simp at may
    obtain ⟨e1, e2⟩ := zy0 r hx hne
    obtain ⟨cs, hl, hp, hro, ht⟩ := zm7 raw _ _ e2 (fun c hc => ok c (List.mem_cons_of_mem _ hc)) ask.2 may.2
    refine ⟨x :: cs, by simp [hl], ?_, ?_, ?_⟩
    · show PyFlat.put1 _ ++ PyFlat.put raw = _
      rw [hf, hp]; rfl
    · intro y hy
      rcases List.mem_cons.mp hy with e | hy
      · rw [e]; exact hr
      · exact hro y hy
    · show PyFlat.told (_ :: _) = _
      rw [e1]
      show ((Km464Neutral.told (act d x).2).length : Int) :: Km464Neutral.told (act d x).2 ++ PyFlat.told _ = _
      rw [ht]; rfl
theorem m7 {ns : List Int} (h : PyKm464.answers_asked ns = true) : ∃ cs : List Call, ns = (cs.map C1).flatten ∧ (∀ x ∈ cs, B4 x) ∧ cs.length ≤ 1000 ∧ PyKm464.answers ns = B3 (fresh 0) cs ∧ (B3 (fresh 0) cs).length ≤ 10000000 := by
  unfold PyKm464.answers_asked at h
  cases e : PyFlat.calls PyKm464.shape ns.length ns with
  | none => rw [e] at h; cases h
  | some raw =>
    rw [e] at h
    dsimp only at h
    simp only [Bool.and_eq_true] at h
    obtain ⟨⟨⟨⟨_, h2⟩, _⟩, h4⟩, h5⟩ := h
    obtain ⟨hput, hok⟩ := PyFlat.put_calls _ _ _ e
    unfold Km464Neutral.asked at h4
    simp only [Bool.and_eq_true] at h4
    obtain ⟨cs, hl, hp, hr, ht⟩ := zm7 raw Km464Neutral.start (fresh 0) (.inr ⟨rfl, rfl⟩) hok h4.2.2.1 h4.2.2.2
    have ha : PyKm464.answers ns = B3 (fresh 0) cs := by
      unfold PyKm464.answers PyKm464.calls
      rw [e]
      exact ht
    refine ⟨cs, hput.trans hp, hr, ?_, ha, ?_⟩
    · rw [hl]; unfold PyFlat.atMost at h2; simpa using h2
    · rw [← ha]; unfold PyFlat.short at h5; simpa using h5
end PM
end
section
set_option linter.all false
namespace PM
open Km464
theorem zp2 (f : Nat → Nat) : ∀ (l : List Nat) (w : Nat), l.foldl (fun r q => if f q < f r then q else r) w ∈ w :: l ∧ ∀ x ∈ w :: l, f (l.foldl (fun r q => if f q < f r then q else r) w) ≤ f x
  | [], w => ⟨List.mem_cons_self, fun x hx => by rw [List.mem_singleton.mp hx]; exact Nat.le_refl _⟩
  | y :: l, w => by
    rw [List.foldl_cons]
    obtain ⟨h1, h2⟩ := zp2 f l (if f y < f w then y else w)
    refine ⟨?_, fun x hx => ?_⟩
    · rcases List.mem_cons.mp h1 with e | h
      · rw [e]; split <;> simp
      · exact List.mem_cons_of_mem _ (List.mem_cons_of_mem _ h)
    · have h3 := h2 _ List.mem_cons_self
      rcases List.mem_cons.mp hx with e | hx
      · rw [e]; refine Nat.le_trans h3 ?_; split <;> omega
      · rcases List.mem_cons.mp hx with e | hx
        · rw [e]; refine Nat.le_trans h3 ?_; split <;> omega
        · exact h2 x (List.mem_cons_of_mem _ hx)
theorem zp3 (f : Nat → Nat) : ∀ (l : List Nat) (w : Nat), l.foldl (fun r q => if f r < f q then q else r) w ∈ w :: l ∧ ∀ x ∈ w :: l, f x ≤ f (l.foldl (fun r q => if f r < f q then q else r) w)
  | [], w => ⟨List.mem_cons_self, fun x hx => by rw [List.mem_singleton.mp hx]; exact Nat.le_refl _⟩
  | y :: l, w => by
    rw [List.foldl_cons]
    obtain ⟨h1, h2⟩ := zp3 f l (if f w < f y then y else w)
    refine ⟨?_, fun x hx => ?_⟩
    · rcases List.mem_cons.mp h1 with e | h
      · rw [e]; split <;> simp
      · exact List.mem_cons_of_mem _ (List.mem_cons_of_mem _ h)
    · have h3 := h2 _ List.mem_cons_self
      rcases List.mem_cons.mp hx with e | hx
      · rw [e]; refine Nat.le_trans ?_ h3; split <;> omega
      · rcases List.mem_cons.mp hx with e | hx
        · rw [e]; refine Nat.le_trans ?_ h3; split <;> omega
        · exact h2 x (List.mem_cons_of_mem _ hx)
theorem D9 (s : House) {a x y : Nat} (hx : x = a ∨ s.onList a x = true) (hy : y = a ∨ s.onList a y = true) (e : s.stands a x = s.stands a y) : x = y := by
  have idx : ∀ {z}, s.onList a z = true → (s.list a).findIdx (fun b => b == z) < (s.list a).length ∧ (s.list a)[(s.list a).findIdx (fun b => b == z)]? = some z := fun {z} hz => by
    have hm : z ∈ s.list a := by unfold House.onList at hz; simpa using hz
    have hl : (s.list a).findIdx (fun b => b == z) < (s.list a).length := List.findIdx_lt_length.mpr ⟨z, hm, by simp⟩
    refine ⟨hl, ?_⟩
    have he : ((s.list a)[(s.list a).findIdx (fun b => b == z)] == z) = true := List.findIdx_getElem (w := hl)
    rw [List.getElem?_eq_getElem hl]
    exact congrArg some (by simpa using he)
  unfold House.stands House.place at e
  by_cases h1 : a = x
  · by_cases h2 : a = y
    · exact h1.symm.trans h2
    · rw [if_pos h1, if_neg h2] at e
      have := (idx (hy.resolve_left (Ne.symm h2))).1
      omega
  · by_cases h2 : a = y
    · rw [if_neg h1, if_pos h2] at e
      have := (idx (hx.resolve_left (Ne.symm h1))).1
      omega
    · rw [if_neg h1, if_neg h2] at e
      have i1 := (idx (hx.resolve_left (Ne.symm h1))).2
      have i2 := (idx (hy.resolve_left (Ne.symm h2))).2
      rw [e, i2] at i1
      exact (Option.some.inj i1).symm
theorem good_on {s : House} {m : List (Nat × Nat)} (h : m ∈ s.good) (a : Nat) : withIn m a = a ∨ s.onList a (withIn m a) = true := by
  rcases (good_fit s h).with_ a with e | e
  · exact .inl e
  · unfold House.would at e
    rw [Bool.and_eq_true] at e
    exact .inr e.1
theorem zF9 {f : Nat → Nat} {w : Nat} {l : List Nat} (inj : ∀ x ∈ w :: l, ∀ y ∈ w :: l, f x = f y → x = y) {ns : List Int} (hp : ns.Perm ((w :: l).map fun (x : Nat) => (x : Int))) (hs : ns.Pairwise fun x y => ((f x.toNat : Nat) : Int) ≤ ((f y.toNat : Nat) : Int)) :
    (∃ r, ns = ((l.foldl (fun r q => if f q < f r then q else r) w : Nat) : Int) :: r) ∧ ∃ r, ns = r ++ [((l.foldl (fun r q => if f r < f q then q else r) w : Nat) : Int)] := by
  have mem : ∀ z ∈ ns, ∃ x ∈ w :: l, z = (x : Int) := fun z hz => by
    obtain ⟨x, hx, e⟩ := List.mem_map.mp (hp.mem_iff.mp hz)
    exact ⟨x, hx, e.symm⟩
  have mem2 : ∀ x ∈ w :: l, (x : Int) ∈ ns := fun x hx => hp.mem_iff.mpr (List.mem_map.mpr ⟨x, hx, rfl⟩)
  constructor
  · obtain ⟨h1, h2⟩ := zp2 f l w
    cases ns with
    | nil => have := hp.length_eq; simp at this
    | cons z r =>
      obtain ⟨x, hx, rfl⟩ := mem z List.mem_cons_self
      refine ⟨r, ?_⟩
      congr 1
      have hle : f x ≤ f (l.foldl (fun r q => if f q < f r then q else r) w) := by
        rcases List.mem_cons.mp (mem2 _ h1) with e | e
        · have : l.foldl (fun r q => if f q < f r then q else r) w = x := by omega
          rw [this]; exact Nat.le_refl _
        · have := (List.pairwise_cons.mp hs).1 _ e
          simp only [Int.toNat_natCast] at this
          omega
      have := inj x hx _ h1 (Nat.le_antisymm hle (h2 x hx))
      rw [this]
  · obtain ⟨h1, h2⟩ := zp3 f l w
    rcases List.eq_nil_or_concat ns with e | ⟨r, z, e⟩
    · rw [e] at hp; have := hp.length_eq; simp at this
    · have e' : ns = r ++ [z] := by rw [e]; simp
      subst e'
      obtain ⟨x, hx, rfl⟩ := mem z (by simp)
      refine ⟨r, ?_⟩
      congr 2
      have hle : f (l.foldl (fun r q => if f r < f q then q else r) w) ≤ f x := by
        rcases List.mem_append.mp (mem2 _ h1) with e | e
        · have := (List.pairwise_append.mp hs).2.2 _ e (x : Int) (by simp)
          simp only [Int.toNat_natCast] at this
          omega
        · have e := List.mem_singleton.mp e
          have : l.foldl (fun r q => if f r < f q then q else r) w = x := by omega
          rw [this]; exact Nat.le_refl _
      have := inj x hx _ h1 (Nat.le_antisymm (h2 x hx) hle)
      rw [this]
end PM
end
section
set_option linter.all false
namespace PT
theorem A9 {α : Type} [DecidableEq α] : ∀ {l1 l2 : List α}, l1.Nodup → (∀ x ∈ l1, x ∈ l2) → l2.length ≤ l1.length → ∀ y ∈ l2, y ∈ l1
  | [], l2, _, _, hl, y, hy => by
    have : l2 = [] := List.eq_nil_of_length_eq_zero (by simpa using hl)
    rw [this] at hy; exact hy
  | a :: t, l2, nd, hs, hl, y, hy => by
    obtain ⟨h1, h2⟩ := List.nodup_cons.mp nd
    have ha := hs a List.mem_cons_self
    by_cases e : y = a
    · rw [e]; exact List.mem_cons_self
    · refine List.mem_cons_of_mem _ (A9 (l2 := l2.erase a) h2 (fun x hx => ?_) ?_ y ((List.mem_erase_of_ne e).mpr hy))
      · have hne : x ≠ a := fun q => h1 (q ▸ hx)
        exact (List.mem_erase_of_ne hne).mpr (hs x (List.mem_cons_of_mem _ hx))
      · rw [List.length_erase_of_mem ha]; simp only [List.length_cons] at hl; omega
theorem zx9 {α : Type} [DecidableEq α] : ∀ {l1 l2 : List α}, l1.Nodup → (∀ x ∈ l1, x ∈ l2) → l1.length ≤ l2.length
  | [], l2, _, _ => Nat.zero_le _
  | a :: t, l2, nd, hs => by
    obtain ⟨h1, h2⟩ := List.nodup_cons.mp nd
    have ha := hs a List.mem_cons_self
    have ih := zx9 (l2 := l2.erase a) h2 fun x hx => (List.mem_erase_of_ne (fun (q : x = a) => h1 (q ▸ hx))).mpr (hs x (List.mem_cons_of_mem _ hx))
    rw [List.length_erase_of_mem ha] at ih
    have := List.length_pos_of_mem ha
    simp only [List.length_cons]
    omega
theorem zm4 {f : Nat → Nat} : ∀ {l : List Nat}, l.Nodup → (∀ x ∈ l, ∀ y ∈ l, f x = f y → x = y) → (l.map f).Nodup
  | [], _, _ => by simp
  | a :: t, nd, hi => by
    obtain ⟨h1, h2⟩ := List.nodup_cons.mp nd
    rw [List.map_cons, List.nodup_cons]
    refine ⟨fun hm => ?_, zm4 h2 fun x hx y hy => hi x (List.mem_cons_of_mem _ hx) y (List.mem_cons_of_mem _ hy)⟩
    obtain ⟨x, hx, e⟩ := List.mem_map.mp hm
    have := hi x (List.mem_cons_of_mem _ hx) a List.mem_cons_self e
    exact h1 (this ▸ hx)
theorem pig {f : Nat → Nat} {l : List Nat} (nd : l.Nodup) (hm : ∀ x ∈ l, f x ∈ l) (hi : ∀ x ∈ l, ∀ y ∈ l, f x = f y → x = y) : ∀ y ∈ l, ∃ x ∈ l, f x = y := fun y hy => by
  have := A9 (l2 := l) (zm4 nd hi) (fun z hz => by
    obtain ⟨x, hx, e⟩ := List.mem_map.mp hz
    exact e ▸ hm x hx) (by simp) y hy
  obtain ⟨x, hx, e⟩ := List.mem_map.mp this
  exact ⟨x, hx, e⟩
theorem p7 {P : Nat → Prop} (k : Nat → Nat) : ∀ m x, k x ≤ m → P x → ∃ y, P y ∧ ∀ z, P z → k y ≤ k z
  | 0, x, h, p => ⟨x, p, fun z _ => by omega⟩
  | m + 1, x, h, p => by
    by_cases e : ∃ z, P z ∧ k z ≤ m
    · obtain ⟨z, pz, hz⟩ := e
      exact p7 k m z hz pz
    · exact ⟨x, p, fun z pz => by
        have : ¬ k z ≤ m := fun q => e ⟨z, pz, q⟩
        omega⟩
structure Inst (n : Nat) (r : Nat → Nat → Nat) (E : Nat → Nat → Prop) : Prop where
  sym : ∀ {a b}, E a b → E b a
  lt : ∀ {a b}, E a b → a < n
  inj : ∀ {a b c}, E a b → E a c → r a b = r a c → b = c
  top : ∀ {a b}, E a b → r a b < r a a
structure Stab (n : Nat) (r : Nat → Nat → Nat) (E : Nat → Nat → Prop) (p q : Nat → Nat) : Prop where
  pl : ∀ a, a < n → p a < n
  ql : ∀ a, a < n → q a < n
  pq : ∀ a, a < n → p (q a) = a
  qp : ∀ a, a < n → q (p a) = a
  s1 : ∀ a, a < n → p a = a ∨ (E a (p a) ∧ E a (q a) ∧ r a (p a) ≤ r a (q a))
  s2 : ∀ a b, E a b → ¬ (r a b < r a (q a) ∧ r b a < r b (q b))
def Fst (r : Nat → Nat → Nat) (E : Nat → Nat → Prop) (x y : Nat) : Prop := E x y ∧ ∀ z, E x z → r x y ≤ r x z
section
variable {n : Nat} {r : Nat → Nat → Nat} {E E' : Nat → Nat → Prop} {p q : Nat → Nat}
theorem Inst.ne (I : Inst n r E) {a b : Nat} (h : E a b) : a ≠ b := fun e => by
  subst e
  exact Nat.lt_irrefl _ (I.top h)
theorem Inst.lt2 (I : Inst n r E) {a b : Nat} (h : E a b) : b < n := I.lt (I.sym h)
theorem Stab.first (I : Inst n r E) (S : Stab n r E p q) {x y : Nat} (h : Fst r E x y) : r y (q y) ≤ r y x := by
  refine Nat.le_of_not_lt fun hlt => ?_
  have hx := I.lt h.1
  have h1 : r x (q x) ≤ r x y := Nat.le_of_not_lt fun z => S.s2 x y h.1 ⟨z, hlt⟩
  rcases S.s1 x hx with e | ⟨ep, eq, le⟩
  · have := S.qp x hx
    rw [e] at this
    rw [this] at h1
    have := I.top h.1
    omega
  · have e1 : q x = y := I.inj eq h.1 (Nat.le_antisymm h1 (h.2 _ eq))
    have e2 : p x = y := I.inj ep h.1 (Nat.le_antisymm (Nat.le_trans le h1) (h.2 _ ep))
    have e3 := S.qp x hx
    rw [e2] at e3
    rw [e3] at hlt
    exact Nat.lt_irrefl _ hlt
theorem Stab.lift (I : Inst n r E) (I' : Inst n r E') (sub : ∀ {a b}, E' a b → E a b) (S : Stab n r E' p q) (H : ∀ a b, E a b → ¬ E' a b → (∃ x, Fst r E' x b ∧ r b x < r b a) ∨ (∃ x, Fst r E' x a ∧ r a x < r a b)) : Stab n r E p q := by
  refine ⟨S.pl, S.ql, S.pq, S.qp, fun a ha => (S.s1 a ha).imp id fun ⟨h1, h2, h3⟩ => ⟨sub h1, sub h2, h3⟩, fun a b h => ?_⟩
  by_cases c : E' a b
  · exact S.s2 a b c
  · rintro ⟨h1, h2⟩
    rcases H a b h c with ⟨x, f, hx⟩ | ⟨x, f, hx⟩
    · have := S.first I' f; omega
    · have := S.first I' f; omega
theorem zh9 (h : Nat → Nat) : ∀ (m : Nat) (l : List Nat), l.length ≤ m → l ≠ [] → (∀ x ∈ l, h x ∈ l) → ∃ X : List Nat, X ≠ [] ∧ (∀ x ∈ X, x ∈ l) ∧ (∀ x ∈ X, h x ∈ X) ∧ ∀ x ∈ X, ∃ u ∈ X, h u = x
  | 0, l, hl, hne, _ => absurd (List.eq_nil_of_length_eq_zero (by omega)) hne
  | m + 1, l, hl, hne, hc => by
    by_cases c : ∀ x ∈ l, ∃ u ∈ l, h u = x
    · exact ⟨l, hne, fun _ hx => hx, hc, c⟩
    · obtain ⟨s, hs⟩ := Classical.not_forall.mp c
      obtain ⟨hs, no⟩ := Classical.not_imp.mp hs
      have hno : ∀ u ∈ l, h u ≠ s := fun u hu e => no ⟨u, hu, e⟩
      have hlen : (l.filter fun x => x != s).length < l.length := by
        rcases Nat.lt_or_eq_of_le (List.length_filter_le (fun x => x != s) l) with z | z
        · exact z
        · have := List.length_filter_eq_length_iff.mp z s hs
          simp at this
      obtain ⟨X, h1, h2, h3, h4⟩ := zh9 h m (l.filter fun x => x != s) (by omega) (fun e => by
          have hm : h s ∈ l.filter fun x => x != s := List.mem_filter.mpr ⟨hc s hs, by simpa using hno s hs⟩
          rw [e] at hm; cases hm) (fun x hx => by
          have hx := (List.mem_filter.mp hx).1
          exact List.mem_filter.mpr ⟨hc x hx, by simpa using hno x hx⟩)
      exact ⟨X, h1, fun x hx => (List.mem_filter.mp (h2 x hx)).1, h3, h4⟩
open Classical in
noncomputable def size (n : Nat) (E : Nat → Nat → Prop) : Nat := ((List.range n).flatMap fun a => (List.range n).map fun b => (a, b)).countP fun x => decide (E x.1 x.2)
theorem zr7 {α : Type} {f g : α → Bool} : ∀ {l : List α}, (∀ x, f x = true → g x = true) → (∃ x ∈ l, g x = true ∧ f x = false) → l.countP f < l.countP g
  | [], _, ⟨x, hx, _⟩ => by cases hx
  | a :: t, hs, ⟨x, hx, g1, f0⟩ => by
    rw [List.countP_cons, List.countP_cons]
    rcases List.mem_cons.mp hx with e | hx
    · subst e
      have := List.countP_mono_left (l := t) (p := f) (q := g) fun x _ => hs x
      rw [g1, f0]
      simp only [if_true]
      simp only [Bool.false_eq_true, if_false]
      omega
    · have ih := zr7 (l := t) hs ⟨x, hx, g1, f0⟩
      by_cases c : f a = true
      · rw [if_pos c, if_pos (hs a c)]; omega
      · rw [if_neg c]; split <;> omega
theorem K9 (I : Inst n r E) (sub : ∀ {a b}, E' a b → E a b) {a b : Nat} (h : E a b) (h' : ¬ E' a b) : size n E' < size n E := by
  classical
  refine zr7 (fun x hx => decide_eq_true (sub (of_decide_eq_true hx))) ⟨(a, b), ?_, decide_eq_true h, decide_eq_false h'⟩
  exact List.mem_flatMap.mpr ⟨a, List.mem_range.mpr (I.lt h), List.mem_map.mpr ⟨b, List.mem_range.mpr (I.lt2 h), rfl⟩⟩
theorem qk6 : ∀ (m : Nat) (E : Nat → Nat → Prop), size n E ≤ m → Inst n r E → ∃ p q, Stab n r E p q := by
  intro m
  induction m using Nat.strongRecOn with
  | ind m ih =>
    intro E hm I
    by_cases c1 : ∃ a b c, Fst r E a b ∧ E b c ∧ r b a < r b c
    · -- b would rather have a, who has b first: nobody behind a is wanted
      obtain ⟨a, b, c, F, ebc, hlt⟩ := c1
      let E' : Nat → Nat → Prop := fun x y => E x y ∧ ¬ (x = b ∧ y = c) ∧ ¬ (x = c ∧ y = b)
      have sub : ∀ {x y}, E' x y → E x y := fun h => h.1
      have I' : Inst n r E' := ⟨fun h => ⟨I.sym h.1, fun z => h.2.2 ⟨z.2, z.1⟩, fun z => h.2.1 ⟨z.2, z.1⟩⟩, fun h => I.lt h.1, fun h h2 => I.inj h.1 h2.1, fun h => I.top h.1⟩
      have hne : ¬ E' b c := fun h => h.2.1 ⟨rfl, rfl⟩
      have F' : Fst r E' a b := ⟨⟨F.1, fun z => I.ne F.1 z.1, fun z => by
        have := z.1
        subst this
        exact Nat.lt_irrefl _ hlt⟩, fun z hz => F.2 z hz.1⟩
      have hs : size n E' < size n E := K9 (E' := E') I sub ebc hne
      obtain ⟨p, q, S⟩ := ih (size n E') (by omega) E' (Nat.le_refl _) I'
      refine ⟨p, q, S.lift I I' sub fun x y hxy hno => ?_⟩
      by_cases z : x = b ∧ y = c
      · exact .inr ⟨a, by rw [z.1]; exact F', by rw [z.1, z.2]; exact hlt⟩
      · by_cases z2 : x = c ∧ y = b
        · exact .inl ⟨a, by rw [z2.2]; exact F', by rw [z2.1, z2.2]; exact hlt⟩
        · exact absurd ⟨hxy, z, z2⟩ hno
    · have H : ∀ a b c, Fst r E a b → E b c → r b c ≤ r b a := fun a b c F e => Nat.le_of_not_lt fun z => c1 ⟨a, b, c, F, e, z⟩
      have ex : ∀ a, ∃ y, ((∃ z, E a z) → Fst r E a y) ∧ ((¬ ∃ z, E a z) → y = a) := fun a => by
        by_cases c : ∃ z, E a z
        · obtain ⟨z, hz⟩ := c
          obtain ⟨y, h1, h2⟩ := p7 (P := fun y => E a y) (fun y => r a y) _ z (Nat.le_refl _) hz
          exact ⟨y, fun _ => ⟨h1, h2⟩, fun no => absurd ⟨z, hz⟩ no⟩
        · exact ⟨a, fun h => absurd h c, fun _ => rfl⟩
      obtain ⟨f, hf⟩ := Classical.axiomOfChoice ex
      have fF : ∀ {a z}, E a z → Fst r E a (f a) := fun {a z} h => (hf a).1 ⟨z, h⟩
      have fl : ∀ a, a < n → f a < n := fun a ha => by
        by_cases c : ∃ z, E a z
        · exact I.lt2 ((hf a).1 c).1
        · rw [(hf a).2 c]; exact ha
      have fi : ∀ a b, f a = f b → a = b := fun a b e => by
        by_cases c : ∃ z, E a z
        · by_cases d : ∃ z, E b z
          · have F1 := (hf a).1 c
            have F2 := (hf b).1 d
            rw [← e] at F2
            have l1 := H _ _ _ F1 (I.sym F2.1)
            have l2 := H _ _ _ F2 (I.sym F1.1)
            exact I.inj (I.sym F1.1) (I.sym F2.1) (Nat.le_antisymm l2 l1)
          · have F1 := (hf a).1 c
            rw [e, (hf b).2 d] at F1
            exact absurd ⟨a, I.sym F1.1⟩ d
        · by_cases d : ∃ z, E b z
          · have F2 := (hf b).1 d
            rw [← e, (hf a).2 c] at F2
            exact absurd ⟨b, I.sym F2.1⟩ c
          · rw [(hf a).2 c, (hf b).2 d] at e; exact e
      have exg : ∀ a, ∃ y, a < n → y < n ∧ f y = a := fun a => by
        by_cases c : a < n
        · obtain ⟨x, hx, e⟩ := pig (f := f) (l := List.range n) List.nodup_range (fun x hx => List.mem_range.mpr (fl x (List.mem_range.mp hx))) (fun x _ y _ => fi x y) a (List.mem_range.mpr c)
          exact ⟨x, fun _ => ⟨List.mem_range.mp hx, e⟩⟩
        · exact ⟨0, fun h => absurd h c⟩
      obtain ⟨g, hg⟩ := Classical.axiomOfChoice exg
      have gf : ∀ a, a < n → g (f a) = a := fun a ha => fi _ _ (hg (f a) (fl a ha)).2
      have gE : ∀ {a z}, E a z → Fst r E (g a) a := fun {a z} h => by
        have ha := I.lt h
        have e := (hg a ha).2
        by_cases c : ∃ z, E (g a) z
        · have := (hf (g a)).1 c
          rw [e] at this
          exact this
        · have e2 := (hf (g a)).2 c
          rw [e] at e2
          rw [← e2] at c
          exact absurd ⟨z, h⟩ c
      have last : ∀ {a z}, E a z → r a z ≤ r a (g a) := fun {a z} h => H _ _ _ (gE h) h
      by_cases c2 : ∀ a b, E a b → ¬ (r a b < r a (g a) ∧ r b a < r b (g b))
      · refine ⟨f, g, fl, fun a ha => (hg a ha).1, fun a ha => (hg a ha).2, gf, fun a ha => ?_, c2⟩
        by_cases c : ∃ z, E a z
        · obtain ⟨z, hz⟩ := c
          exact .inr ⟨(fF hz).1, I.sym (gE hz).1, (fF hz).2 _ (I.sym (gE hz).1)⟩
        · exact .inl ((hf a).2 c)
      · obtain ⟨a0, c2⟩ := Classical.not_forall.mp c2
        obtain ⟨b0, c2⟩ := Classical.not_forall.mp c2
        obtain ⟨e0, c2⟩ := Classical.not_imp.mp c2
        obtain ⟨la, lb⟩ := Classical.not_not.mp c2
        let D : Nat → Prop := fun x => ∀ z, E x z → z = f x ∨ z = g x
        let C : Nat → Prop := fun x => ∃ S : Nat → Prop, S x ∧ (∀ y, S y → D y) ∧ ∀ y z, S y → E y z → S z
        let W : Nat → Prop := fun x => (∃ z, E x z ∧ z ≠ f x) ∧ ¬ C x
        have b0f : b0 ≠ f a0 := fun e => by
          have := gf a0 (I.lt e0)
          rw [← e] at this
          rw [this] at lb
          exact Nat.lt_irrefl _ lb
        have W0 : W a0 := ⟨⟨b0, e0, b0f⟩, fun ⟨S, h1, h2, _⟩ => by
          rcases h2 _ h1 b0 e0 with e | e
          · exact b0f e
          · rw [← e] at la; exact Nat.lt_irrefl _ la⟩
        have exs : ∀ x, ∃ y, (∃ z, E x z ∧ z ≠ f x) → (E x y ∧ y ≠ f x) ∧ ∀ z, E x z ∧ z ≠ f x → r x y ≤ r x z := fun x => by
          by_cases c : ∃ z, E x z ∧ z ≠ f x
          · obtain ⟨z, hz⟩ := c
            obtain ⟨y, h1, h2⟩ := p7 (P := fun y => E x y ∧ y ≠ f x) (fun y => r x y) _ z (Nat.le_refl _) hz
            exact ⟨y, fun _ => ⟨h1, h2⟩⟩
          · exact ⟨0, fun h => absurd h c⟩
        obtain ⟨s, hs⟩ := Classical.axiomOfChoice exs
        have Wh : ∀ x, W x → W (g (s x)) := fun x w => by
          obtain ⟨⟨ey, nf⟩, mn⟩ := hs x w.1
          have ey' := I.sym ey
          have F := gE ey'
          refine ⟨Classical.byContradiction fun no => ?_, fun ⟨S, h1, h2, h3⟩ => w.2 ⟨S, h3 _ _ (h3 _ _ h1 F.1) ey', h2, h3⟩⟩
          have only : ∀ z, E (g (s x)) z → z = s x := fun z hz => Classical.byContradiction fun q => no ⟨z, hz, by rw [(hg (s x) (I.lt ey')).2]; exact q⟩
          have e1 : g (g (s x)) = s x := only _ (I.sym (gE F.1).1)
          have e2 : f (s x) = g (s x) := by
            have := (hg (g (s x)) (I.lt F.1)).2
            rw [e1] at this
            exact this
          have le1 := (fF ey').2 x ey'
          have le2 := last ey'
          rw [e2] at le1
          have e3 : g (s x) = x := I.inj (I.sym F.1) ey' (Nat.le_antisymm le1 le2)
          have := (hg (s x) (I.lt ey')).2
          rw [e3] at this
          exact nf this.symm
        classical
        obtain ⟨X, hne, hX, hc, hpre⟩ := zh9 (fun x => g (s x)) _ ((List.range n).filter fun x => decide (W x)) (Nat.le_refl _) (fun e => by
            have : a0 ∈ (List.range n).filter fun x => decide (W x) := List.mem_filter.mpr ⟨List.mem_range.mpr (I.lt e0), decide_eq_true W0⟩
            rw [e] at this; cases this) (fun x hx => by
            obtain ⟨hx, w⟩ := List.mem_filter.mp hx
            have w := Wh x (of_decide_eq_true w)
            obtain ⟨z, hz, _⟩ := w.1
            exact List.mem_filter.mpr ⟨List.mem_range.mpr (I.lt hz), decide_eq_true w⟩)
        have XW : ∀ x ∈ X, W x := fun x hx => of_decide_eq_true (List.mem_filter.mp (hX x hx)).2
        have Xl : ∀ x ∈ X, x < n := fun x hx => List.mem_range.mp (List.mem_filter.mp (hX x hx)).1
        have XE : ∀ x ∈ X, E x (s x) ∧ s x ≠ f x := fun x hx => (hs x (XW x hx).1).1
        have Xm : ∀ x ∈ X, ∀ z, E x z → z ≠ f x → r x (s x) ≤ r x z := fun x hx z h1 h2 => (hs x (XW x hx).1).2 z ⟨h1, h2⟩
        have two : ∀ v ∈ X, s v = g v → D v := fun v hv e z hz => by
          by_cases c : z = f v
          · exact .inl c
          · refine .inr (I.inj hz (I.sym (gE hz).1) (Nat.le_antisymm (last hz) ?_))
            rw [← e]
            exact Xm v hv z hz c
        let Bad : Nat → Prop := fun x => x ∈ X ∧ D x ∧ g x ∈ X
        have bad_next : ∀ x, Bad x → Bad (f x) := fun x ⟨hx, d, hgx⟩ => by
          obtain ⟨t, ht, e⟩ := hpre _ hgx
          have e1 : s t = x := by
            have h1 := (hg (s t) (I.lt2 (XE t ht).1)).2
            have h2 := (hg x (Xl x hx)).2
            have e' : g (s t) = g x := e
            rw [e'] at h1
            rw [← h1, h2]
          have et := (XE t ht).1
          rw [e1] at et
          have hv : t = f x := by
            rcases d t (I.sym et) with z | z
            · exact z
            · have h2 := (hg x (Xl x hx)).2
              rw [← z] at h2
              exact absurd (e1.trans h2.symm) (XE t ht).2
          have gv := gf x (Xl x hx)
          rw [← hv] at gv ⊢
          exact ⟨ht, two t ht (e1.trans gv.symm), by rw [gv]; exact hx⟩
        have no_bad : ∀ x, ¬ Bad x := fun x b => by
          have nd : ((List.range n).filter fun x => decide (Bad x)).Nodup := (List.nodup_range (n := n)).sublist List.filter_sublist
          have mem : ∀ {x}, x ∈ ((List.range n).filter fun x => decide (Bad x)) ↔ Bad x := fun {x} => ⟨fun h => of_decide_eq_true (List.mem_filter.mp h).2, fun h => List.mem_filter.mpr ⟨List.mem_range.mpr (Xl x h.1), decide_eq_true h⟩⟩
          have sj := pig (f := f) nd (fun x hx => mem.mpr (bad_next x (mem.mp hx))) (fun x _ y _ => fi x y)
          refine (XW x b.1).2 ⟨Bad, b, fun y h => h.2.1, fun y z h e => ?_⟩
          rcases h.2.1 z e with c | c
          · rw [c]; exact bad_next y h
          · obtain ⟨u, hu, e2⟩ := sj y (mem.mpr h)
            have := mem.mp hu
            rw [c, ← e2, gf u (Xl u this.1)]
            exact this
        let Del : Nat → Nat → Prop := fun y c => ∃ x ∈ X, s x = y ∧ r y x < r y c
        let E' : Nat → Nat → Prop := fun a b => E a b ∧ ¬ Del a b ∧ ¬ Del b a
        have sub : ∀ {x y}, E' x y → E x y := fun h => h.1
        have I' : Inst n r E' := ⟨fun h => ⟨I.sym h.1, h.2.2, h.2.1⟩, fun h => I.lt h.1, fun h h2 => I.inj h.1 h2.1, fun h => I.top h.1⟩
        have gone : ∀ x ∈ X, E x (f x) ∧ ¬ E' x (f x) := fun x hx => by
          obtain ⟨u, hu, e⟩ := hpre x hx
          have e' : g (s u) = x := e
          obtain ⟨eu, nu⟩ := XE u hu
          have hl := I.lt2 eu
          have e2 : f x = s u := by rw [← e']; exact (hg (s u) hl).2
          refine ⟨(fF (XE x hx).1).1, fun h => h.2.2 ⟨u, hu, e2.symm, ?_⟩⟩
          have le := last (I.sym eu)
          rw [e'] at le
          rw [e2]
          refine Nat.lt_of_le_of_ne le fun q => ?_
          have h3 := (fF (XE x hx).1).1
          rw [e2] at h3
          have : u = x := I.inj (I.sym eu) (I.sym h3) q
          rw [this] at nu
          rw [this] at e2
          exact nu e2.symm
        have best : ∀ x ∈ X, ∃ y ∈ X, s y = s x ∧ r (s x) y ≤ r (s x) x ∧ Fst r E' y (s x) := fun x hx => by
          obtain ⟨y, ⟨hy, ey⟩, mn⟩ := p7 (P := fun y => y ∈ X ∧ s y = s x) (fun y => r (s x) y) _ x (Nat.le_refl _) ⟨hx, rfl⟩
          refine ⟨y, hy, ey, mn x ⟨hx, rfl⟩, ⟨⟨by rw [← ey]; exact (XE y hy).1, ?_, ?_⟩, fun z hz => ?_⟩⟩
          · rintro ⟨x', hx', e1, lt⟩
            rw [← ey] at lt
            have ex' := I.sym (XE x' hx').1
            rw [e1] at ex'
            have e2 : x' = f y := Classical.byContradiction fun q => by
              have := Xm y hy x' ex' q
              omega
            have e3 := gf y (Xl y hy)
            rw [← e2] at e3
            exact no_bad x' ⟨hx', two x' hx' (e1.trans e3.symm), by rw [e3]; exact hy⟩
          · rintro ⟨x', hx', e1, lt⟩
            have := mn x' ⟨hx', e1⟩
            omega
          · rw [← ey]
            refine Xm y hy z hz.1 fun q => ?_
            rw [q] at hz
            exact (gone y hy).2 hz
        obtain ⟨x1, hx1⟩ : ∃ x, x ∈ X := by
          cases X with
          | nil => exact absurd rfl hne
          | cons a _ => exact ⟨a, List.mem_cons_self⟩
        have hsz : size n E' < size n E := K9 (E' := E') I sub (gone x1 hx1).1 (gone x1 hx1).2
        obtain ⟨p, q, S⟩ := ih (size n E') (by omega) E' (Nat.le_refl _) I'
        refine ⟨p, q, S.lift I I' sub fun a b hab hno => ?_⟩
        by_cases z : Del a b
        · obtain ⟨x, hx, e1, lt⟩ := z
          obtain ⟨y, hy, e2, le, F⟩ := best x hx
          rw [e1] at le F
          exact .inr ⟨y, F, by omega⟩
        · by_cases z2 : Del b a
          · obtain ⟨x, hx, e1, lt⟩ := z2
            obtain ⟨y, hy, e2, le, F⟩ := best x hx
            rw [e1] at le F
            exact .inl ⟨y, F, by omega⟩
          · exact absurd ⟨hab, z, z2⟩ hno
end
end PT
end
section
set_option linter.all false
namespace PM
open Km464
structure Wl (s : House) : Prop where
  lst : ∀ a, a < s.many → OkL s.many a (s.list a)
theorem GoodH.wl {s : House} (g : GoodH s) : Wl s := ⟨g.lst⟩
theorem qb1 (s : House) {a : Nat} (h : ¬ a < s.many) : s.list a = [] := by
  unfold House.list
  rw [List.getD_eq_getElem?_getD, List.getElem?_eq_none (by unfold House.many at h; omega)]
  rfl
theorem Wl.on_lt {s : House} (g : Wl s) {a b : Nat} (h : s.onList a b = true) : a < s.many ∧ b < s.many ∧ b ≠ a := by
  by_cases ha : a < s.many
  · have hb : b ∈ s.list a := by unfold House.onList at h; simpa using h
    exact ⟨ha, (g.lst a ha).lt b hb, (g.lst a ha).ne b hb⟩
  · unfold House.onList at h
    rw [qb1 s ha] at h
    cases h
theorem U4 {s : House} {a b : Nat} (h : s.would a b = true) : s.onList a b = true ∧ s.onList b a = true := by
  unfold House.would at h
  rw [Bool.and_eq_true] at h
  exact h
theorem Wl.would_lt {s : House} (g : Wl s) {a b : Nat} (h : s.would a b = true) : a < s.many ∧ b < s.many ∧ a ≠ b := by
  have := g.on_lt (U4 h).1
  exact ⟨this.1, this.2.1, fun e => this.2.2 e.symm⟩
theorem zy1 (s : House) (a : Nat) : s.stands a a = (s.list a).length := by unfold House.stands; rw [if_pos rfl]
theorem zy2 {s : House} {a b : Nat} (h : s.onList a b = true) (ne : b ≠ a) : s.stands a b < s.stands a a := by
  rw [zy1]
  unfold House.stands
  rw [if_neg (fun e => ne e.symm)]
  unfold House.place
  have hm : b ∈ s.list a := by unfold House.onList at h; simpa using h
  exact List.findIdx_lt_length.mpr ⟨b, hm, by simp⟩
theorem Wl.inst {s : House} (g : Wl s) : PT.Inst s.many s.stands (fun a b => s.would a b = true) := by
  refine ⟨fun h => by rw [z4]; exact h, fun h => (g.would_lt h).1, fun h1 h2 e => ?_, fun h => ?_⟩
  · exact D9 s (.inr (U4 h1).1) (.inr (U4 h2).1) e
  · exact zy2 (U4 h).1 (g.on_lt (U4 h).1).2.2
structure IsP (n : Nat) (p : List Nat) : Prop where
  len : p.length = n
  nd : p.Nodup
  lt : ∀ x ∈ p, x < n
theorem IsP.next_lt {n : Nat} {p : List Nat} (h : IsP n p) {a : Nat} (ha : a < n) : next p a < n := by
  unfold next
  rw [List.getD_eq_getElem?_getD, List.getElem?_eq_getElem (by rw [h.len]; exact ha)]
  exact h.lt _ (List.getElem_mem _)
theorem g7 {p : List Nat} {a : Nat} (ha : a < p.length) : p[a]? = some (next p a) := by
  unfold next
  rw [List.getD_eq_getElem?_getD, List.getElem?_eq_getElem ha]
  rfl
theorem IsP.inj {n : Nat} {p : List Nat} (h : IsP n p) {a b : Nat} (ha : a < n) (hb : b < n) (e : next p a = next p b) : a = b := by
  have nd := L5.mp h.nd
  have e1 := g7 (p := p) (a := a) (by rw [h.len]; exact ha)
  have e2 := g7 (p := p) (a := b) (by rw [h.len]; exact hb)
  rcases Nat.lt_trichotomy a b with c | c | c
  · exact absurd (by rw [e1, e2, e]) (nd a b c (by rw [h.len]; exact hb))
  · exact c
  · exact absurd (by rw [e1, e2, e]) (nd b a c (by rw [h.len]; exact ha))
theorem IsP.onto {n : Nat} {p : List Nat} (h : IsP n p) {a : Nat} (ha : a < n) : ∃ b, b < n ∧ next p b = a := by
  obtain ⟨x, hx, e⟩ := PT.pig (f := next p) (l := List.range n) List.nodup_range (fun x hx => List.mem_range.mpr (h.next_lt (List.mem_range.mp hx))) (fun x hx y hy => h.inj (List.mem_range.mp hx) (List.mem_range.mp hy)) a (List.mem_range.mpr ha)
  exact ⟨x, List.mem_range.mp hx, e⟩
theorem IsP.before_of {n : Nat} {p : List Nat} (h : IsP n p) {a b : Nat} (hb : b < n) (e : next p b = a) : before p a = b := by
  unfold before
  cases c : (List.range p.length).find? fun b => next p b == a with
  | none =>
    have := List.find?_eq_none.mp c b (List.mem_range.mpr (by rw [h.len]; exact hb))
    simp [e] at this
  | some x =>
    have h1 := List.mem_of_find?_eq_some c
    have h2 := List.find?_some c
    have h2' : next p x = a := by simpa using h2
    rw [List.mem_range, h.len] at h1
    exact h.inj h1 hb (h2'.trans e.symm)
theorem IsP.before_spec {n : Nat} {p : List Nat} (h : IsP n p) {a : Nat} (ha : a < n) : before p a < n ∧ next p (before p a) = a := by
  obtain ⟨b, hb, e⟩ := h.onto ha
  rw [h.before_of hb e]
  exact ⟨hb, e⟩
structure Rh (s : House) (p : List Nat) : Prop where
  s1 : ∀ a, a < s.many → next p a = a ∨ (s.would a (next p a) = true ∧ s.would a (before p a) = true ∧ s.stands a (next p a) ≤ s.stands a (before p a))
  s2 : ∀ a b, a < s.many → b < s.many → a < b → s.would a b = true → s.stands a b < s.stands a (before p a) → s.stands b a < s.stands b (before p b) → False
theorem ql1 {n a b : Nat} : (a, b) ∈ pairs n ↔ a < b ∧ b < n := by
  unfold pairs
  constructor
  · intro h
    obtain ⟨i, hi, h⟩ := List.mem_flatMap.mp h
    obtain ⟨j, hj, e⟩ := List.mem_map.mp h
    cases e
    have := List.mem_filter.mp hj
    exact ⟨by simpa using this.2, List.mem_range.mp this.1⟩
  · rintro ⟨h1, h2⟩
    exact List.mem_flatMap.mpr ⟨a, List.mem_range.mpr (by omega), List.mem_map.mpr ⟨b, List.mem_filter.mpr ⟨List.mem_range.mpr h2, by simpa using h1⟩, rfl⟩⟩
theorem Q6 (s : House) (p : List Nat) : s.rings p = true ↔ Rh s p := by
  unfold House.rings
  rw [Bool.and_eq_true, List.all_eq_true, List.all_eq_true]
  constructor
  · rintro ⟨h1, h2⟩
    refine ⟨fun a ha => ?_, fun a b ha hb hab w l1 l2 => ?_⟩
    · have := h1 a (List.mem_range.mpr ha)
      simp only [Bool.or_eq_true, Bool.and_eq_true, beq_iff_eq, decide_eq_true_eq] at this
      exact this
    · have := h2 (a, b) (ql1.mpr ⟨hab, hb⟩)
      simp [w, l1, l2] at this
  · rintro ⟨h1, h2⟩
    refine ⟨fun a ha => ?_, fun q hq => ?_⟩
    · have := h1 a (List.mem_range.mp ha)
      simp only [Bool.or_eq_true, Bool.and_eq_true, beq_iff_eq, decide_eq_true_eq]
      exact this
    · obtain ⟨a, b⟩ := q
      obtain ⟨hab, hb⟩ := ql1.mp hq
      cases c : (s.would a b && (decide (s.stands a b < s.stands a (before p a)) && decide (s.stands b a < s.stands b (before p b)))) with
      | false => simp [c]
      | true =>
        simp only [Bool.and_eq_true, decide_eq_true_eq] at c
        exact (h2 a b (by omega) hb hab c.1 c.2.1 c.2.2).elim
theorem zm3 : ∀ (f : Nat) (l r : List Nat), r.length = f → r.Nodup → (∀ x ∈ r, x ∈ l) → r ∈ perms f l
  | 0, l, r, hr, _, _ => by
    have := List.eq_nil_of_length_eq_zero hr
    subst this
    exact List.mem_singleton.mpr rfl
  | f + 1, l, [], hr, _, _ => by simp at hr
  | f + 1, l, x :: r, hr, nd, hs => by
    obtain ⟨h1, h2⟩ := List.nodup_cons.mp nd
    refine List.mem_flatMap.mpr ⟨x, hs x List.mem_cons_self, List.mem_map.mpr ⟨r, zm3 f _ r (by simpa using hr) h2 fun y hy => ?_, rfl⟩⟩
    exact List.mem_filter.mpr ⟨hs y (List.mem_cons_of_mem _ hy), by
      have : y ≠ x := fun e => h1 (e ▸ hy)
      simpa using this⟩
theorem g8 : ∀ (f : Nat) (l r : List Nat), r ∈ perms f l → r.length = f ∧ r.Nodup ∧ ∀ x ∈ r, x ∈ l
  | 0, l, r, h => by
    have : r = [] := List.mem_singleton.mp h
    subst this
    exact ⟨rfl, .nil, fun _ h => by cases h⟩
  | f + 1, l, r, h => by
    obtain ⟨x, hx, h⟩ := List.mem_flatMap.mp h
    obtain ⟨q, hq, rfl⟩ := List.mem_map.mp h
    obtain ⟨h1, h2, h3⟩ := g8 f _ q hq
    refine ⟨by simp [h1], List.nodup_cons.mpr ⟨fun hm => ?_, h2⟩, fun y hy => ?_⟩
    · have := (List.mem_filter.mp (h3 x hm)).2
      simp at this
    · rcases List.mem_cons.mp hy with e | hy
      · rw [e]; exact hx
      · exact (List.mem_filter.mp (h3 y hy)).1
theorem IsP.of_perms {n : Nat} {p : List Nat} (h : p ∈ perms n (List.range n)) : IsP n p := by
  obtain ⟨h1, h2, h3⟩ := g8 _ _ _ h
  exact ⟨h1, h2, fun x hx => List.mem_range.mp (h3 x hx)⟩
theorem IsP.perms {n : Nat} {p : List Nat} (h : IsP n p) : p ∈ perms n (List.range n) := zm3 _ _ _ h.len h.nd fun x hx => List.mem_range.mpr (h.lt x hx)
theorem Wl.rings {s : House} (g : Wl s) : ∃ p, IsP s.many p ∧ Rh s p := by
  obtain ⟨f, q, S⟩ := PT.qk6 (n := s.many) (r := s.stands) _ (fun a b => s.would a b = true) (Nat.le_refl _) g.inst
  have nx : ∀ {a}, a < s.many → next ((List.range s.many).map f) a = f a := fun {a} ha => by
    unfold next
    rw [List.getD_eq_getElem?_getD, List.getElem?_map, List.getElem?_range ha]
    rfl
  have P : IsP s.many ((List.range s.many).map f) := by
    refine ⟨by simp, PT.zm4 List.nodup_range fun x hx y hy e => ?_, fun x hx => ?_⟩
    · rw [← S.qp x (List.mem_range.mp hx), e, S.qp y (List.mem_range.mp hy)]
    · obtain ⟨y, hy, rfl⟩ := List.mem_map.mp hx
      exact S.pl y (List.mem_range.mp hy)
  have bf : ∀ {a}, a < s.many → before ((List.range s.many).map f) a = q a := fun {a} ha => P.before_of (S.ql a ha) (by rw [nx (S.ql a ha)]; exact S.pq a ha)
  refine ⟨_, P, fun a ha => ?_, fun a b ha hb _ w l1 l2 => ?_⟩
  · rw [nx ha, bf ha]; exact S.s1 a ha
  · rw [bf ha] at l1
    rw [bf hb] at l2
    exact S.s2 a b w ⟨l1, l2⟩
theorem Wl.told_find {s : House} (g : Wl s) : (perms s.many s.all).find? s.rings = some s.told ∧ IsP s.many s.told ∧ Rh s s.told := by
  obtain ⟨p, P, R⟩ := g.rings
  cases c : (perms s.many s.all).find? s.rings with
  | none => exact absurd ((Q6 s p).mpr R) (List.find?_eq_none.mp c p P.perms)
  | some t =>
    have e : s.told = t := by unfold House.told; rw [c]; rfl
    rw [e]
    exact ⟨rfl, .of_perms (List.mem_of_find?_eq_some c), (Q6 s t).mp (List.find?_some c)⟩
def knB (n : Nat) (rs : List Nat) (k : Nat) : List (Option Nat) := (List.range k).foldl (fun bf a => bf.set (rs.getD a 0) (some a)) (List.replicate n none)
theorem J8 (n : Nat) (rs : List Nat) (k : Nat) : knB n rs (k + 1) = (knB n rs k).set (rs.getD k 0) (some k) := by
  unfold knB
  rw [List.range_succ, List.foldl_append]
  rfl
theorem v7 (n : Nat) (rs : List Nat) : ∀ k, (knB n rs k).length = n
  | 0 => by simp [knB]
  | k + 1 => by rw [J8, List.length_set, v7 n rs k]
theorem zn8 {n : Nat} {rs : List Nat} (nd : rs.Nodup) (lt : ∀ x ∈ rs, x < n) : ∀ k, k ≤ rs.length → ∀ x y, (knB n rs k)[x]? = some (some y) ↔ y < k ∧ rs[y]? = some x
  | 0, _, x, y => by
    unfold knB
    rw [List.range_zero, List.foldl_nil, List.getElem?_replicate]
    constructor
    · intro h; split at h <;> cases h
    · intro h; omega
  | k + 1, hk, x, y => by
    have hk' : k < rs.length := by omega
    have gk : rs[k]? = some (rs.getD k 0) := by rw [List.getD_eq_getElem?_getD, List.getElem?_eq_getElem hk']; rfl
    rw [J8, List.getElem?_set, v7]
    have hb : rs.getD k 0 < n := lt _ (List.mem_of_getElem? gk)
    by_cases c : rs.getD k 0 = x
    · rw [if_pos c, if_pos hb]
      constructor
      · intro h
        injection h with h; injection h with h
        subst h
        exact ⟨by omega, by rw [gk, c]⟩
      · rintro ⟨h1, h2⟩
        have : y = k := by
          rcases Nat.lt_trichotomy y k with z | z | z
          · exact absurd (by rw [h2, gk, c]) (L5.mp nd y k z hk')
          · exact z
          · omega
        rw [this]
    · rw [if_neg c, zn8 nd lt k (by omega) x y]
      constructor
      · rintro ⟨h1, h2⟩; exact ⟨by omega, h2⟩
      · rintro ⟨h1, h2⟩
        refine ⟨?_, h2⟩
        by_cases z : y = k
        · rw [z, gk] at h2; exact absurd (Option.some.inj h2) c
        · omega
def m4 (n : Nat) (rs : List Nat) (x : Nat) : Option Nat := (knB n rs rs.length).getD x none
theorem f9 {n : Nat} {rs : List Nat} (nd : rs.Nodup) (lt : ∀ x ∈ rs, x < n) (x y : Nat) : m4 n rs x = some y ↔ y < rs.length ∧ rs[y]? = some x := by
  rw [← zn8 nd lt rs.length (Nat.le_refl _) x y]
  unfold m4
  rw [List.getD_eq_getElem?_getD]
  cases (knB n rs rs.length)[x]? with
  | none => simp
  | some z => simp
def Q2 (s : House) (rs : List Nat) (x : Nat) : Bool := if rs.length ≤ x then true else match m4 s.many rs x with
  | none => true
  | some y => decide (s.stands x (rs.getD x 0) ≤ s.stands x y)
def P5 (s : House) (rs : List Nat) (b c : Nat) : Bool := match m4 s.many rs b, m4 s.many rs c with
  | some x, some y => s.would b c && (decide (s.stands b c < s.stands b x) && decide (s.stands c b < s.stands c y))
  | _, _ => false
def z6 (s : House) (rs : List Nat) (b : Nat) : Bool := (List.range s.many).any fun c => P5 s rs b c
def O2 (s : House) (rs : List Nat) : Bool :=
  !((rs.take (rs.length - 1)).contains (rs.getD (rs.length - 1) 0)) && ((rs.length - 1 == rs.getD (rs.length - 1) 0 || s.would (rs.length - 1) (rs.getD (rs.length - 1) 0)) && (Q2 s rs (rs.length - 1) && (Q2 s rs (rs.getD (rs.length - 1) 0) && !z6 s rs (rs.getD (rs.length - 1) 0))))
def Y5 (s : House) (rs : List Nat) : Prop := ∀ k, k < rs.length → O2 s (rs.take (k + 1)) = true
theorem Y5.nil (s : House) : Y5 s [] := fun k h => by simp at h
theorem Y5.snoc {s : House} {rs : List Nat} (h : Y5 s rs) {b : Nat} (hb : O2 s (rs ++ [b]) = true) : Y5 s (rs ++ [b]) := fun k hk => by
  rw [List.length_append, List.length_singleton] at hk
  by_cases c : k = rs.length
  · subst c
    rw [List.take_of_length_le (by simp)]
    exact hb
  · rw [List.take_append_of_le_length (by omega)]
    exact h k (by omega)
theorem O8 {l : List Nat} {k i d : Nat} (h : i < k) : (l.take k).getD i d = l.getD i d := by
  rw [List.getD_eq_getElem?_getD, List.getElem?_take, if_pos h, ← List.getD_eq_getElem?_getD]
theorem qa5 (s : House) (rs : List Nat) {k : Nat} (hk : k < rs.length) : O2 s (rs.take (k + 1)) = (!((rs.take k).contains (rs.getD k 0)) && ((k == rs.getD k 0 || s.would k (rs.getD k 0)) && (Q2 s (rs.take (k + 1)) k && (Q2 s (rs.take (k + 1)) (rs.getD k 0) && !z6 s (rs.take (k + 1)) (rs.getD k 0))))) := by
  unfold O2
  have e1 : (rs.take (k + 1)).length - 1 = k := by rw [List.length_take]; omega
  rw [e1, O8 (Nat.lt_succ_self k), List.take_take, Nat.min_eq_left (Nat.le_succ k)]
structure Mh (s : House) (p : List Nat) (k : Nat) : Prop where
  new : p.getD k 0 ∉ p.take k
  sh : k = p.getD k 0 ∨ s.would k (p.getD k 0) = true
  o1 : Q2 s (p.take (k + 1)) k = true
  o2 : Q2 s (p.take (k + 1)) (p.getD k 0) = true
  lv : ∀ c, c < s.many → P5 s (p.take (k + 1)) (p.getD k 0) c = false
theorem w6 (s : House) (p : List Nat) {k : Nat} (hk : k < p.length) : O2 s (p.take (k + 1)) = true ↔ Mh s p k := by
  rw [qa5 s p hk]
  simp only [Bool.and_eq_true, Bool.not_eq_true', Bool.or_eq_true, beq_iff_eq]
  constructor
  · rintro ⟨h1, h2, h3, h4, h5⟩
    refine ⟨by simpa using h1, h2, h3, h4, fun c hc => ?_⟩
    have := List.any_eq_false.mp h5 c (List.mem_range.mpr hc)
    simpa using this
  · rintro ⟨h1, h2, h3, h4, h5⟩
    refine ⟨by simpa using h1, h2, h3, h4, List.any_eq_false.mpr fun c hc => ?_⟩
    rw [h5 c (List.mem_range.mp hc)]
    simp
theorem Y5.nodup {s : House} : ∀ {rs : List Nat}, Y5 s rs → rs.Nodup := by
  intro rs h
  refine L5.mpr fun i j hij hj e => ?_
  have M := (w6 s rs hj).mp (h j hj)
  have gj : rs[j]? = some (rs.getD j 0) := by rw [List.getD_eq_getElem?_getD, List.getElem?_eq_getElem hj]; rfl
  refine M.new (List.mem_of_getElem? (i := i) ?_)
  rw [List.getElem?_take, if_pos hij, e, gj]
section
variable {s : House} {p : List Nat}
theorem qi3 (nd : p.Nodup) (lt : ∀ x ∈ p, x < s.many) {k : Nat} (hk : k ≤ p.length) (x y : Nat) : m4 s.many (p.take k) x = some y ↔ y < k ∧ p[y]? = some x := by
  rw [f9 (nd.sublist (List.take_sublist _ _)) (fun z hz => lt z (List.mem_of_mem_take hz))]
  rw [List.length_take, List.getElem?_take]
  constructor
  · rintro ⟨h1, h2⟩
    have : y < k := by omega
    rw [if_pos this] at h2
    exact ⟨this, h2⟩
  · rintro ⟨h1, h2⟩
    rw [if_pos h1]
    exact ⟨by omega, h2⟩
theorem R5 {a : Nat} (ha : a < p.length) : p.getD a 0 = next p a := by
  unfold next
  rw [List.getD_eq_getElem?_getD, List.getD_eq_getElem?_getD, List.getElem?_eq_getElem ha]
  rfl
theorem zg9 (g : Wl s) (P : IsP s.many p) : Rh s p ↔ Y5 s p := by
  have bt : ∀ {k x y}, k ≤ s.many → (m4 s.many (p.take k) x = some y ↔ y < k ∧ next p y = x) := fun {k x y} hk => by
    rw [qi3 P.nd P.lt (by rw [P.len]; exact hk)]
    constructor
    · rintro ⟨h1, h2⟩
      rw [g7 (by rw [P.len]; omega)] at h2
      exact ⟨h1, Option.some.inj h2⟩
    · rintro ⟨h1, h2⟩
      exact ⟨h1, by rw [g7 (by rw [P.len]; omega), h2]⟩
  constructor
  · intro R k hk
    refine (w6 s p hk).mpr ?_
    have hk' : k < s.many := by rw [← P.len]; exact hk
    have ord : ∀ x, Q2 s (p.take (k + 1)) x = true := fun x => by
      unfold Q2
      split
      · rfl
      · rename_i c
        rw [List.length_take] at c
        split
        · rfl
        · rename_i y hy
          obtain ⟨h1, h2⟩ := (bt (by omega)).mp hy
          have hx : x < p.length := by omega
          rw [O8 (by omega), R5 hx]
          refine decide_eq_true ?_
          have hb := P.before_of (a := x) (b := y) (by omega) h2
          rcases R.s1 x (by rw [← P.len]; exact hx) with e | ⟨_, _, e⟩
          · have : y = x := P.inj (by omega) (by rw [← P.len]; exact hx) (h2.trans e.symm)
            rw [e, this]
            exact Nat.le_refl _
          · rw [hb] at e
            exact e
    refine ⟨fun hm => ?_, ?_, ord _, ord _, fun c hc => ?_⟩
    · obtain ⟨i, hi⟩ := List.getElem?_of_mem hm
      rw [List.getElem?_take] at hi
      split at hi
      · rename_i h1
        have gk : p[k]? = some (p.getD k 0) := by rw [List.getD_eq_getElem?_getD, List.getElem?_eq_getElem hk]; rfl
        exact L5.mp P.nd i k h1 hk (by rw [hi, gk])
      · cases hi
    · rw [R5 hk]
      rcases R.s1 k hk' with e | ⟨e, _⟩
      · exact .inl e.symm
      · exact .inr e
    · unfold P5
      rw [R5 hk]
      split
      · rename_i x y hx hy
        obtain ⟨x1, x2⟩ := (bt (by omega)).mp hx
        obtain ⟨y1, y2⟩ := (bt (by omega)).mp hy
        have hb1 := P.before_of (by omega) x2
        have hb2 := P.before_of (by omega) y2
        cases z : (s.would (next p k) c && (decide (s.stands (next p k) c < s.stands (next p k) x) && decide (s.stands c (next p k) < s.stands c y))) with
        | false => rfl
        | true =>
          simp only [Bool.and_eq_true, decide_eq_true_eq] at z
          have w := g.would_lt z.1
          rcases Nat.lt_or_gt_of_ne w.2.2 with l | l
          · exact (R.s2 _ _ w.1 w.2.1 l z.1 (by rw [hb1]; exact z.2.1) (by rw [hb2]; exact z.2.2)).elim
          · exact (R.s2 _ _ w.2.1 w.1 l (by rw [z4]; exact z.1) (by rw [hb2]; exact z.2.2) (by rw [hb1]; exact z.2.1)).elim
      · rfl
  · intro B
    have M : ∀ k, k < s.many → Mh s p k := fun k hk => (w6 s p (by rw [P.len]; exact hk)).mp (B k (by rw [P.len]; exact hk))
    have nx : ∀ {k}, k < s.many → p.getD k 0 = next p k := fun hk => R5 (by rw [P.len]; exact hk)
    have ord : ∀ {k x y}, k < s.many → Q2 s (p.take (k + 1)) x = true → x < k + 1 → y < k + 1 → next p y = x → s.stands x (next p x) ≤ s.stands x y := fun {k x y} hk h hx hy e => by
      unfold Q2 at h
      rw [List.length_take, P.len, if_neg (by omega), (bt (by omega)).mpr ⟨hy, e⟩, O8 (by omega), R5 (by rw [P.len]; omega)] at h
      exact of_decide_eq_true h
    refine ⟨fun a ha => ?_, fun a b ha hb hab w l1 l2 => ?_⟩
    · obtain ⟨hx, ex⟩ := P.before_spec ha
      have sa := (M a ha).sh
      rw [nx ha] at sa
      rcases sa with e | wa
      · exact .inl e.symm
      · have hne : next p a ≠ a := fun e => (g.would_lt wa).2.2 e.symm
        refine .inr ⟨wa, ?_, ?_⟩
        · have sx := (M _ hx).sh
          rw [nx hx, ex] at sx
          rcases sx with e | e
          · rw [e] at ex; exact absurd ex hne
          · rw [z4]; exact e
        · rcases Nat.lt_trichotomy a (before p a) with c | c | c
          · have o := (M _ hx).o2
            rw [nx hx, ex] at o
            exact ord hx o (by omega) (by omega) ex
          · exact absurd (by rw [← c] at ex; exact ex) hne
          · exact ord ha (M a ha).o1 (by omega) (by omega) ex
    · obtain ⟨hx, ex⟩ := P.before_spec ha
      obtain ⟨hy, ey⟩ := P.before_spec hb
      have hne : before p a ≠ before p b := fun e => by
        rw [e, ey] at ex; omega
      rcases Nat.lt_or_gt_of_ne hne with c | c
      · have v := (M _ hy).lv a ha
        unfold P5 at v
        rw [nx hy, ey, (bt (by omega)).mpr ⟨by omega, ey⟩, (bt (by omega)).mpr ⟨by omega, ex⟩] at v
        simp [z4 s b a, w, l1, l2] at v
      · have v := (M _ hx).lv b hb
        unfold P5 at v
        rw [nx hx, ex, (bt (by omega)).mpr ⟨by omega, ex⟩, (bt (by omega)).mpr ⟨by omega, ey⟩] at v
        simp [w, l1, l2] at v
end
def G3 (s : House) : Nat → List Nat → Option (List Nat)
  | 0, rs => some rs
  | f + 1, rs => (List.range s.many).findSome? fun b => if O2 s (rs ++ [b]) = true then G3 s f (rs ++ [b]) else none
theorem zq1 {α β : Type} (q : α → Bool) (g h : α → Option β) : ∀ l : List α, (∀ x ∈ l, q x = false → g x = none) → (∀ x ∈ l, q x = true → g x = h x) → l.findSome? g = (l.filter q).findSome? h
  | [], _, _ => rfl
  | x :: l, h1, h2 => by
    have ih := zq1 q g h l (fun y hy => h1 y (List.mem_cons_of_mem _ hy)) (fun y hy => h2 y (List.mem_cons_of_mem _ hy))
    rw [List.findSome?_cons, List.filter_cons]
    cases c : q x with
    | false =>
      rw [h1 x List.mem_cons_self c]
      simp only [Bool.false_eq_true, if_false]
      exact ih
    | true =>
      rw [h2 x List.mem_cons_self c, if_pos rfl, List.findSome?_cons]
      cases h x with
      | none => exact ih
      | some y => rfl
theorem zq0 {α β : Type} (q : β → Bool) (g : α → List β) : ∀ l : List α, (l.flatMap g).find? q = l.findSome? fun x => (g x).find? q
  | [] => rfl
  | x :: l => by
    rw [List.flatMap_cons, List.find?_append, List.findSome?_cons, zq0 q g l]
    cases (g x).find? q <;> rfl
theorem zp8 {s : House} (g : Wl s) : ∀ (f : Nat) (rs : List Nat), rs.length + f = s.many → (∀ x ∈ rs, x < s.many) → Y5 s rs →
    G3 s f rs = (((perms f (s.all.filter fun x => !rs.contains x)).map fun r => rs ++ r).find? s.rings)
  | 0, rs, hl, hlt, B => by
    have P : IsP s.many rs := ⟨by omega, B.nodup, hlt⟩
    have : s.rings rs = true := (Q6 s rs).mpr ((zg9 g P).mpr B)
    show some rs = ([rs ++ []]).find? s.rings
    rw [List.append_nil, List.find?_cons, this]
  | f + 1, rs, hl, hlt, B => by
    show (List.range s.many).findSome? _ = ((List.flatMap _ _).map _).find? _
    rw [List.map_flatMap, zq0]
    show (List.range s.many).findSome? _ = ((List.range s.many).filter _).findSome? _
    refine zq1 (fun x => !rs.contains x) _ _ _ (fun x hx c => ?_) (fun x hx c => ?_)
    · have hm : x ∈ rs := by simpa using c
      refine if_neg fun h => ?_
      have M := (w6 s (rs ++ [x]) (k := rs.length) (by simp)).mp (by rw [List.take_of_length_le (by simp)]; exact h)
      have := M.new
      rw [List.getD_eq_getElem?_getD, List.getElem?_append_right (Nat.le_refl _), Nat.sub_self, List.take_left] at this
      exact this hm
    · have hm : x ∉ rs := by simpa using c
      have hxl := List.mem_range.mp hx
      have hlt' : ∀ y ∈ rs ++ [x], y < s.many := fun y hy => by
        rcases List.mem_append.mp hy with h | h
        · exact hlt y h
        · rw [List.mem_singleton.mp h]; exact hxl
      have el : (s.all.filter fun y => !rs.contains y).filter (fun y => y != x) = s.all.filter fun y => !(rs ++ [x]).contains y := by
        rw [List.filter_filter]
        apply List.filter_congr
        intro y _
        rw [Bool.eq_iff_iff]
        simp
        exact And.comm
      have em : ∀ l : List (List Nat), (l.map fun r => x :: r).map (fun r => rs ++ r) = l.map fun r => (rs ++ [x]) ++ r := fun l => by
        rw [List.map_map]
        apply List.map_congr_left
        intro r _
        simp
      rw [el, em]
      by_cases m : O2 s (rs ++ [x]) = true
      · rw [if_pos m]
        exact zp8 g f (rs ++ [x]) (by simp; omega) hlt' (B.snoc m)
      · rw [if_neg m]
        symm
        refine List.find?_eq_none.mpr fun p hp hr => m ?_
        obtain ⟨r, hr', rfl⟩ := List.mem_map.mp hp
        obtain ⟨h1, h2, h3⟩ := g8 _ _ _ hr'
        have nd : (rs ++ [x]).Nodup := List.nodup_append.mpr ⟨B.nodup, by simp, fun a ha b hb e => by
          rw [List.mem_singleton.mp hb] at e
          exact hm (e ▸ ha)⟩
        have P : IsP s.many ((rs ++ [x]) ++ r) := by
          refine ⟨by simp [h1]; omega, List.nodup_append.mpr ⟨nd, h2, fun a ha b hb e => ?_⟩, fun y hy => ?_⟩
          · have := (List.mem_filter.mp (h3 b hb)).2
            rw [← e] at this
            simp only [Bool.not_eq_true', List.contains_eq_mem, decide_eq_false_iff_not] at this
            exact this ha
          · rcases List.mem_append.mp hy with h | h
            · exact hlt' y h
            · exact List.mem_range.mp (List.mem_filter.mp (h3 y h)).1
        have B2 := (zg9 g P).mp ((Q6 s _).mp hr)
        have := B2 rs.length (by simp)
        rw [List.take_append_of_le_length (by simp), List.take_of_length_le (by simp)] at this
        exact this
theorem Wl.first {s : House} (g : Wl s) : G3 s s.many [] = some s.told := by
  rw [zp8 g s.many [] (by simp) (fun _ h => by cases h) (.nil s)]
  have e : (s.all.filter fun x => !([] : List Nat).contains x) = s.all := List.filter_eq_self.mpr fun x _ => rfl
  have e2 : ∀ l : List (List Nat), (l.map fun r => [] ++ r) = l := fun l => by simp
  rw [e, e2]
  exact g.told_find.1
def iter (p : List Nat) (a : Nat) : Nat → Nat
  | 0 => a
  | k + 1 => next p (iter p a k)
theorem IsP.iter_lt {n : Nat} {p : List Nat} (P : IsP n p) {a : Nat} (ha : a < n) : ∀ k, iter p a k < n
  | 0 => ha
  | k + 1 => P.next_lt (P.iter_lt ha k)
theorem IsP.iter_back {n : Nat} {p : List Nat} (P : IsP n p) {a : Nat} (ha : a < n) : ∀ i d, iter p a i = iter p a (i + d) → iter p a d = a
  | 0, d, e => by rw [Nat.zero_add] at e; exact e.symm
  | i + 1, d, e => P.iter_back ha i d (P.inj (P.iter_lt ha i) (P.iter_lt ha _) (by rw [Nat.add_right_comm] at e; exact e))
theorem IsP.round {n : Nat} {p : List Nat} (P : IsP n p) {a : Nat} (ha : a < n) : ∃ m, 1 ≤ m ∧ m ≤ n ∧ iter p a m = a ∧ ∀ i, 1 ≤ i → i < m → iter p a i ≠ a := by
  have ex : ∃ m, 1 ≤ m ∧ m ≤ n ∧ iter p a m = a := Classical.byContradiction fun no => by
    have no' : ∀ m, 1 ≤ m → m ≤ n → iter p a m ≠ a := fun m h1 h2 e => no ⟨m, h1, h2, e⟩
    have nd : ((List.range (n + 1)).map (iter p a)).Nodup := by
      refine PT.zm4 List.nodup_range fun x hx y hy e => ?_
      rw [List.mem_range] at hx hy
      rcases Nat.lt_trichotomy x y with c | c | c
      · exact absurd (P.iter_back ha x (y - x) (by rw [Nat.add_sub_cancel' (Nat.le_of_lt c)]; exact e)) (no' _ (by omega) (by omega))
      · exact c
      · exact absurd (P.iter_back ha y (x - y) (by rw [Nat.add_sub_cancel' (Nat.le_of_lt c)]; exact e.symm)) (no' _ (by omega) (by omega))
    have hlen := PT.zx9 (l2 := List.range n) nd fun x hx => by
      obtain ⟨k, _, rfl⟩ := List.mem_map.mp hx
      exact List.mem_range.mpr (P.iter_lt ha k)
    simp at hlen
    omega
  obtain ⟨m0, h1, h2, h3⟩ := ex
  obtain ⟨m, ⟨k1, k2, k3⟩, mn⟩ := PT.p7 (P := fun m => 1 ≤ m ∧ m ≤ n ∧ iter p a m = a) id _ m0 (Nat.le_refl _) ⟨h1, h2, h3⟩
  exact ⟨m, k1, k2, k3, fun i i1 i2 e => by
    have := mn i ⟨i1, by omega, e⟩
    simp only [id] at this
    omega⟩
theorem zg8 {p : List Nat} {a m : Nat} (hm : iter p a m = a) (no : ∀ i, 1 ≤ i → i < m → iter p a i ≠ a) : ∀ (f i : Nat), 1 ≤ i → i ≤ m → m ≤ i + f → ringGo p a f (iter p a i) = (List.range' i (m - i)).map (iter p a)
  | 0, i, h1, h2, h3 => by
    have : m - i = 0 := by omega
    rw [this]; rfl
  | f + 1, i, h1, h2, h3 => by
    unfold ringGo
    by_cases c : i = m
    · subst c; rw [if_pos hm, Nat.sub_self]; rfl
    · rw [if_neg (no i h1 (by omega))]
      have : m - i = (m - (i + 1)) + 1 := by omega
      rw [this, List.range'_succ, List.map_cons]
      congr 1
      exact zg8 hm no f (i + 1) (by omega) (by omega) (by omega)
theorem IsP.ring {n : Nat} {p : List Nat} (P : IsP n p) {a : Nat} (ha : a < n) : ∃ m, 1 ≤ m ∧ m ≤ n ∧ iter p a m = a ∧ (∀ i, 1 ≤ i → i < m → iter p a i ≠ a) ∧ Km464.ring p a = (List.range m).map (iter p a) := by
  obtain ⟨m, h1, h2, h3, h4⟩ := P.round ha
  refine ⟨m, h1, h2, h3, h4, ?_⟩
  unfold Km464.ring
  rw [P.len]
  have e := zg8 h3 h4 n 1 (Nat.le_refl _) h1 (by omega)
  show a :: ringGo p a n (iter p a 1) = _
  rw [e]
  have : m = (m - 1) + 1 := by omega
  rw [this, List.range_eq_range', List.range'_succ, List.map_cons]
  rfl
end PM
end
section
set_option linter.all false
namespace PM
open Km464
def g4 (L : List (List Nat)) (ms : List Nat) : List Nat := (List.range L.length).map fun a => plc L a (ms.getD a 0)
theorem zi1 (s : House) (p : List (Nat × Nat)) : g4 s.wish (mOf s.many p) = s.all.map fun a => s.stands a (withIn p a) := by
  unfold g4
  apply List.map_congr_left
  intro a ha
  rw [j2 (n := s.many) p (List.mem_range.mp ha)]
  rfl
theorem qf3 (l : List Nat) : ∀ w, l.foldl (· + ·) w = w + l.sum := by
  induction l with
  | nil => intro w; simp
  | cons x l ih => intro w; rw [List.foldl_cons, ih, List.sum_cons]; omega
theorem z9 (l : List Nat) : (l.map fun (x : Nat) => (x : Int)).sum = ((l.sum : Nat) : Int) := by
  induction l with
  | nil => rfl
  | cons x l ih => rw [List.map_cons, List.sum_cons, List.sum_cons, ih]; omega
theorem y9 (s : House) (p : List (Nat × Nat)) : (g4 s.wish (mOf s.many p)).sum = s.sum p := by
  rw [zi1]
  unfold House.sum
  rw [qf3, Nat.zero_add]
def greatest (l : List Nat) : Nat := l.foldl max 0
theorem zo7 (s : House) (p : List (Nat × Nat)) : greatest (g4 s.wish (mOf s.many p)) = s.worst p := by
  rw [zi1]
  rfl
theorem qf2 (l : List Nat) : ∀ w, w ≤ l.foldl max w ∧ (∀ x ∈ l, x ≤ l.foldl max w) ∧ (l.foldl max w = w ∨ l.foldl max w ∈ l) := by
  induction l with
  | nil => intro w; exact ⟨Nat.le_refl _, fun _ h => (by cases h), .inl rfl⟩
  | cons x l ih =>
    intro w
    obtain ⟨h1, h2, h3⟩ := ih (max w x)
    rw [List.foldl_cons]
    refine ⟨by omega, fun y hy => ?_, ?_⟩
    · rcases List.mem_cons.mp hy with e | hy
      · rw [e]; omega
      · exact h2 y hy
    · rcases h3 with e | h
      · rw [e]
        rcases Nat.le_total w x with c | c
        · rw [Nat.max_eq_right c]; exact .inr List.mem_cons_self
        · rw [Nat.max_eq_left c]; exact .inl rfl
      · exact .inr (List.mem_cons_of_mem _ h)
theorem qe4 {l : List Nat} {m : Int} (h1 : m ∈ l.map fun (x : Nat) => (x : Int)) (h2 : ∀ y ∈ l.map (fun (x : Nat) => (x : Int)), y ≤ m) : m = ((greatest l : Nat) : Int) := by
  obtain ⟨x, hx, rfl⟩ := List.mem_map.mp h1
  obtain ⟨a1, a2, a3⟩ := qf2 l 0
  have h3 := a2 x hx
  have h4 : l.foldl max 0 ≤ x := by
    rcases a3 with e | e
    · rw [e]; omega
    · have := h2 _ (List.mem_map.mpr ⟨_, e, rfl⟩)
      omega
  unfold greatest
  omega
def Lx (a b : Nat × Nat) : Prop := a.1 < b.1 ∨ (a.1 = b.1 ∧ a.2 < b.2)
instance (a b : Nat × Nat) : Decidable (Lx a b) := by unfold Lx; exact inferInstance
structure IsLeast {α : Type} (k : α → Nat × Nat) (l : List α) (i : Nat) (x : α) : Prop where
  at_ : l[i]? = some x
  le : ∀ (j : Nat) (y : α), l[j]? = some y → ¬ Lx (k y) (k x)
  lt : ∀ (j : Nat) (y : α), j < i → l[j]? = some y → Lx (k x) (k y)
theorem IsLeast.uniq {α : Type} {k : α → Nat × Nat} {l : List α} {i i' : Nat} {x x' : α} (h : IsLeast k l i x) (h' : IsLeast k l i' x') : x = x' := by
  rcases Nat.lt_trichotomy i i' with c | c | c
  · exact absurd (h'.lt i x c h.at_) (h.le i' x' h'.at_)
  · subst c
    have := h.at_
    rw [h'.at_] at this
    exact (Option.some.inj this).symm
  · exact absurd (h.lt i' x' c h'.at_) (h'.le i x h.at_)
theorem P8 {α : Type} (k : α → Nat × Nat) : ∀ (l pre : List α) (w : α) (i : Nat), IsLeast k pre i w → ∃ i, IsLeast k (pre ++ l) i (l.foldl (fun r q => if Lx (k q) (k r) then q else r) w)
  | [], pre, w, i, h => ⟨i, by rw [List.append_nil]; exact h⟩
  | y :: l, pre, w, i, h => by
    rw [List.foldl_cons]
    have e : pre ++ y :: l = (pre ++ [y]) ++ l := by simp
    rw [e]
    have hi : i < pre.length := (List.getElem?_eq_some_iff.mp h.at_).1
    have old : ∀ {j z}, j < pre.length → ((pre ++ [y])[j]? = some z ↔ pre[j]? = some z) := fun {j z} hj => by rw [List.getElem?_append_left hj]
    by_cases c : Lx (k y) (k w)
    · rw [if_pos c]
      have gy : (pre ++ [y])[pre.length]? = some y := by rw [List.getElem?_append_right (Nat.le_refl _), Nat.sub_self]; rfl
      have all : ∀ (j : Nat) (z : α), pre[j]? = some z → Lx (k y) (k z) := fun j z hz => by
        have := h.le j z hz
        unfold Lx at *
        omega
      refine P8 k l (pre ++ [y]) y pre.length ⟨gy, fun j z hz => ?_, fun j z hj hz => all j z ((old hj).mp hz)⟩
      by_cases hj : j < pre.length
      · have := all j z ((old hj).mp hz)
        unfold Lx at *
        omega
      · have hjl : j < (pre ++ [y]).length := (List.getElem?_eq_some_iff.mp hz).1
        have : j = pre.length := by simp at hjl; omega
        rw [this, gy] at hz
        cases hz
        unfold Lx
        omega
    · rw [if_neg c]
      refine P8 k l (pre ++ [y]) w i ⟨(old hi).mpr h.at_, fun j z hz => ?_, fun j z hj hz => h.lt j z hj ((old (by omega)).mp hz)⟩
      by_cases hj : j < pre.length
      · exact h.le j z ((old hj).mp hz)
      · have hjl : j < (pre ++ [y]).length := (List.getElem?_eq_some_iff.mp hz).1
        have : j = pre.length := by simp at hjl; omega
        rw [this, List.getElem?_append_right (Nat.le_refl _), Nat.sub_self] at hz
        cases hz
        exact c
def l4 (s : House) (m : List (Nat × Nat)) : Nat × Nat := (s.worst m, s.sum m)
theorem qf7 {s : House} {m x : List (Nat × Nat)} {l : List (List (Nat × Nat))} {i : Nat} (h : IsLeast (l4 s) (m :: l) i x) :
    l.foldl (fun r q => if s.worst q < s.worst r ∨ (s.worst q = s.worst r ∧ s.sum q < s.sum r) then q else r) m = x := by
  obtain ⟨j, hj⟩ := P8 (l4 s) l [m] m 0 ⟨rfl, fun j y hy => by
      cases j with
      | zero => simp at hy; subst hy; unfold Lx; omega
      | succ j => simp at hy, fun j y hj => absurd hj (by omega)⟩
  exact hj.uniq h
theorem zt1 (l : List Nat) : bits l = (l.map fun k => 2 ^ k).sum := by
  unfold bits
  have : ∀ w, l.foldl (fun w k => w + 2 ^ k) w = w + (l.map fun k => 2 ^ k).sum := by
    induction l with
    | nil => intro w; simp
    | cons x l ih => intro w; rw [List.foldl_cons, ih, List.map_cons, List.sum_cons]; omega
  rw [this, Nat.zero_add]
theorem zR3 {l r : List Nat} (h1 : l.Nodup) (h2 : r.Nodup) (h : ∀ x, x ∈ l ↔ x ∈ r) : l.Perm r := by
  rw [List.perm_iff_count]
  intro a
  rw [h1.count, h2.count]
  simp only [h a]
theorem qe9 {s : House} (g : Wl s) {a : Nat} (ha : a < s.many) : ((s.list a).filter fun b => s.would a b).Perm (s.all.filter fun b => s.would a b) := by
  refine zR3 ((g.lst a ha).nd.sublist List.filter_sublist) ((List.nodup_range (n := s.many)).sublist List.filter_sublist) fun x => ?_
  rw [List.mem_filter, List.mem_filter]
  constructor
  · rintro ⟨h1, h2⟩
    exact ⟨List.mem_range.mpr ((g.lst a ha).lt x h1), h2⟩
  · rintro ⟨h1, h2⟩
    refine ⟨?_, h2⟩
    have := (U4 h2).1
    unfold House.onList at this
    simpa using this
def Z2 (w a : Nat) : Bool := w.testBit a
def y3 (L : List (List Nat)) (w : Nat) (n : Nat) : List (List Nat) := (List.range n).map fun a => if Z2 w a = true then [] else (L.getD a []).filter fun b => !Z2 w b
theorem zm9 (L : List (List Nat)) (w n : Nat) : y3 L w (n + 1) = y3 L w n ++ [if Z2 w n = true then [] else (L.getD n []).filter fun b => !Z2 w b] := by
  unfold y3
  rw [List.range_succ, List.map_append]
  rfl
theorem qd3 (w a : Nat) : Z2 w a = decide (w / 2 ^ a % 2 = 1) := Nat.testBit_eq_decide_div_mod_eq
theorem qi5 {s : House} (g : Wl s) (w : Nat) : (s.away (s.all.filter fun a => w.testBit a)).wish = y3 s.wish w s.many := by
  unfold House.away y3
  apply List.map_congr_left
  intro a ha
  have mem : ∀ {b}, b < s.many → (s.all.filter fun a => w.testBit a).contains b = Z2 w b := fun {b} hb => by
    rw [Bool.eq_iff_iff]
    simp only [List.contains_eq_mem, decide_eq_true_eq, List.mem_filter]
    exact ⟨fun h => h.2, fun h => ⟨List.mem_range.mpr hb, h⟩⟩
  have ha' := List.mem_range.mp ha
  rw [mem ha']
  split
  · rfl
  · apply List.filter_congr
    intro b hb
    rw [mem ((g.lst a ha').lt b hb)]
theorem qb4 {s t : House} (g : Wl s) {w : Nat} (e : t.wish = y3 s.wish w s.many) : t.many = s.many ∧ Wl t := by
  have hm : t.many = s.many := by unfold House.many at *; rw [e]; unfold y3; simp
  refine ⟨hm, ⟨fun a ha => ?_⟩⟩
  rw [hm] at ha
  have el : t.list a = if Z2 w a = true then [] else (s.list a).filter fun b => !Z2 w b := by
    unfold House.list
    rw [e]
    unfold y3
    rw [List.getD_eq_getElem?_getD, List.getElem?_map, List.getElem?_range ha]
    rfl
  rw [el, hm]
  have o := g.lst a ha
  split
  · exact ⟨fun _ h => (by cases h), fun _ h => (by cases h), .nil, by simp⟩
  · exact ⟨fun b hb => o.lt b (List.mem_filter.mp hb).1, fun b hb => o.ne b (List.mem_filter.mp hb).1, o.nd.sublist List.filter_sublist, Nat.le_trans (List.length_filter_le _ _) o.len⟩
theorem zg7 (p : List Nat) (a : Nat) : a ∈ ring p a := List.mem_cons_self
theorem qf1 (l : List Nat) : ∀ w, l.foldl min w ≤ w ∧ (∀ x ∈ l, l.foldl min w ≤ x) ∧ (l.foldl min w = w ∨ l.foldl min w ∈ l) := by
  induction l with
  | nil => intro w; exact ⟨Nat.le_refl _, fun _ h => (by cases h), .inl rfl⟩
  | cons x l ih =>
    intro w
    obtain ⟨h1, h2, h3⟩ := ih (min w x)
    rw [List.foldl_cons]
    refine ⟨by omega, fun y hy => ?_, ?_⟩
    · rcases List.mem_cons.mp hy with e | hy
      · rw [e]; omega
      · exact h2 y hy
    · rcases h3 with e | h
      · rw [e]
        rcases Nat.le_total w x with c | c
        · rw [Nat.min_eq_left c]; exact .inl rfl
        · rw [Nat.min_eq_right c]; exact .inr List.mem_cons_self
      · exact .inr (List.mem_cons_of_mem _ h)
theorem qb9 {p : List Nat} {a : Nat} {m : Int} (h1 : m ∈ (ring p a).map fun (x : Nat) => (x : Int)) (h2 : ∀ y ∈ (ring p a).map (fun (x : Nat) => (x : Int)), m ≤ y) : m = (((ring p a).foldl min a : Nat) : Int) := by
  obtain ⟨x, hx, rfl⟩ := List.mem_map.mp h1
  obtain ⟨a1, a2, a3⟩ := qf1 (ring p a) a
  have h3 := a2 x hx
  have h4 : (ring p a).foldl min a ∈ ring p a := by
    rcases a3 with e | e
    · rw [e]; exact zg7 p a
    · exact e
  have := h2 _ (List.mem_map.mpr ⟨_, h4, rfl⟩)
  omega
theorem zq4 {n : Nat} {l : List Nat} (h : l.length ≤ n) : fill n l = l ++ List.replicate (n - l.length) 0 := by
  unfold fill
  rw [List.take_of_length_le h]
end PM
end
section
set_option Elab.async false
set_option linter.all false
set_option maxRecDepth 100000
section
namespace L2
open PySem PySem.Spec PyProof.Rows
abbrev Key := Sum Int Str
def zn9 : Key → Value → Bool
  | .inl k, v => Value.isInt k v
  | .inr x, v => Value.isStrOf x v
def qd0 (w : World) : Key → Int
  | .inl k => hashInt k
  | .inr x => hashStr w x
theorem keyIs_shape : ∀ {k : Key} {v : Value}, zn9 k v = true → (∃ i t, k = Sum.inl i ∧ v = Value.int i t) ∨ (∃ x t, k = Sum.inr x ∧ v = Value.str x t)
  | .inl i, v, h => by
    obtain ⟨t, e⟩ := Value.isInt_shape (k := i) (v := v) h
    exact .inl ⟨i, t, rfl, e⟩
  | .inr x, v, h => by
    obtain ⟨t, e⟩ := Value.isStrOf_shape (x := x) (v := v) h
    exact .inr ⟨x, t, rfl, e⟩
theorem qc9 (a b : Int) : decide ((Sum.inl a : Key) = Sum.inl b) = (a == b) := by
  by_cases e : a = b
  · subst e; simp
  · have h : ¬ (Sum.inl a : Key) = Sum.inl b := fun q => e (Sum.inl.inj q)
    rw [decide_eq_false h]
    exact (beq_eq_false_iff_ne.mpr e).symm
theorem qc6 (a b : Str) : decide ((Sum.inr a : Key) = Sum.inr b) = decide (a = b) := by
  by_cases e : a = b
  · subst e; simp
  · have h : ¬ (Sum.inr a : Key) = Sum.inr b := fun q => e (Sum.inr.inj q)
    rw [decide_eq_false h, decide_eq_false e]
theorem qc8 (a : Int) (b : Str) : decide ((Sum.inl a : Key) = Sum.inr b) = false := decide_eq_false (fun q => nomatch q)
theorem qc7 (a : Str) (b : Int) : decide ((Sum.inr a : Key) = Sum.inl b) = false := decide_eq_false (fun q => nomatch q)
def zm2 (prog : Program) (w : World) : PySem.KeyKind prog w Key where
  is := zn9
  hash := qd0 w
  inj := fun v a b ha hb => by
    rcases keyIs_shape ha with ⟨i, t, rfl, rfl⟩ | ⟨x, t, rfl, rfl⟩
    · rcases keyIs_shape hb with ⟨j, u, rfl, e⟩ | ⟨y, u, rfl, e⟩
      · injection e with e1 _; rw [e1]
      · exact nomatch e
    · rcases keyIs_shape hb with ⟨j, u, rfl, e⟩ | ⟨y, u, rfl, e⟩
      · exact nomatch e
      · injection e with e1 _; rw [e1]
  byValue := fun k v h => by
    rcases keyIs_shape h with ⟨i, t, rfl, rfl⟩ | ⟨x, t, rfl, rfl⟩ <;> rfl
  pyHash := fun hv h => by
    rcases keyIs_shape hv with ⟨i, t, rfl, rfl⟩ | ⟨x, t, rfl, rfl⟩
    · exact wpAny_pyHash_int h
    · exact wpAny_pyHash_str h
  eqBool := fun hu hv h => by
    rcases keyIs_shape hu with ⟨i, t, rfl, rfl⟩ | ⟨x, t, rfl, rfl⟩
    · rcases keyIs_shape hv with ⟨j, u, rfl, rfl⟩ | ⟨y, u, rfl, rfl⟩
      · rw [qc9] at h; exact wpAny_eqBool_int h
      · rw [qc8] at h; exact SeqAt.EqAt.int_str i t y u _ _ _ _ h
    · rcases keyIs_shape hv with ⟨j, u, rfl, rfl⟩ | ⟨y, u, rfl, rfl⟩
      · rw [qc7] at h; exact SeqAt.EqAt.str_int x t j u _ _ _ _ h
      · rw [qc6] at h; exact wpAny_eqBool_str h
  «strs» := fun k x t v h => by
    rcases keyIs_shape h with ⟨i, u, rfl, e⟩ | ⟨y, u, rfl, e⟩
    · exact nomatch e
    · injection e with e1 _
      subst e1
      cases v <;> rfl
end L2
namespace L2
open PySem PySem.Spec PyProof.Rows
def i9 (h : Heap) (a : Addr) (items : Array Value) : Prop := ∃ o, h.get? a = some o ∧ o.cls = .type "tuple" ∧ (∃ n, o.data = .seq items n) ∧ o.dict = none
theorem i9.tup {h : Heap} {a : Addr} {items : Array Value} (x : i9 h a items) : IsTup h a items := let ⟨o, e, c, d, _⟩ := x; ⟨o, e, c, d⟩
theorem i9.new (h : Heap) (items : Array Value) : i9 (h.push { cls := .type "tuple", data := .seq items }) h.objs.size items := ⟨_, Heap.get?_push_size _ rfl, rfl, ⟨_, rfl⟩, rfl⟩
inductive V where
  | non | bl (b : Bool) | int (i : Int) | str (x : Str) | byt (b : Array UInt8) | flt (b : UInt64) | ref (a : Addr) | ty (n : String)
  deriving DecidableEq
def Q0 : V → Value → Prop
  | .non, u => u = Value.none
  | .bl b, u => u = Value.bool b
  | .int i, u => ∃ t, u = Value.int i t
  | .str x, u => ∃ t, u = Value.str x t
  | .byt b, u => ∃ t, u = Value.bytes b t
  | .flt b, u => ∃ t, u = Value.float b t
  | .ref a, u => u = Value.ref a
  | .ty n, u => u = Value.type n
abbrev M0 : List V → List Value → Prop := Paired Q0
theorem M0.length {xs : List V} {us : List Value} (r : M0 xs us) : xs.length = us.length := Paired.length r
theorem M0.get : ∀ {xs : List V} {us : List Value} {i : Nat} {x : V}, M0 xs us → xs[i]? = some x → ∃ u, us[i]? = some u ∧ Q0 x u
  | _, _, _, _, .nil, e => by simp at e
  | _, _, 0, _, .cons r _, e => by simp at e; subst e; exact ⟨_, rfl, r⟩
  | _, _, i + 1, x, .cons _ t, e => by
    obtain ⟨u, h1, h2⟩ := M0.get (i := i) (x := x) t (by simpa using e)
    exact ⟨u, by simpa using h1, h2⟩
theorem M0.set {x : V} {u : Value} (r : Q0 x u) : ∀ {xs : List V} {us : List Value} (i : Nat), M0 xs us → M0 (xs.set i x) (us.set i u)
  | _, _, _, .nil => .nil
  | _, _, 0, .cons _ t => .cons r t
  | _, _, i + 1, .cons q t => .cons q (M0.set r i t)
theorem M0.append : ∀ {xs ys : List V} {us ws : List Value}, M0 xs us → M0 ys ws → M0 (xs ++ ys) (us ++ ws)
  | _, _, _, _, .nil, s => s
  | _, _, _, _, .cons r t, s => .cons r (M0.append t s)
theorem M0.take : ∀ {xs : List V} {us : List Value} (n : Nat), M0 xs us → M0 (xs.take n) (us.take n)
  | _, _, 0, _ => .nil
  | _, _, _ + 1, .nil => .nil
  | _, _, n + 1, .cons r t => .cons r (M0.take n t)
theorem M0.drop : ∀ {xs : List V} {us : List Value} (n : Nat), M0 xs us → M0 (xs.drop n) (us.drop n)
  | _, _, 0, r => r
  | _, _, _ + 1, .nil => .nil
  | _, _, n + 1, .cons _ t => M0.drop n t
def X5 : Option V → Option Value → Prop
  | some v, some u => Q0 v u
  | none, none => True
  | _, _ => False
def KV {κ : Type} : List (κ × V) → List (κ × Value) → Prop := Paired fun (p : κ × V) (q : κ × Value) => p.1 = q.1 ∧ Q0 p.2 q.2
def kV : Key → V
  | .inl i => .int i
  | .inr x => .str x
inductive HO where
  /-- a list -/
  | lst (xs : List V)
  /-- a tuple (never changes) -/
  | tup (xs : List V)
  /-- a dict whose keys are ints and texts; one whose keys are tuples of ints and texts (the empty one is both) -/
  | dK (kvs : List (Key × V)) | dT (kvs : List (List Key × V))
  /-- a set of ints: its members, its size -/
  | set (S : Int → Bool) (n : Nat)
  /-- an instance of the class at C, its dict at dx, its attributes -/
  | ins (C dx : Addr) (fs : List (Str × V))
  /-- the dict of the instance at x -/
  | own (x : Addr)
  /-- the dict of an exception -/
  | xd (fs : List (Str × V))
  /-- a bound method, f of x -/
  | met (f x : Addr)
  /-- a range object lo, lo + 1, .. below hi -/
  | rng (lo hi : Int)
  /-- a thing that is known to the object (the script; a dict while a loop walks it): read, never written while it is so -/
  | frz (o : Obj) (u : HO)
  /-- a code object's table -/
  | tbl (ps : Array Value)
  /-- any other thing, by what is true of its one object (a def of one's own: SetO a S n := HO.ext fun h => ..) -/
  | ext (φ : Heap → Prop)
abbrev Hp := Addr → Option HO
def upd (H : Hp) (a : Addr) (o : HO) : Hp := fun b => if b = a then some o else H b
theorem i0 {H : Hp} {a : Addr} {o : HO} : upd H a o a = some o := by unfold upd; rw [if_pos rfl]
theorem r0 {H : Hp} {a b : Addr} {o : HO} (h : b ≠ a) : upd H a o b = H b := by unfold upd; rw [if_neg h]
theorem W4 {H : Hp} {a : Addr} {o u : HO} : upd (upd H a o) a u = upd H a u := by
  funext b; unfold upd; split <;> rfl
theorem ne_of {H : Hp} {a b : Addr} {o u : HO} (h : H a = some o) (h' : H b = some u) (d : o ≠ u) : a ≠ b := by
  intro e; subst e; rw [h] at h'; exact d (Option.some.inj h')
theorem S0 {H : Hp} {a b : Addr} {o : HO} (h : H a = some o) (h' : H b = none) : a ≠ b := by
  intro e; subst e; rw [h] at h'; cases h'
section
variable (P : Program) (w : World)
def W1 (H : Hp) (h : Heap) (a : Addr) : HO → Prop
  | .lst xs => xs.length ≤ sizeLine ∧ ∃ (its : List Value) (n : Nat), M0 xs its ∧ h.get? a = some { cls := .type "list", data := .seq its.toArray n }
  | .tup xs => xs.length ≤ sizeLine ∧ ∃ its : List Value, M0 xs its ∧ i9 h a its.toArray
  | .dK kvs => kvs.length ≤ sizeLine ∧ (a == sysModules) = false ∧ ∃ vs, KV kvs vs ∧ h.DictOf (zm2 P w) a vs
  | .dT kvs => kvs.length ≤ sizeLine ∧ (a == sysModules) = false ∧ ∃ xs : List (List Key × Addr × Value),
      Paired (fun (p : List Key × V) (q : List Key × Addr × Value) => p.1 = q.1 ∧ H q.2.1 = some (.tup (p.1.map kV)) ∧ Q0 p.2 q.2.2) kvs xs ∧
      ∃ o es ep, h.get? a = some o ∧ o.ExactDict ∧ o.data = .dict es ep ∧ es.toList = xs.map (entryOfKey (tupleKind (zm2 P w))) ∧ (xs.map (·.1)).Nodup
  | .set S n => h.SetOf (intKind P w) a S n
  | .ins C dx fs => H dx = some (.own a) ∧ fs.length ≤ 1000 ∧ dx ≠ a ∧ h.get? a = some (PySem.W.instObj C dx) ∧
      ∃ mA, h.Ns1 dx mA ∧ (∀ f, X5 (fs.lookup f) (mA f)) ∧ PySem.Within mA (fs.map (·.1))
  | .own _ => ∃ o, h.get? a = some o
  | .xd fs => ∃ mA, h.Ns1 a mA ∧ ∀ f, X5 (fs.lookup f) (mA f)
  | .rng lo hi => ∃ t u v, h.get? a = some { cls := .type "range", data := .fields #[.int lo t, .int hi u, .int 1 v] }
  | .frz o u => h.get? a = some o ∧ W1 H h a u
  | .tbl ps => h.get? a = some { cls := .none, data := .fields ps }
  | .met f x => h.get? a = some (PySem.W.methodObj (.ref f) (.ref x))
  | .ext φ => φ h ∧ (∃ o, h.get? a = some o) ∧ ∀ h1 h2 : Heap, φ h1 → (∀ o, h1.get? a = some o → h2.get? a = some o) → φ h2
def HOk (H : Hp) (h : Heap) : Prop := ∀ a o, H a = some o → W1 P w H h a o
end
section
variable {P : Program} {w : World} {H H' : Hp} {h h' : Heap} {a : Addr} {o : HO}
theorem W1.lt (x : W1 P w H h a o) : a < h.objs.size := by
  cases o with
  | lst xs => obtain ⟨_, _, _, _, e⟩ := x; exact Heap.lt_size e
  | tup xs => obtain ⟨_, _, _, p⟩ := x; exact p.tup.lt
  | dK kvs => obtain ⟨_, _, _, _, o, _, _, e, _⟩ := x; exact Heap.lt_size e
  | dT kvs => obtain ⟨_, _, _, _, o, _, _, e, _⟩ := x; exact Heap.lt_size e
  | set S n => obtain ⟨o, _, _, _, e, _⟩ := x; exact Heap.lt_size e
  | ins C dx fs => obtain ⟨_, _, _, e, _⟩ := x; exact Heap.lt_size e
  | own y => obtain ⟨_, e⟩ := x; exact Heap.lt_size e
  | xd fs => obtain ⟨_, ⟨_, _, _, e, _⟩, _⟩ := x; exact Heap.lt_size e
  | rng lo hi => obtain ⟨_, _, _, e⟩ := x; exact Heap.lt_size e
  | frz ob u => obtain ⟨e, _⟩ := x; exact Heap.lt_size e
  | tbl ps => exact Heap.lt_size (show h.get? a = some _ from x)
  | met f y => exact Heap.lt_size (show h.get? a = some _ from x)
  | ext φ => obtain ⟨_, ⟨_, e⟩, _⟩ := x; exact Heap.lt_size e
theorem Paired.mapP {α β : Type} {F G : α → β → Prop} : ∀ {l₁ : List α} {l₂ : List β}, Paired F l₁ l₂ → (∀ a b, F a b → G a b) → Paired G l₁ l₂
  | _, _, .nil, _ => .nil
  | _, _, .cons r t, f => .cons (f _ _ r) (Paired.mapP t f)
theorem W1.stay (x : W1 P w H h a o) (k : ∀ b u, (b = a ∨ H b = some (.own a)) → h.get? b = some u → h'.get? b = some u)
    (ho : ∀ b, H b = some (.own a) → H' b = some (.own a)) (ht : ∀ b xs, H b = some (.tup xs) → H' b = some (.tup xs)) : W1 P w H' h' a o := by
  induction o with
  | lst xs => obtain ⟨z, its, n, r, e⟩ := x; exact ⟨z, its, n, r, k _ _ (.inl rfl) e⟩
  | tup xs => obtain ⟨z, its, r, ob, e, c⟩ := x; exact ⟨z, its, r, ob, k _ _ (.inl rfl) e, c⟩
  | dK kvs => obtain ⟨z, y, vs, r, ob, es, ep, e, c⟩ := x; exact ⟨z, y, vs, r, ob, es, ep, k _ _ (.inl rfl) e, c⟩
  | dT kvs =>
    obtain ⟨z, y, xs, r, ob, es, ep, e, c⟩ := x
    exact ⟨z, y, xs, Paired.mapP r fun p q z => ⟨z.1, ht _ _ z.2.1, z.2.2⟩, ob, es, ep, k _ _ (.inl rfl) e, c⟩
  | set S n => obtain ⟨ob, es, ep, t, e, c⟩ := x; exact ⟨ob, es, ep, t, k _ _ (.inl rfl) e, c⟩
  | ins C dx fs =>
    obtain ⟨d, z, ne, e, mA, ⟨od, es, ep, e2, c⟩, r⟩ := x
    exact ⟨ho _ d, z, ne, k _ _ (.inl rfl) e, mA, ⟨od, es, ep, k _ _ (.inr d) e2, c⟩, r⟩
  | own y => obtain ⟨ob, e⟩ := x; exact ⟨ob, k _ _ (.inl rfl) e⟩
  | xd fs => obtain ⟨mA, ⟨od, es, ep, e, c⟩, r⟩ := x; exact ⟨mA, ⟨od, es, ep, k _ _ (.inl rfl) e, c⟩, r⟩
  | rng lo hi => obtain ⟨t, u, v, e⟩ := x; exact ⟨t, u, v, k _ _ (.inl rfl) e⟩
  | frz ob u ih => obtain ⟨e, q⟩ := x; exact ⟨k _ _ (.inl rfl) e, ih q⟩
  | tbl ps =>
    have e : h.get? a = some { cls := .none, data := .fields ps } := x
    show h'.get? a = some { cls := .none, data := .fields ps }
    exact k a _ (.inl rfl) e
  | met f y =>
    have e : h.get? a = some (PySem.W.methodObj (.ref f) (.ref y)) := x
    show h'.get? a = some (PySem.W.methodObj (.ref f) (.ref y))
    exact k a _ (.inl rfl) e
  | ext φ => obtain ⟨p, ⟨o, e⟩, st⟩ := x; exact ⟨st _ _ p fun o q => k _ _ (.inl rfl) q, ⟨o, k _ _ (.inl rfl) e⟩, st⟩
theorem HOk.lt (x : HOk P w H h) (e : H a = some o) : a < h.objs.size := (x a o e).lt
theorem HOk.fresh (x : HOk P w H h) (e : h.objs.size ≤ a) : H a = none := by
  cases q : H a with
  | none => rfl
  | some u => exact absurd (Nat.lt_of_lt_of_le (x.lt q) e) (Nat.lt_irrefl _)
theorem HOk.kept (x : HOk P w H h) (k : ∀ b u, h.get? b = some u → h'.get? b = some u) : HOk P w H h' := fun a o e =>
  (x a o e).stay (fun b u _ q => k b u q) (fun _ q => q) fun _ _ q => q
theorem HOk.laid (x : HOk P w H h) (k : ∀ b u, h.get? b = some u → h'.get? b = some u) (hp : h.objs.size ≤ a) (new : W1 P w (upd H a o) h' a o) : HOk P w (upd H a o) h' := fun b u e => by
  have hn := x.fresh hp
  by_cases hb : b = a
  · subst hb; rw [i0] at e; cases e; exact new
  · rw [r0 hb] at e
    exact (x b u e).stay (fun c v _ q => k c v q) (fun c q => by rw [r0 (S0 q hn)]; exact q) fun c xs q => by rw [r0 (S0 q hn)]; exact q
end
def Rd (H : Hp) (a : Addr) (u : HO) : Prop := H a = some u ∨ ∃ o, H a = some (.frz o u)
theorem Rd.ok {P : Program} {w : World} {H : Hp} {h : Heap} {a : Addr} {u : HO} (r : Rd H a u) (x : HOk P w H h) : W1 P w H h a u := by
  rcases r with r | ⟨o, r⟩
  · exact x a u r
  · obtain ⟨_, q⟩ := x a _ r
    exact q
def Mut : Option HO → Prop
  | some (.lst _) => True
  | some (.dK _) => True
  | some (.dT _) => True
  | some (.set _ _) => True
  | some (.ins _ _ _) => True
  | some (.ext _) => True
  | _ => False
section
variable {P : Program} {w : World} {H : Hp} {h h' : Heap} {x e : Addr} {o' : HO}
theorem HOk.write (ok : HOk P w H h) (mu : Mut (H x)) (he : e = x ∨ H e = some (.own x)) (k : ∀ b u, b ≠ e → h.get? b = some u → h'.get? b = some u) (heo : ∃ u, h'.get? e = some u)
    (new : W1 P w (upd H x o') h' x o') : HOk P w (upd H x o') h' := fun b u q => by
  have nown : ∀ c y, H c = some (.own y) → c ≠ x := fun c y r z => by subst z; rw [r] at mu; exact mu
  have ntup : ∀ c xs, H c = some (.tup xs) → c ≠ x := fun c xs r z => by subst z; rw [r] at mu; exact mu
  by_cases hb : b = x
  · subst hb; rw [i0] at q; cases q; exact new
  · rw [r0 hb] at q
    by_cases hbe : b = e
    · have q' : H b = some (.own x) := by
        rcases he with z | z
        · exact absurd (hbe.trans z) hb
        · rw [hbe]; exact z
      rw [q] at q'; cases q'
      obtain ⟨v, hv⟩ := heo
      exact ⟨v, by rw [hbe]; exact hv⟩
    · refine (ok b u q).stay (fun c v hc r => k c v ?_ r) (fun c r => by rw [r0 (nown c b r)]; exact r) fun c xs r => by rw [r0 (ntup c xs r)]; exact r
      rcases hc with rfl | hc
      · exact hbe
      · rintro rfl
        rcases he with z | z
        · exact nown c b hc z
        · rw [hc] at z; cases z; exact hb rfl
end
structure Un (fs ex : List Addr) (H H' : Hp) (h h' : Heap) : Prop where
  keep : ∀ b o, h.get? b = some o → H b = none → b ∉ fs → b ∉ ex → h'.get? b = some o
  slot : ∀ b o, h.get? b = some o → H b = none → b ∈ fs → b ∉ ex → ∃ sl, h'.get? b = some { o with slots := sl }
  free : ∀ b o, h.get? b = some o → H b = none → b ∉ ex → H' b = none
  there : ∀ b o, h.get? b = some o → b ∉ ex → ∃ o', h'.get? b = some o'
  tups : ∀ b xs, H b = some (.tup xs) → H' b = some (.tup xs)
  frzs : ∀ b o u, H b = some (.frz o u) → H' b = some (.frz o u)
  tbls : ∀ b ps, H b = some (.tbl ps) → ∃ more, H' b = some (.tbl (ps ++ more))
section
variable {fs fs' ex ex' : List Addr} {H H1 H2 : Hp} {h h1 h2 h' : Heap} {a x e : Addr} {o : HO}
theorem Un.any (u : Un fs ex H H1 h h1) {b : Addr} {ob : Obj} (q : h.get? b = some ob) (n : H b = none) (hx : b ∉ ex) : ∃ sl, h1.get? b = some { ob with slots := sl } := by
  by_cases hb : b ∈ fs
  · exact u.slot b ob q n hb hx
  · exact ⟨ob.slots, u.keep b ob q n hb hx⟩
theorem Un.kept (k : ∀ b u, h.get? b = some u → h'.get? b = some u) : Un fs ex H H h h' :=
  ⟨fun b ob q _ _ _ => k b ob q, fun b ob q _ _ _ => ⟨ob.slots, k b ob q⟩, fun _ _ _ n _ => n, fun b ob q _ => ⟨ob, k b ob q⟩, fun _ _ q => q, fun _ _ _ q => q, fun _ ps q => ⟨#[], by rw [q]; simp⟩⟩
theorem Un.refl : Un fs ex H H h h := Un.kept fun _ _ q => q
theorem Un.laid (k : ∀ b u, h.get? b = some u → h'.get? b = some u) (hp : h.objs.size ≤ a) (hn : H a = none) : Un fs ex H (upd H a o) h h' where
  keep := fun b u q _ _ _ => k b u q
  slot := fun b u q _ _ _ => ⟨u.slots, k b u q⟩
  free := fun b u q n _ => by rw [r0 (Nat.ne_of_lt (Nat.lt_of_lt_of_le (Heap.lt_size q) hp))]; exact n
  there := fun b u q _ => ⟨u, k b u q⟩
  tups := fun b xs q => by rw [r0 (S0 q hn)]; exact q
  frzs := fun b u xs q => by rw [r0 (S0 q hn)]; exact q
  tbls := fun b ps q => ⟨#[], by rw [r0 (S0 q hn), q]; simp⟩
theorem Un.write (mu : Mut (H x)) (he : e = x ∨ H e = some (.own x)) (k : ∀ b u, b ≠ e → h.get? b = some u → h'.get? b = some u) (heo : ∃ u, h'.get? e = some u) : Un fs ex H (upd H x o) h h' := by
  have hx : ∀ b, H b = none → b ≠ x := fun b n z => by subst z; rw [n] at mu; exact mu
  have hb : ∀ b, H b = none → b ≠ e := fun b n z => by
    subst z
    rcases he with r | r
    · exact hx b n r
    · rw [n] at r; cases r
  have hm : ∀ b u, H b = some u → ¬ Mut (some u) → b ≠ x := fun b u q nm z => by subst z; rw [q] at mu; exact nm mu
  refine ⟨fun b u q n _ _ => k b u (hb b n) q, fun b u q n _ _ => ⟨u.slots, k b u (hb b n) q⟩, fun b u q n _ => by rw [r0 (hx b n)]; exact n, fun b u q _ => ?_,
    fun b xs q => by rw [r0 (hm b _ q fun z => z)]; exact q, fun b u xs q => by rw [r0 (hm b _ q fun z => z)]; exact q, fun b ps q => ⟨#[], by rw [r0 (hm b _ q fun z => z), q]; simp⟩⟩
  by_cases hbe : b = e
  · subst hbe; exact heo
  · exact ⟨u, k b u hbe q⟩
end
def trk (h : Heap) (H : Hp) : List Addr := (List.range h.objs.size).filter fun a => (H a).isSome
def T3 (h : Heap) (H : Hp) : Heap := PySem.W.hideAll h (trk h H)
theorem qe1 (h : Heap) (H : Hp) : (T3 h H).objs.size = h.objs.size := PySem.W.hideAll_size _ _
theorem qe2 {h : Heap} {H : Hp} {b : Addr} {o : Obj} (e : h.get? b = some o) (n : H b = none) : (T3 h H).get? b = some o :=
  PySem.W.hideAll_get _ e fun hm => by
    have q : (H b).isSome = true := (List.mem_filter.mp hm).2
    rw [n] at q; simp at q
theorem zY5 {h : Heap} {H : Hp} {b : Addr} {o : Obj} (e : (T3 h H).get? b = some o) : h.get? b = some o ∧ H b = none := by
  have e' : h.get? b = some o := PySem.W.of_hideAll (trk h H) e
  refine ⟨e', ?_⟩
  cases q : H b with
  | none => rfl
  | some x =>
    have hm : b ∈ trk h H := List.mem_filter.mpr ⟨List.mem_range.mpr (Heap.lt_size e'), by simp [q]⟩
    have z : (T3 h H).get? b = none := PySem.W.hideAll_none (trk h H) hm
    rw [z] at e; cases e
def M7 (g h : Heap) (L : Addr) : List (Addr × Obj) := (List.range h.objs.size).filterMap fun a => if a = L ∨ (g.get? a).isSome = true then none else (h.get? a).map fun o => (a, o)
theorem qa2 {g h : Heap} {L a : Addr} {o : Obj} (h1 : a ≠ L) (h2 : g.get? a = none) (h3 : h.get? a = some o) : (a, o) ∈ M7 g h L :=
  List.mem_filterMap.mpr ⟨a, List.mem_range.mpr (Heap.lt_size h3), by simp [h1, h2, h3]⟩
theorem zY4 {g h : Heap} {L : Addr} {p : Addr × Obj} (hp : p ∈ M7 g h L) : p.1 ≠ L ∧ g.get? p.1 = none ∧ h.get? p.1 = some p.2 := by
  obtain ⟨b, _, e⟩ := List.mem_filterMap.mp hp
  split at e
  · cases e
  · rename_i hn
    cases q : h.get? b with
    | none => rw [q] at e; simp at e
    | some u =>
      rw [q] at e
      simp only [Option.map_some, Option.some.injEq] at e
      subst e
      refine ⟨fun z => hn (.inl z), ?_, q⟩
      show g.get? b = none
      cases r : g.get? b with
      | none => rfl
      | some v => exact (hn (.inr (by simp [r]))).elim
theorem zZ0 {g h : Heap} {L : Addr} : News g L h (M7 g h L) := fun p hp => let ⟨a, b, c⟩ := zY4 hp; ⟨c, a, b⟩
end L2
namespace L2
open PySem PySem.Spec PyProof.Rows
structure Mod (K : PySem.W.Frag) (mg : Str → Option Value) (base : Heap) : Prop where
  kin : K.In base
  glob : base.Ns mainGlobals mg
  blt : ∃ mb, base.Ns builtinsNs mb ∧ ∀ x : Str, x ≠ "__name__" → mb x = bootBuiltins x
  nolimit : base.NoLimit
structure Cx where
  prog : Program
  w : World
  K : PySem.W.Frag
  mg : Str → Option Value
  base : Heap
  A : Around
  N : List Str
  s_0 : Shared
  H_0 : Hp
  env : Env
  outer : List Env
  stack : List Env
  ex : List Addr
  fn : Str → Bool
  calm : Bool
  pn : List (Addr × Obj)
  xe : Value → Shared → Prop
def frs (l : List Env) : List Addr := l.filterMap (·.frame)
abbrev Cx.fs (X : Cx) : List Addr := frs X.outer
def Vis (sc : Scope) (x : Str) : Prop := sc.names.lookup x = some .local ∨ sc.names.lookup x = some .cell ∨ sc.names.lookup x = some .free
def Loc (sc : Scope) (x : Str) : Prop := sc.names.lookup x = some .local ∨ sc.names.lookup x = some .cell
def qk2 (env : Env) (h : Heap) (m : Str → Option Value) (x : Str) (u : Value) : Prop :=
  (env.kindOf x = some .local ∧ m x = some u) ∨ ((env.kindOf x = some .cell ∨ env.kindOf x = some .free) ∧ ∃ c, env.cells.lookup x = some c ∧ h.IsCell c (some u))
structure Cx.Ok (X : Cx) : Prop where
  mod : Mod X.K X.mg X.base
  kind : X.env.scope.kind = .function
  glob : X.env.globals = mainGlobals
  blt : X.env.builtins = builtinsNs
  above : X.s_0.heap.objs.size ≤ X.env.locals
  inj : ∀ x y c, X.env.cells.lookup x = some c → X.env.cells.lookup y = some c → x = y
  has : ∀ x, (X.env.kindOf x = some .cell ∨ X.env.kindOf x = some .free) → ∃ c, X.env.cells.lookup x = some c
  cab : ∀ x c, X.fn x = true → X.env.cells.lookup x = some c → X.s_0.heap.objs.size ≤ c
  hd : X.calm = true → X.A.handled = none
  frames : X.A.frames = some X.stack
  stk : X.stack = X.outer ∨ (X.stack = X.env :: X.outer ∧ X.env.frame = some X.env.locals)
  exf : ∀ b ∈ X.ex, b ≠ X.env.locals ∧ ∀ x c, X.env.cells.lookup x = some c → c ≠ b
  bs : ∀ b o, X.base.get? b = some o → X.s_0.heap.get? b = some o ∧ X.H_0 b = none
  bsz : X.base.objs.size ≤ X.s_0.heap.objs.size
  noex : ∀ b o, X.base.get? b = some o → b ∉ X.ex
  exfs : ∀ b ∈ X.ex, b ∉ X.fs
  funs : X.s_0.heap.FunFrames X.base X.outer
  frf : ∀ b ∈ X.fs, X.H_0 b = none
structure Inv (X : Cx) (pins : List (Addr × Obj)) (σ : List (Option V)) (H : Hp) (s : Shared) : Prop where
  ok : X.Ok
  os : s.os = X.s_0.os
  bare : AllBare s.gens
  base : Un X.fs X.ex X.H_0 H X.s_0.heap s.heap
  loc : ∃ m, s.heap.Ns X.env.locals m ∧ ∀ (i : Nat) (x : Str) (v : V), X.N[i]? = some x → σ[i]? = some (some v) → Vis X.env.scope x → ∃ u, Q0 v u ∧ qk2 X.env s.heap m x u
  cell : ∀ x c, X.env.cells.lookup x = some c → ∃ v, s.heap.IsCell c v
  free : H X.env.locals = none
  freeC : ∀ x c, X.env.cells.lookup x = some c → H c = none
  pin : ∀ p ∈ X.pn ++ pins, s.heap.get? p.1 = some p.2 ∧ H p.1 = none ∧ p.1 ≠ X.env.locals ∧ p.1 ∉ X.fs ∧ ∀ v, p.2.data ≠ .cell v
  hok : HOk X.prog X.w H s.heap
  len : σ.length = X.N.length
section
variable {X : Cx} {pins : List (Addr × Obj)} {σ : List (Option V)} {H H' : Hp} {s : Shared} {h' : Heap}
theorem Cx.Ok.nofr (ok : X.Ok) {b : Addr} {o : Obj} (e : X.base.get? b = some o) : b ∉ X.fs := fun hb => by
  have := (ok.funs.mem hb).1
  rw [e] at this; cases this
theorem Inv.bs (I : Inv X pins σ H s) : ∀ b o, X.base.get? b = some o → s.heap.get? b = some o ∧ H b = none := fun b o e =>
  ⟨I.base.keep b o (I.ok.bs b o e).1 (I.ok.bs b o e).2 (I.ok.nofr e) (I.ok.noex b o e), I.base.free b o (I.ok.bs b o e).1 (I.ok.bs b o e).2 (I.ok.noex b o e)⟩
theorem Inv.bk (I : Inv X pins σ H s) : ∀ b o, X.base.get? b = some o → s.heap.get? b = some o := fun b o e => (I.bs b o e).1
theorem Inv.mod (I : Inv X pins σ H s) : Mod X.K X.mg X.base := I.ok.mod
theorem Inv.kIn (I : Inv X pins σ H s) : X.K.In s.heap := I.ok.mod.kin.keeps I.bk
theorem Inv.nolimit (I : Inv X pins σ H s) : s.heap.NoLimit := I.ok.mod.nolimit.keeps I.bk
theorem Inv.fr (I : Inv X pins σ H s) : ∃ m, Fr X.base X.env.locals s.heap m :=
  let ⟨m, hn, _⟩ := I.loc
  ⟨m, hn, I.bk, Nat.le_trans I.ok.bsz I.ok.above⟩
theorem Inv.lt (I : Inv X pins σ H s) : X.env.locals < s.heap.objs.size := let ⟨_, hn, _⟩ := I.loc; hn.lt
theorem Inv.sz (I : Inv X pins σ H s) : X.s_0.heap.objs.size ≤ s.heap.objs.size := Nat.le_trans I.ok.above (Nat.le_of_lt I.lt)
theorem Inv.nofs (I : Inv X pins σ H s) {a : Addr} (h : s.heap.objs.size ≤ a) : a ∉ X.fs := fun hb => by
  obtain ⟨_, o, ho, _⟩ := I.ok.funs.mem hb
  exact absurd (Nat.lt_of_lt_of_le (Heap.lt_size ho) (Nat.le_trans I.sz h)) (Nat.lt_irrefl _)
theorem Inv.cne (I : Inv X pins σ H s) : ∀ x c, X.env.cells.lookup x = some c → c ≠ X.env.locals := fun x c e z => by
  obtain ⟨v, o, ho, hd⟩ := I.cell x c e
  obtain ⟨m, ⟨o', es, ep, ho', hd', _⟩, _⟩ := I.loc
  rw [z, ho'] at ho; cases ho; rw [hd'] at hd; cases hd
theorem Inv.funs (I : Inv X pins σ H s) : s.heap.FunFrames X.base X.outer := by
  have all : ∀ (l : List Env), (∀ b ∈ frs l, b ∈ X.fs) → X.s_0.heap.FunFrames X.base l → s.heap.FunFrames X.base l := by
    intro l
    induction l with
    | nil => intro _ _; trivial
    | cons env r ih =>
      intro hs hl
      obtain ⟨hk, ⟨L, o, hf, hn, ho, hd⟩, hr⟩ := hl
      have hL : L ∈ X.fs := hs L (by unfold frs; rw [List.filterMap_cons, hf]; exact List.mem_cons_self)
      obtain ⟨sl, e⟩ := I.base.slot L o ho (I.ok.frf L hL) hL fun z => I.ok.exfs L z hL
      exact ⟨hk, ⟨L, _, hf, hn, e, hd⟩, ih (fun b hb => hs b (by unfold frs; rw [List.filterMap_cons, hf]; exact List.mem_cons_of_mem _ hb)) hr⟩
  exact all X.outer (fun _ hb => hb) I.ok.funs
theorem Inv.stack (I : Inv X pins σ H s) : s.heap.FunFrames X.base X.stack := by
  rcases I.ok.stk with e | ⟨e, hf⟩
  · rw [e]; exact I.funs
  · rw [e]
    obtain ⟨m, hn, _⟩ := I.loc
    refine .cons (by rw [I.ok.kind]; decide) hf hn ?_ I.funs
    exact Heap.get?_none_of_le (Nat.le_trans I.ok.bsz I.ok.above)
theorem Inv.stkSub (I : Inv X pins σ H s) : ∀ b ∈ frs X.stack, b ∈ X.env.locals :: X.fs := fun b hb => by
  rcases I.ok.stk with e | ⟨e, hf⟩
  · rw [e] at hb; exact List.mem_cons_of_mem _ hb
  · rw [e] at hb
    unfold frs at hb
    rw [List.filterMap_cons, hf] at hb
    exact hb
theorem Inv.stkFree (I : Inv X pins σ H s) : ∀ b ∈ frs X.stack, H b = none := fun b hb => by
  rcases List.mem_cons.mp (I.stkSub b hb) with e | hb
  · rw [e]; exact I.free
  · obtain ⟨_, o, ho, _⟩ := I.ok.funs.mem hb
    exact I.base.free b o ho (I.ok.frf b hb) fun z => I.ok.exfs b z hb
theorem Inv.step {g' : Array GenState} {t' : Nat} {d' : Drawn} {ch : List Addr} (I : Inv X pins σ H s)
    (hch : ∀ b ∈ ch, (b ∈ X.ex ∨ X.s_0.heap.objs.size ≤ b) ∧ b ≠ X.env.locals ∧ (∀ x c, X.env.cells.lookup x = some c → c ≠ b) ∧ ∀ p ∈ X.pn ++ pins, p.1 ≠ b)
    (keep : ∀ b o, b ≠ X.env.locals → b ∉ X.fs → b ∉ ch → s.heap.get? b = some o → H b = none → h'.get? b = some o)
    (slot : ∀ b o, b ≠ X.env.locals → b ∈ X.fs → b ∉ ch → s.heap.get? b = some o → H b = none → ∃ sl, h'.get? b = some { o with slots := sl }) (free : ∀ b o, b ∉ ch → s.heap.get? b = some o → H b = none → H' b = none)
    (there : ∀ b o, b ∉ ch → s.heap.get? b = some o → ∃ o', h'.get? b = some o')
    (tups : ∀ b xs, H b = some (.tup xs) → H' b = some (.tup xs)) (frzs : ∀ b o u, H b = some (.frz o u) → H' b = some (.frz o u)) (tbls : ∀ b ps, H b = some (.tbl ps) → ∃ more, H' b = some (.tbl (ps ++ more)))
    (ns : ∀ m, s.heap.Ns X.env.locals m → h'.Ns X.env.locals m) (hok : HOk X.prog X.w H' h') (hg : AllBare g') :
    Inv X pins σ H' { s with heap := h', gens := g', drawn := d', toks := t' } := by
  have neL : ∀ b o, X.s_0.heap.get? b = some o → b ≠ X.env.locals := fun b o e => Nat.ne_of_lt (Nat.lt_of_lt_of_le (Heap.lt_size e) I.ok.above)
  have neC : ∀ b o, X.s_0.heap.get? b = some o → b ∉ X.ex → b ∉ ch := fun b o e hx hb => by
    rcases (hch b hb).1 with z | z
    · exact hx z
    · exact absurd (Nat.lt_of_lt_of_le (Heap.lt_size e) z) (Nat.lt_irrefl _)
  have cellK : ∀ x c, X.env.cells.lookup x = some c → ∀ v, s.heap.IsCell c v → h'.IsCell c v := fun x c e v ⟨o, ho, hd⟩ => by
    have nch : c ∉ ch := fun z => (hch c z).2.2.1 x c e rfl
    by_cases hc : c ∈ X.fs
    · obtain ⟨sl, q⟩ := slot c o (I.cne x c e) hc nch ho (I.freeC x c e)
      exact ⟨_, q, hd⟩
    · exact ⟨o, keep c o (I.cne x c e) hc nch ho (I.freeC x c e), hd⟩
  refine ⟨I.ok, I.os, hg, ⟨fun b o e n hb hx => ?_, fun b o e n hb hx => ?_, fun b o e n hx => ?_, fun b o e hx => ?_, fun b xs e => tups b xs (I.base.tups b xs e), fun b o xs e => frzs b o xs (I.base.frzs b o xs e), fun b ps e => ?_⟩, ?_, fun x c e => ?_, ?_, fun x c e => ?_, fun p hp => ?_, hok, I.len⟩
  · exact keep b o (neL b o e) hb (neC b o e hx) (I.base.keep b o e n hb hx) (I.base.free b o e n hx)
  · obtain ⟨sl, e1⟩ := I.base.slot b o e n hb hx
    obtain ⟨sl', e2⟩ := slot b _ (neL b o e) hb (neC b o e hx) e1 (I.base.free b o e n hx)
    exact ⟨sl', e2⟩
  · obtain ⟨o', e1⟩ := I.base.there b o e hx
    exact free b o' (neC b o e hx) e1 (I.base.free b o e n hx)
  · obtain ⟨o', e1⟩ := I.base.there b o e hx
    exact there b o' (neC b o e hx) e1
  · obtain ⟨m1, e1⟩ := I.base.tbls b ps e
    obtain ⟨m2, e2⟩ := tbls b _ e1
    exact ⟨m1 ++ m2, by rw [e2, Array.append_assoc]⟩
  · obtain ⟨m, hn, hl⟩ := I.loc
    refine ⟨m, ns m hn, fun i x v e1 e2 e3 => ?_⟩
    obtain ⟨u, r, l⟩ := hl i x v e1 e2 e3
    refine ⟨u, r, ?_⟩
    rcases l with l | ⟨k, c, e, z⟩
    · exact .inl l
    · exact .inr ⟨k, c, e, cellK x c e _ z⟩
  · obtain ⟨v, z⟩ := I.cell x c e
    exact ⟨v, cellK x c e v z⟩
  · obtain ⟨m, ⟨o, _, _, ho, _⟩, _⟩ := I.loc
    exact free _ o (fun z => (hch _ z).2.1 rfl) ho I.free
  · obtain ⟨v, o, ho, hd⟩ := I.cell x c e
    exact free c o (fun z => (hch c z).2.2.1 x c e rfl) ho (I.freeC x c e)
  · obtain ⟨e, n, ne, nf, d⟩ := I.pin p hp
    have nch : p.1 ∉ ch := fun z => (hch p.1 z).2.2.2 p hp rfl
    exact ⟨keep p.1 p.2 ne nf nch e n, free p.1 p.2 nch e n, ne, nf, d⟩
theorem Inv.un {t' : Nat} (I : Inv X pins σ H s) (u : Un X.fs [] H H' s.heap h') (hok : HOk X.prog X.w H' h') : Inv X pins σ H' { s with heap := h', toks := t' } := by
  obtain ⟨m, ⟨o, es, ep, ho, r⟩, _⟩ := id I.loc
  obtain ⟨sl, hL⟩ := u.any ho I.free (by simp)
  exact I.step (g' := s.gens) (d' := s.drawn) (ch := []) (fun _ z => nomatch z) (fun b o _ hb _ e n => u.keep b o e n hb (by simp)) (fun b o _ hb _ e n => u.slot b o e n hb (by simp)) (fun b o _ e n => u.free b o e n (by simp)) (fun b o _ e => u.there b o e (by simp)) u.tups u.frzs u.tbls (fun m' hm => by
    obtain ⟨o', es', ep', ho', r'⟩ := hm
    rw [ho] at ho'; cases ho'
    exact ⟨_, es', ep', hL, r'⟩) hok I.bare
theorem Inv.call {g' : Array GenState} {t' : Nat} {d' : Drawn} {ch : List Addr} (I : Inv X pins σ H s) (u : Un (frs X.stack) ch H H' s.heap h') (hok : HOk X.prog X.w H' h') (hg : AllBare g')
    (hch : ∀ b ∈ ch, (b ∈ X.ex ∨ X.s_0.heap.objs.size ≤ b) ∧ b ≠ X.env.locals ∧ (∀ x c, X.env.cells.lookup x = some c → c ≠ b) ∧ ∀ p ∈ X.pn ++ pins, p.1 ≠ b) :
    Inv X pins σ H' { s with heap := h', gens := g', drawn := d', toks := t' } := by
  obtain ⟨m, ⟨o, es, ep, ho, r⟩, _⟩ := id I.loc
  obtain ⟨sl, hL⟩ := u.any ho I.free fun z => (hch _ z).2.1 rfl
  exact I.step (ch := ch) hch (fun b o hL hb hc e n => u.keep b o e n (fun z => (List.mem_cons.mp (I.stkSub b z)).elim hL hb) hc) (fun b o _ _ hc e n => u.any e n hc) (fun b o hc e n => u.free b o e n hc) (fun b o hc e => u.there b o e hc) u.tups u.frzs u.tbls (fun m' hm => by
    obtain ⟨o', es', ep', ho', r'⟩ := hm
    rw [ho] at ho'; cases ho'
    exact ⟨_, es', ep', hL, r'⟩) hok hg
theorem Inv.turned {t' : Nat} {it : Addr} (I : Inv X pins σ H s) (k : ∀ b o, b ≠ it → s.heap.get? b = some o → h'.get? b = some o) (hn : H it = none) (hL : it ≠ X.env.locals)
    (h1 : it ∈ X.ex ∨ X.s_0.heap.objs.size ≤ it) (h2 : ∀ x c, X.env.cells.lookup x = some c → c ≠ it) (h3 : ∀ p ∈ X.pn ++ pins, p.1 ≠ it) : Inv X pins σ H { s with heap := h', toks := t' } := by
  have nit : ∀ b u, H b = some u → b ≠ it := fun b u e z => by rw [z, hn] at e; cases e
  refine I.step (g' := s.gens) (d' := s.drawn) (ch := [it]) (fun b hb => ?_) (fun b o _ _ hc e _ => k b o (fun z => hc (by simp [z])) e) (fun b o _ _ hc e _ => ⟨o.slots, k b o (fun z => hc (by simp [z])) e⟩) (fun _ _ _ _ n => n)
    (fun b o hc e => ⟨o, k b o (fun z => hc (by simp [z])) e⟩) (fun _ _ e => e) (fun _ _ _ e => e) (fun b ps e => ⟨#[], by rw [e]; simp⟩) (fun m hm => ?_) (fun b u e => ?_) I.bare
  · have e : b = it := by simpa using hb
    subst e
    exact ⟨h1, hL, h2, h3⟩
  · obtain ⟨o, es, ep, ho, r⟩ := hm
    exact ⟨o, es, ep, k _ o (Ne.symm hL) ho, r⟩
  · refine (I.hok b u e).stay (fun c v hc q => k c v ?_ q) (fun _ q => q) fun _ _ q => q
    rcases hc with z | z
    · rw [z]; exact nit b u e
    · exact nit c _ z
theorem Inv.tok (I : Inv X pins σ H s) (t : Nat) : Inv X pins σ H { s with toks := t } := I.un (h' := s.heap) (t' := t) Un.refl I.hok
theorem Inv.kept {t' : Nat} (I : Inv X pins σ H s) (k : ∀ b u, s.heap.get? b = some u → h'.get? b = some u) : Inv X pins σ H { s with heap := h', toks := t' } := I.un (Un.kept k) (I.hok.kept k)
theorem Inv.laid {a : Addr} {o : HO} {t' : Nat} (I : Inv X pins σ H s) (k : ∀ b u, s.heap.get? b = some u → h'.get? b = some u) (hp : s.heap.objs.size ≤ a) (new : W1 X.prog X.w (upd H a o) h' a o) :
    Inv X pins σ (upd H a o) { s with heap := h', toks := t' } := I.un (Un.laid k hp (I.hok.fresh hp)) (I.hok.laid k hp new)
theorem Inv.write {x e : Addr} {o : HO} {t' : Nat} (I : Inv X pins σ H s) (mu : Mut (H x)) (he : e = x ∨ H e = some (.own x)) (k : ∀ b u, b ≠ e → s.heap.get? b = some u → h'.get? b = some u) (heo : ∃ u, h'.get? e = some u)
    (new : W1 X.prog X.w (upd H x o) h' x o) : Inv X pins σ (upd H x o) { s with heap := h', toks := t' } := I.un (Un.write mu he k heo) (I.hok.write mu he k heo new)
theorem Inv.weak {σ' : List (Option V)} (I : Inv X pins σ H s) (hl : σ'.length = σ.length) (w : ∀ (i : Nat) v, σ'[i]? = some (some v) → σ[i]? = some (some v)) : Inv X pins σ' H s :=
  ⟨I.ok, I.os, I.bare, I.base, let ⟨m, hn, hl'⟩ := I.loc; ⟨m, hn, fun i x v e1 e2 e3 => hl' i x v e1 (w i v e2) e3⟩, I.cell, I.free, I.freeC, I.pin, I.hok, hl.trans I.len⟩
theorem Inv.pins_of {pins' : List (Addr × Obj)} (I : Inv X pins σ H s) (h : ∀ p ∈ pins', s.heap.get? p.1 = some p.2 ∧ H p.1 = none ∧ p.1 ≠ X.env.locals ∧ p.1 ∉ X.fs ∧ ∀ v, p.2.data ≠ .cell v) : Inv X pins' σ H s :=
  ⟨I.ok, I.os, I.bare, I.base, I.loc, I.cell, I.free, I.freeC, fun p hp => (List.mem_append.mp hp).elim (fun z => I.pin p (List.mem_append_left _ z)) (h p), I.hok, I.len⟩
theorem L5 {N : List Str} (hN : N.Nodup) {i j : Nat} {x : Str} (a : N[i]? = some x) (b : N[j]? = some x) : i = j := by
  obtain ⟨h1, e1⟩ := List.getElem?_eq_some_iff.mp a
  obtain ⟨h2, e2⟩ := List.getElem?_eq_some_iff.mp b
  exact (List.getElem_inj hN).mp (e1.trans e2.symm)
theorem B9 {M : Model} {A : Around} {E : Value → Shared → Prop} {i : Nat} {x : Str} {v : V} {u : Value} {Q : Unit → Shared → Prop} (I : Inv X pins σ H s) (hN : X.N.Nodup) (hi : X.N[i]? = some x) (hx : Loc X.env.scope x) (r : Q0 v u)
    (h : ∀ s', Inv X pins (σ.set i (some v)) H s' → (∃ a, Heap.SameBut a s.heap s'.heap ∧ (a = X.env.locals ∨ X.env.cells.lookup x = some a)) → Q () s') (hf : X.fn x = true ∨ X.env.scope.names.lookup x = some .local := by first | exact .inl rfl | exact .inr rfl | assumption) : wpAny M A (storeName X.env x u) Q E s := by
  obtain ⟨m, hn, hl⟩ := id I.loc
  have hcls : (X.env.scope.kind == .class || (X.env.scope.kind == .module && X.env.locals != X.env.globals)) = false := by rw [I.ok.kind]; rfl
  have hiσ : i < σ.length := by rw [I.len]; exact (List.getElem?_eq_some_iff.mp hi).1
  have cne := I.cne
  have tracked : ∀ {a : Addr} {h' : Heap}, (∃ o, s.heap.get? a = some o ∧ H a = none) → Heap.SameBut a s.heap h' → HOk X.prog X.w H h' := fun {a h'} ha hs b ob e => by
    obtain ⟨_, _, hfree⟩ := ha
    refine (I.hok b ob e).stay (fun c w' hc q => (hs.2 c ?_).trans q) (fun _ q => q) fun _ _ q => q
    rintro rfl
    rcases hc with rfl | hc
    · rw [hfree] at e; cases e
    · rw [hfree] at hc; cases hc
  rcases hx with hk | hk
  · refine wpAny_storeName_local hk hn (fun h' hn' hs => ?_) hcls
    obtain ⟨oL, _, _, hoL, _⟩ := id hn
    refine h _ ⟨I.ok, I.os, I.bare, ⟨fun b o e n hb hx => ?_, fun b o e n hb hx => ?_, I.base.free, fun b o e hx => ?_, I.base.tups, I.base.frzs, I.base.tbls⟩, ⟨_, hn', fun j y v' e1 e2 e3 => ?_⟩, fun y c e => ?_, I.free, I.freeC, fun p hp => ?_, tracked ⟨oL, hoL, I.free⟩ hs, by simpa using I.len⟩ ⟨_, hs, .inl rfl⟩
    · exact (hs.2 b (Nat.ne_of_lt (Nat.lt_of_lt_of_le (Heap.lt_size e) I.ok.above))).trans (I.base.keep b o e n hb hx)
    · obtain ⟨sl, e1⟩ := I.base.slot b o e n hb hx
      exact ⟨sl, (hs.2 b (Nat.ne_of_lt (Nat.lt_of_lt_of_le (Heap.lt_size e) I.ok.above))).trans e1⟩
    · obtain ⟨o', e1⟩ := I.base.there b o e hx
      exact ⟨o', (hs.2 b (Nat.ne_of_lt (Nat.lt_of_lt_of_le (Heap.lt_size e) I.ok.above))).trans e1⟩
    · by_cases hj : j = i
      · subst hj
        rw [hi] at e1; cases e1
        rw [List.getElem?_set_self hiσ] at e2
        cases e2
        exact ⟨u, r, .inl ⟨hk, by simp⟩⟩
      · rw [List.getElem?_set_ne (Ne.symm hj)] at e2
        obtain ⟨u', r', q⟩ := hl j y v' e1 e2 e3
        refine ⟨u', r', ?_⟩
        rcases q with ⟨k, e⟩ | ⟨k, c, e, z⟩
        · refine .inl ⟨k, ?_⟩
          have : y ≠ x := fun e => hj (L5 hN e1 (e ▸ hi))
          simp [this, e]
        · exact .inr ⟨k, c, e, z.sameBut hs (cne y c e)⟩
    · obtain ⟨w', z⟩ := I.cell y c e
      exact ⟨w', z.sameBut hs (cne y c e)⟩
    · obtain ⟨e, n, ne, nf, d⟩ := I.pin p hp
      exact ⟨(hs.2 p.1 ne).trans e, n, ne, nf, d⟩
  · have hfn : X.fn x = true := by
      rcases hf with z | z
      · exact z
      · rw [z] at hk; cases hk
    obtain ⟨c, hc⟩ := I.ok.has x (.inl hk)
    obtain ⟨w', z⟩ := I.cell x c hc
    refine wpAny_storeName_cell I.ok.kind hk hc z (fun h' hc' hs => ?_)
    obtain ⟨oc, hoc, hocd⟩ := id z
    refine h { s with heap := h' } ⟨I.ok, I.os, I.bare, ⟨fun b o e n hb hx => ?_, fun b o e n hb hx => ?_, I.base.free, fun b o e hx => ?_, I.base.tups, I.base.frzs, I.base.tbls⟩, ⟨m, hn.sameBut hs (Ne.symm (cne x c hc)), fun j y v' e1 e2 e3 => ?_⟩, fun y c' e => ?_, I.free, I.freeC, fun p hp => ?_, tracked ⟨oc, hoc, I.freeC x c hc⟩ hs, by simpa using I.len⟩ ⟨c, hs, .inr hc⟩
    · exact (hs.2 b (Nat.ne_of_lt (Nat.lt_of_lt_of_le (Heap.lt_size e) (I.ok.cab x c hfn hc)))).trans (I.base.keep b o e n hb hx)
    · obtain ⟨sl, e1⟩ := I.base.slot b o e n hb hx
      exact ⟨sl, (hs.2 b (Nat.ne_of_lt (Nat.lt_of_lt_of_le (Heap.lt_size e) (I.ok.cab x c hfn hc)))).trans e1⟩
    · obtain ⟨o', e1⟩ := I.base.there b o e hx
      exact ⟨o', (hs.2 b (Nat.ne_of_lt (Nat.lt_of_lt_of_le (Heap.lt_size e) (I.ok.cab x c hfn hc)))).trans e1⟩
    · by_cases hj : j = i
      · subst hj
        rw [hi] at e1; cases e1
        rw [List.getElem?_set_self hiσ] at e2
        cases e2
        exact ⟨u, r, .inr ⟨.inl hk, c, hc, hc'⟩⟩
      · rw [List.getElem?_set_ne (Ne.symm hj)] at e2
        obtain ⟨u', r', q⟩ := hl j y v' e1 e2 e3
        refine ⟨u', r', ?_⟩
        rcases q with q | ⟨k, c', e, z'⟩
        · exact .inl q
        · refine .inr ⟨k, c', e, z'.sameBut hs ?_⟩
          rintro rfl
          exact hj (L5 hN e1 (I.ok.inj _ _ _ e hc ▸ hi))
    · by_cases hcc : c' = c
      · subst hcc; exact ⟨_, hc'⟩
      · obtain ⟨w2, z2⟩ := I.cell y c' e
        exact ⟨w2, z2.sameBut hs hcc⟩
    · obtain ⟨e, n, ne, nf, d⟩ := I.pin p hp
      refine ⟨(hs.2 p.1 ?_).trans e, n, ne, nf, d⟩
      intro q
      rw [q, hoc] at e
      have q' : oc = p.2 := Option.some.inj e
      exact d w' (by rw [← q']; exact hocd)
theorem C9 {M : Model} {A : Around} {E : Value → Shared → Prop} {i : Nat} {x : Str} {v : V} {u : Value} {Q : Unit → Shared → Prop} (I : Inv X pins σ H s) (hN : X.N.Nodup) (hi : X.N[i]? = some x) (hx : Loc X.env.scope x) (r : Q0 v u)
    (h : ∀ s', Inv X pins (σ.set i (some v)) H s' → Q () s') (hf : X.fn x = true ∨ X.env.scope.names.lookup x = some .local := by first | exact .inl rfl | exact .inr rfl | assumption) : wpAny M A (storeName X.env x u) Q E s :=
  B9 I hN hi hx r (fun s' I' _ => h s' I') hf
theorem Inv.call' {s' : Shared} {ch : List Addr} (I : Inv X pins σ H s) (ho : s'.os = s.os) (u : Un (frs X.stack) ch H H' s.heap s'.heap) (hok : HOk X.prog X.w H' s'.heap) (hg : AllBare s'.gens)
    (hch : ∀ b ∈ ch, (b ∈ X.ex ∨ X.s_0.heap.objs.size ≤ b) ∧ b ≠ X.env.locals ∧ (∀ x c, X.env.cells.lookup x = some c → c ≠ b) ∧ ∀ p ∈ X.pn ++ pins, p.1 ≠ b) : Inv X pins σ H' s' := by
  obtain ⟨h', g', d', t', o'⟩ := s'
  have e : o' = s.os := ho
  subst e
  exact I.call (g' := g') (t' := t') (d' := d') u hok hg hch
end
abbrev XK := Value → Option Addr → Hp → Prop
abbrev St := List (Option V)
abbrev VK := V → Hp → Prop
abbrev TE := St → Hp → VK → Prop
abbrev TT := St → Hp → (Bool → Hp → Prop) → Prop
abbrev TA := St → Hp → (List V → Hp → Prop) → Prop
structure Ends where
  nx : St → Hp → Prop
  rt : VK
  bk : St → Hp → Prop := fun _ _ => False
  ct : St → Hp → Prop := fun _ _ => False
abbrev TS := Ends → St → Hp → Prop
def EP (X : Cx) (pins : List (Addr × Obj)) (σ : St) (Q : VK) (u : Value) (s' : Shared) : Prop := ∃ v H', Inv X pins σ H' s' ∧ Q0 v u ∧ Q v H'
def TP (X : Cx) (pins : List (Addr × Obj)) (σ : St) (Q : Bool → Hp → Prop) (b : Bool) (s' : Shared) : Prop := ∃ H', Inv X pins σ H' s' ∧ Q b H'
def AP (X : Cx) (pins : List (Addr × Obj)) (σ : St) (Q : List V → Hp → Prop) (us : List Value) (s' : Shared) : Prop := ∃ vs H', Inv X pins σ H' s' ∧ M0 vs us ∧ Q vs H'
def SP (X : Cx) (pins : List (Addr × Obj)) (D : Ends) (f : Flow) (s' : Shared) : Prop :=
  match f with
  | .next => ∃ σ' H', Inv X pins σ' H' s' ∧ D.nx σ' H'
  | .brk => ∃ σ' H', Inv X pins σ' H' s' ∧ D.bk σ' H'
  | .cont => ∃ σ' H', Inv X pins σ' H' s' ∧ D.ct σ' H'
  | .ret u => ∃ v σ' H', Inv X pins σ' H' s' ∧ Q0 v u ∧ D.rt v H'
def PE (X : Cx) (e : Expr) (t : TE) : Prop :=
  ∀ (pins : List (Addr × Obj)) (s : Shared) (σ : St) (H : Hp) (Q : VK), Inv X pins σ H s → t σ H Q → wpAny (model X.prog X.w) X.A (eval e X.env) (EP X pins σ Q) X.xe s
def PT (X : Cx) (e : Expr) (t : TT) : Prop :=
  ∀ (pins : List (Addr × Obj)) (s : Shared) (σ : St) (H : Hp) (Q : Bool → Hp → Prop), Inv X pins σ H s → t σ H Q → wpAny (model X.prog X.w) X.A (isTrue e X.env (eval e X.env)) (TP X pins σ Q) X.xe s
def PW (X : Cx) (e : Expr) (t : TT) : Prop :=
  ∀ (whole : Sem Value) (pins : List (Addr × Obj)) (s : Shared) (σ : St) (H : Hp) (Q : Bool → Hp → Prop), Inv X pins σ H s → t σ H Q → wpAny (model X.prog X.w) X.A (isTrue e X.env whole) (TP X pins σ Q) X.xe s
theorem PW.pt {X : Cx} {e : Expr} {t : TT} (h : PW X e t) : PT X e t := h _
def PA (X : Cx) (es : List Expr) (t : TA) : Prop :=
  ∀ (pos : Pos) (pins : List (Addr × Obj)) (s : Shared) (σ : St) (H : Hp) (Q : List V → Hp → Prop), Inv X pins σ H s → t σ H Q → wpAny (model X.prog X.w) X.A (spliced (backTo pos (starEach es X.env))) (AP X pins σ Q) X.xe s
def PS (X : Cx) (st : Stmt) (t : TS) : Prop :=
  ∀ (pins : List (Addr × Obj)) (s : Shared) (σ : St) (H : Hp) (D : Ends), Inv X pins σ H s → t D σ H → wpAny (model X.prog X.w) X.A (exec st X.env) (SP X pins D) X.xe s
def PSs (X : Cx) (st : List Stmt) (t : TS) : Prop :=
  ∀ (pins : List (Addr × Obj)) (s : Shared) (σ : St) (H : Hp) (D : Ends), Inv X pins σ H s → t D σ H → wpAny (model X.prog X.w) X.A (execs st X.env) (SP X pins D) X.xe s
theorem thn {α : Type} {t : Sem α} {Q Q' : α → Shared → Prop} {M : Model} {A : Around} {E : Value → Shared → Prop} {s : Shared} (h : wpAny M A t Q E s) (hQ : ∀ a s, Q a s → Q' a s) : wpAny M A t Q' E s := wpAny_mono h hQ fun _ _ x => x
end L2
namespace L2
open PySem PySem.Spec PyProof.Rows
section
variable {X : Cx}
def w9 (i : Nat) : TE := fun σ H Q => ∃ v, σ[i]? = some (some v) ∧ Q v H
def tC (v : V) : TE := fun _ H Q => Q v H
theorem zR4 {i : Nat} {x : Str} {pos : Pos} (hN : X.N[i]? = some x) (hv : Vis X.env.scope x) (hd : (x == ("__debug__" : Str)) = false := by decide) (hcd : (x == ("__classdict__" : Str)) = false := by decide) : PE X (.Name x pos) (w9 i) := by
  intro pins s σ H Q I h
  obtain ⟨v, e, h⟩ := h
  obtain ⟨m, hn, hl⟩ := I.loc
  obtain ⟨u, r, l⟩ := hl i x v hN e hv
  have fin : EP X pins σ Q u s := ⟨v, H, I, r, h⟩
  rcases l with ⟨hk, hm⟩ | ⟨hk, c, hc, hcell⟩
  · exact wpAny_Name (wpAny_loadName_local I.ok.kind hk hn hm fin) hd
  · rcases hk with hk | hk
    · exact wpAny_Name (wpAny_loadName_cell I.ok.kind hk hc hcell fin) hd
    · exact wpAny_Name (wpAny_loadName_free I.ok.kind hk hc hcell fin hcd) hd
theorem pe_int {i j pos} : PE X (.Constant (.int i) j pos) (tC (.int i)) := fun _ _ _ H _ I h => wpAny_Constant_int ⟨.int i, H, I.tok _, ⟨_, rfl⟩, h⟩
theorem O3 {b j pos} : PE X (.Constant (.bool b) j pos) (tC (.bl b)) := fun _ _ _ H _ I h => Constant_bool ⟨.bl b, H, I, rfl, h⟩
theorem k6 {j pos} : PE X (.Constant .none j pos) (tC .non) := fun _ _ _ H _ I h => Constant_none ⟨.non, H, I, rfl, h⟩
def Gl (X : Cx) (x : Str) : Prop := X.env.kindOf x = some .globalImplicit
theorem F8 {E : Value → Shared → Prop} {pins : List (Addr × Obj)} {s : Shared} {σ : St} {H : Hp} {x : Str} {u : Value} {pos : Pos} {Q : Value → Shared → Prop} (I : Inv X pins σ H s) (hg : Gl X x) (hm : X.mg x = some u) (h : Q u s)
    (hd : (x == ("__debug__" : Str)) = false := by decide) : wpAny (model X.prog X.w) X.A (eval (.Name x pos) X.env) Q E s :=
  Calls.Name_function_global I.ok.kind hg (Calls.loadGlobal_global (by rw [I.ok.glob]; exact I.mod.glob.keeps I.bk) hm h) hd
theorem d5 {E : Value → Shared → Prop} {pins : List (Addr × Obj)} {s : Shared} {σ : St} {H : Hp} {x : Str} {u : Value} {pos : Pos} {Q : Value → Shared → Prop} (I : Inv X pins σ H s) (hg : Gl X x) (hm : X.mg x = none) (hv : bootBuiltins x = some u) (h : Q u s)
    (hn : x ≠ "__name__" := by decide) (hd : (x == ("__debug__" : Str)) = false := by decide) : wpAny (model X.prog X.w) X.A (eval (.Name x pos) X.env) Q E s := by
  obtain ⟨mb, h1, h2⟩ := I.mod.blt
  exact Calls.Name_function_global I.ok.kind hg (Calls.loadGlobal_builtin (by rw [I.ok.glob]; exact I.mod.glob.keeps I.bk) hm (by rw [I.ok.blt]; exact h1.keeps I.bk) ((h2 x hn).trans hv) h) hd
theorem zi6 {x : Str} {v : V} {u : Value} {pos : Pos} (hg : Gl X x) (hm : X.mg x = some u) (r : Q0 v u) (hd : (x == ("__debug__" : Str)) = false := by decide) : PE X (.Name x pos) (tC v) :=
  fun _ _ _ H _ I h => F8 I hg hm ⟨v, H, I, r, h⟩ hd
variable {a b : Expr} {ta tb : TE} {pos : Pos}
def tB (t : TE) : TT := fun σ H Q => t σ H fun x H1 => ∃ c, x = .bl c ∧ Q c H1
theorem X0 {e : Expr} {t : TE} (h : PE X e t) (he : ∀ whole, isTrue e X.env whole = (do let v ← whole; standAt e.pos; holding [v] (truthy v)) := by intro _; rfl) : PT X e (tB t) := by
  intro pins s σ H Q I hw
  refine isTrue_plain (thn (h pins s σ H _ I hw) fun v s1 ⟨x, H1, I1, r1, q1⟩ => ?_) (he _)
  obtain ⟨d, rfl, q⟩ := q1
  cases r1
  exact wpAny_truthy_bool ⟨H1, I1, q⟩
variable {tA tB' : TT} {rest : List Expr}
def zx5 (t u : TT) : TT := fun σ H Q => t σ H fun c H1 => if c = true then u σ H1 Q else Q false H1
def tOr (t u : TT) : TT := fun σ H Q => t σ H fun c H1 => if c = true then Q true H1 else u σ H1 Q
def zw3 (t : TT) : TT := fun σ H Q => t σ H fun c H1 => Q (!c) H1
theorem c8 (ha : PT X a tA) : PW X (.BoolOp .And [a] pos) tA := by
  intro wh pins s σ H Q I h
  refine isTrue_and (thn (ha pins s σ H Q I h) fun c s1 e => ?_)
  cases c with
  | true => exact isTrue_and_nil e
  | false => exact e
theorem j3 (ha : PT X a tA) : PW X (.BoolOp .Or [a] pos) tA := by
  intro wh pins s σ H Q I h
  refine isTrue_or (thn (ha pins s σ H Q I h) fun c s1 e => ?_)
  cases c with
  | false => exact isTrue_or_nil e
  | true => exact e
theorem T6 (ha : PT X a tA) (hb : PW X (.BoolOp .And (b :: rest) pos) tB') : PW X (.BoolOp .And (a :: b :: rest) pos) (zx5 tA tB') := by
  intro wh pins s σ H Q I h
  refine isTrue_and (thn (ha pins s σ H _ I h) fun c s1 ⟨H1, I1, q1⟩ => ?_)
  cases c with
  | true => exact hb wh pins s1 σ H1 Q I1 q1
  | false => exact ⟨H1, I1, q1⟩
theorem M2 (ha : PT X a tA) (hb : PW X (.BoolOp .Or (b :: rest) pos) tB') : PW X (.BoolOp .Or (a :: b :: rest) pos) (tOr tA tB') := by
  intro wh pins s σ H Q I h
  refine isTrue_or (thn (ha pins s σ H _ I h) fun c s1 ⟨H1, I1, q1⟩ => ?_)
  cases c with
  | true => exact ⟨H1, I1, q1⟩
  | false => exact hb wh pins s1 σ H1 Q I1 q1
theorem N1 (ha : PT X a tA) : PT X (.UnaryOp .Not a pos) (zw3 tA) := by
  intro pins s σ H Q I h
  exact isTrue_not (ha pins s σ H (fun c H1 => Q (!c) H1) I h)
def zx4 (ta tb : TE) : TE := fun σ H Q => ta σ H fun x H1 => ∃ c, x = .bl c ∧ if c = true then tb σ H1 Q else Q (.bl false) H1
def zw2 (ta : TE) : TE := fun σ H Q => ta σ H fun x H1 => ∃ c, x = .bl c ∧ Q (.bl (!c)) H1
theorem i8 {op} {t : TE} (h : PE X a t) : PE X (.BoolOp op [a] pos) t := fun pins s σ H Q I hw => BoolOp_one (h pins s σ H Q I hw)
theorem j8 (ha : PE X a ta) (hb : PE X (.BoolOp .And (b :: rest) pos) tb) : PE X (.BoolOp .And (a :: b :: rest) pos) (zx4 ta tb) := by
  intro pins s σ H Q I h
  refine BoolOp_and (thn (ha pins s σ H _ I h) fun v s1 ⟨x, H1, I1, r1, q1⟩ => ?_)
  obtain ⟨c, rfl, q1⟩ := q1
  cases r1
  refine wpAny_truthy_bool ?_
  cases c with
  | true => exact hb pins s1 σ H1 Q I1 q1
  | false => exact ⟨.bl false, H1, I1, rfl, q1⟩
theorem zR7 (ha : PE X a ta) : PE X (.UnaryOp .Not a pos) (zw2 ta) := by
  intro pins s σ H Q I h
  refine UnaryOp_ (thn (ha pins s σ H _ I h) fun v s1 ⟨x, H1, I1, r1, q1⟩ => ?_)
  obtain ⟨c, rfl, q1⟩ := q1
  cases r1
  exact not_of (wpAny_truthy_bool ⟨.bl (!c), H1, I1, rfl, q1⟩)
end
end L2
namespace L2
open PySem PySem.Spec PyProof.Rows
def SqL (K : PySem.W.Frag) (H : Hp) (a : Addr) (xs : List V) : Prop :=
  Rd H a (.lst xs) ∨
    ∃ (o : Obj) (its : Array Value) (n : Nat), K.lookup a = some o ∧ o.cls = .type "list" ∧ o.dict = none ∧ o.data = .seq its n ∧ its.size ≤ sizeLine ∧ M0 xs its.toList
def SqT (K : PySem.W.Frag) (H : Hp) (a : Addr) (xs : List V) : Prop :=
  Rd H a (.tup xs) ∨
    ∃ (o : Obj) (its : Array Value) (n : Nat), K.lookup a = some o ∧ o.cls = .type "tuple" ∧ o.data = .seq its n ∧ its.size ≤ sizeLine ∧ M0 xs its.toList
def qj8 : Value → Option V
  | .none => some .non
  | .bool b => some (.bl b)
  | .int i _ => some (.int i)
  | .str x _ => some (.str x)
  | .bytes b _ => some (.byt b)
  | .float b _ => some (.flt b)
  | .ref a => some (.ref a)
  | .type n => some (.ty n)
  | _ => none
theorem Q0.abs {x : V} {u : Value} (r : Q0 x u) : qj8 u = some x := by
  cases x with
  | non => cases r; rfl
  | bl _ => cases r; rfl
  | int _ => obtain ⟨t, rfl⟩ := r; rfl
  | str _ => obtain ⟨t, rfl⟩ := r; rfl
  | byt _ => obtain ⟨t, rfl⟩ := r; rfl
  | flt _ => obtain ⟨t, rfl⟩ := r; rfl
  | ref _ => cases r; rfl
  | ty _ => cases r; rfl
theorem Q0.inj {x y : V} {u : Value} (r : Q0 x u) (q : Q0 y u) : x = y := Option.some.inj (r.abs.symm.trans q.abs)
theorem M0.inj : ∀ {xs ys : List V} {us : List Value}, M0 xs us → M0 ys us → xs = ys
  | _, _, _, .nil, .nil => rfl
  | _, _, _, .cons r t, .cons r' t' => by rw [r.inj r', M0.inj t t']
section
variable {X : Cx} {pins : List (Addr × Obj)} {σ : St} {H : Hp} {s : Shared} {a : Addr} {xs ys : List V}
theorem SqL.of {K : PySem.W.Frag} (h : H a = some (.lst xs)) : SqL K H a xs := .inl (.inl h)
theorem SqT.of {K : PySem.W.Frag} (h : H a = some (.tup xs)) : SqT K H a xs := .inl (.inl h)
theorem Inv.list (I : Inv X pins σ H s) (h : SqL X.K H a xs) : ∃ its : List Value, M0 xs its ∧ PlainL s.heap a its.toArray ∧ xs.length ≤ sizeLine := by
  rcases h with h | ⟨o, its, n, hk, hc, hd, hs, hz, r⟩
  · obtain ⟨z, its, n, r, e⟩ := h.ok I.hok
    exact ⟨its, r, ⟨_, n, e, rfl, rfl, rfl⟩, z⟩
  · refine ⟨its.toList, r, ⟨o, n, I.kIn a o hk, hc, hd, by simpa using hs⟩, ?_⟩
    have e := r.length
    simp only [Array.length_toList] at e
    omega
theorem Inv.tuple (I : Inv X pins σ H s) (h : SqT X.K H a xs) : ∃ its : List Value, M0 xs its ∧ IsTup s.heap a its.toArray ∧ xs.length ≤ sizeLine := by
  rcases h with h | ⟨o, its, n, hk, hc, hs, hz, r⟩
  · obtain ⟨z, its, r, p⟩ := h.ok I.hok
    exact ⟨its, r, p.tup, z⟩
  · refine ⟨its.toList, r, ⟨o, I.kIn a o hk, hc, n, by simpa using hs⟩, ?_⟩
    have e := r.length
    simp only [Array.length_toList] at e
    omega
theorem Inv.list_inj (I : Inv X pins σ H s) (h : SqL X.K H a xs) (h' : SqL X.K H a ys) : xs = ys := by
  obtain ⟨its, r, ⟨o, n, e, _, _, d⟩, _⟩ := I.list h
  obtain ⟨its', r', ⟨o', n', e', _, _, d'⟩, _⟩ := I.list h'
  rw [e] at e'; cases e'
  rw [d] at d'
  injection d' with d1 _
  have : its = its' := by simpa using congrArg Array.toList d1
  subst this
  exact r.inj r'
theorem Inv.tuple_inj (I : Inv X pins σ H s) (h : SqT X.K H a xs) (h' : SqT X.K H a ys) : xs = ys := by
  obtain ⟨its, r, ⟨o, e, _, n, d⟩, _⟩ := I.tuple h
  obtain ⟨its', r', ⟨o', e', _, n', d'⟩, _⟩ := I.tuple h'
  rw [e] at e'; cases e'
  rw [d] at d'
  injection d' with d1 _
  have : its = its' := by simpa using congrArg Array.toList d1
  subst this
  exact r.inj r'
end
abbrev Cx.wish (X : Cx) (E : Value → Shared → Prop) : Cx := { X with xe := E }
abbrev Cx.nox (X : Cx) : Cx := X.wish fun _ _ => False
theorem Cx.Ok.wish {X : Cx} (ok : X.Ok) (E : Value → Shared → Prop) : (X.wish E).Ok :=
  ⟨ok.mod, ok.kind, ok.glob, ok.blt, ok.above, ok.inj, ok.has, ok.cab, ok.hd, ok.frames, ok.stk, ok.exf, ok.bs, ok.bsz, ok.noex, ok.exfs, ok.funs, ok.frf⟩
theorem Cx.Ok.unwish {X : Cx} {E : Value → Shared → Prop} (ok : (X.wish E).Ok) : X.Ok :=
  ⟨ok.mod, ok.kind, ok.glob, ok.blt, ok.above, ok.inj, ok.has, ok.cab, ok.hd, ok.frames, ok.stk, ok.exf, ok.bs, ok.bsz, ok.noex, ok.exfs, ok.funs, ok.frf⟩
section
variable {X : Cx} {pins : List (Addr × Obj)} {σ : St} {H : Hp} {s : Shared} {E : Value → Shared → Prop}
theorem Inv.wish (I : Inv X pins σ H s) (E : Value → Shared → Prop) : Inv (X.wish E) pins σ H s := ⟨I.ok.wish E, I.os, I.bare, I.base, I.loc, I.cell, I.free, I.freeC, I.pin, I.hok, I.len⟩
theorem Inv.unwish (I : Inv (X.wish E) pins σ H s) : Inv X pins σ H s := ⟨I.ok.unwish, I.os, I.bare, I.base, I.loc, I.cell, I.free, I.freeC, I.pin, I.hok, I.len⟩
theorem SP.unwish {D : Ends} {f : Flow} {s' : Shared} (h : SP (X.wish E) pins D f s') : SP X pins D f s' := by
  cases f with
  | next => obtain ⟨σ', H', I, q⟩ := h; exact ⟨σ', H', I.unwish, q⟩
  | brk => obtain ⟨σ', H', I, q⟩ := h; exact ⟨σ', H', I.unwish, q⟩
  | cont => obtain ⟨σ', H', I, q⟩ := h; exact ⟨σ', H', I.unwish, q⟩
  | ret u => obtain ⟨v, σ', H', I, r, q⟩ := h; exact ⟨v, σ', H', I.unwish, r, q⟩
theorem PSs.nox {st : List Stmt} {t : TS} (h : PSs X.nox st t) : PSs X st t := fun pins s σ H D I hw =>
  wpAny_mono (h pins s σ H D (I.wish _) hw) (fun _ _ q => q.unwish) fun _ _ z => False.elim z
end
section
variable {X : Cx} {st : Stmt} {rest : List Stmt} {t u : TS} {e : Expr} {te : TE} {pos : Pos}
def tNext : TS := fun D σ H => D.nx σ H
def zv9 (t u : TS) : TS := fun D σ H => t { D with nx := u D } σ H
theorem C0 : PSs X [] tNext := fun _ _ σ H _ I h => wpAny_execs_nil ⟨σ, H, I, h⟩
theorem j0 (h1 : PS X st t) (h2 : PSs X rest u) : PSs X (st :: rest) (zv9 t u) := by
  intro pins s σ H D I h
  refine wpAny_execs_cons (thn (h1 pins s σ H { D with nx := u D } I h) fun f s1 q => ?_)
  cases f with
  | next =>
    obtain ⟨σ', H', I', q⟩ := q
    exact h2 pins s1 σ' H' D I' q
  | ret v => exact q
  | brk => exact q
  | cont => exact q
theorem g0 (h1 : PS X st t) : PSs X [st] t := by
  intro pins s σ H D I h
  refine wpAny_execs_cons (thn (h1 pins s σ H D I h) fun f s1 q => ?_)
  cases f with
  | next => exact wpAny_execs_nil q
  | ret v => exact q
  | brk => exact q
  | cont => exact q
theorem Inv.quiet {pins : List (Addr × Obj)} {σ : St} {H : Hp} {s : Shared} (I : Inv X pins σ H s) : interactive X.env = false := by simp [interactive, I.ok.kind]
def zx0 (te : TE) : TS := fun D σ H => te σ H fun _ H1 => D.nx σ H1
theorem Q1 (he : PE X e te) (hs : swapsWith e none pos.line X.env = pure false := by rfl) : PS X (.Expr e pos) (zx0 te) := by
  intro pins s σ H D I h
  exact wpAny_Expr_any (thn (he pins s σ H _ I h) fun v s1 ⟨x, H1, I1, r1, q1⟩ => ⟨σ, H1, I1, q1⟩) I.quiet hs
def zw0 (te : TE) : TS := fun D σ H => te σ H D.rt
theorem n0 (he : PE X e te) : PS X (.Return (some e) pos) (zw0 te) := by
  intro pins s σ H D I h
  exact wpAny_Return_some (thn (he pins s σ H _ I h) fun v s1 ⟨x, H1, I1, r1, q1⟩ => ⟨x, σ, H1, I1, r1, q1⟩)
def zw8 (c : TT) (t u : TS) : TS := fun D σ H => c σ H fun b H1 => if b = true then t D σ H1 else u D σ H1
theorem B0 {c : Expr} {a b : List Stmt} {tc : TT} (hc : PT X c tc) (ha : PSs X a t) (hb : PSs X b u) : PS X (.If c a b pos) (zw8 tc t u) := by
  intro pins s σ H D I h
  refine wpAny_If (thn (hc pins s σ H _ I h) fun d s1 ⟨H1, I1, q1⟩ => ?_)
  cases d with
  | true => exact ha pins s1 σ H1 D I1 q1
  | false => exact hb pins s1 σ H1 D I1 q1
end
abbrev TG := V → St → Hp → (St → Hp → Prop) → Prop
def PG (X : Cx) (target : Expr) (t : TG) : Prop :=
  ∀ (pins : List (Addr × Obj)) (s : Shared) (σ : St) (H : Hp) (v : V) (u : Value) (Q : St → Hp → Prop), Inv X pins σ H s → Q0 v u → t v σ H Q →
    wpAny (model X.prog X.w) X.A (assign target X.env u) (fun _ s' => ∃ σ' H', Inv X pins σ' H' s' ∧ Q σ' H') X.xe s
abbrev TSet := V → V → V → Hp → (Hp → Prop) → Prop
def zu1 (X : Cx) (t : TSet) : Prop :=
  ∀ (pins : List (Addr × Obj)) (s : Shared) (σ : St) (H : Hp) (o i v : V) (ov iv u : Value) (Q : Hp → Prop), Inv X pins σ H s → Q0 o ov → Q0 i iv → Q0 v u → t o i v H Q →
    wpAny (model X.prog X.w) X.A (setItem ov iv u) (fun _ s' => ∃ H', Inv X pins σ H' s' ∧ Q H') X.xe s
section
variable {X : Cx} {pos : Pos}
def B7 (i : Nat) : TG := fun v σ H Q => Q (σ.set i (some v)) H
theorem O1 {i : Nat} {x : Str} (hN : X.N.Nodup) (hi : X.N[i]? = some x) (hx : Loc X.env.scope x) (hf : X.fn x = true ∨ X.env.scope.names.lookup x = some .local := by first | exact .inl rfl | exact .inr rfl | assumption) : PG X (.Name x pos) (B7 i) := by
  intro pins s σ H v u Q I r h
  exact wpAny_assign_Name (C9 I hN hi hx r (fun s' I' => ⟨_, H, I', h⟩) hf)
def qe8 (to ti : TE) (t : TSet) : TG := fun v σ H Q => to σ H fun o H1 => ti σ H1 fun i H2 => t o i v H2 fun H3 => Q σ H3
theorem i4 {o i : Expr} {to ti : TE} {t : TSet} (ho : PE X o to) (hi : PE X i ti) (hs : zu1 X t)
    (ha : ∀ v, assign (.Subscript o i pos) X.env v = (do
      let ov ← holding [v] (eval o X.env)
      let iv ← holding [v, ov] (eval i X.env)
      standAt pos
      holding [v, ov, iv] (setItem ov iv v)
      release [v, ov, iv] []) := by intro _; rfl) : PG X (.Subscript o i pos) (qe8 to ti t) := by
  intro pins s σ H v u Q I r h
  rw [ha]
  refine wpAny_bind (wpAny_holding (thn (ho pins s σ H _ I h) fun ov s1 ⟨x, H1, I1, r1, q1⟩ => ?_))
  refine wpAny_bind (wpAny_holding (thn (hi pins s1 σ H1 _ I1 q1) fun iv s2 ⟨y, H2, I2, r2, q2⟩ => ?_))
  refine wpAny_bind (wpAny_standAt (wpAny_bind (wpAny_holding (thn (hs pins s2 σ H2 x y v ov iv u _ I2 r1 r2 r q2) fun _ s3 ⟨H3, I3, q3⟩ => ?_))))
  exact wpAny_release ⟨σ, H3, I3, q3⟩
def T7 (te : TE) (g : TG) : TS := fun D σ H => te σ H fun x H1 => g x σ H1 D.nx
theorem d4 {tg e : Expr} {te : TE} {g : TG} (he : PE X e te) (hg : PG X tg g) (hs : swapsWithSole [tg] e pos.line X.env = pure false := by rfl) (hw : swappedStores [tg] e X.env = pure none := by rfl)
    (h1 : (assignEach [tg] X.env).map (·.2) = [assign tg X.env] := by rfl) : PS X (.Assign [tg] e pos) (T7 te g) := by
  intro pins s σ H D I h
  refine wpAny_Assign_stores (thn (he pins s σ H _ I h) fun v s1 ⟨x, H1, I1, r1, q1⟩ => ?_) hs hw
  rw [h1]
  exact thn (hg pins s1 σ H1 x v _ I1 r1 q1) fun _ s2 q => q
theorem T0 {i : Nat} {x : Str} {e : Expr} {te : TE} {pos' : Pos} (hN : X.N.Nodup) (hi : X.N[i]? = some x) (hx : Loc X.env.scope x) (he : PE X e te) (hs : swapsWith e (some (.Name x pos')) pos.line X.env = pure false := by rfl) (hf : X.fn x = true ∨ X.env.scope.names.lookup x = some .local := by first | exact .inl rfl | exact .inr rfl | assumption) :
    PS X (.Assign [.Name x pos'] e pos) (T7 te (B7 i)) := by
  intro pins s σ H D I h
  refine wpAny_Assign_Name (thn (he pins s σ H _ I h) fun v s1 ⟨y, H1, I1, r1, q1⟩ => ?_) hs
  exact C9 I1 hN hi hx r1 (fun s2 I2 => ⟨_, H1, I2, q1⟩) hf
end
section
variable {X : Cx} {pos : Pos}
def zv5 (c : TT) (tb : TS) : TS := fun D σ H => ∃ W : Nat → St → Hp → Prop, (∃ m, W m σ H) ∧ ∀ m σ H, W m σ H →
  c σ H fun b H1 => if b = true then ∃ N : St → Hp → Prop, (∀ σ' H', N σ' H' → ∃ m', m' < m ∧ W m' σ' H') ∧ tb { D with nx := N, ct := N, bk := D.nx } σ H1 else D.nx σ H1
theorem zh8 {c : Expr} {body : List Stmt} {tc : TT} {tb : TS} (hp : PassesOwn (model X.prog X.w) X.A X.env X.xe) (hc : PT X c tc) (hb : PSs X body tb) : PS X (.While c body [] pos) (zv5 tc tb) := by
  intro pins s σ H D I h
  obtain ⟨W, ⟨m0, w0⟩, turn⟩ := h
  refine wpAny_While (codeAny_whileLoop (fun n s' => ∃ σ' H', Inv X pins σ' H' s' ∧ W n σ' H') ?_ m0 ⟨σ, H, I, w0⟩)
  rintro n s1 ⟨σ1, H1, I1, w1⟩
  refine wpAny_passesOwn hp (thn (hc pins s1 σ1 H1 _ I1 (turn n σ1 H1 w1)) fun b s2 ⟨H2, I2, q2⟩ => ?_)
  cases b with
  | true =>
    obtain ⟨N, hN, q2⟩ := q2
    rw [if_pos rfl]
    refine wpAny_passesOwn hp (thn (hb pins s2 σ1 H2 _ I2 q2) fun f s3 q3 => ?_)
    cases f with
    | next =>
      obtain ⟨σ3, H3, I3, n3⟩ := q3
      obtain ⟨m', hm, w3⟩ := hN σ3 H3 n3
      exact ⟨m', hm, σ3, H3, I3, w3⟩
    | cont =>
      obtain ⟨σ3, H3, I3, n3⟩ := q3
      obtain ⟨m', hm, w3⟩ := hN σ3 H3 n3
      exact ⟨m', hm, σ3, H3, I3, w3⟩
    | brk => exact q3
    | ret v => exact q3
  | false =>
    rw [if_neg Bool.false_ne_true]
    exact wpAny_execs_nil ⟨σ1, H2, I2, q2⟩
end
structure It where
  go : Nat → Hp → Prop
  yld : Nat → Hp → V → Hp → Prop
  stop : Nat → Hp → Prop
def Y1 (X : Cx) (pins : List (Addr × Obj)) (H : Hp) (b : Addr) : Prop :=
  H b = none ∧ b ≠ X.env.locals ∧ b ∉ X.fs ∧ (b ∈ X.ex ∨ X.s_0.heap.objs.size ≤ b) ∧ (∀ x c, X.env.cells.lookup x = some c → c ≠ b) ∧ ∀ p ∈ X.pn ++ pins, p.1 ≠ b
theorem Inv.fpOk {X : Cx} {pins : List (Addr × Obj)} {σ : St} {H H' : Hp} {s : Shared} {b : Addr} (I : Inv X pins σ H s) (hb : s.heap.objs.size ≤ b) (hn : H' b = none) : Y1 X pins H' b := by
  refine ⟨hn, Nat.ne_of_gt (Nat.lt_of_lt_of_le I.lt hb), I.nofs hb, .inr (Nat.le_trans I.sz hb), fun x c e z => ?_, fun p hp z => ?_⟩
  · obtain ⟨v, q⟩ := I.cell x c e
    exact absurd (Nat.lt_of_lt_of_le q.lt (by rw [z]; exact hb)) (Nat.lt_irrefl _)
  · exact absurd (Nat.lt_of_lt_of_le (Heap.lt_size (I.pin p hp).1) (by rw [z]; exact hb)) (Nat.lt_irrefl _)
structure Turn (P : Program) (w : World) (K : PySem.W.Frag) (tg : Expr) (J : It) (fp : List Addr) (it : Addr) (tn : Nat → Heap → Prop) : Prop where
  mem : it ∈ fp
  obj : ∀ i h, tn i h → ∀ b ∈ fp, ∃ o, h.get? b = some o ∧ ∀ v, o.data ≠ .cell v
  keep : ∀ i h h', tn i h → (∀ b ∈ fp, ∀ o, h.get? b = some o → h'.get? b = some o) → tn i h'
  item : ∀ (X : Cx), X.prog = P → X.w = w → X.K = K → X.calm = true → ∀ (i : Nat) (pins : List (Addr × Obj)) (s : Shared) (σ : St) (H : Hp) (E : Value → Shared → Prop), Inv X pins σ H s → (∀ b ∈ fp, Y1 X pins H b) → tn i s.heap → J.go i H →
    wpAny (model P w) X.A (pyNext (.ref it)) (fun r s1 => ∃ u, r = some u ∧
      wpAny (model P w) X.A (letOwnedTupleGo tg (.ref it) u) (fun _ s2 => ∃ x H', Inv X pins σ H' s2 ∧ Q0 x u ∧ J.yld i H x H' ∧ tn (i + 1) s2.heap ∧ ∀ b ∈ fp, H' b = none) E s1) E s
  done : ∀ (X : Cx), X.prog = P → X.w = w → X.K = K → X.calm = true → ∀ (i : Nat) (pins : List (Addr × Obj)) (s : Shared) (σ : St) (H : Hp) (E : Value → Shared → Prop), Inv X pins σ H s → (∀ b ∈ fp, Y1 X pins H b) → tn i s.heap → J.stop i H →
    wpAny (model P w) X.A (pyNext (.ref it)) (fun r s1 => r = none ∧ Inv X pins σ H s1) E s
  self : ∀ (A : Around) (i : Nat) (s : Shared) (Q : Value → Shared → Prop) (E : Value → Shared → Prop), tn i s.heap → Q (.ref it) s → wpAny (model P w) A (pyIter (.ref it)) Q E s
abbrev TI := St → Hp → (It → Hp → Prop) → Prop
def PIE (X : Cx) (pins : List (Addr × Obj)) (σ : St) (tg : Expr) (R : It → Hp → Prop) (itv : Value) (s2 : Shared) : Prop :=
  ∃ (it : Addr) (fp : List Addr) (tn : Nat → Heap → Prop) (J : It) (H' : Hp), itv = .ref it ∧ Inv X pins σ H' s2 ∧ Turn X.prog X.w X.K tg J fp it tn ∧ tn 0 s2.heap ∧ (∀ b ∈ fp, Y1 X pins H' b) ∧ R J H'
def PI (X : Cx) (tg iter : Expr) (wi : TI) : Prop :=
  ∀ (pins : List (Addr × Obj)) (s : Shared) (σ : St) (H : Hp) (R : It → Hp → Prop), Inv X pins σ H s → wi σ H R →
    wpAny (model X.prog X.w) X.A (eval iter X.env) (fun v s1 => wpAny (model X.prog X.w) X.A (pyIter v) (PIE X pins σ tg R) X.xe s1) X.xe s
theorem N8 {M : Model} {A : Around} {E : Value → Shared → Prop} {s : Shared} {tg : Expr} {it : Addr} {u : Value} {o : Obj} {n : String} {vs : Array Value} {Q : Unit → Shared → Prop} (ho : s.heap.get? it = some o) (hc : o.cls = .type n) (hd : o.data = .fields vs)
    (hn : ["enumerate", "zip", "dict_itemiterator", "dict_reverseitemiterator", "odict_iterator", "itertools.zip_longest", "itertools.pairwise"].contains n = false) (hQ : Q () s) : wpAny M A (letOwnedTupleGo tg (.ref it) u) Q E s := by
  unfold letOwnedTupleGo
  cases tg <;> first
    | exact wpAny_pure hQ
    | (cases u <;> first
        | exact wpAny_pure hQ
        | (refine wpAny_bind (wpAny_load ho ?_)
           rw [hc, hd]
           show wpAny M A (if (["enumerate", "zip", "dict_itemiterator", "dict_reverseitemiterator", "odict_iterator", "itertools.zip_longest", "itertools.pairwise"].contains n && vs[0]? == some (rawInt _)) = true then _ else _) Q E s
           rw [if_neg (by intro h; rw [hn, Bool.false_and] at h; cases h)]
           exact wpAny_pure hQ))
def Itl (K : PySem.W.Frag) (a : Addr) : It :=
  ⟨fun i H => ∃ xs x, SqL K H a xs ∧ xs[i]? = some x, fun i H x H' => H' = H ∧ ∀ xs, SqL K H a xs → xs[i]? = some x, fun i H => ∃ xs, SqL K H a xs ∧ xs.length ≤ i⟩
def Itt (K : PySem.W.Frag) (a : Addr) : It :=
  ⟨fun i H => ∃ xs x, SqT K H a xs ∧ xs[i]? = some x, fun i H x H' => H' = H ∧ ∀ xs, SqT K H a xs → xs[i]? = some x, fun i H => ∃ xs, SqT K H a xs ∧ xs.length ≤ i⟩
def Itr (lo : Int) (n : Nat) : It := ⟨fun i _ => i < n, fun i H x H' => H' = H ∧ x = .int (lo + i), fun i _ => n ≤ i⟩
theorem zv2 {P : Program} {w : World} {K : PySem.W.Frag} {tg : Expr} (a it : Addr) : Turn P w K tg (Itl K a) [it] it (fun i h => h.IsListIter it a i) where
  mem := by simp
  obj := fun i h st b hb => by
    have e : b = it := by simpa using hb
    subst e
    obtain ⟨o, e, c, d⟩ := st
    exact ⟨o, e, fun v z => by rw [d] at z; cases z⟩
  keep := fun i h h' st k => st.at fun o e => k it (by simp) o e
  item := by
    intro X hP hw hK hc i pins s σ H E I hf st hg
    subst hP hw hK
    obtain ⟨xs, x, hq, hx⟩ := hg
    obtain ⟨its, rv, p, hz⟩ := I.list hq
    obtain ⟨u, hu, ru⟩ := rv.get hx
    obtain ⟨f0, f1, f2, f3, f4, f5⟩ := hf it (by simp)
    refine wpAny_pyNext_list_item st p.isList (x := u) (by simpa using hu) fun h' st' sb => ?_
    have I1 : Inv X pins σ H { s with heap := h' } := I.turned (t' := s.toks) (fun b o hb e => (sb.2 b hb).trans e) f0 f1 f3 f4 f5
    obtain ⟨o, e, c, d⟩ := id st'
    exact ⟨u, rfl, N8 (s := { s with heap := h' }) e c d (by decide) ⟨x, H, I1, ru, ⟨rfl, fun ys hy => by rw [I.list_inj hy hq]; exact hx⟩, st', fun b hb => (hf b hb).1⟩⟩
  done := by
    intro X hP hw hK hc i pins s σ H E I hf st hg
    subst hP hw hK
    obtain ⟨xs, hq, hx⟩ := hg
    obtain ⟨its, rv, p, hz⟩ := I.list hq
    obtain ⟨f0, f1, f2, f3, f4, f5⟩ := hf it (by simp)
    have hl := rv.length
    exact wpAny_pyNext_list_end (I.ok.hd hc) st p.isList (by simp; omega) fun h' eb => ⟨rfl, I.turned (t' := s.toks) (fun b o hb e => eb b o hb e) f0 f1 f3 f4 f5⟩
  self := fun _ _ _ _ _ st h => wpAny_pyIter_listiter st h
theorem zv0 {P : Program} {w : World} {K : PySem.W.Frag} {tg : Expr} (a it : Addr) : Turn P w K tg (Itt K a) [it] it (fun i h => h.IsTupleIter it a i) where
  mem := by simp
  obj := fun i h st b hb => by
    have e : b = it := by simpa using hb
    subst e
    obtain ⟨o, e, c, d⟩ := st
    exact ⟨o, e, fun v z => by rw [d] at z; cases z⟩
  keep := fun i h h' st k => st.at fun o e => k it (by simp) o e
  item := by
    intro X hP hw hK hc i pins s σ H E I hf st hg
    subst hP hw hK
    obtain ⟨xs, x, hq, hx⟩ := hg
    obtain ⟨its, rv, p, hz⟩ := I.tuple hq
    obtain ⟨u, hu, ru⟩ := rv.get hx
    obtain ⟨f0, f1, f2, f3, f4, f5⟩ := hf it (by simp)
    refine wpAny_pyNext_tuple_item st (show s.heap.IsTuple a its.toArray from p) (x := u) (by simpa using hu) fun h' st' sb => ?_
    have I1 : Inv X pins σ H { s with heap := h' } := I.turned (t' := s.toks) (fun b o hb e => (sb.2 b hb).trans e) f0 f1 f3 f4 f5
    obtain ⟨o, e, c, d⟩ := id st'
    exact ⟨u, rfl, N8 (s := { s with heap := h' }) e c d (by decide) ⟨x, H, I1, ru, ⟨rfl, fun ys hy => by rw [I.tuple_inj hy hq]; exact hx⟩, st', fun b hb => (hf b hb).1⟩⟩
  done := by
    intro X hP hw hK hc i pins s σ H E I hf st hg
    subst hP hw hK
    obtain ⟨xs, hq, hx⟩ := hg
    obtain ⟨its, rv, p, hz⟩ := I.tuple hq
    obtain ⟨f0, f1, f2, f3, f4, f5⟩ := hf it (by simp)
    have hl := rv.length
    exact wpAny_pyNext_tuple_end (I.ok.hd hc) st (show s.heap.IsTuple a its.toArray from p) (by simp; omega) fun h' eb => ⟨rfl, I.turned (t' := s.toks) (fun b o hb e => eb b o hb e) f0 f1 f3 f4 f5⟩
  self := fun _ _ _ _ _ st h => wpAny_pyIter_tupleiter st h
theorem zv1 {P : Program} {w : World} {K : PySem.W.Frag} {tg : Expr} (it : Addr) (lo : Int) (n : Nat) : Turn P w K tg (Itr lo n) [it] it (fun i h => IsRangeIter h it (lo + (i : Nat) * 1) ((n : Int) - (i : Nat)) 1) where
  mem := by simp
  obj := fun i h st b hb => by
    have e : b = it := by simpa using hb
    subst e
    exact ⟨_, st, fun v z => by
      have z' : Data.fields _ = Data.cell v := z
      cases z'⟩
  keep := fun i h h' st k => k it (by simp) _ st
  item := by
    intro X hP hw hK hc i pins s σ H E I hf st hg
    subst hP hw hK
    obtain ⟨f0, f1, f2, f3, f4, f5⟩ := hf it (by simp)
    have W := Walks.range (prog := X.prog) (w := X.w) (I.ok.hd hc) it lo 1 n
    refine W.item i s _ _ hg st fun v h' tk hv st' kk => ?_
    obtain ⟨t, rfl⟩ := hv
    have I1 : Inv X pins σ H { s with heap := h', toks := tk } := I.turned (fun b o hb e => kk b o (by simpa using hb) e) f0 f1 f3 f4 f5
    refine ⟨_, rfl, N8 (s := { s with heap := h', toks := tk }) (n := "range_iterator") st' rfl rfl (by decide) ⟨.int (lo + i), H, I1, ⟨t, ?_⟩, ⟨rfl, rfl⟩, st', fun b hb => (hf b hb).1⟩⟩
    rw [Int.mul_one]
  done := by
    intro X hP hw hK hc i pins s σ H E I hf st hg
    subst hP hw hK
    obtain ⟨f0, f1, f2, f3, f4, f5⟩ := hf it (by simp)
    exact wpAny_pyNext_range_end (I.ok.hd hc) st (by have : n ≤ i := hg; omega) fun h' eb => ⟨rfl, I.turned (t' := s.toks) (fun b o hb e => eb b o hb e) f0 f1 f3 f4 f5⟩
  self := fun _ _ _ _ _ st h => wpAny_pyIter_rangeiter st h
end L2
namespace L2
open PySem PySem.Spec PyProof.Rows
section
variable {X : Cx} {tg : Expr}
def qd9 (K : PySem.W.Frag) (tl : TE) : TI := fun σ H R => tl σ H fun x H1 => ∃ a, x = .ref a ∧ (∃ xs, SqL K H1 a xs) ∧ R (Itl K a) H1
def qd6 (K : PySem.W.Frag) (tl : TE) : TI := fun σ H R => tl σ H fun x H1 => ∃ a, x = .ref a ∧ (∃ xs, SqT K H1 a xs) ∧ R (Itt K a) H1
theorem L4 {l : Expr} {tl : TE} (hl : PE X l tl) : PI X tg l (qd9 X.K tl) := by
  intro pins s σ H R I h
  refine thn (hl pins s σ H _ I h) fun v s1 ⟨x, H1, I1, r1, q1⟩ => ?_
  obtain ⟨a, e, ⟨xs, hq⟩, q⟩ := q1
  subst e
  cases r1
  obtain ⟨its, rv, p, hz⟩ := I1.list hq
  refine wpAny_pyIter_list p.isList ?_
  refine ⟨s1.heap.objs.size, [s1.heap.objs.size], _, _, H1, rfl, I1.kept (t' := s1.toks) fun b o e => Heap.get?_push_of_some _ e, zv2 a _, ⟨_, Heap.get?_push_size _ rfl, rfl, rfl⟩, fun b hb => ?_, q⟩
  have e : b = s1.heap.objs.size := by simpa using hb
  subst e
  exact I1.fpOk (Nat.le_refl _) (I1.hok.fresh (Nat.le_refl _))
theorem d8 {l : Expr} {tl : TE} (hl : PE X l tl) : PI X tg l (qd6 X.K tl) := by
  intro pins s σ H R I h
  refine thn (hl pins s σ H _ I h) fun v s1 ⟨x, H1, I1, r1, q1⟩ => ?_
  obtain ⟨a, e, ⟨xs, hq⟩, q⟩ := q1
  subst e
  cases r1
  obtain ⟨its, rv, p, hz⟩ := I1.tuple hq
  refine wpAny_pyIter_tuple (show s1.heap.IsTuple a its.toArray from p) ?_
  refine ⟨s1.heap.objs.size, [s1.heap.objs.size], _, _, H1, rfl, I1.kept (t' := s1.toks) fun b o e => Heap.get?_push_of_some _ e, zv0 a _, ⟨_, Heap.get?_push_size _ rfl, rfl, rfl⟩, fun b hb => ?_, q⟩
  have e : b = s1.heap.objs.size := by simpa using hb
  subst e
  exact I1.fpOk (Nat.le_refl _) (I1.hok.fresh (Nat.le_refl _))
theorem zh0 {pins : List (Addr × Obj)} {σ : St} {H : Hp} {s : Shared} {R : It → Hp → Prop} {E : Value → Shared → Prop} {lo hi : Int} {t u v : Tok} {tk : Nat} (I : Inv X pins σ H s) (h1 : -(2 ^ 62) ≤ lo) (h2 : lo < 2 ^ 62) (h3 : -(2 ^ 62) ≤ hi) (h4 : hi < 2 ^ 62)
    (q : R (Itr lo (hi - lo).toNat) H) : wpAny (model X.prog X.w) X.A (pyIter (.ref s.heap.objs.size)) (PIE X pins σ tg R) E { s with heap := s.heap.push { cls := .type "range", data := .fields #[.int lo t, .int hi u, .int 1 v] }, toks := tk } := by
  refine wpAny_pyIter_range (IsRange.new ..) (small_one h1 h2 h3 h4) ?_
  have I1 : Inv X pins σ H { s with heap := s.heap.push { cls := .type "range", data := .fields #[.int lo t, .int hi u, .int 1 v] }, toks := tk } := I.kept fun b o e => Heap.get?_push_of_some _ e
  refine ⟨(s.heap.push { cls := .type "range", data := .fields #[.int lo t, .int hi u, .int 1 v] }).objs.size, [(s.heap.push { cls := .type "range", data := .fields #[.int lo t, .int hi u, .int 1 v] }).objs.size], _, _, H, rfl,
    I1.kept (t' := tk) fun b o e => Heap.get?_push_of_some _ e, zv1 _ lo (hi - lo).toNat, ?_, fun b hb => ?_, q⟩
  · have e1 : lo + ((0 : Nat) : Int) * 1 = lo := by simp
    have e2 : (((hi - lo).toNat : Nat) : Int) - ((0 : Nat) : Int) = Builtin.Range.rangeSize lo hi 1 := by rw [rangeSize_one]; split <;> omega
    show IsRangeIter _ _ (lo + ((0 : Nat) : Int) * 1) ((((hi - lo).toNat : Nat) : Int) - ((0 : Nat) : Int)) 1
    rw [e1, e2]
    exact Heap.get?_push_size _ rfl
  · have e : b = (s.heap.push { cls := .type "range", data := .fields #[.int lo t, .int hi u, .int 1 v] }).objs.size := by simpa using hb
    subst e
    exact I1.fpOk (Nat.le_refl _) (I1.hok.fresh (Nat.le_refl _))
def qd8 (ta : TA) : TI := fun σ H R => ta σ H fun vs H1 => ∃ j : Int, vs = [.int j] ∧ -(2 ^ 62) ≤ j ∧ j < 2 ^ 62 ∧ R (Itr 0 j.toNat) H1
def qd7 (ta : TA) : TI := fun σ H R => ta σ H fun vs H1 => ∃ i j : Int, vs = [.int i, .int j] ∧ (-(2 ^ 62) ≤ i ∧ i < 2 ^ 62 ∧ -(2 ^ 62) ≤ j ∧ j < 2 ^ 62) ∧ R (Itr i (j - i).toNat) H1
theorem m3 {a : Expr} {ta : TA} {p pos : Pos} (hg : Gl X "range") (hm : X.mg "range" = none) (ha : PA X [a] ta) (hs : starEach [a] X.env = [(false, eval a X.env)] := by rfl) : PI X tg (.Call (.Name "range" p) [a] [] pos) (qd8 ta) := by
  intro pins s σ H R I h
  refine Call_ (d5 I hg hm boot_range (PyProof.Rows.callWith_type1 (thn (ha pos pins s σ H _ I h) fun us s1 ⟨vs, H1, I1, r1, q1⟩ => ?_) hs rfl))
  obtain ⟨j, e, q1, q2, q⟩ := q1
  subst e
  cases r1 with
  | cons r rr =>
    cases rr
    obtain ⟨t, rfl⟩ := r
    exact call_range_1 (zh0 I1 (by omega) (by omega) q1 q2 (by simpa using q))
theorem e8 {a b : Expr} {ta : TA} {p pos : Pos} (hg : Gl X "range") (hm : X.mg "range" = none) (ha : PA X [a, b] ta) (hs : starEach [a, b] X.env = [(false, eval a X.env), (false, eval b X.env)] := by rfl) (hs2 : starEach [b] X.env = [(false, eval b X.env)] := by rfl) :
    PI X tg (.Call (.Name "range" p) [a, b] [] pos) (qd7 ta) := by
  intro pins s σ H R I h
  refine Call_ (d5 I hg hm boot_range (PyProof.Rows.callWith_type1 (thn (ha pos pins s σ H _ I h) fun us s1 ⟨vs, H1, I1, r1, q1⟩ => ?_) (by rw [hs, hs2]) (by rw [hs2]; rfl)))
  obtain ⟨i, j, e, ⟨q1, q2, q3, q4⟩, q⟩ := q1
  subst e
  cases r1 with
  | cons r rr =>
    cases rr with
    | cons r' rr =>
      cases rr
      obtain ⟨t, rfl⟩ := r
      obtain ⟨t', rfl⟩ := r'
      exact call_range_2 (zh0 I1 q1 q2 q3 q4 q)
def zw9 (wi : TI) (g : TG) (tb : TS) : TS := fun D σ H => wi σ H fun J H1 => ∃ W : Nat → Nat → St → Hp → Prop, (∃ m, W 0 m σ H1) ∧ ∀ i m σ H, W i m σ H →
  (J.stop i H ∧ D.nx σ H) ∨ (J.go i H ∧ ∃ N : St → Hp → Prop, (∀ σ' H', N σ' H' → ∃ m', m' < m ∧ W (i + 1) m' σ' H') ∧ ∀ x H', J.yld i H x H' → g x σ H' fun σ2 H2 => tb { D with nx := N, ct := N, bk := D.nx } σ2 H2)
def X4 (fp : List Addr) (h : Heap) : List (Addr × Obj) := fp.filterMap fun b => (h.get? b).map fun o => (b, o)
theorem j4 {fp : List Addr} {h : Heap} {b : Addr} {o : Obj} (hb : b ∈ fp) (e : h.get? b = some o) : (b, o) ∈ X4 fp h := List.mem_filterMap.mpr ⟨b, hb, by rw [e]; rfl⟩
theorem zY3 {fp : List Addr} {h : Heap} {p : Addr × Obj} (hp : p ∈ X4 fp h) : p.1 ∈ fp ∧ h.get? p.1 = some p.2 := by
  obtain ⟨b, hb, e⟩ := List.mem_filterMap.mp hp
  cases q : h.get? b with
  | none => rw [q] at e; cases e
  | some o =>
    rw [q] at e
    have e' : (b, o) = p := Option.some.inj e
    subst e'
    exact ⟨hb, q⟩
theorem Inv.pinned {pins : List (Addr × Obj)} {σ : St} {H : Hp} {s : Shared} {fp : List Addr} (I : Inv X pins σ H s) (hf : ∀ b ∈ fp, Y1 X pins H b) (ho : ∀ b ∈ fp, ∃ o, s.heap.get? b = some o ∧ ∀ v, o.data ≠ .cell v) : Inv X (pins ++ X4 fp s.heap) σ H s :=
  I.pins_of fun p hp => (List.mem_append.mp hp).elim (fun z => I.pin p (List.mem_append_right _ z)) fun z => by
    obtain ⟨hb, e⟩ := zY3 z
    obtain ⟨f0, f1, f2, _⟩ := hf p.1 hb
    obtain ⟨o, e', d⟩ := ho p.1 hb
    rw [e] at e'; cases e'
    exact ⟨e, f0, f1, f2, d⟩
theorem Inv.unpinned {pins pl : List (Addr × Obj)} {σ : St} {H : Hp} {s : Shared} (I : Inv X (pins ++ pl) σ H s) : Inv X pins σ H s := I.pins_of fun p hp => I.pin p (List.mem_append_right _ (List.mem_append_left _ hp))
theorem W2 {iter : Expr} {body : List Stmt} {wi : TI} {g : TG} {tb : TS} {pos : Pos} (hp : PassesOwn (model X.prog X.w) X.A X.env X.xe) (hc : X.calm = true) (hi : PI X tg iter wi) (hg : PG X tg g) (hb : PSs X body tb)
    (hs : ∀ x, foldedSetIterable iter X.env x = pure x := by intro _; rfl) : PS X (.For tg iter body [] pos) (zw9 wi g tb) := by
  intro pins s σ H D I h
  refine wpAny_For (thn (hi pins s σ H _ I h) fun v s1 h1 => thn h1 fun itv s2 h2 => ?_) hs
  obtain ⟨it, fp, tn, J, H2, e, I2, T, st2, f2, W, ⟨m0, w0⟩, turn⟩ := h2
  subst e
  have stat : ∀ {H' : Hp}, (∀ b ∈ fp, H' b = none) → ∀ b ∈ fp, Y1 X pins H' b := fun hn b hb => ⟨hn b hb, (f2 b hb).2⟩
  refine codeAny_forLoop_any (fun n s' => ∃ i σ' H', Inv X pins σ' H' s' ∧ tn i s'.heap ∧ (∀ b ∈ fp, H' b = none) ∧ W i n σ' H') ?_ m0 ⟨0, σ, H2, I2, st2, fun b hb => (f2 b hb).1, w0⟩
  rintro n s3 ⟨i, σ3, H3, I3, st3, fr3, w3⟩
  rcases turn i n σ3 H3 w3 with ⟨stop, qn⟩ | ⟨go, N, hN, step⟩
  · refine wpAny_passesOwn hp (thn (T.done X rfl rfl rfl hc i pins s3 σ3 H3 X.xe I3 (stat fr3) st3 stop) fun r s4 ⟨hr, I4⟩ => ?_)
    subst hr
    exact wpAny_execs_nil ⟨σ3, H3, I4, qn⟩
  · refine wpAny_passesOwn hp (thn (T.item X rfl rfl rfl hc i pins s3 σ3 H3 X.xe I3 (stat fr3) st3 go) fun r s4 ⟨u, hr, h4⟩ => ?_)
    subst hr
    refine wpAny_passesOwn hp (thn h4 fun _ s5 ⟨x, H5, I5, r5, y5, st5, fr5⟩ => ?_)
    have I5' := I5.pinned (stat fr5) (T.obj _ _ st5)
    refine wpAny_passesOwn hp (thn (hg _ s5 σ3 H5 x u _ I5' r5 (step x H5 y5)) fun _ s6 ⟨σ6, H6, I6, q6⟩ => ?_)
    refine wpAny_passesOwn hp (thn (hb _ s6 σ6 H6 _ I6 q6) fun f s7 q7 => ?_)
    have again : ∀ {σ7 : St} {H7 : Hp}, Inv X (pins ++ X4 fp s5.heap) σ7 H7 s7 → N σ7 H7 → ∃ m, m < n ∧ ∃ i σ' H', Inv X pins σ' H' s7 ∧ tn i s7.heap ∧ (∀ b ∈ fp, H' b = none) ∧ W i m σ' H' := fun {σ7 H7} I7 n7 => by
      obtain ⟨m', hm, w7⟩ := hN σ7 H7 n7
      refine ⟨m', hm, i + 1, σ7, H7, I7.unpinned, T.keep _ _ _ st5 fun b hb o e => (I7.pin (b, o) (List.mem_append_right _ (List.mem_append_right _ (j4 hb e)))).1, fun b hb => ?_, w7⟩
      obtain ⟨o, e, d⟩ := T.obj _ _ st5 b hb
      exact (I7.pin (b, o) (List.mem_append_right _ (List.mem_append_right _ (j4 hb e)))).2.1
    cases f with
    | next => obtain ⟨σ7, H7, I7, n7⟩ := q7; exact again I7 n7
    | cont => obtain ⟨σ7, H7, I7, n7⟩ := q7; exact again I7 n7
    | brk => obtain ⟨σ7, H7, I7, q7⟩ := q7; exact ⟨σ7, H7, I7.unpinned, q7⟩
    | ret v => obtain ⟨x7, σ7, H7, I7, r7, q7⟩ := q7; exact ⟨x7, σ7, H7, I7.unpinned, r7, q7⟩
end
theorem zp0 {K : PySem.W.Frag} {a : Addr} {xs : List V} {g : TG} {tb : TS} {D : Ends} {σ : St} {H : Hp} (Pv : Nat → St → Hp → Prop) (h0 : Pv 0 σ H) (hl : ∀ i σ H, i ≤ xs.length → Pv i σ H → SqL K H a xs)
    (hs : ∀ i x σ H, xs[i]? = some x → Pv i σ H → g x σ H fun σ2 H2 => tb { D with nx := Pv (i + 1), ct := Pv (i + 1), bk := D.nx } σ2 H2) (hd : ∀ σ H, Pv xs.length σ H → D.nx σ H) :
    ∃ W : Nat → Nat → St → Hp → Prop, (∃ m, W 0 m σ H) ∧ ∀ i m σ H, W i m σ H →
      ((Itl K a).stop i H ∧ D.nx σ H) ∨ ((Itl K a).go i H ∧ ∃ N : St → Hp → Prop, (∀ σ' H', N σ' H' → ∃ m', m' < m ∧ W (i + 1) m' σ' H') ∧ ∀ x H', (Itl K a).yld i H x H' → g x σ H' fun σ2 H2 => tb { D with nx := N, ct := N, bk := D.nx } σ2 H2) := by
  refine ⟨fun i m σ H => m = xs.length - i ∧ i ≤ xs.length ∧ Pv i σ H, ⟨xs.length, by simp, Nat.zero_le _, h0⟩, ?_⟩
  rintro i m σ H ⟨rfl, hi, p⟩
  have q := hl i σ H hi p
  by_cases hlt : i < xs.length
  · refine .inr ⟨⟨xs, xs[i], q, by simp [hlt]⟩, Pv (i + 1), fun σ' H' p' => ⟨xs.length - (i + 1), by omega, rfl, hlt, p'⟩, fun x H' y => ?_⟩
    obtain ⟨e, y⟩ := y
    subst e
    exact hs i x σ _ (y xs q) p
  · have e : i = xs.length := by omega
    subst e
    exact .inl ⟨⟨xs, q, Nat.le_refl _⟩, hd σ H p⟩
theorem F3 {lo : Int} {n : Nat} {g : TG} {tb : TS} {D : Ends} {σ : St} {H : Hp} (Pv : Nat → St → Hp → Prop) (h0 : Pv 0 σ H)
    (hs : ∀ i σ H, i < n → Pv i σ H → g (.int (lo + i)) σ H fun σ2 H2 => tb { D with nx := Pv (i + 1), ct := Pv (i + 1), bk := D.nx } σ2 H2) (hd : ∀ σ H, Pv n σ H → D.nx σ H) :
    ∃ W : Nat → Nat → St → Hp → Prop, (∃ m, W 0 m σ H) ∧ ∀ i m σ H, W i m σ H →
      ((Itr lo n).stop i H ∧ D.nx σ H) ∨ ((Itr lo n).go i H ∧ ∃ N : St → Hp → Prop, (∀ σ' H', N σ' H' → ∃ m', m' < m ∧ W (i + 1) m' σ' H') ∧ ∀ x H', (Itr lo n).yld i H x H' → g x σ H' fun σ2 H2 => tb { D with nx := N, ct := N, bk := D.nx } σ2 H2) := by
  refine ⟨fun i m σ H => m = n - i ∧ i ≤ n ∧ Pv i σ H, ⟨n, by simp, Nat.zero_le _, h0⟩, ?_⟩
  rintro i m σ H ⟨rfl, hi, p⟩
  by_cases hlt : i < n
  · refine .inr ⟨hlt, Pv (i + 1), fun σ' H' p' => ⟨n - (i + 1), by omega, rfl, hlt, p'⟩, fun x H' y => ?_⟩
    obtain ⟨e, y⟩ := y
    subst e y
    exact hs i σ _ hlt p
  · have e : i = n := by omega
    subst e
    exact .inl ⟨Nat.le_refl _, hd σ H p⟩
end L2
namespace L2
open PySem PySem.Spec PyProof.Rows
abbrev R2 := V → V → Hp → VK → Prop
def OpR (X : Cx) (f : Value → Value → Sem Value) (r : R2) : Prop :=
  ∀ (pins : List (Addr × Obj)) (s : Shared) (σ : St) (H : Hp) (x y : V) (v u : Value) (Q : VK), Inv X pins σ H s → Q0 x v → Q0 y u → r x y H Q →
    wpAny (model X.prog X.w) X.A (f v u) (EP X pins σ Q) X.xe s
def UnR (X : Cx) (f : Value → Sem Value) (r : V → Hp → VK → Prop) : Prop :=
  ∀ (pins : List (Addr × Obj)) (s : Shared) (σ : St) (H : Hp) (x : V) (v : Value) (Q : VK), Inv X pins σ H s → Q0 x v → r x H Q →
    wpAny (model X.prog X.w) X.A (f v) (EP X pins σ Q) X.xe s
def K3 (X : Cx) (f : Value) (r : List V → Hp → VK → Prop) : Prop :=
  ∀ (pins : List (Addr × Obj)) (s : Shared) (σ : St) (H : Hp) (xs : List V) (us : List Value) (Q : VK), Inv X pins σ H s → M0 xs us → r xs H Q →
    wpAny (model X.prog X.w) X.A (call f us) (EP X pins σ Q) X.xe s
def tOp (r : R2) (ta tb : TE) : TE := fun σ H Q => ta σ H fun x H1 => tb σ H1 fun y H2 => r x y H2 Q
def tUn (r : V → Hp → VK → Prop) (ta : TE) : TE := fun σ H Q => ta σ H fun x H1 => r x H1 Q
def rI (C : Int → Int → Prop) (g : Int → Int → V) : R2 := fun x y H Q => ∃ i j, x = .int i ∧ y = .int j ∧ C i j ∧ Q (g i j) H
def rI0 (g : Int → Int → V) : R2 := fun x y H Q => ∃ i j, x = .int i ∧ y = .int j ∧ Q (g i j) H
def rU (g : Int → V) : V → Hp → VK → Prop := fun x H Q => ∃ i, x = .int i ∧ Q (g i) H
section
variable {X : Cx} {a b c : Expr} {ta tb tc : TE} {pos : Pos}
theorem e9 (ha : PE X a ta) (hb : PE X b tb) {pins : List (Addr × Obj)} {s : Shared} {σ : St} {H : Hp} {R : V → V → Hp → Prop} (I : Inv X pins σ H s)
    (h : ta σ H fun x H1 => tb σ H1 fun y H2 => R x y H2) {Q : Value → Shared → Prop} {f : Value → Value → Sem Value}
    (hf : ∀ v u s2 x y H2, Inv X pins σ H2 s2 → Q0 x v → Q0 y u → R x y H2 → wpAny (model X.prog X.w) X.A (f v u) Q X.xe s2) :
    wpAny (model X.prog X.w) X.A (eval a X.env) (fun v s₁ => wpAny (model X.prog X.w) X.A (eval b X.env) (fun u s₂ => wpAny (model X.prog X.w) X.A (f v u) Q X.xe s₂) X.xe s₁) X.xe s := by
  refine thn (ha pins s σ H _ I h) fun v s1 ⟨x, H1, I1, r1, q1⟩ => ?_
  refine thn (hb pins s1 σ H1 _ I1 q1) fun u s2 ⟨y, H2, I2, r2, q2⟩ => ?_
  exact hf v u s2 x y H2 I2 r1 r2 q2
theorem B1 {op : Operator} {r : R2} (ho : OpR X (binaryOp op) r) (ha : PE X a ta) (hb : PE X b tb) : PE X (.BinOp a op b pos) (tOp r ta tb) := by
  intro pins s σ H Q I h
  exact wpAny_BinOp (e9 ha hb I h fun v u s2 x y H2 I2 rx ry q => ho pins s2 σ H2 x y v u Q I2 rx ry q)
theorem U6 {op : UnaryOp} {r : V → Hp → VK → Prop} (ho : UnR X (unaryOp op) r) (ha : PE X a ta) : PE X (.UnaryOp op a pos) (tUn r ta) := by
  intro pins s σ H Q I h
  exact UnaryOp_ (thn (ha pins s σ H _ I h) fun v s1 ⟨x, H1, I1, r1, q1⟩ => ho pins s1 σ H1 x v Q I1 r1 q1)
theorem opI {f : Value → Value → Sem Value} {C : Int → Int → Prop} {g : Int → Int → Int}
    (rule : ∀ (i j : Int) (t u : Tok) (s : Shared) (Q : Value → Shared → Prop) (E : Value → Shared → Prop), C i j → Q (.int (g i j) s.toks) { s with toks := s.toks + 1 } → wpAny (model X.prog X.w) X.A (f (.int i t) (.int j u)) Q E s) :
    OpR X f (rI C fun i j => .int (g i j)) := by
  intro pins s σ H x y v u Q I rx ry h
  obtain ⟨i, j, rfl, rfl, hc, q⟩ := h
  obtain ⟨t, rfl⟩ := rx
  obtain ⟨t', rfl⟩ := ry
  exact rule i j t t' s _ _ hc ⟨.int (g i j), H, I.tok _, ⟨_, rfl⟩, q⟩
theorem zj7 {f : Value → Value → Sem Value} {g : Int → Int → Int}
    (rule : ∀ (i j : Int) (t u : Tok) (s : Shared) (Q : Value → Shared → Prop) (E : Value → Shared → Prop), Q (.int (g i j) s.toks) { s with toks := s.toks + 1 } → wpAny (model X.prog X.w) X.A (f (.int i t) (.int j u)) Q E s) :
    OpR X f (rI0 fun i j => .int (g i j)) := by
  intro pins s σ H x y v u Q I rx ry h
  obtain ⟨i, j, rfl, rfl, q⟩ := h
  obtain ⟨t, rfl⟩ := rx
  obtain ⟨t', rfl⟩ := ry
  exact rule i j t t' s _ _ ⟨.int (g i j), H, I.tok _, ⟨_, rfl⟩, q⟩
theorem Y6 {f : Value → Value → Sem Value} {g : Int → Int → Bool}
    (rule : ∀ (i j : Int) (t u : Tok) (s : Shared) (Q : Value → Shared → Prop) (E : Value → Shared → Prop), Q (.bool (g i j)) s → wpAny (model X.prog X.w) X.A (f (.int i t) (.int j u)) Q E s) :
    OpR X f (rI0 fun i j => .bl (g i j)) := by
  intro pins s σ H x y v u Q I rx ry h
  obtain ⟨i, j, rfl, rfl, q⟩ := h
  obtain ⟨t, rfl⟩ := rx
  obtain ⟨t', rfl⟩ := ry
  exact rule i j t t' s _ _ ⟨.bl (g i j), H, I, rfl, q⟩
def qk3 (i j : Int) : Prop := 0 ≤ j ∧ j ≤ 1000000 ∧ i.natAbs < 2 ^ 64
theorem zu9 (k : Nat) : (0 : Int) ≤ 2 ^ k := by
  rw [two_pow_cast]
  exact Int.natCast_nonneg _
theorem D3 : OpR X (binaryOp .Add) (rI0 fun i j => .int (i + j)) := zj7 fun _ _ _ _ _ _ _ q => add_int q
theorem m8 : OpR X (binaryOp .Sub) (rI0 fun i j => .int (i - j)) := zj7 fun _ _ _ _ _ _ _ q => sub_int q
theorem zj6 : OpR X (binaryOp .Mod) (rI (fun _ j => 0 < j) fun i j => .int (i % j)) := opI fun i j _ _ _ _ _ hc q => by
  have h1 : (0 : Int) < j := hc
  exact mod_int' (by omega) (by rw [Int.fmod_eq_emod_of_nonneg i (by omega)]; exact q)
theorem zS3 : OpR X (binaryOp .LShift) (rI qk3 fun i j => .int (i * 2 ^ j.toNat)) := opI fun _ _ _ _ _ _ _ hc q => lshift_int_small hc.1 hc.2.1 hc.2.2 q
theorem zj4 : OpR X (binaryOp .RShift) (rI (fun _ j => 0 ≤ j) fun i j => .int (i / 2 ^ j.toNat)) := opI fun i j _ _ _ _ _ hc q =>
  rshift_int hc (by rw [Int.fdiv_eq_ediv_of_nonneg i (zu9 _)]; exact q)
theorem unI {f : Value → Sem Value} {g : Int → Int}
    (rule : ∀ (i : Int) (t : Tok) (s : Shared) (Q : Value → Shared → Prop) (E : Value → Shared → Prop), Q (.int (g i) s.toks) { s with toks := s.toks + 1 } → wpAny (model X.prog X.w) X.A (f (.int i t)) Q E s) :
    UnR X f (rU fun i => .int (g i)) := by
  intro pins s σ H x v Q I rx h
  obtain ⟨i, rfl, q⟩ := h
  obtain ⟨t, rfl⟩ := rx
  exact rule i t s _ _ ⟨.int (g i), H, I.tok _, ⟨_, rfl⟩, q⟩
theorem L6 : UnR X (unaryOp .USub) (rU fun i => .int (-i)) := unI fun _ _ _ _ _ q => neg_int q
end
def M9 : V → V → Bool
  | .non, .non => true | .non, .int _ => true | .int _, .non => true | .non, .bl _ => true | .bl _, .non => true | .non, .str _ => true | .str _, .non => true
  | .int _, .int _ => true | .bl _, .bl _ => true | .str _, .str _ => true | .byt _, .byt _ => true
  | .int _, .str _ => true | .str _, .int _ => true | .bl _, .str _ => true | .str _, .bl _ => true
  | _, _ => false
def rEq : R2 := fun x y H Q => M9 x y = true ∧ Q (.bl (decide (x = y))) H
def rNe : R2 := fun x y H Q => M9 x y = true ∧ Q (.bl (!decide (x = y))) H
theorem zr2 {i j : Int} : decide (V.int i = V.int j) = (i == j) := by
  rw [Bool.eq_iff_iff]
  simp
theorem dec_bl {i j : Bool} : decide (V.bl i = V.bl j) = (i == j) := by
  rw [Bool.eq_iff_iff]
  simp
theorem zr1 {i j : Str} : decide (V.str i = V.str j) = (i == j) := by
  rw [Bool.eq_iff_iff]
  simp
theorem zr3 {i j : Array UInt8} : decide (V.byt i = V.byt j) = (i.toList == j.toList) := by
  rw [Bool.eq_iff_iff]
  cases i
  cases j
  simp
section
variable {X : Cx} {a b c : Expr} {ta tb tc : TE} {pos : Pos}
theorem fin_bl {pins : List (Addr × Obj)} {σ : St} {H : Hp} {s : Shared} {Q : VK} {k k' : Bool} (I : Inv X pins σ H s) (q : Q (.bl k) H) (e : k = k') : EP X pins σ Q (.bool k') s := by
  subst e
  exact ⟨.bl k, H, I, rfl, q⟩
theorem U0 : OpR X (compareOp .Eq) rEq := by
  intro pins s σ H x y v u Q I rx ry h
  obtain ⟨hs, q⟩ := h
  cases x with
  | non =>
    cases rx
    cases y with
    | non => cases ry; exact PySem.EqNone.eq_none_none (fin_bl I q (by simp))
    | bl j => cases ry; exact PySem.EqNone.eq_none_bool (fin_bl I q (by simp))
    | int j => obtain ⟨t', rfl⟩ := ry; exact PySem.EqNone.eq_none_int (fin_bl I q (by simp))
    | str j => obtain ⟨t', rfl⟩ := ry; exact PySem.EqNone.eq_none_str (fin_bl I q (by simp))
    | _ => exact absurd (show false = true from hs) Bool.false_ne_true
  | bl i =>
    cases rx
    cases y with
    | non => cases ry; exact PySem.EqNone.eq_bool_none (fin_bl I q (by simp))
    | bl j => cases ry; exact eq_bool (fin_bl I q dec_bl)
    | str j => obtain ⟨t', rfl⟩ := ry; exact PySem.EqMixed.eq_bool_str (fin_bl I q (by simp))
    | _ => exact absurd (show false = true from hs) Bool.false_ne_true
  | int i =>
    obtain ⟨t, rfl⟩ := rx
    cases y with
    | non => cases ry; exact PySem.EqNone.eq_int_none (fin_bl I q (by simp))
    | int j => obtain ⟨t', rfl⟩ := ry; exact eq_int (fin_bl I q zr2)
    | str j => obtain ⟨t', rfl⟩ := ry; exact PySem.EqMixed.eq_int_str (fin_bl I q (by simp))
    | _ => exact absurd (show false = true from hs) Bool.false_ne_true
  | str i =>
    obtain ⟨t, rfl⟩ := rx
    cases y with
    | non => cases ry; exact PySem.EqNone.eq_str_none (fin_bl I q (by simp))
    | bl j => cases ry; exact PySem.EqMixed.eq_str_bool (fin_bl I q (by simp))
    | int j => obtain ⟨t', rfl⟩ := ry; exact PySem.EqMixed.eq_str_int (fin_bl I q (by simp))
    | str j => obtain ⟨t', rfl⟩ := ry; exact eq_str (fin_bl I q zr1)
    | _ => exact absurd (show false = true from hs) Bool.false_ne_true
  | byt i =>
    obtain ⟨t, rfl⟩ := rx
    cases y with
    | byt j => obtain ⟨t', rfl⟩ := ry; exact PySem.W.eq_bytes (fin_bl I q zr3)
    | _ => exact absurd (show false = true from hs) Bool.false_ne_true
  | _ => cases y <;> exact absurd (show false = true from hs) Bool.false_ne_true
theorem n6 : OpR X (compareOp .NotEq) rNe := by
  intro pins s σ H x y v u Q I rx ry h
  obtain ⟨hs, q⟩ := h
  cases x with
  | non =>
    cases rx
    cases y with
    | non => cases ry; exact PySem.EqNone.ne_none_none (fin_bl I q (by simp))
    | bl j => cases ry; exact PySem.EqNone.ne_none_bool (fin_bl I q (by simp))
    | int j => obtain ⟨t', rfl⟩ := ry; exact PySem.EqNone.ne_none_int (fin_bl I q (by simp))
    | str j => obtain ⟨t', rfl⟩ := ry; exact PySem.EqNone.ne_none_str (fin_bl I q (by simp))
    | _ => exact absurd (show false = true from hs) Bool.false_ne_true
  | bl i =>
    cases rx
    cases y with
    | non => cases ry; exact PySem.EqNone.ne_bool_none (fin_bl I q (by simp))
    | bl j => cases ry; exact ne_bool (fin_bl I q (congrArg not dec_bl))
    | str j => obtain ⟨t', rfl⟩ := ry; exact PySem.EqMixed.ne_bool_str (fin_bl I q (by simp))
    | _ => exact absurd (show false = true from hs) Bool.false_ne_true
  | int i =>
    obtain ⟨t, rfl⟩ := rx
    cases y with
    | non => cases ry; exact PySem.EqNone.ne_int_none (fin_bl I q (by simp))
    | int j => obtain ⟨t', rfl⟩ := ry; exact ne_int (fin_bl I q (congrArg not zr2))
    | str j => obtain ⟨t', rfl⟩ := ry; exact PySem.EqMixed.ne_int_str (fin_bl I q (by simp))
    | _ => exact absurd (show false = true from hs) Bool.false_ne_true
  | str i =>
    obtain ⟨t, rfl⟩ := rx
    cases y with
    | non => cases ry; exact PySem.EqNone.ne_str_none (fin_bl I q (by simp))
    | bl j => cases ry; exact PySem.EqMixed.ne_str_bool (fin_bl I q (by simp))
    | int j => obtain ⟨t', rfl⟩ := ry; exact PySem.EqMixed.ne_str_int (fin_bl I q (by simp))
    | str j => obtain ⟨t', rfl⟩ := ry; exact ne_str (fin_bl I q (congrArg not zr1))
    | _ => exact absurd (show false = true from hs) Bool.false_ne_true
  | byt i =>
    obtain ⟨t, rfl⟩ := rx
    cases y with
    | byt j => obtain ⟨t', rfl⟩ := ry; exact PySem.W.ne_bytes (fin_bl I q (congrArg not zr3))
    | _ => exact absurd (show false = true from hs) Bool.false_ne_true
  | _ => cases y <;> exact absurd (show false = true from hs) Bool.false_ne_true
theorem W6 : OpR X (compareOp .Lt) (rI0 fun i j => .bl (decide (i < j))) := Y6 fun _ _ _ _ _ _ _ q => lt_int q
theorem o6 : OpR X (compareOp .LtE) (rI0 fun i j => .bl (decide (i ≤ j))) := Y6 fun _ _ _ _ _ _ _ q => le_int q
theorem X6 : OpR X (compareOp .Gt) (rI0 fun i j => .bl (decide (j < i))) := Y6 fun _ _ _ _ _ _ _ q => gt_int q
theorem p6 : OpR X (compareOp .GtE) (rI0 fun i j => .bl (decide (j ≤ i))) := Y6 fun _ _ _ _ _ _ _ q => ge_int q
theorem zS5 : OpR X (compareOp .Is) (fun x y H Q => y = .non ∧ Q (.bl (decide (x = .non))) H) := by
  intro pins s σ H x y v u Q I rx ry h
  obtain ⟨rfl, q⟩ := h
  cases ry
  refine is_none_gen (fin_bl I q ?_)
  cases x <;> first
    | (cases rx; rfl)
    | (obtain ⟨t, rfl⟩ := rx; rfl)
theorem zj5 : OpR X (compareOp .IsNot) (fun x y H Q => y = .non ∧ Q (.bl (!decide (x = .non))) H) := by
  intro pins s σ H x y v u Q I rx ry h
  obtain ⟨rfl, q⟩ := h
  cases ry
  refine isnot_none_gen (fin_bl I q ?_)
  cases x <;> first
    | (cases rx; rfl)
    | (obtain ⟨t, rfl⟩ := rx; rfl)
theorem F0 (b : Expr) {op : CmpOp} (h : op ≠ .In := by decide) (h2 : op ≠ .NotIn := by decide) : behindInMarks op b = false := by
  have e1 : (op == CmpOp.In) = false := by cases op <;> first | rfl | exact absurd rfl h
  have e2 : (op == CmpOp.NotIn) = false := by cases op <;> first | rfl | exact absurd rfl h2
  cases b <;> simp [behindInMarks, e1, e2]
theorem M4 {op : CmpOp} {r : R2} (ho : OpR X (compareOp op) r) (ha : PE X a ta) (hb : PE X b tb) (hm : behindInMarks op b = false) : PE X (.Compare a [op] [b] pos) (tOp r ta tb) := by
  intro pins s σ H Q I h
  exact wpAny_Compare1 (e9 ha hb I h fun v u s2 x y H2 I2 rx ry q => ho pins s2 σ H2 x y v u Q I2 rx ry q) hm
def zv7 (t : TE) : TT := fun σ H Q => t σ H fun x H' => ∃ k, x = .bl k ∧ Q k H'
theorem J0 {op : CmpOp} {r : R2} (ho : OpR X (compareOp op) r) (ha : PE X a ta) (hb : PE X b tb) (hm : behindInMarks op b = false) : PT X (.Compare a [op] [b] pos) (zv7 (tOp r ta tb)) := by
  intro pins s σ H Q I h
  refine wpAny_isTrue_Compare1 (thn (ha pins s σ H _ I h) fun v s1 ⟨x, H1, I1, r1, q1⟩ => thn (hb pins s1 σ H1 _ I1 q1) fun u s2 ⟨y, H2, I2, r2, q2⟩ =>
    thn (ho pins s2 σ H2 x y v u _ I2 r1 r2 q2) fun c s3 ⟨z, H3, I3, r3, k, e, q3⟩ => ?_) hm
  subst e
  cases r3
  exact wpAny_truthy_bool ⟨H3, I3, q3⟩
theorem y6 : (sizeLine : Nat) < 2 ^ 63 := by rw [sizeLine_eq]; decide
theorem V4 {x : V} {us : List Value} (r : M0 [x] us) : ∃ u, us = [u] ∧ Q0 x u := by
  cases r with
  | cons r1 r2 => cases r2; exact ⟨_, rfl, r1⟩
end
end L2
namespace L2
open PySem PySem.Spec PyProof.Rows
structure ObjM (h : Heap) (x dx C : Addr) (mA : Str → Option Value) : Prop where
  obj : h.get? x = some (PySem.W.instObj C dx)
  ns : h.Ns1 dx mA
  ne : dx ≠ x
theorem qb0 {h : Heap} {dx : Addr} {mA : Str → Option Value} (n : h.Ns1 dx mA) : ∃ od, h.get? dx = some od ∧ ∀ name, PySem.W.lookIn name od = some (mA name) := by
  obtain ⟨o, es, ep, ho, hd, hk, _, hm⟩ := n
  refine ⟨o, ho, fun name => ?_⟩
  have e := hm name
  unfold nsFind findBy at e
  rw [← Array.find?_toList] at e
  unfold PySem.W.lookIn
  rw [hd]
  dsimp only
  split
  · rename_i y q
    rw [q] at e
    exact congrArg some e
  · rename_i q
    rw [q] at e
    have a : es.toList.any (·.refKey) = false := by
      rw [List.any_eq_false]
      intro y hy
      obtain ⟨z, t, hkey⟩ := hk y (Array.mem_toList_iff.mp hy)
      simp [DictEntry.refKey, hkey]
    have a' : ¬ es.toList.any (·.refKey) = true := by rw [a]; exact Bool.false_ne_true
    rw [if_neg a']
    exact congrArg some e
theorem ObjM.look {h : Heap} {x dx C : Addr} {mA : Str → Option Value} (I : ObjM h x dx C mA) : ∃ od, PySem.W.InstAt h x (PySem.W.instObj C dx) C (some od) ∧ ∀ name, PySem.W.lookIn name od = some (mA name) :=
  let ⟨od, ho, hl⟩ := qb0 I.ns
  ⟨od, ⟨I.obj, rfl, rfl, ho⟩, hl⟩
section
variable {prog : Program} {w : World} {A : Around} {E : Value → Shared → Prop} {s : Shared} {K : PySem.W.Frag} {x dx C f : Addr} {mA : Str → Option Value} {name : Str} {v : Value}
theorem qe7 {expr : Bool} {Q : Value → Shared → Prop} (X : K.In s.heap) (I : ObjM s.heap x dx C mA) (hg : PySem.W.plainGet K C name = true) (hh : PySem.W.hasDictIn K C = true)
    (ha : PySem.W.findIn K (.ref C) name = some none) (hv : mA name = some v) (hv' : PySem.W.handedIn v = true) (h : Q v { s with toks := s.toks + 1 }) :
    wpAny (model prog w) A (getAttr (.ref x) name expr) Q E s := by
  obtain ⟨od, J, hl⟩ := I.look
  exact PySem.W.get_value X J (PySem.W.plainGet_of hg).1 (PySem.W.findObj_own hh ha rfl (by rw [hl, hv])) hv' h
theorem qe6 {pl : Sem Bool} {Q : Value × List Value → Shared → Prop} (X : K.In s.heap) (I : ObjM s.heap x dx C mA) (hg : PySem.W.plainGet K C name = true)
    (hf : PySem.W.findIn K (.ref C) name = some (some (.ref f))) (ht : PySem.W.isFn K (.ref f) = true) (hv : mA name = none) (h : Q (.ref f, [.ref x]) s) :
    wpAny (model prog w) A (getMethod (.ref x) name pl) Q E s := by
  obtain ⟨od, J, hl⟩ := I.look
  exact PySem.W.method_fn X J (PySem.W.plainGet_of hg).1 (PySem.W.plainGet_of hg).2 hf (beq_iff_eq.mp ht) (by show (PySem.W.lookIn name od).map (·.isSome) = some false; rw [hl, hv]; rfl) h
theorem zG6 {ns : List Str} {Q : Unit → Shared → Prop} (X : K.In s.heap) (I : ObjM s.heap x dx C mA)
    (hs : PySem.W.findIn K (.ref C) "__setattr__" = some (some (.builtin "object.__setattr__"))) (hp : PySem.W.plainOver K C = true) (ht : PySem.W.takerIn K C name = some none) (hh : PySem.W.hasDictIn K C = true)
    (hw : PySem.Within mA ns) (hsz : ns.length ≤ sizeLine)
    (h : ∀ h', ObjM h' x dx C (fun y => if y = name then some v else mA y) → Heap.SameBut dx s.heap h' → Q () { s with heap := h', toks := s.toks + 2 }) :
    wpAny (model prog w) A (setAttr (.ref x) name v) Q E s := by
  obtain ⟨od, J, hl⟩ := I.look
  refine PySem.W.set_plain X J hs (PySem.W.osa_open (s := { s with toks := s.toks + 1 }) (r := none) X J hp ht fun b => ?_)
  obtain ⟨cd, hc, hd'⟩ := PySem.W.any_some hh
  have hx : s.heap.get? x = some ⟨.ref C, some dx, .plain, #[]⟩ := I.obj
  refine wpAny_bind (wpAny_pure (wpAny_bind (wpAny_bind (wpAny_loadPart hx (wpAny_bind (PySem.W.Looks.here (s := { s with toks := s.toks + 1 }) (PySem.W.looks_clsIn X hc) ?_))))))
  rw [hd']
  refine wpAny_pure (a := some dx) (wpAny_bind (wpAny_pure (wpAny_bind ?_)))
  refine wpAny_nsSet1 (s := { s with toks := s.toks + 1 }) I.ns fun h' hn2 hs2 => ?_
  obtain ⟨oD, esD, epD, hoD, hdD, hcD⟩ := hn2.count (PySem.Within.cons name v hw)
  refine wpAny_bind (wpAny_lookBehind hoD (by rw [hdD]; exact pastItsLine_dict (Nat.le_trans hcD (by rw [List.length_cons]; omega))) ?_)
  exact wpAny_pure (h _ ⟨(hs2.2 _ (Ne.symm I.ne)).trans I.obj, hn2, I.ne⟩ hs2)
theorem qa8 {R : Result → Shared → Prop} {vs : List Value} {kw : List (Str × Value)} (X : K.In s.heap) (hm : PySem.W.makesIn K C = true)
    (hi : PySem.W.findIn K (.ref C) "__init__" = some (some (.ref f))) (hf : PySem.W.typeIn K (.ref f) = some (.type "function"))
    (h : codeAny (model prog w) (A.under (.builtin "type.__call__" ⟨.ref C :: vs, kw⟩)) (.call (.ref f) ⟨.ref (s.heap.objs.size + 1) :: vs, kw⟩) (PySem.W.InitBack (s.heap.objs.size + 1) R)
      { s with heap := (s.heap.push PySem.W.emptyDict).push (PySem.W.instObj C s.heap.objs.size) }) :
    codeAny (model prog w) A (.call (.ref C) ⟨vs, kw⟩) R s := by
  obtain ⟨hh, g, d, t, os⟩ := s
  exact PySem.W.make_core (PySem.W.makes_of X hm) (PySem.W.looks_findIn X hi) (fun self => PySem.W.bind_fn X self hf) (.inl rfl) h
end
def K0 (f : Str) (v : V) : List (Str × V) → List (Str × V)
  | [] => [(f, v)]
  | (g, x) :: r => if g = f then (g, v) :: r else (g, x) :: K0 f v r
theorem zm6 (f g : Str) (v : V) : ∀ fs : List (Str × V), (K0 f v fs).lookup g = if g = f then some v else fs.lookup g
  | [] => by
    show List.lookup g [(f, v)] = _
    by_cases h : g = f
    · have hb : (g == f) = true := beq_iff_eq.mpr h
      simp only [List.lookup, hb, if_pos h]
    · have hb : (g == f) = false := beq_eq_false_iff_ne.mpr h
      simp only [List.lookup, hb, if_neg h]
  | (k, x) :: r => by
    have ih := zm6 f g v r
    rw [show K0 f v ((k, x) :: r) = (if k = f then (k, v) :: r else (k, x) :: K0 f v r) from rfl]
    by_cases hk : k = f
    · rw [if_pos hk]
      by_cases h : g = k
      · have hb : (g == k) = true := beq_iff_eq.mpr h
        simp only [List.lookup, hb, if_pos (h.trans hk)]
      · have hb : (g == k) = false := beq_eq_false_iff_ne.mpr h
        simp only [List.lookup, hb, if_neg (fun e : g = f => h (e.trans hk.symm))]
    · rw [if_neg hk]
      by_cases h : g = k
      · have hb : (g == k) = true := beq_iff_eq.mpr h
        simp only [List.lookup, hb, if_neg (fun e : g = f => hk (h.symm.trans e))]
      · have hb : (g == k) = false := beq_eq_false_iff_ne.mpr h
        simp only [List.lookup, hb]
        exact ih
theorem K8 (f : Str) (v : V) : ∀ fs : List (Str × V), f ∈ (K0 f v fs).map (·.1) ∧ ∀ g, g ∈ fs.map (·.1) → g ∈ (K0 f v fs).map (·.1)
  | [] => ⟨by simp [K0], fun g h => by simp at h⟩
  | (k, x) :: r => by
    obtain ⟨i1, i2⟩ := K8 f v r
    rw [show K0 f v ((k, x) :: r) = (if k = f then (k, v) :: r else (k, x) :: K0 f v r) from rfl]
    by_cases hk : k = f
    · rw [if_pos hk]
      subst hk
      exact ⟨by simp, fun g h => by simpa using h⟩
    · rw [if_neg hk]
      refine ⟨?_, fun g h => ?_⟩
      · rw [List.map_cons]
        exact List.mem_cons_of_mem _ i1
      · rw [List.map_cons] at h ⊢
        rcases List.mem_cons.mp h with e | e
        · exact List.mem_cons.mpr (.inl e)
        · exact List.mem_cons_of_mem _ (i2 g e)
theorem P4 (f : Str) (v : V) : ∀ fs : List (Str × V), (K0 f v fs).length ≤ fs.length + 1
  | [] => by simp [K0]
  | (k, x) :: r => by
    have ih := P4 f v r
    rw [show K0 f v ((k, x) :: r) = (if k = f then (k, v) :: r else (k, x) :: K0 f v r) from rfl]
    by_cases hk : k = f
    · rw [if_pos hk, List.length_cons, List.length_cons]; omega
    · rw [if_neg hk, List.length_cons, List.length_cons]; omega
theorem X5.some_of {v : V} {o : Option Value} (r : X5 (some v) o) : ∃ u, o = some u ∧ Q0 v u := by
  cases o with
  | none => exact (show False from r).elim
  | some u => exact ⟨u, rfl, r⟩
theorem X5.none_of {o : Option Value} (r : X5 none o) : o = none := by
  cases o with
  | none => rfl
  | some u => exact (show False from r).elim
theorem qe3 {v : V} {u : Value} (r : Q0 v u) : PySem.W.handedIn u = true := by
  cases v with
  | non => cases (show u = Value.none from r); rfl
  | bl b => cases (show u = Value.bool b from r); rfl
  | int i => obtain ⟨t, e⟩ := (show ∃ t, u = Value.int i t from r); cases e; rfl
  | str x => obtain ⟨t, e⟩ := (show ∃ t, u = Value.str x t from r); cases e; rfl
  | byt b => obtain ⟨t, e⟩ := (show ∃ t, u = Value.bytes b t from r); cases e; rfl
  | flt b => obtain ⟨t, e⟩ := (show ∃ t, u = Value.float b t from r); cases e; rfl
  | ref a => cases (show u = Value.ref a from r); rfl
  | ty n => cases (show u = Value.type n from r); rfl
section
variable {P : Program} {w : World} {H H' : Hp} {h h' : Heap} {a C dx : Addr} {fs fs' : List (Str × V)}
theorem M8 (hok : HOk P w H h) (e : H a = some (.ins C dx fs)) : ∃ mA, ObjM h a dx C mA ∧ (∀ f, X5 (fs.lookup f) (mA f)) ∧ PySem.Within mA (fs.map (·.1)) ∧ fs.length ≤ 1000 ∧ H dx = some (.own a) := by
  obtain ⟨d, z, ne, ob, mA, n, r, q⟩ := (show W1 P w H h a (.ins C dx fs) from hok a _ e)
  exact ⟨mA, ⟨ob, n, ne⟩, r, q, z, d⟩
end
structure Cls (K : PySem.W.Frag) (C : Addr) : Prop where
  pg : PySem.W.plainGet K C Str.empty = true
  hd : PySem.W.hasDictIn K C = true
  po : PySem.W.plainOver K C = true
  sa : PySem.W.findIn K (.ref C) "__setattr__" = some (some (.builtin "object.__setattr__"))
theorem Cls.get {K : PySem.W.Frag} {C : Addr} (c : Cls K C) (f : Str) : PySem.W.plainGet K C f = true := c.pg
def X3 (K : PySem.W.Frag) (C : Addr) (f : Str) : Prop := PySem.W.findIn K (.ref C) f = some none
theorem X3.taker {K : PySem.W.Frag} {C : Addr} {f : Str} (n : X3 K C f) : PySem.W.takerIn K C f = some none := by
  unfold PySem.W.takerIn
  rw [show PySem.W.findIn K (.ref C) f = some none from n]
  rfl
structure Meth (K : PySem.W.Frag) (C : Addr) (m : Str) (f : Addr) : Prop where
  at_ : PySem.W.findIn K (.ref C) m = some (some (.ref f))
  fn : PySem.W.isFn K (.ref f) = true
  kp : PySem.W.keepIn K (.ref f) = true
section
variable {X : Cx} {pins : List (Addr × Obj)} {σ : St} {H : Hp} {s : Shared} {a C dx : Addr} {fs : List (Str × V)} {f : Str} {v : V} {A : Around} {E : Value → Shared → Prop}
theorem qe5 {b : Bool} {Q : Value → Shared → Prop} (I : Inv X pins σ H s) (e : H a = some (.ins C dx fs)) (c : Cls X.K C) (n : X3 X.K C f) (l : fs.lookup f = some v)
    (h : ∀ u s', Inv X pins σ H s' → Q0 v u → Q u s') : wpAny (model X.prog X.w) A (getAttr (.ref a) f b) Q E s := by
  obtain ⟨mA, O, r, _, _, _⟩ := M8 I.hok e
  obtain ⟨u, hu, ru⟩ := X5.some_of (v := v) (o := mA f) (by rw [← l]; exact r f)
  exact qe7 I.kIn O (c.get f) c.hd n hu (qe3 ru) (h u _ (I.tok _) ru)
theorem zo8 {m : Str} {g : Addr} {pl : Sem Bool} {Q : Value × List Value → Shared → Prop} (I : Inv X pins σ H s) (e : H a = some (.ins C dx fs)) (c : Cls X.K C) (k : Meth X.K C m g) (l : fs.lookup m = none)
    (h : Q (.ref g, [.ref a]) s) : wpAny (model X.prog X.w) A (getMethod (.ref a) m pl) Q E s := by
  obtain ⟨mA, O, r, _, _, _⟩ := M8 I.hok e
  have hn : mA m = none := X5.none_of (by rw [← l]; exact r m)
  exact qe6 I.kIn O (c.get m) k.at_ k.fn hn h
theorem zG5 {y : V} {u : Value} {Q : Unit → Shared → Prop} (I : Inv X pins σ H s) (e : H a = some (.ins C dx fs)) (c : Cls X.K C) (n : X3 X.K C f) (hl : fs.length < 1000) (ry : Q0 y u)
    (h : ∀ s', Inv X pins σ (upd H a (.ins C dx (K0 f y fs))) s' → Q () s') : wpAny (model X.prog X.w) A (setAttr (.ref a) f u) Q E s := by
  obtain ⟨mA, O, r, wi, _, ho⟩ := M8 I.hok e
  have hz : (fs.map (·.1)).length ≤ sizeLine := by rw [List.length_map, sizeLine_eq]; omega
  refine zG6 I.kIn O c.sa c.po n.taker c.hd wi hz fun h' O' sb => h _ ?_
  have hd : ∃ o, h'.get? dx = some o := let ⟨o, _, _, e', _⟩ := O'.ns; ⟨o, e'⟩
  refine I.write (x := a) (e := dx) (by rw [e]; exact True.intro) (.inr ho) (fun b q hb z => (sb.2 b hb).trans z) hd ?_
  refine ⟨by rw [r0 O.ne]; exact ho, ?_, O.ne, O'.obj, _, O'.ns, fun g => ?_, fun g hg => ?_⟩
  · have := P4 f y fs; omega
  · show X5 ((K0 f y fs).lookup g) (if g = f then some u else mA g)
    rw [zm6]
    by_cases q : g = f
    · rw [if_pos q, if_pos q]; exact ry
    · rw [if_neg q, if_neg q]; exact r g
  · by_cases q : g = f
    · rw [q]; exact (K8 f y fs).1
    · refine (K8 f y fs).2 g (wi g fun z => hg ?_)
      show (if g = f then some u else mA g) = none
      rw [if_neg q]; exact z
theorem Inv.made (I : Inv X pins σ H s) : Inv X pins σ (upd (upd H s.heap.objs.size (.own (s.heap.objs.size + 1))) (s.heap.objs.size + 1) (.ins C s.heap.objs.size []))
    { s with heap := (s.heap.push PySem.W.emptyDict).push (PySem.W.instObj C s.heap.objs.size) } := by
  have e1 : (s.heap.push PySem.W.emptyDict).get? s.heap.objs.size = some PySem.W.emptyDict := Heap.get?_push_size s.heap rfl
  have e2 : ((s.heap.push PySem.W.emptyDict).push (PySem.W.instObj C s.heap.objs.size)).get? (s.heap.objs.size + 1) = some (PySem.W.instObj C s.heap.objs.size) := by
    have := Heap.get?_push_size (s.heap.push PySem.W.emptyDict) (o := PySem.W.instObj C s.heap.objs.size) rfl
    rwa [Heap.size_push] at this
  have e3 : (s.heap.push PySem.W.emptyDict).Ns s.heap.objs.size (fun _ => none) := ⟨PySem.W.emptyDict, #[], _, e1, rfl, (fun e he => absurd he (by simp)), fun _ => rfl⟩
  have I1 := I.laid (a := s.heap.objs.size) (o := .own (s.heap.objs.size + 1)) (h' := s.heap.push PySem.W.emptyDict) (t' := s.toks) (fun b u q => Heap.get?_push_of_some _ q) (Nat.le_refl _) ⟨_, e1⟩
  refine I1.laid (a := s.heap.objs.size + 1) (o := .ins C s.heap.objs.size []) (t' := s.toks) (fun b u q => Heap.get?_push_of_some _ q) (Nat.le_of_eq (Heap.size_push _ _)) ?_
  have ne : s.heap.objs.size ≠ s.heap.objs.size + 1 := Nat.ne_of_lt (Nat.lt_succ_self _)
  refine ⟨by rw [r0 ne, i0], Nat.zero_le _, ne, e2, fun _ => none, (Heap.Ns1.of_empty e3).at fun o q => Heap.get?_push_of_some _ q, fun _ => True.intro, fun y hy => absurd rfl hy⟩
theorem qi6 {prog : Program} {w : World} {env : Env} {e : Expr} {f : Str} {pos : Pos} {s : Shared} {Q : Value → Shared → Prop} (hb : attributeBase e f env (eval e env) = eval e env)
    (h : wpAny (model prog w) A (eval e env) (fun o s₁ => wpAny (model prog w) A (getAttr o f true) Q E s₁) E s) : wpAny (model prog w) A (eval (.Attribute e f pos) env) Q E s :=
  Attribute_any_ h (by rw [arm_eval_Attribute, hb])
end
def N6 (K : PySem.W.Frag) (ta : TE) (f : Str) : TE := fun σ H Q => ta σ H fun x H1 => ∃ a C dx fs v, x = .ref a ∧ H1 a = some (.ins C dx fs) ∧ Cls K C ∧ X3 K C f ∧ fs.lookup f = some v ∧ Q v H1
def zO7 (K : PySem.W.Frag) (ta tv : TE) (f : Str) : TS := fun D σ H => tv σ H fun y H1 => ta σ H1 fun x H2 => ∃ a C dx fs, x = .ref a ∧ H2 a = some (.ins C dx fs) ∧ Cls K C ∧ X3 K C f ∧ fs.length < 1000 ∧
  D.nx σ (upd H2 a (.ins C dx (K0 f y fs)))
section
variable {X : Cx} {o e value : Expr} {f : Str} {pos pos' tpos : Pos} {ta tv : TE}
theorem I0 (he : PE X e ta) (hb : attributeBase e f X.env (eval e X.env) = eval e X.env) : PE X (.Attribute e f pos) (N6 X.K ta f) := by
  intro pins s σ H Q I h
  refine qi6 hb (thn (he pins s σ H _ I h) fun u s1 ⟨x, H1, I1, rx, a, C, dx, fs, v, ex, ea, c, n, l, q⟩ => ?_)
  subst ex
  obtain rfl : u = Value.ref a := rx
  exact qe5 I1 ea c n l fun u' s2 I2 ru => ⟨v, H1, I2, ru, q⟩
theorem F4 (ha : PE X o ta) (hv : PE X value tv) (hs : swapsWith value (some (.Attribute o f pos')) pos.line X.env = pure false) : PS X (.Assign [.Attribute o f pos'] value pos) (zO7 X.K ta tv f) := by
  intro pins s σ H D I h
  refine plainObj_wpAny_Assign_Attribute (thn (hv pins s σ H _ I h) fun u s1 ⟨y, H1, I1, ry, q⟩ => thn (ha pins s1 σ H1 _ I1 q) fun ov s2 ⟨x, H2, I2, rx, a, C, dx, fs, ex, ea, c, n, l, q2⟩ => ?_) hs
  subst ex
  obtain rfl : ov = Value.ref a := rx
  exact zG5 I2 ea c n l ry fun s3 I3 => ⟨σ, _, I3, q2⟩
end
section
variable {X : Cx} {pins : List (Addr × Obj)} {σ : St} {H : Hp} {s : Shared} {A : Around} {E : Value → Shared → Prop} {Q : Value → Shared → Prop} {c : Value} {b : Bool}
end
end L2
namespace L2
open PySem PySem.Spec PyProof.Rows
structure Room (k : Nat) (A : Around) : Prop where
  hd : A.handled = none
  dp : A.depth + 3 * k + 5 < recursionLimit
  un : A.units + 16 * k + 200 < cLine
theorem Room.mono {j k : Nat} {A : Around} (r : Room k A) (h : j ≤ k) : Room j A := ⟨r.hd, by have := r.dp; omega, by have := r.un; omega⟩
theorem Room.deeper {k : Nat} {A : Around} (r : Room (k + 1) A) (env : Env) : Room k (A.deeper env) :=
  ⟨r.hd, by have := r.dp; show A.depth + 1 + 3 * k + 5 < _; omega, by have := r.un; show A.units + 3 + 16 * k + 200 < _; omega⟩
theorem Room.in1 {k : Nat} {A : Around} (r : Room (k + 1) A) : Room k A.in1 :=
  ⟨r.hd, by have := r.dp; show A.depth + 3 * k + 5 < _; omega, by have := r.un; show A.units + 1 + 16 * k + 200 < _; omega⟩
theorem qa9 {A : Around} {C : Addr} {us : List Value} {kw : List (Str × Value)} : (A.under (.builtin "type.__call__" ⟨.ref C :: us, kw⟩)).depth = A.depth + 1 := by
  first | rfl | simp [Around.under, Code.weight, Code.isCreation, Code.isGuard, Code.isCaller, Code.frames, Code.isFrame, guardIds]
theorem qa7 {A : Around} {C : Addr} {us : List Value} {kw : List (Str × Value)} : (A.under (.builtin "type.__call__" ⟨.ref C :: us, kw⟩)).units = A.units + 1 := by
  first | rfl | simp [Around.under, Code.cUnits, Code.frames, Code.isFrame]
theorem Room.make {k : Nat} {A : Around} (r : Room (k + 1) A) (C : Addr) (us : List Value) (kw : List (Str × Value)) : Room k (A.under (.builtin "type.__call__" ⟨.ref C :: us, kw⟩)) :=
  ⟨r.hd, by have := r.dp; rw [qa9]; omega, by have := r.un; rw [qa7]; omega⟩
theorem Room.depth {k : Nat} {A : Around} (r : Room k A) : A.depth < recursionLimit := by have := r.dp; omega
theorem Room.units0 {k : Nat} {A : Around} (r : Room k A) : A.units < cLine := by have := r.un; omega
def tNil : TA := fun _ H Q => Q [] H
def zx1 (ta : TE) (tr : TA) : TA := fun σ H Q => ta σ H fun x H1 => tr σ H1 fun xs H2 => Q (x :: xs) H2
section
variable {X : Cx} {e : Expr} {es : List Expr} {te : TE} {t : TA} {pos : Pos}
theorem c0 : PA X [] tNil := fun _ _ _ _ H Q I h => Calls.spliced_nil ⟨[], H, I, .nil, h⟩
theorem pa_cons (ha : PE X e te) (hr : PA X es t) (hs : starEach (e :: es) X.env = (false, eval e X.env) :: starEach es X.env := by rfl) : PA X (e :: es) (zx1 te t) := by
  intro pos pins s σ H Q I h
  rw [hs]
  show wpAny _ _ (spliced ((false, eval e X.env) :: backTo pos (starEach es X.env))) _ _ s
  refine Calls.spliced_cons (thn (ha pins s σ H _ I h) fun u s1 ⟨x, H1, I1, r1, q1⟩ => ?_)
  exact thn (hr pos pins s1 σ H1 _ I1 q1) fun us s2 ⟨xs, H2, I2, r2, q2⟩ => ⟨x :: xs, H2, I2, .cons r1 r2, q2⟩
def zv6 (t : TA) : TE := fun σ H Q => t σ H fun xs H1 => xs.length ≤ sizeLine ∧ ∀ p, H1 p = none → Q (.ref p) (upd H1 p (.tup xs))
def zw7 (t : TA) : TE := fun σ H Q => t σ H fun xs H1 => xs.length ≤ sizeLine ∧ ∀ p, H1 p = none → Q (.ref p) (upd H1 p (.lst xs))
theorem N3 {x1} (h : PA X es t) : PE X (.Tuple es x1 pos) (zv6 t) := by
  intro pins s σ H Q I hq
  refine wpAny_Tuple_spliced (thn (h pos pins s σ H _ I hq) fun us s1 ⟨xs, H1, I1, r, z, q⟩ => ⟨by rw [← r.length]; exact z, ?_⟩)
  have hf : H1 s1.heap.objs.size = none := I1.hok.fresh (Nat.le_refl _)
  refine ⟨.ref s1.heap.objs.size, upd H1 s1.heap.objs.size (.tup xs), I1.laid (t' := s1.toks) (fun b u e => Heap.get?_push_of_some _ e) (Nat.le_refl _) ?_, rfl, q _ hf⟩
  exact ⟨z, us, r, i9.new _ _⟩
theorem G0 (h : PA X es t) : PE X (.List es pos) (zw7 t) := by
  intro pins s σ H Q I hq
  refine wpAny_List_spliced (thn (h pos pins s σ H _ I hq) fun us s1 ⟨xs, H1, I1, r, z, q⟩ => ⟨by rw [← r.length]; exact z, ?_⟩)
  have hf : H1 s1.heap.objs.size = none := I1.hok.fresh (Nat.le_refl _)
  refine ⟨.ref s1.heap.objs.size, upd H1 s1.heap.objs.size (.lst xs), I1.laid (t' := s1.toks) (fun b u e => Heap.get?_push_of_some _ e) (Nat.le_refl _) ?_, rfl, q _ hf⟩
  exact ⟨z, us, 0, r, Heap.get?_push_size _ rfl⟩
end
abbrev Sp := List V → Hp → VK → XK → Prop
abbrev CXT := List Env → Hp → Shared → XK → Value → Shared → Prop
structure Env0 (P : Program) (w : World) (K : PySem.W.Frag) (mg : Str → Option Value) (base : Heap) (A : Around) (outer : List Env) (s : Shared) (H : Hp) : Prop where
  frames : A.frames = some outer
  mod : Mod K mg base
  bs : ∀ b o, base.get? b = some o → s.heap.get? b = some o ∧ H b = none
  bsz : base.objs.size ≤ s.heap.objs.size
  funs : s.heap.FunFrames base outer
  frf : ∀ b ∈ frs outer, H b = none
  hok : HOk P w H s.heap
  bare : AllBare s.gens
def CE (outer : List Env) (P : Program) (w : World) (H : Hp) (s : Shared) (Q : VK) (u : Value) (s' : Shared) : Prop :=
  ∃ v H', s'.os = s.os ∧ AllBare s'.gens ∧ Un (frs outer) [] H H' s.heap s'.heap ∧ HOk P w H' s'.heap ∧ Q0 v u ∧ Q v H'
def CR (CX : CXT) (outer : List Env) (P : Program) (w : World) (H : Hp) (s : Shared) (Q : VK) (E : XK) (r : Result) (s' : Shared) : Prop :=
  match r with
  | .ok (.ret u) => CE outer P w H s Q u s'
  | .ok _ => False
  | .error e => CX outer H s E e s'
structure FnOk (P : Program) (w : World) (K : PySem.W.Frag) (mg : Str → Option Value) (base : Heap) (CX : CXT) (k : Nat) (f : Addr) (fd : FuncData) (ps : List Str) (sp : Sp) : Prop where
  len : ∀ vs H Q E, sp vs H Q E → vs.length = ps.length
  run : ∀ (A : Around) (outer : List Env) (s : Shared) (H : Hp) (args : Args) (us : List Value) (vs : List V) (Q : VK) (E : XK), Room k A → Env0 P w K mg base A outer s H → BindsTo s fd args (ps.zip us) → M0 vs us → sp vs H Q E →
    codeAny (model P w) A (.call (.ref f) args) (CR CX outer P w H s Q E) s
theorem FnOk.mono {P : Program} {w : World} {K : PySem.W.Frag} {mg : Str → Option Value} {base : Heap} {CX : CXT} {j k : Nat} {f : Addr} {fd : FuncData} {ps : List Str} {sp : Sp} (F : FnOk P w K mg base CX j f fd ps sp) (h : j ≤ k) :
    FnOk P w K mg base CX k f fd ps sp := ⟨F.len, fun A outer s H args us vs Q E hr => F.run A outer s H args us vs Q E (hr.mono h)⟩
theorem FnOk.imp {P : Program} {w : World} {K : PySem.W.Frag} {mg : Str → Option Value} {base : Heap} {CX : CXT} {k : Nat} {f : Addr} {fd : FuncData} {ps : List Str} {sp sp' : Sp} (F : FnOk P w K mg base CX k f fd ps sp)
    (h : ∀ vs H Q E, sp' vs H Q E → sp vs H Q E) : FnOk P w K mg base CX k f fd ps sp' :=
  ⟨fun vs H Q E q => F.len vs H Q E (h _ _ _ _ q), fun A outer s H args us vs Q E hr he hb hv hs => F.run A outer s H args us vs Q E hr he hb hv (h _ _ _ _ hs)⟩
theorem Env0.make {P : Program} {w : World} {K : PySem.W.Frag} {mg : Str → Option Value} {base : Heap} {A : Around} {outer : List Env} {s : Shared} {H : Hp} (e : Env0 P w K mg base A outer s H) (C : Addr) (us : List Value) (kw : List (Str × Value)) :
    Env0 P w K mg base (A.under (.builtin "type.__call__" ⟨.ref C :: us, kw⟩)) outer s H := ⟨by first | exact e.frames | (simpa [Around.under, Code.envs, Code.isFrame, pushEnvs] using e.frames), e.mod, e.bs, e.bsz, e.funs, e.frf, e.hok, e.bare⟩
section
variable {X : Cx} {pins : List (Addr × Obj)} {σ : St} {H : Hp} {s s' : Shared}
theorem Inv.env0 (I : Inv X pins σ H s) : Env0 X.prog X.w X.K X.mg X.base X.A X.stack s H :=
  ⟨I.ok.frames, I.ok.mod, I.bs, Nat.le_trans I.ok.bsz I.sz, I.stack, I.stkFree, I.hok, I.bare⟩
theorem Inv.after {Q : VK} {u : Value} (I : Inv X pins σ H s) (h : CE X.stack X.prog X.w H s Q u s') : EP X pins σ Q u s' := by
  obtain ⟨v, H', os, bare, un, hok, r, q⟩ := h
  obtain ⟨hh, g, d, t, os'⟩ := s'
  obtain rfl : os' = s.os := os
  exact ⟨v, H', I.call (h' := hh) (g' := g) (d' := d) (t' := t) (ch := []) un hok bare (fun b z => absurd z (by simp)), r, q⟩
end
def zx2 (sp : Sp) (dvs : List V) (E : XK) (t : TA) : TE := fun σ H Q => t σ H fun vs H1 => sp (vs ++ dvs) H1 Q E
def x9 (C : Addr) (m : Str) (sp : Sp) (dvs : List V) (E : XK) (ta : TE) (t : TA) : TE := fun σ H Q => ta σ H fun x H1 => ∃ a dx fs, x = .ref a ∧ H1 a = some (.ins C dx fs) ∧ fs.lookup m = none ∧
  t σ H1 fun vs H2 => sp (x :: (vs ++ dvs)) H2 Q E
def zw6 (C : Addr) (sp : Sp) (dvs : List V) (E : XK) (t : TA) : TE := fun σ H Q => t σ H fun vs H1 => ∀ x dx, H1 x = none → H1 dx = none → dx ≠ x →
  sp (.ref x :: (vs ++ dvs)) (upd (upd H1 dx (.own x)) x (.ins C dx [])) (fun v H2 => v = .non ∧ Q (.ref x) H2) E
def y0 (K : PySem.W.Frag) (fd : FuncData) (ps : List Str) (ds : List Value) : Prop :=
  ∀ (s : Shared) (us : List Value), K.In s.heap → (us ++ ds).length = ps.length → BindsTo s fd ⟨us, []⟩ (ps.zip (us ++ ds))
theorem y0.all {K : PySem.W.Frag} {fd : FuncData} {ps : List Str} (h : ∀ us : List Value, us.length = ps.length → bindArgs fd ⟨us, []⟩ = pure (ps.zip us)) : y0 K fd ps [] := fun s us _ hl => by
  rw [List.append_nil] at hl ⊢
  exact .of_eq (h us hl)
def p5 (CX : CXT) (X : Cx) (E : XK) : Prop := ∀ (pins : List (Addr × Obj)) (σ : St) (H : Hp) (s : Shared) (e : Value) (s' : Shared), Inv X pins σ H s → CX X.stack H s E e s' → X.xe e s'
section
variable {X : Cx} {CX : CXT} {k : Nat} {f C : Addr} {fd : FuncData} {ps : List Str} {sp : Sp} {dvs : List V} {ds : List Value} {E : XK} {x m : Str} {p pos apos : Pos} {e o : Expr} {es : List Expr} {ta : TE} {t : TA}
theorem X7 {pins : List (Addr × Obj)} {σ : St} {H : Hp} {s : Shared} {Q : VK} {us : List Value} {vs : List V} (F : FnOk X.prog X.w X.K X.mg X.base CX k f fd ps sp) (hr : Room k X.A) (hb : y0 X.K fd ps ds) (hd : M0 dvs ds) (hx : p5 CX X E)
    (I : Inv X pins σ H s) (r : M0 vs us) (h : sp (vs ++ dvs) H Q E) : wpAny (model X.prog X.w) X.A (call (.ref f) us) (EP X pins σ Q) X.xe s := by
  have r2 : M0 (vs ++ dvs) (us ++ ds) := r.append hd
  have hl : (us ++ ds).length = ps.length := by rw [← r2.length]; exact F.len _ _ _ _ h
  refine wpAny_call (codeAny_mono (F.run X.A X.stack s H ⟨us, []⟩ (us ++ ds) (vs ++ dvs) Q E hr I.env0 (hb s us I.kIn hl) r2 h) fun r s' hq => ?_)
  cases r with
  | error e => exact hx pins σ H s e s' I hq
  | ok fl =>
    cases fl with
    | ret u => exact I.after hq
    | next => exact False.elim hq
    | brk => exact False.elim hq
    | cont => exact False.elim hq
theorem o0 (F : FnOk X.prog X.w X.K X.mg X.base CX k f fd ps sp) (hr : Room k X.A) (hg : Gl X x) (hm : X.mg x = some (.ref f)) (hk : PySem.W.keepIn X.K (.ref f) = true) (hb : y0 X.K fd ps ds) (hd : M0 dvs ds) (hx : p5 CX X E)
    (ha : PA X (e :: es) t) (hdb : (x == ("__debug__" : Str)) = false := by decide) (he : starEach (e :: es) X.env = (false, eval e X.env) :: starEach es X.env := by rfl) (hpl : (backTo pos (starEach es X.env)).any (·.1) = false := by rfl) :
    PE X (.Call (.Name x p) (e :: es) [] pos) (zx2 sp dvs E t) := by
  intro pins s σ H Q I h
  refine wpAny_Call_Name_kw (F8 I hg hm ?_ hdb)
  refine PySem.W.callWith_K (h₀ := X.base) I.ok.mod.kin hk (thn (ha pos pins s σ H _ I h) fun us s1 ⟨vs, H1, I1, r, q⟩ => ⟨I1.kIn, ?_⟩) he hpl
  exact X7 F hr hb hd hx I1 r q
theorem G1 {pl : Sem Bool} (he : PE X o ta) (c : Cls X.K C) (hm : Meth X.K C m f) (F : FnOk X.prog X.w X.K X.mg X.base CX k f fd ps sp) (hr : Room k X.A) (hb : y0 X.K fd ps ds) (hd : M0 dvs ds) (hx : p5 CX X E) (ha : PA X (e :: es) t)
    (hst : starEach (e :: es) X.env = (false, eval e X.env) :: starEach es X.env := by rfl) (hpl : (backTo pos (starEach es X.env)).any (·.1) = false := by rfl)
    (ht : eval (.Call (.Attribute o m apos) (e :: es) [] pos) X.env = (do
      let ov ← eval o X.env
      standAt apos.atName
      let (f, first) ← holding [ov] (getMethod ov m pl)
      callWith pos f first (backTo pos (starEach (e :: es) X.env)) (backToKw pos (keywordEach [] X.env))) := by rfl) :
    PE X (.Call (.Attribute o m apos) (e :: es) [] pos) (x9 C m sp dvs E ta t) := by
  intro pins s σ H Q I h
  refine PySem.W.methodCall_KW (pl := pl) (thn (he pins s σ H _ I h) fun u s1 ⟨x, H1, I1, rx, a, dx, fs, ex, ea, l, q⟩ => ?_) ht
  subst ex
  obtain rfl : u = Value.ref a := rx
  refine zo8 I1 ea c hm l ?_
  refine PySem.W.callWith_K (first := [.ref a]) (h₀ := X.base) I.ok.mod.kin hm.kp (thn (ha pos pins s1 σ H1 _ I1 q) fun us s2 ⟨vs, H2, I2, r, q2⟩ => ⟨I2.kIn, ?_⟩) hst hpl
  exact X7 (us := .ref a :: us) (vs := .ref a :: vs) F hr hb hd hx I2 (.cons rfl r) q2
theorem zi5 {pl : Sem Bool} (he : PE X o ta) (c : Cls X.K C) (hm : Meth X.K C m f) (F : FnOk X.prog X.w X.K X.mg X.base CX k f fd ps sp) (hr : Room k X.A) (hb : y0 X.K fd ps ds) (hd : M0 dvs ds) (hx : p5 CX X E)
    (ht : eval (.Call (.Attribute o m apos) [] [] pos) X.env = (do
      let ov ← eval o X.env
      standAt apos.atName
      let (f, first) ← holding [ov] (getMethod ov m pl)
      callWith pos f first (backTo pos (starEach [] X.env)) (backToKw pos (keywordEach [] X.env))) := by rfl) :
    PE X (.Call (.Attribute o m apos) [] [] pos) (x9 C m sp dvs E ta tNil) := by
  intro pins s σ H Q I h
  refine PySem.W.methodCall_KW (pl := pl) (thn (he pins s σ H _ I h) fun u s1 ⟨x, H1, I1, rx, a, dx, fs, ex, ea, l, q⟩ => ?_) ht
  subst ex
  obtain rfl : u = Value.ref a := rx
  refine zo8 I1 ea c hm l ?_
  exact PySem.W.callWith_K0 (first := [.ref a]) I1.kIn hm.kp (X7 (us := [.ref a]) (vs := [.ref a]) F hr hb hd hx I1 (.cons rfl .nil) q)
structure Mk (K : PySem.W.Frag) (C f : Addr) : Prop where
  makes : PySem.W.makesIn K C = true
  init : PySem.W.findIn K (.ref C) "__init__" = some (some (.ref f))
  fn : PySem.W.isFn K (.ref f) = true
  kp : PySem.W.keepIn K (.ref C) = true
theorem zO8 {pins : List (Addr × Obj)} {σ : St} {H : Hp} {s : Shared} {Q : VK} {us : List Value} {vs : List V} (M : Mk X.K C f) (F : FnOk X.prog X.w X.K X.mg X.base CX k f fd ps sp) (hr : Room (k + 1) X.A) (hb : y0 X.K fd ps ds) (hd : M0 dvs ds)
    (hx : p5 CX X E) (I : Inv X pins σ H s) (r : M0 vs us)
    (h : ∀ x dx, H x = none → H dx = none → dx ≠ x → sp (.ref x :: (vs ++ dvs)) (upd (upd H dx (.own x)) x (.ins C dx [])) (fun v H2 => v = .non ∧ Q (.ref x) H2) E) :
    wpAny (model X.prog X.w) X.A (call (.ref C) us) (EP X pins σ Q) X.xe s := by
  have hq := h (s.heap.objs.size + 1) s.heap.objs.size (I.hok.fresh (Nat.le_succ _)) (I.hok.fresh (Nat.le_refl _)) (Nat.ne_of_lt (Nat.lt_succ_self _))
  have I2 := Inv.made (C := C) I
  have r2 : M0 (V.ref (s.heap.objs.size + 1) :: (vs ++ dvs)) (Value.ref (s.heap.objs.size + 1) :: (us ++ ds)) := .cons rfl (r.append hd)
  have hl : (Value.ref (s.heap.objs.size + 1) :: us ++ ds).length = ps.length := by
    have e := r2.length
    rw [F.len _ _ _ _ hq] at e
    exact e.symm
  refine wpAny_call (qa8 (f := f) I.kIn M.makes M.init (beq_iff_eq.mp M.fn) (codeAny_mono (F.run _ X.stack _ _ ⟨Value.ref (s.heap.objs.size + 1) :: us, []⟩ (Value.ref (s.heap.objs.size + 1) :: (us ++ ds)) _ _ E (hr.make C us [])
    (I2.env0.make C us []) (hb _ (Value.ref (s.heap.objs.size + 1) :: us) I2.kIn hl) r2 hq) fun r s' hq' => ?_))
  cases r with
  | error e => exact hx pins σ _ _ e s' I2 hq'
  | ok fl =>
    cases fl with
    | ret u =>
      obtain ⟨v, H', I3, rv, ev, q3⟩ := I2.after hq'
      subst ev
      exact ⟨rv, ⟨V.ref (s.heap.objs.size + 1), H', I3, rfl, q3⟩⟩
    | next => exact False.elim hq'
    | brk => exact False.elim hq'
    | cont => exact False.elim hq'
theorem zS0 (M : Mk X.K C f) (F : FnOk X.prog X.w X.K X.mg X.base CX k f fd ps sp) (hr : Room (k + 1) X.A) (hg : Gl X x) (hm : X.mg x = some (.ref C)) (hb : y0 X.K fd ps ds) (hd : M0 dvs ds) (hx : p5 CX X E)
    (hdb : (x == ("__debug__" : Str)) = false := by decide) : PE X (.Call (.Name x p) [] [] pos) (zw6 C sp dvs E tNil) := by
  intro pins s σ H Q I h
  refine wpAny_Call_Name_kw (F8 I hg hm ?_ hdb)
  exact PySem.W.callWith_K0 I.kIn M.kp (zO8 (us := []) M F hr hb hd hx I .nil h)
end
section
variable {X : Cx} {CX : CXT} {k : Nat} {f C : Addr} {fd : FuncData} {ps ks : List Str} {sp : Sp} {E : XK} {x m : Str} {p pos apos kpos : Pos} {e o : Expr} {es : List Expr} {kws : List Keyword} {te ta : TE} {t tk : TA} {nm : Option Str}
variable {g : List Value → List Value → List Value} {gV : List V → List V → List V}
end
structure FnScope (N P : List Str) (sc : Scope) : Prop where
  kind : sc.kind = .function
  co : sc.isCoroutine = false
  gen : sc.isGenerator = false
  nd : N.Nodup
  pre : N.take P.length = P
  par : ∀ x ∈ P, sc.names.lookup x = some .local ∨ sc.names.lookup x = some .cell
  nofree : ∀ y ∈ sc.names, y.2 ≠ .free
theorem zt2 {kindOf : Str → Option NameKind} {x : Str} : ∀ {binds : List (Str × Value)} {m : Str → Option Value}, (∀ v, (x, v) ∉ binds) → bindL kindOf binds m x = m x
  | [], _, _ => rfl
  | (n, v) :: r, m, h => by
    unfold bindL
    rw [zt2 fun w hw => h w (List.mem_cons_of_mem _ hw)]
    split
    · have : x ≠ n := by rintro rfl; exact h v List.mem_cons_self
      simp [this]
    · rfl
theorem zt4 {kindOf : Str → Option NameKind} {x : Str} : ∀ {binds : List (Str × Value)} {m : Str → Option Value}, (∀ v, (x, v) ∉ binds) → bindC kindOf binds m x = m x
  | [], _, _ => rfl
  | (n, v) :: r, m, h => by
    unfold bindC
    rw [zt4 fun w hw => h w (List.mem_cons_of_mem _ hw)]
    split
    · rfl
    · have : x ≠ n := by rintro rfl; exact h v List.mem_cons_self
      simp [this]
theorem zt3 {kindOf : Str → Option NameKind} {x : Str} {v : Value} : ∀ {P : List Str} {vs : List Value} {i : Nat} {m : Str → Option Value}, P.Nodup → P[i]? = some x → vs[i]? = some v → kindOf x = some .local →
    bindL kindOf (P.zip vs) m x = some v
  | [], _, _, _, _, h, _, _ => by simp at h
  | _ :: _, [], _, _, _, _, h, _ => by simp at h
  | p :: P, w :: vs, 0, m, nd, h1, h2, hk => by
    simp at h1 h2; subst h1; subst h2
    show bindL kindOf ((p, w) :: P.zip vs) m p = _
    unfold bindL
    rw [zt2 fun v hv => (List.nodup_cons.mp nd).1 (List.of_mem_zip hv).1, if_pos hk]
    simp
  | p :: P, w :: vs, i + 1, m, nd, h1, h2, hk => by
    show bindL kindOf ((p, w) :: P.zip vs) m x = _
    unfold bindL
    exact zt3 (i := i) (List.nodup_cons.mp nd).2 (by simpa using h1) (by simpa using h2) hk
theorem zt5 {kindOf : Str → Option NameKind} {x : Str} {v : Value} : ∀ {P : List Str} {vs : List Value} {i : Nat} {m : Str → Option Value}, P.Nodup → P[i]? = some x → vs[i]? = some v → kindOf x ≠ some .local →
    bindC kindOf (P.zip vs) m x = some v
  | [], _, _, _, _, h, _, _ => by simp at h
  | _ :: _, [], _, _, _, _, h, _ => by simp at h
  | p :: P, w :: vs, 0, m, nd, h1, h2, hk => by
    simp at h1 h2; subst h1; subst h2
    show bindC kindOf ((p, w) :: P.zip vs) m p = _
    unfold bindC
    rw [zt4 fun v hv => (List.nodup_cons.mp nd).1 (List.of_mem_zip hv).1, if_neg hk]
    simp
  | p :: P, w :: vs, i + 1, m, nd, h1, h2, hk => by
    show bindC kindOf ((p, w) :: P.zip vs) m x = _
    unfold bindC
    exact zt5 (i := i) (List.nodup_cons.mp nd).2 (by simpa using h1) (by simpa using h2) hk
def start (N : List Str) (vs : List V) : St := vs.map some ++ List.replicate (N.length - vs.length) none
def j5 (CX : CXT) (P : Program) (w : World) (K : PySem.W.Frag) (mg : Str → Option Value) (base : Heap) (N : List Str) (qual : Str) (scope : Scope) (f : Addr) (cd : Value) (A : Around) (outer : List Env) (s : Shared) (H : Hp) (E : XK) : Cx where
  prog := P
  w := w
  K := K
  mg := mg
  base := base
  A := A.deeper (envOfC qual scope s.heap.objs.size f cd)
  N := N
  s_0 := s
  H_0 := H
  env := envOfC qual scope s.heap.objs.size f cd
  outer := outer
  stack := envOfC qual scope s.heap.objs.size f cd :: outer
  ex := []
  calm := true
  fn := fun _ => true
  pn := []
  xe := fun e s' => wpAny (model P w) (A.deeper (envOfC qual scope s.heap.objs.size f cd)) (leaving (envOfC qual scope s.heap.objs.size f cd) e) (fun _ s'' => CX outer H s E e s'') (fun e' s'' => CX outer H s E e' s'') s'
theorem zs4 {sc : Scope} {n : Nat} {x : Str} (h : sc.names.lookup x = some .cell) : ∃ c, (cellsFrom n sc.names []).lookup x = some c := by
  have q := PySem.W.cellsFrom_some sc.names n [] (.inl h)
  exact Option.isSome_iff_exists.mp q
theorem qd4 {CX : CXT} {P : Program} {w : World} {K : PySem.W.Frag} {mg : Str → Option Value} {base : Heap} {N ps : List Str} {qual : Str} {scope : Scope} {f : Addr} {cd : Value} {A : Around} {outer : List Env} {s s1 : Shared} {H : Hp} {E : XK} {us : List Value} {vs : List V}
    (S : FnScope N ps scope) (hd : A.handled = none) (e0 : Env0 P w K mg base A outer s H) (hl : vs.length = ps.length) (r : M0 vs us)
    (x : InCallC s s.heap.objs.size (bindL (envOfC qual scope s.heap.objs.size f cd).kindOf (ps.zip us) fun _ => none) (cellsFrom (s.heap.objs.size + 1) scope.names []) (bindC (envOfC qual scope s.heap.objs.size f cd).kindOf (ps.zip us) fun _ => none) s1) :
    Inv (j5 CX P w K mg base N qual scope f cd A outer s H E) [] (start N vs) H s1 := by
  have hpl : ps.length ≤ N.length := by have := congrArg List.length S.pre; rw [List.length_take] at this; omega
  obtain ⟨h1, tk, rfl, hk⟩ := x.done
  have noA : ∀ b : Addr, b ∉ (j5 CX P w K mg base N qual scope f cd A outer s H E).ex := fun b z => absurd (show b ∈ ([] : List Addr) from z) (by simp)
  refine ⟨⟨e0.mod, S.kind, rfl, rfl, Nat.le_refl _, fun y z c h1 h2 => ?_, fun y hy => ?_, fun y c _ h => ?_, fun _ => hd, Around.frames_deeper e0.frames, .inr ⟨rfl, rfl⟩, fun b z => absurd z (noA b), e0.bs, e0.bsz, fun b _ _ => noA b, fun b z => absurd z (noA b), e0.funs, e0.frf⟩,
    rfl, e0.bare, Un.kept hk, ⟨_, x.toInCall.ns, fun i y v h1 h2 h3 => ?_⟩, fun y c h => ⟨_, x.cell y c h⟩, e0.hok.fresh (Nat.le_refl _), fun y c h => ?_, fun p hp => absurd (show p ∈ ([] : List (Addr × Obj)) from hp) (by simp), e0.hok.kept hk, ?_⟩
  · exact name_of_addr x.apart (PySem.mem_of_lookup h1) (PySem.mem_of_lookup h2)
  · have hy : scope.names.lookup y = some .cell ∨ scope.names.lookup y = some .free := hy
    rcases hy with hy | hy
    · exact zs4 hy
    · exact absurd rfl (S.nofree _ (PySem.mem_of_lookup hy))
  · exact Nat.le_of_lt (x.above y c (PySem.mem_of_lookup h))
  · have hi : i < vs.length := by
      unfold start at h2
      by_cases hi : i < vs.length
      · exact hi
      · rw [List.getElem?_append_right (by simpa using hi)] at h2
        rw [List.getElem?_replicate] at h2
        split at h2 <;> cases h2
    have ha : vs[i]? = some v := by
      unfold start at h2
      rw [List.getElem?_append_left (by simpa using hi), List.getElem?_map] at h2
      cases e : vs[i]? with
      | none => rw [e] at h2; cases h2
      | some a => rw [e] at h2; cases h2; rfl
    obtain ⟨u, hu, rv⟩ := r.get ha
    have hp : ps[i]? = some y := by
      rw [← S.pre, List.getElem?_take_of_lt (by omega)]; exact h1
    have ndP : ps.Nodup := by rw [← S.pre]; exact S.nd.sublist (List.take_sublist _ _)
    refine ⟨u, rv, ?_⟩
    rcases S.par y (List.mem_of_getElem? hp) with k | k
    · exact .inl ⟨k, zt3 ndP hp hu k⟩
    · obtain ⟨c, e⟩ := zs4 (n := s.heap.objs.size + 1) k
      refine .inr ⟨.inl k, c, e, ?_⟩
      have q := x.cell y c e
      rw [zt5 ndP hp hu (by show scope.names.lookup y ≠ _; rw [k]; decide)] at q
      exact q
  · exact e0.hok.fresh (Nat.le_of_lt (x.above y c (PySem.mem_of_lookup h)))
  · unfold start
    show _ = N.length
    rw [List.length_append, List.length_map, List.length_replicate]
    omega
theorem zp4 {CX : CXT} {P : Program} {w : World} {K : PySem.W.Frag} {mg : Str → Option Value} {base : Heap} {k : Nat} {f : Addr} {name qual : Str} {params : Arguments} {body : List Stmt} {scope : Scope} {dV kV doc pm cdv ct oc : Value} {an od : Option Addr}
    {osl : Array (Option Value)} {N ps : List Str} {sp : Sp} (lk : K.lookup f = some ⟨oc, od, .func (PySem.W.fnOf name qual params body scope dV kV doc pm an cdv ct), osl⟩) (hcd : PySem.W.codeIn K cdv qual = true) (S : FnScope N ps scope)
    (len : ∀ vs H Q E, sp vs H Q E → vs.length = ps.length)
    (hbody : ∀ (A : Around) (outer : List Env) (s : Shared) (H : Hp) (vs : List V) (Q : VK) (E : XK), Room k (A.deeper (envOfC qual scope s.heap.objs.size f cdv)) → sp vs H Q E →
      ∃ t, PSs (j5 CX P w K mg base N qual scope f cdv A outer s H E) body t ∧ t { nx := fun _ H' => Q .non H', rt := Q } (start N vs) H) :
    FnOk P w K mg base CX (k + 1) f (PySem.W.fnOf name qual params body scope dV kV doc pm an cdv ct) ps sp := by
  refine ⟨len, fun A outer s H args us vs Q E hr e0 hb r hsp => ?_⟩
  have hl := len _ _ _ _ hsp
  have KX : K.In s.heap := e0.mod.kin.keeps fun b o e => (e0.bs b o e).1
  have lim : s.heap.NoLimit := e0.mod.nolimit.keeps fun b o e => (e0.bs b o e).1
  have hkind : ∀ y ∈ ps.zip us, scope.names.lookup y.1 = some .local ∨ (scope.names.lookup y.1 = some .cell ∧ ((cellsFrom (s.heap.objs.size + 1) scope.names []).lookup y.1).isSome = true) := fun ⟨n, v⟩ hy => by
    rcases S.par n (List.of_mem_zip hy).1 with q | q
    · exact .inl q
    · exact .inr ⟨q, PySem.W.cellsFrom_some _ _ _ (.inl q)⟩
  refine codeAny_call_function hr.depth (KX _ _ lk) rfl S.co S.gen rfl (PySem.W.codeRec_of KX hcd) (hb _ _ _ _ ?_)
  refine wpAny_newFunctionEnv_cells S.kind hkind fun env he s1 x => ?_
  subst he
  refine ⟨lim.keeps x.toInCall.keep, codeAny_func ?_⟩
  obtain ⟨t, ht, hq⟩ := hbody A outer s H vs Q E (hr.deeper _) hsp
  have I : Inv (j5 CX P w K mg base N qual scope f cdv A outer s H E) [] (start N vs) H s1 := qd4 S hr.hd e0 hl r x
  refine wpAny_mono (ht [] s1 (start N vs) H _ I hq) (fun fl s' hs => ?_) fun e s' hs => hs
  have fin : ∀ {σ' : St} {H' : Hp} {v : V} {u : Value}, Inv (j5 CX P w K mg base N qual scope f cdv A outer s H E) [] σ' H' s' → Q0 v u → Q v H' → CE outer P w H s Q u s' :=
    fun {σ' H' v u} J rv q => ⟨v, H', J.os, J.bare, J.base, J.hok, rv, q⟩
  cases fl with
  | ret u =>
    obtain ⟨v, σ', H', J, rv, q⟩ := hs
    exact fin J rv q
  | next =>
    obtain ⟨σ', H', J, q⟩ := hs
    exact fin (v := V.non) (u := Value.none) J rfl q
  | brk =>
    obtain ⟨_, _, _, q⟩ := hs
    exact False.elim q
  | cont =>
    obtain ⟨_, _, _, q⟩ := hs
    exact False.elim q
end L2
namespace L2
open PySem PySem.Spec PyProof.Rows
section
variable {X : Cx} {x : Str} {p pos : Pos} {e : Expr} {es : List Expr} {t : TA} {id T : String} {r : List V → Hp → VK → Prop}
def tCB (r : List V → Hp → VK → Prop) (t : TA) : TE := fun σ H Q => t σ H fun vs H1 => r vs H1 Q
theorem N0 (hc : K3 X (.builtin id) r) (hg : Gl X x) (hm : X.mg x = none) (hv : bootBuiltins x = some (.builtin id)) (ha : PA X (e :: es) t) (hn : x ≠ "__name__" := by decide) (hdb : (x == ("__debug__" : Str)) = false := by decide)
    (he : starEach (e :: es) X.env = (false, eval e X.env) :: starEach es X.env := by rfl) (hpl : (backTo pos (starEach es X.env)).any (·.1) = false := by rfl) : PE X (.Call (.Name x p) (e :: es) [] pos) (tCB r t) := by
  intro pins s σ H Q I h
  refine wpAny_Call_Name_kw (d5 I hg hm hv ?_ hn hdb)
  exact PyProof.Rows.callWith_builtin1 (thn (ha pos pins s σ H _ I h) fun us s1 ⟨vs, H1, I1, r1, q1⟩ => hc pins s1 σ H1 vs us Q I1 r1 q1) he hpl
theorem g2 (hc : K3 X (.type T) r) (hg : Gl X x) (hm : X.mg x = none) (hv : bootBuiltins x = some (.type T)) (ha : PA X (e :: es) t) (hn : x ≠ "__name__" := by decide) (hdb : (x == ("__debug__" : Str)) = false := by decide)
    (he : starEach (e :: es) X.env = (false, eval e X.env) :: starEach es X.env := by rfl) (hpl : (backTo pos (starEach es X.env)).any (·.1) = false := by rfl) : PE X (.Call (.Name x p) (e :: es) [] pos) (tCB r t) := by
  intro pins s σ H Q I h
  refine wpAny_Call_Name_kw (d5 I hg hm hv ?_ hn hdb)
  exact PyProof.Rows.callWith_type1 (thn (ha pos pins s σ H _ I h) fun us s1 ⟨vs, H1, I1, r1, q1⟩ => hc pins s1 σ H1 vs us Q I1 r1 q1) he hpl
end
end L2
namespace HT
open PySem PyProof.Rows
def lexLt : List Int → List Int → Bool
  | [], [] => false
  | [], _ :: _ => true
  | _ :: _, [] => false
  | x :: xs, y :: ys => if x = y then lexLt xs ys else decide (x < y)
theorem lexLt_cons (x y : Int) (xs ys : List Int) : lexLt (x :: xs) (y :: ys) = if x = y then lexLt xs ys else decide (x < y) := rfl
theorem lexLt_nil_nil : lexLt [] [] = false := rfl
theorem qb2 (y : Int) (ys : List Int) : lexLt [] (y :: ys) = true := rfl
theorem qb3 (x : Int) (xs : List Int) : lexLt (x :: xs) [] = false := rfl
theorem qg0 (A : Around) (s : Shared) (a : Int) (t : Tok) (c : Int) (u : Tok) : ∃ e, SeqAt.EqAt A s (.int a t) (.int c u) e ∧ (e = true ↔ a = c) :=
  ⟨(a == c), SeqAt.EqAt.int_int a t c u, by simp⟩
theorem zP9 (A : Around) (s : Shared) (a : Int) (t : Tok) (c : Int) (u : Tok) (prog : Program) (w : World) (E : Value → Shared → Prop) (Q : Value → Shared → Prop) (h : Q (.bool (decide (a < c))) s) :
    wpAny (model prog w) A (richCompare .Lt (.int a t) (.int c u)) Q E s :=
  (PyProof.Rows.lt_int h : wpAny (model prog w) A (compareOp .Lt (.int a t) (.int c u)) Q E s)
section
open PySem.SeqAt
open PySem.AutoSeq1 (wpAny_loadPart')
open PySem.MeetsSeq PySem.MeetsSeq2 PySem.MeetsSeq3
theorem zv3 (l b : Addr) (items items2 : Array Value) (n n2 : Nat) (dd dd2 : Option Addr) (sl sl2 : Array (Option Value)) (ns ms : List Int) (hi : IntsAre items.toList ns) (hj : IntsAre items2.toList ms) :
    Meets (Builtin.«tuple.__lt__» ⟨[.ref l, .ref b], []⟩)
      (fun _ R s => s.heap.get? l = some { cls := .type "tuple", dict := dd, data := .seq items n, slots := sl } ∧ s.heap.get? b = some { cls := .type "tuple", dict := dd2, data := .seq items2 n2, slots := sl2 } ∧
        R (.ok (.ret (.bool (lexLt ns ms)))) s) :=
  .of_wp fun prog w A R s h => by
    obtain ⟨hp, g, d, tk, os⟩ := s; obtain ⟨hl, hb, h⟩ := h
    have f2 := AutoSeq1.sub_tuple_tuple
    have z1 : items.size = ns.length := by rw [← hi.length]; simp
    have z2 : items2.size = ms.length := by rw [← hj.length]; simp
    wp_walk using wpAny_loadPart' hl, wpAny_loadPart' hb, wpAny_forIn_list _ (fun rest b s' => b.1 = none ∧ s' = ⟨hp, g, d, tk, os⟩ ∧ ∃ (vs ws : List Value) (ns' ms' : List Int), rest = vs.zip ws ∧
      IntsAre vs ns' ∧ IntsAre ws ms' ∧ ns'.length + items2.size = ms'.length + items.size ∧ R (.ok (.ret (.bool (lexLt ns' ms')))) ⟨hp, g, d, tk, os⟩) _
    case turn =>
      rintro ⟨y, x⟩ rest b s' ⟨hb', rfl, vs, ws, ns', ms', hz, hvi, hwi, hlen, hR⟩
      cases hvi with
      | nil => rw [List.zip_nil_left] at hz; cases hz
      | cons a t hvi' =>
        cases hwi with
        | nil => rw [List.zip_nil_right] at hz; cases hz
        | cons c u hwi' =>
          rw [List.zip_cons_cons] at hz
          injection hz with hyx hrest
          injection hyx with hy hx
          subst hy hx
          rw [lexLt_cons] at hR
          simp only [List.length_cons] at hlen
          obtain ⟨e, he, hiff⟩ := qg0 A.in1 ⟨hp, g, d, tk, os⟩ a t c u
          refine wpAny_bind (he prog w _ _ ?_)
          cases e with
          | true =>
            rw [if_pos (hiff.mp rfl)] at hR
            wp_walk
            exact ⟨rfl, rfl, _, _, _, _, hrest, hvi', hwi', by omega, hR⟩
          | false =>
            rw [if_neg (fun q => absurd (hiff.mpr q) Bool.false_ne_true)] at hR
            have hri := zP9 A.in1 ⟨hp, g, d, tk, os⟩ a t c u prog w
            wp_walk using hri
            exact ⟨_, rfl, by simpa using hR⟩
    case fin =>
      rintro ⟨b1, b2⟩ s' ⟨hb', rfl, vs, ws, ns', ms', hz, hvi, hwi, hlen, hR⟩
      simp only at hb'
      subst hb'
      have hv : lexLt ns' ms' = decide (items.size < items2.size) := by
        cases hvi with
        | nil =>
          cases hwi with
          | nil =>
            simp only [List.length_nil] at hlen
            rw [lexLt_nil_nil]
            exact (decide_eq_false (by omega)).symm
          | cons c u hw =>
            simp only [List.length_nil, List.length_cons] at hlen
            rw [qb2]
            exact (decide_eq_true (by omega)).symm
        | cons a t hv =>
          cases hwi with
          | nil =>
            simp only [List.length_nil, List.length_cons] at hlen
            rw [qb3]
            exact (decide_eq_false (by omega)).symm
          | cons c u hw =>
            rw [List.zip_cons_cons] at hz
            cases hz
      rw [hv] at hR
      wp_walk
      exact ⟨_, rfl, by simpa [Builtin.Tuple.tupleCompareSizes] using hR⟩
    case h =>
      exact ⟨rfl, rfl, items.toList, items2.toList, ns, ms, rfl, hi, hj, by omega, h⟩
end
section
variable {prog : Program} {w : World} {A : Around} {E : Value → Shared → Prop} {s : Shared}
theorem lt_tupInts {l b : Addr} {items items2 : Array Value} {ns ms : List Int} {Q : Value → Shared → Prop} (hl : IsTup s.heap l items) (hb : IsTup s.heap b items2) (hi : IntsAre items.toList ns) (hj : IntsAre items2.toList ms)
    (hu : A.units < cLine) (h : Q (.bool (lexLt ns ms)) s) : wpAny (model prog w) A (compareOp .Lt (.ref l) (.ref b)) Q E s := by
  obtain ⟨⟨cls, dd, data, sl⟩, ho, hc, n, hd⟩ := id hl
  obtain ⟨⟨cls2, dd2, data2, sl2⟩, ho2, hc2, n2, hd2⟩ := id hb
  simp only at hc hd hc2 hd2
  subst hc hd hc2 hd2
  exact richCompare_meets_room (op := .Lt) ⟨_, ho, rfl⟩ ⟨_, ho2, rfl⟩ PySem.F.slot_tuple_lt PySem.F.entry_tuple_lt (PySem.F.args_tuple_lt_2 _ _) (zv3 l b items items2 n n2 dd dd2 sl sl2 ns ms hi hj)
    ⟨ho, ho2, show Value.bool (lexLt ns ms) ≠ Value.notImplemented ∧ Q (.bool (lexLt ns ms)) s from ⟨(fun x => nomatch x), h⟩⟩ hu
theorem cat_tup {t b : Addr} {vs ws : List Value} {Q : Value → Shared → Prop} (ht : IsTup s.heap t vs.toArray) (hb : IsTup s.heap b ws.toArray) (hv : vs ≠ [])
    (h1 : ws = [] → Q (.ref t) s) (h2 : ws ≠ [] → Q (.ref s.heap.objs.size) { s with heap := s.heap.push { cls := .type "tuple", data := .seq (vs ++ ws).toArray } })
    (hsz : vs.length + ws.length ≤ sizeLine) : wpAny (model prog w) A (binaryOp .Add (.ref t) (.ref b)) Q E s := by
  obtain ⟨⟨cls, dd, data, sl⟩, ho, hc, n, hd⟩ := id ht
  obtain ⟨⟨cls2, dd2, data2, sl2⟩, ho2, hc2, n2, hd2⟩ := id hb
  simp only at hc hd hc2 hd2
  subst hc hd hc2 hd2
  have e : vs.toArray ++ ws.toArray = (vs ++ ws).toArray := by simp
  by_cases hw : ws = []
  · exact concat_meets ⟨_, ho, rfl⟩ ⟨_, ho2, rfl⟩ noFill_tuple_add seq_tuple_add PySem.F.slot_tuple_add PySem.F.entry_tuple_add (PySem.F.args_tuple_add_2 _ _)
      (tuple_addW1 t b vs.toArray ws.toArray n n2 dd dd2 sl sl2 (by simpa using hv) (by simp [hw])) ⟨ho, ho2, h1 hw⟩
  · refine concat_meets ⟨_, ho, rfl⟩ ⟨_, ho2, rfl⟩ noFill_tuple_add seq_tuple_add PySem.F.slot_tuple_add PySem.F.entry_tuple_add (PySem.F.args_tuple_add_2 _ _)
      (tuple_addW2 t b vs.toArray ws.toArray n n2 dd dd2 sl sl2 (by simpa using hv) (by simpa using hw) (by rw [List.size_toArray, List.size_toArray]; exact hsz)) ⟨ho, ho2, ?_⟩
    rw [e]
    exact h2 hw
def sIx (n d : Nat) : Option Int → Nat
  | none => d
  | some v => if v < 0 then (v + (n : Int)).toNat else min v.toNat n
theorem sIx_none (n d : Nat) : sIx n d none = d := rfl
theorem sIx_nat (n d k : Nat) : sIx n d (some (k : Int)) = min k n := by
  show (if (k : Int) < 0 then ((k : Int) + (n : Int)).toNat else min (k : Int).toNat n) = min k n
  rw [if_neg (by omega), Int.toNat_natCast]
theorem zO6 (n d : Nat) (hd : d ≤ n) (o : Option Int) : sIx n d o ≤ n := by
  cases o with
  | none => exact hd
  | some v =>
    show (if v < 0 then (v + (n : Int)).toNat else min v.toNat n) ≤ n
    by_cases hv : v < 0
    · rw [if_pos hv]; omega
    · rw [if_neg hv]; exact Nat.min_le_right _ _
theorem zs2 (v : Int) (n d : Nat) : (if v < 0 then max (v + (n : Int)) 0 else min v (n : Int)) = ((sIx n d (some v) : Nat) : Int) := by
  show (if v < 0 then max (v + (n : Int)) 0 else min v (n : Int)) = (((if v < 0 then (v + (n : Int)).toNat else min v.toNat n) : Nat) : Int)
  by_cases hv : v < 0
  · simp only [if_pos hv]; omega
  · simp only [if_neg hv]; omega
theorem qj6 (lo hi : Option Int) (n : Nat) : Builtin.Slice.sliceAdjust lo hi 1 (n : Int) = (((sIx n 0 lo : Nat) : Int), ((sIx n n hi : Nat) : Int)) := by
  have h1 : ¬ ((1 : Int) < 0) := by omega
  unfold Builtin.Slice.sliceAdjust
  simp only [h1, if_false]
  refine Prod.ext ?_ ?_
  · cases lo with
    | none => rfl
    | some v => exact zs2 v n 0
  · cases hi with
    | none => rfl
    | some v => exact zs2 v n n
theorem zR1 (i j : Nat) : Builtin.Slice.slicePlaces (i : Int) (j : Int) 1 = j - i := by
  unfold Builtin.Slice.slicePlaces
  have h1 : (1 : Int) > 0 := by omega
  simp only [h1, if_true, Int.ediv_one]
  split <;> omega
theorem J9 {v : Value} {o : Option Int} {Q : Option Int → Shared → Prop} (p : IsPart v o) (h : Q o s) : wpAny (model prog w) A (Builtin.Slice.slicePartIndex v) Q E s := by
  cases p with
  | none => exact slicePart_none h
  | int i t => exact slicePart_int h
theorem zG3 {sl : Addr} {vl vu : Value} {lo hi : Option Int} {n : Nat} {Q : Int × Int × Nat → Shared → Prop} (hs : s.heap.IsSliceOf sl vl vu .none) (pl : IsPart vl lo) (pu : IsPart vu hi)
    (h : Q (((sIx n 0 lo : Nat) : Int), 1, sIx n n hi - sIx n 0 lo) s) : wpAny (model prog w) A (Builtin.Slice.sliceApplied (.ref sl) (pure (n : Int))) Q E s := by
  obtain ⟨os, hos, hcs, hds⟩ := id hs
  unfold Builtin.Slice.sliceApplied Builtin.Slice.sliceFields
  refine wpAny_bind (wpAny_bind (wpAny_field hos hds (x := vl) rfl (wpAny_bind (wpAny_field hos hds (x := vu) rfl (wpAny_bind (wpAny_field hos hds (x := .none) rfl (wpAny_pure ?_)))))))
  refine wpAny_bind (slicePart_none ?_)
  show wpAny _ _ (if ((1 : Int) == 0) = true then _ else _) _ _ s
  rw [if_neg (by decide)]
  refine wpAny_bind (J9 pl (wpAny_bind (J9 pu (wpAny_bind (wpAny_pure ?_)))))
  show wpAny _ _ (match Builtin.Slice.sliceAdjust lo hi 1 (n : Int) with | (lo, hi) => pure (lo, (1 : Int), Builtin.Slice.slicePlaces lo hi 1)) _ _ s
  rw [qj6 lo hi n]
  show wpAny _ _ (pure (((sIx n 0 lo : Nat) : Int), (1 : Int), Builtin.Slice.slicePlaces ((sIx n 0 lo : Nat) : Int) ((sIx n n hi : Nat) : Int) 1)) _ _ s
  rw [zR1]
  exact wpAny_pure h
theorem zR2 (xs : Array Value) (i k : Nat) : ((List.range k).filterMap fun (m : Nat) => xs[((i : Int) + (m : Int) * 1).toNat]?).toArray = ((xs.toList.drop i).take k).toArray := by
  have e : (fun (m : Nat) => xs[((i : Int) + (m : Int) * 1).toNat]?) = fun m => xs[i + m]? := by
    funext m
    have : ((i : Int) + (m : Int) * 1).toNat = i + m := by omega
    rw [this]
  rw [e]
  have := pick_run xs i k
  rw [List.filterMap_map] at this
  have e2 : ((fun x => xs[x]?) ∘ fun x => i + x) = fun m => xs[i + m]? := rfl
  rw [e2] at this
  rw [this]
theorem getItem_tuple_cut {t sl : Addr} {items : Array Value} {vl vu : Value} {lo hi : Option Int} {Q : Value → Shared → Prop} (ht : IsTup s.heap t items) (hs : s.heap.IsSliceOf sl vl vu .none) (pl : IsPart vl lo) (pu : IsPart vu hi)
    (hw : ¬ (sIx items.size 0 lo = 0 ∧ sIx items.size items.size hi = items.size))
    (h : Q (.ref s.heap.objs.size) { s with heap := s.heap.push { cls := .type "tuple", data := .seq ((items.toList.drop (sIx items.size 0 lo)).take (sIx items.size items.size hi - sIx items.size 0 lo)).toArray } })
    (hsz : items.size ≤ sizeLine) : wpAny (model prog w) A (getItem (.ref t) (.ref sl)) Q E s := by
  have htake : sizeOk (.seq ((items.toList.drop (sIx items.size 0 lo)).take (sIx items.size items.size hi - sIx items.size 0 lo)).toArray) := by
    show ((items.toList.drop (sIx items.size 0 lo)).take (sIx items.size items.size hi - sIx items.size 0 lo)).toArray.size ≤ sizeLine
    rw [List.size_toArray, List.length_take, List.length_drop, Array.length_toList]
    omega
  have hj : sIx items.size items.size hi ≤ items.size := zO6 _ _ (Nat.le_refl _) hi
  obtain ⟨os, hos, hcs, hds⟩ := id hs
  have hTs : s.TypeIs (.ref sl) "slice" := ⟨os, hos, hcs⟩
  unfold getItem
  try with_reducible refine wpAny_holding ?_
  first | refine wpAny_bind (wpAny_pure ?_) | skip
  refine wpAny_bind (wpAny_sequenceKey ht.typeIs (by decide) ?_)
  refine wpAny_bind (wpAny_callSpecial?_slot (name := Str.ofString "__getitem__") ht.typeIs PyProof.Rows.slot_tuple_getitem
    (wpAny_call_entry PyProof.Rows.slot_tuple_getitem ht.typeIs entry_tuple_getitem ?_ (args_tuple_getitem _ _)))
  show wpAny _ _ (Builtin.Tuple.tupleItemsOf (.ref t) >>= _) _ _ s
  refine wpAny_bind (tupleItemsOf_ ht ?_)
  refine wpAny_bind (wpAny_typeOf hTs ?_)
  rw [if_pos (by decide)]
  refine wpAny_bind (zG3 hs pl pu ?_)
  have hno : ¬ ((((sIx items.size 0 lo : Nat) : Int) == 0 && (1 : Int) == 1 && (sIx items.size items.size hi - sIx items.size 0 lo) == items.size) = true) := by
    intro q
    rw [Bool.and_eq_true, Bool.and_eq_true] at q
    have q1 : ((sIx items.size 0 lo : Nat) : Int) = 0 := eq_of_beq q.1.1
    have q2 : sIx items.size items.size hi - sIx items.size 0 lo = items.size := eq_of_beq q.2
    exact hw ⟨by omega, by omega⟩
  show wpAny _ _ (if (((sIx items.size 0 lo : Nat) : Int) == 0 && (1 : Int) == 1 && (sIx items.size items.size hi - sIx items.size 0 lo) == items.size) = true then _ else _) _ _ s
  rw [if_neg hno, zR2]
  first
    | exact wpAny_bind (m := Builtin.Tuple.tupleExact _) (wpAny_newObj_type (wpAny_pure ⟨_, rfl, wpAny_pure h⟩) htake)
    | exact wpAny_bind (m := Builtin.Tuple.tupleExact _) (wpAny_newObj_type (wpAny_bind (wpAny_pure (wpAny_pure ⟨_, rfl, wpAny_pure h⟩))) htake)
    | exact wpAny_bind (wpAny_bind (m := Builtin.Tuple.tupleExact _) (wpAny_newObj_type (wpAny_pure (wpAny_pure ⟨_, rfl, wpAny_pure h⟩)) htake))
    | exact wpAny_bind (wpAny_bind (m := Builtin.Tuple.tupleExact _) (wpAny_newObj_type (wpAny_pure ⟨_, rfl, wpAny_pure h⟩) htake))
end
end HT
namespace L2
open PySem PySem.Spec PyProof.Rows
abbrev TO := St → Hp → (Option Int → Hp → Prop) → Prop
def PO (X : Cx) (e : Option Expr) (t : TO) : Prop :=
  ∀ (pins : List (Addr × Obj)) (s : Shared) (σ : St) (H : Hp) (Q : Option Int → Hp → Prop), Inv X pins σ H s → t σ H Q →
    wpAny (model X.prog X.w) X.A (evalPart e X.env) (fun u s' => ∃ o H', Inv X pins σ H' s' ∧ IsPart u o ∧ Q o H') X.xe s
def tNoPart : TO := fun _ H Q => Q none H
def zw1 (t : TE) : TO := fun σ H Q => t σ H fun x H1 => ∃ i, x = .int i ∧ Q (some i) H1
theorem L8 {ns : List Int} : ∀ {us : List Value}, M0 (ns.map V.int) us → IntsAre us ns := by
  induction ns with
  | nil => intro us r; rw [List.map_nil] at r; cases r; exact .nil
  | cons n ns ih =>
    intro us r
    rw [List.map_cons] at r
    cases r with
    | cons r1 r2 =>
      obtain ⟨t, e⟩ := r1
      subst e
      exact .cons n t (ih r2)
section
variable {X : Cx} {e : Expr} {te : TE} {lo hi : Option Expr} {tl th : TO} {pos p2 : Pos}
theorem E5 : PO X none tNoPart := by
  intro pins s σ H Q I h
  rw [evalPart_none]
  exact wpAny_pure ⟨none, H, I, .none, h⟩
theorem G4 (h : PE X e te) : PO X (some e) (zw1 te) := by
  intro pins s σ H Q I hw
  rw [evalPart_some]
  refine thn (h pins s σ H _ I hw) fun u s1 ⟨x, H1, I1, r1, q1⟩ => ?_
  obtain ⟨i, rfl, q⟩ := q1
  obtain ⟨t, rfl⟩ := r1
  exact ⟨some i, H1, I1, .int i t, q⟩
def SlR (X : Cx) (r : V → Option Int → Option Int → Hp → VK → Prop) : Prop :=
  ∀ (pins : List (Addr × Obj)) (s : Shared) (σ : St) (H : Hp) (x : V) (v vl vu : Value) (lo hi : Option Int) (sl : Addr) (Q : VK), Inv X pins σ H s → Q0 x v → s.heap.IsSliceOf sl vl vu .none → IsPart vl lo → IsPart vu hi → r x lo hi H Q →
    ∃ T id, typeLookup (.type T) "__getitem__" = pure (some (.builtin id)) ∧ s.TypeIs v T ∧ wpAny (model X.prog X.w) X.A (getItem v (.ref sl)) (EP X pins σ Q) X.xe s
def tSl (r : V → Option Int → Option Int → Hp → VK → Prop) (te : TE) (tl th : TO) : TE := fun σ H Q => te σ H fun x H1 => tl σ H1 fun l H2 => th σ H2 fun u H3 => r x l u H3 Q
theorem Y4 {r : V → Option Int → Option Int → Hp → VK → Prop} (hr : SlR X r) (he : PE X e te) (hl : PO X lo tl) (hu : PO X hi th) : PE X (.Subscript e (.Slice lo hi none p2) pos) (tSl r te tl th) := by
  intro pins s σ H Q I h
  refine Subscript_ (thn (he pins s σ H _ I h) fun v s1 ⟨x, H1, I1, r1, q1⟩ => ?_)
  refine wpAny_Slice (thn (hl pins s1 σ H1 _ I1 q1) fun vl s2 ⟨l, H2, I2, pl, q2⟩ => thn (hu pins s2 σ H2 _ I2 q2) fun vu s3 ⟨u, H3, I3, pu, q3⟩ => ?_)
  rw [evalPart_none]
  refine wpAny_pure ?_
  have I4 : Inv X pins σ H3 { s3 with heap := s3.heap.push { cls := .type "slice", data := .fields #[vl, vu, .none] } } := I3.kept (t' := s3.toks) fun b ob q => Heap.get?_push_of_some _ q
  obtain ⟨T, id, hT, ht, hg⟩ := hr pins { s3 with heap := s3.heap.push { cls := .type "slice", data := .fields #[vl, vu, .none] } } σ H3 x v vl vu l u s3.heap.objs.size Q I4 r1 (Heap.IsSliceOf.new ..) pl pu q3
  show wpAny (model X.prog X.w) X.A (subscriptTail e (.Slice lo hi none p2) v (.ref s3.heap.objs.size)) (EP X pins σ Q) X.xe { s3 with heap := s3.heap.push { cls := .type "slice", data := .fields #[vl, vu, .none] } }
  exact tail_any (ops := [.ref s3.heap.objs.size, v]) ht hT hg (by with_unfolding_all rfl)
def U1 (xs : List V) (lo hi : Option Int) : List V := (xs.drop (HT.sIx xs.length 0 lo)).take (HT.sIx xs.length xs.length hi - HT.sIx xs.length 0 lo)
theorem zr4 (xs : List V) (lo hi : Option Int) : (U1 xs lo hi).length ≤ xs.length := by
  unfold U1
  rw [List.length_take, List.length_drop]
  omega
def zQ1 (K : PySem.W.Frag) : V → Option Int → Option Int → Hp → VK → Prop := fun x lo hi H Q => ∃ a xs, x = .ref a ∧ SqT K H a xs ∧
  ¬ (HT.sIx xs.length 0 lo = 0 ∧ HT.sIx xs.length xs.length hi = xs.length) ∧ ∀ p, H p = none → Q (.ref p) (upd H p (.tup (U1 xs lo hi)))
theorem zG4 : SlR X (zQ1 X.K) := by
  intro pins s σ H x v vl vu lo hi sl Q I rx hs pl pu h
  obtain ⟨a, xs, rfl, hx, hw, q⟩ := h
  cases rx
  obtain ⟨its, r, ht, hz⟩ := I.tuple hx
  have hlen : its.toArray.size = xs.length := by rw [List.size_toArray]; exact r.length.symm
  refine ⟨"tuple", _, PyProof.Rows.slot_tuple_getitem.lookup, ht.typeIs, ?_⟩
  refine HT.getItem_tuple_cut ht hs pl pu (by rw [hlen]; exact hw) ?_ (by rw [hlen]; exact hz)
  rw [hlen]
  refine ⟨.ref s.heap.objs.size, _, I.laid (t' := s.toks) (o := .tup (U1 xs lo hi)) (fun b ob q => Heap.get?_push_of_some _ q) (Nat.le_refl _) ?_, rfl, q _ (I.hok.fresh (Nat.le_refl _))⟩
  exact ⟨Nat.le_trans (zr4 xs lo hi) hz, _, (r.drop (HT.sIx xs.length 0 lo)).take (HT.sIx xs.length xs.length hi - HT.sIx xs.length 0 lo), i9.new _ _⟩
def zQ4 (K : PySem.W.Frag) : R2 := fun x y H Q => ∃ a b xs ys, x = .ref a ∧ y = .ref b ∧ SqT K H a xs ∧ SqT K H b ys ∧ xs ≠ [] ∧ xs.length + ys.length ≤ sizeLine ∧
  (ys = [] → Q (.ref a) H) ∧ (ys ≠ [] → ∀ p, H p = none → Q (.ref p) (upd H p (.tup (xs ++ ys))))
theorem M0.nil_iff {xs : List V} {us : List Value} (r : M0 xs us) : us = [] ↔ xs = [] := by
  cases r with
  | nil => simp
  | cons _ _ => simp
theorem zS6 : OpR X (binaryOp .Add) (zQ4 X.K) := by
  intro pins s σ H x y v u Q I rx ry h
  obtain ⟨a, b, xs, ys, rfl, rfl, ha, hb, hx, hz, q1, q2⟩ := h
  cases rx
  cases ry
  obtain ⟨its, r1, p1, _⟩ := I.tuple ha
  obtain ⟨its2, r2, p2, _⟩ := I.tuple hb
  refine HT.cat_tup p1 p2 (fun z => hx (r1.nil_iff.mp z)) (fun z => ⟨.ref a, H, I, rfl, q1 (r2.nil_iff.mp z)⟩) (fun z => ?_) (by rw [← r1.length, ← r2.length]; exact hz)
  refine ⟨.ref s.heap.objs.size, _, I.laid (t' := s.toks) (o := .tup (xs ++ ys)) (fun b ob q => Heap.get?_push_of_some _ q) (Nat.le_refl _) ?_, rfl, q2 (fun w => z (r2.nil_iff.mpr w)) _ (I.hok.fresh (Nat.le_refl _))⟩
  exact ⟨by rw [List.length_append]; exact hz, _, r1.append r2, i9.new _ _⟩
end
end L2
namespace L2
open PySem PySem.Spec PyProof.Rows
def ixN (n : Nat) (i : Int) : Option Nat := if 0 ≤ i then (if i < n then some i.toNat else none) else if -(n : Int) ≤ i then some (i + n).toNat else none
def atI {α : Type} (xs : List α) (i : Int) : Option α := (ixN xs.length i).bind fun j => xs[j]?
theorem zo0 {n : Nat} {i : Int} {j : Nat} (h : ixN n i = some j) : seqIndex? i n = some j ∧ j < n ∧ -(n : Int) ≤ i ∧ i < n := by
  unfold ixN at h
  by_cases h0 : 0 ≤ i
  · rw [if_pos h0] at h
    by_cases h1 : i < n
    · rw [if_pos h1] at h
      have e : i.toNat = j := Option.some.inj h
      exact ⟨by rw [seqIndex_of h0 h1, e], by omega, by omega, h1⟩
    · rw [if_neg h1] at h; cases h
  · rw [if_neg h0] at h
    by_cases h1 : -(n : Int) ≤ i
    · rw [if_pos h1] at h
      have e : (i + n).toNat = j := Option.some.inj h
      exact ⟨by rw [seqIndex_neg (by omega) h1, e], by omega, h1, by omega⟩
    · rw [if_neg h1] at h; cases h
theorem g9 {α : Type} {xs : List α} {i : Int} {v : α} (h : atI xs i = some v) : ∃ j, seqIndex? i xs.length = some j ∧ xs[j]? = some v ∧ j < xs.length ∧ -(xs.length : Int) ≤ i ∧ i < xs.length := by
  unfold atI at h
  cases e : ixN xs.length i with
  | none => rw [e] at h; cases h
  | some j =>
    rw [e] at h
    obtain ⟨h1, h2, h3, h4⟩ := zo0 e
    exact ⟨j, h1, h, h2, h3, h4⟩
theorem t4 {α : Type} {xs : List α} {j : Nat} {v : α} (h : xs[j]? = some v) : atI xs (j : Int) = some v := by
  have hj : j < xs.length := (List.getElem?_eq_some_iff.mp h).1
  have e : ixN xs.length (j : Int) = some j := by
    unfold ixN
    rw [if_pos (by omega), if_pos (by omega)]; simp
  unfold atI; rw [e]; exact h
theorem zt7 {α : Type} (xs : List α) (v : α) : atI (xs ++ [v]) (-1) = some v := by
  have hl : (xs ++ [v]).length = xs.length + 1 := by simp
  have e : ixN (xs ++ [v]).length (-1) = some xs.length := by
    unfold ixN
    rw [hl, if_neg (by decide), if_pos (by omega)]
    congr 1
    omega
  unfold atI
  rw [e]
  show (xs ++ [v])[xs.length]? = some v
  simp
def qk0 (b : Expr) : Prop := ∀ o i, subscripted b false o i = operate [o, i] (getItem o i)
def IxR (X : Cx) (r : R2) : Prop :=
  ∀ (value slice : Expr) (pins : List (Addr × Obj)) (s : Shared) (σ : St) (H : Hp) (x y : V) (v u : Value) (Q : VK), Inv X pins σ H s → Q0 x v → Q0 y u → r x y H Q →
    subscripted slice false v u = operate [v, u] (getItem v u) → wpAny (model X.prog X.w) X.A (subscriptTail value slice v u) (EP X pins σ Q) X.xe s
def MtR (X : Cx) (id : String) (r : V → List V → Hp → VK → Prop) : Prop :=
  ∀ (pins : List (Addr × Obj)) (s : Shared) (σ : St) (H : Hp) (x : V) (xs : List V) (v : Value) (us : List Value) (Q : VK), Inv X pins σ H s → Q0 x v → M0 xs us → r x xs H Q →
    wpAny (model X.prog X.w) X.A (call (.builtin id) (v :: us)) (EP X pins σ Q) X.xe s
section
variable {X : Cx} {a b : Expr} {ta tb : TE} {pos : Pos}
theorem IxR.or {r r' : R2} (h : IxR X r) (h' : IxR X r') : IxR X (fun x y H Q => r x y H Q ∨ r' x y H Q) := by
  intro value slice pins s σ H x y v u Q I rx ry q hs
  rcases q with q | q
  · exact h value slice pins s σ H x y v u Q I rx ry q hs
  · exact h' value slice pins s σ H x y v u Q I rx ry q hs
theorem pe_ix {r : R2} (hr : IxR X r) (ha : PE X a ta) (hb : PE X b tb) (hs : qk0 b) : PE X (.Subscript a b pos) (tOp r ta tb) := by
  intro pins s σ H Q I h
  exact Subscript_ (e9 ha hb I h fun v u s2 x y H2 I2 rx ry q => hr a b pins s2 σ H2 x y v u Q I2 rx ry q (hs _ _))
def b8 (K : PySem.W.Frag) : R2 := fun x y H Q => ∃ p xs i v, x = .ref p ∧ y = .int i ∧ SqL K H p xs ∧ atI xs i = some v ∧ Q v H
def D4 (K : PySem.W.Frag) : R2 := fun x y H Q => ∃ p xs i v, x = .ref p ∧ y = .int i ∧ SqT K H p xs ∧ atI xs i = some v ∧ Q v H
def rIxS : R2 := fun x y H Q => ∃ z i c, x = .str z ∧ y = .int i ∧ z.length ≤ sizeLine ∧ atI z.cps.toList i = some c ∧ Q (.str ⟨#[c]⟩) H
theorem ix_list : IxR X (b8 X.K) := by
  intro value slice pins s σ H x y v u Q I rx ry h hs
  obtain ⟨p, xs, i, z, rfl, rfl, hq, he, q⟩ := h
  cases rx
  obtain ⟨t, rfl⟩ := ry
  obtain ⟨its, r, pl, hz⟩ := I.list hq
  obtain ⟨j, h1, h2, h3, h4, h5⟩ := g9 he
  obtain ⟨w, ew, rw'⟩ := r.get h2
  have hl := r.length
  have hn := y6
  have fin : EP X pins σ Q w s := ⟨z, H, I, rw', q⟩
  by_cases h0 : 0 ≤ i
  · have hj : i.toNat = j := by
      rw [seqIndex_of h0 h5] at h1
      exact Option.some.inj h1
    exact item_listR pl.isList h0 (by omega) (by rw [hj]; simpa using ew) fin hs
  · have hj : (i + (its.toArray.size : Int)).toNat = j := by
      rw [seqIndex_neg (by omega) h4] at h1
      rw [List.size_toArray, ← hl]
      exact Option.some.inj h1
    exact subscriptTail_builtinR (x := w) pl.isList.typeIs slot_list_getitem.lookup
      (wpAny_getItem_list_neg (Q := fun r s' => r = w ∧ EP X pins σ Q r s') pl.isList (by omega) (by rw [List.size_toArray] <;> omega) (by omega) (by rw [hj]; simpa using ew) ⟨rfl, fin⟩) hs
theorem j1 : IxR X (D4 X.K) := by
  intro value slice pins s σ H x y v u Q I rx ry h hs
  obtain ⟨p, xs, i, z, rfl, rfl, hq, he, q⟩ := h
  cases rx
  obtain ⟨t, rfl⟩ := ry
  obtain ⟨its, r, pl, hz⟩ := I.tuple hq
  obtain ⟨j, h1, h2, h3, h4, h5⟩ := g9 he
  obtain ⟨w, ew, rw'⟩ := r.get h2
  have hl := r.length
  have hn := y6
  have fin : EP X pins σ Q w s := ⟨z, H, I, rw', q⟩
  exact subscriptTail_builtinR (x := w) pl.typeIs slot_tuple_getitem.lookup
    (getItem_tuple (j := j) (Q := fun r s' => r = w ∧ EP X pins σ Q r s') pl (by omega) (by omega) (by rw [List.size_toArray, ← hl]; exact h1) (by simpa using ew) ⟨rfl, fin⟩) hs
theorem qd1 : IxR X rIxS := by
  intro value slice pins s σ H x y v u Q I rx ry h hs
  obtain ⟨z, i, c, rfl, rfl, hz, he, q⟩ := h
  obtain ⟨t, rfl⟩ := rx
  obtain ⟨t', rfl⟩ := ry
  obtain ⟨j, h1, h2, h3, h4, h5⟩ := g9 he
  have hl : z.cps.toList.length = z.length := by simp [Str.length]
  rw [hl] at h1 h4 h5
  have hn := y6
  exact tail_any (typeIs_str s z t) slot_str_getitem.lookup (getItem_str (c := c) (by
    have e1 : decide (i < -(2 ^ 63 : Int)) = false := decide_eq_false (by omega)
    have e2 : decide (i ≥ 2 ^ 63) = false := decide_eq_false (by omega)
    rw [e1, e2, Bool.or_false]) (by rw [h1]; simpa using h2) ⟨.str ⟨#[c]⟩, H, I.tok _, ⟨_, rfl⟩, q⟩) hs
def rIx (K : PySem.W.Frag) : R2 := fun x y H Q => b8 K x y H Q ∨ D4 K x y H Q ∨ rIxS x y H Q
theorem qd2 : IxR X (rIx X.K) := ix_list.or (j1.or qd1)
theorem qa6 (its : List Value) (n j : Nat) (u : Value) : Obj.mapSeq (·.setIfInBounds j u) { cls := .type "list", data := .seq its.toArray n } = { cls := .type "list", data := .seq (its.set j u).toArray n } := by
  simp [Obj.mapSeq]
theorem Inv.lst {pins : List (Addr × Obj)} {σ : St} {H : Hp} {s : Shared} {p : Addr} {xs : List V} (I : Inv X pins σ H s) (h : H p = some (.lst xs)) :
    ∃ (its : List Value) (n : Nat), M0 xs its ∧ s.heap.get? p = some { cls := .type "list", data := .seq its.toArray n } ∧ xs.length ≤ sizeLine := by
  obtain ⟨z, its, n, r, e⟩ := I.hok p _ h
  exact ⟨its, n, r, e, z⟩
theorem Inv.lstUpd {pins : List (Addr × Obj)} {σ : St} {H : Hp} {s : Shared} {p : Addr} {xs ys : List V} {its its' : List Value} {n n' : Nat} {f : Obj → Obj} (I : Inv X pins σ H s) (h : H p = some (.lst xs))
    (ho : s.heap.get? p = some { cls := .type "list", data := .seq its.toArray n }) (hf : f { cls := .type "list", data := .seq its.toArray n } = { cls := .type "list", data := .seq its'.toArray n' }) (r : M0 ys its') (hz : ys.length ≤ sizeLine) (t : Nat) :
    Inv X pins σ (upd H p (.lst ys)) { s with heap := s.heap.update p f, toks := t } := by
  have e : (s.heap.update p f).get? p = some { cls := .type "list", data := .seq its'.toArray n' } := by
    rw [Heap.get?_update_self f ho (by rw [hf] <;> rfl), hf]
  refine I.write (x := p) (e := p) (by rw [h]; trivial) (.inl rfl) (fun b u hb q => (Heap.get?_update_other _ _ (Ne.symm hb)).trans q) ⟨_, e⟩ ?_
  exact ⟨hz, its', n', r, e⟩
def rSetL : V → V → V → Hp → (Hp → Prop) → Prop := fun o i v H Q => ∃ p xs k j, o = .ref p ∧ i = .int k ∧ H p = some (.lst xs) ∧ ixN xs.length k = some j ∧ Q (upd H p (.lst (xs.set j v)))
theorem Z3 : zu1 X rSetL := by
  intro pins s σ H o i v ov iv u Q I ro ri rv h
  obtain ⟨p, xs, k, j, rfl, rfl, hp, hj, q⟩ := h
  cases ro
  obtain ⟨t, rfl⟩ := ri
  obtain ⟨its, n, r, ho, hz⟩ := I.lst hp
  obtain ⟨h1, h2, h3, h4⟩ := zo0 hj
  have hl := r.length
  have hn := y6
  have I' : Inv X pins σ (upd H p (.lst (xs.set j v))) { s with heap := s.heap.update p (Obj.mapSeq (·.setIfInBounds j u)) } :=
    I.lstUpd hp ho (qa6 its n j u) (r.set rv j) (by rw [List.length_set]; exact hz) s.toks
  by_cases h0 : 0 ≤ k
  · have hk : k.toNat = j := by
      rw [seqIndex_of h0 h4] at h1
      exact Option.some.inj h1
    exact PySem.W.ki_setAt ho h0 (by omega) (by rw [List.size_toArray, ← hl]; exact h4) (by rw [hk]; exact ⟨_, I', q⟩)
  · have hk : (k + (its.toArray.size : Int)).toNat = j := by
      rw [seqIndex_neg (by omega) h3] at h1
      rw [List.size_toArray, ← hl]
      exact Option.some.inj h1
    exact PySem.W.ki_setBack ho (by omega) (by rw [List.size_toArray, ← hl]; exact h3) (by omega) (by rw [hk]; exact ⟨_, I', q⟩)
theorem zG1 (lo hi : Option Int) (n : Nat) : (sliceBounds lo hi none n).1 = ((HT.sIx n 0 lo : Nat) : Int) ∧ (sliceBounds lo hi none n).2.1 = ((HT.sIx n n hi : Nat) : Int) ∧ (sliceBounds lo hi none n).2.2 = 1 := by
  refine ⟨?_, ?_, rfl⟩
  · cases lo with
    | none => simp [sliceBounds, HT.sIx]
    | some i =>
      simp only [sliceBounds, HT.sIx, Option.getD_none, show (1 : Int) > 0 by decide, if_true]
      by_cases h : i < 0
      · simp only [h, if_true] <;> omega
      · simp only [h, if_false] <;> omega
  · cases hi with
    | none => simp [sliceBounds, HT.sIx]
    | some i =>
      simp only [sliceBounds, HT.sIx, Option.getD_none, show (1 : Int) > 0 by decide, if_true]
      by_cases h : i < 0
      · simp only [h, if_true] <;> omega
      · simp only [h, if_false] <;> omega
theorem zG2 (its : List Value) (lo hi : Option Int) : slicePick its.toArray lo hi none = ((its.drop (HT.sIx its.length 0 lo)).take (HT.sIx its.length its.length hi - HT.sIx its.length 0 lo)).toArray := by
  obtain ⟨h1, h2, h3⟩ := zG1 lo hi its.toArray.size
  unfold slicePick
  rw [h1, h2, h3]
  simp only [sliceRange_one, pick_run, List.size_toArray] <;> rfl
def zQ2 (K : PySem.W.Frag) : V → Option Int → Option Int → Hp → VK → Prop := fun x lo hi H Q => ∃ a xs, x = .ref a ∧ SqL K H a xs ∧ ∀ p, H p = none → Q (.ref p) (upd H p (.lst (U1 xs lo hi)))
theorem C5 : SlR X (zQ2 X.K) := by
  intro pins s σ H x v vl vu lo hi sl Q I rx hs pl pu h
  obtain ⟨a, xs, rfl, hx, q⟩ := h
  cases rx
  obtain ⟨its, r, ht, hz⟩ := I.list hx
  have hlen := r.length
  refine ⟨"list", _, slot_list_getitem.lookup, ht.isList.typeIs, ?_⟩
  refine wpAny_getItem_list_slice ht.isList hs pl pu .none (by simp) ?_ (by rw [List.size_toArray] <;> omega)
  rw [zG2, ← hlen]
  refine ⟨.ref s.heap.objs.size, _, I.laid (t' := s.toks) (o := .lst (U1 xs lo hi)) (fun b ob q => Heap.get?_push_of_some _ q) (Nat.le_refl _) ?_, rfl, q _ (I.hok.fresh (Nat.le_refl _))⟩
  exact ⟨Nat.le_trans (zr4 xs lo hi) hz, _, 0, (r.drop (HT.sIx xs.length 0 lo)).take (HT.sIx xs.length xs.length hi - HT.sIx xs.length 0 lo), Heap.get?_push_size _ rfl⟩
def d3 : V → Bool
  | .non => true
  | .bl _ => true
  | .int _ => true
  | .str _ => true
  | _ => false
def eqV : V → V → Bool
  | .non, .non => true
  | .bl a, .bl b => a == b
  | .bl a, .int b => (if a then 1 else 0) == b
  | .int a, .bl b => a == (if b then 1 else 0)
  | .int a, .int b => a == b
  | .str a, .str b => a == b
  | _, _ => false
theorem qg1 {A : Around} {s : Shared} {y x : V} {u v : Value} (ry : Q0 y u) (rx : Q0 x v) (fy : d3 y = true) (fx : d3 x = true) : SeqAt.EqAt A s u v (eqV y x) := by
  cases y with
  | non =>
    cases ry
    cases x with
    | non => cases rx; exact SeqAt.EqAt.same _
    | bl b => cases rx; exact SeqAt.EqAt.none_bool b
    | int b => obtain ⟨t, rfl⟩ := rx; exact SeqAt.EqAt.none_int b t
    | str b => obtain ⟨t, rfl⟩ := rx; exact SeqAt.EqAt.none_str b t
    | _ => exact absurd (show false = true from fx) Bool.false_ne_true
  | bl a =>
    cases ry
    cases x with
    | non => cases rx; exact SeqAt.EqAt.bool_none a
    | bl b => cases rx; exact SeqAt.EqAt.bool_bool a b
    | int b => obtain ⟨t, rfl⟩ := rx; exact SeqAt.EqAt.bool_int a b t
    | str b => obtain ⟨t, rfl⟩ := rx; exact SeqAt.EqAt.bool_str a b t
    | _ => exact absurd (show false = true from fx) Bool.false_ne_true
  | int a =>
    obtain ⟨t', rfl⟩ := ry
    cases x with
    | non => cases rx; exact SeqAt.EqAt.int_none a t'
    | bl b => cases rx; exact SeqAt.EqAt.int_bool a t' b
    | int b => obtain ⟨t, rfl⟩ := rx; exact SeqAt.EqAt.int_int a t' b t
    | str b => obtain ⟨t, rfl⟩ := rx; exact SeqAt.EqAt.int_str a t' b t
    | _ => exact absurd (show false = true from fx) Bool.false_ne_true
  | str a =>
    obtain ⟨t', rfl⟩ := ry
    cases x with
    | non => cases rx; exact SeqAt.EqAt.str_none a t'
    | bl b => cases rx; exact SeqAt.EqAt.str_bool a t' b
    | int b => obtain ⟨t, rfl⟩ := rx; exact SeqAt.EqAt.str_int a t' b t
    | str b => obtain ⟨t, rfl⟩ := rx; exact SeqAt.EqAt.str_str a t' b t
    | _ => exact absurd (show false = true from fx) Bool.false_ne_true
  | _ => exact absurd (show false = true from fy) Bool.false_ne_true
def eqU (x : V) (u : Value) : Bool := match u with
  | .none => eqV .non x
  | .bool b => eqV (.bl b) x
  | .int i _ => eqV (.int i) x
  | .str z _ => eqV (.str z) x
  | _ => false
theorem C7 {x y : V} {u : Value} (r : Q0 y u) (f : d3 y = true) : eqU x u = eqV y x := by
  cases y with
  | non => cases r; rfl
  | bl b => cases r; rfl
  | int i => obtain ⟨t, rfl⟩ := r; rfl
  | str z => obtain ⟨t, rfl⟩ := r; rfl
  | _ => exact absurd (show false = true from f) Bool.false_ne_true
theorem F6 {x : V} : ∀ {xs : List V} {us : List Value}, M0 xs us → xs.all d3 = true → us.any (eqU x) = xs.any fun y => eqV y x
  | _, _, .nil, _ => rfl
  | y :: xs, u :: us, .cons r t, f => by
    rw [List.all_cons, Bool.and_eq_true] at f
    rw [List.any_cons, List.any_cons, C7 r f.1, F6 t f.2]
theorem O5 {A : Around} {s : Shared} {x : V} {v : Value} (rx : Q0 x v) (fx : d3 x = true) : ∀ {xs : List V} {us : List Value}, M0 xs us → xs.all d3 = true → ∀ u ∈ us, SeqAt.EqAt A s u v (eqU x u)
  | _, _, .nil, _ => fun u hu => by cases hu
  | y :: xs, u :: us, .cons r t, f => fun u' hu => by
    rw [List.all_cons, Bool.and_eq_true] at f
    rcases List.mem_cons.mp hu with rfl | hu
    · rw [C7 r f.1]; exact qg1 r rx f.1 fx
    · exact O5 rx fx t f.2 u' hu
def inV (x : V) (xs : List V) : Bool := xs.any fun y => eqV y x
def rIn (K : PySem.W.Frag) (neg : Bool) : R2 := fun x y H Q => ∃ p xs, y = .ref p ∧ (SqL K H p xs ∨ SqT K H p xs) ∧ d3 x = true ∧ xs.all d3 = true ∧ Q (.bl (if neg then !inV x xs else inV x xs)) H
theorem o8 : OpR X (compareOp .In) (rIn X.K false) := by
  intro pins s σ H x y v u Q I rx ry h
  obtain ⟨p, xs, rfl, hq, fx, fs, q⟩ := h
  cases ry
  rcases hq with hq | hq
  · obtain ⟨its, r, pl, hz⟩ := I.list hq
    refine SeqAt.in_listAt (eqU x) pl.isList (fun w hw => O5 rx fx r fs w (by simpa using hw)) ⟨.bl _, H, I, rfl, ?_⟩
    rw [show its.toArray.any (eqU x) = its.any (eqU x) by simp, F6 r fs]
    exact q
  · obtain ⟨its, r, pl, hz⟩ := I.tuple hq
    refine SeqAt.in_tupleAt (eqU x) pl (fun w hw => O5 rx fx r fs w (by simpa using hw)) ⟨.bl _, H, I, rfl, ?_⟩
    rw [show its.toArray.any (eqU x) = its.any (eqU x) by simp, F6 r fs]
    exact q
theorem zS4 : OpR X (compareOp .NotIn) (rIn X.K true) := by
  intro pins s σ H x y v u Q I rx ry h
  obtain ⟨p, xs, rfl, hq, fx, fs, q⟩ := h
  cases ry
  rcases hq with hq | hq
  · obtain ⟨its, r, pl, hz⟩ := I.list hq
    refine SeqAt.notIn_listAt (eqU x) pl.isList (fun w hw => O5 rx fx r fs w (by simpa using hw)) ⟨.bl _, H, I, rfl, ?_⟩
    rw [show its.toArray.any (eqU x) = its.any (eqU x) by simp, F6 r fs]
    exact q
  · obtain ⟨its, r, pl, hz⟩ := I.tuple hq
    refine SeqAt.notIn_tupleAt (eqU x) pl (fun w hw => O5 rx fx r fs w (by simpa using hw)) ⟨.bl _, H, I, rfl, ?_⟩
    rw [show its.toArray.any (eqU x) = its.any (eqU x) by simp, F6 r fs]
    exact q
theorem qh8 : K3 X (.builtin "len") (fun xs H Q => ∃ p ys, xs = [.ref p] ∧ (SqL X.K H p ys ∨ SqT X.K H p ys) ∧ Q (.int ys.length) H) := by
  intro pins s σ H xs us Q I r h
  obtain ⟨p, ys, rfl, hq, q⟩ := h
  obtain ⟨u, rfl, rx⟩ := V4 r
  cases rx
  have hn := y6
  rcases hq with hq | hq
  · obtain ⟨its, r', pl, hz⟩ := I.list hq
    have hlen := r'.length
    exact Calls.call_len_list pl.isList (by simp only [List.size_toArray] <;> omega) ⟨.int ys.length, H, I.tok _, ⟨s.toks + 1, by rw [List.size_toArray, hlen]⟩, q⟩
  · obtain ⟨its, r', pl, hz⟩ := I.tuple hq
    have hlen := r'.length
    exact len_tuple pl (by simp only [List.size_toArray] <;> omega) ⟨.int ys.length, H, I.tok _, ⟨s.toks + 1, by rw [List.size_toArray, hlen]⟩, q⟩
theorem D6 : K3 X (.type "list") (fun xs H Q => ∃ p ys, xs = [.ref p] ∧ (SqL X.K H p ys ∨ SqT X.K H p ys) ∧ ∀ l, H l = none → Q (.ref l) (upd H l (.lst ys))) := by
  intro pins s σ H xs us Q I r h
  obtain ⟨p, ys, rfl, hq, q⟩ := h
  obtain ⟨u, rfl, rx⟩ := V4 r
  cases rx
  have fin : ∀ (its : List Value), M0 ys its → ys.length ≤ sizeLine → ∀ (h' : Heap) (c' : Nat), (∀ b o', s.heap.get? b = some o' → h'.get? b = some o') →
      h'.get? s.heap.objs.size = some { cls := .type "list", dict := none, data := .seq its.toArray c', slots := #[] } → EP X pins σ Q (.ref s.heap.objs.size) { s with heap := h' } := fun its r' hz h' c' kp e =>
    ⟨.ref s.heap.objs.size, _, I.laid (t' := s.toks) kp (Nat.le_refl _) (show W1 X.prog X.w _ h' _ (.lst ys) from ⟨hz, its, c', r', e⟩), rfl, q _ (I.hok.fresh (Nat.le_refl _))⟩
  rcases hq with hq | hq
  · obtain ⟨its, r', pl, hz⟩ := I.list hq
    have hlen := r'.length
    obtain ⟨o, ho, hc, n, hd⟩ := pl.isList
    exact call_list_seq p (.inl rfl) ho hc hd (fun h' c' kp e => fin its r' hz h' c' kp e) (by simp only [List.size_toArray] <;> omega)
  · obtain ⟨its, r', pl, hz⟩ := I.tuple hq
    have hlen := r'.length
    obtain ⟨o, ho, hc, n, hd⟩ := pl
    exact call_list_seq p (.inr rfl) ho hc hd (fun h' c' kp e => fin its r' hz h' c' kp e) (by simp only [List.size_toArray] <;> omega)
theorem o5 : K3 X (.type "tuple") (fun xs H Q => ∃ p ys, xs = [.ref p] ∧ ((SqL X.K H p ys ∧ ∀ l, H l = none → Q (.ref l) (upd H l (.tup ys))) ∨ (SqT X.K H p ys ∧ Q (.ref p) H))) := by
  intro pins s σ H xs us Q I r h
  obtain ⟨p, ys, rfl, h⟩ := h
  obtain ⟨u, rfl, rx⟩ := V4 r
  cases rx
  rcases h with ⟨hq, q⟩ | ⟨hq, q⟩
  · obtain ⟨its, r', pl, hz⟩ := I.list hq
    have hlen := r'.length
    refine call_tuple_list pl.isList (fun h' kp => ?_) (by simp only [List.size_toArray] <;> omega)
    have I1 : Inv X pins σ H { s with heap := h' } := I.kept (t' := s.toks) kp
    have I2 : Inv X pins σ (upd H h'.objs.size (.tup ys)) { s with heap := h'.push { cls := .type "tuple", data := .seq its.toArray } } :=
      I1.laid (t' := s.toks) (fun b o e => Heap.get?_push_of_some _ e) (Nat.le_refl _) (show W1 X.prog X.w _ _ _ (.tup ys) from ⟨hz, its, r', i9.new _ _⟩)
    exact ⟨.ref h'.objs.size, _, I2, rfl, q _ (I1.hok.fresh (Nat.le_refl _))⟩
  · obtain ⟨its, r', pl, hz⟩ := I.tuple hq
    exact call_tuple_same pl ⟨.ref p, H, I, rfl, q⟩
def tyV (K : PySem.W.Frag) (T : String) (x : V) (H : Hp) : Prop := match x with
  | .str _ => T = "str"
  | .int _ => T = "int"
  | .ref p => (T = "list" ∧ ∃ xs, SqL K H p xs) ∨ (T = "tuple" ∧ ∃ o, K.lookup p = some o ∧ o.cls = .type "tuple" ∧ o.dict = none) ∨
      (T = "dict" ∧ ((∃ kvs, H p = some (.dK kvs)) ∨ ∃ kvs, H p = some (.dT kvs))) ∨ (T = "set" ∧ ∃ S n, H p = some (.set S n))
  | _ => False
theorem o9 {pins : List (Addr × Obj)} {σ : St} {H : Hp} {s : Shared} {T : String} {x : V} {v : Value} (I : Inv X pins σ H s) (r : Q0 x v) (ty : tyV X.K T x H) :
    s.TypeIs v T ∧ ∀ a, v = .ref a → ∃ ob, s.heap.get? a = some ob ∧ ob.dict = none := by
  cases x with
  | str z =>
    obtain ⟨t, rfl⟩ := r
    cases (show T = "str" from ty)
    exact ⟨typeIs_str s z t, fun _ e => nomatch e⟩
  | int i =>
    obtain ⟨t, rfl⟩ := r
    cases (show T = "int" from ty)
    exact ⟨typeIs_int s i t, fun _ e => nomatch e⟩
  | ref p =>
    cases r
    rcases ty with ⟨rfl, xs, hq⟩ | ⟨rfl, o, hk, hc, hd⟩ | ⟨rfl, hk⟩ | ⟨rfl, S, n, hk⟩
    · obtain ⟨its, _, pl, _⟩ := I.list hq
      refine ⟨pl.isList.typeIs, fun a e => ?_⟩
      cases e
      obtain ⟨o, n, e, c, hd, _⟩ := pl
      exact ⟨o, e, hd⟩
    · refine ⟨⟨o, I.kIn p o hk, hc⟩, fun a e => ?_⟩
      cases e
      exact ⟨o, I.kIn _ o hk, hd⟩
    · have z : ∃ o, s.heap.get? p = some o ∧ o.ExactDict := by
        rcases hk with ⟨kvs, hk⟩ | ⟨kvs, hk⟩
        · obtain ⟨_, _, _, _, o, _, _, e, ex, _⟩ := I.hok p _ hk
          exact ⟨o, e, ex⟩
        · obtain ⟨_, _, _, _, o, _, _, e, ex, _⟩ := I.hok p _ hk
          exact ⟨o, e, ex⟩
      obtain ⟨o, e, ex⟩ := z
      refine ⟨⟨o, e, ex.1⟩, fun a e2 => ?_⟩
      cases e2
      exact ⟨o, e, ex.2.1⟩
    · obtain ⟨o, _, _, _, e, ex, _⟩ := I.hok p _ hk
      refine ⟨⟨o, e, ex.1⟩, fun a e2 => ?_⟩
      cases e2
      exact ⟨o, e, ex.2.1⟩
  | _ => exact False.elim ty
def zx3 (K : PySem.W.Frag) (T : String) (r : V → List V → Hp → VK → Prop) (to : TE) : TE := fun σ H Q => to σ H fun x H1 => tyV K T x H1 ∧ r x [] H1 Q
def tBM (K : PySem.W.Frag) (T : String) (r : V → List V → Hp → VK → Prop) (to : TE) (t : TA) : TE := fun σ H Q => to σ H fun x H1 => tyV K T x H1 ∧ t σ H1 fun xs H2 => r x xs H2 Q
variable {o e : Expr} {es : List Expr} {to : TE} {t : TA} {name : Str} {apos cpos : Pos} {T id : String} {r : V → List V → Hp → VK → Prop}
theorem zi7 (pa : PlainAttrs T) (slot : Slot T name id) (hty : typeOf (.builtin id) = pure (.type "method_descriptor")) (hm : MtR X id r) (ho : PE X o to)
    (hbase : attributeBase o name X.env (eval o X.env) = eval o X.env := by rfl) (hline : (apos.endLine == cpos.line) = true := by rfl) : PE X (.Call (.Attribute o name apos) [] [] cpos) (zx3 X.K T r to) := by
  intro pins s σ H Q I h
  refine wpAny_Call_method0_late hbase hline (thn (ho pins s σ H _ I h) fun v s1 ⟨x, H1, I1, r1, ty, q1⟩ => ?_)
  obtain ⟨h1, h2⟩ := o9 I1 r1 ty
  exact ⟨T, id, pa, slot, hty, h1, h2, Calls.callWith_builtin rfl (PySem.evalArgs_none (hm pins s1 σ H1 x [] v [] Q I1 r1 .nil q1))⟩
theorem p3 (pa : PlainAttrs T) (slot : Slot T name id) (hty : typeOf (.builtin id) = pure (.type "method_descriptor")) (hm : MtR X id r) (ho : PE X o to) (ha : PA X (e :: es) t)
    (hbase : attributeBase o name X.env (eval o X.env) = eval o X.env := by rfl)
    (hfew : ((backTo cpos (starEach (e :: es) X.env)).all (fun x => !x.1) && (backToKw cpos (keywordEach [] X.env)).all (fun x => x.1.isSome)
      && decide ((e :: es).length + ([] : List Keyword).length + (if ([] : List Keyword).isEmpty then 0 else 1) < 30)) = true := by rfl)
    (hline : (apos.endLine == cpos.line) = true := by rfl) (hs : starEach (e :: es) X.env = (false, eval e X.env) :: starEach es X.env := by rfl) (hplain : (backTo cpos (starEach es X.env)).any (·.1) = false := by rfl) :
    PE X (.Call (.Attribute o name apos) (e :: es) [] cpos) (tBM X.K T r to t) := by
  intro pins s σ H Q I h
  refine wpAny_Call_method_late hbase hfew hline rfl (thn (ho pins s σ H _ I h) fun v s1 ⟨x, H1, I1, r1, ty, q1⟩ => ?_)
  obtain ⟨h1, h2⟩ := o9 I1 r1 ty
  refine ⟨T, id, pa, slot, hty, h1, h2, ?_⟩
  have hA := ha cpos pins s1 σ H1 _ I1 q1
  rw [hs] at hA ⊢
  refine Calls.callWith_builtin (by show (false || (backTo cpos (starEach es X.env)).any (·.1)) = false; rw [hplain] <;> rfl) (Calls.evalArgs_plain ?_)
  exact thn hA fun us s2 ⟨vs, H2, I2, r2, q2⟩ => hm pins s2 σ H2 x vs v us Q I2 r1 r2 q2
/- xs.append(e), list.index on a module's tuple .. are MtR facts of 06m -/
end
end L2
namespace L2
open PySem PySem.Spec PyProof.Rows
def MtM (X : Cx) (id : String) (r : V → List V → Hp → VK → Prop) : Prop :=
  ∀ (pins : List (Addr × Obj)) (s : Shared) (σ : St) (H : Hp) (x : V) (xs : List V) (v : Value) (us : List Value) (Q : VK), Inv X pins σ H s → Q0 x v → M0 xs us → r x xs H Q →
    wpAny (model X.prog X.w) X.A (call (.builtin id) (v :: us)) (EP X pins σ Q) X.xe s
theorem M0.one : ∀ {x : V} {us : List Value}, M0 [x] us → ∃ u, us = [u] ∧ Q0 x u
  | _, _, .cons r .nil => ⟨_, rfl, r⟩
theorem M0.zero : ∀ {us : List Value}, M0 [] us → us = []
  | _, .nil => rfl
theorem M0.dropLast {xs : List V} {us : List Value} (h : M0 xs us) : M0 xs.dropLast us.dropLast := by
  induction h with
  | nil => exact .nil
  | cons r t ih =>
    cases t with
    | nil => exact .nil
    | cons q t' => exact .cons r ih
theorem M0.rep {xs : List V} {us : List Value} (h : M0 xs us) : ∀ k : Nat, M0 (List.replicate k xs).flatten (List.replicate k us).flatten
  | 0 => .nil
  | k + 1 => by
    rw [List.replicate_succ, List.replicate_succ, List.flatten_cons, List.flatten_cons]
    exact M0.append h (M0.rep h k)
theorem qf9 {α : Type} (l : List α) : l.eraseIdx (l.length - 1) = l.dropLast := by
  induction l with
  | nil => rfl
  | cons a r ih =>
    cases r with
    | nil => rfl
    | cons b r =>
      have e : (a :: b :: r).length - 1 = ((b :: r).length - 1) + 1 := by
        have h1 : (a :: b :: r).length = r.length + 2 := rfl
        have h2 : (b :: r).length = r.length + 1 := rfl
        omega
      rw [e, List.eraseIdx_cons_succ, ih]
      all_goals rfl
theorem zp1 (its : List Value) : ∀ (k : Nat) (acc : List Value),
    List.foldl (fun x1 x2 => x1 ++ x2) acc.toArray (List.replicate k its.toArray) = (acc ++ (List.replicate k its).flatten).toArray
  | 0, acc => by simp
  | k + 1, acc => by
    have e : acc.toArray ++ its.toArray = (acc ++ its).toArray := by simp
    have e2 : (acc ++ its) ++ (List.replicate k its).flatten = acc ++ (List.replicate (k + 1) its).flatten := by
      rw [List.replicate_succ, List.flatten_cons, List.append_assoc]
    rw [← e2, ← zp1 its k (acc ++ its), ← e, List.replicate_succ, List.foldl_cons]
section
variable {X : Cx} {pins : List (Addr × Obj)} {σ : St} {H : Hp} {s : Shared} {l b : Addr} {xs ys zs : List V}
theorem Inv.lset {its its' : List Value} {n : Nat} {f : Array Value → Array Value} {t' : Nat} (I : Inv X pins σ H s) (hH : H l = some (.lst xs))
    (e : s.heap.get? l = some { cls := .type "list", data := .seq its.toArray n }) (hf : f its.toArray = its'.toArray) (hv : M0 ys its') (hz : ys.length ≤ sizeLine) :
    Inv X pins σ (upd H l (.lst ys)) { s with heap := s.heap.update l (Obj.mapSeq f), toks := t' } := by
  have q := PySem.IsL.update e f
  rw [hf] at q
  refine I.write (x := l) (e := l) (by rw [hH]; exact trivial) (.inl rfl) (fun b' u hb hu => (Heap.get?_update_other s.heap (Obj.mapSeq f) (Ne.symm hb)).trans hu) ⟨_, q⟩ ?_
  exact ⟨hz, its', _, hv, q⟩
theorem Inv.lnew {its : List Value} {t' : Nat} (I : Inv X pins σ H s) (hv : M0 ys its) (hz : ys.length ≤ sizeLine) :
    Inv X pins σ (upd H s.heap.objs.size (.lst ys)) { s with heap := s.heap.push { cls := .type "list", data := .seq its.toArray }, toks := t' } :=
  I.laid (fun _ _ q => Heap.get?_push_of_some _ q) (Nat.le_refl _) ⟨hz, its, 0, hv, Heap.get?_push_size _ rfl⟩
theorem Inv.fresh (I : Inv X pins σ H s) : H s.heap.objs.size = none := I.hok.fresh (Nat.le_refl _)
theorem Inv.lstM (I : Inv X pins σ H s) (hH : H l = some (.lst xs)) : xs.length ≤ sizeLine ∧ ∃ (its : List Value) (n : Nat), M0 xs its ∧ xs.length = its.length ∧ s.heap.get? l = some { cls := .type "list", data := .seq its.toArray n } := by
  obtain ⟨z, its, n, r, e⟩ := I.hok l _ hH
  exact ⟨z, its, n, r, r.length, e⟩
theorem zl3 {n : Nat} (h : n ≤ sizeLine) : Builtin.List.listTooLong n = false := by
  unfold Builtin.List.listTooLong
  exact decide_eq_false (by omega)
end
section
variable {X : Cx}
def rAppend : V → List V → Hp → VK → Prop := fun x vs H Q => ∃ l xs y, x = .ref l ∧ vs = [y] ∧ H l = some (.lst xs) ∧ xs.length < sizeLine ∧ Q .non (upd H l (.lst (xs ++ [y])))
theorem P3 : MtM X "list.append" rAppend := by
  intro pins s σ H x vs v us Q I rx rv h
  obtain ⟨l, xs, y, rfl, rfl, hH, hz, q⟩ := h
  cases rx
  obtain ⟨u, rfl, ru⟩ := rv.one
  obtain ⟨z, its, n, r, hl, e⟩ := I.lstM hH
  refine call_meets F.slot_list_append ⟨_, e, rfl⟩ F.entry_list_append (F.args_list_append_2 _ _) (PySem.list_append l its.toArray n u (by rw [List.size_toArray]; omega)) ⟨e, ?_⟩
  refine ⟨.non, _, I.lset (its' := its ++ [u]) hH e (by simp) (r.append (.cons ru .nil)) ?_, rfl, q⟩
  rw [List.length_append, List.length_singleton]
  omega
def rExtend : V → List V → Hp → VK → Prop := fun x vs H Q => ∃ l b xs zs, x = .ref l ∧ vs = [.ref b] ∧ H l = some (.lst xs) ∧ H b = some (.lst zs) ∧ xs.length + zs.length ≤ sizeLine ∧ Q .non (upd H l (.lst (xs ++ zs)))
theorem zZ6 : MtM X "list.extend" rExtend := by
  intro pins s σ H x vs v us Q I rx rv h
  obtain ⟨l, b, xs, zs, rfl, rfl, hH, hB, hz, q⟩ := h
  cases rx
  obtain ⟨u, rfl, ru⟩ := rv.one
  cases ru
  obtain ⟨z, its, n, r, hl, e⟩ := I.lstM hH
  obtain ⟨z2, its2, n2, r2, hl2, e2⟩ := I.lstM hB
  have hsz : its.toArray.size + its2.toArray.size ≤ sizeLine := by rw [List.size_toArray, List.size_toArray]; omega
  have hlong : ¬ (!its.toArray.isEmpty && Builtin.List.listTooLong (its.toArray.size + its2.toArray.size)) = true := by
    rw [zl3 hsz, Bool.and_false]
    exact Bool.false_ne_true
  refine call_meets F.slot_list_extend ⟨_, e, rfl⟩ F.entry_list_extend (F.args_list_extend_2 _ _)
    (AutoSeq1.list_extend_list_list_0 l its.toArray n b its2.toArray n2 hlong (by rw [List.size_toArray]; omega) (by omega)) ⟨e, e2, ?_⟩
  refine ⟨.non, _, I.lset (its' := its ++ its2) hH e (by simp) (r.append r2) ?_, rfl, q⟩
  rw [List.length_append]
  omega
def rPop : V → List V → Hp → VK → Prop := fun x vs H Q => ∃ l xs y, x = .ref l ∧ vs = [] ∧ H l = some (.lst xs) ∧ xs[xs.length - 1]? = some y ∧ Q y (upd H l (.lst xs.dropLast))
theorem zm1 : MtM X "list.pop" rPop := by
  intro pins s σ H x vs v us Q I rx rv h
  obtain ⟨l, xs, y, rfl, rfl, hH, hy, q⟩ := h
  cases rx
  have hus := rv.zero
  subst hus
  obtain ⟨z, its, n, r, hl, e⟩ := I.lstM hH
  obtain ⟨u, hu, ru⟩ := r.get hy
  have hy' : its.toArray[its.toArray.size - 1]? = some u := by
    show its.toArray[its.length - 1]? = some u
    rw [← Array.getElem?_toList, ← hl]
    exact hu
  refine call_meets F.slot_list_pop ⟨_, e, rfl⟩ F.entry_list_pop (F.args_list_pop_1 _) (MeetsSeq.list_pop_last l its.toArray n u hy' (by rw [List.size_toArray]; omega)) ⟨e, ?_⟩
  refine ⟨y, _, I.lset (its' := its.dropLast) hH e ?_ r.dropLast ?_, ru, q⟩
  · show its.toArray.eraseIdxIfInBounds (its.toArray.size - 1) = its.dropLast.toArray
    rw [List.size_toArray, List.eraseIdxIfInBounds_toArray, qf9]
  · rw [List.length_dropLast]
    omega
def rCat : R2 := fun x y H Q => ∃ l b xs zs, x = .ref l ∧ y = .ref b ∧ H l = some (.lst xs) ∧ H b = some (.lst zs) ∧ xs.length + zs.length ≤ sizeLine ∧ ∀ p, H p = none → Q (.ref p) (upd H p (.lst (xs ++ zs)))
theorem Z4 : OpR X (binaryOp .Add) rCat := by
  intro pins s σ H x y v u Q I rx ry h
  obtain ⟨l, b, xs, zs, rfl, rfl, hH, hB, hz, q⟩ := h
  cases rx
  cases ry
  obtain ⟨z, its, n, r, hl, e⟩ := I.lstM hH
  obtain ⟨z2, its2, n2, r2, hl2, e2⟩ := I.lstM hB
  refine PySem.P.add_list e e2 ?_ (by rw [List.size_toArray, List.size_toArray]; omega)
  have ea : its.toArray ++ its2.toArray = (its ++ its2).toArray := by simp
  rw [ea]
  exact ⟨.ref _, _, I.lnew (t' := s.toks) (r.append r2) (by rw [List.length_append]; omega), rfl, q _ I.fresh⟩
def rRep : R2 := fun x y H Q => ∃ l k xs, x = .ref l ∧ y = .int k ∧ H l = some (.lst xs) ∧ -(2 ^ 63) ≤ k ∧ k < 2 ^ 63 ∧ xs.length * k.toNat ≤ sizeLine ∧
  ∀ p, H p = none → Q (.ref p) (upd H p (.lst (List.replicate k.toNat xs).flatten))
theorem qb7 {α : Type} (xs : List α) (k : Nat) : (List.replicate k xs).flatten.length = k * xs.length := by
  induction k with
  | zero => simp
  | succ k ih => rw [List.replicate_succ, List.flatten_cons, List.length_append, ih, Nat.succ_mul, Nat.add_comm]
theorem m6 : OpR X (binaryOp .Mult) rRep := by
  intro pins s σ H x y v u Q I rx ry h
  obtain ⟨l, k, xs, rfl, rfl, hH, h1, h2, hz, q⟩ := h
  cases rx
  obtain ⟨t, rfl⟩ := ry
  obtain ⟨z, its, n, r, hl, e⟩ := I.lstM hH
  have hlen : its.toArray.size * k.toNat ≤ sizeLine := by rw [List.size_toArray, ← hl]; exact hz
  have hcap : ¬ its.toArray.size * k.toNat > (2 ^ 63 - 1) / 8 := by
    have : (sizeLine : Nat) ≤ (2 ^ 63 - 1) / 8 := by decide
    omega
  have hfit : ¬ (!Builtin.List.listFitsIndex k) = true := by
    rw [fitsIndex_both h1 h2]
    exact Bool.false_ne_true
  have hlong : ¬ Builtin.List.listTooLong (its.toArray.size * k.toNat) = true := by
    rw [zl3 hlen]
    exact Bool.false_ne_true
  have hnew : List.foldl (fun x1 x2 => x1 ++ x2) #[] (List.replicate (if its.toArray.isEmpty = true then 0 else k.toNat) its.toArray) = (List.replicate k.toNat its).flatten.toArray := by
    have f0 : ∀ m : Nat, List.foldl (fun x1 x2 => x1 ++ x2) #[] (List.replicate m its.toArray) = (List.replicate m its).flatten.toArray := fun m => by
      have := zp1 its m []
      rw [List.nil_append] at this
      exact this
    rw [f0]
    cases its with
    | nil => simp
    | cons a r' => rw [if_neg (by simp)]
  refine wpAny_binaryOp_repeat_ref (T := "list") (U := "int") (by decide) ⟨_, e, rfl⟩ (fun s' => typeIs_int s' k t) noFill_list_mul F.fills_int_mul F.slot_int_rmul repeat_list F.slot_int_index.lookup
    (call_meets F.slot_int_rmul (typeIs_int s k t) F.entry_int_rmul (F.args_int_rmul_2 _ _) (int___rmul___int_list k t l its.toArray n)
      ⟨e, rfl, ⟨_, e, rfl⟩, call_meets F.slot_list_mul ⟨_, e, rfl⟩ F.entry_list_mul (F.args_list_mul_2 _ _) (AutoListH.list___mul___list_int_3 l its.toArray n k t hfit hcap hlong) ⟨e, ?_⟩⟩)
  rw [hnew]
  exact ⟨.ref _, _, I.lnew (t' := s.toks) (r.rep k.toNat) (by rw [qb7, Nat.mul_comm]; exact hz), rfl, q _ I.fresh⟩
end
section
variable {prog : Program} {w : World} {A : Around} {E : Value → Shared → Prop} {s : Shared}
set_option maxRecDepth 100000 in
end
section
variable {X : Cx}
end
end L2
namespace L2
open PySem PySem.Spec PyProof.Rows
theorem M0.ints : ∀ {ns : List Int} {us : List Value}, M0 (ns.map V.int) us → IntsAre us ns
  | [], us, h => by
    rw [List.map_nil] at h
    cases h
    exact IntsAre.nil
  | n :: ns, us, h => by
    rw [List.map_cons] at h
    cases h with
    | cons r t =>
      obtain ⟨k, rfl⟩ := r
      exact IntsAre.cons n k (M0.ints t)
theorem m9 : ∀ {us : List Value} {ns : List Int}, IntsAre us ns → M0 (ns.map V.int) us
  | _, _, .nil => by rw [List.map_nil]; exact Paired.nil
  | _, _, .cons n t h => by rw [List.map_cons]; exact Paired.cons (show Q0 (V.int n) (Value.int n t) from ⟨t, rfl⟩) (m9 h)
theorem M0.ref1 {a : Addr} {us : List Value} (r : M0 [V.ref a] us) : us = [Value.ref a] := by
  cases r with
  | cons r t =>
    cases t
    cases r
    rfl
section
variable {prog : Program} {w : World} {A : Around} {E : Value → Shared → Prop} {s : Shared} {l : Addr} {its : List Value} {ns : List Int} {Q : Value → Shared → Prop}
theorem zx8 (hh : A.handled = none) (hl : s.heap.IsList l its.toArray) (hi : IntsAre its ns)
    (h : ∀ h' tk t', (∀ b o, s.heap.get? b = some o → h'.get? b = some o) → Q (.int ns.sum t') { s with heap := h', toks := tk }) : wpAny (model prog w) A (call (.builtin "sum") [.ref l]) Q E s := by
  obtain ⟨xs, e⟩ := hi.allInts.items
  have hn : numsOf (intItems xs).toList = ns := by rw [← e]; exact hi.numsOf
  rw [nums_intItems] at hn
  rw [e] at hl
  refine PySem.sum_intListG hh hl fun h' tk t' hk => ?_
  have := h h' tk t' hk
  rw [preSum_eq, List.take_of_length_le (by simp), hn]; exact this
theorem zZ9 (hh : A.handled = none) (hl : s.heap.IsList l its.toArray) (hi : IntsAre its ns) (hne : 0 < ns.length)
    (h : ∀ h' tk M t', (∀ b o, s.heap.get? b = some o → h'.get? b = some o) → M ∈ ns → (∀ a, a ∈ ns → M ≤ a) → Q (.int M t') { s with heap := h', toks := tk }) : wpAny (model prog w) A (call (.builtin "min") [.ref l]) Q E s := by
  obtain ⟨xs, e⟩ := hi.allInts.items
  have hn : numsOf (intItems xs).toList = ns := by rw [← e]; exact hi.numsOf
  rw [nums_intItems] at hn
  subst hn
  rw [e] at hl
  have hsz : 0 < xs.size := by simpa using hne
  refine PySem.min_intList hh hl hsz fun v h' tk hv hk => ?_
  obtain ⟨t, rfl⟩ := intItems_at hv
  obtain ⟨h1, h2⟩ := argBest_lt (numAt xs) (xs.size - 1)
  refine h h' tk _ t hk ?_ fun a ha => ?_
  · rw [numAt_eq]; exact PySem.getD_mem (by rw [List.length_map, Array.length_toList]; omega)
  · obtain ⟨j, hj, rfl⟩ := mem_getD ha
    rw [List.length_map, Array.length_toList] at hj
    rw [← numAt_eq]; exact h2 j (by omega)
end
section
variable {X : Cx}
def zQ0 (K : PySem.W.Frag) : List V → Hp → VK → Prop := fun vs H Q => ∃ (a : Addr) (ns : List Int), vs = [V.ref a] ∧ SqL K H a (ns.map V.int) ∧ Q (.int ns.sum) H
def zh1 (K : PySem.W.Frag) : List V → Hp → VK → Prop := fun vs H Q => ∃ (a : Addr) (ns : List Int), vs = [V.ref a] ∧ SqL K H a (ns.map V.int) ∧ 0 < ns.length ∧ ∀ m, m ∈ ns → (∀ y, y ∈ ns → m ≤ y) → Q (.int m) H
theorem X8 (hc : X.calm = true) : K3 X (.builtin "sum") (zQ0 X.K) := by
  intro pins s σ H vs us Q I r h
  obtain ⟨a, ns, rfl, hs, q⟩ := h
  obtain ⟨its, rv, hl, _⟩ := I.list hs
  rw [M0.ref1 r]
  exact zx8 (I.ok.hd hc) hl.isList rv.ints fun h' tk t' hk => ⟨.int _, H, I.kept hk, ⟨_, rfl⟩, q⟩
theorem qg8 (hc : X.calm = true) : K3 X (.builtin "min") (zh1 X.K) := by
  intro pins s σ H vs us Q I r h
  obtain ⟨a, ns, rfl, hs, hne, q⟩ := h
  obtain ⟨its, rv, hl, _⟩ := I.list hs
  rw [M0.ref1 r]
  exact zZ9 (I.ok.hd hc) hl.isList rv.ints hne fun h' tk m t' hk h1 h2 => ⟨.int _, H, I.kept hk, ⟨_, rfl⟩, q m h1 h2⟩
end
section
variable {X : Cx}
theorem zp7 {ys : List V} (f : ys.all d3 = true) {j : Nat} {z : V} (h : ys[j]? = some z) : d3 z = true := List.all_eq_true.mp f z (List.mem_of_getElem? h)
end
section
variable {X : Cx}
end
section
variable {X : Cx}
end
section
variable {X : Cx} {pins : List (Addr × Obj)} {σ : St} {H : Hp} {s : Shared}
end
section
variable {X : Cx}
end
end L2
namespace L2
open PySem PySem.Spec PyProof.Rows
abbrev zu2 (h : Heap) (c : Addr) (v : Option Value) : Prop := h.IsCell c v
def zP5 (scope sc : Scope) : Scope :=
  { scope with names := scope.names.map fun (n, k) => if (k == .free && sc.kind == .function && sc.names.lookup n == some .cell) then (n, .cell) else (n, k) }
def A1 (cells : List (Str × Addr)) : List (Str × NameKind) → List (Str × Addr) → List (Str × Addr)
  | [], acc => acc
  | (n, k) :: r, acc => if k == .free then A1 cells r ((n, (cells.lookup n).getD 0) :: acc) else A1 cells r acc
theorem zr9 (env : Env) (f : Str × NameKind → List (Str × Addr) → Sem (ForInStep (List (Str × Addr))))
    (hf : ∀ n k c, f (n, k) c = if k == .free then (do let a ← cellOf env n; pure (.yield ((n, a) :: c))) else pure (.yield c)) :
    ∀ (names : List (Str × NameKind)) (acc : List (Str × Addr)), (∀ y ∈ names, y.2 = .free → ∃ c, env.cells.lookup y.1 = some c) → forIn names acc f = pure (A1 env.cells names acc)
  | [], acc, _ => by rw [List.forIn_nil]; rfl
  | (n, k) :: r, acc, h => by
    rw [List.forIn_cons, hf]
    have ih := fun acc => zr9 env f hf r acc fun y hy => h y (List.mem_cons_of_mem _ hy)
    unfold A1
    by_cases hk : (k == NameKind.free) = true
    · rw [if_pos hk, if_pos hk]
      obtain ⟨c, hc⟩ := h (n, k) List.mem_cons_self (by simpa using hk)
      have e : cellOf env n = pure c := by unfold cellOf; rw [hc]
      rw [e]
      have e2 : (env.cells.lookup n).getD 0 = c := by rw [hc]; rfl
      rw [e2]
      exact ih _
    · rw [if_neg hk, if_neg hk]
      exact ih _
theorem zr8 {scope : Scope} {env : Env} (h : ∀ y ∈ scope.names, y.2 = .free → ∃ c, env.cells.lookup y.1 = some c) : closureFor scope env = pure (A1 env.cells scope.names []) := by
  simp only [closureFor]
  rw [zr9 env _ (fun n k c => rfl) scope.names [] h]
  rfl
theorem i7 {α : Type} : ∀ {l : List (Str × α)} {n : Str} {c : α}, (n, c) ∈ l → ∃ c', l.lookup n = some c'
  | (k, v) :: r, n, c, h => by
    rw [List.lookup_cons]
    cases hb : n == k with
    | true => exact ⟨_, rfl⟩
    | false =>
      rcases List.mem_cons.mp h with e | h
      · cases e; simp at hb
      · exact i7 h
theorem cloFrom_mem {cells : List (Str × Addr)} : ∀ {names : List (Str × NameKind)} {acc : List (Str × Addr)} {n : Str} {c : Addr}, (n, c) ∈ A1 cells names acc → (n, c) ∈ acc ∨ ((n, .free) ∈ names ∧ c = (cells.lookup n).getD 0)
  | [], _, _, _, h => .inl h
  | (m, k) :: r, acc, n, c, h => by
    unfold A1 at h
    split at h
    · rename_i hk
      have hk : k = .free := by simpa using hk
      rcases cloFrom_mem h with h | ⟨h1, h2⟩
      · rcases List.mem_cons.mp h with e | h
        · cases e; exact .inr ⟨hk ▸ List.mem_cons_self, rfl⟩
        · exact .inl h
      · exact .inr ⟨List.mem_cons_of_mem _ h1, h2⟩
    · rcases cloFrom_mem h with h | ⟨h1, h2⟩
      · exact .inl h
      · exact .inr ⟨List.mem_cons_of_mem _ h1, h2⟩
theorem Y8 {cells : List (Str × Addr)} : ∀ {names : List (Str × NameKind)} {acc : List (Str × Addr)} {p : Str × Addr}, p ∈ acc → p ∈ A1 cells names acc
  | [], _, _, h => h
  | (m, k) :: r, acc, p, h => by
    unfold A1
    split
    · exact Y8 (List.mem_cons_of_mem _ h)
    · exact Y8 h
theorem E7 {cells : List (Str × Addr)} : ∀ {names : List (Str × NameKind)} {acc : List (Str × Addr)} {n : Str}, (n, .free) ∈ names → (n, (cells.lookup n).getD 0) ∈ A1 cells names acc
  | (m, k) :: r, acc, n, h => by
    unfold A1
    rcases List.mem_cons.mp h with e | h
    · cases e
      exact Y8 List.mem_cons_self
    · split
      · exact E7 h
      · exact E7 h
theorem cells_mem : ∀ {names : List (Str × NameKind)} {h : Heap} {acc : List (Str × Addr)} {x : Str} {c : Addr}, (x, c) ∈ cellsFrom h.objs.size names acc →
    (x, c) ∈ acc ∨ ((x, .cell) ∈ names ∧ h.objs.size ≤ c ∧ zu2 (pushCells h names) c none)
  | [], _, _, _, _, h => .inl h
  | (n, k) :: r, h, acc, x, c, hm => by
    unfold cellsFrom at hm
    unfold pushCells
    split at hm
    · rename_i hk
      rw [if_pos hk]
      have hk : k = .cell := by simpa using hk
      rw [← Heap.size_push h { cls := .type "cell", data := .cell none }] at hm
      rcases cells_mem hm with hm | ⟨h1, h2, h3⟩
      · rcases List.mem_cons.mp hm with e | hm
        · cases e
          exact .inr ⟨hk ▸ List.mem_cons_self, Nat.le_refl _, _, pushCells_keeps r _ _ _ (Heap.get?_push_size _ rfl), rfl⟩
        · exact .inl hm
      · rw [Heap.size_push] at h2
        exact .inr ⟨List.mem_cons_of_mem _ h1, Nat.le_of_succ_le h2, h3⟩
    · rename_i hk
      rw [if_neg hk]
      rcases cells_mem hm with hm | ⟨h1, h2, h3⟩
      · exact .inl hm
      · exact .inr ⟨List.mem_cons_of_mem _ h1, h2, h3⟩
theorem F7 : ∀ {names : List (Str × NameKind)} {n : Nat} {acc : List (Str × Addr)} {p : Str × Addr}, p ∈ acc → p ∈ cellsFrom n names acc
  | [], _, _, _, h => h
  | (m, k) :: r, n, acc, p, h => by
    unfold cellsFrom
    split
    · exact F7 (List.mem_cons_of_mem _ h)
    · exact F7 h
theorem b9 : ∀ {names : List (Str × NameKind)} {n : Nat} {acc : List (Str × Addr)} {x : Str}, (x, .cell) ∈ names → ∃ c, (x, c) ∈ cellsFrom n names acc
  | (m, k) :: r, n, acc, x, h => by
    unfold cellsFrom
    rcases List.mem_cons.mp h with e | h
    · cases e
      exact ⟨n, F7 List.mem_cons_self⟩
    · split
      · exact b9 h
      · exact b9 h
theorem a9 : ∀ {names : List (Str × NameKind)} {h : Heap} {acc : List (Str × Addr)} {x y : Str} {c : Addr}, (∀ p ∈ acc, p.2 < h.objs.size) → (∀ x y c, (x, c) ∈ acc → (y, c) ∈ acc → x = y) →
    (x, c) ∈ cellsFrom h.objs.size names acc → (y, c) ∈ cellsFrom h.objs.size names acc → x = y
  | [], _, _, _, _, _, _, hi, h1, h2 => hi _ _ _ h1 h2
  | (n, k) :: r, h, acc, x, y, c, hl, hi, h1, h2 => by
    unfold cellsFrom at h1 h2
    split at h1
    · rename_i hk
      rw [if_pos hk] at h2
      rw [← Heap.size_push h { cls := .type "cell", data := .cell none }] at h1 h2
      refine a9 (h := h.push _) (fun p hp => ?_) (fun x y c a b => ?_) h1 h2
      · rw [Heap.size_push]
        rcases List.mem_cons.mp hp with rfl | hp
        · exact Nat.lt_succ_self _
        · exact Nat.lt_succ_of_lt (hl p hp)
      · rcases List.mem_cons.mp a with e | a <;> rcases List.mem_cons.mp b with e' | b
        · cases e; cases e'; rfl
        · cases e; exact absurd (hl _ b) (Nat.lt_irrefl _)
        · cases e'; exact absurd (hl _ a) (Nat.lt_irrefl _)
        · exact hi _ _ _ a b
    · rename_i hk
      rw [if_neg hk] at h2
      exact a9 hl hi h1 h2
theorem zZ1 {M : Model} {A : Around} {E : Value → Shared → Prop} {s : Shared} {scope : Scope} {globals : Addr} {closure : List (Str × Addr)} {qual : Str} {func : Option Addr} {code : Value} {around : Env} {builtins : Addr} {Q : Env → Shared → Prop}
    (h : Q (newEnv scope s.heap.objs.size globals (cellsFrom (s.heap.objs.size + 1) scope.names closure) qual func code (some around) builtins)
      { s with heap := pushCells (s.heap.push { cls := .type "dict", data := .dict #[] }) scope.names }) :
    wpAny M A (newFunctionEnv scope globals closure [] qual func code (some around) builtins) Q E s := by
  simp only [newFunctionEnv, Option.isSome_some, if_true]
  refine wpAny_bind (wpAny_alloc ?_)
  refine wpAny_bind (wpAny_layCells _ (fun n k c => rfl) scope.names closure _ _ ?_)
  rw [show ({ s with heap := s.heap.push { cls := .type "dict", data := .dict #[] } } : Shared).heap.objs.size = s.heap.objs.size + 1 from Heap.size_push ..]
  rw [List.forIn_nil]
  exact wpAny_bind (wpAny_pure (wpAny_pure h))
theorem D8 {sc : Scope} : ∀ {names : List (Str × NameKind)} {x : Str} {k : NameKind},
    (names.map fun (n, k) => if (k == NameKind.free && sc.kind == .function && sc.names.lookup n == some .cell) then (n, NameKind.cell) else (n, k)).lookup x = some k →
    ∃ k', names.lookup x = some k' ∧ (k = k' ∨ (k' = .free ∧ k = .cell))
  | [], _, _, h => by simp at h
  | (n, k₀) :: r, x, k, h => by
    have ih := @D8 sc r x k
    have h' : List.lookup x ((if (k₀ == NameKind.free && sc.kind == .function && sc.names.lookup n == some .cell) = true then (n, NameKind.cell) else (n, k₀)) :: (r.map _)) = some k := h
    cases hx : x == n with
    | true =>
      simp only [List.lookup_cons, hx]
      by_cases hc : (k₀ == NameKind.free && sc.kind == .function && sc.names.lookup n == some .cell) = true
      · rw [if_pos hc] at h'
        simp only [List.lookup_cons, hx] at h'
        cases h'
        simp only [Bool.and_eq_true, beq_iff_eq] at hc
        exact ⟨k₀, rfl, .inr ⟨hc.1.1, rfl⟩⟩
      · rw [if_neg hc] at h'
        simp only [List.lookup_cons, hx] at h'
        cases h'
        exact ⟨_, rfl, .inl rfl⟩
    | false =>
      simp only [List.lookup_cons, hx]
      by_cases hc : (k₀ == NameKind.free && sc.kind == .function && sc.names.lookup n == some .cell) = true
      · rw [if_pos hc] at h'
        simp only [List.lookup_cons, hx] at h'
        exact ih h'
      · rw [if_neg hc] at h'
        simp only [List.lookup_cons, hx] at h'
        exact ih h'
structure BlkOk (N : List Str) (sc scope : Scope) (own : List (Str × Nat)) : Prop where
  kind : scope.kind = .function
  uniq : ∀ y ∈ scope.names, scope.names.lookup y.1 = some y.2
  ix : ∀ p ∈ own, N[p.2]? = some p.1
  free : ∀ y ∈ scope.names, y.2 = .free → sc.names.lookup y.1 = some .cell ∨ sc.names.lookup y.1 = some .free
  own : ∀ y ∈ scope.names, y.2 = .local ∨ y.2 = .cell → y.1 ∈ own.map (·.1) ∨ y.1 ∉ N
def D1 (σ : St) : List Nat → St
  | [] => σ
  | v :: vs => (D1 σ vs).set v none
theorem R7 (σ : St) : ∀ vs : List Nat, (D1 σ vs).length = σ.length
  | [] => rfl
  | v :: vs => by unfold D1; rw [List.length_set, R7 σ vs]
theorem Q7 {σ : St} {i : Nat} {x : V} : ∀ {vs : List Nat}, (D1 σ vs)[i]? = some (some x) → σ[i]? = some (some x) ∧ i ∉ vs
  | [], h => ⟨h, by simp⟩
  | v :: vs, h => by
    unfold D1 at h
    by_cases hi : v = i
    · subst hi
      by_cases hv : v < (D1 σ vs).length
      · rw [List.getElem?_set_self hv] at h; cases h
      · rw [List.getElem?_eq_none (by simpa using hv)] at h; cases h
    · rw [List.getElem?_set_ne hi] at h
      obtain ⟨h1, h2⟩ := Q7 h
      exact ⟨h1, by simp only [List.mem_cons, not_or]; exact ⟨fun e => hi e.symm, h2⟩⟩
abbrev Cx.blk (X : Cx) (s : Shared) (H : Hp) (scope : Scope) (cenv : Env) (fp : List Addr) : Cx := { X with s_0 := s, H_0 := H, env := cenv, outer := X.stack, ex := fp, fn := fun x => scope.names.lookup x == some .cell, pn := [], xe := fun _ _ => False }
section
variable {X : Cx} {pins : List (Addr × Obj)} {σ : St} {H : Hp} {s : Shared}
theorem qi1 {scope : Scope} {own : List (Str × Nat)} {fp : List Addr} (I : Inv X pins σ H s) (ok : BlkOk X.N X.env.scope scope own) (hN : X.N.Nodup) (hfp : ∀ b ∈ fp, Y1 X pins H b ∧ b < s.heap.objs.size) :
    Inv (X.blk s H scope (compEnvC scope (cellsFrom (s.heap.objs.size + 1) scope.names (A1 X.env.cells scope.names [])) s.heap.objs.size X.env) fp) [] (D1 σ (own.map (·.2))) H { s with heap := pushCells (s.heap.push { cls := .type "dict", data := .dict #[] }) scope.names } := by
  have hfree : ∀ y ∈ scope.names, y.2 = .free → ∃ c, X.env.cells.lookup y.1 = some c := fun y hy e => by
    rcases ok.free y hy e with k | k
    · exact I.ok.has _ (.inl k)
    · exact I.ok.has _ (.inr k)
  generalize hcenv : compEnvC scope (cellsFrom (s.heap.objs.size + 1) scope.names (A1 X.env.cells scope.names [])) s.heap.objs.size X.env = cenv
  have kp : ∀ b o, s.heap.get? b = some o → (pushCells (s.heap.push { cls := .type "dict", data := .dict #[] }) scope.names).get? b = some o := fun b o e => pushCells_keeps _ _ _ _ (Heap.get?_push_of_some _ e)
  have hL : cenv.locals = s.heap.objs.size := by rw [← hcenv]; rfl
  have hcl : cenv.cells = cellsFrom (s.heap.objs.size + 1) scope.names (A1 X.env.cells scope.names []) := by rw [← hcenv]; rfl
  have hsc : cenv.scope = zP5 scope X.env.scope := by rw [← hcenv]; rfl
  rw [← Heap.size_push s.heap { cls := .type "dict", data := .dict #[] }] at hcl
  have cm : ∀ {y c}, (y, c) ∈ A1 X.env.cells scope.names [] → X.env.cells.lookup y = some c ∧ c < s.heap.objs.size := fun {y c} hm => by
    rcases cloFrom_mem hm with hm | ⟨h1, rfl⟩
    · cases hm
    · obtain ⟨c, hc⟩ := hfree _ h1 rfl
      rw [hc]
      obtain ⟨w, z⟩ := I.cell _ _ hc
      exact ⟨rfl, z.lt⟩
  have mem : ∀ {y c}, cenv.cells.lookup y = some c → (X.env.cells.lookup y = some c ∧ c < s.heap.objs.size) ∨ (s.heap.objs.size + 1 ≤ c ∧ zu2 (pushCells (s.heap.push { cls := .type "dict", data := .dict #[] }) scope.names) c none) := fun {y c} e => by
    rw [hcl] at e
    rcases cells_mem (PySem.mem_of_lookup e) with hm | ⟨_, h2, h3⟩
    · exact .inl (cm hm)
    · rw [Heap.size_push] at h2; exact .inr ⟨h2, h3⟩
  have look : ∀ {y}, scope.names.lookup y = some .free → ∃ c, cenv.cells.lookup y = some c ∧ X.env.cells.lookup y = some c := fun {y} hl => by
    have hy : (y, NameKind.free) ∈ scope.names := PySem.mem_of_lookup hl
    obtain ⟨c', e'⟩ := i7 (F7 (names := scope.names) (n := (s.heap.push { cls := .type "dict", data := .dict #[] }).objs.size) (E7 (cells := X.env.cells) (acc := []) hy))
    rw [← hcl] at e'
    refine ⟨c', e', ?_⟩
    rw [hcl] at e'
    rcases cells_mem (PySem.mem_of_lookup e') with hm | ⟨h1, _, _⟩
    · exact (cm hm).1
    · have := ok.uniq _ h1
      rw [hl] at this; cases this
  have okB : (X.blk s H scope cenv fp).Ok := by
    refine ⟨I.ok.mod, by show cenv.scope.kind = _; rw [hsc]; exact ok.kind, by show cenv.globals = _; rw [← hcenv]; exact I.ok.glob, by show cenv.builtins = _; rw [← hcenv]; exact I.ok.blt, by show s.heap.objs.size ≤ cenv.locals; rw [hL]; exact Nat.le_refl _,
      fun y z c e1 e2 => ?_, fun y hy => ?_, fun y c z e => ?_, I.ok.hd, I.ok.frames, .inl rfl, fun b hb => ⟨?_, fun y c e z => ?_⟩, I.bs, Nat.le_trans I.ok.bsz I.sz, fun b o e hb => ?_, fun b hb z => ?_, I.stack, I.stkFree⟩
    · have e1 : cenv.cells.lookup y = some c := e1
      have e2 : cenv.cells.lookup z = some c := e2
      rw [hcl] at e1 e2
      refine a9 (fun p hp => ?_) (fun y z c a b => I.ok.inj y z c (cm a).1 (cm b).1) (PySem.mem_of_lookup e1) (PySem.mem_of_lookup e2)
      rw [Heap.size_push]
      exact Nat.lt_succ_of_lt (cm (y := p.1) (c := p.2) hp).2
    · show ∃ c, cenv.cells.lookup y = some c
      have key : ∀ k, cenv.kindOf y = some k → (k = .cell ∨ k = .free) → ∃ c, cenv.cells.lookup y = some c := fun k hk hk' => by
        unfold Env.kindOf at hk
        rw [hsc] at hk
        obtain ⟨k', e, r⟩ := D8 hk
        have : k' = .cell ∨ k' = .free := by
          rcases r with rfl | ⟨rfl, _⟩
          · exact hk'
          · exact .inr rfl
        rcases this with rfl | rfl
        · obtain ⟨c, hm⟩ := b9 (n := (s.heap.push { cls := .type "dict", data := .dict #[] }).objs.size) (acc := A1 X.env.cells scope.names []) (PySem.mem_of_lookup e)
          obtain ⟨c', e'⟩ := i7 hm
          exact ⟨c', by rw [hcl]; exact e'⟩
        · obtain ⟨c, h1, _⟩ := look e
          exact ⟨c, h1⟩
      rcases hy with hy | hy
      · exact key _ hy (.inl rfl)
      · exact key _ hy (.inr rfl)
    · have z : (scope.names.lookup y == some NameKind.cell) = true := z
      have z : scope.names.lookup y = some .cell := by simpa using z
      have e : cenv.cells.lookup y = some c := e
      rw [hcl] at e
      rcases cells_mem (PySem.mem_of_lookup e) with hm | ⟨_, h2, _⟩
      · rcases cloFrom_mem hm with hm | ⟨h1, _⟩
        · cases hm
        · have q := ok.uniq _ h1
          rw [z] at q; cases q
      · rw [Heap.size_push] at h2
        exact Nat.le_of_succ_le h2
    · show b ≠ cenv.locals
      rw [hL]; exact Nat.ne_of_lt (hfp b hb).2
    · have e : cenv.cells.lookup y = some c := e
      rcases mem e with ⟨h1, _⟩ | ⟨h1, _⟩
      · exact (hfp b hb).1.2.2.2.2.1 y c h1 z
      · have h2 : s.heap.objs.size + 1 ≤ b := by rw [← z]; exact h1
        exact absurd (Nat.lt_of_lt_of_le (hfp b hb).2 (Nat.le_of_succ_le h2)) (Nat.lt_irrefl _)
    · rcases (hfp b hb).1.2.2.2.1 with z | z
      · exact I.ok.noex b o e z
      · exact absurd (Nat.lt_of_lt_of_le (Heap.lt_size e) (Nat.le_trans I.ok.bsz z)) (Nat.lt_irrefl _)
    · rcases List.mem_cons.mp (I.stkSub b z) with z | z
      · exact (hfp b hb).1.2.1 z
      · exact (hfp b hb).1.2.2.1 z
  refine ⟨okB, rfl, I.bare, Un.kept kp, ⟨fun _ => none, ?_, fun i y av e1 e2 e3 => ?_⟩, fun y c e => ?_, ?_, fun y c e => ?_, fun p hp => ?_, I.hok.kept kp, by rw [R7]; exact I.len⟩
  · show Heap.Ns _ cenv.locals _
    rw [hL]
    exact Heap.Ns.keeps (Heap.Ns.new ..) fun b o e => pushCells_keeps _ _ _ _ e
  · obtain ⟨e2, hne⟩ := Q7 e2
    have hfr : scope.names.lookup y = some .free ∧ (cenv.kindOf y = some .cell ∨ cenv.kindOf y = some .free) := by
      have key : ∀ k, cenv.scope.names.lookup y = some k → k = .local ∨ k = .cell ∨ k = .free → scope.names.lookup y = some .free ∧ (cenv.kindOf y = some .cell ∨ cenv.kindOf y = some .free) := fun k hk hk' => by
        have hk0 := hk
        rw [hsc] at hk
        obtain ⟨k', e, r⟩ := D8 hk
        have no : ¬ (k' = .local ∨ k' = .cell) := fun hh => by
          rcases ok.own _ (PySem.mem_of_lookup e) hh with e' | e'
          · obtain ⟨p, hp, hpy⟩ := List.mem_map.mp e'
            have e3 := ok.ix p hp
            have : p.1 = y := hpy
            rw [this] at e3
            exact hne (List.mem_map.mpr ⟨p, hp, L5 hN e3 e1⟩)
          · exact e' (List.mem_of_getElem? e1)
        rcases r with rfl | ⟨rfl, rfl⟩
        · rcases hk' with rfl | rfl | rfl
          · exact absurd (.inl rfl) no
          · exact absurd (.inr rfl) no
          · exact ⟨e, .inr hk0⟩
        · exact ⟨e, .inl hk0⟩
      have e3 : Vis cenv.scope y := e3
      rcases e3 with e3 | e3 | e3
      · exact key _ e3 (.inl rfl)
      · exact key _ e3 (.inr (.inl rfl))
      · exact key _ e3 (.inr (.inr rfl))
    obtain ⟨m, hn, hl⟩ := I.loc
    have hvis : Vis X.env.scope y := (ok.free _ (PySem.mem_of_lookup hfr.1) rfl).elim (fun k => .inr (.inl k)) (fun k => .inr (.inr k))
    obtain ⟨w, r, q⟩ := hl i y av e1 e2 hvis
    refine ⟨w, r, .inr ⟨hfr.2, ?_⟩⟩
    obtain ⟨c, h1, h2⟩ := look hfr.1
    rcases q with ⟨k, _⟩ | ⟨_, c', e', z⟩
    · have k : X.env.scope.names.lookup y = some .local := k
      rcases ok.free _ (PySem.mem_of_lookup hfr.1) rfl with k' | k' <;> rw [show X.env.scope.names.lookup y = _ from k'] at k <;> cases k
    · rw [h2] at e'; cases e'
      exact ⟨c, h1, z.keeps kp⟩
  · have e : cenv.cells.lookup y = some c := e
    rcases mem e with ⟨h1, _⟩ | ⟨_, z⟩
    · obtain ⟨w, z⟩ := I.cell y c h1
      exact ⟨w, z.keeps kp⟩
    · exact ⟨_, z⟩
  · show H cenv.locals = none
    rw [hL]; exact I.hok.fresh (Nat.le_refl _)
  · have e : cenv.cells.lookup y = some c := e
    rcases mem e with ⟨h1, _⟩ | ⟨h1, _⟩
    · exact I.freeC y c h1
    · exact I.hok.fresh (Nat.le_of_succ_le h1)
  · exact absurd (show p ∈ ([] : List (Addr × Obj)) ++ [] from hp) (by simp)
theorem qj4 {E : Value → Shared → Prop} {D : Addr} {xs : List V} {y : V} {v : Value} {Q : Value → Shared → Prop} (I : Inv X pins σ H s) (hD : H D = some (.lst xs)) (hz : xs.length < sizeLine) (r : Q0 y v)
    (h : ∀ s', Inv X pins σ (upd H D (.lst (xs ++ [y]))) s' → Q .none s') : wpAny (model X.prog X.w) X.A (call (.builtin "list.append") [.ref D, v]) Q E s := by
  obtain ⟨hz', its, n, ri, e⟩ := I.hok D _ hD
  have hl := ri.length
  refine append_at (hsz := by rw [List.size_toArray]; omega) e fun h' sb ho' => ?_
  refine h { s with heap := h' } (I.write (t' := s.toks) (by rw [hD]; trivial) (.inl rfl) (fun b u hb q => (sb.2 b hb).trans q) ⟨_, ho'⟩ ⟨by rw [List.length_append]; exact hz, its ++ [v], n + 1, ri.append (.cons r .nil), ?_⟩)
  rw [ho']
  simp
def PTs (X : Cx) (ifs : List Expr) (t : TT) : Prop :=
  ∀ (pins : List (Addr × Obj)) (s : Shared) (σ : St) (H : Hp) (Q : Bool → Hp → Prop), Inv X pins σ H s → t σ H Q →
    wpAny (model X.prog X.w) X.A (forIn ifs true fun c r => if r = true then do let ok ← isTrue c X.env (eval c X.env); pure (ForInStep.yield ok) else pure (ForInStep.yield r)) (TP X pins σ Q) X.xe s
def tYes : TT := fun _ H Q => Q true H
theorem j6 : PTs X [] tYes := fun _ _ _ H _ I h => wpAny_tests_nil ⟨H, I, h⟩
theorem E4 {c : Expr} {t : TT} (h : PT X c t) : PTs X [c] t := fun pins s σ H Q I hw => wpAny_tests_one (h pins s σ H Q I hw)
end
theorem x5 {α : Type} {t : Sem α} {Q Q' : α → Shared → Prop} {M : Model} {A : Around} {E : Value → Shared → Prop} {s : Shared} (h : wpAny M A t Q (fun _ _ => False) s) (hQ : ∀ a s, Q a s → Q' a s) : wpAny M A t Q' E s := wpAny_mono h hQ fun _ _ z => False.elim z
theorem qh1 {prog : Program} {w : World} {A : Around} {R : Result → Shared → Prop} {s : Shared} {elt target iter : Expr} {ifs : List Expr} {scope : Scope} {pos : Pos} {it acc : Value} {env : Env} (I : Nat → Shared → Prop)
    (turn : ∀ n s, I n s → wpAny (model prog w) A (pyNext it) (fun r s₁ => match r with
      | none => R (.ok .next) s₁
      | some v => wpAny (model prog w) A (letOwnedTupleGo target it v) (fun _ s₁' => wpAny (model prog w) A (assign target env v) (fun _ s₂ =>
          wpAny (model prog w) A (forIn ifs true fun c r => if r = true then do let ok ← isTrue c env (eval c env); pure (ForInStep.yield ok) else pure (ForInStep.yield r)) (fun ok s₃ =>
            if ok = true then wpAny (model prog w) A (eval elt env) (fun x s₄ =>
              wpAny (model prog w) A (call (.builtin "list.append") [acc, x]) (fun _ s₅ => ∃ m, m < n ∧ I m s₅) (notedBy (model prog w) A env fun e s' => R (.error e) s') s₄) (notedBy (model prog w) A env fun e s' => R (.error e) s') s₃
            else ∃ m, m < n ∧ I m s₃) (notedBy (model prog w) A env fun e s' => R (.error e) s') s₂) (notedBy (model prog w) A env fun e s' => R (.error e) s') s₁') (notedBy (model prog w) A env fun e s' => R (.error e) s') s₁) (notedBy (model prog w) A env fun e s' => R (.error e) s') s)
    (n : Nat) (h : I n s) :
    codeAny (model prog w) A (.compLoop (.ListComp elt [⟨target, iter, ifs, 0⟩] scope pos) 0 it acc env) R s := by
  refine codeAny_loop rfl I (fun n s hI => ?_) n h
  show wpAny _ A ((compTurn (.ListComp elt [⟨target, iter, ifs, 0⟩] scope pos) 0 it acc env).onRaise (fun x => do noteFrame x env; theTreesLotGoes x)) _ _ s
  refine wpAny_noted ?_
  rw [compTurn_list]
  refine wpAny_bind (wpAny_standAt (wpAny_bind (wpAny_mono (turn n s hI) (fun r s₁ h₁ => ?_) fun _ _ h' => h')))
  cases r with
  | none => exact wpAny_pure h₁
  | some v =>
    refine wpAny_bind (wpAny_mono h₁ (fun _ s₁' h₁' => ?_) fun _ _ h' => h')
    refine wpAny_bind (wpAny_mono h₁' (fun _ s₂ h₂ => wpAny_bind (wpAny_mono h₂ (fun ok s₃ h₃ => ?_) fun _ _ h' => h')) fun _ _ h' => h')
    cases ok with
    | false => exact wpAny_pure ⟨rfl, h₃⟩
    | true =>
      exact wpAny_bind (wpAny_bind (wpAny_mono h₃ (fun x s₄ h₄ => wpAny_bind (wpAny_mono h₄ (fun _ s₅ h₅ => wpAny_pure (wpAny_pure ⟨rfl, h₅⟩)) fun _ _ h' => h')) fun _ _ h' => h'))
section
variable {X : Cx}
def tLc (wi : TI) (g : TG) (tt : TT) (te : TE) (vs : List Nat) : TE := fun σ H Q => wi σ H fun J H1 => ∀ D, H1 D = none → ∃ W : Nat → Nat → Hp → Prop, (∃ m, W 0 m (upd H1 D (.lst []))) ∧ ∀ i m H, W i m H →
  (J.stop i H ∧ Q (.ref D) H) ∨ (J.go i H ∧ ∃ Nx : Hp → Prop, (∀ H', Nx H' → ∃ m', m' < m ∧ W (i + 1) m' H') ∧ ∀ x H', J.yld i H x H' → g x (D1 σ vs) H' fun σ2 H2 => D1 σ2 vs = D1 σ vs ∧ tt σ2 H2 fun b H3 =>
    if b = true then te σ2 H3 fun y H4 => ∃ acc, H4 D = some (.lst acc) ∧ acc.length < sizeLine ∧ Nx (upd H4 D (.lst (acc ++ [y]))) else Nx H3)
theorem zn1 {pins : List (Addr × Obj)} {s : Shared} {σ : St} {H : Hp} {Q : VK} {elt tg iter : Expr} {ifs : List Expr} {scope : Scope} {own : List (Str × Nat)} {pos pos' : Pos} {wi : TI} {g : TG} {tt : TT} {te : TE} {use : Option (Value → Sem Unit)} {Qf : Value → Shared → Prop}
    (hc : X.calm = true) (hN : X.N.Nodup) (I : Inv X pins σ H s) (hi : PI X tg iter wi) (ok : BlkOk X.N X.env.scope scope own)
    (hg : ∀ (s : Shared) (H : Hp) (C : Addr) (cl : List (Str × Addr)) (fp : List Addr), PG (X.blk s H scope (compEnvC scope cl C X.env) fp) tg g) (ht : ∀ (s : Shared) (H : Hp) (C : Addr) (cl : List (Str × Addr)) (fp : List Addr), PTs (X.blk s H scope (compEnvC scope cl C X.env) fp) ifs tt)
    (he : ∀ (s : Shared) (H : Hp) (C : Addr) (cl : List (Str × Addr)) (fp : List Addr), PE (X.blk s H scope (compEnvC scope cl C X.env) fp) elt te) (hs : ∀ x, foldedSetIterable iter X.env x = pure x)
    (h : tLc wi g tt te (own.map (·.2)) σ H Q)
    (hRR : ∀ D C s' m H', Inv X pins σ H' s' → Q (.ref D) H' → s'.heap.Ns C m → Y1 X pins H' C → compPost (model X.prog X.w) X.A X.xe use Qf (.ref D) C (.ok .next) s') :
    wpAny (model X.prog X.w) X.A (comprehension (.ListComp elt [⟨tg, iter, ifs, 0⟩] scope pos) scope X.env pos' (newList []) false (eval iter X.env) use) Qf X.xe s := by
  have hfree : ∀ y ∈ scope.names, y.2 = .free → ∃ c, X.env.cells.lookup y.1 = some c := fun y hy e => by
    rcases ok.free y hy e with k | k
    · exact I.ok.has _ (.inl k)
    · exact I.ok.has _ (.inr k)
  refine wpAny_comprehension_free (use := use) rfl hs (zr8 hfree) ok.kind (fun y hy e => by rw [ok.uniq y hy, e])
    (thn (hi pins s σ H _ I h) fun xv s1 hx => thn hx fun itv s2 h2 => ?_)
  obtain ⟨it, fp, tn, J, H2, e, I2, T, st2, f2, q⟩ := h2
  subst e
  refine wpAny_newObj_type (zZ1 ?_) (by show 0 ≤ sizeLine; decide)
  generalize hD : s2.heap.objs.size = D
  have hDn : H2 D = none := I2.hok.fresh (Nat.le_of_eq hD)
  obtain ⟨W, ⟨m0, w0⟩, turn⟩ := q D hDn
  generalize hs3 : ({ s2 with heap := s2.heap.push { cls := .type "list", data := .seq ([] : List Value).toArray } } : Shared) = s3
  have I3 : Inv X pins σ (upd H2 D (.lst [])) s3 := by
    rw [← hs3]
    refine I2.laid (t' := s2.toks) (fun b o e => Heap.get?_push_of_some _ e) (Nat.le_of_eq hD) ⟨Nat.zero_le _, [], 0, .nil, ?_⟩
    rw [← hD]
    exact Heap.get?_push_size _ rfl
  have h3 : s3.heap = s2.heap.push { cls := .type "list", data := .seq ([] : List Value).toArray } := by rw [← hs3]
  have sz : ∀ b ∈ fp, b < s2.heap.objs.size := fun b hb => by
    obtain ⟨o, e, _⟩ := T.obj _ _ st2 b hb
    exact Heap.lt_size e
  have f3 : ∀ b ∈ fp, Y1 X pins (upd H2 D (.lst [])) b ∧ b < s3.heap.objs.size := fun b hb => by
    have hlt := sz b hb
    refine ⟨⟨?_, (f2 b hb).2⟩, by rw [h3, Heap.size_push]; exact Nat.lt_succ_of_lt hlt⟩
    rw [r0 (by rw [← hD]; exact Nat.ne_of_lt hlt)]
    exact (f2 b hb).1
  have st3 : tn 0 s3.heap := T.keep _ _ _ st2 fun b _ o e => by rw [h3]; exact Heap.get?_push_of_some _ e
  have I4 := qi1 I3 ok hN f3
  have pg := hg s3 (upd H2 D (.lst [])) s3.heap.objs.size (cellsFrom (s3.heap.objs.size + 1) scope.names (A1 X.env.cells scope.names [])) fp
  have pt := ht s3 (upd H2 D (.lst [])) s3.heap.objs.size (cellsFrom (s3.heap.objs.size + 1) scope.names (A1 X.env.cells scope.names [])) fp
  have pe := he s3 (upd H2 D (.lst [])) s3.heap.objs.size (cellsFrom (s3.heap.objs.size + 1) scope.names (A1 X.env.cells scope.names [])) fp
  show codeAny _ _ (.compStart (.ListComp elt [⟨tg, iter, ifs, 0⟩] scope pos) 0 (.ref it) (.ref D) (compEnvC scope (cellsFrom (s3.heap.objs.size + 1) scope.names (A1 X.env.cells scope.names [])) s3.heap.objs.size X.env)) (compPost (model X.prog X.w) X.A X.xe use Qf (.ref D) s3.heap.objs.size) { s3 with heap := pushCells (s3.heap.push { cls := .type "dict", data := .dict #[] }) scope.names }
  have nfp : ∀ b ∈ fp, (upd H2 D (.lst [])) b = none := fun b hb => (f3 b hb).1.1
  generalize hce : compEnvC scope (cellsFrom (s3.heap.objs.size + 1) scope.names (A1 X.env.cells scope.names [])) s3.heap.objs.size X.env = ce at I4 pg pt pe ⊢
  have cL : ce.locals = s3.heap.objs.size := by subst hce; rfl
  generalize hH3 : upd H2 D (.lst []) = H3 at I3 I4 pg pt pe w0 nfp f3
  generalize hs4 : ({ s3 with heap := pushCells (s3.heap.push { cls := .type "dict", data := .dict #[] }) scope.names } : Shared) = s4 at I4 ⊢
  have st4 : tn 0 s4.heap := T.keep _ _ _ st3 fun b _ o e => by rw [← hs4]; exact pushCells_keeps _ _ _ _ (Heap.get?_push_of_some _ e)
  have stat : ∀ {σ' : St} {H' : Hp} {s' : Shared}, Inv (X.blk s3 H3 scope ce fp) [] σ' H' s' → (∀ b ∈ fp, H' b = none) → ∀ b ∈ fp, Y1 (X.blk s3 H3 scope ce fp) [] H' b := fun {σ' H' s'} I' hn b hb =>
    ⟨hn b hb, (I'.ok.exf b hb).1, I'.ok.exfs b hb, .inl hb, fun x c e => (I'.ok.exf b hb).2 x c e, fun p hp => absurd (show p ∈ ([] : List (Addr × Obj)) ++ [] from hp) (by simp)⟩
  have loop : codeAny (model X.prog X.w) X.A (.compLoop (.ListComp elt [⟨tg, iter, ifs, 0⟩] scope pos) 0 (.ref it) (.ref D) ce) (compPost (model X.prog X.w) X.A X.xe use Qf (.ref D) s3.heap.objs.size) s4 := by
    refine qh1 (fun n s' => ∃ i H', Inv (X.blk s3 H3 scope ce fp) [] (D1 σ (own.map (·.2))) H' s' ∧ tn i s'.heap ∧ (∀ b ∈ fp, H' b = none) ∧ W i n H') ?_ m0 ⟨0, H3, I4, st4, nfp, w0⟩
    rintro n s5 ⟨i, H5, I5, st5, n5, w5⟩
    rcases turn i n H5 w5 with ⟨stop, qq⟩ | ⟨go, Nx, hNx, step⟩
    · have td := T.done (X.blk s3 H3 scope ce fp) rfl rfl rfl hc i [] s5 _ H5 (fun _ _ => False) I5 (stat I5 n5) st5 stop
      refine x5 td fun r s6 ⟨hr, I6⟩ => ?_
      subst hr
      have I7 : Inv X pins σ H5 s6 := I3.call' (ch := fp) I6.os I6.base I6.hok I6.bare fun b hb => ⟨(f3 b hb).1.2.2.2.1, (f3 b hb).1.2.1, (f3 b hb).1.2.2.2.2.1, (f3 b hb).1.2.2.2.2.2⟩
      have nC : H5 s3.heap.objs.size = none := by
        have z : H5 ce.locals = none := I6.free
        rw [cL] at z
        exact z
      obtain ⟨m, hn, _⟩ := I6.loc
      have hn : s6.heap.Ns ce.locals m := hn
      rw [cL] at hn
      exact hRR D s3.heap.objs.size s6 m H5 I7 qq hn (I3.fpOk (Nat.le_refl _) nC)
    · have ti := T.item (X.blk s3 H3 scope ce fp) rfl rfl rfl hc i [] s5 _ H5 (fun _ _ => False) I5 (stat I5 n5) st5 go
      refine x5 ti fun r s6 ⟨u, hr, h6⟩ => ?_
      subst hr
      refine x5 h6 fun _ s7 ⟨x, H7, I7, r7, y7, st7, n7⟩ => ?_
      have I7' := I7.pinned (stat I7 n7) (T.obj _ _ st7)
      refine x5 (pg _ s7 _ H7 x u _ I7' r7 (step x H7 y7)) fun _ s8 ⟨σ8, H8, I8, hw8, q8⟩ => ?_
      refine x5 (pt _ s8 σ8 H8 _ I8 q8) fun b s9 ⟨H9, I9, q9⟩ => ?_
      have fin : ∀ {s' : Shared} {H' : Hp}, Inv (X.blk s3 H3 scope ce fp) ([] ++ X4 fp s7.heap) σ8 H' s' → Nx H' → ∃ m, m < n ∧ ∃ i H', Inv (X.blk s3 H3 scope ce fp) [] (D1 σ (own.map (·.2))) H' s' ∧ tn i s'.heap ∧ (∀ b ∈ fp, H' b = none) ∧ W i m H' := fun {s' H'} I' nx => by
        obtain ⟨m', hm, w'⟩ := hNx H' nx
        have pin' : ∀ b ∈ fp, ∀ o, s7.heap.get? b = some o → s'.heap.get? b = some o ∧ H' b = none := fun b hb o e =>
          let z := I'.pin (b, o) (List.mem_append_right _ (List.mem_append_right _ (j4 hb e)))
          ⟨z.1, z.2.1⟩
        have hl : (D1 σ (own.map (·.2))).length = σ8.length := by rw [← hw8, R7]
        refine ⟨m', hm, i + 1, H', (I'.unpinned (pins := [])).weak hl (fun j v e => ?_), T.keep _ _ _ st7 fun b hb o e => (pin' b hb o e).1, fun b hb => ?_, w'⟩
        · rw [← hw8] at e
          exact (Q7 e).1
        · obtain ⟨o, e, _⟩ := T.obj _ _ st7 b hb
          exact (pin' b hb o e).2
      cases b with
      | false =>
        simp only [Bool.false_eq_true, if_false] at q9 ⊢
        exact fin I9 q9
      | true =>
        simp only [if_true] at q9 ⊢
        refine x5 (pe _ s9 σ8 H9 _ I9 q9) fun z s10 ⟨yv, H10, I10, r10, acc, hD10, hz10, nx⟩ => ?_
        exact qj4 (X := X.blk s3 H3 scope ce fp) I10 hD10 hz10 r10 fun s11 I11 => fin I11 nx
  exact codeAny_compStart_list loop (T.self X.A 0 _ _ _ st4 loop)
theorem o3 {elt tg iter : Expr} {ifs : List Expr} {scope : Scope} {own : List (Str × Nat)} {pos : Pos} {wi : TI} {g : TG} {tt : TT} {te : TE} (hc : X.calm = true) (hN : X.N.Nodup) (hi : PI X tg iter wi) (ok : BlkOk X.N X.env.scope scope own)
    (hg : ∀ (s : Shared) (H : Hp) (C : Addr) (cl : List (Str × Addr)) (fp : List Addr), PG (X.blk s H scope (compEnvC scope cl C X.env) fp) tg g) (ht : ∀ (s : Shared) (H : Hp) (C : Addr) (cl : List (Str × Addr)) (fp : List Addr), PTs (X.blk s H scope (compEnvC scope cl C X.env) fp) ifs tt)
    (he : ∀ (s : Shared) (H : Hp) (C : Addr) (cl : List (Str × Addr)) (fp : List Addr), PE (X.blk s H scope (compEnvC scope cl C X.env) fp) elt te) (hs : ∀ x, foldedSetIterable iter X.env x = pure x := by intro _; rfl) :
    PE X (.ListComp elt [⟨tg, iter, ifs, 0⟩] scope pos) (tLc wi g tt te (own.map (·.2))) := by
  intro pins s σ H Q I h
  rw [eval_ListComp]
  refine zn1 hc hN I hi ok hg ht he hs h fun D C s' m H' I' q hn f => ⟨m, hn, fun h'' sb => ?_⟩
  obtain ⟨f0, f1, f2, f3, f4, f5⟩ := f
  exact ⟨.ref D, H', I'.turned (t' := s'.toks) (fun b o hb e => (sb.2 b hb).trans e) f0 f1 f3 f4 f5, rfl, q⟩
theorem zR0 {i : Nat} {y : Str} {py : Pos} {elt tg iter : Expr} {ifs : List Expr} {scope : Scope} {own : List (Str × Nat)} {pos spos : Pos} {wi : TI} {g : TG} {tt : TT} {te : TE} (hc : X.calm = true) (hN : X.N.Nodup) (hy : X.N[i]? = some y) (hyl : X.env.scope.names.lookup y = some .local)
    (hsw : swapsWith (.ListComp elt [⟨tg, iter, ifs, 0⟩] scope pos) (some (.Name y py)) spos.line X.env = pure true) (hi : PI X tg iter wi) (ok : BlkOk X.N X.env.scope scope own)
    (hg : ∀ (s : Shared) (H : Hp) (C : Addr) (cl : List (Str × Addr)) (fp : List Addr), PG (X.blk s H scope (compEnvC scope cl C X.env) fp) tg g) (ht : ∀ (s : Shared) (H : Hp) (C : Addr) (cl : List (Str × Addr)) (fp : List Addr), PTs (X.blk s H scope (compEnvC scope cl C X.env) fp) ifs tt)
    (he : ∀ (s : Shared) (H : Hp) (C : Addr) (cl : List (Str × Addr)) (fp : List Addr), PE (X.blk s H scope (compEnvC scope cl C X.env) fp) elt te) (hs : ∀ x, foldedSetIterable iter X.env x = pure x := by intro _; rfl) :
    PS X (.Assign [.Name y py] (.ListComp elt [⟨tg, iter, ifs, 0⟩] scope pos) spos) (T7 (tLc wi g tt te (own.map (·.2))) (B7 i)) := by
  intro pins s σ H D I h
  rw [exec_Assign_Name_used _ _ _ _ hsw]
  refine wpAny_bind (wpAny_standAt (wpAny_bind ?_))
  show wpAny _ X.A (do let _ ← comprehension (.ListComp elt [⟨tg, iter, ifs, 0⟩] scope pos) scope X.env (firstIterPos [⟨tg, iter, ifs, 0⟩] pos) (newList []) false (eval iter X.env) (some (assign (.Name y py) X.env))) _ _ s
  have h : tLc wi g tt te (own.map (·.2)) σ H (fun x H1 => B7 i x σ H1 D.nx) := h
  refine wpAny_bind (thn (zn1 (Qf := fun _ s' => SP X pins D .next s') hc hN I hi ok hg ht he hs h fun L C s' m H' I' q hn f => ?_) fun _ s' hq => wpAny_pure (wpAny_pure hq))
  show wpAny _ _ (assign (.Name y py) X.env (.ref L)) _ _ _
  refine wpAny_assign_Name (B9 (v := V.ref L) I' hN hy (.inl hyl) rfl (fun s2 I2 ⟨a, sb, ha⟩ => ?_) (.inr hyl))
  obtain ⟨f0, f1, f2, f3, f4, f5⟩ := f
  have haC : C ≠ a := by
    rcases ha with z | z
    · rw [z]; exact f1
    · exact fun e => f4 y a z e.symm
  refine ⟨m, hn.sameBut sb haC, fun h3 sb3 => ?_⟩
  exact ⟨_, H', I2.turned (t' := s2.toks) (fun b o hb e => (sb3.2 b hb).trans e) f0 f1 f3 f4 f5, q⟩
theorem zx7 {elt : Expr} {gs : List Comprehension} {scope : Scope} {pos py : Pos} {y : Str} {l : Nat} {env : Env} (hk : env.scope.kind = .function) (hy : env.scope.names.lookup y = some .local) (hl : (py.line == pos.line) = true)
    (ha : (scope.names.any fun (n, k) => n == y && (k == .local || k == .cell)) = false) : swapsWith (.ListComp elt gs scope pos) (some (.Name y py)) l env = pure true := by
  have ky : env.kindOf y = some .local := hy
  have hb : env.blockKind = .function := by unfold Env.blockKind; rw [hk]; rfl
  unfold swapsWith
  simp only [hb, ky, ha, Expr.pos, hl]
  rfl
end
theorem u7 {lo : Int} {n : Nat} {g : TG} {tt : TT} {te : TE} {vs : List Nat} {σ : St} {H1 : Hp} {D : Addr} {Qd : Hp → Prop} (Pv : Nat → Hp → Prop) (h0 : Pv 0 (upd H1 D (.lst [])))
    (hs : ∀ i H, i < n → Pv i H → g (.int (lo + i)) (D1 σ vs) H fun σ2 H2 => D1 σ2 vs = D1 σ vs ∧ tt σ2 H2 fun b H3 =>
      if b = true then te σ2 H3 fun y H4 => ∃ acc, H4 D = some (.lst acc) ∧ acc.length < sizeLine ∧ Pv (i + 1) (upd H4 D (.lst (acc ++ [y]))) else Pv (i + 1) H3) (hd : ∀ H, Pv n H → Qd H) :
    ∃ W : Nat → Nat → Hp → Prop, (∃ m, W 0 m (upd H1 D (.lst []))) ∧ ∀ i m H, W i m H →
      ((Itr lo n).stop i H ∧ Qd H) ∨ ((Itr lo n).go i H ∧ ∃ Nx : Hp → Prop, (∀ H', Nx H' → ∃ m', m' < m ∧ W (i + 1) m' H') ∧ ∀ x H', (Itr lo n).yld i H x H' → g x (D1 σ vs) H' fun σ2 H2 => D1 σ2 vs = D1 σ vs ∧ tt σ2 H2 fun b H3 =>
        if b = true then te σ2 H3 fun y H4 => ∃ acc, H4 D = some (.lst acc) ∧ acc.length < sizeLine ∧ Nx (upd H4 D (.lst (acc ++ [y]))) else Nx H3) := by
  refine ⟨fun i m H => m = n - i ∧ i ≤ n ∧ Pv i H, ⟨n, by simp, Nat.zero_le _, h0⟩, ?_⟩
  rintro i m H ⟨rfl, hi, p⟩
  by_cases hlt : i < n
  · refine .inr ⟨hlt, Pv (i + 1), fun H' p' => ⟨n - (i + 1), by omega, rfl, hlt, p'⟩, fun x H' y => ?_⟩
    obtain ⟨e, y⟩ := y
    subst e y
    exact hs i _ hlt p
  · have e : i = n := by omega
    subst e
    exact .inl ⟨Nat.le_refl _, hd H p⟩
theorem Q5 {K : PySem.W.Frag} {a : Addr} {xs : List V} {g : TG} {tt : TT} {te : TE} {vs : List Nat} {σ : St} {H1 : Hp} {D : Addr} {Qd : Hp → Prop} (Pv : Nat → Hp → Prop) (h0 : Pv 0 (upd H1 D (.lst []))) (hl : ∀ i H, i ≤ xs.length → Pv i H → SqL K H a xs)
    (hs : ∀ i x H, xs[i]? = some x → Pv i H → g x (D1 σ vs) H fun σ2 H2 => D1 σ2 vs = D1 σ vs ∧ tt σ2 H2 fun b H3 =>
      if b = true then te σ2 H3 fun y H4 => ∃ acc, H4 D = some (.lst acc) ∧ acc.length < sizeLine ∧ Pv (i + 1) (upd H4 D (.lst (acc ++ [y]))) else Pv (i + 1) H3) (hd : ∀ H, Pv xs.length H → Qd H) :
    ∃ W : Nat → Nat → Hp → Prop, (∃ m, W 0 m (upd H1 D (.lst []))) ∧ ∀ i m H, W i m H →
      ((Itl K a).stop i H ∧ Qd H) ∨ ((Itl K a).go i H ∧ ∃ Nx : Hp → Prop, (∀ H', Nx H' → ∃ m', m' < m ∧ W (i + 1) m' H') ∧ ∀ x H', (Itl K a).yld i H x H' → g x (D1 σ vs) H' fun σ2 H2 => D1 σ2 vs = D1 σ vs ∧ tt σ2 H2 fun b H3 =>
        if b = true then te σ2 H3 fun y H4 => ∃ acc, H4 D = some (.lst acc) ∧ acc.length < sizeLine ∧ Nx (upd H4 D (.lst (acc ++ [y]))) else Nx H3) := by
  refine ⟨fun i m H => m = xs.length - i ∧ i ≤ xs.length ∧ Pv i H, ⟨xs.length, by simp, Nat.zero_le _, h0⟩, ?_⟩
  rintro i m H ⟨rfl, hi, p⟩
  have q := hl i H hi p
  by_cases hlt : i < xs.length
  · refine .inr ⟨⟨xs, xs[i], q, by simp [hlt]⟩, Pv (i + 1), fun H' p' => ⟨xs.length - (i + 1), by omega, rfl, hlt, p'⟩, fun x H' y => ?_⟩
    obtain ⟨e, y⟩ := y
    subst e
    exact hs i x _ (y xs q) p
  · have e : i = xs.length := by omega
    subst e
    exact .inl ⟨⟨xs, q, Nat.le_refl _⟩, hd H p⟩
theorem G8 {K : PySem.W.Frag} {a : Addr} {xs : List V} {g : TG} {tt : TT} {te : TE} {vs : List Nat} {σ : St} {H1 : Hp} {D : Addr} {Qd : Hp → Prop} (Pv : Nat → Hp → Prop) (h0 : Pv 0 (upd H1 D (.lst []))) (hl : ∀ i H, i ≤ xs.length → Pv i H → SqT K H a xs)
    (hs : ∀ i x H, xs[i]? = some x → Pv i H → g x (D1 σ vs) H fun σ2 H2 => D1 σ2 vs = D1 σ vs ∧ tt σ2 H2 fun b H3 =>
      if b = true then te σ2 H3 fun y H4 => ∃ acc, H4 D = some (.lst acc) ∧ acc.length < sizeLine ∧ Pv (i + 1) (upd H4 D (.lst (acc ++ [y]))) else Pv (i + 1) H3) (hd : ∀ H, Pv xs.length H → Qd H) :
    ∃ W : Nat → Nat → Hp → Prop, (∃ m, W 0 m (upd H1 D (.lst []))) ∧ ∀ i m H, W i m H →
      ((Itt K a).stop i H ∧ Qd H) ∨ ((Itt K a).go i H ∧ ∃ Nx : Hp → Prop, (∀ H', Nx H' → ∃ m', m' < m ∧ W (i + 1) m' H') ∧ ∀ x H', (Itt K a).yld i H x H' → g x (D1 σ vs) H' fun σ2 H2 => D1 σ2 vs = D1 σ vs ∧ tt σ2 H2 fun b H3 =>
        if b = true then te σ2 H3 fun y H4 => ∃ acc, H4 D = some (.lst acc) ∧ acc.length < sizeLine ∧ Nx (upd H4 D (.lst (acc ++ [y]))) else Nx H3) := by
  refine ⟨fun i m H => m = xs.length - i ∧ i ≤ xs.length ∧ Pv i H, ⟨xs.length, by simp, Nat.zero_le _, h0⟩, ?_⟩
  rintro i m H ⟨rfl, hi, p⟩
  have q := hl i H hi p
  by_cases hlt : i < xs.length
  · refine .inr ⟨⟨xs, xs[i], q, by simp [hlt]⟩, Pv (i + 1), fun H' p' => ⟨xs.length - (i + 1), by omega, rfl, hlt, p'⟩, fun x H' y => ?_⟩
    obtain ⟨e, y⟩ := y
    subst e
    exact hs i x _ (y xs q) p
  · have e : i = xs.length := by omega
    subst e
    exact .inl ⟨⟨xs, q, Nat.le_refl _⟩, hd H p⟩
def zt0 (N : List Str) (sc scope : Scope) (own : List (Str × Nat)) : Bool :=
  (match scope.kind with | .function => true | _ => false) && (scope.names.all fun y => decide (scope.names.lookup y.1 = some y.2)) && (own.all fun p => decide (N[p.2]? = some p.1)) &&
    (scope.names.all fun y => match y.2 with
      | .free => (match sc.names.lookup y.1 with | some .cell => true | some .free => true | _ => false)
      | .local => decide (y.1 ∈ own.map (·.1)) || decide (y.1 ∉ N)
      | .cell => decide (y.1 ∈ own.map (·.1)) || decide (y.1 ∉ N)
      | _ => true)
theorem g3 {N : List Str} {sc scope : Scope} {own : List (Str × Nat)} (h : zt0 N sc scope own = true) : BlkOk N sc scope own := by
  unfold zt0 at h
  simp only [Bool.and_eq_true, List.all_eq_true, decide_eq_true_eq] at h
  obtain ⟨⟨⟨h1, h2⟩, h3⟩, h4⟩ := h
  refine ⟨?_, h2, h3, fun y hy e => ?_, fun y hy e => ?_⟩
  · split at h1
    · assumption
    · cases h1
  · have q := h4 y hy
    simp only [e] at q
    split at q <;> first | exact .inl (by assumption) | exact .inr (by assumption) | cases q
  · have q := h4 y hy
    rcases e with e | e <;> (simp only [e, Bool.or_eq_true, decide_eq_true_eq] at q; exact q)
end L2
end
section
set_option maxHeartbeats 2000000
namespace L2
open PySem PySem.Spec PyProof.Rows
open PySem.W (WData Codec OpenSpec Well WellAll ReadsW ReadsAllW)
mutual
/-- x stands for the datum d, lists and tuples all the way -/
inductive Dw (K : PySem.W.Frag) (H : Hp) : V → WData → Prop
  | non : Dw K H .non .none
  | bl (b : Bool) : Dw K H (.bl b) (.bool b)
  | int (i : Int) : Dw K H (.int i) (.int i)
  | str (x : Str) : Dw K H (.str x) (.str x)
  | byt (b : Array UInt8) : Dw K H (.byt b) (.bytes b.toList)
  | lst {a : Addr} {xs : List V} {ds : List WData} : SqL K H a xs → DwAll K H xs ds → Dw K H (.ref a) (.list ds)
  | tup {a : Addr} {xs : List V} {ds : List WData} : SqT K H a xs → DwAll K H xs ds → Dw K H (.ref a) (.tuple ds)
inductive DwAll (K : PySem.W.Frag) (H : Hp) : List V → List WData → Prop
  | nil : DwAll K H [] []
  | cons {v : V} {vs : List V} {d : WData} {ds : List WData} : Dw K H v d → DwAll K H vs ds → DwAll K H (v :: vs) (d :: ds)
end
theorem qg4 {K : PySem.W.Frag} {H : Hp} : ∀ ns : List Int, DwAll K H (ns.map V.int) (ns.map WData.int)
  | [] => .nil
  | n :: r => .cons (.int n) (qg4 r)
theorem qd5 {K : PySem.W.Frag} {H : Hp} : ∀ (ns : List Int) (xs : List V), DwAll K H xs (ns.map WData.int) → xs = ns.map V.int
  | [], xs, h => by
    cases h
    rfl
  | n :: r, xs, h => by
    cases h with
    | cons h1 h2 =>
      cases h1
      rw [qd5 r _ h2] <;> rfl
section
variable {P : Program} {w : World} {K : PySem.W.Frag} {H : Hp} {h : Heap} {R : PySem.W.WRecords} {cl : Str → Option Addr}
theorem zy4 {a : Addr} {xs : List V} (hok : HOk P w H h) (KX : K.In h) (q : SqL K H a xs) : ∃ (its : List Value) (o : Obj) (n : Nat), M0 xs its ∧ h.get? a = some o ∧ o.cls = .type "list" ∧ o.data = .seq its.toArray n := by
  rcases q with q | ⟨o, its, n, e, hc, _, hd, _, hv⟩
  · obtain ⟨_, its, n, hv, e⟩ := (show W1 P w H h a (.lst xs) from q.ok hok)
    exact ⟨its, _, n, hv, e, rfl, rfl⟩
  · exact ⟨its.toList, o, n, hv, KX _ _ e, hc, by simp [hd]⟩
theorem zy3 {a : Addr} {xs : List V} (hok : HOk P w H h) (KX : K.In h) (q : SqT K H a xs) : ∃ (its : List Value) (o : Obj) (n : Nat), M0 xs its ∧ h.get? a = some o ∧ o.cls = .type "tuple" ∧ o.data = .seq its.toArray n := by
  rcases q with q | ⟨o, its, n, e, hc, hd, _, hv⟩
  · obtain ⟨_, its, hv, o, e, hc, ⟨n, hd⟩, _⟩ := (show W1 P w H h a (.tup xs) from q.ok hok)
    exact ⟨its, o, n, hv, e, hc, hd⟩
  · exact ⟨its.toList, o, n, hv, KX _ _ e, hc, by simp [hd]⟩
mutual
theorem Dw.reads (hok : HOk P w H h) (KX : K.In h) : ∀ (d : WData) (v : V) (u : Value), Dw K H v d → Q0 v u → ∃ as, ReadsW R cl h u d as
  | .none, _, _, x, r => by
    cases x
    cases r
    exact ⟨_, ReadsW.none⟩
  | .bool b, _, _, x, r => by
    cases x
    cases r
    exact ⟨_, ReadsW.bool b⟩
  | .int i, _, _, x, r => by
    cases x
    obtain ⟨t, rfl⟩ := r
    exact ⟨_, ReadsW.int i t⟩
  | .str s, _, _, x, r => by
    cases x
    obtain ⟨t, rfl⟩ := r
    exact ⟨_, ReadsW.str s t⟩
  | .bytes b, _, _, x, r => by
    cases x
    obtain ⟨t, rfl⟩ := r
    exact ⟨_, ReadsW.bytes _ t⟩
  | .list ds, _, _, x, r => by
    cases x with
    | lst hs ha =>
      cases r
      obtain ⟨its, o, n, rv, ho, hc, hd⟩ := zy4 hok KX hs
      obtain ⟨as, hr⟩ := Dw.readsAll hok KX ds _ its ha rv
      exact ⟨_, ReadsW.list ho hc hd hr⟩
  | .tuple ds, _, _, x, r => by
    cases x with
    | tup hs ha =>
      cases r
      obtain ⟨its, o, n, rv, ho, hc, hd⟩ := zy3 hok KX hs
      obtain ⟨as, hr⟩ := Dw.readsAll hok KX ds _ its ha rv
      exact ⟨_, ReadsW.tuple ho hc hd hr⟩
  | .float _, _, _, x, _ => by cases x
  | .dict _, _, _, x, _ => by cases x
  | .bytearray _, _, _, x, _ => by cases x
  | .set _, _, _, x, _ => by cases x
  | .frozenset _, _, _, x, _ => by cases x
  | .obj _ _, _, _, x, _ => by cases x
theorem Dw.readsAll (hok : HOk P w H h) (KX : K.In h) : ∀ (ds : List WData) (vs : List V) (us : List Value), DwAll K H vs ds → M0 vs us → ∃ as, ReadsAllW R cl h us ds as
  | [], _, _, x, r => by
    cases x
    cases r
    exact ⟨_, ReadsAllW.nil⟩
  | d :: ds, _, _, x, r => by
    cases x with
    | cons h1 h2 =>
      cases r with
      | cons r1 r2 =>
        obtain ⟨as, q1⟩ := Dw.reads hok KX d _ _ h1 r1
        obtain ⟨bs, q2⟩ := Dw.readsAll hok KX ds _ _ h2 r2
        exact ⟨_, ReadsAllW.cons q1 q2⟩
end
end
mutual
/-- data that a codec B3 -/
def plW : WData → Bool
  | .none => true
  | .bool _ => true
  | .int _ => true
  | .str _ => true
  | .bytes _ => true
  | .list xs => l3 xs
  | .tuple xs => l3 xs
  | _ => false
def l3 : List WData → Bool
  | [] => true
  | x :: r => plW x && l3 r
end
theorem zi3 {α : Type} {f : α → WData} (h : ∀ a, plW (f a) = true) : ∀ l : List α, l3 (l.map f) = true
  | [] => rfl
  | x :: r => by
    show (plW (f x) && l3 (r.map f)) = true
    rw [h x, zi3 h r] <;> rfl
theorem K4 : ∀ (c : Codec) (a : c.denote), plW (c.enc a) = true
  | .unit, _ => rfl
  | .bool, _ => rfl
  | .int _ _, _ => rfl
  | .nat _ _, _ => rfl
  | .u8, _ => rfl
  | .bytes _ _, _ => rfl
  | .text _ _ _ _, _ => rfl
  | .list _ _ c, a => zi3 (fun x => K4 c x) a
  | .pair c d, a => by
    show (plW (c.enc a.1) && (plW (d.enc a.2) && true)) = true
    rw [K4 c a.1, K4 d a.2] <;> rfl
  | .triple c d e, a => by
    show (plW (c.enc a.1) && (plW (d.enc a.2.1) && (plW (e.enc a.2.2) && true))) = true
    rw [K4 c a.1, K4 d a.2.1, K4 e a.2.2] <;> rfl
  | .option c, none => rfl
  | .option c, some x => K4 c x
theorem zi2 : ∀ (cs : List Codec) (a : Codec.denoteAll cs), l3 (Codec.encAll cs a) = true
  | [], _ => rfl
  | c :: cs, a => by
    show (plW (c.enc a.1) && l3 (Codec.encAll cs a.2)) = true
    rw [K4 c a.1, zi2 cs a.2] <;> rfl
theorem S7 : ∀ {xs : List WData} {d : WData}, d ∈ xs → d.weight ≤ WData.weightAll xs
  | [], d, h => absurd h (by simp)
  | x :: r, d, h => by
    show d.weight ≤ x.weight + 1 + WData.weightAll r
    rcases List.mem_cons.mp h with e | m
    · rw [e]
      omega
    · have z := S7 m
      omega
def toV : Value → V
  | .none => .non
  | .bool b => .bl b
  | .int i _ => .int i
  | .str x _ => .str x
  | .bytes b _ => .byt b
  | .ref a => .ref a
  | _ => .non
def OkU (A : List Addr) : Value → Prop
  | .none => True
  | .bool _ => True
  | .int _ _ => True
  | .str _ _ => True
  | .bytes _ _ => True
  | .ref a => a ∈ A
  | _ => False
theorem OkU.mono {A B : List Addr} (h : ∀ a ∈ A, a ∈ B) : ∀ {u : Value}, OkU A u → OkU B u := fun {u} x => by
  cases u with
  | ref a => exact h a x
  | none => trivial
  | bool b => trivial
  | int i t => trivial
  | str s t => trivial
  | bytes b t => trivial
  | _ => exact False.elim x
theorem zP4 {A : List Addr} {u : Value} (x : OkU A u) : Q0 (toV u) u := by
  cases u with
  | ref a => rfl
  | none => rfl
  | bool b => rfl
  | int i t => exact ⟨t, rfl⟩
  | str s t => exact ⟨t, rfl⟩
  | bytes b t => exact ⟨t, rfl⟩
  | _ => exact False.elim x
theorem v5 {A : List Addr} : ∀ {vs : List Value}, (∀ u ∈ vs, OkU A u) → M0 (vs.map toV) vs
  | [], _ => .nil
  | u :: r, h => .cons (zP4 (h u (List.mem_cons_self ..))) (v5 fun x hx => h x (List.mem_cons_of_mem _ hx))
def L3 (h : Heap) (A : List Addr) (a : Addr) : Prop := ∃ vs : List Value, vs.length ≤ sizeLine ∧ (∀ u ∈ vs, OkU A u) ∧
  (h.get? a = some { cls := .type "list", data := .seq vs.toArray } ∨ h.get? a = some { cls := .type "tuple", data := .seq vs.toArray })
theorem L3.mono {h : Heap} {A B : List Addr} {a : Addr} (k : ∀ a ∈ A, a ∈ B) (x : L3 h A a) : L3 h B a := by
  obtain ⟨vs, h1, h2, h3⟩ := x
  exact ⟨vs, h1, fun u hu => (h2 u hu).mono k, h3⟩
theorem K6 {P : Params} {h : Heap} : ∀ {vs : List Value} {ds : List WData}, WellAll P h vs ds → vs.length = ds.length
  | _, _, .nil => rfl
  | _, _, .cons _ b => by
    show _ + 1 = _ + 1
    rw [K6 b]
theorem k9 {P : Params} {h : Heap} {v : Value} {ds : List WData} (x : Well P h v (.list ds)) : ∃ (a : Addr) (vs : List Value), v = .ref a ∧ h.get? a = some { cls := .type "list", data := .seq vs.toArray } ∧ WellAll P h vs ds := by
  cases x with
  | list ho hall => exact ⟨_, _, rfl, ho, hall⟩
theorem j9 {P : Params} {h : Heap} {v : Value} {ds : List WData} (x : Well P h v (.tuple ds)) : ∃ (a : Addr) (vs : List Value), v = .ref a ∧ h.get? a = some { cls := .type "tuple", data := .seq vs.toArray } ∧ WellAll P h vs ds := by
  cases x with
  | tuple ho hall => exact ⟨_, _, rfl, ho, hall⟩
theorem l9 {P : Params} {h : Heap} {us : List Value} {d : WData} {ds : List WData} (x : WellAll P h us (d :: ds)) : ∃ (v : Value) (vs : List Value), us = v :: vs ∧ Well P h v d ∧ WellAll P h vs ds := by
  cases x with
  | cons a b => exact ⟨_, _, rfl, a, b⟩
theorem m7 {n : Nat} (h : n ≤ 1048576) : n ≤ sizeLine := Nat.le_trans h (by decide)
section
variable {P : Params} {h : Heap}
mutual
theorem qj3 : ∀ (d : WData) (v : Value), Well P h v d → plW d = true → d.weight ≤ 1048576 → ∃ A : List Addr, OkU A v ∧ ∀ a ∈ A, L3 h A a
  | .none, _, x, _, _ => by
    cases x
    exact ⟨[], trivial, fun a m => absurd m (by simp)⟩
  | .bool b, _, x, _, _ => by
    cases x
    exact ⟨[], trivial, fun a m => absurd m (by simp)⟩
  | .int i, _, x, _, _ => by
    cases x
    exact ⟨[], trivial, fun a m => absurd m (by simp)⟩
  | .str s, _, x, _, _ => by
    cases x
    exact ⟨[], trivial, fun a m => absurd m (by simp)⟩
  | .bytes b, _, x, _, _ => by
    cases x
    exact ⟨[], trivial, fun a m => absurd m (by simp)⟩
  | .list ds, _, x, p, z => by
    obtain ⟨a, vs, rfl, ho, hall⟩ := k9 x
    have z2 : WData.weightAll ds ≤ 1048576 := z
    obtain ⟨A, h1, h2⟩ := K7 ds _ hall p fun d hd => Nat.le_trans (S7 hd) z2
    have k : ∀ b ∈ A, b ∈ a :: A := fun b hb => List.mem_cons_of_mem _ hb
    refine ⟨a :: A, List.mem_cons_self .., fun b hb => ?_⟩
    rcases List.mem_cons.mp hb with e | m
    · rw [e]
      exact ⟨vs, m7 (by rw [K6 hall]; exact Nat.le_trans (PySem.W.length_le_weightAllW ds) z2), fun u hu => (h1 u hu).mono k, .inl ho⟩
    · exact (h2 b m).mono k
  | .tuple ds, _, x, p, z => by
    obtain ⟨a, vs, rfl, ho, hall⟩ := j9 x
    have z2 : WData.weightAll ds ≤ 1048576 := z
    obtain ⟨A, h1, h2⟩ := K7 ds _ hall p fun d hd => Nat.le_trans (S7 hd) z2
    have k : ∀ b ∈ A, b ∈ a :: A := fun b hb => List.mem_cons_of_mem _ hb
    refine ⟨a :: A, List.mem_cons_self .., fun b hb => ?_⟩
    rcases List.mem_cons.mp hb with e | m
    · rw [e]
      exact ⟨vs, m7 (by rw [K6 hall]; exact Nat.le_trans (PySem.W.length_le_weightAllW ds) z2), fun u hu => (h1 u hu).mono k, .inr ho⟩
    · exact (h2 b m).mono k
  | .float _, _, _, p, _ => Bool.noConfusion (show false = true from p)
  | .dict _, _, _, p, _ => Bool.noConfusion (show false = true from p)
  | .bytearray _, _, _, p, _ => Bool.noConfusion (show false = true from p)
  | .set _, _, _, p, _ => Bool.noConfusion (show false = true from p)
  | .frozenset _, _, _, p, _ => Bool.noConfusion (show false = true from p)
  | .obj _ _, _, _, p, _ => Bool.noConfusion (show false = true from p)
theorem K7 : ∀ (ds : List WData) (vs : List Value), WellAll P h vs ds → l3 ds = true → (∀ d ∈ ds, d.weight ≤ 1048576) → ∃ A : List Addr, (∀ u ∈ vs, OkU A u) ∧ ∀ a ∈ A, L3 h A a
  | [], _, x, _, _ => by
    cases x
    exact ⟨[], fun u m => absurd m (by simp), fun a m => absurd m (by simp)⟩
  | d :: ds, _, x, p, z => by
    obtain ⟨v, vs, rfl, x1, x2⟩ := l9 x
    have q : plW d = true ∧ l3 ds = true := Bool.and_eq_true_iff.mp p
    obtain ⟨A, a1, a2⟩ := qj3 d v x1 q.1 (z d (List.mem_cons_self ..))
    obtain ⟨B, b1, b2⟩ := K7 ds vs x2 q.2 fun e he => z e (List.mem_cons_of_mem _ he)
    have kA : ∀ b ∈ A, b ∈ A ++ B := fun b hb => List.mem_append.mpr (.inl hb)
    have kB : ∀ b ∈ B, b ∈ A ++ B := fun b hb => List.mem_append.mpr (.inr hb)
    refine ⟨A ++ B, fun u hu => ?_, fun b hb => ?_⟩
    · rcases List.mem_cons.mp hu with e | m
      · rw [e]
        exact a1.mono kA
      · exact (b1 u m).mono kB
    · rcases List.mem_append.mp hb with m | m
      · exact (a2 b m).mono kA
      · exact (b2 b m).mono kB
end
end
def z7 (o : Obj) : Option HO := match o.data with
  | .seq vs _ => if (o.cls == Value.type "list") = true then some (.frz o (.lst (vs.toList.map toV))) else some (.frz o (.tup (vs.toList.map toV)))
  | _ => none
def V1 (K : PySem.W.Frag) (h : Heap) (A : List Addr) : Hp := fun b => if b ∈ A then (if (K.lookup b).isNone = true then (h.get? b).bind z7 else none) else none
def O7 (H : Hp) : Prop := ∀ b, H b = none ∨ ∃ o u, H b = some (.frz o u)
theorem zo6 (vs : List Value) : z7 { cls := .type "list", data := .seq vs.toArray } = some (.frz { cls := .type "list", data := .seq vs.toArray } (.lst (vs.map toV))) := by
  show (if (Value.type "list" == Value.type "list") = true then some (HO.frz { cls := .type "list", data := .seq vs.toArray } (.lst (vs.toArray.toList.map toV))) else some (HO.frz { cls := .type "list", data := .seq vs.toArray } (.tup (vs.toArray.toList.map toV)))) = _
  rw [if_pos (beq_self_eq_true _)]
theorem zo5 (vs : List Value) : z7 { cls := .type "tuple", data := .seq vs.toArray } = some (.frz { cls := .type "tuple", data := .seq vs.toArray } (.tup (vs.map toV))) := by
  show (if (Value.type "tuple" == Value.type "list") = true then some (HO.frz { cls := .type "tuple", data := .seq vs.toArray } (.lst (vs.toArray.toList.map toV))) else some (HO.frz { cls := .type "tuple", data := .seq vs.toArray } (.tup (vs.toArray.toList.map toV)))) = _
  rw [if_neg (by decide)]
section
variable {P : Program} {w : World} {K : PySem.W.Frag} {h : Heap} {A : List Addr}
theorem J7 {b : Addr} {o : Obj} (hb : b ∈ A) (hk : K.lookup b = none) (e : h.get? b = some o) : V1 K h A b = z7 o := by
  unfold V1
  rw [if_pos hb, hk, if_pos (show (none : Option Obj).isNone = true from rfl), e] <;> rfl
theorem zY6 {b : Addr} {u : HO} (q : V1 K h A b = some u) : b ∈ A ∧ K.lookup b = none := by
  unfold V1 at q
  by_cases hb : b ∈ A
  · rw [if_pos hb] at q
    cases hk : K.lookup b with
    | none => exact ⟨hb, rfl⟩
    | some o =>
      rw [hk, if_neg (by simp)] at q
      cases q
  · rw [if_neg hb] at q
    cases q
theorem W5 (ar : ∀ a ∈ A, L3 h A a) {b : Addr} {u : HO} (q : V1 K h A b = some u) : K.lookup b = none ∧ ∃ vs : List Value, vs.length ≤ sizeLine ∧ (∀ u ∈ vs, OkU A u) ∧
    ((h.get? b = some { cls := .type "list", data := .seq vs.toArray } ∧ u = .frz { cls := .type "list", data := .seq vs.toArray } (.lst (vs.map toV))) ∨
     (h.get? b = some { cls := .type "tuple", data := .seq vs.toArray } ∧ u = .frz { cls := .type "tuple", data := .seq vs.toArray } (.tup (vs.map toV)))) := by
  obtain ⟨hb, hk⟩ := zY6 q
  obtain ⟨vs, h1, h2, h3⟩ := ar b hb
  refine ⟨hk, vs, h1, h2, ?_⟩
  rcases h3 with e | e
  · rw [J7 hb hk e, zo6] at q
    exact .inl ⟨e, (Option.some.inj q).symm⟩
  · rw [J7 hb hk e, zo5] at q
    exact .inr ⟨e, (Option.some.inj q).symm⟩
theorem qj1 (ar : ∀ a ∈ A, L3 h A a) : O7 (V1 K h A) := fun b => by
  cases q : V1 K h A b with
  | none => exact .inl rfl
  | some u =>
    obtain ⟨_, vs, _, _, ⟨_, e⟩ | ⟨_, e⟩⟩ := W5 ar q
    · exact .inr ⟨_, _, by rw [e]⟩
    · exact .inr ⟨_, _, by rw [e]⟩
theorem qj2 (ar : ∀ a ∈ A, L3 h A a) : HOk P w (V1 K h A) h := fun b u q => by
  obtain ⟨_, vs, h1, h2, ⟨e, rfl⟩ | ⟨e, rfl⟩⟩ := W5 ar q
  · exact ⟨e, by rw [List.length_map]; exact h1, vs, _, v5 h2, e⟩
  · exact ⟨e, by rw [List.length_map]; exact h1, vs, v5 h2, _, e, rfl, ⟨_, rfl⟩, rfl⟩
theorem P6 {c c' : Value} {vs us : List Value} (e : (some { cls := c, data := .seq vs.toArray } : Option Obj) = some { cls := c', data := .seq us.toArray }) : c = c' ∧ vs = us := by
  have e1 := Option.some.inj e
  have e2 : c = c' := congrArg Obj.cls e1
  have e3 : Data.seq vs.toArray = Data.seq us.toArray := congrArg Obj.data e1
  injection e3 with e4
  refine ⟨e2, ?_⟩
  have e5 := congrArg Array.toList e4
  simpa using e5
theorem qj0 (KX : K.In h) (ar : ∀ a ∈ A, L3 h A a) {a : Addr} {vs : List Value} (ha : a ∈ A) (e : h.get? a = some { cls := .type "list", data := .seq vs.toArray }) : (∀ u ∈ vs, OkU A u) ∧ SqL K (V1 K h A) a (vs.map toV) := by
  obtain ⟨us, h1, h2, h3⟩ := ar a ha
  have hu : us = vs := by
    rcases h3 with q | q
    · rw [e] at q
      exact (P6 q).2.symm
    · rw [e] at q
      exact absurd (Value.type.inj (P6 q).1) (by decide)
  subst hu
  refine ⟨h2, ?_⟩
  cases hk : K.lookup a with
  | none => exact .inl (.inr ⟨_, by rw [J7 ha hk e, zo6]⟩)
  | some o =>
    have e2 := KX a o hk
    rw [e] at e2
    obtain rfl := Option.some.inj e2
    exact .inr ⟨_, us.toArray, _, hk, rfl, rfl, rfl, by rw [List.size_toArray]; exact h1, by simpa using v5 h2⟩
theorem qi9 (KX : K.In h) (ar : ∀ a ∈ A, L3 h A a) {a : Addr} {vs : List Value} (ha : a ∈ A) (e : h.get? a = some { cls := .type "tuple", data := .seq vs.toArray }) : (∀ u ∈ vs, OkU A u) ∧ SqT K (V1 K h A) a (vs.map toV) := by
  obtain ⟨us, h1, h2, h3⟩ := ar a ha
  have hu : us = vs := by
    rcases h3 with q | q
    · rw [e] at q
      exact absurd (Value.type.inj (P6 q).1) (by decide)
    · rw [e] at q
      exact (P6 q).2.symm
  subst hu
  refine ⟨h2, ?_⟩
  cases hk : K.lookup a with
  | none => exact .inl (.inr ⟨_, by rw [J7 ha hk e, zo5]⟩)
  | some o =>
    have e2 := KX a o hk
    rw [e] at e2
    obtain rfl := Option.some.inj e2
    exact .inr ⟨_, us.toArray, _, hk, rfl, rfl, by rw [List.size_toArray]; exact h1, by simpa using v5 h2⟩
mutual
theorem qg3 {Pm : Params} (KX : K.In h) (ar : ∀ a ∈ A, L3 h A a) : ∀ (d : WData) (v : Value), Well Pm h v d → plW d = true → OkU A v → Dw K (V1 K h A) (toV v) d
  | .none, _, x, _, _ => by
    cases x
    exact .non
  | .bool b, _, x, _, _ => by
    cases x
    exact .bl b
  | .int i, _, x, _, _ => by
    cases x
    exact .int i
  | .str s, _, x, _, _ => by
    cases x
    exact .str s
  | .bytes b, _, x, _, _ => by
    cases x
    have z := Dw.byt (K := K) (H := V1 K h A) b.toArray
    exact z
  | .list ds, _, x, p, hu => by
    obtain ⟨a, vs, rfl, ho, hall⟩ := k9 x
    obtain ⟨h2, hs⟩ := qj0 KX ar hu ho
    exact .lst hs (D7 KX ar ds _ hall p h2)
  | .tuple ds, _, x, p, hu => by
    obtain ⟨a, vs, rfl, ho, hall⟩ := j9 x
    obtain ⟨h2, hs⟩ := qi9 KX ar hu ho
    exact .tup hs (D7 KX ar ds _ hall p h2)
  | .float _, _, _, p, _ => Bool.noConfusion (show false = true from p)
  | .dict _, _, _, p, _ => Bool.noConfusion (show false = true from p)
  | .bytearray _, _, _, p, _ => Bool.noConfusion (show false = true from p)
  | .set _, _, _, p, _ => Bool.noConfusion (show false = true from p)
  | .frozenset _, _, _, p, _ => Bool.noConfusion (show false = true from p)
  | .obj _ _, _, _, p, _ => Bool.noConfusion (show false = true from p)
theorem D7 {Pm : Params} (KX : K.In h) (ar : ∀ a ∈ A, L3 h A a) : ∀ (ds : List WData) (vs : List Value), WellAll Pm h vs ds → l3 ds = true → (∀ u ∈ vs, OkU A u) → DwAll K (V1 K h A) (vs.map toV) ds
  | [], _, x, _, _ => by
    cases x
    exact .nil
  | d :: ds, _, x, p, hu => by
    obtain ⟨v, vs, rfl, x1, x2⟩ := l9 x
    have q : plW d = true ∧ l3 ds = true := Bool.and_eq_true_iff.mp p
    exact .cons (qg3 KX ar d v x1 q.1 (hu _ (List.mem_cons_self ..))) (D7 KX ar ds vs x2 q.2 fun u m => hu u (List.mem_cons_of_mem _ m))
end
end
theorem qc0 {ds : List WData} (h : WData.layableAll ds = true) : ∀ d ∈ ds, d.weight ≤ 1048576 := fun d hd =>
  (PySem.W.layableW_iff.mp (List.all_eq_true.mp h d hd)).2.2
theorem zq8 : ∀ (cs : List Codec) (a : Codec.denoteAll cs), (Codec.encAll cs a).length = cs.length
  | [], _ => rfl
  | c :: cs, a => by
    show (Codec.encAll cs a.2).length + 1 = cs.length + 1
    rw [zq8 cs a.2]
end L2
end
section
namespace L2
open PySem PySem.Spec PyProof.Rows
def i5 (s : Stmt) (j : Nat) : Stmt := match s with
  | .ClassDef _ _ _ body _ _ _ _ _ _ _ => body.getD j (.Pass ⟨0, 0, 0, 0⟩)
  | _ => .Pass ⟨0, 0, 0, 0⟩
def A3 (s : Stmt) : Arguments := match s with
  | .FunctionDef _ a _ _ _ _ _ _ _ _ => a
  | _ => { posonlyargs := [], args := [], vararg := none, kwonlyargs := [], kw_defaults := [], kwarg := none, defaults := [] }
def T2 (s : Stmt) : List Stmt := match s with
  | .FunctionDef _ _ b _ _ _ _ _ _ _ => b
  | _ => []
def v0 (s : Stmt) : Scope := match s with
  | .FunctionDef _ _ _ _ _ _ sc _ _ _ => sc
  | _ => { kind := .function, names := [], isGenerator := false, isCoroutine := false }
abbrev CX0 : CXT := fun _ _ _ _ _ _ => False
abbrev E0 : XK := fun _ _ _ => False
theorem pass0 {X : Cx} : p5 CX0 X E0 := fun _ _ _ _ _ _ _ h => h.elim
structure Fun (K : PySem.W.Frag) (x qual : Str) (st : Stmt) (f : Addr) (fd : FuncData) : Prop where
  ex : ∃ (oc : Value) (od : Option Addr) (kV doc pm : Value) (an : Option Addr) (cdv ct : Value) (osl : Array (Option Value)),
    fd = PySem.W.fnOf x qual (A3 st) (T2 st) (v0 st) .none kV doc pm an cdv ct ∧ K.lookup f = some ⟨oc, od, .func fd, osl⟩ ∧ PySem.W.codeIn K cdv qual = true
  kp : PySem.W.keepIn K (.ref f) = true
section
variable {P : Program} {w : World} {K : PySem.W.Frag} {mg : Str → Option Value} {base : Heap}
theorem Fun.ok {x qual : Str} {st : Stmt} {f : Addr} {fd : FuncData} {N ps : List Str} {k : Nat} {sp : Sp} (F : Fun K x qual st f fd) (S : FnScope N ps (v0 st)) (len : ∀ vs H Q E, sp vs H Q E → vs.length = ps.length)
    (hbody : ∀ (cdv : Value) (A : Around) (outer : List Env) (s : Shared) (H : Hp) (vs : List V) (Q : VK) (E : XK), Room k (A.deeper (envOfC qual (v0 st) s.heap.objs.size f cdv)) → sp vs H Q E →
      ∃ t, PSs (j5 CX0 P w K mg base N qual (v0 st) f cdv A outer s H E).nox (T2 st) t ∧ t { nx := fun _ H' => Q .non H', rt := Q } (start N vs) H) : FnOk P w K mg base CX0 (k + 1) f fd ps sp := by
  obtain ⟨oc, od, kV, doc, pm, an, cdv, ct, osl, rfl, lk, hcd⟩ := F.ex
  refine zp4 lk hcd S len fun A outer s H vs Q E hr hsp => ?_
  obtain ⟨t, h, q⟩ := hbody cdv A outer s H vs Q E hr hsp
  exact ⟨t, h.nox, q⟩
theorem Fun.binds {x qual : Str} {st : Stmt} {f : Addr} {fd : FuncData} {ps : List Str} (F : Fun K x qual st f fd)
    (h : ∀ (kV doc pm : Value) (an : Option Addr) (cdv ct : Value) (us : List Value), us.length = ps.length → bindArgs (PySem.W.fnOf x qual (A3 st) (T2 st) (v0 st) .none kV doc pm an cdv ct) ⟨us, []⟩ = pure (ps.zip us)) : y0 K fd ps [] := by
  obtain ⟨oc, od, kV, doc, pm, an, cdv, ct, osl, rfl, lk, hcd⟩ := F.ex
  exact .all (h kV doc pm an cdv ct)
theorem zo9 {x qual : Str} {st : Stmt} {f : Addr} {oc : Value} {od an : Option Addr} {osl : Array (Option Value)} {kV doc pm cdv ct : Value} (l : K.lookup f = some ⟨oc, od, .func (PySem.W.fnOf x qual (A3 st) (T2 st) (v0 st) .none kV doc pm an cdv ct), osl⟩)
    (c : PySem.W.codeIn K cdv qual = true) (k : PySem.W.keepIn K (.ref f) = true) : Fun K x qual st f (PySem.W.fnOf x qual (A3 st) (T2 st) (v0 st) .none kV doc pm an cdv ct) := ⟨⟨oc, od, kV, doc, pm, an, cdv, ct, osl, rfl, l, c⟩, k⟩
end
section
variable {X : Cx}
theorem pv (i : Nat) {x : Str} {pos : Pos} (hN : X.N[i]? = some x := by rfl) (hv : Vis X.env.scope x := by first | exact Or.inl rfl | exact Or.inr (Or.inl rfl) | exact Or.inr (Or.inr rfl)) (hd : (x == ("__debug__" : Str)) = false := by decide)
    (hcd : (x == ("__classdict__" : Str)) = false := by decide) : PE X (.Name x pos) (w9 i) := zR4 hN hv hd hcd
end
theorem A6 {A B : Prop} (h : B) : if false = true then A else B := by
  rw [if_neg Bool.false_ne_true]
  exact h
theorem C2 {A B : Prop} (h : A) : if true = true then A else B := by
  rw [if_pos rfl]
  exact h
theorem A0 {c A B : Prop} [Decidable c] (h1 : c → A) (h2 : ¬ c → B) : if c then A else B := by
  by_cases h : c
  · rw [if_pos h]
    exact h1 h
  · rw [if_neg h]
    exact h2 h
def x0 (H H' : Hp) : Prop := ∀ b o, H b = some o → H' b = some o
theorem x0.refl (H : Hp) : x0 H H := fun _ _ h => h
theorem x0.trans {H H1 H2 : Hp} (a : x0 H H1) (b : x0 H1 H2) : x0 H H2 := fun c o h => b c o (a c o h)
theorem x0.free {H H' : Hp} (e : x0 H H') {l : Addr} (h : H' l = Option.none) : H l = Option.none := by
  cases q : H l with
  | none => rfl
  | some o =>
    rw [e l o q] at h
    cases h
theorem x0.seq {K : PySem.W.Frag} {H H' : Hp} {a : Addr} {xs : List V} (e : x0 H H') (h : SqL K H a xs) : SqL K H' a xs := by
  rcases h with (h | ⟨o, h⟩) | h
  · exact .inl (.inl (e _ _ h))
  · exact .inl (.inr ⟨o, e _ _ h⟩)
  · exact .inr h
theorem K1 {xs : List V} {z : Int} {j : Nat} {v : V} (e : z = (j : Int)) (h : xs[j]? = some v) : atI xs z = some v := by
  rw [e]
  exact t4 h
theorem x0.made {H H1 : Hp} {x dx C : Addr} (nx : H x = Option.none) (nd : H dx = Option.none) (k : ∀ b o, (upd (upd H dx (.own x)) x (.ins C dx [])) b = some o → b ≠ x → H1 b = some o) : x0 H H1 := fun b o e =>
  k b o (by rw [r0 (S0 e nx), r0 (S0 e nd)]; exact e) (S0 e nx)
end L2
end
end
section
set_option Elab.async false
set_option linter.all false
set_option maxRecDepth 100000
set_option maxHeartbeats 2000000
namespace PySem.SeqAt
open PySem.AutoSeq1 (wpAny_loadPart')
open PySem.MeetsSeq PySem.MeetsSeq2 PySem.MeetsSeq3
theorem tuple_indexAt (l : Addr) (items : Array Value) (n : Nat) (dd : Option Addr) (sl : Array (Option Value)) (x : Value) (e : Value → Bool) (j : Nat) (hj : j < items.size)
    (hit : e items[j] = true) (hno : ∀ m (hm : m < items.size), m < j → e items[m] = false) :
    Meets (Builtin.«tuple.index» ⟨[.ref l, x], []⟩)
      (fun A R s => s.heap.get? l = some { cls := .type "tuple", dict := dd, data := .seq items n, slots := sl } ∧ (∀ y, y ∈ items → EqAt A.in1 s y x (e y)) ∧ R (.ok (.ret (.int j s.toks))) { s with toks := s.toks + 1 }) :=
  .of_wp fun prog w A R s h => by
    obtain ⟨hp, g, d, tk, os⟩ := s; obtain ⟨hl, he, h⟩ := h
    unfold Builtin.«tuple.index»
    simp only [Std.Legacy.Range.forIn_eq_forIn_range']
    wp_walk using wpAny_loadPart' hl, wpAny_forIn_list _ (fun rest (b : Option PySem.Fin × Unit) s' => b.1 = none ∧ s' = ⟨hp, g, d, tk, os⟩ ∧ ∃ i, i ≤ j ∧ rest = List.range' i (items.size - i)) _
    case turn =>
      rintro y rest b s' ⟨hb, rfl, i, hi, hr⟩
      have hlt : i < items.size := by omega
      rw [show items.size - i = (items.size - (i + 1)) + 1 by omega, List.range'_succ] at hr
      injection hr with h1 h2
      subst h1
      have hi2 : items[y]? = some items[y] := by simp [hlt]
      rw [hi2]
      refine wpAny_bind (he _ (Array.getElem_mem hlt) prog w _ _ ?_)
      by_cases hy : y = j
      · subst hy
        rw [hit]
        wp_walk
        exact ⟨_, rfl, h⟩
      · rw [hno y hlt (by omega)]
        wp_walk
        exact ⟨rfl, rfl, y + 1, by omega, h2⟩
    case fin =>
      rintro ⟨b1, b2⟩ s' ⟨hb', rfl, i, hi, hr⟩
      have : items.size - i = 0 := by
        have := congrArg List.length hr
        simpa using this.symm
      omega
    case h =>
      exact ⟨rfl, rfl, 0, Nat.zero_le _, by simp [Std.Legacy.Range.size]⟩
end PySem.SeqAt
namespace PySem
open Sem (wp)
open AutoSeq1 (wpAny_loadPart')
section
variable {prog : Program} {w : World} {A : Around} {E : Value → Shared → Prop} {s : Shared}
theorem zu3 {Q : List Value → Shared → Prop} {r : Addr} {a b c : Int} {t u v : Tok} {n : Nat} (hh : A.handled = none) (hr : IsRange s.heap r a b c t u v) (hsmall : Builtin.Range.small a b c = true)
    (hn : Builtin.Range.rangeSize a b c = n) (hlen : n ≤ 2 ^ 24)
    (hQ : ∀ (h' : Heap) (tk : Nat) (acc : Array Value), (∀ b o, s.heap.get? b = some o → h'.get? b = some o) → ItemsOf (fun i v => ∃ t, v = .int (a + i * c) t) acc n → Q acc.toList { s with heap := h', toks := tk }) :
    wpAny (model prog w) A (collect (.ref r)) Q E s := by
  unfold collect
  refine wpAny_bind (wpAny_runValue (codeAny_builtin F.entry_proto_collect ?_))
  rw [Around.under_plainId F.plain_proto_collect _]
  show wpAny _ A.in1 (newList [] >>= fun l => again (.builtin "list.__iadd__" ⟨[l, .ref r], []⟩)) _ _ s
  refine wpAny_bind (wpAny_newObj_type ?_)
  refine wpAny_pure ⟨plainId_quiet F.plain_list_iadd _, codeAny_builtin F.entry_list_iadd ?_⟩
  rw [Around.under_plainId F.plain_list_iadd _]
  show wpAny _ A.in1 (Builtin.List.listExtendWith (.ref s.heap.objs.size) (.ref r) (.ref s.heap.objs.size)) _ _ _
  have hS : (s.heap.push { cls := .type "list", data := .seq ([] : List Value).toArray }).get? s.heap.objs.size = some { cls := .type "list", data := .seq #[] 0 } := Heap.get?_push_size _ rfl
  have fin' : ∀ (h' : Heap) (tk : Nat) (acc : Array Value) (c' : Nat), (∀ b o, b ≠ s.heap.objs.size → (s.heap.push { cls := .type "list", data := .seq ([] : List Value).toArray }).get? b = some o → h'.get? b = some o) →
      h'.get? s.heap.objs.size = some { cls := .type "list", dict := none, data := .seq acc c', slots := #[] } → ItemsOf (fun i v => ∃ t, v = .int (a + i * c) t) acc n → wpAny (model prog w) A (match Value.ref s.heap.objs.size with
      | Value.ref a => do
        match (← load a).data with
          | Data.seq xs _ => pure xs.toList
          | _ => unsupported "internal:collect"
      | _ => unsupported "internal:collect") Q E { s with heap := h', toks := tk } := by
    intro h' tk acc c' hk hS' hacc
    show wpAny _ A (load s.heap.objs.size >>= _) _ _ _
    refine wpAny_bind (wpAny_load hS' ?_)
    refine wpAny_pure ?_
    exact hQ h' tk acc (fun b o e => hk b o (Nat.ne_of_lt (Heap.lt_size e)) (Heap.get?_push_of_some _ e)) hacc
  refine wpAny_mono (wpAny_extend_range (A := A) (R := fun r' s' => ∃ h' tk acc c', r' = .ok (.ret (.ref s.heap.objs.size)) ∧ s' = { s with heap := h', toks := tk } ∧ (∀ b o, b ≠ s.heap.objs.size → (s.heap.push { cls := .type "list", data := .seq ([] : List Value).toArray }).get? b = some o → h'.get? b = some o) ∧
      h'.get? s.heap.objs.size = some { cls := .type "list", dict := none, data := .seq acc c', slots := #[] } ∧ ItemsOf (fun i v => ∃ t, v = .int (a + i * c) t) acc n)
    (s := { s with heap := s.heap.push { cls := .type "list", data := .seq ([] : List Value).toArray } }) hh (Heap.get?_push_of_some _ hr) hsmall hn hlen s.heap.objs.size (.ref s.heap.objs.size) 0 hS fun h' tk acc c' hk hS' hacc => ⟨h', tk, acc, c', rfl, rfl, hk, hS', hacc⟩) (fun fin s' h => ?_) (fun e s' h => ?_)
  · cases fin with
    | done f =>
      obtain ⟨h', tk, acc, c', e, rfl, hk, hS', hacc⟩ := h
      cases e
      exact fin' h' tk acc c' hk hS' hacc
    | again c' => exact ⟨h.1, codeAny_mono h.2 fun r' s'' hr' => by
        obtain ⟨h', tk, acc, c', rfl, rfl, hk, hS', hacc⟩ := hr'
        exact fin' h' tk acc c' hk hS' hacc⟩
  · obtain ⟨_, _, _, _, e, _⟩ := h
    cases e
theorem qh2 {Q₁ : Value → Shared → Prop} {r : Addr} {a b c : Int} {t u v : Tok} {n : Nat} (hh : A.handled = none) (hr : IsRange s.heap r a b c t u v) (hsmall : Builtin.Range.small a b c = true)
    (hn : Builtin.Range.rangeSize a b c = n) (hsz : n ≤ sizeLine)
    (h : ∀ (h' : Heap) (tk : Nat) (acc : Array Value), (∀ b o, s.heap.get? b = some o → h'.get? b = some o) → ItemsOf (fun i v => ∃ t, v = .int (a + i * c) t) acc n → Q₁ (.ref h'.objs.size) { s with heap := h'.push { cls := .type "tuple", data := .seq acc }, toks := tk }) :
    codeAny (model prog w) A (.call (.builtin "tuple.__new__") ⟨[.type "tuple", .ref r], []⟩) (wants Q₁ E) s := by
  refine codeAny_of_tree ?_
  show wpAny _ A.in1 (do checkBuiltinCall "tuple.__new__" ⟨[.type "tuple", .ref r], []⟩; again (.builtin "tuple.__new__" ⟨[.type "tuple", .ref r], []⟩)) _ _ s
  refine wpAny_bind (wpAny_of_eq (F.newCall_tuple_1 _) (wpAny_pure ⟨plainId_quiet F.plain_tuple_new _, codeAny_builtin F.entry_tuple_new ?_⟩))
  rw [Around.under_plainId F.plain_tuple_new _]
  have hsub := sub_tuple_self
  have hinit := init_tuple_lookup
  have hmh := madeHere_tuple
  have hTI : Shared.TypeIs s (.ref r) "range" := ⟨_, hr, rfl⟩
  have hlen : n ≤ 2 ^ 24 := by rw [sizeLine_eq] at hsz; omega
  wp_walk using wpAny_typeOf hTI, zu3 (A := A.in1) hh hr hsmall hn hlen
  intro h' tk acc hm hacc
  show wpAny _ _ (Builtin.Tuple.tupleExact acc.toList.toArray >>= fun v => ret v) _ _ _
  unfold Builtin.Tuple.tupleExact
  refine wpAny_bind (wpAny_newObj_type ?_ (by show acc.toList.toArray.size ≤ sizeLine; simp only [Array.toArray_toList]; rw [hacc.1]; exact hsz))
  refine wpAny_pure ?_
  have e : acc.toList.toArray = acc := by simp
  rw [e]
  exact h h' tk acc hm hacc
theorem qh6 {Q : Value → Shared → Prop} {r : Addr} {a b c : Int} {t u v : Tok} {n : Nat} (hh : A.handled = none) (hr : IsRange s.heap r a b c t u v) (hsmall : Builtin.Range.small a b c = true)
    (hn : Builtin.Range.rangeSize a b c = n) (hsz : n ≤ sizeLine)
    (h : ∀ (h' : Heap) (tk : Nat) (acc : Array Value), (∀ b o, s.heap.get? b = some o → h'.get? b = some o) → ItemsOf (fun i v => ∃ t, v = .int (a + i * c) t) acc n → Q (.ref h'.objs.size) { s with heap := h'.push { cls := .type "tuple", data := .seq acc }, toks := tk }) :
    wpAny (model prog w) A (call (.type "tuple") [.ref r]) Q E s := by
  refine callType_codes (Q₁ := fun obj s₁ => s₁.TypeIs obj "tuple" ∧ Q obj s₁) F.called_tuple (F.typeCall_tuple_1 _) F.entry_object_init
    (qh2 hh hr hsmall hn hsz fun h' tk acc hm hacc => ⟨⟨_, Heap.get?_push_size _ rfl, rfl⟩, h h' tk acc hm hacc⟩) fun obj s₁ h₁ => ?_
  exact ⟨h₁.1, F.args_object_init_2 obj _, object_init_meets F.called_tuple.init.lookup F.called_tuple.made (by decide) prog w A.in1 _ s₁ ⟨h₁.1, rfl, h₁.2⟩⟩
end
end PySem
namespace L2
open PySem PySem.Spec PyProof.Rows
section
variable {X : Cx} {x : Str} {pos : Pos}
theorem V0 {i : Int} (hg : Gl X x) (hm : ∃ t, X.mg x = some (.int i t)) (hd : (x == ("__debug__" : Str)) = false := by decide) : PE X (.Name x pos) (tC (.int i)) :=
  let ⟨t, h⟩ := hm
  zi6 hg h ⟨t, rfl⟩ hd
def zh2 (K : PySem.W.Frag) : List V → Hp → VK → Prop := fun xs H Q => ∃ p ys, xs = [.ref p] ∧ (SqL K H p ys ∨ SqT K H p ys) ∧ Q (.int ys.length) H
theorem O0 : K3 X (.builtin "len") (zh2 X.K) := qh8
def zQ3 (K : PySem.W.Frag) : V → List V → Hp → VK → Prop := fun x xs H Q => ∃ (a : Addr) (ns : List Int) (k : Int), x = V.ref a ∧ xs = [V.int k] ∧ SqL K H a (ns.map V.int) ∧ Q (.int (ns.count k : Nat)) H
theorem zZ7 : MtR X "list.count" (zQ3 X.K) := by
  intro pins s σ H x xs v us Q I rx rxs h
  obtain ⟨a, ns, k, rfl, rfl, hs, q⟩ := h
  cases rx
  obtain ⟨u, rfl, ⟨t, rfl⟩⟩ := V4 rxs
  obtain ⟨its, rv, pl, hz⟩ := I.list hs
  exact count_list_ints pl.isList (L8 rv) ⟨.int (ns.count k : Nat), H, I.tok _, ⟨_, rfl⟩, q⟩
def tTM (r : V → List V → Hp → VK → Prop) (to : TE) (t : TA) : TE := fun σ H Q => to σ H fun x H1 => (∃ p xs, x = .ref p ∧ H1 p = some (.tup xs)) ∧ t σ H1 fun xs H2 => r x xs H2 Q
variable {o e : Expr} {es : List Expr} {to : TE} {t : TA} {name : Str} {apos cpos : Pos} {id : String} {r : V → List V → Hp → VK → Prop}
theorem zR5 (pa : PlainAttrs "tuple") (slot : Slot "tuple" name id) (hty : typeOf (.builtin id) = pure (.type "method_descriptor")) (hm : MtR X id r) (ho : PE X o to) (ha : PA X (e :: es) t)
    (hbase : attributeBase o name X.env (eval o X.env) = eval o X.env := by rfl)
    (hfew : ((backTo cpos (starEach (e :: es) X.env)).all (fun x => !x.1) && (backToKw cpos (keywordEach [] X.env)).all (fun x => x.1.isSome)
      && decide ((e :: es).length + ([] : List Keyword).length + (if ([] : List Keyword).isEmpty then 0 else 1) < 30)) = true := by rfl)
    (hline : (apos.endLine == cpos.line) = true := by rfl) (hs : starEach (e :: es) X.env = (false, eval e X.env) :: starEach es X.env := by rfl) (hplain : (backTo cpos (starEach es X.env)).any (·.1) = false := by rfl) :
    PE X (.Call (.Attribute o name apos) (e :: es) [] cpos) (tTM r to t) := by
  intro pins s σ H Q I h
  refine wpAny_Call_method_late hbase hfew hline rfl (thn (ho pins s σ H _ I h) fun v s1 ⟨x, H1, I1, r1, ty, q1⟩ => ?_)
  obtain ⟨p, xs, rfl, hp⟩ := ty
  cases r1
  obtain ⟨_, its, _, ob, e1, e2, e3, e4⟩ := (show W1 X.prog X.w H1 s1.heap p (.tup xs) from I1.hok p _ hp)
  refine ⟨"tuple", id, pa, slot, hty, ⟨ob, e1, e2⟩, fun a ea => ?_, ?_⟩
  · cases ea
    exact ⟨ob, e1, e4⟩
  have hA := ha cpos pins s1 σ H1 _ I1 q1
  rw [hs] at hA ⊢
  refine Calls.callWith_builtin (by show (false || (backTo cpos (starEach es X.env)).any (·.1)) = false; rw [hplain] <;> rfl) (Calls.evalArgs_plain ?_)
  exact thn hA fun us s2 ⟨vs, H2, I2, r2, q2⟩ => hm pins s2 σ H2 (.ref p) vs (.ref p) us Q I2 rfl r2 q2
def zh3 (K : PySem.W.Frag) : V → List V → Hp → VK → Prop := fun x xs H Q => ∃ (a : Addr) (ys : List V) (y : V) (j : Nat) (z : V), x = V.ref a ∧ xs = [y] ∧ SqT K H a ys ∧ d3 y = true ∧ ys.all d3 = true ∧ ys[j]? = some z ∧ eqV z y = true ∧
  (∀ (m : Nat) (z' : V), m < j → ys[m]? = some z' → eqV z' y = false) ∧ Q (.int (j : Nat)) H
theorem zZ5 : MtR X "tuple.index" (zh3 X.K) := by
  intro pins s σ H x xs v us Q I rx rxs h
  obtain ⟨a, ys, y, j, z, rfl, rfl, hs, fy, fys, hz, hzj, hno, q⟩ := h
  cases rx
  obtain ⟨uy, rfl, ry⟩ := V4 rxs
  obtain ⟨its, rv, ⟨⟨cls, dd, data, sl⟩, ho, hc, n, hd⟩, hlen⟩ := I.tuple hs
  simp only at hc hd
  subst hc hd
  obtain ⟨u, hu, ru⟩ := rv.get hz
  obtain ⟨hjl, hje⟩ := List.getElem?_eq_some_iff.mp hu
  have hj : j < its.toArray.size := by simpa using hjl
  refine call_meets PySem.F.slot_tuple_index ⟨_, ho, rfl⟩ PySem.F.entry_tuple_index (PySem.F.args_tuple_index_2 _ _)
    (SeqAt.tuple_indexAt a its.toArray n dd sl uy (eqU y) j hj ?_ ?_) ⟨ho, fun u' hu' => O5 ry fy rv fys u' (by simpa using hu'), ?_⟩
  · have e1 : its.toArray[j] = u := by simpa using hje
    rw [e1, C7 ru (zp7 fys hz)]
    exact hzj
  · intro m hm hmj
    have hvl := rv.length
    have hml : m < its.length := by simpa using hm
    have hmy : m < ys.length := by omega
    have hy' : ys[m]? = some ys[m] := List.getElem?_eq_getElem hmy
    obtain ⟨u2, hu2, ru2⟩ := rv.get hy'
    obtain ⟨_, hme⟩ := List.getElem?_eq_some_iff.mp hu2
    have e1 : its.toArray[m] = u2 := by simpa using hme
    rw [e1, C7 ru2 (zp7 fys hy')]
    exact hno m _ hmj hy'
  · exact ⟨.int (j : Nat), H, I.tok _, ⟨_, rfl⟩, q⟩
theorem zs6 : K3 X (.type "range") (fun xs H Q => ∃ j : Int, xs = [.int j] ∧ ∀ p, H p = none → Q (.ref p) (upd H p (.rng 0 j))) := by
  intro pins s σ H xs us Q I r h
  obtain ⟨j, rfl, q⟩ := h
  obtain ⟨u, rfl, ⟨t, rfl⟩⟩ := V4 r
  refine call_range_1 ?_
  exact ⟨.ref s.heap.objs.size, _, I.laid (fun b o e => Heap.get?_push_of_some _ e) (Nat.le_refl _) (show W1 X.prog X.w _ _ _ (.rng 0 j) from ⟨_, _, _, Heap.get?_push_size _ rfl⟩), rfl, q _ (I.hok.fresh (Nat.le_refl _))⟩
theorem n9 : ∀ {xs : List V} {us : List Value}, xs.length = us.length → (∀ (i : Nat) (x : V) (u : Value), xs[i]? = some x → us[i]? = some u → Q0 x u) → M0 xs us
  | [], [], _, _ => .nil
  | [], _ :: _, h, _ => by simp at h
  | _ :: _, [], h, _ => by simp at h
  | x :: xs, u :: us, h, f => .cons (f 0 x u rfl rfl) (n9 (by simpa using h) fun i y v hy hv => f (i + 1) y v (by simpa using hy) (by simpa using hv))
def a4 (lo : Int) (n : Nat) : List V := (List.range n).map fun (i : Nat) => V.int (lo + i)
theorem zP1 {lo : Int} {n : Nat} {acc : Array Value} (h : ItemsOf (fun i v => ∃ t, v = .int (lo + i * 1) t) acc n) : M0 (a4 lo n) acc.toList := by
  unfold a4
  refine n9 (by simp [h.1]) fun i x u hx hu => ?_
  rw [List.getElem?_map] at hx
  by_cases hi : i < n
  · rw [List.getElem?_range hi] at hx
    cases hx
    obtain ⟨t, e⟩ := h.2 i u (by simpa using hu)
    exact ⟨t, by rw [e, Int.mul_one]⟩
  · rw [List.getElem?_eq_none (by simpa using hi)] at hx
    cases hx
theorem zs5 (hc : X.calm = true) : K3 X (.type "tuple") (fun xs H Q => ∃ p lo hi, xs = [.ref p] ∧ H p = some (.rng lo hi) ∧ (-(2 ^ 62) ≤ lo ∧ lo < 2 ^ 62 ∧ -(2 ^ 62) ≤ hi ∧ hi < 2 ^ 62) ∧ (hi - lo).toNat ≤ sizeLine ∧
    ∀ l, H l = none → Q (.ref l) (upd H l (.tup (a4 lo (hi - lo).toNat)))) := by
  intro pins s σ H xs us Q I r h
  obtain ⟨p, lo, hi, rfl, hp, ⟨h1, h2, h3, h4⟩, hz, q⟩ := h
  obtain ⟨u, rfl, ru⟩ := V4 r
  cases ru
  obtain ⟨t1, t2, t3, e⟩ := (show W1 X.prog X.w H s.heap p (.rng lo hi) from I.hok p _ hp)
  refine qh6 (n := (hi - lo).toNat) (I.ok.hd hc) e (small_one h1 h2 h3 h4) (by rw [rangeSize_one]; split <;> omega) hz fun h' tk acc kp hacc => ?_
  have I1 : Inv X pins σ H { s with heap := h', toks := tk } := I.kept (t' := tk) kp
  have I2 : Inv X pins σ (upd H h'.objs.size (.tup (a4 lo (hi - lo).toNat))) { s with heap := h'.push { cls := .type "tuple", data := .seq acc }, toks := tk } :=
    I1.laid (t' := tk) (fun b o e => Heap.get?_push_of_some _ e) (Nat.le_refl _) (show W1 X.prog X.w _ _ _ (.tup (a4 lo (hi - lo).toNat)) from ⟨by unfold a4; simpa using hz, acc.toList, zP1 hacc, by simpa using i9.new _ _⟩)
  exact ⟨.ref h'.objs.size, _, I2, rfl, q _ (I1.hok.fresh (Nat.le_refl _))⟩
end
end L2
end
section
set_option Elab.async false
set_option linter.all false
set_option maxRecDepth 100000
set_option maxHeartbeats 2000000
namespace L2
open PySem PySem.Spec PyProof.Rows
abbrev T5 (X : Cx) (qual : Str) (scope : Scope) (L f : Addr) (cd : Value) : Env := PySem.W.envX qual scope L f cd (A1 X.env.cells scope.names [])
abbrev Cx.lam (X : Cx) (A : Around) (N : List Str) (s : Shared) (H : Hp) (env : Env) : Cx :=
  { X with A := A.deeper env, N := N, s_0 := s, H_0 := H, env := env, outer := X.stack, stack := env :: X.stack, ex := [], fn := fun _ => false, calm := true, pn := [], xe := fun _ _ => False }
structure LamScope (X : Cx) (N : List Str) (x : Str) (fr : List (Str × Nat)) (scope : Scope) : Prop where
  kind : scope.kind = .function
  co : scope.isCoroutine = false
  gen : scope.isGenerator = false
  uniq : ∀ y ∈ scope.names, scope.names.lookup y.1 = some y.2
  nocell : ∀ y ∈ scope.names, y.2 ≠ .cell
  names : N = x :: fr.map (·.1)
  nd : N.Nodup
  par : scope.names.lookup x = some .local
  free : ∀ y ∈ scope.names, y.2 = .free → (y.1 ∈ fr.map (·.1)) ∧ (X.env.scope.names.lookup y.1 = some .cell ∨ X.env.scope.names.lookup y.1 = some .free)
  ix : ∀ p ∈ fr, X.N[p.2]? = some p.1 ∧ scope.names.lookup p.1 = some .free
def A4 (σ : St) (v : V) (fr : List (Str × Nat)) : St := some v :: fr.map fun p => (σ[p.2]?).getD none
section
variable {X : Cx} {pins : List (Addr × Obj)} {σ : St} {H : Hp} {s : Shared}
theorem C6 (I : Inv X pins σ H s) {scope : Scope} (hfree : ∀ y ∈ scope.names, y.2 = .free → X.env.scope.names.lookup y.1 = some .cell ∨ X.env.scope.names.lookup y.1 = some .free) {y : Str} {c : Addr} (hm : (y, c) ∈ A1 X.env.cells scope.names []) :
    X.env.cells.lookup y = some c ∧ c < s.heap.objs.size := by
  rcases cloFrom_mem hm with hm | ⟨h1, rfl⟩
  · cases hm
  · obtain ⟨c, hc⟩ := I.ok.has _ (hfree _ h1 rfl)
    rw [hc]
    obtain ⟨w, z⟩ := I.cell _ _ hc
    exact ⟨rfl, z.lt⟩
theorem zs0 (I : Inv X pins σ H s) {scope : Scope} (hfree : ∀ y ∈ scope.names, y.2 = .free → X.env.scope.names.lookup y.1 = some .cell ∨ X.env.scope.names.lookup y.1 = some .free) {y : Str} (h : (y, NameKind.free) ∈ scope.names) :
    ∃ c, (A1 X.env.cells scope.names []).lookup y = some c ∧ X.env.cells.lookup y = some c := by
  obtain ⟨c, hc⟩ := i7 (E7 (cells := X.env.cells) (acc := []) h)
  exact ⟨c, hc, (C6 I hfree (PySem.mem_of_lookup hc)).1⟩
theorem qc1 {A : Around} {N : List Str} {x : Str} {fr : List (Str × Nat)} {qual : Str} {scope : Scope} {f : Addr} {cd u : Value} {v : V} {h₁ : Heap} {tk : Nat} (S : LamScope X N x fr scope) (I : Inv X pins σ H s) (hA : A.frames = some X.stack) (hh : A.handled = none)
    (r : Q0 v u) (hns : h₁.Ns s.heap.objs.size (fun y => ([(x, u)].reverse.lookup y))) (hk : ∀ b o, s.heap.get? b = some o → h₁.get? b = some o) :
    Inv (X.lam A N s H (T5 X qual scope s.heap.objs.size f cd)) [] (A4 σ v fr) H { s with heap := h₁, toks := tk } := by
  have hfr : ∀ y ∈ scope.names, y.2 = .free → X.env.scope.names.lookup y.1 = some .cell ∨ X.env.scope.names.lookup y.1 = some .free := fun y hy e => (S.free y hy e).2
  have noE : ∀ b : Addr, b ∉ (X.lam A N s H (T5 X qual scope s.heap.objs.size f cd)).ex := fun b z => absurd (show b ∈ ([] : List Addr) from z) (by simp)
  refine ⟨⟨I.mod, S.kind, rfl, rfl, Nat.le_refl _, fun y z c h1 h2 => ?_, fun y hy => ?_, fun y c z _ => (by cases z), fun _ => hh, Around.frames_deeper hA, .inr ⟨rfl, rfl⟩, fun b z => absurd z (noE b), I.bs, Nat.le_trans I.ok.bsz I.sz, fun b _ _ => noE b, fun b z => absurd z (noE b), I.stack, I.stkFree⟩,
    rfl, I.bare, Un.kept hk, ⟨_, hns, fun i y v' e1 e2 e3 => ?_⟩, fun y c e => ?_, I.hok.fresh (Nat.le_refl _), fun y c e => ?_, fun p hp => absurd (show p ∈ ([] : List (Addr × Obj)) from hp) (by simp), I.hok.kept hk, ?_⟩
  · exact I.ok.inj y z c (C6 I hfr (PySem.mem_of_lookup h1)).1 (C6 I hfr (PySem.mem_of_lookup h2)).1
  · have hy : scope.names.lookup y = some .cell ∨ scope.names.lookup y = some .free := hy
    rcases hy with hy | hy
    · exact absurd rfl (S.nocell _ (PySem.mem_of_lookup hy))
    · obtain ⟨c, hc, _⟩ := zs0 I hfr (PySem.mem_of_lookup hy)
      exact ⟨c, hc⟩
  · have e1 : N[i]? = some y := e1
    rw [S.names] at e1
    cases i with
    | zero =>
      have e4 : x = y := Option.some.inj e1
      subst e4
      have e5 : v = v' := Option.some.inj (Option.some.inj e2)
      subst e5
      refine ⟨u, r, .inl ⟨S.par, ?_⟩⟩
      show List.lookup x [(x, u)] = some u
      rw [List.lookup_cons, beq_self_eq_true]
    | succ i =>
      have e1 : (fr.map (·.1))[i]? = some y := e1
      have e2 : (fr.map fun p => (σ[p.2]?).getD none)[i]? = some (some v') := e2
      rw [List.getElem?_map] at e1 e2
      cases hp : fr[i]? with
      | none => rw [hp] at e1; cases e1
      | some p =>
        rw [hp] at e1 e2
        have e4 : p.1 = y := Option.some.inj e1
        have e5 : (σ[p.2]?).getD none = some v' := Option.some.inj e2
        obtain ⟨h1, h2⟩ := S.ix p (List.mem_of_getElem? hp)
        rw [e4] at h1 h2
        have e6 : σ[p.2]? = some (some v') := by
          cases q : σ[p.2]? with
          | none => rw [q] at e5; cases e5
          | some z => rw [q] at e5; exact congrArg some e5
        have hm := PySem.mem_of_lookup h2
        have hv : Vis X.env.scope y := (hfr _ hm rfl).elim (fun k => .inr (.inl k)) fun k => .inr (.inr k)
        obtain ⟨m, hn, hl⟩ := I.loc
        obtain ⟨w, rw', q⟩ := hl p.2 y v' h1 e6 hv
        refine ⟨w, rw', .inr ⟨.inr h2, ?_⟩⟩
        obtain ⟨c, hc, hc2⟩ := zs0 I hfr hm
        rcases q with ⟨k, _⟩ | ⟨_, c', e', z⟩
        · have k : X.env.scope.names.lookup y = some .local := k
          rcases hfr _ hm rfl with k' | k' <;> rw [show X.env.scope.names.lookup y = _ from k'] at k <;> cases k
        · rw [hc2] at e'; cases e'
          exact ⟨c, hc, z.keeps hk⟩
  · obtain ⟨hc, _⟩ := C6 I hfr (PySem.mem_of_lookup (show (A1 X.env.cells scope.names []).lookup y = some c from e))
    obtain ⟨w, z⟩ := I.cell y c hc
    exact ⟨w, z.keeps hk⟩
  · exact I.freeC y c (C6 I hfr (PySem.mem_of_lookup (show (A1 X.env.cells scope.names []).lookup y = some c from e))).1
  · show (A4 σ v fr).length = N.length
    unfold A4
    rw [S.names, List.length_cons, List.length_cons, List.length_map, List.length_map]
theorem zg3 {A : Around} {N : List Str} {x : Str} {fr : List (Str × Nat)} {name qual : Str} {params : Arguments} {body : Expr} {scope : Scope} {f c : Addr} {pm ctv u : Value} {v : V} {te : TE} {Q : VK} (S : LamScope X N x fr scope) (I : Inv X pins σ H s) (hA : A.frames = some X.stack) (hh : A.handled = none) (hd : A.depth < recursionLimit)
    (ho : s.heap.get? f = some (PySem.W.kla_obj name qual params body scope (A1 X.env.cells scope.names []) pm c ctv)) (hrec : s.heap.CodeRec (.ref c) qual)
    (hbind : bindArgs (PySem.W.kla_fn name qual params body scope (A1 X.env.cells scope.names []) pm (.ref c) ctv) ⟨[u], []⟩ = pure [(x, u)]) (r : Q0 v u)
    (hb : PE (X.lam A N s H (T5 X qual scope s.heap.objs.size f (.ref c))) body te) (h : te (A4 σ v fr) H Q) :
    wpAny (model X.prog X.w) A (call (.ref f) [u]) (EP X pins σ Q) (fun _ _ => False) s := by
  refine wpAny_call (codeAny_mono (R := CR (fun _ _ _ _ _ _ => False) X.stack X.prog X.w H s Q fun _ _ _ => False) ?_ fun r s' hq => ?_)
  · refine PySem.W.kla_callFunE hd ho rfl S.co S.gen rfl hrec ?_
    rw [hbind]
    refine wpAny_pure (wpAny_newFunctionEnv S.nocell (fun y hy => ?_) (fun h₁ hns hsb => ?_) S.kind)
    · rw [List.mem_singleton.mp hy]; exact S.par
    have hk : ∀ b o, s.heap.get? b = some o → h₁.get? b = some o := fun b o e => hsb.extBut b o (Nat.ne_of_lt (Heap.lt_size e)) (Heap.get?_push_of_some _ e)
    refine ⟨I.nolimit.keeps hk, PySem.W.kla_codeExpr ?_⟩
    have J : Inv (X.lam A N s H (T5 X qual scope s.heap.objs.size f (.ref c))) [] (A4 σ v fr) H { s with heap := h₁, toks := s.toks + [(x, u)].length } := qc1 S I hA hh r hns hk
    refine wpAny_mono (hb [] _ (A4 σ v fr) H Q J h) (fun u' s' hs => ?_) fun e s' hs => hs.elim
    obtain ⟨v', H', J', rv, q⟩ := hs
    exact ⟨v', H', J'.os, J'.bare, J'.base, J'.hok, rv, q⟩
  · cases r with
    | error e => exact hq
    | ok fl =>
      cases fl with
      | ret u => exact I.after hq
      | next => exact False.elim hq
      | brk => exact False.elim hq
      | cont => exact False.elim hq
end
end L2
end
section
set_option Elab.async false
set_option linter.all false
set_option maxRecDepth 100000
set_option maxHeartbeats 2000000
namespace L2
open PySem PySem.Spec PyProof.Rows
section
variable {X : Cx} {pins : List (Addr × Obj)} {σ : St} {H : Hp} {s : Shared}
structure Asked (X : Cx) (pins : List (Addr × Obj)) (σ : St) (H : Hp) (a kS : Addr) (e1 : Nat) (kz : List Int) (s : Shared) : Prop where
  inv : Inv X pins σ H s
  la : s.heap.get? a = some (seqObj "list" #[] e1)
  fa : Y1 X pins H a
  fk : Y1 X pins H kS
  ne : kS ≠ a
  keys : ∃ kA e, s.heap.get? kS = some (seqObj "list" kA e) ∧ IntsAre kA.toList kz
theorem zt6 (I : Inv X pins σ H s) {b : Addr} (f : Y1 X pins H b) : X.base.get? b = none := by
  cases q : X.base.get? b with
  | none => rfl
  | some o =>
    rcases f.2.2.2.1 with z | z
    · exact absurd z (I.ok.noex b o q)
    · exact absurd (Nat.lt_of_lt_of_le (Heap.lt_size q) (Nat.le_trans I.ok.bsz z)) (Nat.lt_irrefl _)
theorem qi8 {a kS : Addr} {e1 : Nat} {vs : List Value} {ns : List Int} {A : Around} {P : PySem.Fin → Shared → Prop} {E : Value → Shared → Prop} {g : Int → Int} (K : Asked X pins σ H a kS e1 (ns.map g) s) (hi : IntsAre vs ns) (hZ : vs.length ≤ sizeLine)
    (h : ∀ (s' : Shared) (ns' : List Int), ns'.Perm ns → ns'.Pairwise (fun x y => g x ≤ g y) → Inv X pins σ (upd H a (.lst (ns'.map V.int))) s' → P (.done (.ret .none)) s') :
    wpAny (model X.prog X.w) A (do let keys ← Builtin.List.listItems (.ref kS); ksk_end a false vs.toArray e1 (.ref kS) keys) P E s := by
  obtain ⟨kA, e, hk, hkz⟩ := K.keys
  obtain ⟨m, F⟩ := K.inv.fr
  have hlen : (ns.map g).length = vs.length := by rw [List.length_map, hi.length]
  refine wpAny_bind (listItems_at hk rfl ?_)
  have hba := zt6 K.inv K.fa
  have hbk := zt6 K.inv K.fk
  refine ksk_end_Any (e := e) (news := (M7 X.base s.heap X.env.locals).filter fun p => decide (p.1 ≠ kS) && decide (p.1 ≠ a)) F (fun p hp => ?_) K.ne (fun p hp => ?_) (fun p hp => ?_) hkz hlen hZ fun h' tk out c F' N' ko => ?_
  · rcases List.mem_append.mp hp with hp | hp
    · exact zZ0 p (List.mem_filter.mp hp).1
    · rcases List.mem_cons.mp hp with rfl | hp
      · exact ⟨hk, K.fk.2.1, hbk⟩
      · rw [List.mem_singleton.mp hp]; exact ⟨K.la, K.fa.2.1, hba⟩
  · have := (List.mem_filter.mp hp).2; simp at this; exact this.1
  · have := (List.mem_filter.mp hp).2; simp at this; exact this.2
  have kp : ∀ b o, b ≠ X.env.locals → b ≠ a → b ≠ kS → s.heap.get? b = some o → h'.get? b = some o := fun b o h1 h2 h3 e => by
    cases q : X.base.get? b with
    | some u =>
      have := K.inv.bk b u q
      rw [e] at this; cases this
      exact F'.keep b _ q
    | none => exact (N' (b, o) (List.mem_cons_of_mem _ (List.mem_filter.mpr ⟨qa2 h1 q e, by simp [h2, h3]⟩))).1
  obtain ⟨ps, hp, ho, hs⟩ := ko
  have hI0 : ∀ p ∈ (ns.map g).zip vs, ∃ n t, p = (g n, Value.int n t) ∧ n ∈ ns := by
    intro p hp
    obtain ⟨i, hi'⟩ := List.getElem?_of_mem hp
    rw [List.getElem?_zip_eq_some, List.getElem?_map] at hi'
    cases q : ns[i]? with
    | none => rw [q] at hi'; cases hi'.1
    | some n =>
      rw [q] at hi'
      obtain ⟨t, ht⟩ := hi.get i n q
      rw [ht] at hi'
      have e1 : g n = p.1 := Option.some.inj hi'.1
      have e2 : Value.int n t = p.2 := Option.some.inj hi'.2
      exact ⟨n, t, by rw [e1, e2], List.mem_of_getElem? q⟩
  have hrel : ∀ p ∈ ps, ∃ n t, p = (g n, Value.int n t) ∧ n ∈ ns := fun p hp' => hI0 p (hp.mem_iff.mp hp')
  have hI : IntsAre (ps.map Prod.snd) ((ps.map Prod.snd).map numOf) := intsAre_map _ fun v hv => by
    obtain ⟨p, hp', rfl⟩ := List.mem_map.mp hv
    obtain ⟨n, t, e, _⟩ := hrel p hp'
    exact ⟨n, t, by rw [e]⟩
  have hP : ((ps.map Prod.snd).map numOf).Perm ns := by
    have h1 := (hp.map Prod.snd).map numOf
    rw [List.map_snd_zip (by rw [hlen]; exact Nat.le_refl _), hi.nums] at h1
    exact h1
  have hO : ((ps.map Prod.snd).map numOf).Pairwise (fun x y => g x ≤ g y) := by
    rw [List.pairwise_map, List.pairwise_map]
    refine hs.imp_of_mem fun {p q} hp' hq' hr => ?_
    obtain ⟨n, t, e, _⟩ := hrel p hp'
    obtain ⟨n', t', e', _⟩ := hrel q hq'
    rw [e, e'] at hr ⊢
    exact hr
  have hla : h'.get? a = some (seqObj "list" out c) := (N' _ List.mem_cons_self).1
  have hz : (((ps.map Prod.snd).map numOf).map V.int).length ≤ sizeLine := by rw [List.length_map, hP.length_eq, ← hi.length]; exact hZ
  refine h _ ((ps.map Prod.snd).map numOf) hP hO ?_
  have nL : h'.Ns X.env.locals m := F'.ns
  refine K.inv.step (g' := s.gens) (t' := tk) (d' := s.drawn) (ch := [a, kS]) (fun b hb => ?_) (fun b o h1 h2 h3 e _ => kp b o h1 (fun z => h3 (by simp [z])) (fun z => h3 (by simp [z])) e) (fun b o h1 h2 h3 e _ => ⟨o.slots, kp b o h1 (fun z => h3 (by simp [z])) (fun z => h3 (by simp [z])) e⟩)
    (fun b o h3 _ n => by rw [r0 (fun z => h3 (by simp [z]))]; exact n) (fun b o h3 e => ?_) (fun b xs e => by rw [r0 (S0 e K.fa.1)]; exact e) (fun b o u e => by rw [r0 (S0 e K.fa.1)]; exact e) (fun b ps e => ⟨#[], by rw [r0 (S0 e K.fa.1), e]; simp⟩) (fun m' hm => ?_) ?_ K.inv.bare
  · rcases List.mem_cons.mp hb with rfl | hb
    · exact ⟨K.fa.2.2.2.1, K.fa.2.1, K.fa.2.2.2.2.1, K.fa.2.2.2.2.2⟩
    · rw [List.mem_singleton.mp hb]; exact ⟨K.fk.2.2.2.1, K.fk.2.1, K.fk.2.2.2.2.1, K.fk.2.2.2.2.2⟩
  · by_cases hL : b = X.env.locals
    · obtain ⟨o', _, _, e', _⟩ := nL
      exact ⟨o', by rw [hL]; exact e'⟩
    · exact ⟨o, kp b o hL (fun z => h3 (by simp [z])) (fun z => h3 (by simp [z])) e⟩
  · rw [hm.eq_nsMap, ← F.ns.eq_nsMap]; exact nL
  · intro b u e
    by_cases hb : b = a
    · subst hb
      rw [i0] at e
      cases e
      exact ⟨hz, out.toList, c, by rw [ho]; exact m9 hI, by rw [Array.toArray_toList]; exact hla⟩
    · rw [r0 hb] at e
      have hbk' : b ≠ kS := S0 e K.fk.1
      have hbL : b ≠ X.env.locals := S0 e K.inv.free
      refine (K.inv.hok b u e).stay (fun c' v hc q => ?_) (fun c' q => ?_) fun c' xs q => ?_
      · rcases hc with z | z
        · rw [z] at q ⊢; exact kp b v hbL hb hbk' q
        · exact kp c' v (S0 z K.inv.free) (S0 z K.fa.1) (S0 z K.fk.1) q
      · rw [r0 (S0 q K.fa.1)]; exact q
      · rw [r0 (S0 q K.fa.1)]; exact q
theorem qi7 {a kS f : Addr} {e1 : Nat} {vs : List Value} {ns : List Int} {A : Around} {P : PySem.Fin → Shared → Prop} {E : Value → Shared → Prop} {g : Int → Int} (K : Asked X pins σ H a kS e1 [] s) (hi : IntsAre vs ns) (hZ : vs.length ≤ sizeLine)
    (turn : ∀ (n : Int) (t : Tok) (more : List (Addr × Obj)) (s' : Shared), n ∈ ns → Inv X (pins ++ more) σ H s' → wpAny (model X.prog X.w) A (call (.ref f) [.int n t]) (EP X (pins ++ more) σ fun v H' => v = .int (g n) ∧ H' = H) (fun _ _ => False) s')
    (h : ∀ (s' : Shared) (ns' : List Int), ns'.Perm ns → ns'.Pairwise (fun x y => g x ≤ g y) → Inv X pins σ (upd H a (.lst (ns'.map V.int))) s' → P (.done (.ret .none)) s') :
    wpAny (model X.prog X.w) A (ksk_rest a (.ref f) false vs.toArray e1 (.ref kS)) P E s := by
  have hZ2 := hZ
  rw [sizeLine_eq] at hZ2
  have hlen := hi.length
  unfold ksk_rest
  refine wpAny_bind (wpAny_rule ?_)
  first
    | rw [List.forIn_toArray]
    | (rw [← Array.forIn_toList]; simp only [List.toList_toArray])
    | rw [← Array.forIn_toList]
  refine wpAny_bind (ksk_fold (fun i s' => Asked X pins σ H a kS e1 ((ns.take i).map g) s') vs 0 s K ?step ?done)
  case step =>
    intro j x s' hx K'
    simp only [Nat.zero_add] at K' ⊢
    have hj : j < vs.length := (List.getElem?_eq_some_iff.mp hx).1
    obtain ⟨n, hn⟩ : ∃ n, ns[j]? = some n := ⟨_, List.getElem?_eq_getElem (by omega)⟩
    obtain ⟨t, ht⟩ := hi.get j n hn
    rw [ht] at hx
    cases hx
    obtain ⟨kA, e, hk, hkz⟩ := K'.keys
    have I2 := K'.inv.pinned (fp := [a, kS]) (fun b hb => by
      rcases List.mem_cons.mp hb with rfl | hb
      · exact K'.fa
      · rw [List.mem_singleton.mp hb]; exact K'.fk) (fun b hb => by
      rcases List.mem_cons.mp hb with rfl | hb
      · exact ⟨_, K'.la, fun v z => by cases z⟩
      · rw [List.mem_singleton.mp hb]; exact ⟨_, hk, fun v z => by cases z⟩)
    refine wpAny_bind (wpAny_attempt (wpAny_mono (turn n t _ s' (List.mem_of_getElem? hn) I2) (fun v s'' he => ?_) fun _ _ hF => hF.elim))
    obtain ⟨v', H', J, rv, rfl, rfl⟩ := he
    obtain ⟨t2, rfl⟩ := rv
    have pa := (J.pin (a, seqObj "list" #[] e1) (List.mem_append_right _ (List.mem_append_right _ (j4 (by simp) K'.la)))).1
    have pk := (J.pin (kS, seqObj "list" kA e) (List.mem_append_right _ (List.mem_append_right _ (j4 (by simp) hk)))).1
    have J' := J.unpinned
    try dsimp only
    have hz : kA.size ≤ vs.length := by
      have h1 := hkz.length
      rw [Array.length_toList, List.length_map, List.length_take] at h1
      omega
    have s1 := Heap.SameBut.update s''.heap kS (Obj.mapSeq (·.push (.int (g n) t2)))
    obtain ⟨c2, hc2⟩ : ∃ c2, (s''.heap.update kS (Obj.mapSeq (·.push (.int (g n) t2)))).get? kS = some (seqObj "list" (kA.push (.int (g n) t2)) c2) := ⟨_, get?_update_seq pk (·.push (.int (g n) t2))⟩
    have ek : (ns.take (j + 1)).map g = (ns.take j).map g ++ [g n] := by rw [List.take_add_one, hn]; simp
    have ea : (kA.push (Value.int (g n) t2)).toList = kA.toList ++ [Value.int (g n) t2] := by simp
    refine wpAny_bind (listUpdate_at pk rfl ?_ (by rw [sizeLine_eq]; omega) (Nat.le_trans (Nat.le_of_eq (Array.size_push ..)) (by rw [sizeLine_eq]; omega)))
    refine wpAny_pure ⟨rfl, ?_, (s1.2 a K'.ne.symm).trans pa, K'.fa, K'.fk, K'.ne, kA.push (.int (g n) t2), c2, hc2, by rw [ea, ek]; exact ksk_snoc hkz⟩
    exact J'.turned (t' := s''.toks) (it := kS) (fun b o hb e => (s1.2 b hb).trans e) K'.fk.1 K'.fk.2.1 K'.fk.2.2.2.1 K'.fk.2.2.2.2.1 K'.fk.2.2.2.2.2
  case done =>
    intro s' K'
    rw [Nat.zero_add, hlen, List.take_length] at K'
    exact qi8 K' hi hZ h
theorem zF8 {f l : Addr} {ns : List Int} {g : Int → Int} {Q : VK} (I : Inv X pins σ H s) (hl : SqL X.K H l (ns.map V.int))
    (turn : ∀ (n : Int) (t : Tok) (more : List (Addr × Obj)) (s' : Shared), n ∈ ns → Inv X (pins ++ more) σ H s' → wpAny (model X.prog X.w) X.A.in1.in1 (call (.ref f) [.int n t]) (EP X (pins ++ more) σ fun v H' => v = .int (g n) ∧ H' = H) (fun _ _ => False) s')
    (q : ∀ (ns' : List Int) (D : Addr), ns'.Perm ns → ns'.Pairwise (fun x y => g x ≤ g y) → H D = none → Q (.ref D) (upd H D (.lst (ns'.map V.int)))) :
    wpAny (model X.prog X.w) X.A (call (.builtin "sorted") [.ref l] [(Str.ofString "key", .ref f)]) (EP X pins σ Q) X.xe s := by
  obtain ⟨its, rv, hpl, hZ⟩ := I.list hl
  have hi := rv.ints
  have hlen : its.length = ns.length := hi.length
  rw [List.length_map] at hZ
  have hZ1 : its.length ≤ sizeLine := by rw [hlen]; exact hZ
  have hZ2 := hZ1
  rw [sizeLine_eq] at hZ2
  refine call_function_entry_kw kind_sorted plain_sorted entry_sorted (ksk_s1 _ _) ?_
  unfold Builtin.«sorted»
  refine wpAny_bind (m := checkCount "sorted" 1 1 _) (wpAny_pure ?_)
  refine wpAny_bind (collect_list hpl.isList ?_ (by rw [sizeLine_eq]; omega))
  refine wpAny_bind (wpAny_newList ?_ (by rw [sizeLine_eq]; omega))
  have hsz : ((s.heap.push (seqObj "list" #[] 0)).update s.heap.objs.size (Obj.mapSeq (· ++ its.toArray))).objs.size = s.heap.objs.size + 1 := by
    rw [Heap.size_update, size_push']
  have hoL : (((s.heap.push (seqObj "list" #[] 0)).update s.heap.objs.size (Obj.mapSeq (· ++ its.toArray))).push (seqObj "list" its.toArray 0)).get? (s.heap.objs.size + 1) = some (seqObj "list" its.toArray 0) := by
    rw [← hsz]; exact Heap.get?_push_size _ rfl
  have keep : ∀ b o, s.heap.get? b = some o → (((s.heap.push (seqObj "list" #[] 0)).update s.heap.objs.size (Obj.mapSeq (· ++ its.toArray))).push (seqObj "list" its.toArray 0)).get? b = some o := fun b o q => by
    have hlt : b < s.heap.objs.size := Heap.lt_size q
    rw [Heap.get?_push_ne _ _ _ (by rw [hsz]; exact Nat.ne_of_lt (Nat.lt_succ_of_lt hlt)), Heap.get?_update_ne _ _ _ _ (Nat.ne_of_lt hlt), Heap.get?_push_ne _ _ _ (Nat.ne_of_lt hlt)]
    exact q
  show wpAny _ _ _ _ _ { s with heap := ((s.heap.push (seqObj "list" #[] 0)).update s.heap.objs.size (Obj.mapSeq (· ++ its.toArray))).push (seqObj "list" its.toArray 0) }
  rw [hsz]
  generalize hh2 : ((s.heap.push (seqObj "list" #[] 0)).update s.heap.objs.size (Obj.mapSeq (· ++ its.toArray))).push (seqObj "list" its.toArray 0) = h2 at hoL keep ⊢
  refine wpAny_bind (wpAny_holding (wpAny_call_entry_kw slot_list_sort ⟨_, hoL, rfl⟩ entry_list_sort ?body (ksk_l1 _ _)))
  case body =>
    show wpAny (model X.prog X.w) X.A.in1.in1 (Builtin.«list.sort» ⟨[.ref (s.heap.objs.size + 1)], [(Str.ofString "key", .ref f)]⟩) _ _ _
    rw [ksk_t1]
    have ha : s.heap.objs.size + 1 < h2.objs.size := Heap.lt_size hoL
    have s1 := Heap.SameBut.update h2 (s.heap.objs.size + 1) (Obj.mapSeq fun _ => (#[] : Array Value))
    obtain ⟨e1, ho1⟩ : ∃ e1, (h2.update (s.heap.objs.size + 1) (Obj.mapSeq fun _ => (#[] : Array Value))).get? (s.heap.objs.size + 1) = some (seqObj "list" #[] e1) := ⟨_, get?_update_seq hoL fun _ => #[]⟩
    unfold ksk_tree
    refine wpAny_bind (listItems_at hoL rfl ?_)
    refine wpAny_bind (listUpdate_at hoL rfl ?_ (by rw [List.size_toArray, sizeLine_eq]; omega) (Nat.zero_le _))
    refine wpAny_bind (seqEpoch_at ho1 rfl ?_)
    refine wpAny_bind (wpAny_newTuple ?_ (by show its.length ≤ _; rw [sizeLine_eq]; omega))
    refine wpAny_bind (wpAny_newList ?_ (Nat.zero_le _))
    refine wpAny_holding ?_
    have kp : ∀ b o, s.heap.get? b = some o → (((h2.update (s.heap.objs.size + 1) (Obj.mapSeq fun _ => (#[] : Array Value))).push (seqObj "tuple" its.toArray 0)).push (seqObj "list" #[] 0)).get? b = some o := fun b o e =>
      Heap.get?_push_of_some _ (Heap.get?_push_of_some _ ((s1.2 b (Nat.ne_of_lt (Nat.lt_succ_of_lt (Heap.lt_size e)))).trans (keep b o e)))
    have I1 : Inv X pins σ H { s with heap := ((h2.update (s.heap.objs.size + 1) (Obj.mapSeq fun _ => (#[] : Array Value))).push (seqObj "tuple" its.toArray 0)).push (seqObj "list" #[] 0) } := I.kept (t' := s.toks) kp
    have hk1 : s.heap.objs.size + 1 < ((h2.update (s.heap.objs.size + 1) (Obj.mapSeq fun _ => (#[] : Array Value))).push (seqObj "tuple" its.toArray 0)).objs.size := by rw [size_push', Heap.size_update]; omega
    refine qi7 (kS := ((h2.update (s.heap.objs.size + 1) (Obj.mapSeq fun _ => (#[] : Array Value))).push (seqObj "tuple" its.toArray 0)).objs.size) ⟨I1, Heap.get?_push_of_some _ (Heap.get?_push_of_some _ ho1), I.fpOk (Nat.le_succ _) (I.hok.fresh (Nat.le_succ _)), I.fpOk (by omega) (I.hok.fresh (by omega)), Nat.ne_of_gt hk1, #[], 0, Heap.get?_push_size _ rfl, .nil⟩ hi hZ1 turn fun s' ns' h1 h2' J => ⟨_, rfl, ?_⟩
    exact wpAny_pure ⟨_, rfl, .ref (s.heap.objs.size + 1), _, J, rfl, q ns' _ h1 h2' (I.hok.fresh (Nat.le_succ _))⟩
end
end L2
end
section
set_option Elab.async false
set_option linter.all false
set_option maxRecDepth 100000
set_option maxHeartbeats 2000000
namespace L2
open PySem PySem.Spec PyProof.Rows
open PySem.W (CodeHd tabObj kla_obj kla_fn)
def Q4 (c : Addr) (qual : Str) : HO := .ext fun h => h.CodeRec (.ref c) qual
theorem qh3 {P : Program} {w : World} {H : Hp} {h : Heap} {c : Addr} {qual : Str} (x : h.CodeRec (.ref c) qual) : W1 P w H h c (Q4 c qual) := by
  refine ⟨x, ?_, fun h1 h2 y k => ?_⟩
  · obtain ⟨c', oc, vs, tq, e, ho, _⟩ := x
    cases e
    exact ⟨oc, ho⟩
  · obtain ⟨c', oc, vs, tq, e, ho, r⟩ := y
    cases e
    exact ⟨c, oc, vs, tq, rfl, k _ ho, r⟩
structure TabIs (H : Hp) (P : Addr) (pos : Pos) (qual : Str) (ps : Array Value) : Prop where
  at_ : H P = some (.tbl ps)
  ok : TriplesOk ps.toList
  code : codeAmong pos ps.toList = none ∨ ∃ c, codeAmong pos ps.toList = some (.ref c) ∧ H c = some (Q4 c qual)
section
variable {X : Cx} {pins : List (Addr × Obj)} {σ : St} {H : Hp} {s : Shared}
theorem zi4 (I : Inv X pins σ H s) {o : Obj} {tk : Nat} (ho : ∀ v, o.data ≠ .cell v) (hf : o.isFreed = false := by rfl) : Inv X (pins ++ [(s.heap.objs.size, o)]) σ H { s with heap := s.heap.push o, toks := tk } := by
  have I2 : Inv X pins σ H { s with heap := s.heap.push o, toks := tk } := I.kept (t' := tk) fun b u e => Heap.get?_push_of_some _ e
  have e : (s.heap.push o).get? s.heap.objs.size = some o := Heap.get?_push_size _ hf
  have J := I2.pinned (fp := [s.heap.objs.size]) (fun b hb => by
    rw [List.mem_singleton.mp hb]
    exact I.fpOk (Nat.le_refl _) (I.hok.fresh (Nat.le_refl _))) (fun b hb => by
    rw [List.mem_singleton.mp hb]
    exact ⟨o, e, ho⟩)
  have ep : X4 [s.heap.objs.size] (s.heap.push o) = [(s.heap.objs.size, o)] := by
    unfold X4
    rw [List.filterMap_cons, e]
    rfl
  rw [show ({ s with heap := s.heap.push o, toks := tk } : Shared).heap = s.heap.push o from rfl, ep] at J
  exact J
theorem zn5 {c P : Addr} {params : Arguments} {body : Expr} {scope : Scope} {pos : Pos} {ps : Array Value} {Q : Value → Shared → Prop} (I : Inv X pins σ H s) (hcode : X.env.code = .ref c) (hC : CodeHd X.base c P) (hB : X.base.BuiltinsAt X.mg P)
    (tb : TabIs H P pos (X.env.qual ++ "<lambda>") ps) (hfree : ∀ y ∈ scope.names, y.2 = .free → ∃ c, X.env.cells.lookup y.1 = some c) (hdef : defaultsOf params X.env = ([], []))
    (h : ∀ (f c' : Addr) (pm ctv : Value) (H' : Hp) (ps' : Array Value) (s' : Shared), Inv X (pins ++ [(f, kla_obj "<lambda>" (X.env.qual ++ "<lambda>") params body scope (A1 X.env.cells scope.names []) pm c' ctv)]) σ H' s' → H' c' = some (Q4 c' (X.env.qual ++ "<lambda>")) →
      TabIs H' P pos (X.env.qual ++ "<lambda>") ps' → (∀ b o, H b = some o → b ≠ P → H' b = some o) → Q (.ref f) s') :
    wpAny (model X.prog X.w) X.A (eval (.Lambda params body scope pos) X.env) Q X.xe s := by
  have hP : s.heap.get? P = some (tabObj ps) := I.hok P _ tb.at_
  have hg : s.heap.Ns X.env.globals X.mg := by rw [I.ok.glob]; exact I.mod.glob.keeps I.bk
  have hcl : closureFor scope X.env = pure (A1 X.env.cells scope.names []) := zr8 hfree
  have hgP : mainGlobals ≠ P := fun q => by
    obtain ⟨o, es, ep, e, hd, _⟩ := I.mod.glob.keeps I.bk
    rw [q, hP] at e; cases e; cases hd
  have hB' : s.heap.BuiltinsAt X.mg P := by
    obtain ⟨bm, ob, b1, b2, b3, b4, b5, r⟩ := hB
    exact ⟨bm, ob, b1, b2, b3, b4, I.bk _ _ b5, r⟩
  have hCs : CodeHd s.heap c P := hC.keeps I.bk
  refine PySem.W.kla_eval hdef ?_
  rcases tb.code with hnf | ⟨c', hf, hc'⟩
  · refine PySem.W.kla_makeFunction (mg := X.mg) hcl I.ok.glob (by rw [← I.ok.glob]; exact hg) hcode hCs hP tb.ok hnf hgP hB' fun c' ctv h' tk hx hge hlt hrec htb => ?_
    have nc : H c' = none := I.hok.fresh hge
    have ncP : c' ≠ P := fun e => by rw [e, tb.at_] at nc; cases nc
    have keepU : ∀ b o, H b = none → s.heap.get? b = some o → h'.get? b = some o := fun b o n e => hx b o (fun z => by rw [z, tb.at_] at n; cases n) e
    have Hn : ∀ b u, H b = some u → b ≠ P → upd (upd H P (.tbl (ps ++ #[rawInt pos.line, rawInt pos.col, .ref c']))) c' (Q4 c' (X.env.qual ++ "<lambda>")) b = some u := fun b u e hb => by
      rw [r0 (S0 e nc), r0 hb]; exact e
    have HP : upd (upd H P (.tbl (ps ++ #[rawInt pos.line, rawInt pos.col, .ref c']))) c' (Q4 c' (X.env.qual ++ "<lambda>")) P = some (.tbl (ps ++ #[rawInt pos.line, rawInt pos.col, .ref c'])) := by
      rw [r0 ncP.symm]; exact i0
    have I1 : Inv X pins σ (upd (upd H P (.tbl (ps ++ #[rawInt pos.line, rawInt pos.col, .ref c']))) c' (Q4 c' (X.env.qual ++ "<lambda>"))) { s with heap := h', toks := tk } := by
      refine I.step (g' := s.gens) (d' := s.drawn) (ch := []) (fun _ z => absurd z (by simp)) (fun b o _ _ _ e n => keepU b o n e) (fun b o _ _ _ e n => ⟨o.slots, keepU b o n e⟩)
        (fun b o _ e n => ?_) (fun b o _ e => ?_) (fun b xs e => Hn b _ e fun z => ?_) (fun b o u e => Hn b _ e fun z => ?_) (fun b ps2 e => ?_) (fun m hm => ?_) (fun b u e => ?_) I.bare
      · rw [r0 (Nat.ne_of_lt (Nat.lt_of_lt_of_le (Heap.lt_size e) hge)), r0 (fun z => by rw [z, tb.at_] at n; cases n)]; exact n
      · by_cases hb : b = P
        · rw [hb]; exact ⟨_, htb⟩
        · exact ⟨o, hx b o hb e⟩
      · rw [z, tb.at_] at e; cases e
      · rw [z, tb.at_] at e; cases e
      · by_cases hb : b = P
        · subst hb
          rw [tb.at_] at e; cases e
          exact ⟨_, HP⟩
        · exact ⟨#[], by rw [Hn b _ e hb]; simp⟩
      · obtain ⟨o, es, ep, ho, r⟩ := hm
        exact ⟨o, es, ep, keepU _ o I.free ho, r⟩
      · by_cases hbc : b = c'
        · subst hbc
          rw [i0] at e; cases e
          exact qh3 hrec
        · rw [r0 hbc] at e
          by_cases hb : b = P
          · subst hb
            rw [i0] at e; cases e
            exact htb
          · rw [r0 hb] at e
            refine (I.hok b u e).stay (fun c2 v hc q => hx c2 v (fun z => ?_) q) (fun c2 q => Hn c2 _ q fun z => ?_) fun c2 xs q => Hn c2 _ q fun z => ?_
            · rcases hc with y | y
              · exact hb (y.symm.trans z)
              · rw [z, tb.at_] at y; cases y
            · rw [z, tb.at_] at q; cases q
            · rw [z, tb.at_] at q; cases q
    have fin := zi4 I1 (o := kla_obj "<lambda>" (X.env.qual ++ "<lambda>") params body scope (A1 X.env.cells scope.names []) ((X.mg "__name__").getD .none) c' ctv) (tk := tk) (fun v z => by cases z)
    have el : (ps ++ #[rawInt pos.line, rawInt pos.col, .ref c']).toList = ps.toList ++ [rawInt pos.line, rawInt pos.col, .ref c'] := by simp
    refine h _ c' _ ctv _ _ _ fin i0 ⟨HP, by rw [el]; exact TriplesOk_snoc _ _ _ _ tb.ok, .inr ⟨c', by rw [el]; exact codeAmong_snoc _ tb.ok hnf, i0⟩⟩ Hn
  · refine PySem.W.kla_makeFunctionHit (mg := X.mg) hcl I.ok.glob (by rw [← I.ok.glob]; exact hg) hcode hCs hP tb.ok hf hB' fun ctv h' tk hk hsz => ?_
    have I1 : Inv X pins σ H { s with heap := h', toks := tk } := I.kept (t' := tk) hk
    have fin := zi4 I1 (o := kla_obj "<lambda>" (X.env.qual ++ "<lambda>") params body scope (A1 X.env.cells scope.names []) ((X.mg "__name__").getD .none) c' ctv) (tk := tk) (fun v z => by cases z)
    exact h _ c' _ ctv _ ps _ fin hc' tb fun _ _ e _ => e
def zv8 (K : PySem.W.Frag) (P : Addr) (lpos : Pos) (qual : Str) (fr : List (Str × Nat)) (t : TA) (tb : TE) : TE := fun σ H Q => t σ H fun vs H1 => ∃ (l : Addr) (ns : List Int) (g : Int → Int) (ps : Array Value), vs = [.ref l] ∧ SqL K H1 l (ns.map V.int) ∧ TabIs H1 P lpos qual ps ∧
  ∀ (H2 : Hp) (ps' : Array Value), TabIs H2 P lpos qual ps' → (∀ b o, H1 b = some o → b ≠ P → H2 b = some o) →
    (∀ n ∈ ns, tb (A4 σ (.int n) fr) H2 fun v H' => v = .int (g n) ∧ H' = H2) ∧ ∀ (ns' : List Int) (D : Addr), ns'.Perm ns → ns'.Pairwise (fun x y => g x ≤ g y) → H2 D = none → Q (.ref D) (upd H2 D (.lst (ns'.map V.int)))
theorem E9 {K : PySem.W.Frag} {H1 H2 : Hp} {l P : Addr} {xs : List V} {ps : Array Value} (h : SqL K H1 l xs) (hP : H1 P = some (.tbl ps)) (k : ∀ b o, H1 b = some o → b ≠ P → H2 b = some o) : SqL K H2 l xs := by
  rcases h with (h | ⟨o, h⟩) | h
  · exact .inl (.inl (k _ _ h (ne_of h hP (by intro z; cases z))))
  · exact .inl (.inr ⟨o, k _ _ h (ne_of h hP (by intro z; cases z))⟩)
  · exact .inr h
theorem zR6 {e body : Expr} {t : TA} {tb : TE} {c P : Addr} {N : List Str} {x : Str} {fr : List (Str × Nat)} {params : Arguments} {scope : Scope} {p lpos kpos pos : Pos} {k : Nat} (hg : Gl X "sorted") (hm : X.mg "sorted" = none) (ha : PA X [e] t) (hr : Room (k + 2) X.A)
    (hcode : X.env.code = .ref c) (hC : ∀ h : Heap, X.K.In h → CodeHd h c P) (hB : X.base.BuiltinsAt X.mg P) (S : LamScope X N x fr scope) (hdef : defaultsOf params X.env = ([], []))
    (hbind : ∀ (cl : List (Str × Addr)) (pm ctv u : Value) (c' : Addr), bindArgs (kla_fn "<lambda>" (X.env.qual ++ "<lambda>") params body scope cl pm (.ref c') ctv) ⟨[u], []⟩ = pure [(x, u)])
    (hb : ∀ (s : Shared) (H : Hp) (f c' : Addr), PE (X.lam X.A.in1.in1 N s H (T5 X (X.env.qual ++ "<lambda>") scope s.heap.objs.size f (.ref c'))) body tb)
    (hs : starEach [e] X.env = [(false, eval e X.env)] := by rfl) : PE X (.Call (.Name "sorted" p) [e] [⟨some "key", .Lambda params body scope lpos, kpos⟩] pos) (zv8 X.K P lpos (X.env.qual ++ "<lambda>") fr t tb) := by
  intro pins s σ H Q I h
  refine wpAny_Call_Name_kw (d5 I hg hm PyProof.Rows.boot_sorted ?_)
  refine PyProof.Rows.callWith_kw (thn (ha pos pins s σ H _ I h) fun us s1 ⟨vs, H1, I1, r1, q1⟩ => ?_) (by rw [hs]; rfl) (by rw [hs]; rfl)
  obtain ⟨l, ns, g, ps, rfl, hl, tb1, q1⟩ := q1
  rw [M0.ref1 r1]
  show wpAny _ _ (evalAll [(do let v ← eval (.Lambda params body scope lpos) X.env; standAt pos; pure v)]) _ _ s1
  refine wpAny_evalAll_cons (wpAny_bind (zn5 I1 hcode (hC _ I1.mod.kin) hB tb1 (fun y hy hf => I1.ok.has _ (S.free y hy hf).2) hdef fun f c' pm ctv H2 ps' s2 I2 hc2 tb2 kp => ?_))
  obtain ⟨hturn, hend⟩ := q1 H2 ps' tb2 kp
  refine wpAny_bind (wpAny_standAt (wpAny_pure ?_))
  refine wpAny_pure ?_
  have hh := hr.hd
  have hr2 : Room k X.A.in1.in1 := hr.in1.in1
  refine wpAny_mono (zF8 (pins := pins ++ [(f, kla_obj "<lambda>" (X.env.qual ++ "<lambda>") params body scope (A1 X.env.cells scope.names []) pm c' ctv)]) (g := g) (Q := Q) I2 (E9 hl tb1.at_ kp) (fun n t more s3 hn I3 => ?_) hend) (fun u s4 ⟨v, H4, I4, r4, q4⟩ => ⟨v, H4, I4.unpinned, r4, q4⟩) fun _ _ z => z
  have pf := (I3.pin (f, _) (List.mem_append_right _ (List.mem_append_left _ (List.mem_append_right _ List.mem_cons_self)))).1
  have hrec : s3.heap.CodeRec (.ref c') (X.env.qual ++ "<lambda>") := (show W1 X.prog X.w H2 s3.heap c' (Q4 c' (X.env.qual ++ "<lambda>")) from I3.hok c' _ hc2).1
  exact zg3 (v := .int n) S I3 I3.ok.frames hr2.hd hr2.depth pf hrec (hbind _ _ _ _ _) ⟨t, rfl⟩ (hb s3 H2 f c') (hturn n hn)
end
def zn7 (XN : List Str) (sc : Scope) (N : List Str) (x : Str) (fr : List (Str × Nat)) (scope : Scope) : Bool :=
  (match scope.kind with | .function => true | _ => false) && (!scope.isCoroutine && (!scope.isGenerator && ((scope.names.all fun y => decide (scope.names.lookup y.1 = some y.2)) && ((scope.names.all fun y => match y.2 with | .cell => false | _ => true) && (decide (N = x :: fr.map (·.1)) && (decide N.Nodup &&
    (decide (scope.names.lookup x = some .local) && ((scope.names.all fun y => match y.2 with | .free => decide (y.1 ∈ fr.map (·.1)) && (match sc.names.lookup y.1 with | some .cell => true | some .free => true | _ => false) | _ => true) &&
      (fr.all fun p => decide (XN[p.2]? = some p.1) && decide (scope.names.lookup p.1 = some .free))))))))))
theorem zn6 {X : Cx} {N : List Str} {x : Str} {fr : List (Str × Nat)} {scope : Scope} (h : zn7 X.N X.env.scope N x fr scope = true) : LamScope X N x fr scope := by
  unfold zn7 at h
  simp only [Bool.and_eq_true, List.all_eq_true, decide_eq_true_eq, Bool.not_eq_true'] at h
  obtain ⟨h1, h2, h3, h4, h5, h6, h7, h8, h9, h10⟩ := h
  refine ⟨?_, h2, h3, h4, fun y hy e => ?_, h6, h7, h8, fun y hy e => ?_, h10⟩
  · cases q : scope.kind <;> rw [q] at h1 <;> first | rfl | cases h1
  · have := h5 y hy
    rw [e] at this
    cases this
  · have z := h9 y hy
    rw [e] at z
    simp only [Bool.and_eq_true, decide_eq_true_eq] at z
    refine ⟨z.1, ?_⟩
    have z2 := z.2
    split at z2
    · rename_i q; exact .inl q
    · rename_i q; exact .inr q
    · cases z2
structure FunC (K : PySem.W.Frag) (x qual : Str) (st : Stmt) (f c : Addr) (fd : FuncData) : Prop where
  ex : ∃ (oc : Value) (od : Option Addr) (kV doc pm : Value) (an : Option Addr) (ct : Value) (osl : Array (Option Value)),
    fd = PySem.W.fnOf x qual (A3 st) (T2 st) (v0 st) .none kV doc pm an (.ref c) ct ∧ K.lookup f = some ⟨oc, od, .func fd, osl⟩ ∧ PySem.W.codeIn K (.ref c) qual = true
  kp : PySem.W.keepIn K (.ref f) = true
section
variable {P : Program} {w : World} {K : PySem.W.Frag} {mg : Str → Option Value} {base : Heap}
theorem FunC.fun_ {x qual : Str} {st : Stmt} {f c : Addr} {fd : FuncData} (F : FunC K x qual st f c fd) : Fun K x qual st f fd :=
  ⟨let ⟨oc, od, kV, doc, pm, an, ct, osl, h1, h2, h3⟩ := F.ex; ⟨oc, od, kV, doc, pm, an, .ref c, ct, osl, h1, h2, h3⟩, F.kp⟩
theorem FunC.ok {x qual : Str} {st : Stmt} {f c : Addr} {fd : FuncData} {N ps : List Str} {k : Nat} {sp : Sp} (F : FunC K x qual st f c fd) (S : FnScope N ps (v0 st)) (len : ∀ vs H Q E, sp vs H Q E → vs.length = ps.length)
    (hbody : ∀ (A : Around) (outer : List Env) (s : Shared) (H : Hp) (vs : List V) (Q : VK) (E : XK), Room k (A.deeper (envOfC qual (v0 st) s.heap.objs.size f (.ref c))) → sp vs H Q E →
      ∃ t, PSs (j5 CX0 P w K mg base N qual (v0 st) f (.ref c) A outer s H E).nox (T2 st) t ∧ t { nx := fun _ H' => Q .non H', rt := Q } (start N vs) H) : FnOk P w K mg base CX0 (k + 1) f fd ps sp := by
  obtain ⟨oc, od, kV, doc, pm, an, ct, osl, rfl, lk, hcd⟩ := F.ex
  refine zp4 lk hcd S len fun A outer s H vs Q E hr hsp => ?_
  obtain ⟨t, h, q⟩ := hbody A outer s H vs Q E hr hsp
  exact ⟨t, h.nox, q⟩
end
end L2
end
section
set_option Elab.async false
set_option linter.all false
set_option maxRecDepth 100000
set_option maxHeartbeats 2000000
namespace L2
open PySem PySem.Spec PyProof.Rows
open PySem.W (WData Codec OpenSpec Well WellAll ReadsW ReadsAllW CodeHd tabObj)
theorem zy5 {P : Program} {w : World} {K : PySem.W.Frag} {mg mb : Str → Option Value} {CX : CXT} {k : Nat} {fa : Addr} {fd : FuncData} {ps : List Str} {sp : Sp} {s₁ : Shared} {vals : List Value} {ds : List WData} {R : PySem.W.WRecords} {cl : Str → Option Addr} {d0 : WData} {TP : List Addr}
    (KX : K.In s₁.heap) (hns : s₁.heap.Ns mainGlobals mg) (hb : s₁.heap.Ns builtinsNs mb) (hbb : ∀ x : Str, x ≠ "__name__" → mb x = bootBuiltins x) (hlim : s₁.heap.NoLimit) (hg : s₁.gens = #[])
    (hBM : ∃ bm ob, mg "__builtins__" = some (.ref bm) ∧ bm ≠ builtinsNs ∧ s₁.heap.get? bm = some ob ∧ ob.cls = .type "module" ∧ ob.dict = some builtinsNs ∧ ob.data = .plain)
    (hT : ∀ p ∈ TP, s₁.heap.get? p = some (tabObj #[]) ∧ K.lookup p = none ∧ isCodeTable s₁.heap p)
    (hwl : WellAll w.params s₁.heap vals ds) (hpl : l3 ds = true) (hwt : ∀ d ∈ ds, d.weight ≤ 1048576) (hr : Room k callerA)
    (F : ∀ base : Heap, K.In base → base.Ns mainGlobals mg → (∀ p ∈ TP, base.BuiltinsAt mg p) → FnOk P w K mg base CX k fa fd ps sp) (hbind : ∀ (s : Shared) (us : List Value), us.length = ps.length → BindsTo s fd ⟨us, []⟩ (ps.zip us)) (hlen : ds.length = ps.length)
    (hsp : ∀ (H0 H : Hp) (xs : List V), O7 H0 → DwAll K H0 xs ds → x0 H0 H → (∀ p ∈ TP, H p = some (.tbl #[])) → sp xs H (fun v H' => Dw K H' v d0) fun _ _ _ => False)
    (hCX : ∀ H e s', CX [] H s₁ (fun _ _ _ => False) e s' → False) :
    codeAny (model P w) callerA (.call (.ref fa) ⟨vals, []⟩) (fun r s' => ∃ u as, r = .ok (.ret u) ∧ ReadsW R cl s'.heap u d0 as ∧ OldK s₁.heap s'.heap ∧ s'.os = s₁.os ∧ AllBare s'.gens) s₁ := by
  obtain ⟨A, ho, ar⟩ := K7 ds vals hwl hpl hwt
  have hO : O7 (V1 K s₁.heap A) := qj1 ar
  have hok0 : HOk P w (V1 K s₁.heap A) s₁.heap := qj2 ar
  have hS := D7 KX ar ds vals hwl hpl ho
  have hV := v5 ho
  have hK0 : ∀ b u, V1 K s₁.heap A b = some u → K.lookup b = none := fun b u q => (W5 ar q).1
  have noT : ∀ b u, V1 K s₁.heap A b = some u → b ∉ TP := fun b u q hb => by
    obtain ⟨_, vs, _, _, ⟨e2, _⟩ | ⟨e2, _⟩⟩ := W5 ar q <;> rw [(hT b hb).1] at e2 <;> cases e2
  have noA0 : ∀ {b : Addr} {o : Obj} {es : Array DictEntry} {ep : Nat}, s₁.heap.get? b = some o → o.data = .dict es ep → V1 K s₁.heap A b = none := fun {b o es ep} e d => by
    cases q : V1 K s₁.heap A b with
    | none => rfl
    | some u =>
      obtain ⟨_, vs, _, _, ⟨e2, _⟩ | ⟨e2, _⟩⟩ := W5 ar q
      · rw [e2] at e
        cases e
        have d' : Data.seq vs.toArray _ = Data.dict es ep := d
        cases d'
      · rw [e2] at e
        cases e
        have d' : Data.seq vs.toArray _ = Data.dict es ep := d
        cases d'
  have noM0 : ∀ {b : Addr} {o : Obj}, s₁.heap.get? b = some o → o.data = .plain → V1 K s₁.heap A b = none := fun {b o} e d => by
    cases q : V1 K s₁.heap A b with
    | none => rfl
    | some u =>
      obtain ⟨_, vs, _, _, ⟨e2, _⟩ | ⟨e2, _⟩⟩ := W5 ar q
      · rw [e2] at e
        cases e
        have d' : Data.seq vs.toArray _ = Data.plain := d
        cases d'
      · rw [e2] at e
        cases e
        have d' : Data.seq vs.toArray _ = Data.plain := d
        cases d'
  generalize V1 K s₁.heap A = H0 at hO hok0 hS hK0 noA0 noM0 noT
  obtain ⟨H, hH⟩ : ∃ H : Hp, H = fun b => if b ∈ TP then some (.tbl #[]) else H0 b := ⟨_, rfl⟩
  have HT : ∀ p ∈ TP, H p = some (.tbl #[]) := fun p hp => by rw [hH]; exact if_pos hp
  have HN : ∀ b, b ∉ TP → H b = H0 b := fun b hb => by rw [hH]; exact if_neg hb
  have sH : x0 H0 H := fun b o e => by rw [HN b (noT b o e)]; exact e
  have hok : HOk P w H s₁.heap := fun b u e => by
    by_cases hb : b ∈ TP
    · rw [HT b hb] at e
      cases e
      exact (hT b hb).1
    · rw [HN b hb] at e
      refine (hok0 b u e).stay (fun _ _ _ q => q) (fun c q => sH _ _ q) fun c xs q => sH _ _ q
  have noA : ∀ {b : Addr} {o : Obj} {es : Array DictEntry} {ep : Nat}, s₁.heap.get? b = some o → o.data = .dict es ep → H b = none := fun {b o es ep} e d => by
    have hb : b ∉ TP := fun hb => by
      rw [(hT b hb).1] at e
      cases e
      cases d
    rw [HN b hb]
    exact noA0 e d
  have base_of : ∀ {b : Addr} {o : Obj}, s₁.heap.get? b = some o → H b = none → (T3 s₁.heap H).get? b = some o := fun e n => qe2 e n
  have nsK : ∀ {b : Addr} {m : Str → Option Value}, s₁.heap.Ns b m → (T3 s₁.heap H).Ns b m := fun {b m} ⟨o, es, ep, e, d, r⟩ => ⟨o, es, ep, base_of e (noA e d), d, r⟩
  have nK : ∀ b o, K.lookup b = some o → H b = none := fun b o e => by
    have hb : b ∉ TP := fun hb => by rw [(hT b hb).2.1] at e; cases e
    rw [HN b hb]
    cases q : H0 b with
    | none => rfl
    | some u =>
      rw [hK0 b u q] at e
      cases e
  have hKb : K.In (T3 s₁.heap H) := fun b o e => base_of (KX b o e) (nK b o e)
  have hM : Mod K mg (T3 s₁.heap H) := ⟨hKb, nsK hns, ⟨mb, nsK hb, hbb⟩, let ⟨mc, h1, h2⟩ := hlim; ⟨mc, nsK h1, h2⟩⟩
  have e0 : Env0 P w K mg (T3 s₁.heap H) callerA [] s₁ H := ⟨rfl, hM, fun b o e => zY5 e, Nat.le_of_eq (qe1 _ _), trivial, fun b hb => absurd (show b ∈ ([] : List Addr) from hb) (by simp), hok, .of_eq hg⟩
  have hBB : ∀ p ∈ TP, (T3 s₁.heap H).BuiltinsAt mg p := fun p hp => by
    obtain ⟨bm, ob, b1, b2, b3, b4, b5, b6⟩ := hBM
    have n1 : bm ∉ TP := fun hb => by
      rw [(hT bm hb).1] at b3
      cases b3
      cases b4
    refine ⟨bm, ob, b1, b2, fun e => ?_, fun e => n1 (e ▸ hp), base_of b3 (by rw [HN bm n1]; exact noM0 b3 b6), b4, b5, b6⟩
    obtain ⟨o, es, ep, ho, hd, _⟩ := hns
    rw [← e, b3] at ho
    cases ho
    rw [b6] at hd
    cases hd
  have hl : vals.length = ps.length := by rw [K6 hwl]; exact hlen
  refine codeAny_mono ((F _ hKb (nsK hns) hBB).run callerA [] s₁ H ⟨vals, []⟩ vals (vals.map toV) _ _ hr e0 (hbind s₁ vals hl) hV (hsp H0 H _ hO hS sH HT)) fun r s' x => ?_
  cases r with
  | error e => exact (hCX H e s' x).elim
  | ok fl =>
    cases fl with
    | next => exact False.elim x
    | brk => exact False.elim x
    | cont => exact False.elim x
    | ret u =>
      obtain ⟨v, H', os, bare, un, hok', r', q⟩ := x
      have kept : ∀ b o, b ∉ TP → s₁.heap.get? b = some o → s'.heap.get? b = some o := fun b o hb e => by
        cases q2 : H b with
        | none => exact un.keep b o e q2 (by intro z; exact absurd (show b ∈ ([] : List Addr) from z) (by simp)) (by simp)
        | some u2 =>
          have q3 := q2
          rw [HN b hb] at q3
          rcases hO b with z | ⟨ob, u3, z⟩
          · rw [q3] at z
            cases z
          · have z1 := sH _ _ z
            have z2 := un.frzs b ob _ z1
            obtain ⟨e1, _⟩ := hok b _ z1
            obtain ⟨e2, _⟩ := hok' b _ z2
            rw [e] at e1
            cases e1
            exact e2
      have KX' : K.In s'.heap := fun b o e => kept b o (fun hb => by rw [(hT b hb).2.1] at e; cases e) (KX b o e)
      have tabs : ∀ b ∈ TP, ∃ more, s'.heap.get? b = some (tabObj more) := fun b hb => by
        obtain ⟨more, e2⟩ := un.tbls b _ (HT b hb)
        exact ⟨_, (show s'.heap.get? b = some (tabObj (#[] ++ more)) from hok' b _ e2)⟩
      obtain ⟨as, hrd⟩ := Dw.reads (R := R) (cl := cl) hok' KX' d0 v u q r'
      refine ⟨u, as, rfl, hrd, ⟨fun b o e => ?_, fun b o e => ?_⟩, os, bare⟩
      · by_cases hb : b ∈ TP
        · obtain ⟨more, e2⟩ := tabs b hb
          have e3 := (hT b hb).1
          rw [e] at e3
          cases e3
          exact .inr (.inl ⟨(hT b hb).2.2, rfl, #[], more, rfl, by rw [e2]; simp⟩)
        · exact .inl (kept b o hb e)
      · by_cases hb : b ∈ TP
        · obtain ⟨more, e2⟩ := tabs b hb
          exact ⟨_, e2⟩
        · exact ⟨o, kept b o hb e⟩
theorem qk4 {r : OpenSpec} {k : Nat} {q : Program} {loose : List Str} {XP : (Str → Option Value) → Heap → Prop} {YP : World → Heap → Prop} {d : DefRec} {K : Params → PySem.W.Frag} {CX : CXT} {ps : List Str} {sp : PySem.W.Frag → Sp} {TP : List Addr}
    (hwell : r.wellSaid = true) (hdf : d.params.defaults = []) (hlen : r.args.length = ps.length) (hr : Room k callerA)
    (hY : ∀ (w : World) (h : Heap), YP w h → (K w.params).In h)
    (hTP : ∀ (w : World), ∀ p ∈ TP, (K w.params).lookup p = none ∧ ∃ (x : Str) (e : DefRec) (c : Addr), (recsOf q).find? (fun e => e.name == x) = some e ∧ PySem.W.tabIn (K w.params) x = some (c, p))
    (F : ∀ (w : World) (mg : Str → Option Value) (fa : Addr) (h : Heap), YP w h → (K w.params).In h → h.Ns mainGlobals mg → mg d.name = some (.ref fa) →
      ∃ fd : FuncData, (∀ (s : Shared) (us : List Value), us.length = ps.length → BindsTo s fd ⟨us, []⟩ (ps.zip us)) ∧
        ∀ base : Heap, (K w.params).In base → base.Ns mainGlobals mg → (∀ p ∈ TP, base.BuiltinsAt mg p) → FnOk r.prog w (K w.params) mg base CX k fa fd ps (sp (K w.params)))
    (hsp : ∀ (K : PySem.W.Frag) (H0 H : Hp) (xs : List V) (a : Codec.denoteAll r.args), O7 H0 → Codec.withinAll r.args a = true → Codec.app r.args r.asked a = true → DwAll K H0 xs (Codec.encAll r.args a) → x0 H0 H → (∀ p ∈ TP, H p = some (.tbl #[])) →
      sp K xs H (fun v H' => Dw K H' v (r.ret.enc (Codec.app r.args r.f a))) fun _ _ _ => False)
    (hCX : ∀ (H : Hp) (s : Shared) (e : Value) (s' : Shared), CX [] H s (fun _ _ _ => False) e s' → False) :
    PySem.W.WalkOS q loose XP YP r d [] (fun f vs => PySem.call f vs) := by
  intro w s_0 s₁ mg mb G Y fa o pm cd doc dV kV ho hd hcd hD hmg hg args vals as hpre hlay hrd hwl hlo
  obtain ⟨a, e1, e2⟩ := PySem.W.os_pre_some hpre
  obtain ⟨e3, hwi⟩ := Codec.encAll_of_decAll r.args args a e1
  subst e3
  have KX := hY w _ Y
  obtain ⟨fd, hb, hF⟩ := F w mg fa _ Y KX G.T.g hmg
  have hT : ∀ p ∈ TP, s₁.heap.get? p = some (tabObj #[]) ∧ (K w.params).lookup p = none ∧ isCodeTable s₁.heap p := fun p hp => by
    obtain ⟨h1, x, e, c, h2, h3⟩ := hTP w p hp
    obtain ⟨t1, t2⟩ := PySem.W.tab_of G.T KX h2 h3
    exact ⟨t2, h1, (t1.tab t2).isCodeTable⟩
  refine PySem.W.enter_call (codeAny_mono (zy5 (R := []) (cl := classAt s_0.heap) (d0 := r.ret.enc (Codec.app r.args r.f a)) KX G.T.g G.T.b G.T.builtins G.T.nolimit hg G.T.bmain hT hwl (zi2 _ _) (qc0 hlay) hr hF hb (by rw [zq8]; exact hlen)
    (fun H0 H xs hO hS hs ht => hsp (K w.params) H0 H xs a hO hwi e2 hS hs ht) fun H e s' => hCX H s₁ e s') fun r' s' hq => ?_)
  obtain ⟨u, as', rfl, h1, h2, h3, h4⟩ := hq
  exact ⟨.inl ⟨u, _, as', rfl, fun _ => rfl, h1, (OpenSpec.post_iff hwell hwi _ _).mpr rfl, fun z => Bool.noConfusion (show false = true from z)⟩, h2, h3, h4⟩
end L2
end
section
set_option Elab.async false
set_option linter.all false
set_option maxRecDepth 100000
set_option maxHeartbeats 2000000
namespace L2
open PySem PySem.Spec PyProof.Rows
section
variable {prog : Program} {w : World} {A : Around} {E : Value → Shared → Prop} {s : Shared} {R : Result → Shared → Prop} {Q : Value → Shared → Prop}
theorem zZ4 (a d : Value) : argsOk "max" ⟨[a], [(Str.ofString "default", d)]⟩ := by unfold argsOk; kernel_rfl
theorem zZ3 {I S : Addr} {fp wr : List Addr} {n : Nat} {P : Nat → Value → Prop} {St : Nat → Heap → Prop} {key : Str} {d : Value} (W : Walks prog w A.in1 I fp wr n P St) (bt : Nat → Nat → Bool) (cmp : CmpOf prog w A.in1 .Gt P bt) (sf : S ∉ fp) :
    ∀ (k j : Nat) (s : Shared) (vb : Value) (c : Nat), n - (j + 1) = k → j + 1 ≤ n → St (j + 1) s.heap → P (argBest bt j) vb → s.heap.get? S = some (seqObj "list" #[vb, vb] c) →
    (∀ v h1 tk, P (argBest bt (n - 1)) v → (∀ b o, b ∉ wr → b ≠ S → s.heap.get? b = some o → h1.get? b = some o) → R (.ok (.ret v)) { s with heap := h1, toks := tk }) →
    codeAny (model prog w) A (.builtin "max.loop" ⟨[.ref I, .none, .ref S], [(key, d)]⟩) R s := by
  have sw : S ∉ wr := fun z => sf (W.sub _ z)
  have nm : (toString "max" ++ toString ".loop" : String) = "max.loop" := (by decide)
  intro k
  induction k with
  | zero =>
    intro j s vb c e1 e2 st pb gS fin
    have en : j + 1 = n := by omega
    refine codeAny_builtin PySem.F.entry_max_loop ?_; rw [Around.under_plainId PySem.F.plain_max_loop _]
    show wpAny _ A.in1 (seqItems? (.ref S) >>= _) _ _ _; refine wpAny_bind (wpAny_seqItems gS rfl ?_)
    show wpAny _ A.in1 (tryCatch (pyNext (.ref I)) _ >>= _) _ _ _; refine wpAny_bind (wpAny_tryCatch (W.done s _ _ (en ▸ st) fun h1 tk kp => ?_))
    have gS1 := kp S _ sw gS
    show wpAny _ A.in1 (updateSeq S (fun _ => #[]) >>= _) _ _ _; refine wpAny_bind ?_; refine wpAny_updateSeq gS1 rfl (wpAny_bind (wpAny_letGo (wpAny_pure ?_)))
    refine fin vb _ tk (by rw [← en]; exact pb) fun b o hb hS e => ?_
    rw [Heap.get?_update_other _ _ (Ne.symm hS)]
    exact kp b o hb e
  | succ k ih =>
    intro j s vb c e1 e2 st pb gS fin
    have lt : j + 1 < n := by omega
    refine codeAny_builtin PySem.F.entry_max_loop ?_; rw [Around.under_plainId PySem.F.plain_max_loop _]
    show wpAny _ A.in1 (seqItems? (.ref S) >>= _) _ _ _; refine wpAny_bind (wpAny_seqItems gS rfl ?_)
    show wpAny _ A.in1 (tryCatch (pyNext (.ref I)) _ >>= _) _ _ _; refine wpAny_bind (wpAny_tryCatch (W.item (j + 1) s _ _ lt st fun v h1 tk pv st1 kp => ?_))
    have gS1 := kp S _ sw gS
    show wpAny _ A.in1 (tryCatch (holding [v, v] (richCompare .Gt v vb >>= _)) _ >>= _) _ _ _; refine wpAny_bind (wpAny_tryCatch (wpAny_holding (wpAny_bind (cmp (j + 1) (argBest bt j) v vb _ _ _ pv pb ?_))))
    refine wpAny_bind (wpAny_holding (wpAny_truthy_bool ?_)); refine wpAny_bind (wpAny_letGo (wpAny_pure ?_))
    cases q : bt (j + 1) (argBest bt j) with
    | true =>
      simp only [if_true]
      refine wpAny_bind ?_; refine wpAny_updateSeq gS1 rfl (wpAny_bind (wpAny_letGo ?_)); rw [nm]
      refine wpAny_pure ⟨plainId_quiet PySem.F.plain_max_loop _, ih (j + 1) _ v _ (by omega) lt (W.frame _ _ _ st1 fun b hb o e => ?_) (by simp only [argBest, q, if_true]; exact pv) (Heap.get?_update_self _ gS1 rfl) fun v2 h2 tk2 p2 k2 => ?_⟩
      · rw [Heap.get?_update_other _ _ (fun z : S = b => sf (by rw [z]; exact hb))]; exact e
      · refine fin v2 h2 tk2 p2 fun b o hb hS e => k2 b o hb hS ?_
        rw [Heap.get?_update_other _ _ (Ne.symm hS)]; exact kp b o hb e
    | false =>
      simp only [Bool.false_eq_true, if_false]
      refine wpAny_bind (wpAny_letGo ?_); rw [nm]
      refine wpAny_pure ⟨plainId_quiet PySem.F.plain_max_loop _, ih (j + 1) _ vb c (by omega) lt st1 (by simp only [argBest, q, Bool.false_eq_true, if_false]; exact pb) gS1 fun v2 h2 tk2 p2 k2 => ?_⟩
      exact fin v2 h2 tk2 p2 fun b o hb hS e => k2 b o hb hS (kp b o hb e)
theorem qh7 {l : Addr} {items : Array Value} {val : Nat → Int} {d : Value} (hh : A.handled = none) (hl : s.heap.IsList l items) (hi : ∀ (i : Nat) (v : Value), items[i]? = some v → ∃ t, v = Value.int (val i) t)
    (h0 : items.size = 0 → ∀ h1 tk, (∀ b o, s.heap.get? b = some o → h1.get? b = some o) → Q d { s with heap := h1, toks := tk })
    (h1 : ∀ j t h1 tk, j < items.size → (∀ i, i < items.size → val i ≤ val j) → (∀ b o, s.heap.get? b = some o → h1.get? b = some o) → Q (.int (val j) t) { s with heap := h1, toks := tk }) :
    wpAny (model prog w) A (call (.builtin "max") [.ref l] [(Str.ofString "default", d)]) Q E s := by
  have nm : (toString "max" ++ toString ".loop" : String) = "max.loop" := (by decide)
  obtain ⟨ol, hol, hol2⟩ := id hl
  have ll : l < s.heap.objs.size := Heap.lt_size hol
  refine kmk_tree PySem.F.kind_max PySem.F.plain_max PySem.F.entry_max (zZ4 _ _) ?_
  show wpAny _ A.in1 (Builtin.Builtins.bindParams "max" ["key", "default"] 0 ⟨[], [(Str.ofString "default", d)]⟩ >>= _) _ _ s
  refine wpAny_bind (wpAny_of_eq (show Builtin.Builtins.bindParams "max" ["key", "default"] 0 ⟨[], [(Str.ofString "default", d)]⟩ = pure [none, some d] from rfl) ?_)
  refine wpAny_bind (wpAny_pure ?_)
  refine wpAny_bind (wpAny_pyIter_list hl ?_); refine wpAny_bind (wpAny_newList ?_ (Nat.zero_le _)); rw [nm]
  have lI : l ≠ s.heap.objs.size := Nat.ne_of_lt ll
  have W := Walks.list (prog := prog) (w := w) (A := A.in1) hh s.heap.objs.size l lI items
  generalize hH1 : s.heap.push { cls := .type "list_iterator", data := .fields #[.ref l, .int 0 0] } = H1
  have z1 : H1.objs.size = s.heap.objs.size + 1 := by rw [← hH1]; exact size_push' ..
  have k1 : ∀ b o, s.heap.get? b = some o → H1.get? b = some o := fun b o e => by rw [← hH1]; exact Heap.get?_push_of_some _ e
  have gI : H1.get? s.heap.objs.size = some { cls := .type "list_iterator", data := .fields #[.ref l, .int 0 0] } := by rw [← hH1]; exact Heap.get?_push_size _ rfl
  have gS : (H1.push (seqObj "list" #[] 0)).get? H1.objs.size = some (seqObj "list" #[] 0) := Heap.get?_push_size _ rfl
  have st : (H1.push (seqObj "list" #[] 0)).IsListIter s.heap.objs.size l 0 ∧ (H1.push (seqObj "list" #[] 0)).IsList l items := ⟨⟨_, Heap.get?_push_of_some _ gI, rfl, rfl⟩, ⟨ol, Heap.get?_push_of_some _ (k1 _ _ hol), hol2⟩⟩
  have sf : H1.objs.size ∉ [s.heap.objs.size, l] := by
    rw [z1]
    intro z
    rcases List.mem_cons.mp z with e | z
    · exact absurd e (Nat.ne_of_gt (Nat.lt_succ_self _))
    · have e := List.mem_singleton.mp z
      rw [← e] at ll
      exact Nat.lt_irrefl _ (Nat.lt_of_succ_lt ll)
  have sw : H1.objs.size ∉ [s.heap.objs.size] := fun z => sf (W.sub _ z)
  have old : ∀ {h2 : Heap}, (∀ b o, b ∉ [s.heap.objs.size] → b ≠ H1.objs.size → (H1.push (seqObj "list" #[] 0)).get? b = some o → h2.get? b = some o) → ∀ b o, s.heap.get? b = some o → h2.get? b = some o := fun {h2} kp b o e => by
    have hb : b < s.heap.objs.size := Heap.lt_size e
    refine kp b o (fun z => absurd (List.mem_singleton.mp z) (Nat.ne_of_lt hb)) (fun z => ?_) (Heap.get?_push_of_some _ (k1 b o e))
    rw [z, z1] at hb
    exact Nat.lt_irrefl _ (Nat.lt_of_succ_lt hb)
  refine wpAny_pure ⟨plainId_quiet PySem.F.plain_max_loop _, ?_⟩
  refine codeAny_builtin PySem.F.entry_max_loop ?_; rw [Around.under_plainId PySem.F.plain_max_loop _]
  show wpAny _ A.in1 (seqItems? (.ref H1.objs.size) >>= _) _ _ _; refine wpAny_bind (wpAny_seqItems gS rfl ?_)
  by_cases hn : items.size = 0
  · show wpAny _ A.in1 (tryCatch (pyNext (.ref s.heap.objs.size)) _ >>= _) _ _ _; refine wpAny_bind (wpAny_tryCatch (W.done _ _ _ (by rw [hn]; exact st) fun h2 tk kp => ?_))
    show wpAny _ A.in1 (rule _ >>= _) _ _ _; refine wpAny_bind (wpAny_rule (wpAny_pure ?_))
    exact h0 hn h2 tk (old fun b o h1 _ e => kp b o h1 e)
  · show wpAny _ A.in1 (tryCatch (pyNext (.ref s.heap.objs.size)) _ >>= _) _ _ _; refine wpAny_bind (wpAny_tryCatch (W.item 0 _ _ _ (Nat.pos_of_ne_zero hn) st fun v h2 tk pv st1 kp => ?_))
    have gS1 := kp _ _ sw gS
    show wpAny _ A.in1 (updateSeq H1.objs.size (fun _ => #[v, v]) >>= _) _ _ _; refine wpAny_bind ?_; refine wpAny_updateSeq gS1 rfl ?_; rw [nm]
    refine wpAny_pure ⟨plainId_quiet PySem.F.plain_max_loop _, zZ3 W _ (CmpOf.ints_gt val hi) sf _ 0 _ v _ rfl (Nat.pos_of_ne_zero hn) (W.frame _ _ _ st1 fun b hb o e => ?_) pv (Heap.get?_update_self _ gS1 rfl) fun v2 h3 tk2 p2 k2 => ?_⟩
    · rw [Heap.get?_update_other _ _ (fun z => sf (by rw [z]; exact hb))]; exact e
    · obtain ⟨t, rfl⟩ := hi _ _ p2
      have ab := argBest_gt val (items.size - 1)
      refine h1 _ t h3 tk2 (by omega) (fun i hi' => ab.2 i (by omega)) (old fun b o h1 h2' e => k2 b o h1 h2' ?_)
      rw [Heap.get?_update_other _ _ (Ne.symm h2')]
      exact kp b o h1 e
end
section
variable {X : Cx} {pins : List (Addr × Obj)} {σ : St} {H : Hp} {s : Shared}
def zw5 (K : PySem.W.Frag) (t : TA) (td : TE) : TE := fun σ H Q => t σ H fun vs H1 => td σ H1 fun dv H2 => ∃ (l : Addr) (ns : List Int), vs = [.ref l] ∧ SqL K H2 l (ns.map V.int) ∧ (ns = [] → Q dv H2) ∧ (ns ≠ [] → ∀ m, m ∈ ns → (∀ y, y ∈ ns → y ≤ m) → Q (.int m) H2)
theorem zR9 {e d : Expr} {t : TA} {td : TE} {p kpos pos : Pos} (hg : Gl X "max") (hm : X.mg "max" = none) (ha : PA X [e] t) (hd : PE X d td) (hc : X.calm = true)
    (hs : starEach [e] X.env = [(false, eval e X.env)] := by rfl) : PE X (.Call (.Name "max" p) [e] [⟨some "default", d, kpos⟩] pos) (zw5 X.K t td) := by
  intro pins s σ H Q I h
  refine wpAny_Call_Name_kw (d5 I hg hm PyProof.Rows.boot_max ?_)
  refine PyProof.Rows.callWith_kw (thn (ha pos pins s σ H _ I h) fun us s1 ⟨vs, H1, I1, r1, q1⟩ => ?_) (by rw [hs]; rfl) (by rw [hs]; rfl)
  show wpAny _ _ (evalAll [(do let v ← eval d X.env; standAt pos; pure v)]) _ _ s1
  refine wpAny_evalAll_cons (wpAny_bind (thn (hd pins s1 σ H1 _ I1 q1) fun dv s2 ⟨dV, H2, I2, rd, l, ns, e1, hl, q0, q2⟩ => ?_))
  subst e1
  rw [M0.ref1 r1]
  refine wpAny_bind (wpAny_standAt (wpAny_pure (wpAny_pure ?_)))
  obtain ⟨its, rv, pl, _⟩ := I2.list hl
  have hi := rv.ints
  have hlen := hi.length
  refine qh7 (items := its.toArray) (val := fun i => ns.getD i 0) (I2.ok.hd hc) pl.isList (fun i v hv => ?_) (fun z h1 tk kp => ?_) fun j tk1 h1 tk hj hall kp => ?_
  · have hv' : its[i]? = some v := by simpa using hv
    have hil : i < its.length := (List.getElem?_eq_some_iff.mp hv').1
    obtain ⟨n, hn⟩ : ∃ n, ns[i]? = some n := ⟨_, List.getElem?_eq_getElem (by omega)⟩
    obtain ⟨tk, ht⟩ := hi.get i n hn
    rw [ht] at hv'
    cases hv'
    exact ⟨tk, by simp [hn]⟩
  · have : ns = [] := List.eq_nil_of_length_eq_zero (by rw [← hlen]; simpa using z)
    exact ⟨dV, H2, I2.kept kp, rd, q0 this⟩
  · have hj' : j < ns.length := by rw [← hlen]; simpa using hj
    have gj : ns[j]? = some (ns.getD j 0) := by rw [List.getD_eq_getElem?_getD, List.getElem?_eq_getElem hj']; rfl
    refine ⟨.int (ns.getD j 0), H2, I2.kept kp, ⟨_, rfl⟩, q2 (fun z => by rw [z] at hj'; simp at hj') _ (List.mem_of_getElem? gj) fun y hy => ?_⟩
    obtain ⟨i, hi'⟩ := List.getElem?_of_mem hy
    have hil : i < ns.length := (List.getElem?_eq_some_iff.mp hi').1
    have := hall i (by simp; omega)
    rw [List.getD_eq_getElem?_getD, hi'] at this
    exact this
def ltP (a b : Int × Int) : Prop := a.1 < b.1 ∨ (a.1 = b.1 ∧ a.2 < b.2)
theorem zm8 (a b : Int × Int) : HT.lexLt [a.1, a.2] [b.1, b.2] = true ↔ ltP a b := by
  unfold ltP
  rw [HT.lexLt_cons, HT.lexLt_cons, HT.lexLt_nil_nil]
  by_cases c : a.1 = b.1
  · rw [if_pos c]
    by_cases e : a.2 = b.2
    · rw [if_pos e]; constructor
      · intro z; cases z
      · intro z; omega
    · rw [if_neg e, decide_eq_true_eq]; omega
  · rw [if_neg c, decide_eq_true_eq]; omega
def kP (a : Int × Int) : List V := [.int a.1, .int a.2]
structure MnSt (X : Cx) (pins : List (Addr × Obj)) (σ : St) (H0 : Hp) (l : Addr) (xs : List V) (I S : Addr) (g : Nat → Int × Int) (j i : Nat) (Hc : Hp) (s : Shared) : Prop where
  inv : Inv X pins σ Hc s
  same : x0 H0 Hc
  fI : Y1 X pins Hc I
  fS : Y1 X pins Hc S
  ne : S ≠ I
  it : s.heap.IsListIter I l (j + 1)
  best : ∃ x vb t c, s.heap.get? S = some (seqObj "list" #[vb, .ref t] c) ∧ xs[i]? = some x ∧ Q0 x vb ∧ Hc t = some (.tup (kP (g i)))
theorem Y1.to {H H' : Hp} {b : Addr} (h : Y1 X pins H b) (e : H' b = none) : Y1 X pins H' b := ⟨e, h.2⟩
theorem zZ8 {H0 : Hp} {l I S f : Addr} {xs : List V} {g : Nat → Int × Int} {R : Result → Shared → Prop} (hh : X.A.handled = none) (hu : X.A.in1.units < cLine) (hl : SqL X.K H0 l xs) (lI : l ≠ I)
    (turn : ∀ (j : Nat) (x : V) (u : Value) (more : List (Addr × Obj)) (s1 : Shared) (H1 : Hp), xs[j]? = some x → Q0 x u → x0 H0 H1 → Inv X (pins ++ more) σ H1 s1 →
      wpAny (model X.prog X.w) X.A.in1 (call (.ref f) [u]) (EP X (pins ++ more) σ fun v H2 => x0 H1 H2 ∧ ∃ t, v = .ref t ∧ H2 t = some (.tup (kP (g j)))) (fun _ _ => False) s1)
    (fin : ∀ (i : Nat) (x : V) (u : Value) (H1 : Hp) (s1 : Shared), xs[i]? = some x → Q0 x u → (∀ j, j < xs.length → ¬ ltP (g j) (g i) ∧ (j < i → ltP (g i) (g j))) → x0 H0 H1 → Inv X pins σ H1 s1 → R (.ok (.ret u)) s1) :
    ∀ (k j i : Nat) (Hc : Hp) (s : Shared), xs.length - (j + 1) = k → j + 1 ≤ xs.length → MnSt X pins σ H0 l xs I S g j i Hc s → i ≤ j → (∀ m, m ≤ j → ¬ ltP (g m) (g i) ∧ (m < i → ltP (g i) (g m))) →
      codeAny (model X.prog X.w) X.A (.builtin "min.loop" ⟨[.ref I, .ref f, .ref S], []⟩) R s := by
  have nm : (toString "min" ++ toString ".loop" : String) = "min.loop" := (by decide)
  intro k
  induction k with
  | zero =>
    intro j i Hc s e1 e2 M hij hb
    obtain ⟨x, vb, t, c, gS, gx, rx, gt⟩ := M.best
    obtain ⟨its, rv, pl, _⟩ := M.inv.list (M.same.seq hl)
    have W := Walks.list (prog := X.prog) (w := X.w) (A := X.A.in1) hh I l lI its.toArray
    have hz : its.toArray.size = j + 1 := by rw [List.size_toArray, ← rv.length]; omega
    refine codeAny_builtin PySem.F.entry_min_loop ?_; rw [Around.under_plainId PySem.F.plain_min_loop _]
    show wpAny _ X.A.in1 (seqItems? (.ref S) >>= _) _ _ _; refine wpAny_bind (wpAny_seqItems gS rfl ?_)
    show wpAny _ X.A.in1 (tryCatch (pyNext (.ref I)) _ >>= _) _ _ _; refine wpAny_bind (wpAny_tryCatch (W.done _ _ _ ⟨by rw [hz]; exact M.it, pl.isList⟩ fun h1 tk kp => ?_))
    have J := M.inv.turned (t' := tk) (h' := h1) (it := I) (fun b o hb e => kp b o (by simpa using hb) e) M.fI.1 M.fI.2.1 M.fI.2.2.2.1 M.fI.2.2.2.2.1 M.fI.2.2.2.2.2
    have gS1 := kp S _ (by simpa using M.ne) gS
    show wpAny _ X.A.in1 (updateSeq S (fun _ => #[]) >>= _) _ _ _; refine wpAny_bind ?_; refine wpAny_updateSeq gS1 rfl (wpAny_bind (wpAny_letGo (wpAny_pure ?_)))
    have J2 := J.turned (t' := tk) (h' := h1.update S (Obj.mapSeq fun _ => (#[] : Array Value))) (it := S) (fun b o hb e => (Heap.get?_update_other _ _ (Ne.symm hb)).trans e) M.fS.1 M.fS.2.1 M.fS.2.2.2.1 M.fS.2.2.2.2.1 M.fS.2.2.2.2.2
    exact fin i x vb Hc _ gx rx (fun m hm => hb m (by omega)) M.same J2
  | succ k ih =>
    intro j i Hc s e1 e2 M hij hb
    have lt : j + 1 < xs.length := by omega
    obtain ⟨x, vb, t, c, gS, gx, rx, gt⟩ := M.best
    obtain ⟨its, rv, pl, _⟩ := M.inv.list (M.same.seq hl)
    have W := Walks.list (prog := X.prog) (w := X.w) (A := X.A.in1) hh I l lI its.toArray
    have hz : its.toArray.size = xs.length := by rw [List.size_toArray, ← rv.length]
    refine codeAny_builtin PySem.F.entry_min_loop ?_; rw [Around.under_plainId PySem.F.plain_min_loop _]
    show wpAny _ X.A.in1 (seqItems? (.ref S) >>= _) _ _ _; refine wpAny_bind (wpAny_seqItems gS rfl ?_)
    show wpAny _ X.A.in1 (tryCatch (pyNext (.ref I)) _ >>= _) _ _ _; refine wpAny_bind (wpAny_tryCatch (W.item (j + 1) _ _ _ (by rw [hz]; exact lt) ⟨M.it, pl.isList⟩ fun v h1 tk pv st1 kp => ?_))
    have J := M.inv.turned (t' := tk) (h' := h1) (it := I) (fun b o hb e => kp b o (by simpa using hb) e) M.fI.1 M.fI.2.1 M.fI.2.2.2.1 M.fI.2.2.2.2.1 M.fI.2.2.2.2.2
    have gS1 := kp S _ (by simpa using M.ne) gS
    obtain ⟨oI, goI, cI, dI⟩ := id st1.1
    obtain ⟨y, gy⟩ : ∃ y, xs[j + 1]? = some y := ⟨_, List.getElem?_eq_getElem lt⟩
    have ry : Q0 y v := by
      obtain ⟨u, hu1, hu2⟩ := rv.get gy
      have pv' : its[j + 1]? = some v := by simpa using pv
      rw [hu1] at pv'
      cases pv'
      exact hu2
    have I2 := J.pinned (fp := [S, I]) (fun b hb => by
      rcases List.mem_cons.mp hb with rfl | hb
      · exact M.fS
      · rw [List.mem_singleton.mp hb]; exact M.fI) (fun b hb => by
      rcases List.mem_cons.mp hb with rfl | hb
      · exact ⟨_, gS1, fun v z => by cases z⟩
      · rw [List.mem_singleton.mp hb]; exact ⟨_, goI, fun v z => by rw [dI] at z; cases z⟩)
    show wpAny _ X.A.in1 (tryCatch (holding [v] (call (.ref f) [v])) _ >>= _) _ _ _
    refine wpAny_bind (wpAny_tryCatch (wpAny_holding (wpAny_mono (turn (j + 1) y v _ _ Hc gy ry M.same I2) (fun kv s2 he => ?_) fun _ _ z => z.elim)))
    obtain ⟨v1, H2, J2, rk, sm2, t2, rfl, gt2⟩ := he
    cases rk
    have pS := J2.pin (S, seqObj "list" #[vb, .ref t] c) (List.mem_append_right _ (List.mem_append_right _ (j4 (by simp) gS1)))
    have pI := J2.pin (I, oI) (List.mem_append_right _ (List.mem_append_right _ (j4 (by simp) goI)))
    have J3 := J2.unpinned
    have fS := M.fS.to (H' := H2) pS.2.1
    have fI := M.fI.to (H' := H2) pI.2.1
    obtain ⟨its1, rv1, tp1, _⟩ := J3.tuple (SqT.of gt2)
    obtain ⟨its2, rv2, tp2, _⟩ := J3.tuple (SqT.of (sm2 _ _ gt))
    have i1 : IntsAre its1.toArray.toList [(g (j + 1)).1, (g (j + 1)).2] := L8 rv1
    have i2 : IntsAre its2.toArray.toList [(g i).1, (g i).2] := L8 rv2
    show wpAny _ X.A.in1 (tryCatch (holding [v, .ref t2] (richCompare .Lt (.ref t2) (.ref t) >>= _)) _ >>= _) _ _ _
    refine wpAny_bind (wpAny_tryCatch (wpAny_holding (wpAny_bind (show wpAny _ X.A.in1 (compareOp .Lt (.ref t2) (.ref t)) _ _ _ from HT.lt_tupInts tp1 tp2 i1 i2 hu ?_))))
    refine wpAny_bind (wpAny_holding (wpAny_truthy_bool ?_)); refine wpAny_bind (wpAny_letGo (wpAny_pure ?_))
    have sm : x0 H0 H2 := M.same.trans sm2
    cases q : HT.lexLt [(g (j + 1)).1, (g (j + 1)).2] [(g i).1, (g i).2] with
    | true =>
      have lq := (zm8 _ _).mp q
      simp only [if_true]
      refine wpAny_bind ?_; refine wpAny_updateSeq pS.1 rfl (wpAny_bind (wpAny_letGo ?_)); rw [nm]
      obtain ⟨c2, gS2⟩ : ∃ c2, (s2.heap.update S (Obj.mapSeq fun _ => #[v, .ref t2])).get? S = some (seqObj "list" #[v, .ref t2] c2) := ⟨_, get?_update_seq pS.1 fun _ => #[v, .ref t2]⟩
      have J4 := J3.turned (t' := s2.toks) (h' := s2.heap.update S (Obj.mapSeq fun _ => #[v, .ref t2])) (it := S) (fun b o hb e => (Heap.get?_update_other _ _ (Ne.symm hb)).trans e) fS.1 fS.2.1 fS.2.2.2.1 fS.2.2.2.2.1 fS.2.2.2.2.2
      refine wpAny_pure ⟨plainId_quiet PySem.F.plain_min_loop _, ih (j + 1) (j + 1) H2 _ (by omega) lt ⟨J4, sm, fI, fS, M.ne, ⟨oI, (Heap.get?_update_other _ _ M.ne).trans pI.1, cI, dI⟩, y, v, t2, c2, gS2, gy, ry, gt2⟩ (Nat.le_refl _) fun m hm => ?_⟩
      by_cases z : m = j + 1
      · subst z; exact ⟨by unfold ltP; omega, fun z => by omega⟩
      · have h1 := (hb m (by omega)).1
        unfold ltP at *
        exact ⟨by omega, fun _ => by omega⟩
    | false =>
      have lq : ¬ ltP (g (j + 1)) (g i) := fun z => by rw [(zm8 _ _).mpr z] at q; cases q
      simp only [Bool.false_eq_true, if_false]
      refine wpAny_bind (wpAny_letGo ?_); rw [nm]
      refine wpAny_pure ⟨plainId_quiet PySem.F.plain_min_loop _, ih (j + 1) i H2 _ (by omega) lt ⟨J3, sm, fI, fS, M.ne, ⟨oI, pI.1, cI, dI⟩, x, vb, t, c, pS.1, gx, rx, sm2 _ _ gt⟩ (by omega) fun m hm => ?_⟩
      by_cases z : m = j + 1
      · subst z; exact ⟨lq, fun z => by omega⟩
      · exact hb m (by omega)
theorem qa0 {H : Hp} {l f : Addr} {xs : List V} {g : Nat → Int × Int} {Q : VK} (I : Inv X pins σ H s) (hh : X.A.handled = none) (hu : X.A.in1.units < cLine) (hl : SqL X.K H l xs) (hne : xs ≠ [])
    (turn : ∀ (j : Nat) (x : V) (u : Value) (more : List (Addr × Obj)) (s1 : Shared) (H1 : Hp), xs[j]? = some x → Q0 x u → x0 H H1 → Inv X (pins ++ more) σ H1 s1 →
      wpAny (model X.prog X.w) X.A.in1 (call (.ref f) [u]) (EP X (pins ++ more) σ fun v H2 => x0 H1 H2 ∧ ∃ t, v = .ref t ∧ H2 t = some (.tup (kP (g j)))) (fun _ _ => False) s1)
    (fin : ∀ (i : Nat) (x : V) (H1 : Hp), xs[i]? = some x → (∀ j, j < xs.length → ¬ ltP (g j) (g i) ∧ (j < i → ltP (g i) (g j))) → x0 H H1 → Q x H1) :
    wpAny (model X.prog X.w) X.A (call (.builtin "min") [.ref l] [(Str.ofString "key", .ref f)]) (EP X pins σ Q) X.xe s := by
  have nm : (toString "min" ++ toString ".loop" : String) = "min.loop" := (by decide)
  obtain ⟨its, rv, pl, _⟩ := I.list hl
  have hls := pl.isList
  obtain ⟨ol, hol, hol2⟩ := id hls
  have ll : l < s.heap.objs.size := Heap.lt_size hol
  have lI : l ≠ s.heap.objs.size := Nat.ne_of_lt ll
  have hpos : 0 < xs.length := List.length_pos_iff.mpr hne
  refine kmk_tree PySem.F.kind_min PySem.F.plain_min PySem.F.entry_min (kmk_min_key _ _) ?_
  show wpAny _ X.A.in1 (Builtin.Builtins.bindParams "min" ["key", "default"] 0 ⟨[], [(Str.ofString "key", .ref f)]⟩ >>= _) _ _ s
  refine wpAny_bind (wpAny_of_eq (show Builtin.Builtins.bindParams "min" ["key", "default"] 0 ⟨[], [(Str.ofString "key", .ref f)]⟩ = pure [some (.ref f), none] from rfl) ?_)
  refine wpAny_bind (wpAny_pure ?_)
  refine wpAny_bind (wpAny_pyIter_list hls ?_); refine wpAny_bind (wpAny_newList ?_ (Nat.zero_le _)); rw [nm]
  have W := Walks.list (prog := X.prog) (w := X.w) (A := X.A.in1) hh s.heap.objs.size l lI its.toArray
  have hz : its.toArray.size = xs.length := by rw [List.size_toArray, ← rv.length]
  generalize hH1 : s.heap.push { cls := .type "list_iterator", data := .fields #[.ref l, .int 0 0] } = h1
  have z1 : h1.objs.size = s.heap.objs.size + 1 := by rw [← hH1]; exact size_push' ..
  have k1 : ∀ b o, s.heap.get? b = some o → h1.get? b = some o := fun b o e => by rw [← hH1]; exact Heap.get?_push_of_some _ e
  have gI : h1.get? s.heap.objs.size = some { cls := .type "list_iterator", data := .fields #[.ref l, .int 0 0] } := by rw [← hH1]; exact Heap.get?_push_size _ rfl
  have gS : (h1.push (seqObj "list" #[] 0)).get? h1.objs.size = some (seqObj "list" #[] 0) := Heap.get?_push_size _ rfl
  have I1 : Inv X pins σ H { s with heap := h1.push (seqObj "list" #[] 0) } := I.kept (t' := s.toks) fun b o e => Heap.get?_push_of_some _ (k1 b o e)
  have fI : Y1 X pins H s.heap.objs.size := I.fpOk (Nat.le_refl _) (I.hok.fresh (Nat.le_refl _))
  have fS : Y1 X pins H h1.objs.size := I.fpOk (by omega) (I.hok.fresh (by omega))
  have ne : h1.objs.size ≠ s.heap.objs.size := by omega
  refine wpAny_pure ⟨plainId_quiet PySem.F.plain_min_loop _, ?_⟩
  refine codeAny_builtin PySem.F.entry_min_loop ?_; rw [Around.under_plainId PySem.F.plain_min_loop _]
  show wpAny _ X.A.in1 (seqItems? (.ref h1.objs.size) >>= _) _ _ _; refine wpAny_bind (wpAny_seqItems gS rfl ?_)
  show wpAny _ X.A.in1 (tryCatch (pyNext (.ref s.heap.objs.size)) _ >>= _) _ _ _
  refine wpAny_bind (wpAny_tryCatch (W.item 0 _ _ _ (by rw [hz]; exact hpos) ⟨⟨_, Heap.get?_push_of_some _ gI, rfl, rfl⟩, ⟨ol, Heap.get?_push_of_some _ (k1 _ _ hol), hol2⟩⟩ fun v h2 tk pv st1 kp => ?_))
  have J := I1.turned (t' := tk) (h' := h2) (it := s.heap.objs.size) (fun b o hb e => kp b o (by simpa using hb) e) fI.1 fI.2.1 fI.2.2.2.1 fI.2.2.2.2.1 fI.2.2.2.2.2
  have gS1 := kp _ _ (by simpa using ne) gS
  obtain ⟨oI, goI, cI, dI⟩ := id st1.1
  obtain ⟨y, gy⟩ : ∃ y, xs[0]? = some y := ⟨_, List.getElem?_eq_getElem hpos⟩
  have ry : Q0 y v := by
    obtain ⟨u, hu1, hu2⟩ := rv.get gy
    have pv' : its[0]? = some v := by simpa using pv
    rw [hu1] at pv'
    cases pv'
    exact hu2
  have I2 := J.pinned (fp := [h1.objs.size, s.heap.objs.size]) (fun b hb => by
    rcases List.mem_cons.mp hb with rfl | hb
    · exact fS
    · rw [List.mem_singleton.mp hb]; exact fI) (fun b hb => by
    rcases List.mem_cons.mp hb with rfl | hb
    · exact ⟨_, gS1, fun v z => by cases z⟩
    · rw [List.mem_singleton.mp hb]; exact ⟨_, goI, fun v z => by rw [dI] at z; cases z⟩)
  show wpAny _ X.A.in1 (tryCatch (holding [v] (call (.ref f) [v])) _ >>= _) _ _ _
  refine wpAny_bind (wpAny_tryCatch (wpAny_holding (wpAny_mono (turn 0 y v _ _ H gy ry (fun _ _ e => e) I2) (fun kv s2 he => ?_) fun _ _ z => z.elim)))
  obtain ⟨v1, H2, J2, rk, sm2, t2, rfl, gt2⟩ := he
  cases rk
  have pS := J2.pin (h1.objs.size, seqObj "list" #[] 0) (List.mem_append_right _ (List.mem_append_right _ (j4 (by simp) gS1)))
  have pI := J2.pin (s.heap.objs.size, oI) (List.mem_append_right _ (List.mem_append_right _ (j4 (by simp) goI)))
  have J3 := J2.unpinned
  have fS2 := fS.to (H' := H2) pS.2.1
  have fI2 := fI.to (H' := H2) pI.2.1
  obtain ⟨c2, gS2⟩ : ∃ c2, (s2.heap.update h1.objs.size (Obj.mapSeq fun _ => #[v, .ref t2])).get? h1.objs.size = some (seqObj "list" #[v, .ref t2] c2) := ⟨_, get?_update_seq pS.1 fun _ => #[v, .ref t2]⟩
  have J4 := J3.turned (t' := s2.toks) (h' := s2.heap.update h1.objs.size (Obj.mapSeq fun _ => #[v, .ref t2])) (it := h1.objs.size) (fun b o hb e => (Heap.get?_update_other _ _ (Ne.symm hb)).trans e) fS2.1 fS2.2.1 fS2.2.2.2.1 fS2.2.2.2.2.1 fS2.2.2.2.2.2
  show wpAny _ X.A.in1 (updateSeq h1.objs.size (fun _ => #[v, .ref t2]) >>= _) _ _ _; refine wpAny_bind ?_; refine wpAny_updateSeq pS.1 rfl ?_; rw [nm]
  refine wpAny_pure ⟨plainId_quiet PySem.F.plain_min_loop _, zZ8 (g := g) hh hu hl lI turn (fun i x u H3 s3 gx rx hb sm J5 => ?_) _ 0 0 H2 _ rfl hpos ⟨J4, sm2, fI2, fS2, ne, ⟨oI, (Heap.get?_update_other _ _ ne).trans pI.1, cI, dI⟩, y, v, t2, c2, gS2, gy, ry, gt2⟩ (Nat.le_refl _) fun m hm => ?_⟩
  · exact ⟨x, H3, J5, rx, fin i x H3 gx hb sm⟩
  · have z : m = 0 := by omega
    subst z
    exact ⟨by unfold ltP; omega, fun z => by omega⟩
def zw4 (K : PySem.W.Frag) (P : Addr) (lpos : Pos) (qual : Str) (fr : List (Str × Nat)) (t : TA) (tb : TE) : TE := fun σ H Q => t σ H fun vs H1 => ∃ (l : Addr) (xs : List V) (g : Nat → Int × Int) (ps : Array Value), vs = [.ref l] ∧ SqL K H1 l xs ∧ xs ≠ [] ∧ TabIs H1 P lpos qual ps ∧
  ∀ (H2 : Hp) (ps' : Array Value), TabIs H2 P lpos qual ps' → (∀ b o, H1 b = some o → b ≠ P → H2 b = some o) →
    (∀ (j : Nat) (x : V) (H3 : Hp), xs[j]? = some x → x0 H2 H3 → tb (A4 σ x fr) H3 fun v H4 => x0 H3 H4 ∧ ∃ t, v = .ref t ∧ H4 t = some (.tup (kP (g j)))) ∧
    ∀ (i : Nat) (x : V) (H3 : Hp), xs[i]? = some x → (∀ j, j < xs.length → ¬ ltP (g j) (g i) ∧ (j < i → ltP (g i) (g j))) → x0 H2 H3 → Q x H3
theorem zR8 {e body : Expr} {t : TA} {tb : TE} {c P : Addr} {N : List Str} {x : Str} {fr : List (Str × Nat)} {params : Arguments} {scope : Scope} {p lpos kpos pos : Pos} {k : Nat} (hg : Gl X "min") (hm : X.mg "min" = none) (ha : PA X [e] t) (hr : Room (k + 1) X.A)
    (hcode : X.env.code = .ref c) (hC : ∀ h : Heap, X.K.In h → PySem.W.CodeHd h c P) (hB : X.base.BuiltinsAt X.mg P) (S : LamScope X N x fr scope) (hdef : defaultsOf params X.env = ([], []))
    (hbind : ∀ (cl : List (Str × Addr)) (pm ctv u : Value) (c' : Addr), bindArgs (PySem.W.kla_fn "<lambda>" (X.env.qual ++ "<lambda>") params body scope cl pm (.ref c') ctv) ⟨[u], []⟩ = pure [(x, u)])
    (hb : ∀ (s : Shared) (H : Hp) (f c' : Addr), PE (X.lam X.A.in1 N s H (T5 X (X.env.qual ++ "<lambda>") scope s.heap.objs.size f (.ref c'))) body tb)
    (hs : starEach [e] X.env = [(false, eval e X.env)] := by rfl) : PE X (.Call (.Name "min" p) [e] [⟨some "key", .Lambda params body scope lpos, kpos⟩] pos) (zw4 X.K P lpos (X.env.qual ++ "<lambda>") fr t tb) := by
  intro pins s σ H Q I h
  refine wpAny_Call_Name_kw (d5 I hg hm PyProof.Rows.boot_min ?_)
  refine PyProof.Rows.callWith_kw (thn (ha pos pins s σ H _ I h) fun us s1 ⟨vs, H1, I1, r1, q1⟩ => ?_) (by rw [hs]; rfl) (by rw [hs]; rfl)
  obtain ⟨l, xs, g, ps, rfl, hl, hne, tb1, q1⟩ := q1
  rw [M0.ref1 r1]
  show wpAny _ _ (evalAll [(do let v ← eval (.Lambda params body scope lpos) X.env; standAt pos; pure v)]) _ _ s1
  refine wpAny_evalAll_cons (wpAny_bind (zn5 I1 hcode (hC _ I1.mod.kin) hB tb1 (fun y hy hf => I1.ok.has _ (S.free y hy hf).2) hdef fun f c' pm ctv H2 ps' s2 I2 hc2 tb2 kp => ?_))
  obtain ⟨hturn, hend⟩ := q1 H2 ps' tb2 kp
  refine wpAny_bind (wpAny_standAt (wpAny_pure ?_))
  refine wpAny_pure ?_
  have hh := hr.hd
  have hr2 : Room k X.A.in1 := hr.in1
  refine wpAny_mono (qa0 (pins := pins ++ [(f, PySem.W.kla_obj "<lambda>" (X.env.qual ++ "<lambda>") params body scope (A1 X.env.cells scope.names []) pm c' ctv)]) (g := g) (Q := Q) I2 hh hr2.units0 (E9 hl tb1.at_ kp) hne (fun j y u more s3 H3 hy ry sm I3 => ?_) hend) (fun u s4 ⟨v, H4, I4, r4, q4⟩ => ⟨v, H4, I4.unpinned, r4, q4⟩) fun _ _ z => z
  have pf := (I3.pin (f, _) (List.mem_append_right _ (List.mem_append_left _ (List.mem_append_right _ List.mem_cons_self)))).1
  have hrec : s3.heap.CodeRec (.ref c') (X.env.qual ++ "<lambda>") := (show W1 X.prog X.w H3 s3.heap c' (Q4 c' (X.env.qual ++ "<lambda>")) from I3.hok c' _ (sm _ _ hc2)).1
  exact zg3 (v := y) S I3 I3.ok.frames hr2.hd hr2.depth pf hrec (hbind _ _ _ _ _) ry (hb s3 H3 f c') (hturn j y H3 hy sm)
def zQ5 (K : PySem.W.Frag) : R2 := fun x y H Q => ∃ a b xs ys, x = .ref a ∧ y = .ref b ∧ SqT K H a xs ∧ SqT K H b ys ∧ ys ≠ [] ∧ xs.length + ys.length ≤ sizeLine ∧
  (xs = [] → Q (.ref b) H) ∧ (xs ≠ [] → ∀ p, H p = none → Q (.ref p) (upd H p (.tup (xs ++ ys))))
theorem zS8 : OpR X (binaryOp .Add) (zQ5 X.K) := by
  intro pins s σ H x y v u Q I rx ry h
  obtain ⟨a, b, xs, ys, rfl, rfl, ha, hb, hy, hz, q1, q2⟩ := h
  by_cases c : xs = []
  · cases rx
    cases ry
    subst c
    obtain ⟨its, r1, p1, _⟩ := I.tuple ha
    obtain ⟨its2, r2, p2, _⟩ := I.tuple hb
    have e0 := r1.nil_iff.mpr rfl
    subst e0
    obtain ⟨⟨cls, dd, data, sl⟩, ho, hc, n, hd⟩ := id p1
    obtain ⟨⟨cls2, dd2, data2, sl2⟩, ho2, hc2, n2, hd2⟩ := id p2
    simp only at hc hd hc2 hd2
    subst hc hd hc2 hd2
    exact concat_meets ⟨_, ho, rfl⟩ ⟨_, ho2, rfl⟩ noFill_tuple_add seq_tuple_add PySem.F.slot_tuple_add PySem.F.entry_tuple_add (PySem.F.args_tuple_add_2 _ _) (tuple_addW0 a b _ _ n n2 dd dd2 sl sl2 (by simp)) ⟨ho, ho2, ⟨.ref b, H, I, rfl, q1 rfl⟩⟩
  · exact zS6 pins s σ H _ _ v u Q I rx ry ⟨a, b, xs, ys, rfl, rfl, ha, hb, c, hz, fun e => absurd e hy, fun _ => q2 c⟩
end
end L2
end
section
set_option linter.all false
namespace Pl
open PySem L2
def A5 : Addr := 312
def qc4 : Pos := ⟨225, 29, 225, 66⟩
def qc2 : Str := ("whom_by_place" : Str) ++ ".<locals>." ++ "<lambda>"
def B5 : Addr := 350
def qc5 : Pos := ⟨248, 28, 248, 73⟩
def qc3 : Str := ("ho_fairest" : Str) ++ ".<locals>." ++ "<lambda>"
end Pl
end
section
set_option Elab.async false
set_option linter.all false
set_option maxRecDepth 100000
set_option maxHeartbeats 2000000
namespace Pl
open PySem PySem.Spec PyProof.Rows L2 PM
open Km464 (House Desk withIn)
def M1 {α : Type} (R : V → α → Prop) (vs : List V) (xs : List α) : Prop := vs.length = xs.length ∧ ∀ (i : Nat) (x : α), xs[i]? = some x → ∃ v, vs[i]? = some v ∧ R v x
section
variable {α : Type} {R R' : V → α → Prop} {vs ws : List V} {xs ys : List α} {v : V} {x : α}
theorem M1.nil : M1 R [] [] := ⟨rfl, fun i x h => by simp at h⟩
theorem M1.imp (h : M1 R vs xs) (f : ∀ v x, R v x → R' v x) : M1 R' vs xs := ⟨h.1, fun i x hx => let ⟨v, e, r⟩ := h.2 i x hx; ⟨v, e, f v x r⟩⟩
theorem M1.get (h : M1 R vs xs) {i : Nat} (hx : xs[i]? = some x) : ∃ v, vs[i]? = some v ∧ R v x := h.2 i x hx
theorem M1.of (h : M1 R vs xs) {i : Nat} (hv : vs[i]? = some v) : ∃ x, xs[i]? = some x ∧ R v x := by
  have hi : i < xs.length := by rw [← h.1]; exact (List.getElem?_eq_some_iff.mp hv).1
  obtain ⟨v', e, r⟩ := h.2 i xs[i] (List.getElem?_eq_getElem hi)
  rw [hv] at e
  cases e
  exact ⟨_, List.getElem?_eq_getElem hi, r⟩
theorem M1.append (h : M1 R vs xs) (k : M1 R ws ys) : M1 R (vs ++ ws) (xs ++ ys) := by
  refine ⟨by simp [h.1, k.1], fun i x hx => ?_⟩
  rw [List.getElem?_append] at hx ⊢
  rw [h.1]
  split at hx
  · rename_i hi; rw [if_pos hi]; exact h.2 i x hx
  · rename_i hi; rw [if_neg hi]; exact k.2 _ x hx
theorem M1.one (r : R v x) : M1 R [v] [x] := ⟨rfl, fun i y hy => by
  cases i with
  | zero => simp at hy; subst hy; exact ⟨v, rfl, r⟩
  | succ i => simp at hy⟩
theorem M1.snoc (h : M1 R vs xs) (r : R v x) : M1 R (vs ++ [v]) (xs ++ [x]) := h.append (.one r)
theorem M1.set (h : M1 R vs xs) (i : Nat) (r : R v x) : M1 R (vs.set i v) (xs.set i x) := by
  refine ⟨by simp [h.1], fun j y hy => ?_⟩
  rw [List.getElem?_set] at hy ⊢
  rw [h.1]
  split at hy
  · rename_i e; rw [if_pos e]
    split at hy
    · rename_i e2; cases hy; rw [if_pos e2]; exact ⟨v, rfl, r⟩
    · cases hy
  · rename_i e; rw [if_neg e]; exact h.2 j y hy
theorem M1.drop (h : M1 R vs xs) (n : Nat) : M1 R (vs.drop n) (xs.drop n) := ⟨by simp [h.1], fun i x hx => by rw [List.getElem?_drop] at hx ⊢; exact h.2 _ x hx⟩
theorem M1.take (h : M1 R vs xs) (n : Nat) : M1 R (vs.take n) (xs.take n) := ⟨by simp [h.1], fun i x hx => by
  rw [List.getElem?_take] at hx ⊢
  split at hx
  · rename_i e; rw [if_pos e]; exact h.2 _ x hx
  · cases hx⟩
theorem M1.dropLast (h : M1 R vs xs) : M1 R vs.dropLast xs.dropLast := by
  rw [List.dropLast_eq_take, List.dropLast_eq_take, h.1]; exact h.take _
theorem M1.rep (r : R v x) (n : Nat) : M1 R (List.replicate n v) (List.replicate n x) := ⟨by simp, fun i y hy => by
  rw [List.getElem?_replicate] at hy ⊢
  split at hy
  · rename_i e; cases hy; rw [if_pos e]; exact ⟨v, rfl, r⟩
  · cases hy⟩
end
def nV (x : Nat) : V := .int (x : Nat)
abbrev nVs (l : List Nat) : List V := l.map nV
def R0 (H : Hp) (v : V) (ns : List Nat) : Prop := ∃ a, v = .ref a ∧ H a = some (.tup (nVs ns))
def L1 (H : Hp) (v : V) (L : List (List Nat)) : Prop := ∃ a vs, v = .ref a ∧ H a = some (.tup vs) ∧ M1 (R0 H) vs L
def G6 (H : Hp) (v : V) (p : Nat × Nat) : Prop := ∃ a, v = .ref a ∧ H a = some (.tup [nV p.1, nV p.2])
def Y3 (H : Hp) (v : V) (k : List (List Nat) × List Nat) : Prop := ∃ a x y, v = .ref a ∧ H a = some (.tup [x, y]) ∧ L1 H x k.1 ∧ R0 H y k.2
def G2 {α : Type} (R : Hp → V → α → Prop) (H : Hp) (a : Addr) (xs : List α) : Prop := ∃ vs, H a = some (.lst vs) ∧ M1 (R H) vs xs
def KT (H H' : Hp) : Prop := ∀ a xs, H a = some (.tup xs) → H' a = some (.tup xs)
theorem KT.of {H H' : Hp} (h : x0 H H') : KT H H' := fun a xs e => h a _ e
theorem KT.trans {H H1 H2 : Hp} (a : KT H H1) (b : KT H1 H2) : KT H H2 := fun c xs h => b c xs (a c xs h)
theorem KT.tupN {H H' : Hp} (k : KT H H') {v : V} {ns : List Nat} (h : R0 H v ns) : R0 H' v ns := let ⟨a, e, f⟩ := h; ⟨a, e, k _ _ f⟩
theorem KT.tupP {H H' : Hp} (k : KT H H') {v : V} {p : Nat × Nat} (h : G6 H v p) : G6 H' v p := let ⟨a, e, f⟩ := h; ⟨a, e, k _ _ f⟩
theorem KT.tupL {H H' : Hp} (k : KT H H') {v : V} {L : List (List Nat)} (h : L1 H v L) : L1 H' v L := let ⟨a, vs, e, f, g⟩ := h; ⟨a, vs, e, k _ _ f, g.imp fun _ _ => k.tupN⟩
theorem KT.kept {H H' : Hp} (k : KT H H') {v : V} {p : List (List Nat) × List Nat} (h : Y3 H v p) : Y3 H' v p := let ⟨a, x, y, e, f, g, i⟩ := h; ⟨a, x, y, e, k _ _ f, k.tupL g, k.tupN i⟩
theorem p0 {H : Hp} {a : Addr} (o : HO) (h : H a = Option.none) : x0 H (upd H a o) := fun b u e => by rw [r0 (S0 e h)]; exact e
theorem P2 {H : Hp} {a : Addr} {xs : List V} (o : HO) (h : H a = some (.lst xs)) : KT H (upd H a o) := fun b ys e => by rw [r0 (ne_of e h (by intro z; cases z))]; exact e
theorem R3 {H : Hp} {a C dx : Addr} {fs : List (Str × V)} (o : HO) (h : H a = some (.ins C dx fs)) : KT H (upd H a o) := fun b ys e => by rw [r0 (ne_of e h (by intro z; cases z))]; exact e
theorem R1 {H H' : Hp} {a : Addr} (s : x0 H H') (o : HO) (h : H a = Option.none) : x0 H (upd H' a o) := fun b u e => by rw [r0 (S0 e h)]; exact s b u e
theorem rdT {K : PySem.W.Frag} {H : Hp} {p : Addr} {xs : List V} {i : Nat} {v : V} {Q : VK} (h : H p = some (.tup xs)) (hv : xs[i]? = some v) (q : Q v H) : D4 K (.ref p) (nV i) H Q := ⟨p, xs, _, v, rfl, rfl, SqT.of h, t4 hv, q⟩
theorem rdL {K : PySem.W.Frag} {H : Hp} {p : Addr} {xs : List V} {i : Nat} {v : V} {Q : VK} (h : SqL K H p xs) (hv : xs[i]? = some v) (q : Q v H) : b8 K (.ref p) (nV i) H Q := ⟨p, xs, _, v, rfl, rfl, h, t4 hv, q⟩
theorem T1 {l : List Nat} {i x : Nat} (h : l[i]? = some x) : (nVs l)[i]? = some (nV x) := by rw [List.getElem?_map, h]; rfl
theorem E2 {l : List Nat} {i : Nat} (h : i < l.length) : l[i]? = some (l.getD i 0) := by rw [List.getD_eq_getElem?_getD, List.getElem?_eq_getElem h]; rfl
theorem V3 {L : List (List Nat)} {i : Nat} (h : i < L.length) : L[i]? = some (L.getD i []) := by rw [List.getD_eq_getElem?_getD, List.getElem?_eq_getElem h]; rfl
theorem B8 (l : List Nat) : (nVs l).all d3 = true := List.all_eq_true.mpr fun v hv => by
  obtain ⟨x, _, rfl⟩ := List.mem_map.mp hv
  rfl
theorem U8 (a b : Nat) : eqV (nV a) (nV b) = (a == b) := by
  show (((a : Nat) : Int) == ((b : Nat) : Int)) = (a == b)
  rw [Bool.eq_iff_iff, beq_iff_eq, beq_iff_eq]
  omega
theorem zo3 (x : Nat) (l : List Nat) : inV (nV x) (nVs l) = l.contains x := by
  unfold inV
  rw [List.any_map]
  show l.any (fun y => eqV (nV y) (nV x)) = _
  rw [List.contains_eq_any_beq]
  congr 1
  funext y
  rw [U8, Bool.eq_iff_iff, beq_iff_eq, beq_iff_eq]
  exact eq_comm
theorem a8 {K : PySem.W.Frag} {H : Hp} {p : Addr} {l : List Nat} {x : Nat} {Q : VK} (h : H p = some (.tup (nVs l))) (q : Q (.bl (l.contains x)) H) : rIn K false (nV x) (.ref p) H Q :=
  ⟨p, nVs l, rfl, .inr (SqT.of h), rfl, B8 l, by
    rw [zo3]
    exact q⟩
theorem zm0 (a b : Nat) : decide (nV a = nV b) = decide (a = b) := by
  by_cases h : a = b
  · subst h; simp
  · have : nV a ≠ nV b := fun e => h (by unfold nV at e; injection e with e; omega)
    rw [decide_eq_false this, decide_eq_false h]
theorem C3 {H : Hp} {a b : Nat} {Q : VK} (q : Q (.bl (decide (a = b))) H) : rEq (nV a) (nV b) H Q := ⟨rfl, by rw [zm0]; exact q⟩
theorem i6 {H : Hp} {a b : Nat} {Q : VK} (q : Q (.bl (!decide (a = b))) H) : rNe (nV a) (nV b) H Q := ⟨rfl, by rw [zm0]; exact q⟩
theorem R6 {H : Hp} {a b : Nat} {Q : VK} (q : Q (.bl (decide (a < b))) H) : rI0 (fun i j => .bl (decide (i < j))) (nV a) (nV b) H Q := ⟨_, _, rfl, rfl, by
  have e : decide (((a : Nat) : Int) < ((b : Nat) : Int)) = decide (a < b) := decide_eq_decide.mpr (by omega)
  dsimp only; rw [e]; exact q⟩
theorem S6 {H : Hp} {a b : Nat} {Q : VK} (q : Q (.bl (decide (b ≤ a))) H) : rI0 (fun i j => .bl (decide (j ≤ i))) (nV a) (nV b) H Q := ⟨_, _, rfl, rfl, by
  have e : decide (((b : Nat) : Int) ≤ ((a : Nat) : Int)) = decide (b ≤ a) := decide_eq_decide.mpr (by omega)
  dsimp only; rw [e]; exact q⟩
theorem zP8 {K : PySem.W.Frag} {H : Hp} {p : Addr} {l : List Nat} {x : Nat} {Q : VK} (h : H p = some (.tup (nVs l))) (hx : l.contains x = true) (q : Q (nV (l.findIdx fun y => y == x)) H) : zh3 K (.ref p) [nV x] H Q := by
  have hm : x ∈ l := by simpa using hx
  have hl : (l.findIdx fun y => y == x) < l.length := List.findIdx_lt_length.mpr ⟨x, hm, by simp⟩
  have he : (l[l.findIdx fun y => y == x] == x) = true := List.findIdx_getElem (w := hl)
  refine ⟨p, nVs l, nV x, l.findIdx fun y => y == x, nV l[l.findIdx fun y => y == x], rfl, rfl, SqT.of h, rfl, B8 l, T1 (List.getElem?_eq_getElem hl), by rw [U8]; exact he, fun m z hm hz => ?_, q⟩
  rw [List.getElem?_map] at hz
  have hm' : m < l.length := by omega
  rw [List.getElem?_eq_getElem hm'] at hz
  cases hz
  rw [U8]
  simpa using List.not_of_lt_findIdx hm
theorem zP6 {K : PySem.W.Frag} {H : Hp} {p : Addr} {xs : List V} {Q : VK} (h : H p = some (.tup xs)) (q : Q (nV xs.length) H) : zh2 K [.ref p] H Q := ⟨p, xs, rfl, .inr (SqT.of h), q⟩
theorem zo1 {n i : Nat} (h : i < n) : ixN n ((i : Nat) : Int) = some i := by
  unfold ixN
  rw [if_pos (by omega), if_pos (by omega)]
  simp
theorem C4 {H : Hp} {p : Addr} {xs : List V} {i : Nat} {v : V} {Q : Hp → Prop} (h : H p = some (.lst xs)) (hi : i < xs.length) (q : Q (upd H p (.lst (xs.set i v)))) : rSetL (.ref p) (nV i) v H Q := ⟨p, xs, _, i, rfl, rfl, h, zo1 hi, q⟩
theorem a5 (l : List Nat) (i x : Nat) : (nVs l).set i (nV x) = nVs (l.set i x) := by rw [← List.map_set]
def J1 (l m q u : V) : List (Str × V) := [("lists", l), ("mates", m), ("past", q), ("undone", u)]
def kept (s : House) : List (List Nat) × List Nat := (s.wish, mOf s.many s.paired)
structure StAt (C : Addr) (H : Hp) (p q u : Addr) (d : Desk) : Prop where
  ins : ∃ dx l m, H p = some (.ins C dx (J1 l m (.ref q) (.ref u))) ∧ L1 H l d.now.wish ∧ R0 H m (mOf d.now.many d.now.paired)
  past : G2 Y3 H q (d.past.reverse.map kept)
  und : G2 Y3 H u (d.future.reverse.map kept)
  ne : q ≠ u
def i3 (H H' : Hp) (p q u : Addr) : Prop := ∀ b o, H b = some o → b ≠ p → b ≠ q → b ≠ u → H' b = some o
theorem StAt.same {C : Addr} {H H' : Hp} {p q u : Addr} {d : Desk} (h : StAt C H p q u d) (s : x0 H H') : StAt C H' p q u d := by
  obtain ⟨dx, l, m, e, tl, tm⟩ := h.ins
  obtain ⟨vs, e1, k1⟩ := h.past
  obtain ⟨ws, e2, k2⟩ := h.und
  have kt := KT.of s
  exact ⟨⟨dx, l, m, s _ _ e, kt.tupL tl, kt.tupN tm⟩, ⟨vs, s _ _ e1, k1.imp fun _ _ => kt.kept⟩, ⟨ws, s _ _ e2, k2.imp fun _ _ => kt.kept⟩, h.ne⟩
theorem StAt.other {C : Addr} {H : Hp} {p q u : Addr} {d : Desk} (h : StAt C H p q u d) {a : Addr} (o : HO) {xs : List V} (ha : H a = some (.lst xs)) (n2 : a ≠ q) (n3 : a ≠ u) : StAt C (upd H a o) p q u d := by
  obtain ⟨dx, l, m, e, tl, tm⟩ := h.ins
  obtain ⟨vs, e1, k1⟩ := h.past
  obtain ⟨ws, e2, k2⟩ := h.und
  have kt := P2 o ha
  have n1 : p ≠ a := ne_of e ha (by intro z; cases z)
  exact ⟨⟨dx, l, m, by rw [r0 n1]; exact e, kt.tupL tl, kt.tupN tm⟩, ⟨vs, by rw [r0 (Ne.symm n2)]; exact e1, k1.imp fun _ _ => kt.kept⟩, ⟨ws, by rw [r0 (Ne.symm n3)]; exact e2, k2.imp fun _ _ => kt.kept⟩, h.ne⟩
def Gr (o : HO) (x : Option HO) : Prop := x = some o ∨ ∃ ps ps', o = .tbl ps ∧ x = some (.tbl ps')
def WF (H H' : Hp) (p q u : Addr) : Prop := ∀ b o, H b = some o → b ≠ p → b ≠ q → b ≠ u → Gr o (H' b)
def WS (H H' : Hp) : Prop := ∀ b o, H b = some o → Gr o (H' b)
def U2 (H : Hp) : Prop := (∃ ps, TabIs H A5 qc4 qc2 ps) ∧ ∃ ps, TabIs H B5 qc5 qc3 ps
def y4 (H H' : Hp) : Prop := U2 H → U2 H'
theorem Gr.plain {o : HO} {x : Option HO} (h : Gr o x) (n : ∀ ps, o ≠ .tbl ps) : x = some o := h.elim id fun ⟨ps, _, e, _⟩ => absurd e (n ps)
theorem Gr.some {o : HO} {x : Option HO} (h : Gr o x) : x ≠ none := by
  rcases h with e | ⟨_, _, _, e⟩ <;> rw [e] <;> simp
theorem WS.of {H H' : Hp} (s : x0 H H') : WS H H' := fun b o e => .inl (s b o e)
theorem WS.free {H H' : Hp} (s : WS H H') {b : Addr} (h : H' b = Option.none) : H b = Option.none := by
  cases q : H b with
  | none => rfl
  | some o => exact absurd h (s b o q).some
theorem WS.same {H H1 H2 : Hp} (a : WS H H1) (b : x0 H1 H2) : WS H H2 := fun c o e => (a c o e).elim (fun z => .inl (b _ _ z)) fun ⟨ps, ps', h1, h2⟩ => .inr ⟨ps, ps', h1, b _ _ h2⟩
theorem WS.seq {K : PySem.W.Frag} {H H' : Hp} {a : Addr} {xs : List V} (e : WS H H') (h : SqL K H a xs) : SqL K H' a xs := by
  rcases h with (h | ⟨o, h⟩) | h
  · exact .inl (.inl ((e _ _ h).plain (by intro ps z; cases z)))
  · exact .inl (.inr ⟨o, (e _ _ h).plain (by intro ps z; cases z)⟩)
  · exact .inr h
theorem z5 {H H' : Hp} {P : Addr} {pos : Pos} {qual : Str} {ps : Array Value} (t : TabIs H P pos qual ps) (s : x0 H H') : TabIs H' P pos qual ps := ⟨s _ _ t.at_, t.ok, t.code.imp id fun ⟨c, h1, h2⟩ => ⟨c, h1, s _ _ h2⟩⟩
theorem U2.same {H H' : Hp} (t : U2 H) (s : x0 H H') : U2 H' := let ⟨⟨p1, t1⟩, p2, t2⟩ := t; ⟨⟨p1, z5 t1 s⟩, p2, z5 t2 s⟩
theorem y4.of {H H' : Hp} (s : x0 H H') : y4 H H' := fun t => t.same s
theorem y4.trans {H H1 H2 : Hp} (a : y4 H H1) (b : y4 H1 H2) : y4 H H2 := fun t => b (a t)
theorem v9 {H H' : Hp} {p q u C dx : Addr} {fs : List (Str × V)} {xs ys : List V} (fr : i3 H H' p q u) (hp : H p = some (.ins C dx fs)) (hq : H q = some (.lst xs)) (hu : H u = some (.lst ys)) {P : Addr} {pos : Pos} {qual : Str} {ps : Array Value} (t : TabIs H P pos qual ps) : TabIs H' P pos qual ps :=
  ⟨fr _ _ t.at_ (ne_of t.at_ hp (by intro z; cases z)) (ne_of t.at_ hq (by intro z; cases z)) (ne_of t.at_ hu (by intro z; cases z)), t.ok,
    t.code.imp id fun ⟨c, h1, h2⟩ => ⟨c, h1, fr _ _ h2 (ne_of h2 hp (by intro z; cases z)) (ne_of h2 hq (by intro z; cases z)) (ne_of h2 hu (by intro z; cases z))⟩⟩
theorem y4.frame {H H' : Hp} {p q u C dx : Addr} {fs : List (Str × V)} {xs ys : List V} (fr : i3 H H' p q u) (hp : H p = some (.ins C dx fs)) (hq : H q = some (.lst xs)) (hu : H u = some (.lst ys)) : y4 H H' :=
  fun ⟨⟨p1, t1⟩, p2, t2⟩ => ⟨⟨p1, v9 fr hp hq hu t1⟩, p2, v9 fr hp hq hu t2⟩
theorem t9 {H : Hp} {P a : Addr} {pos : Pos} {qual : Str} {ps : Array Value} {xs : List V} (t : TabIs H P pos qual ps) (ha : H a = some (.lst xs)) (o : HO) : TabIs (L2.upd H a o) P pos qual ps :=
  ⟨by rw [r0 (ne_of t.at_ ha (by intro z; cases z))]; exact t.at_, t.ok, t.code.imp id fun ⟨c, h1, h2⟩ => ⟨c, h1, by rw [r0 (ne_of h2 ha (by intro z; cases z))]; exact h2⟩⟩
theorem U2.lst {H : Hp} {a : Addr} {xs : List V} (t : U2 H) (ha : H a = some (.lst xs)) (o : HO) : U2 (L2.upd H a o) := let ⟨⟨p1, t1⟩, p2, t2⟩ := t; ⟨⟨p1, t9 t1 ha o⟩, p2, t9 t2 ha o⟩
theorem u9 {H H' : Hp} {P0 P : Addr} {pos : Pos} {qual : Str} {ps ps0 : Array Value} (t : TabIs H P pos qual ps) (h0 : H P0 = some (.tbl ps0)) (ne : P ≠ P0) (kp : ∀ b o, H b = some o → b ≠ P0 → H' b = some o) : TabIs H' P pos qual ps :=
  ⟨kp _ _ t.at_ ne, t.ok, t.code.imp id fun ⟨c, h1, h2⟩ => ⟨c, h1, kp _ _ h2 (ne_of h2 h0 (by intro z; cases z))⟩⟩
def Y0 (C : Addr) (H : Hp) (p q u : Addr) (d : Desk) (c : Km464.Call) (Q : VK) : Prop := ∀ (H' : Hp) (r q' u' : Addr), H' r = some (.lst ((Km464Neutral.told (Km464.act d c).2).map V.int)) → (∀ b o, H b = some o → b ≠ p → b ≠ q → b ≠ u → r ≠ b) → StAt C H' p q' u' (Km464.act d c).1 → WF H H' p q u → y4 H H' →
  (q' = q ∨ H q' = Option.none) → (u' = u ∨ H u' = Option.none) → r ≠ q' → r ≠ u' → Q (.ref r) H'
theorem zv4 (v : Int) (out : List Nat) : (Km464Neutral.told ⟨v, out⟩).map V.int = V.int v :: nVs out := by
  show V.int v :: (Km464Neutral.nums out).map V.int = _
  unfold Km464Neutral.nums
  rw [List.map_map]
  rfl
theorem Y0.finT {C : Addr} {H : Hp} {p q u : Addr} {d : Desk} {c : Km464.Call} {Q : VK} (h : Y0 C H p q u d c Q) {d' : Desk} {v : Int} {out : List Nat} (e : Km464.act d c = (d', ⟨v, out⟩)) {H' : Hp} {q' u' r : Addr} (st : StAt C H' p q' u' d') (fr : WF H H' p q u) (tk : y4 H H')
    (hq : q' = q ∨ H q' = Option.none) (hu : u' = u ∨ H u' = Option.none) {xs : List V} (hx : xs = V.int v :: nVs out) {H2 : Hp} (s2 : x0 H' H2) (hr : H' r = Option.none) (h2 : H2 r = some (.lst xs)) : Q (.ref r) H2 := by
  obtain ⟨vs, e1, _⟩ := st.past
  obtain ⟨ws, e2, _⟩ := st.und
  refine h H2 r q' u' (by rw [e, zv4, ← hx]; exact h2) (fun b o hb h1 h2 h3 z => ?_) (by rw [e]; exact st.same s2) (fun b o hb h1 h2 h3 => (fr b o hb h1 h2 h3).elim (fun z => .inl (s2 _ _ z)) fun ⟨ps, ps', a1, a2⟩ => .inr ⟨ps, ps', a1, s2 _ _ a2⟩) (tk.trans (.of s2)) hq hu (fun z => ?_) (fun z => ?_)
  · have y := fr b o hb h1 h2 h3
    rw [← z, hr] at y
    exact y.some rfl
  · rw [← z, hr] at e1; cases e1
  · rw [← z, hr] at e2; cases e2
theorem Y0.fin {C : Addr} {H : Hp} {p q u : Addr} {d : Desk} {c : Km464.Call} {Q : VK} (h : Y0 C H p q u d c Q) (st0 : StAt C H p q u d) {d' : Desk} {v : Int} {out : List Nat} (e : Km464.act d c = (d', ⟨v, out⟩)) {H' : Hp} {q' u' r : Addr} (st : StAt C H' p q' u' d') (fr : i3 H H' p q u)
    (hq : q' = q ∨ H q' = Option.none) (hu : u' = u ∨ H u' = Option.none) {xs : List V} (hx : xs = V.int v :: nVs out) {H2 : Hp} (s2 : x0 H' H2) (hr : H' r = Option.none) (h2 : H2 r = some (.lst xs)) : Q (.ref r) H2 := by
  obtain ⟨dx, l, m, hp, _, _⟩ := st0.ins
  obtain ⟨vs, hq0, _⟩ := st0.past
  obtain ⟨ws, hu0, _⟩ := st0.und
  exact h.finT e st (fun b o hb h1 h2 h3 => .inl (fr b o hb h1 h2 h3)) (.frame fr hp hq0 hu0) hq hu hx s2 hr h2
theorem Y0.read {C : Addr} {H : Hp} {p q u : Addr} {d : Desk} {c : Km464.Call} {Q : VK} (h : Y0 C H p q u d c Q) (st : StAt C H p q u d) {v : Int} {out : List Nat} (e : Km464.act d c = (d, ⟨v, out⟩)) {H' : Hp} {r : Addr} {xs : List V} (hx : xs = V.int v :: nVs out)
    (s : x0 H H') (hr : H r = Option.none) (h2 : H' r = some (.lst xs)) : Q (.ref r) H' := h.fin st e st (fun _ _ e _ _ _ => e) (.inl rfl) (.inl rfl) hx s hr h2
theorem Y0.ref {C : Addr} {H : Hp} {p q u : Addr} {d : Desk} {c : Km464.Call} {Q : VK} (h : Y0 C H p q u d c Q) (st : StAt C H p q u d) {v : Int} (e : Km464.act d c = (d, Km464.only v)) {r : Addr} (hr : H r = Option.none) : Q (.ref r) (upd H r (.lst [.int v])) :=
  h.read st e rfl (p0 _ hr) hr i0
end Pl
end
section
set_option Elab.async false
set_option linter.all false
set_option maxRecDepth 100000
set_option maxHeartbeats 2000000
namespace Pl
open PySem PySem.Spec PyProof.Rows L2 PM
def top (i : Nat) : Stmt := PySem.Challenge.pw_pairsthathold_s01_answers.main.body.getD i (.Pass ⟨0, 0, 0, 0⟩)
abbrev zf8 : Stmt := i5 (top 4) 0
abbrev zg2 : Stmt := i5 (top 4) 1
abbrev zf9 : Stmt := i5 (top 4) 2
abbrev zg1 : Stmt := i5 (top 4) 3
abbrev zf6 : Stmt := i5 (top 4) 4
abbrev zg0 : Stmt := i5 (top 4) 5
abbrev zf7 : Stmt := i5 (top 4) 6
abbrev N9 : Stmt := top 6
abbrev Y9 : Stmt := top 7
abbrev X9 : Stmt := top 8
abbrev ze1 : Stmt := top 9
abbrev P9 : Stmt := top 10
abbrev Q9 : Stmt := top 11
abbrev ze6 : Stmt := top 12
abbrev zb1 : Stmt := top 13
abbrev Z9 : Stmt := top 14
abbrev za0 : Stmt := top 15
abbrev S9 : Stmt := top 16
abbrev zf5 : Stmt := top 17
abbrev ze2 : Stmt := top 18
abbrev zf4 : Stmt := top 19
abbrev za1 : Stmt := top 20
abbrev V9 : Stmt := top 21
abbrev zb9 : Stmt := top 29
abbrev ze7 : Stmt := top 30
abbrev R9 : Stmt := top 31
abbrev zb6 : Stmt := top 32
abbrev zb7 : Stmt := top 33
abbrev zc5 : Stmt := top 34
abbrev zc4 : Stmt := top 35
abbrev zd5 : Stmt := top 36
abbrev zd9 : Stmt := top 37
abbrev zd7 : Stmt := top 39
abbrev ze0 : Stmt := top 40
abbrev zb8 : Stmt := top 41
abbrev T9 : Stmt := top 43
abbrev U9 : Stmt := top 44
abbrev zc9 : Stmt := top 46
abbrev zd4 : Stmt := top 47
abbrev zb2 : Stmt := top 48
abbrev zd0 : Stmt := top 49
abbrev zc7 : Stmt := top 50
abbrev U7 : Stmt := top 51
abbrev zd6 : Stmt := top 52
abbrev zb3 : Stmt := top 53
abbrev zd8 : Stmt := top 54
abbrev zd3 : Stmt := top 55
abbrev zb0 : Stmt := top 56
abbrev V7 : Stmt := top 57
abbrev zc3 : Stmt := top 59
abbrev zd2 : Stmt := top 60
abbrev zb5 : Stmt := top 61
abbrev zc0 : Stmt := top 62
abbrev zd1 : Stmt := top 63
abbrev zc8 : Stmt := top 64
abbrev za5 : Stmt := top 66
abbrev za7 : Stmt := top 67
abbrev O9 : Stmt := top 68
abbrev za3 : Stmt := top 69
abbrev ze4 : Stmt := top 70
abbrev ze3 : Stmt := top 71
abbrev W9 : Stmt := top 72
abbrev za9 : Stmt := top 73
abbrev za8 : Stmt := top 74
abbrev za2 : Stmt := top 75
abbrev zc1 : Stmt := top 77
abbrev zc2 : Stmt := top 78
abbrev zc6 : Stmt := top 79
abbrev za6 : Stmt := top 80
abbrev za4 : Stmt := top 81
abbrev zb4 : Stmt := top 82
abbrev ze5 : Stmt := top 90
abbrev zf2 : Stmt := top 91
abbrev zf0 : Stmt := top 92
abbrev ze8 : Stmt := top 93
abbrev ze9 : Stmt := top 94
abbrev zf1 : Stmt := top 95
abbrev zf3 : Stmt := top 96
abbrev W7 : Stmt := top 97
def scC (N P : List Str) (sc : Scope) : Bool := (match sc.kind with | .function => true | _ => false) && (!sc.isCoroutine && (!sc.isGenerator && (decide N.Nodup && (decide (N.take P.length = P) && (P.all (fun x => decide (sc.names.lookup x = some .local ∨ sc.names.lookup x = some .cell)) && sc.names.all fun y => decide (y.2 ≠ .free))))))
theorem D0 {N P : List Str} {sc : Scope} (h : scC N P sc = true) : FnScope N P sc := by
  unfold scC at h
  simp only [Bool.and_eq_true, Bool.not_eq_true', decide_eq_true_eq, List.all_eq_true] at h
  obtain ⟨h1, h2, h3, h4, h5, h6, h7⟩ := h
  refine ⟨?_, h2, h3, h4, h5, h6, h7⟩
  cases q : sc.kind <;> rw [q] at h1 <;> first | rfl | cases h1
theorem zO1 : FnScope ["self"] ["self"] (v0 zf8) := D0 (by decide +kernel)
theorem zO5 : FnScope ["self", "n"] ["self", "n"] (v0 zg2) := D0 (by decide +kernel)
theorem zO2 : FnScope ["self", "a"] ["self", "a"] (v0 zf9) := D0 (by decide +kernel)
theorem zO4 : FnScope ["self", "lists", "mates"] ["self", "lists", "mates"] (v0 zg1) := D0 (by decide +kernel)
theorem zN9 : FnScope ["self"] ["self"] (v0 zf6) := D0 (by decide +kernel)
theorem zO3 : FnScope ["self"] ["self"] (v0 zg0) := D0 (by decide +kernel)
theorem zO0 : FnScope ["self", "kept"] ["self", "kept"] (v0 zf7) := D0 (by decide +kernel)
theorem zG7 : FnScope ["lists", "a", "b"] ["lists", "a", "b"] (v0 N9) := D0 (by decide +kernel)
theorem zH9 : FnScope ["lists", "a", "b"] ["lists", "a", "b"] (v0 Y9) := D0 (by decide +kernel)
theorem zH8 : FnScope ["lists", "mates", "a"] ["lists", "mates"] (v0 X9) := D0 (by decide +kernel)
theorem zM3 : FnScope ["places"] ["places"] (v0 ze1) := D0 (by decide +kernel)
theorem zG9 : FnScope ["lists", "mates", "a", "b"] ["lists", "mates", "a", "b"] (v0 P9) := D0 (by decide +kernel)
theorem zH0 : FnScope ["lists", "mates", "a", "b"] ["lists", "mates", "a", "b"] (v0 Q9) := D0 (by decide +kernel)
theorem zM8 : FnScope ["lists", "mates", "twos", "a", "b"] ["lists", "mates"] (v0 ze6) := D0 (by decide +kernel)
theorem zJ2 : FnScope ["lists", "mates", "a", "b"] ["lists", "mates"] (v0 zb1) := D0 (by decide +kernel)
theorem zI0 : FnScope ["mates", "a", "after"] ["mates", "a"] (v0 Z9) := D0 (by decide +kernel)
theorem zI1 : FnScope ["mates", "a", "b", "after"] ["mates", "a", "b"] (v0 za0) := D0 (by decide +kernel)
theorem zH2 : FnScope ["lists", "pairings", "a", "longer", "mates", "b"] ["lists", "pairings", "a"] (v0 S9) := D0 (by decide +kernel)
theorem zN8 : FnScope ["lists", "pairings", "a"] ["lists"] (v0 zf5) := D0 (by decide +kernel)
theorem zM4 : FnScope ["lists", "mates"] ["lists"] (v0 ze2) := D0 (by decide +kernel)
theorem zN7 : FnScope ["mates", "a"] ["mates"] (v0 zf4) := D0 (by decide +kernel)
theorem zI2 : FnScope ["mates", "a"] ["mates"] (v0 za1) := D0 (by decide +kernel)
theorem zH6 : FnScope ["mates", "row", "a"] ["mates"] (v0 V9) := D0 (by decide +kernel)
theorem zK0 : FnScope ["students", "n"] ["students", "n"] (v0 zb9) := D0 (by decide +kernel)
theorem zM9 : FnScope ["students", "a", "wished", "b"] ["students", "a", "wished"] (v0 ze7) := D0 (by decide +kernel)
theorem zH1 : FnScope ["lists", "a", "wished", "after"] ["lists", "a", "wished"] (v0 R9) := D0 (by decide +kernel)
theorem zJ7 : FnScope ["students", "a", "n", "row", "before", "lists", "mates"] ["students", "a", "n", "row"] (v0 zb6) := D0 (by decide +kernel)
theorem zJ8 : FnScope ["students", "a", "i", "j", "wished", "at_i", "at_j"] ["students", "a", "i", "j"] (v0 zb7) := D0 (by decide +kernel)
theorem zK6 : FnScope ["students", "a", "b", "mates"] ["students", "a", "b"] (v0 zc5) := D0 (by decide +kernel)
theorem zK5 : FnScope ["students", "a", "had"] ["students", "a"] (v0 zc4) := D0 (by decide +kernel)
theorem zL7 : FnScope ["students", "a", "b", "mates"] ["students", "a", "b"] (v0 zd5) := D0 (by decide +kernel)
theorem zM1 : FnScope ["students", "good"] ["students"] (v0 zd9) := D0 (by decide +kernel)
theorem zL9 : FnScope ["students"] ["students"] (v0 zd7) := D0 (by decide +kernel)
theorem zM2 : FnScope ["students"] ["students"] (v0 ze0) := D0 (by decide +kernel)
theorem zJ9 : FnScope ["students"] ["students"] (v0 zb8) := D0 (by decide +kernel)
theorem zH4 : FnScope ["members", "a"] ["members"] (v0 T9) := D0 (by decide +kernel)
theorem zH5 : FnScope ["members", "length", "a"] ["members", "length"] (v0 U9) := D0 (by decide +kernel)
theorem zL0 : FnScope ["students"] ["students"] (v0 zc9) := D0 (by decide +kernel)
theorem zL6 : FnScope ["students", "twos"] ["students"] (v0 zd4) := D0 (by decide +kernel)
theorem zJ3 : FnScope ["students", "a", "b"] ["students", "a", "b"] (v0 zb2) := D0 (by decide +kernel)
theorem zL1 : FnScope ["students"] ["students"] (v0 zd0) := D0 (by decide +kernel)
theorem zK8 : FnScope ["students", "k", "good"] ["students", "k"] (v0 zc7) := D0 (by decide +kernel)
theorem zH3 : FnScope ["students", "a", "at", "whom", "mates"] ["students", "a", "at"] (v0 U7) := D0 (by decide +kernel)
theorem zL8 : FnScope ["students", "a"] ["students", "a"] (v0 zd6) := D0 (by decide +kernel)
theorem zJ4 : FnScope ["students", "a"] ["students", "a"] (v0 zb3) := D0 (by decide +kernel)
theorem zM0 : FnScope ["students", "good"] ["students"] (v0 zd8) := D0 (by decide +kernel)
theorem zL5 : FnScope ["students", "a", "b", "mates"] ["students", "a", "b"] (v0 zd3) := D0 (by decide +kernel)
theorem zJ1 : FnScope ["lists", "mates", "places"] ["lists", "mates"] (v0 zb0) := D0 (by decide +kernel)
theorem zL4 : FnScope ["students", "good", "fairest"] ["students"] (v0 V7) := D0 (by decide +kernel)
theorem zK4 : FnScope ["students", "a", "b"] ["students", "a", "b"] (v0 zc3) := D0 (by decide +kernel)
theorem zL3 : FnScope ["students", "a", "b"] ["students", "a"] (v0 zd2) := D0 (by decide +kernel)
theorem zJ6 : FnScope ["students", "a", "mate"] ["students", "a"] (v0 zb5) := D0 (by decide +kernel)
theorem zK1 : FnScope ["students"] ["students"] (v0 zc0) := D0 (by decide +kernel)
theorem zL2 : FnScope ["students", "places"] ["students"] (v0 zd1) := D0 (by decide +kernel)
theorem zK9 : FnScope ["students", "a", "wished"] ["students", "a"] (v0 zc8) := D0 (by decide +kernel)
theorem zI6 : FnScope ["n", "rings", "before", "a"] ["n", "rings"] (v0 za5) := D0 (by decide +kernel)
theorem zI8 : FnScope ["lists", "rings", "before", "a"] ["lists", "rings", "before", "a"] (v0 za7) := D0 (by decide +kernel)
theorem zG8 : FnScope ["lists", "before", "b", "c"] ["lists", "before", "b"] (v0 O9) := D0 (by decide +kernel)
theorem zI4 : FnScope ["lists", "rings", "a", "b", "before"] ["lists", "rings"] (v0 za3) := D0 (by decide +kernel)
theorem zM6 : FnScope ["lists", "rings", "b", "longer", "found"] ["lists", "rings"] (v0 ze4) := D0 (by decide +kernel)
theorem zM5 : FnScope ["lists"] ["lists"] (v0 ze3) := D0 (by decide +kernel)
theorem zH7 : FnScope ["rings", "a", "ring"] ["rings", "a"] (v0 W9) := D0 (by decide +kernel)
theorem zJ0 : FnScope ["rings", "a", "many"] ["rings", "a"] (v0 za9) := D0 (by decide +kernel)
theorem zI9 : FnScope ["rings", "a"] ["rings"] (v0 za8) := D0 (by decide +kernel)
theorem zI3 : FnScope ["rings", "a"] ["rings"] (v0 za2) := D0 (by decide +kernel)
theorem zK2 : FnScope ["students", "rings"] ["students"] (v0 zc1) := D0 (by decide +kernel)
theorem zK3 : FnScope ["students", "a", "ring"] ["students", "a"] (v0 zc2) := D0 (by decide +kernel)
theorem zK7 : FnScope ["students"] ["students"] (v0 zc6) := D0 (by decide +kernel)
theorem zI7 : FnScope ["w", "a"] ["w", "a"] (v0 za6) := D0 (by decide +kernel)
theorem zI5 : FnScope ["lists", "w", "left", "a", "b"] ["lists", "w"] (v0 za4) := D0 (by decide +kernel)
theorem zJ5 : FnScope ["students", "w", "lists", "odd"] ["students", "w"] (v0 zb4) := D0 (by decide +kernel)
theorem zM7 : FnScope ["calls", "at", "end"] ["calls", "at"] (v0 ze5) := D0 (by decide +kernel)
theorem zN5 : FnScope ["students", "call", "given"] ["students", "call", "given"] (v0 zf2) := D0 (by decide +kernel)
theorem zN3 : FnScope ["students", "call", "given"] ["students", "call", "given"] (v0 zf0) := D0 (by decide +kernel)
theorem zN1 : FnScope ["students", "call", "given"] ["students", "call", "given"] (v0 ze8) := D0 (by decide +kernel)
theorem zN2 : FnScope ["students", "call", "given"] ["students", "call", "given"] (v0 ze9) := D0 (by decide +kernel)
theorem zN4 : FnScope ["students", "call"] ["students", "call"] (v0 zf1) := D0 (by decide +kernel)
theorem zN6 : FnScope ["students", "call", "given"] ["students", "call", "given"] (v0 zf3) := D0 (by decide +kernel)
theorem zN0 : FnScope ["calls", "students", "told", "at", "end", "numbers"] ["calls"] (v0 W7) := D0 (by decide +kernel)
structure Ad where
  C_Students : Addr
  a_PLAIN_NUMBERS : Addr
  f_Students_init : Addr
  d_Students_init : FuncData
  f_Students_begin : Addr
  d_Students_begin : FuncData
  f_Students_has : Addr
  d_Students_has : FuncData
  f_Students_change : Addr
  d_Students_change : FuncData
  f_Students_take_back : Addr
  d_Students_take_back : FuncData
  f_Students_do_again : Addr
  d_Students_do_again : FuncData
  f_Students_put : Addr
  d_Students_put : FuncData
  f_would_share : Addr
  d_would_share : FuncData
  f_place : Addr
  d_place : FuncData
  f_places_had : Addr
  d_places_had : FuncData
  f_greatest_of : Addr
  d_greatest_of : FuncData
  f_would_leave : Addr
  d_would_leave : FuncData
  f_would_break : Addr
  d_would_break : FuncData
  f_breakers : Addr
  d_breakers : FuncData
  f_holds : Addr
  d_holds : FuncData
  f_parted : Addr
  d_parted : FuncData
  f_paired : Addr
  d_paired : FuncData
  f_with_choices : Addr
  d_with_choices : FuncData
  f_all_pairings : Addr
  d_all_pairings : FuncData
  f_good_pairings : Addr
  d_good_pairings : FuncData
  f_alone_ones : Addr
  d_alone_ones : FuncData
  f_pair_count : Addr
  d_pair_count : FuncData
  f_told_pairing : Addr
  d_told_pairing : FuncData
  f_ho_start : Addr
  d_ho_start : FuncData
  f_are_others : Addr
  d_are_others : FuncData
  f_with_list : Addr
  d_with_list : FuncData
  f_ho_wish : Addr
  d_ho_wish : FuncData
  f_ho_swap : Addr
  d_ho_swap : FuncData
  f_ho_pair : Addr
  d_ho_pair : FuncData
  f_ho_part : Addr
  d_ho_part : FuncData
  f_ho_break : Addr
  d_ho_break : FuncData
  f_ho_all : Addr
  d_ho_all : FuncData
  f_ho_back : Addr
  d_ho_back : FuncData
  f_ho_again : Addr
  d_ho_again : FuncData
  f_ho_state : Addr
  d_ho_state : FuncData
  f_told_set : Addr
  d_told_set : FuncData
  f_told_row : Addr
  d_told_row : FuncData
  f_ho_holds : Addr
  d_ho_holds : FuncData
  f_ho_breakers : Addr
  d_ho_breakers : FuncData
  f_ho_would : Addr
  d_ho_would : FuncData
  f_ho_good : Addr
  d_ho_good : FuncData
  f_ho_nth : Addr
  d_ho_nth : FuncData
  f_whom_by_place : Addr
  d_whom_by_place : FuncData
  f_ho_best : Addr
  d_ho_best : FuncData
  f_ho_worst : Addr
  d_ho_worst : FuncData
  f_ho_alone : Addr
  d_ho_alone : FuncData
  f_ho_ever : Addr
  d_ho_ever : FuncData
  f_how_fair : Addr
  d_how_fair : FuncData
  f_ho_fairest : Addr
  d_ho_fairest : FuncData
  f_ho_place : Addr
  d_ho_place : FuncData
  f_ho_friends : Addr
  d_ho_friends : FuncData
  f_ho_with : Addr
  d_ho_with : FuncData
  f_ho_single : Addr
  d_ho_single : FuncData
  f_ho_glad : Addr
  d_ho_glad : FuncData
  f_ho_look : Addr
  d_ho_look : FuncData
  f_known_before : Addr
  d_known_before : FuncData
  f_in_order : Addr
  d_in_order : FuncData
  f_would_leave_before : Addr
  d_would_leave_before : FuncData
  f_may_hold : Addr
  d_may_hold : FuncData
  f_first_beginning : Addr
  d_first_beginning : FuncData
  f_first_rings : Addr
  d_first_rings : FuncData
  f_ring_from : Addr
  d_ring_from : FuncData
  f_in_odd_ring : Addr
  d_in_odd_ring : FuncData
  f_in_odd_rings : Addr
  d_in_odd_rings : FuncData
  f_odd_ring_count : Addr
  d_odd_ring_count : FuncData
  f_ho_rings : Addr
  d_ho_rings : FuncData
  f_ho_ring : Addr
  d_ho_ring : FuncData
  f_ho_odds : Addr
  d_ho_odds : FuncData
  f_is_in : Addr
  d_is_in : FuncData
  f_lists_without : Addr
  d_lists_without : FuncData
  f_ho_without : Addr
  d_ho_without : FuncData
  f_call_end : Addr
  d_call_end : FuncData
  f_answer_changing : Addr
  d_answer_changing : FuncData
  f_answer_holding : Addr
  d_answer_holding : FuncData
  f_answer_ringing : Addr
  d_answer_ringing : FuncData
  f_answer_looking : Addr
  d_answer_looking : FuncData
  f_answer_going_back : Addr
  d_answer_going_back : FuncData
  f_answer : Addr
  d_answer : FuncData
  f_answers : Addr
  d_answers : FuncData
  k_whom_by_place : Addr
  k_ho_fairest : Addr
structure Txt (K : PySem.W.Frag) (mg : Str → Option Value) (base : Heap) (A : Ad) : Prop where
  cl_Students : Cls K A.C_Students
  m_Students : mg "Students" = some (.ref A.C_Students)
  mk_Students : Mk K A.C_Students A.f_Students_init
  n_lists : X3 K A.C_Students "lists"
  n_mates : X3 K A.C_Students "mates"
  n_past : X3 K A.C_Students "past"
  n_undone : X3 K A.C_Students "undone"
  len : mg "len" = none
  range : mg "range" = none
  tuple : mg "tuple" = none
  list : mg "list" = none
  sum : mg "sum" = none
  sorted : mg "sorted" = none
  max : mg "max" = none
  min : mg "min" = none
  c_MOST_STUDENTS : ∃ t, mg "MOST_STUDENTS" = some (.int 7 t)
  c_MOST_WISHES : ∃ t, mg "MOST_WISHES" = some (.int 6 t)
  c_MOST_CHANGES : ∃ t, mg "MOST_CHANGES" = some (.int 20 t)
  c_NOT_THERE : ∃ t, mg "NOT_THERE" = some (.int (-2) t)
  c_ALONE : ∃ t, mg "ALONE" = some (.int (-6) t)
  c_NOT_ON_LIST : ∃ t, mg "NOT_ON_LIST" = some (.int (-6) t)
  c_PAIRED : ∃ t, mg "PAIRED" = some (.int (-16) t)
  c_WRONG : ∃ t, mg "WRONG" = some (.int (-22) t)
  c_NOT_SO : ∃ t, mg "NOT_SO" = some (.int (-33) t)
  c_PLAIN_NUMBERS : mg "PLAIN_NUMBERS" = some (.ref A.a_PLAIN_NUMBERS)
  t_PLAIN_NUMBERS : ∀ H : Hp, SqT K H A.a_PLAIN_NUMBERS ([1, 2, 3, 2, 1, 2, 0, 0, 0, 2, 0, 1, 1, 1, 0, 2, 0, 1, 0, 1, 2, 1, 1, 0, 0, 0, 1, 0, 0, 0].map V.int)
  c_WISH : ∃ t, mg "WISH" = some (.int 1 t)
  c_LAST_CHANGING : ∃ t, mg "LAST_CHANGING" = some (.int 6 t)
  c_LAST_HOLDING : ∃ t, mg "LAST_HOLDING" = some (.int 15 t)
  c_LAST_RINGING : ∃ t, mg "LAST_RINGING" = some (.int 19 t)
  c_LAST_LOOKING : ∃ t, mg "LAST_LOOKING" = some (.int 26 t)
  F_Students_init : Fun K "__init__" "Students.__init__" zf8 A.f_Students_init A.d_Students_init
  b_Students_init : y0 K A.d_Students_init ["self"] []
  F_Students_begin : Fun K "begin" "Students.begin" zg2 A.f_Students_begin A.d_Students_begin
  b_Students_begin : y0 K A.d_Students_begin ["self", "n"] []
  me_Students_begin : Meth K A.C_Students "begin" A.f_Students_begin
  F_Students_has : Fun K "has" "Students.has" zf9 A.f_Students_has A.d_Students_has
  b_Students_has : y0 K A.d_Students_has ["self", "a"] []
  me_Students_has : Meth K A.C_Students "has" A.f_Students_has
  F_Students_change : Fun K "change" "Students.change" zg1 A.f_Students_change A.d_Students_change
  b_Students_change : y0 K A.d_Students_change ["self", "lists", "mates"] []
  me_Students_change : Meth K A.C_Students "change" A.f_Students_change
  F_Students_take_back : Fun K "take_back" "Students.take_back" zf6 A.f_Students_take_back A.d_Students_take_back
  b_Students_take_back : y0 K A.d_Students_take_back ["self"] []
  me_Students_take_back : Meth K A.C_Students "take_back" A.f_Students_take_back
  F_Students_do_again : Fun K "do_again" "Students.do_again" zg0 A.f_Students_do_again A.d_Students_do_again
  b_Students_do_again : y0 K A.d_Students_do_again ["self"] []
  me_Students_do_again : Meth K A.C_Students "do_again" A.f_Students_do_again
  F_Students_put : Fun K "put" "Students.put" zf7 A.f_Students_put A.d_Students_put
  b_Students_put : y0 K A.d_Students_put ["self", "kept"] []
  me_Students_put : Meth K A.C_Students "put" A.f_Students_put
  F_would_share : Fun K "would_share" "would_share" N9 A.f_would_share A.d_would_share
  b_would_share : y0 K A.d_would_share ["lists", "a", "b"] []
  m_would_share : mg "would_share" = some (.ref A.f_would_share)
  F_place : Fun K "place" "place" Y9 A.f_place A.d_place
  b_place : y0 K A.d_place ["lists", "a", "b"] []
  m_place : mg "place" = some (.ref A.f_place)
  F_places_had : Fun K "places_had" "places_had" X9 A.f_places_had A.d_places_had
  b_places_had : y0 K A.d_places_had ["lists", "mates"] []
  m_places_had : mg "places_had" = some (.ref A.f_places_had)
  F_greatest_of : Fun K "greatest_of" "greatest_of" ze1 A.f_greatest_of A.d_greatest_of
  b_greatest_of : y0 K A.d_greatest_of ["places"] []
  m_greatest_of : mg "greatest_of" = some (.ref A.f_greatest_of)
  F_would_leave : Fun K "would_leave" "would_leave" P9 A.f_would_leave A.d_would_leave
  b_would_leave : y0 K A.d_would_leave ["lists", "mates", "a", "b"] []
  m_would_leave : mg "would_leave" = some (.ref A.f_would_leave)
  F_would_break : Fun K "would_break" "would_break" Q9 A.f_would_break A.d_would_break
  b_would_break : y0 K A.d_would_break ["lists", "mates", "a", "b"] []
  m_would_break : mg "would_break" = some (.ref A.f_would_break)
  F_breakers : Fun K "breakers" "breakers" ze6 A.f_breakers A.d_breakers
  b_breakers : y0 K A.d_breakers ["lists", "mates"] []
  m_breakers : mg "breakers" = some (.ref A.f_breakers)
  F_holds : Fun K "holds" "holds" zb1 A.f_holds A.d_holds
  b_holds : y0 K A.d_holds ["lists", "mates"] []
  m_holds : mg "holds" = some (.ref A.f_holds)
  F_parted : Fun K "parted" "parted" Z9 A.f_parted A.d_parted
  b_parted : y0 K A.d_parted ["mates", "a"] []
  m_parted : mg "parted" = some (.ref A.f_parted)
  F_paired : Fun K "paired" "paired" za0 A.f_paired A.d_paired
  b_paired : y0 K A.d_paired ["mates", "a", "b"] []
  m_paired : mg "paired" = some (.ref A.f_paired)
  F_with_choices : Fun K "with_choices" "with_choices" S9 A.f_with_choices A.d_with_choices
  b_with_choices : y0 K A.d_with_choices ["lists", "pairings", "a"] []
  m_with_choices : mg "with_choices" = some (.ref A.f_with_choices)
  F_all_pairings : Fun K "all_pairings" "all_pairings" zf5 A.f_all_pairings A.d_all_pairings
  b_all_pairings : y0 K A.d_all_pairings ["lists"] []
  m_all_pairings : mg "all_pairings" = some (.ref A.f_all_pairings)
  F_good_pairings : Fun K "good_pairings" "good_pairings" ze2 A.f_good_pairings A.d_good_pairings
  b_good_pairings : y0 K A.d_good_pairings ["lists"] []
  m_good_pairings : mg "good_pairings" = some (.ref A.f_good_pairings)
  F_alone_ones : Fun K "alone_ones" "alone_ones" zf4 A.f_alone_ones A.d_alone_ones
  b_alone_ones : y0 K A.d_alone_ones ["mates"] []
  m_alone_ones : mg "alone_ones" = some (.ref A.f_alone_ones)
  F_pair_count : Fun K "pair_count" "pair_count" za1 A.f_pair_count A.d_pair_count
  b_pair_count : y0 K A.d_pair_count ["mates"] []
  m_pair_count : mg "pair_count" = some (.ref A.f_pair_count)
  F_told_pairing : Fun K "told_pairing" "told_pairing" V9 A.f_told_pairing A.d_told_pairing
  b_told_pairing : y0 K A.d_told_pairing ["mates"] []
  m_told_pairing : mg "told_pairing" = some (.ref A.f_told_pairing)
  F_ho_start : Fun K "ho_start" "ho_start" zb9 A.f_ho_start A.d_ho_start
  b_ho_start : y0 K A.d_ho_start ["students", "n"] []
  m_ho_start : mg "ho_start" = some (.ref A.f_ho_start)
  F_are_others : Fun K "are_others" "are_others" ze7 A.f_are_others A.d_are_others
  b_are_others : y0 K A.d_are_others ["students", "a", "wished"] []
  m_are_others : mg "are_others" = some (.ref A.f_are_others)
  F_with_list : Fun K "with_list" "with_list" R9 A.f_with_list A.d_with_list
  b_with_list : y0 K A.d_with_list ["lists", "a", "wished"] []
  m_with_list : mg "with_list" = some (.ref A.f_with_list)
  F_ho_wish : Fun K "ho_wish" "ho_wish" zb6 A.f_ho_wish A.d_ho_wish
  b_ho_wish : y0 K A.d_ho_wish ["students", "a", "n", "row"] []
  m_ho_wish : mg "ho_wish" = some (.ref A.f_ho_wish)
  F_ho_swap : Fun K "ho_swap" "ho_swap" zb7 A.f_ho_swap A.d_ho_swap
  b_ho_swap : y0 K A.d_ho_swap ["students", "a", "i", "j"] []
  m_ho_swap : mg "ho_swap" = some (.ref A.f_ho_swap)
  F_ho_pair : Fun K "ho_pair" "ho_pair" zc5 A.f_ho_pair A.d_ho_pair
  b_ho_pair : y0 K A.d_ho_pair ["students", "a", "b"] []
  m_ho_pair : mg "ho_pair" = some (.ref A.f_ho_pair)
  F_ho_part : Fun K "ho_part" "ho_part" zc4 A.f_ho_part A.d_ho_part
  b_ho_part : y0 K A.d_ho_part ["students", "a"] []
  m_ho_part : mg "ho_part" = some (.ref A.f_ho_part)
  F_ho_break : Fun K "ho_break" "ho_break" zd5 A.f_ho_break A.d_ho_break
  b_ho_break : y0 K A.d_ho_break ["students", "a", "b"] []
  m_ho_break : mg "ho_break" = some (.ref A.f_ho_break)
  F_ho_all : Fun K "ho_all" "ho_all" zd9 A.f_ho_all A.d_ho_all
  b_ho_all : y0 K A.d_ho_all ["students"] []
  m_ho_all : mg "ho_all" = some (.ref A.f_ho_all)
  F_ho_back : Fun K "ho_back" "ho_back" zd7 A.f_ho_back A.d_ho_back
  b_ho_back : y0 K A.d_ho_back ["students"] []
  m_ho_back : mg "ho_back" = some (.ref A.f_ho_back)
  F_ho_again : Fun K "ho_again" "ho_again" ze0 A.f_ho_again A.d_ho_again
  b_ho_again : y0 K A.d_ho_again ["students"] []
  m_ho_again : mg "ho_again" = some (.ref A.f_ho_again)
  F_ho_state : Fun K "ho_state" "ho_state" zb8 A.f_ho_state A.d_ho_state
  b_ho_state : y0 K A.d_ho_state ["students"] []
  m_ho_state : mg "ho_state" = some (.ref A.f_ho_state)
  F_told_set : Fun K "told_set" "told_set" T9 A.f_told_set A.d_told_set
  b_told_set : y0 K A.d_told_set ["members"] []
  m_told_set : mg "told_set" = some (.ref A.f_told_set)
  F_told_row : Fun K "told_row" "told_row" U9 A.f_told_row A.d_told_row
  b_told_row : y0 K A.d_told_row ["members", "length"] []
  m_told_row : mg "told_row" = some (.ref A.f_told_row)
  F_ho_holds : Fun K "ho_holds" "ho_holds" zc9 A.f_ho_holds A.d_ho_holds
  b_ho_holds : y0 K A.d_ho_holds ["students"] []
  m_ho_holds : mg "ho_holds" = some (.ref A.f_ho_holds)
  F_ho_breakers : Fun K "ho_breakers" "ho_breakers" zd4 A.f_ho_breakers A.d_ho_breakers
  b_ho_breakers : y0 K A.d_ho_breakers ["students"] []
  m_ho_breakers : mg "ho_breakers" = some (.ref A.f_ho_breakers)
  F_ho_would : Fun K "ho_would" "ho_would" zb2 A.f_ho_would A.d_ho_would
  b_ho_would : y0 K A.d_ho_would ["students", "a", "b"] []
  m_ho_would : mg "ho_would" = some (.ref A.f_ho_would)
  F_ho_good : Fun K "ho_good" "ho_good" zd0 A.f_ho_good A.d_ho_good
  b_ho_good : y0 K A.d_ho_good ["students"] []
  m_ho_good : mg "ho_good" = some (.ref A.f_ho_good)
  F_ho_nth : Fun K "ho_nth" "ho_nth" zc7 A.f_ho_nth A.d_ho_nth
  b_ho_nth : y0 K A.d_ho_nth ["students", "k"] []
  m_ho_nth : mg "ho_nth" = some (.ref A.f_ho_nth)
  F_whom_by_place : Fun K "whom_by_place" "whom_by_place" U7 A.f_whom_by_place A.d_whom_by_place
  b_whom_by_place : y0 K A.d_whom_by_place ["students", "a", "at"] []
  FC_whom_by_place : FunC K "whom_by_place" "whom_by_place" U7 A.f_whom_by_place A.k_whom_by_place A.d_whom_by_place
  hd_whom_by_place : ∀ h : Heap, K.In h → PySem.W.CodeHd h A.k_whom_by_place A5
  bl_whom_by_place : base.BuiltinsAt mg A5
  m_whom_by_place : mg "whom_by_place" = some (.ref A.f_whom_by_place)
  F_ho_best : Fun K "ho_best" "ho_best" zd6 A.f_ho_best A.d_ho_best
  b_ho_best : y0 K A.d_ho_best ["students", "a"] []
  m_ho_best : mg "ho_best" = some (.ref A.f_ho_best)
  F_ho_worst : Fun K "ho_worst" "ho_worst" zb3 A.f_ho_worst A.d_ho_worst
  b_ho_worst : y0 K A.d_ho_worst ["students", "a"] []
  m_ho_worst : mg "ho_worst" = some (.ref A.f_ho_worst)
  F_ho_alone : Fun K "ho_alone" "ho_alone" zd8 A.f_ho_alone A.d_ho_alone
  b_ho_alone : y0 K A.d_ho_alone ["students"] []
  m_ho_alone : mg "ho_alone" = some (.ref A.f_ho_alone)
  F_ho_ever : Fun K "ho_ever" "ho_ever" zd3 A.f_ho_ever A.d_ho_ever
  b_ho_ever : y0 K A.d_ho_ever ["students", "a", "b"] []
  m_ho_ever : mg "ho_ever" = some (.ref A.f_ho_ever)
  F_how_fair : Fun K "how_fair" "how_fair" zb0 A.f_how_fair A.d_how_fair
  b_how_fair : y0 K A.d_how_fair ["lists", "mates"] []
  m_how_fair : mg "how_fair" = some (.ref A.f_how_fair)
  F_ho_fairest : Fun K "ho_fairest" "ho_fairest" V7 A.f_ho_fairest A.d_ho_fairest
  b_ho_fairest : y0 K A.d_ho_fairest ["students"] []
  FC_ho_fairest : FunC K "ho_fairest" "ho_fairest" V7 A.f_ho_fairest A.k_ho_fairest A.d_ho_fairest
  hd_ho_fairest : ∀ h : Heap, K.In h → PySem.W.CodeHd h A.k_ho_fairest B5
  bl_ho_fairest : base.BuiltinsAt mg B5
  m_ho_fairest : mg "ho_fairest" = some (.ref A.f_ho_fairest)
  F_ho_place : Fun K "ho_place" "ho_place" zc3 A.f_ho_place A.d_ho_place
  b_ho_place : y0 K A.d_ho_place ["students", "a", "b"] []
  m_ho_place : mg "ho_place" = some (.ref A.f_ho_place)
  F_ho_friends : Fun K "ho_friends" "ho_friends" zd2 A.f_ho_friends A.d_ho_friends
  b_ho_friends : y0 K A.d_ho_friends ["students", "a"] []
  m_ho_friends : mg "ho_friends" = some (.ref A.f_ho_friends)
  F_ho_with : Fun K "ho_with" "ho_with" zb5 A.f_ho_with A.d_ho_with
  b_ho_with : y0 K A.d_ho_with ["students", "a"] []
  m_ho_with : mg "ho_with" = some (.ref A.f_ho_with)
  F_ho_single : Fun K "ho_single" "ho_single" zc0 A.f_ho_single A.d_ho_single
  b_ho_single : y0 K A.d_ho_single ["students"] []
  m_ho_single : mg "ho_single" = some (.ref A.f_ho_single)
  F_ho_glad : Fun K "ho_glad" "ho_glad" zd1 A.f_ho_glad A.d_ho_glad
  b_ho_glad : y0 K A.d_ho_glad ["students"] []
  m_ho_glad : mg "ho_glad" = some (.ref A.f_ho_glad)
  F_ho_look : Fun K "ho_look" "ho_look" zc8 A.f_ho_look A.d_ho_look
  b_ho_look : y0 K A.d_ho_look ["students", "a"] []
  m_ho_look : mg "ho_look" = some (.ref A.f_ho_look)
  F_known_before : Fun K "known_before" "known_before" za5 A.f_known_before A.d_known_before
  b_known_before : y0 K A.d_known_before ["n", "rings"] []
  m_known_before : mg "known_before" = some (.ref A.f_known_before)
  F_in_order : Fun K "in_order" "in_order" za7 A.f_in_order A.d_in_order
  b_in_order : y0 K A.d_in_order ["lists", "rings", "before", "a"] []
  m_in_order : mg "in_order" = some (.ref A.f_in_order)
  F_would_leave_before : Fun K "would_leave_before" "would_leave_before" O9 A.f_would_leave_before A.d_would_leave_before
  b_would_leave_before : y0 K A.d_would_leave_before ["lists", "before", "b"] []
  m_would_leave_before : mg "would_leave_before" = some (.ref A.f_would_leave_before)
  F_may_hold : Fun K "may_hold" "may_hold" za3 A.f_may_hold A.d_may_hold
  b_may_hold : y0 K A.d_may_hold ["lists", "rings"] []
  m_may_hold : mg "may_hold" = some (.ref A.f_may_hold)
  F_first_beginning : Fun K "first_beginning" "first_beginning" ze4 A.f_first_beginning A.d_first_beginning
  b_first_beginning : y0 K A.d_first_beginning ["lists", "rings"] []
  m_first_beginning : mg "first_beginning" = some (.ref A.f_first_beginning)
  F_first_rings : Fun K "first_rings" "first_rings" ze3 A.f_first_rings A.d_first_rings
  b_first_rings : y0 K A.d_first_rings ["lists"] []
  m_first_rings : mg "first_rings" = some (.ref A.f_first_rings)
  F_ring_from : Fun K "ring_from" "ring_from" W9 A.f_ring_from A.d_ring_from
  b_ring_from : y0 K A.d_ring_from ["rings", "a"] []
  m_ring_from : mg "ring_from" = some (.ref A.f_ring_from)
  F_in_odd_ring : Fun K "in_odd_ring" "in_odd_ring" za9 A.f_in_odd_ring A.d_in_odd_ring
  b_in_odd_ring : y0 K A.d_in_odd_ring ["rings", "a"] []
  m_in_odd_ring : mg "in_odd_ring" = some (.ref A.f_in_odd_ring)
  F_in_odd_rings : Fun K "in_odd_rings" "in_odd_rings" za8 A.f_in_odd_rings A.d_in_odd_rings
  b_in_odd_rings : y0 K A.d_in_odd_rings ["rings"] []
  m_in_odd_rings : mg "in_odd_rings" = some (.ref A.f_in_odd_rings)
  F_odd_ring_count : Fun K "odd_ring_count" "odd_ring_count" za2 A.f_odd_ring_count A.d_odd_ring_count
  b_odd_ring_count : y0 K A.d_odd_ring_count ["rings"] []
  m_odd_ring_count : mg "odd_ring_count" = some (.ref A.f_odd_ring_count)
  F_ho_rings : Fun K "ho_rings" "ho_rings" zc1 A.f_ho_rings A.d_ho_rings
  b_ho_rings : y0 K A.d_ho_rings ["students"] []
  m_ho_rings : mg "ho_rings" = some (.ref A.f_ho_rings)
  F_ho_ring : Fun K "ho_ring" "ho_ring" zc2 A.f_ho_ring A.d_ho_ring
  b_ho_ring : y0 K A.d_ho_ring ["students", "a"] []
  m_ho_ring : mg "ho_ring" = some (.ref A.f_ho_ring)
  F_ho_odds : Fun K "ho_odds" "ho_odds" zc6 A.f_ho_odds A.d_ho_odds
  b_ho_odds : y0 K A.d_ho_odds ["students"] []
  m_ho_odds : mg "ho_odds" = some (.ref A.f_ho_odds)
  F_is_in : Fun K "is_in" "is_in" za6 A.f_is_in A.d_is_in
  b_is_in : y0 K A.d_is_in ["w", "a"] []
  m_is_in : mg "is_in" = some (.ref A.f_is_in)
  F_lists_without : Fun K "lists_without" "lists_without" za4 A.f_lists_without A.d_lists_without
  b_lists_without : y0 K A.d_lists_without ["lists", "w"] []
  m_lists_without : mg "lists_without" = some (.ref A.f_lists_without)
  F_ho_without : Fun K "ho_without" "ho_without" zb4 A.f_ho_without A.d_ho_without
  b_ho_without : y0 K A.d_ho_without ["students", "w"] []
  m_ho_without : mg "ho_without" = some (.ref A.f_ho_without)
  F_call_end : Fun K "call_end" "call_end" ze5 A.f_call_end A.d_call_end
  b_call_end : y0 K A.d_call_end ["calls", "at"] []
  m_call_end : mg "call_end" = some (.ref A.f_call_end)
  F_answer_changing : Fun K "answer_changing" "answer_changing" zf2 A.f_answer_changing A.d_answer_changing
  b_answer_changing : y0 K A.d_answer_changing ["students", "call", "given"] []
  m_answer_changing : mg "answer_changing" = some (.ref A.f_answer_changing)
  F_answer_holding : Fun K "answer_holding" "answer_holding" zf0 A.f_answer_holding A.d_answer_holding
  b_answer_holding : y0 K A.d_answer_holding ["students", "call", "given"] []
  m_answer_holding : mg "answer_holding" = some (.ref A.f_answer_holding)
  F_answer_ringing : Fun K "answer_ringing" "answer_ringing" ze8 A.f_answer_ringing A.d_answer_ringing
  b_answer_ringing : y0 K A.d_answer_ringing ["students", "call", "given"] []
  m_answer_ringing : mg "answer_ringing" = some (.ref A.f_answer_ringing)
  F_answer_looking : Fun K "answer_looking" "answer_looking" ze9 A.f_answer_looking A.d_answer_looking
  b_answer_looking : y0 K A.d_answer_looking ["students", "call", "given"] []
  m_answer_looking : mg "answer_looking" = some (.ref A.f_answer_looking)
  F_answer_going_back : Fun K "answer_going_back" "answer_going_back" zf1 A.f_answer_going_back A.d_answer_going_back
  b_answer_going_back : y0 K A.d_answer_going_back ["students", "call"] []
  m_answer_going_back : mg "answer_going_back" = some (.ref A.f_answer_going_back)
  F_answer : Fun K "answer" "answer" zf3 A.f_answer A.d_answer
  b_answer : y0 K A.d_answer ["students", "call", "given"] []
  m_answer : mg "answer" = some (.ref A.f_answer)
  F_answers : Fun K "answers" "answers" W7 A.f_answers A.d_answers
  b_answers : y0 K A.d_answers ["calls"] []
  m_answers : mg "answers" = some (.ref A.f_answers)
end Pl
end
section
set_option Elab.async false
set_option linter.all false
set_option maxRecDepth 100000
set_option maxHeartbeats 4000000
namespace Pl
open PySem PySem.Spec PyProof.Rows L2 PM
variable {P : Program} {w : World} {K : PySem.W.Frag} {mg : Str → Option Value} {base : Heap} {A : Ad} (T : Txt K mg base A)
def zz8 : Sp := fun vs H Q _ => ∃ (l : V) (a b : Nat) (L : List (List Nat)), vs = [l, nV a, nV b] ∧ L1 H l L ∧ a < L.length ∧ b < L.length ∧ Q (.bl (S1 L a b)) H
include T in
theorem F5 : FnOk P w K mg base CX0 1 A.f_would_share A.d_would_share ["lists", "a", "b"] (zz8) := by
  refine T.F_would_share.ok zG7 (fun vs H Q E h => ?_) (fun cdv Ar outer s H vs Q E hr h => ?_)
  · obtain ⟨l, a, b, L, rfl, _⟩ := h
    rfl
  · obtain ⟨l, a, b, L, rfl, ⟨p, vs, rfl, hp, hE⟩, ha, hb, k⟩ := h
    obtain ⟨va, ga, pa, rfl, ha'⟩ := hE.get (V3 ha)
    obtain ⟨vb, gb, pb, rfl, hb'⟩ := hE.get (V3 hb)
    refine ⟨_, (g0 (n0 (j8 (M4 o8 (pv 2) (pe_ix j1 (pv 0) (pv 1) (fun _ _ => rfl)) (by with_unfolding_all rfl)) (i8 (M4 o8 (pv 1) (pe_ix j1 (pv 0) (pv 2) (fun _ _ => rfl)) (by with_unfolding_all rfl)))))), ?_⟩
    have k' : Q (.bl ((L.getD a []).contains b && (L.getD b []).contains a)) H := k
    refine ⟨_, rfl, _, rfl, _, rfl, rdT hp ga (a8 ha' ⟨_, rfl, A0 (fun e => ⟨_, rfl, _, rfl, _, rfl, rdT hp gb (a8 hb' ?_)⟩) (fun e => ?_)⟩)⟩
    · rw [e, Bool.true_and] at k'
      exact k'
    · rw [Bool.eq_false_iff.mpr e, Bool.false_and] at k'
      exact k'
def zA8 : Sp := fun vs H Q _ => ∃ (l : V) (a b : Nat) (L : List (List Nat)), vs = [l, nV a, nV b] ∧ L1 H l L ∧ a < L.length ∧ (a = b ∨ (L.getD a []).contains b = true) ∧ Q (nV (plc L a b)) H
include T in
theorem N4 : FnOk P w K mg base CX0 1 A.f_place A.d_place ["lists", "a", "b"] (zA8) := by
  refine T.F_place.ok zH9 (fun vs H Q E h => ?_) (fun cdv Ar outer s H vs Q E hr h => ?_)
  · obtain ⟨l, a, b, L, rfl, _⟩ := h
    rfl
  · obtain ⟨l, a, b, L, rfl, ⟨p, vs, rfl, hp, hE⟩, ha, hor, k⟩ := h
    obtain ⟨va, ga, pa, rfl, ha'⟩ := hE.get (V3 ha)
    refine ⟨_, (j0 (B0 (J0 U0 (pv 1) (pv 2) (F0 _)) (g0 (n0 (N0 O0 (by rfl) T.len PySem.boot_len (pa_cons (pe_ix j1 (pv 0) (pv 1) (fun _ _ => rfl)) c0)))) C0)
      (g0 (n0 (zR5 PySem.F.plainAttrs_tuple PySem.F.slot_tuple_index PySem.F.type_tuple_index zZ5 (pe_ix j1 (pv 0) (pv 1) (fun _ _ => rfl)) (pa_cons (pv 2) c0))))), ?_⟩
    refine ⟨_, rfl, _, rfl, C3 ⟨_, rfl, A0 (fun e => ?_) (fun e => ?_)⟩⟩
    · refine ⟨_, rfl, _, rfl, rdT hp ga (zP6 ha' ?_)⟩
      have e' : a = b := of_decide_eq_true e
      have z : plc L a b = (nVs (L.getD a [])).length := by
        rw [List.length_map]
        exact if_pos e'
      rw [z] at k
      exact k
    · have e' : ¬ a = b := fun q => e (decide_eq_true q)
      refine ⟨_, rfl, _, rfl, rdT hp ga ⟨⟨_, _, rfl, ha'⟩, _, rfl, zP8 ha' (hor.resolve_left e') ?_⟩⟩
      have z : plc L a b = (L.getD a []).findIdx fun y => y == b := if_neg e'
      rw [z] at k
      exact k
def MAt (H : Hp) (m : V) (a x : Nat) : Prop := ∃ p vs, m = .ref p ∧ (H p = some (.tup vs) ∨ H p = some (.lst vs)) ∧ vs[a]? = some (nV x)
theorem rdS {K : PySem.W.Frag} {H : Hp} {m : V} {a x : Nat} {Q : VK} (h : MAt H m a x) (q : Q (nV x) H) : rIx K m (nV a) H Q := by
  obtain ⟨p, vs, rfl, h | h, g⟩ := h
  · exact .inr (.inl ⟨p, vs, _, _, rfl, rfl, SqT.of h, t4 g, q⟩)
  · exact .inl ⟨p, vs, _, _, rfl, rfl, SqL.of h, t4 g, q⟩
theorem R0.mat {H : Hp} {m : V} {ms : List Nat} (h : R0 H m ms) {a : Nat} (ha : a < ms.length) : MAt H m a (ms.getD a 0) := let ⟨p, e, hp⟩ := h; ⟨p, _, e, .inl hp, T1 (E2 ha)⟩
def zC3 : Sp := fun vs H Q _ => ∃ (l m : V) (a b x : Nat) (L : List (List Nat)), vs = [l, m, nV a, nV b] ∧ L1 H l L ∧ a < L.length ∧ MAt H m a x ∧ (a = b ∨ (L.getD a []).contains b = true) ∧
  (a = x ∨ (L.getD a []).contains x = true) ∧ Q (.bl (decide (plc L a b < plc L a x))) H
include T in
theorem zj8 : FnOk P w K mg base CX0 2 A.f_would_leave A.d_would_leave ["lists", "mates", "a", "b"] (zC3) := by
  refine T.F_would_leave.ok zG9 (fun vs H Q E h => ?_) (fun cdv Ar outer s H vs Q E hr h => ?_)
  · obtain ⟨l, m, a, b, x, L, rfl, _⟩ := h
    rfl
  · obtain ⟨l, m, a, b, x, L, rfl, hl, ha, hm, h1, h2, k⟩ := h
    refine ⟨_, (g0 (n0 (M4 W6 (o0 (N4 T) (hr.mono (by decide)) rfl T.m_place T.F_place.kp T.b_place .nil pass0 (pa_cons (pv 0) (pa_cons (pv 2) (pa_cons (pv 3) c0)))) (o0 (N4 T) (hr.mono (by decide)) rfl T.m_place T.F_place.kp T.b_place .nil pass0 (pa_cons (pv 0) (pa_cons (pv 2) (pa_cons (pe_ix qd2 (pv 1) (pv 2) (fun _ _ => rfl)) c0)))) (F0 _)))), ?_⟩
    refine ⟨_, rfl, _, rfl, _, rfl, l, a, b, L, rfl, hl, ha, h1, ?_⟩
    exact ⟨_, rfl, _, rfl, _, rfl, _, rfl, rdS hm ⟨l, a, _, L, rfl, hl, ha, h2, R6 k⟩⟩
structure Fits (L : List (List Nat)) (ms : List Nat) : Prop where
  len : ms.length = L.length
  lt : ∀ a, a < L.length → ms.getD a 0 < L.length
  sh : ∀ a, a < L.length → ms.getD a 0 = a ∨ S1 L a (ms.getD a 0) = true
theorem d6 {L : List (List Nat)} {a b : Nat} (h : S1 L a b = true) : (L.getD a []).contains b = true := by
  have h' : ((L.getD a []).contains b && (L.getD b []).contains a) = true := h
  rw [Bool.and_eq_true] at h'
  exact h'.1
theorem L9 (L : List (List Nat)) (a b : Nat) : S1 L a b = S1 L b a := z4 _ a b
theorem Fits.on {L : List (List Nat)} {ms : List Nat} (f : Fits L ms) {a : Nat} (ha : a < L.length) : a = ms.getD a 0 ∨ (L.getD a []).contains (ms.getD a 0) = true := by
  rcases f.sh a ha with e | e
  · exact .inl e.symm
  · exact .inr (d6 e)
def zE7 : Sp := fun vs H Q _ => ∃ (l m : V) (a b x y : Nat) (L : List (List Nat)), vs = [l, m, nV a, nV b] ∧ L1 H l L ∧ a < L.length ∧ b < L.length ∧ MAt H m a x ∧ MAt H m b y ∧ (a = x ∨ (L.getD a []).contains x = true) ∧ (b = y ∨ (L.getD b []).contains y = true) ∧
  Q (.bl (S1 L a b && (decide (plc L a b < plc L a x) && decide (plc L b a < plc L b y)))) H
include T in
theorem zj9 : FnOk P w K mg base CX0 3 A.f_would_break A.d_would_break ["lists", "mates", "a", "b"] (zE7) := by
  refine T.F_would_break.ok zH0 (fun vs H Q E h => ?_) (fun cdv Ar outer s H vs Q E hr h => ?_)
  · obtain ⟨l, m, a, b, x, y, L, rfl, _⟩ := h
    rfl
  · obtain ⟨l, m, a, b, x, y, L, rfl, hl, ha, hb, hx, hy, ox, oy, k'⟩ := h
    refine ⟨_, (j0 (B0 (N1 (X0 (o0 (F5 T) (hr.mono (by decide)) rfl T.m_would_share T.F_would_share.kp T.b_would_share .nil pass0 (pa_cons (pv 0) (pa_cons (pv 2) (pa_cons (pv 3) c0)))))) (g0 (n0 O3)) C0)
      (g0 (n0 (j8 (o0 (zj8 T) (hr.mono (by decide)) rfl T.m_would_leave T.F_would_leave.kp T.b_would_leave .nil pass0 (pa_cons (pv 0) (pa_cons (pv 1) (pa_cons (pv 2) (pa_cons (pv 3) c0))))) (i8 (o0 (zj8 T) (hr.mono (by decide)) rfl T.m_would_leave T.F_would_leave.kp T.b_would_leave .nil pass0 (pa_cons (pv 0) (pa_cons (pv 1) (pa_cons (pv 3) (pa_cons (pv 2) c0)))))))))), ?_⟩
    refine ⟨_, rfl, _, rfl, _, rfl, l, a, b, L, rfl, hl, ha, hb, _, rfl, A0 (fun e => ?_) (fun e => ?_)⟩
    · have e' : S1 L a b = false := by simpa using e
      rw [e', Bool.false_and] at k'
      exact k'
    · have e' : S1 L a b = true := by simpa using e
      have e2 : S1 L b a = true := by rw [L9]; exact e'
      rw [e', Bool.true_and] at k'
      refine ⟨_, rfl, _, rfl, _, rfl, _, rfl, l, m, a, b, x, L, rfl, hl, ha, hx, .inr (d6 e'), ox, _, rfl, A0 (fun c => ?_) (fun c => ?_)⟩
      · refine ⟨_, rfl, _, rfl, _, rfl, _, rfl, l, m, b, a, y, L, rfl, hl, hb, hy, .inr (d6 e2), oy, ?_⟩
        rw [c, Bool.true_and] at k'
        exact k'
      · rw [Bool.eq_false_iff.mpr c, Bool.false_and] at k'
        exact k'
def spBreak : Sp := fun vs H Q _ => ∃ (l m : V) (a b : Nat) (L : List (List Nat)) (ms : List Nat), vs = [l, m, nV a, nV b] ∧ L1 H l L ∧ R0 H m ms ∧ Fits L ms ∧ a < L.length ∧ b < L.length ∧ Q (.bl (brk L ms a b)) H
include T in
theorem Z6 : FnOk P w K mg base CX0 3 A.f_would_break A.d_would_break ["lists", "mates", "a", "b"] spBreak :=
  (zj9 T).imp fun vs H Q E ⟨l, m, a, b, L, ms, e, hl, hm, f, ha, hb, k⟩ => ⟨l, m, a, b, _, _, L, e, hl, ha, hb, hm.mat (by rw [f.len]; exact ha), hm.mat (by rw [f.len]; exact hb), f.on ha, f.on hb, k⟩
end Pl
end
section
set_option Elab.async false
set_option linter.all false
set_option maxRecDepth 100000
set_option maxHeartbeats 4000000
namespace Pl
open PySem PySem.Spec PyProof.Rows L2 PM
variable {P : Program} {w : World} {K : PySem.W.Frag} {mg : Str → Option Value} {base : Heap} {A : Ad} (T : Txt K mg base A)
theorem E8 {α β : Type} (f : α → List β) (c : Nat) : ∀ l : List α, (∀ x ∈ l, (f x).length ≤ c) → (l.flatMap f).length ≤ l.length * c
  | [], _ => by simp
  | x :: l, h => by
    rw [List.flatMap_cons, List.length_append, List.length_cons, Nat.add_mul]
    have h1 := E8 f c l fun y hy => h y (List.mem_cons_of_mem _ hy)
    have h2 := h x List.mem_cons_self
    omega
theorem Z0 {n : Nat} (h : n ≤ 1000) : -(2 ^ 62) ≤ ((n : Nat) : Int) ∧ ((n : Nat) : Int) < 2 ^ 62 := by constructor <;> omega
theorem V2 (i : Nat) : V.int (0 + ((i : Nat) : Int)) = nV i := by unfold nV; rw [Int.zero_add]
theorem zn2 (a k : Nat) : List.range' (a + 1) (k + 1) = List.range' (a + 1) k ++ [a + 1 + k] := List.range'_1_concat
def W3 (L : List (List Nat)) (ms : List Nat) (a k : Nat) : List (Nat × Nat) := ((List.range' (a + 1) k).filter fun b => brk L ms a b).map fun b => (a, b)
theorem zs7 (L : List (List Nat)) (ms : List Nat) (a k : Nat) : W3 L ms a (k + 1) = W3 L ms a k ++ (if brk L ms a (a + 1 + k) = true then [(a, a + 1 + k)] else []) := by
  unfold W3
  rw [zn2, List.filter_append, List.map_append, List.filter_cons, List.filter_nil]
  split <;> rfl
theorem zs8 (L : List (List Nat)) (ms : List Nat) (a k : Nat) : (W3 L ms a k).length ≤ k := by
  unfold W3
  rw [List.length_map]
  exact Nat.le_trans (List.length_filter_le _ _) (by simp)
def V5 (L : List (List Nat)) (ms : List Nat) (i : Nat) : List (Nat × Nat) := (List.range i).flatMap fun a => W3 L ms a (L.length - (a + 1))
theorem qh9 (L : List (List Nat)) (ms : List Nat) (i : Nat) : V5 L ms (i + 1) = V5 L ms i ++ W3 L ms i (L.length - (i + 1)) := by
  unfold V5
  rw [List.range_succ, List.flatMap_append, List.flatMap_cons, List.flatMap_nil, List.append_nil]
theorem qi0 (L : List (List Nat)) (ms : List Nat) (i : Nat) : (V5 L ms i).length ≤ i * L.length := by
  have h := E8 (fun a => W3 L ms a (L.length - (a + 1))) L.length (List.range i) fun a _ => Nat.le_trans (zs8 L ms a _) (by omega)
  rw [List.length_range] at h
  exact h
def zE5 : Sp := fun vs H Q _ => ∃ (l m : V) (L : List (List Nat)) (ms : List Nat), vs = [l, m] ∧ L1 H l L ∧ R0 H m ms ∧ Fits L ms ∧ L.length ≤ 7 ∧
  ∀ (H' : Hp) (r : Addr), G2 G6 H' r (E6 L ms) → x0 H H' → H r = Option.none → Q (.ref r) H'
include T in
theorem zk9 : FnOk P w K mg base CX0 4 A.f_breakers A.d_breakers ["lists", "mates"] (zE5) := by
  refine T.F_breakers.ok zM8 (fun vs H Q E h => ?_) (fun cdv Ar outer s H vs Q E hr h => ?_)
  · obtain ⟨l, m, L, ms, rfl, _⟩ := h
    rfl
  · obtain ⟨l, m, L, ms, rfl, hl, hm, f, h7, k⟩ := h
    have hl0 := hl
    obtain ⟨p, vs, rfl, hp, hE⟩ := hl0
    refine ⟨_, (j0 (T0 (i := 2) zM8.nd rfl (.inl rfl) (G0 c0))
      (j0 (W2 PassesOwn.never rfl (m3 rfl T.range (pa_cons (N0 O0 (by rfl) T.len PySem.boot_len (pa_cons (pv 0) c0)) c0)) (O1 (i := 3) zM8.nd rfl (.inl rfl)) (g0 (W2 PassesOwn.never rfl (e8 rfl T.range (pa_cons (B1 D3 (pv 3) pe_int) (pa_cons (N0 O0 (by rfl) T.len PySem.boot_len (pa_cons (pv 0) c0)) c0))) (O1 (i := 4) zM8.nd rfl (.inl rfl)) (g0 (B0 (X0 (o0 (Z6 T) (hr.mono (by decide)) rfl T.m_would_break T.F_would_break.kp T.b_would_break .nil pass0 (pa_cons (pv 0) (pa_cons (pv 1) (pa_cons (pv 3) (pa_cons (pv 4) c0)))))) (g0 (Q1 (p3 PySem.F.plainAttrs_list PySem.F.slot_list_append PySem.F.type_list_append P3 (pv 2) (pa_cons (N3 (pa_cons (pv 3) (pa_cons (pv 4) c0))) c0)))) C0)))))
      (g0 (n0 (pv 2))))), ?_⟩
    refine ⟨Nat.zero_le _, fun q hq => ?_⟩
    have s0 : x0 H (upd H q (.lst [])) := p0 _ hq
    refine ⟨_, rfl, _, _, rfl, .inr (SqT.of (s0 _ _ hp)), ((vs.length : Nat) : Int), rfl, (Z0 (by rw [hE.1]; omega)).1, (Z0 (by rw [hE.1]; omega)).2, (F3 (lo := 0) (n := vs.length) (fun i σ H' => ∃ va vb : Option V, σ = [some (.ref p), some m, some (.ref q), va, vb] ∧ x0 H H' ∧ G2 G6 H' q (V5 L ms i)) ⟨none, none, rfl, s0, [], i0, .nil⟩ ?_ ?_)⟩
    · rintro i σ H1 hi ⟨va, vb, rfl, s1, e1⟩
      rw [hE.1] at hi
      rw [V2]
      refine ⟨_, rfl, _, _, rfl, rfl, _, rfl, _, _, rfl, .inr (SqT.of (s1 _ _ hp)), ((i + 1 : Nat) : Int), ((vs.length : Nat) : Int), rfl, ⟨(Z0 (by omega)).1, (Z0 (by omega)).2, (Z0 (by rw [hE.1]; omega)).1, (Z0 (by rw [hE.1]; omega)).2⟩, (F3 (lo := ((i + 1 : Nat) : Int)) (n := (((vs.length : Nat) : Int) - ((i + 1 : Nat) : Int)).toNat) (fun j σ H' => ∃ vb : Option V, σ = [some (.ref p), some m, some (.ref q), some (nV i), vb] ∧ x0 H H' ∧ G2 G6 H' q (V5 L ms i ++ W3 L ms i j)) ⟨vb, rfl, s1, by rw [show W3 L ms i 0 = [] from rfl, List.append_nil]; exact e1⟩ ?_ ?_)⟩
      · rintro j σ H2 hj ⟨vb, rfl, s2, ⟨ws, e2, w2⟩⟩
        rw [hE.1] at hj
        have kt := KT.of s2
        refine ⟨_, rfl, _, rfl, _, rfl, _, rfl, _, m, i, i + 1 + j, L, ms, rfl, kt.tupL hl, kt.tupN hm, f, hi, by omega, _, rfl, A0 (fun e => ?_) (fun e => ?_)⟩
        · refine ⟨_, rfl, .inl ⟨rfl, _, SqL.of e2⟩, _, rfl, _, rfl, (by show 2 ≤ sizeLine; decide), fun t ht => ?_⟩
          have s3 : x0 H2 (upd H2 t (.tup [nV i, nV (i + 1 + j)])) := p0 _ ht
          have wl : ws.length < sizeLine := by
            have h1 := qi0 L ms i
            have h2 := zs8 L ms i j
            have h3 : i * L.length ≤ 7 * 7 := Nat.mul_le_mul (by omega) h7
            have h4 := w2.1
            rw [List.length_append] at h4
            rw [sizeLine_eq]
            omega
          refine ⟨q, ws, _, rfl, rfl, s3 _ _ e2, wl, ?_⟩
          have kt3 := (KT.of s3).trans (P2 (.lst (ws ++ [.ref t])) (s3 _ _ e2))
          refine ⟨_, rfl, R1 (s2.trans s3) _ hq, _, i0, ?_⟩
          rw [zs7, if_pos e, ← List.append_assoc]
          exact (w2.imp fun _ _ => kt3.tupP).snoc ⟨t, rfl, by rw [r0 (S0 e2 ht).symm]; exact i0⟩
        · refine ⟨_, rfl, s2, ws, e2, ?_⟩
          rw [zs7, if_neg e, List.append_nil]
          exact w2
      · rintro σ H2 ⟨vb, rfl, s2, e2⟩
        rw [show (((vs.length : Nat) : Int) - ((i + 1 : Nat) : Int)).toNat = L.length - (i + 1) by rw [hE.1]; omega] at e2
        exact ⟨_, _, rfl, s2, by rw [qh9]; exact e2⟩
    · rintro σ H1 ⟨va, vb, rfl, s1, e1⟩
      refine ⟨_, rfl, ?_⟩
      rw [hE.1] at e1
      exact k H1 q e1 s1 hq
def zC8 : Sp := fun vs H Q _ => ∃ (l m : V) (L : List (List Nat)) (ms : List Nat), vs = [l, m] ∧ L1 H l L ∧ R0 H m ms ∧ Fits L ms ∧ L.length ≤ 7 ∧ Q (.bl (E3 L ms)) H
include T in
theorem zk6 : FnOk P w K mg base CX0 4 A.f_holds A.d_holds ["lists", "mates"] (zC8) := by
  refine T.F_holds.ok zJ2 (fun vs H Q E h => ?_) (fun cdv Ar outer s H vs Q E hr h => ?_)
  · obtain ⟨l, m, L, ms, rfl, _⟩ := h
    rfl
  · obtain ⟨l, m, L, ms, rfl, hl, hm, f, h7, k⟩ := h
    have hl0 := hl
    obtain ⟨p, vs, rfl, hp, hE⟩ := hl0
    refine ⟨_, (j0 (W2 PassesOwn.never rfl (m3 rfl T.range (pa_cons (N0 O0 (by rfl) T.len PySem.boot_len (pa_cons (pv 0) c0)) c0)) (O1 (i := 2) zJ2.nd rfl (.inl rfl)) (g0 (W2 PassesOwn.never rfl (e8 rfl T.range (pa_cons (B1 D3 (pv 2) pe_int) (pa_cons (N0 O0 (by rfl) T.len PySem.boot_len (pa_cons (pv 0) c0)) c0))) (O1 (i := 3) zJ2.nd rfl (.inl rfl)) (g0 (B0 (X0 (o0 (Z6 T) (hr.mono (by decide)) rfl T.m_would_break T.F_would_break.kp T.b_would_break .nil pass0 (pa_cons (pv 0) (pa_cons (pv 1) (pa_cons (pv 2) (pa_cons (pv 3) c0)))))) (g0 (n0 O3)) C0)))))
      (g0 (n0 O3))), ?_⟩
    refine ⟨_, rfl, _, _, rfl, .inr (SqT.of hp), ((vs.length : Nat) : Int), rfl, (Z0 (by rw [hE.1]; omega)).1, (Z0 (by rw [hE.1]; omega)).2, (F3 (lo := 0) (n := vs.length) (fun i σ H' => ∃ va vb : Option V, σ = [some (.ref p), some m, va, vb] ∧ H' = H ∧ ∀ a, a < i → ∀ b ∈ later a L.length, brk L ms a b = false) ⟨none, none, rfl, rfl, fun a ha => absurd ha (by omega)⟩ ?_ ?_)⟩
    · rintro i σ H1 hi ⟨va, vb, rfl, rfl, e1⟩
      rw [hE.1] at hi
      rw [V2]
      refine ⟨_, rfl, _, _, rfl, rfl, _, rfl, _, _, rfl, .inr (SqT.of hp), ((i + 1 : Nat) : Int), ((vs.length : Nat) : Int), rfl, ⟨(Z0 (by omega)).1, (Z0 (by omega)).2, (Z0 (by rw [hE.1]; omega)).1, (Z0 (by rw [hE.1]; omega)).2⟩, (F3 (lo := ((i + 1 : Nat) : Int)) (n := (((vs.length : Nat) : Int) - ((i + 1 : Nat) : Int)).toNat) (fun j σ H' => ∃ vb : Option V, σ = [some (.ref p), some m, some (nV i), vb] ∧ H' = H1 ∧ ∀ b, b < j → brk L ms i (i + 1 + b) = false) ⟨vb, rfl, rfl, fun b hb => absurd hb (by omega)⟩ ?_ ?_)⟩
      · rintro j σ H2 hj ⟨vb, rfl, rfl, e2⟩
        rw [hE.1] at hj
        refine ⟨_, rfl, _, rfl, _, rfl, _, rfl, _, m, i, i + 1 + j, L, ms, rfl, hl, hm, f, hi, by omega, _, rfl, A0 (fun e => ?_) (fun e => ?_)⟩
        · have z : E3 L ms = false := by
            cases c : E3 L ms with
            | false => rfl
            | true =>
              have c1 := List.all_eq_true.mp c i (List.mem_range.mpr hi)
              have c2 := List.all_eq_true.mp c1 (i + 1 + j) (ql2.mpr ⟨by omega, by omega⟩)
              rw [e] at c2
              cases c2
          rw [z] at k
          exact k
        · refine ⟨_, rfl, rfl, fun b hb => ?_⟩
          by_cases c : b = j
          · subst c; simpa using e
          · exact e2 b (by omega)
      · rintro σ H2 ⟨vb, rfl, rfl, e2⟩
        refine ⟨_, _, rfl, rfl, fun a ha b hb => ?_⟩
        by_cases c : a = i
        · subst c
          have hb' := ql2.mp hb
          have z := e2 (b - (a + 1)) (by have := hE.1; omega)
          rw [show a + 1 + (b - (a + 1)) = b by omega] at z
          exact z
        · exact e1 a (by omega) b hb
    · rintro σ H1 ⟨va, vb, rfl, rfl, e1⟩
      have z : E3 L ms = true := List.all_eq_true.mpr fun a ha => List.all_eq_true.mpr fun b hb => by
        rw [e1 a (by rw [hE.1]; exact List.mem_range.mp ha) b hb]; rfl
      rw [z] at k
      exact k
def zA9 : Sp := fun vs H Q _ => ∃ (m : V) (a : Nat) (ms : List Nat), vs = [m, nV a] ∧ R0 H m ms ∧ a < ms.length ∧ ms.getD a 0 < ms.length ∧ ∀ (H' : Hp) (v : V), R0 H' v (Y2 ms a) → x0 H H' → Q v H'
include T in
theorem b7 : FnOk P w K mg base CX0 1 A.f_parted A.d_parted ["mates", "a"] (zA9) := by
  refine T.F_parted.ok zI0 (fun vs H Q E h => ?_) (fun cdv Ar outer s H vs Q E hr h => ?_)
  · obtain ⟨m, a, ms, rfl, _⟩ := h
    rfl
  · obtain ⟨m, a, ms, rfl, ⟨p, rfl, hp⟩, ha, hma, k⟩ := h
    have ga := T1 (E2 ha)
    refine ⟨_, (j0 (T0 (i := 2) zI0.nd rfl (.inl rfl) (g2 D6 (by rfl) T.list PyProof.Rows.boot_list (pa_cons (pv 0) c0)))
      (j0 (d4 (pe_ix j1 (pv 0) (pv 1) (fun _ _ => rfl)) (i4 (pv 2) (pe_ix j1 (pv 0) (pv 1) (fun _ _ => rfl)) Z3))
      (j0 (d4 (pv 1) (i4 (pv 2) (pv 1) Z3))
      (g0 (n0 (g2 o5 (by rfl) T.tuple PyProof.Rows.boot_tuple (pa_cons (pv 2) c0))))))), ?_⟩
    refine ⟨_, rfl, p, _, rfl, .inr (SqT.of hp), fun q hq => ?_⟩
    have s0 : x0 H (upd H q (.lst (nVs ms))) := p0 _ hq
    refine ⟨_, rfl, _, rfl, rdT (s0 _ _ hp) ga ⟨_, rfl, _, rfl, _, rfl, rdT (s0 _ _ hp) ga (C4 i0 (by rw [List.length_map]; exact hma) ?_)⟩⟩
    rw [W4, a5]
    refine ⟨_, rfl, _, rfl, _, rfl, C4 i0 (by rw [List.length_map, List.length_set]; exact ha) ?_⟩
    rw [W4, a5]
    refine ⟨_, rfl, q, _, rfl, .inl ⟨SqL.of i0, fun t ht => ?_⟩⟩
    have s1 : x0 H (upd H q (.lst (nVs (Y2 ms a)))) := p0 _ hq
    exact k _ _ ⟨t, rfl, i0⟩ (s1.trans (p0 _ ht))
def In (ms : List Nat) : Prop := ∀ x, x < ms.length → ms.getD x 0 < ms.length
theorem In.parted {ms : List Nat} (h : In ms) {a : Nat} (ha : a < ms.length) : In (Y2 ms a) := by
  intro x hx
  rw [X2] at hx ⊢
  unfold Y2
  rw [List.getD_eq_getElem?_getD, List.getElem?_set, List.getElem?_set]
  simp only [List.length_set]
  split
  · exact ha
  · split
    · rw [if_pos (h a ha)]; exact h a ha
    · rw [← List.getD_eq_getElem?_getD]; exact h x hx
def zB1 : Sp := fun vs H Q _ => ∃ (m : V) (a b : Nat) (ms : List Nat), vs = [m, nV a, nV b] ∧ R0 H m ms ∧ a < ms.length ∧ b < ms.length ∧ In ms ∧ ∀ (H' : Hp) (v : V), R0 H' v (x3 ms a b) → x0 H H' → Q v H'
include T in
theorem w8 : FnOk P w K mg base CX0 2 A.f_paired A.d_paired ["mates", "a", "b"] (zB1) := by
  refine T.F_paired.ok zI1 (fun vs H Q E h => ?_) (fun cdv Ar outer s H vs Q E hr h => ?_)
  · obtain ⟨m, a, b, ms, rfl, _⟩ := h
    rfl
  · obtain ⟨m, a, b, ms, rfl, hm, ha, hb, hi, k⟩ := h
    refine ⟨_, (j0 (T0 (i := 3) zI1.nd rfl (.inl rfl) (g2 D6 (by rfl) T.list PyProof.Rows.boot_list (pa_cons (o0 (b7 T) (hr.mono (by decide)) rfl T.m_parted T.F_parted.kp T.b_parted .nil pass0 (pa_cons (o0 (b7 T) (hr.mono (by decide)) rfl T.m_parted T.F_parted.kp T.b_parted .nil pass0 (pa_cons (pv 0) (pa_cons (pv 1) c0))) (pa_cons (pv 2) c0))) c0)))
      (j0 (d4 (pv 2) (i4 (pv 3) (pv 1) Z3))
      (j0 (d4 (pv 1) (i4 (pv 3) (pv 2) Z3))
      (g0 (n0 (g2 o5 (by rfl) T.tuple PyProof.Rows.boot_tuple (pa_cons (pv 3) c0))))))), ?_⟩
    refine ⟨_, rfl, _, rfl, m, a, ms, rfl, hm, ha, hi a ha, fun H1 v1 t1 s1 => ?_⟩
    refine ⟨_, rfl, v1, b, Y2 ms a, rfl, t1, by rw [X2]; exact hb, hi.parted ha b (by rw [X2]; exact hb), fun H2 v2 t2 s2 => ?_⟩
    obtain ⟨p, rfl, hp⟩ := t2
    refine ⟨p, _, rfl, .inr (SqT.of hp), fun q hq => ?_⟩
    have e1 : (Y2 (Y2 ms a) b).length = ms.length := by rw [X2, X2]
    refine ⟨_, rfl, _, rfl, _, rfl, C4 i0 (by rw [List.length_map, e1]; exact ha) ?_⟩
    rw [W4, a5]
    refine ⟨_, rfl, _, rfl, _, rfl, C4 i0 (by rw [List.length_map, List.length_set, e1]; exact hb) ?_⟩
    rw [W4, a5]
    refine ⟨_, rfl, q, _, rfl, .inl ⟨SqL.of i0, fun t ht => ?_⟩⟩
    have s3 : x0 H2 (upd H2 q (.lst (nVs (x3 ms a b)))) := p0 _ hq
    exact k _ _ ⟨t, rfl, i0⟩ (((s1.trans s2).trans s3).trans (p0 _ ht))
end Pl
end
section
set_option Elab.async false
set_option linter.all false
set_option maxRecDepth 100000
set_option maxHeartbeats 4000000
namespace Pl
open PySem PySem.Spec PyProof.Rows L2 PM
variable {P : Program} {w : World} {K : PySem.W.Frag} {mg : Str → Option Value} {base : Heap} {A : Ad} (T : Txt K mg base A)
open Km464 (House Desk withIn)
theorem In.paired {ms : List Nat} (h : In ms) {a b : Nat} (ha : a < ms.length) (hb : b < ms.length) : In (x3 ms a b) := by
  have h2 := (h.parted ha).parted (a := b) (by rw [X2]; exact hb)
  intro x hx
  rw [zj1] at hx ⊢
  unfold x3
  rw [List.getD_eq_getElem?_getD, List.getElem?_set, List.getElem?_set]
  simp only [List.length_set, X2]
  split
  · exact ha
  · split
    · exact hb
    · rw [← List.getD_eq_getElem?_getD]
      have := h2 x (by rw [X2, X2]; exact hx)
      rw [X2, X2] at this
      exact this
def Ok7 (n : Nat) (ms : List Nat) : Prop := ms.length = n ∧ In ms
theorem zY1 {L : List (List Nat)} {ms : List Nat} (h : Ok7 L.length ms) {a : Nat} (ha : a < L.length) : ∀ x ∈ ext L ms a, Ok7 L.length x := by
  intro x hx
  rcases List.mem_cons.mp hx with e | hx
  · rw [e]; exact h
  · obtain ⟨b, hb, rfl⟩ := List.mem_map.mp hx
    have hb' := ql2.mp (List.mem_filter.mp hb).1
    exact ⟨by rw [zj1]; exact h.1, h.2.paired (by rw [h.1]; exact ha) (by rw [h.1]; exact hb'.2)⟩
theorem zY2 {L : List (List Nat)} {P : List (List Nat)} (h : ∀ x ∈ P, Ok7 L.length x) {a : Nat} (ha : a < L.length) : ∀ x ∈ withChoices L P a, Ok7 L.length x := by
  intro x hx
  obtain ⟨m, hm, hx⟩ := List.mem_flatMap.mp hx
  exact zY1 (h m hm) ha x hx
theorem qf8 {L : List (List Nat)} (h7 : L.length ≤ 7) (ms : List Nat) (a : Nat) : (ext L ms a).length ≤ 7 := by
  unfold ext U5
  rw [List.length_cons, List.length_map]
  have := List.length_filter_le (fun b => ms.getD a 0 == a && (ms.getD b 0 == b && S1 L a b)) (later a L.length)
  unfold later at this ⊢
  rw [List.length_range'] at this
  omega
theorem Z8 {L : List (List Nat)} (h7 : L.length ≤ 7) (P : List (List Nat)) (a : Nat) : (withChoices L P a).length ≤ P.length * 7 := E8 _ 7 P fun m _ => qf8 h7 m a
def R4 (L : List (List Nat)) (ms : List Nat) (a k : Nat) : List (List Nat) := ((List.range' (a + 1) k).filter fun b => ms.getD a 0 == a && (ms.getD b 0 == b && S1 L a b)).map fun b => x3 ms a b
theorem zs3 (L : List (List Nat)) (ms : List Nat) (a k : Nat) : R4 L ms a (k + 1) = R4 L ms a k ++ (if (ms.getD a 0 == a && (ms.getD (a + 1 + k) 0 == (a + 1 + k) && S1 L a (a + 1 + k))) = true then [x3 ms a (a + 1 + k)] else []) := by
  unfold R4
  rw [zn2, List.filter_append, List.map_append, List.filter_cons, List.filter_nil]
  split <;> rfl
theorem qh5 (L : List (List Nat)) (ms : List Nat) (a k : Nat) : (R4 L ms a k).length ≤ k := by
  unfold R4
  rw [List.length_map]
  exact Nat.le_trans (List.length_filter_le _ _) (by simp)
theorem qh4 {L : List (List Nat)} {P : List (List Nat)} {i : Nat} {ms : List Nat} (a : Nat) (h : P[i]? = some ms) : withChoices L (P.take (i + 1)) a = withChoices L (P.take i) a ++ (ms :: R4 L ms a (L.length - (a + 1))) := by
  unfold withChoices
  rw [List.take_add_one, h, List.flatMap_append]
  show _ ++ List.flatMap _ [ms] = _
  rw [List.flatMap_cons, List.flatMap_nil, List.append_nil]
  rfl
def zE2 : Sp := fun vs H Q _ => ∃ (l : V) (q : Addr) (a : Nat) (L Ps : List (List Nat)), vs = [l, .ref q, nV a] ∧ L1 H l L ∧ G2 R0 H q Ps ∧ a < L.length ∧ L.length ≤ 7 ∧ (∀ ms ∈ Ps, Ok7 L.length ms) ∧ Ps.length ≤ 823543 ∧
  ∀ (H' : Hp) (r : Addr), G2 R0 H' r (withChoices L Ps a) → x0 H H' → H r = Option.none → Q (.ref r) H'
include T in
theorem zT0 : FnOk P w K mg base CX0 3 A.f_with_choices A.d_with_choices ["lists", "pairings", "a"] (zE2) := by
  refine T.F_with_choices.ok zH2 (fun vs H Q E h => ?_) (fun cdv Ar outer s H vs Q E hr h => ?_)
  · obtain ⟨l, q, a, L, Ps, rfl, _⟩ := h
    rfl
  · obtain ⟨l, q, a, L, Ps, rfl, hl, ⟨us, hq, hU⟩, ha, h7, hP, hz, k⟩ := h
    have hl0 := hl
    obtain ⟨p, vs, rfl, hp, hE⟩ := hl0
    refine ⟨_, (j0 (T0 (i := 3) zH2.nd rfl (.inl rfl) (G0 c0))
      (j0 (W2 PassesOwn.never rfl (L4 (pv 1)) (O1 (i := 4) zH2.nd rfl (.inl rfl)) (j0 (Q1 (p3 PySem.F.plainAttrs_list PySem.F.slot_list_append PySem.F.type_list_append P3 (pv 3) (pa_cons (pv 4) c0)))
      (g0 (W2 PassesOwn.never rfl (e8 rfl T.range (pa_cons (B1 D3 (pv 2) pe_int) (pa_cons (N0 O0 (by rfl) T.len PySem.boot_len (pa_cons (pv 0) c0)) c0))) (O1 (i := 5) zH2.nd rfl (.inl rfl)) (g0 (B0 (PW.pt (T6 (J0 U0 (pe_ix j1 (pv 4) (pv 2) (fun _ _ => rfl)) (pv 2) (F0 _)) (T6 (J0 U0 (pe_ix j1 (pv 4) (pv 5) (fun _ _ => rfl)) (pv 5) (F0 _)) (c8 (X0 (o0 (F5 T) (hr.mono (by decide)) rfl T.m_would_share T.F_would_share.kp T.b_would_share .nil pass0 (pa_cons (pv 0) (pa_cons (pv 2) (pa_cons (pv 5) c0))))))))) (g0 (Q1 (p3 PySem.F.plainAttrs_list PySem.F.slot_list_append PySem.F.type_list_append P3 (pv 3) (pa_cons (o0 (w8 T) (hr.mono (by decide)) rfl T.m_paired T.F_paired.kp T.b_paired .nil pass0 (pa_cons (pv 4) (pa_cons (pv 2) (pa_cons (pv 5) c0)))) c0)))) C0))))))
      (g0 (n0 (pv 3))))), ?_⟩
    refine ⟨Nat.zero_le _, fun r hr0 => ?_⟩
    have s0 : x0 H (upd H r (.lst [])) := p0 _ hr0
    refine ⟨_, rfl, q, rfl, ⟨_, SqL.of (s0 _ _ hq)⟩, zp0 (K := K) (a := q) (xs := us) (fun i σ H' => ∃ vm vb : Option V, σ = [some (.ref p), some (.ref q), some (nV a), some (.ref r), vm, vb] ∧ x0 H H' ∧ G2 R0 H' r (withChoices L (Ps.take i) a))
      ⟨none, none, rfl, s0, [], i0, .nil⟩ (fun i σ H' _ ⟨_, _, _, s1, _⟩ => SqL.of (s1 _ _ hq)) ?_ ?_⟩
    · rintro i v σ H1 hi ⟨vm, vb, rfl, s1, ⟨ws, e1, w1⟩⟩
      obtain ⟨ms, hms, tm⟩ := hU.of hi
      have okm := hP ms (List.mem_of_getElem? hms)
      have hlen : i < Ps.length := (List.getElem?_eq_some_iff.mp hms).1
      have wl : ws.length ≤ 823543 * 7 := by
        have h1 := Z8 h7 (Ps.take i) a
        rw [List.length_take] at h1
        rw [w1.1]
        omega
      refine ⟨_, rfl, .inl ⟨rfl, _, SqL.of e1⟩, _, rfl, r, ws, _, rfl, rfl, e1, by rw [sizeLine_eq]; omega, ?_⟩
      have kt1 := P2 (.lst (ws ++ [v])) e1
      have s2 : x0 H (upd H1 r (.lst (ws ++ [v]))) := R1 s1 _ hr0
      refine ⟨_, rfl, _, _, rfl, rfl, _, rfl, _, _, rfl, .inr (SqT.of (s2 _ _ hp)), ((a + 1 : Nat) : Int), ((vs.length : Nat) : Int), rfl, ⟨(Z0 (by omega)).1, (Z0 (by omega)).2, (Z0 (by rw [hE.1]; omega)).1, (Z0 (by rw [hE.1]; omega)).2⟩,
        (F3 (lo := ((a + 1 : Nat) : Int)) (n := (((vs.length : Nat) : Int) - ((a + 1 : Nat) : Int)).toNat) (fun j σ H' => ∃ vb : Option V, σ = [some (.ref p), some (.ref q), some (nV a), some (.ref r), some v, vb] ∧ x0 H H' ∧ G2 R0 H' r (withChoices L (Ps.take i) a ++ (ms :: R4 L ms a j))) ⟨vb, rfl, s2, _, i0, ?_⟩ ?_ ?_)⟩
      · exact (w1.imp fun _ _ => kt1.tupN).snoc (kt1.tupN ((KT.of s1).tupN tm))
      · rintro j σ H2 hj ⟨vb, rfl, s3, ⟨ws2, e2, w2⟩⟩
        rw [hE.1] at hj
        have kt := KT.of s3
        have tm2 := kt.tupN tm
        obtain ⟨pm, rfl, hpm⟩ := tm2
        have ga := T1 (E2 (l := ms) (i := a) (by rw [okm.1]; exact ha))
        have gb := T1 (E2 (l := ms) (i := a + 1 + j) (by rw [okm.1]; omega))
        have wl2 : ws2.length < sizeLine := by
          have h1 := Z8 h7 (Ps.take i) a
          rw [List.length_take] at h1
          have h2 := qh5 L ms a j
          have h3 := w2.1
          rw [List.length_append, List.length_cons] at h3
          rw [sizeLine_eq]
          omega
        have no : ¬ (ms.getD a 0 == a && (ms.getD (a + 1 + j) 0 == (a + 1 + j) && S1 L a (a + 1 + j))) = true → ∃ vb : Option V, [some (V.ref p), some (.ref q), some (nV a), some (.ref r), some (V.ref pm), some (nV (a + 1 + j))] = [some (V.ref p), some (.ref q), some (nV a), some (.ref r), some (.ref pm), vb] ∧ x0 H H2 ∧ G2 R0 H2 r (withChoices L (Ps.take i) a ++ (ms :: R4 L ms a (j + 1))) := fun c =>
          ⟨_, rfl, s3, ws2, e2, by rw [zs3, if_neg c, List.append_nil]; exact w2⟩
        refine ⟨_, rfl, _, rfl, rdT hpm ga ⟨_, rfl, C3 ⟨_, rfl, A0 (fun c1 => ?_) (fun c1 => A6 (no ?_))⟩⟩⟩
        · have c1' : ms.getD a 0 = a := of_decide_eq_true c1
          refine ⟨_, rfl, _, rfl, rdT hpm gb ⟨_, rfl, C3 ⟨_, rfl, A0 (fun c2 => ?_) (fun c2 => A6 (no ?_))⟩⟩⟩
          · have c2' : ms.getD (a + 1 + j) 0 = a + 1 + j := of_decide_eq_true c2
            refine ⟨_, rfl, _, rfl, _, rfl, _, a, a + 1 + j, L, rfl, kt.tupL hl, ha, by omega, _, rfl, A0 (fun c3 => ?_) (fun c3 => no ?_)⟩
            · refine ⟨_, rfl, .inl ⟨rfl, _, SqL.of e2⟩, _, rfl, _, rfl, _, rfl, .ref pm, a, a + 1 + j, ms, rfl, ⟨pm, rfl, hpm⟩, by rw [okm.1]; exact ha, by rw [okm.1]; omega, okm.2, fun H3 v3 t3 s4 => ?_⟩
              refine ⟨r, ws2, v3, rfl, rfl, s4 _ _ e2, wl2, ?_⟩
              have kt4 := (KT.of s4).trans (P2 (.lst (ws2 ++ [v3])) (s4 _ _ e2))
              refine ⟨_, rfl, R1 (s3.trans s4) _ hr0, _, i0, ?_⟩
              rw [zs3, if_pos (by rw [c1', c2', c3]; simp), ← List.cons_append, ← List.append_assoc]
              exact (w2.imp fun _ _ => kt4.tupN).snoc ((P2 _ (s4 _ _ e2)).tupN t3)
            · rw [Bool.eq_false_iff.mpr c3]; simp
          · have : (ms.getD (a + 1 + j) 0 == a + 1 + j) = false := by simpa using c2
            rw [this]; simp
        · have : (ms.getD a 0 == a) = false := by simpa using c1
          rw [this]; simp
      · rintro σ H2 ⟨vb, rfl, s3, e2⟩
        rw [show (((vs.length : Nat) : Int) - ((a + 1 : Nat) : Int)).toNat = L.length - (a + 1) by rw [hE.1]; omega] at e2
        exact ⟨_, _, rfl, s3, by rw [qh4 a hms]; exact e2⟩
    · rintro σ H1 ⟨vm, vb, rfl, s1, e1⟩
      refine ⟨_, rfl, ?_⟩
      rw [hU.1, List.take_length] at e1
      exact k H1 r e1 s1 hr0
theorem zP2 (n : Nat) : a4 0 n = nVs (List.range n) := List.map_congr_left fun i _ => V2 i
theorem zg6 (n : Nat) : a4 0 (((n : Nat) : Int) - 0).toNat = nVs (List.range n) := by
  rw [show (((n : Nat) : Int) - 0).toNat = n by omega, zP2]
theorem zY0 (n : Nat) : Ok7 n (List.range n) := by
  refine ⟨List.length_range, fun x hx => ?_⟩
  rw [List.length_range] at hx ⊢
  rw [List.getD_eq_getElem?_getD, List.getElem?_range hx]
  exact hx
theorem R8 (L : List (List Nat)) (i : Nat) (P : List (List Nat)) : expand L (List.range (i + 1)) P = withChoices L (expand L (List.range i) P) i := by
  unfold expand
  rw [List.range_succ, List.foldl_append]
  rfl
def zF6 : Sp := fun vs H Q _ => ∃ (l : V) (L : List (List Nat)), vs = [l] ∧ L1 H l L ∧ L.length ≤ 7 ∧ ∀ (H' : Hp) (r : Addr), G2 R0 H' r (x4 L) → x0 H H' → H r = Option.none → (x4 L).length ≤ 823543 → Q (.ref r) H'
theorem zi0 {i : Nat} (h : i ≤ 7) : 7 ^ i ≤ 823543 := Nat.pow_le_pow_right (by decide) h
include T in
theorem zX5 : FnOk P w K mg base CX0 4 A.f_all_pairings A.d_all_pairings ["lists"] (zF6) := by
  refine T.F_all_pairings.ok zN8 (fun vs H Q E h => ?_) (fun cdv Ar outer s H vs Q E hr h => ?_)
  · obtain ⟨l, L, rfl, _⟩ := h
    rfl
  · obtain ⟨l, L, rfl, hl, h7, k⟩ := h
    have hl0 := hl
    obtain ⟨p, vs, rfl, hp, hE⟩ := hl0
    refine ⟨_, (j0 (T0 (i := 1) zN8.nd rfl (.inl rfl) (G0 (pa_cons (g2 (zs5 rfl) (by rfl) T.tuple PyProof.Rows.boot_tuple (pa_cons (g2 zs6 (by rfl) T.range PyProof.Rows.boot_range (pa_cons (N0 O0 (by rfl) T.len PySem.boot_len (pa_cons (pv 0) c0)) c0)) c0)) c0)))
      (j0 (W2 PassesOwn.never rfl (m3 rfl T.range (pa_cons (N0 O0 (by rfl) T.len PySem.boot_len (pa_cons (pv 0) c0)) c0)) (O1 (i := 2) zN8.nd rfl (.inl rfl)) (g0 (T0 (i := 1) zN8.nd rfl (.inl rfl) (o0 (zT0 T) (hr.mono (by decide)) rfl T.m_with_choices T.F_with_choices.kp T.b_with_choices .nil pass0 (pa_cons (pv 0) (pa_cons (pv 1) (pa_cons (pv 2) c0)))))))
      (g0 (n0 (pv 1))))), ?_⟩
    refine ⟨_, rfl, _, _, rfl, .inr (SqT.of hp), _, rfl, fun t ht => ⟨t, 0, ((vs.length : Nat) : Int), rfl, i0, ⟨by decide, by decide, (Z0 (by rw [hE.1]; omega)).1, (Z0 (by rw [hE.1]; omega)).2⟩, by rw [sizeLine_eq]; have := hE.1; omega, fun t2 ht2 => ⟨(by show 1 ≤ sizeLine; decide), fun r hr0 => ?_⟩⟩⟩
    have s1 : x0 H (upd H t (.rng 0 ((vs.length : Nat) : Int))) := p0 _ ht
    have s2 := s1.trans (p0 (.tup (a4 0 (((vs.length : Nat) : Int) - 0).toNat)) ht2)
    have s3 := s2.trans (p0 (.lst [.ref t2]) hr0)
    refine ⟨_, rfl, _, _, rfl, .inr (SqT.of (s3 _ _ hp)), ((vs.length : Nat) : Int), rfl, (Z0 (by rw [hE.1]; omega)).1, (Z0 (by rw [hE.1]; omega)).2,
      (F3 (lo := 0) (n := vs.length) (fun i σ H' => ∃ (r : Addr) (va : Option V), σ = [some (.ref p), some (.ref r), va] ∧ x0 H H' ∧ H r = Option.none ∧ G2 R0 H' r (expand L (List.range i) [List.range L.length]) ∧ (∀ x ∈ expand L (List.range i) [List.range L.length], Ok7 L.length x) ∧ (expand L (List.range i) [List.range L.length]).length ≤ 7 ^ i)
      ⟨r, none, rfl, s3, s2.free hr0, ⟨_, i0, .one ⟨t2, rfl, by rw [r0 (S0 i0 hr0), i0, zg6, hE.1]⟩⟩, fun x hx => by rw [List.mem_singleton.mp hx]; exact zY0 _, (by show 1 ≤ 1; decide)⟩ ?_ ?_)⟩
    · rintro i σ H1 hi ⟨r1, va, rfl, s4, f1, e1, o1, l1⟩
      rw [hE.1] at hi
      rw [V2]
      refine ⟨_, rfl, _, rfl, _, rfl, .ref p, r1, i, L, _, rfl, (KT.of s4).tupL hl, e1, hi, h7, o1, Nat.le_trans l1 (zi0 (by omega)), fun H2 r2 e2 s5 f2 => ?_⟩
      refine ⟨r2, _, rfl, s4.trans s5, s4.free f2, ?_, ?_, ?_⟩
      · rw [R8]; exact e2
      · rw [R8]; exact zY2 o1 hi
      · rw [R8, Nat.pow_succ]; exact Nat.le_trans (Z8 h7 _ i) (Nat.mul_le_mul_right 7 l1)
    · rintro σ H1 ⟨r1, va, rfl, s4, f1, e1, o1, l1⟩
      rw [hE.1] at e1 l1
      exact ⟨_, rfl, k H1 r1 e1 s4 f1 (Nat.le_trans l1 (zi0 h7))⟩
theorem k4 {s : House} {p : List (Nat × Nat)} (h : Fit s p) : Fits s.wish (mOf s.many p) := by
  refine ⟨E1 _ _, fun a ha => ?_, fun a ha => ?_⟩
  · rw [j2 (n := s.many) p ha]; exact h.ok.lt_of ha
  · rw [j2 (n := s.many) p ha]; exact h.with_ a
theorem qj5 (L : List (List Nat)) {ms : List Nat} (h : ms ∈ x4 L) : Fits L ms := by
  rw [zu0 (⟨L, []⟩ : House)] at h
  obtain ⟨p, hp, rfl⟩ := List.mem_map.mp h
  exact k4 (zi8 _ hp)
def zD2 : Sp := fun vs H Q _ => ∃ (l : V) (L : List (List Nat)), vs = [l] ∧ L1 H l L ∧ L.length ≤ 7 ∧ ∀ (H' : Hp) (r : Addr), G2 R0 H' r (A7 L) → x0 H H' → H r = Option.none → (A7 L).length ≤ 823543 → Q (.ref r) H'
theorem Z1 {α : Type} {l : List α} {i : Nat} {x : α} (h : l[i]? = some x) : l.take (i + 1) = l.take i ++ [x] := by
  rw [List.take_add_one, h]; rfl
include T in
theorem O4 : FnOk P w K mg base CX0 5 A.f_good_pairings A.d_good_pairings ["lists"] (zD2) := by
  refine T.F_good_pairings.ok zM4 (fun vs H Q E h => ?_) (fun cdv Ar outer s H vs Q E hr h => ?_)
  · obtain ⟨l, L, rfl, _⟩ := h
    rfl
  · obtain ⟨l, L, rfl, hl, h7, k⟩ := h
    refine ⟨_, (g0 (n0 (o3 rfl zM4.nd (L4 (o0 (zX5 T) (hr.mono (by decide)) rfl T.m_all_pairings T.F_all_pairings.kp T.b_all_pairings .nil pass0 (pa_cons (pv 0) c0))) (g3 (own := [("mates", 1)]) (by with_unfolding_all rfl)) (fun _ _ _ _ _ => O1 (i := 1) zM4.nd rfl (Or.inl rfl) (Or.inr rfl)) (fun _ _ _ _ _ => E4 (X0 (o0 (zk6 T) (hr.mono (by decide)) rfl T.m_holds T.F_holds.kp T.b_holds .nil pass0 (pa_cons (pv 0) (pa_cons (pv 1) c0))))) (fun _ _ _ _ _ => (pv 1))))), ?_⟩
    refine ⟨_, rfl, l, L, rfl, hl, h7, fun H1 r ⟨us, e1, w1⟩ s1 f1 lz => ⟨r, rfl, ⟨_, SqL.of e1⟩, fun D hD => Q5 (K := K) (a := r) (xs := us) (fun i H' => x0 H1 H' ∧ G2 R0 H' D (((x4 L).take i).filter (E3 L))) ⟨p0 _ hD, [], i0, .nil⟩ (fun i H' _ ⟨s2, _⟩ => SqL.of (s2 _ _ e1)) ?_ ?_⟩⟩
    · rintro i x H2 hi ⟨s2, ⟨ws, e2, w2⟩⟩
      obtain ⟨ms, hms, tm⟩ := w1.of hi
      have kt := (KT.of s1).trans (KT.of s2)
      have hi' : i < (x4 L).length := (List.getElem?_eq_some_iff.mp hms).1
      refine ⟨rfl, _, rfl, _, rfl, l, x, L, ms, rfl, kt.tupL hl, (KT.of s2).tupN tm, qj5 L (List.mem_of_getElem? hms), h7, _, rfl, A0 (fun e => ?_) (fun e => ?_)⟩
      · refine ⟨_, rfl, ws, e2, ?_, R1 s2 _ hD, _, i0, ?_⟩
        · have h1 := w2.1
          have h2 := List.length_filter_le (E3 L) ((x4 L).take i)
          rw [List.length_take] at h2
          rw [sizeLine_eq]
          omega
        · rw [Z1 hms, List.filter_append, List.filter_cons, if_pos e, List.filter_nil]
          exact (w2.imp fun _ _ => (P2 _ e2).tupN).snoc ((P2 _ e2).tupN ((KT.of s2).tupN tm))
      · refine ⟨s2, ws, e2, ?_⟩
        rw [Z1 hms, List.filter_append, List.filter_cons, if_neg e, List.filter_nil, List.append_nil]
        exact w2
    · rintro H2 ⟨s2, e2⟩
      rw [w1.1, List.take_length] at e2
      exact k H2 D e2 (s1.trans s2) (s1.free hD) (Nat.le_trans (List.length_filter_le _ _) lz)
theorem N2 (a b : List Nat) : nVs (a ++ b) = nVs a ++ nVs b := List.map_append
def cnt (ms : List Nat) : Nat := (List.range ms.length).countP fun a => decide (a < ms.getD a 0)
def zE1 : Sp := fun vs H Q _ => ∃ (m : V) (ms : List Nat), vs = [m] ∧ R0 H m ms ∧ ms.length ≤ 7 ∧ ∀ H' : Hp, x0 H H' → Q (nV (cnt ms)) H'
include T in
theorem u6 : FnOk P w K mg base CX0 1 A.f_pair_count A.d_pair_count ["mates"] (zE1) := by
  refine T.F_pair_count.ok zI2 (fun vs H Q E h => ?_) (fun cdv Ar outer s H vs Q E hr h => ?_)
  · obtain ⟨m, ms, rfl, _⟩ := h
    rfl
  · obtain ⟨m, ms, rfl, ⟨p, rfl, hp⟩, h7, k⟩ := h
    refine ⟨_, (g0 (n0 (N0 O0 (by rfl) T.len PySem.boot_len (pa_cons (o3 rfl zI2.nd (m3 rfl T.range (pa_cons (N0 O0 (by rfl) T.len PySem.boot_len (pa_cons (pv 0) c0)) c0)) (g3 (own := [("a", 1)]) (by with_unfolding_all rfl)) (fun _ _ _ _ _ => O1 (i := 1) zI2.nd rfl (Or.inl rfl) (Or.inr rfl)) (fun _ _ _ _ _ => E4 (J0 W6 (pv 1) (pe_ix (show IxR _ (D4 K) from j1) (pv 0) (pv 1) (fun _ _ => rfl)) (F0 _))) (fun _ _ _ _ _ => (pv 1))) c0)))), ?_⟩
    refine ⟨_, rfl, _, _, rfl, .inr (SqT.of hp), (((nVs ms).length : Nat) : Int), rfl, (Z0 (by rw [List.length_map]; omega)).1, (Z0 (by rw [List.length_map]; omega)).2, fun D hD => u7 (lo := 0) (n := (nVs ms).length) (fun i H' => x0 H H' ∧ H' D = some (.lst (nVs ((List.range i).filter fun a => decide (a < ms.getD a 0))))) ⟨p0 _ hD, i0⟩ ?_ ?_⟩
    · rintro i H1 hi ⟨s1, e1⟩
      rw [List.length_map] at hi
      rw [V2]
      refine ⟨rfl, _, rfl, _, rfl, _, rfl, rdT (s1 _ _ hp) (T1 (E2 hi)) (R6 ⟨_, rfl, A0 (fun e => ?_) (fun e => ?_)⟩)⟩
      · refine ⟨_, rfl, _, e1, ?_, R1 s1 _ hD, ?_⟩
        · rw [List.length_map]
          have h2 := List.length_filter_le (fun a => decide (a < ms.getD a 0)) (List.range i)
          rw [List.length_range] at h2
          rw [sizeLine_eq]
          omega
        · rw [i0, List.range_succ, List.filter_append, List.filter_cons, if_pos e, List.filter_nil, N2]
          rfl
      · refine ⟨s1, ?_⟩
        rw [e1, List.range_succ, List.filter_append, List.filter_cons, if_neg e, List.filter_nil, List.append_nil]
    · rintro H1 ⟨s1, e1⟩
      refine ⟨_, _, rfl, .inl (SqL.of e1), ?_⟩
      have z := k H1 s1
      unfold cnt at z
      rw [List.countP_eq_length_filter] at z
      rw [List.length_map, List.length_map]
      exact z
def d2 (ms : List Nat) (i : Nat) : List Nat := (List.range 7).map fun a => if a < i ∧ ms.getD a 0 ≠ a then ms.getD a 0 + 1 else 0
theorem zg5 (ms : List Nat) (i : Nat) {a : Nat} (h : a < 7) : (d2 ms i)[a]? = some (if a < i ∧ ms.getD a 0 ≠ a then ms.getD a 0 + 1 else 0) := by
  unfold d2
  rw [List.getElem?_map, List.getElem?_range h]
  rfl
theorem D5 (ms : List Nat) (i : Nat) : (d2 ms i).length = 7 := by simp [d2]
theorem zO9 {ms : List Nat} {i : Nat} (h : i < 7) (e : ms.getD i 0 ≠ i) : d2 ms (i + 1) = (d2 ms i).set i (ms.getD i 0 + 1) := by
  apply List.ext_getElem?
  intro j
  by_cases hj : j < 7
  · rw [zg5 _ _ hj, List.getElem?_set, D5, zg5 _ _ hj]
    by_cases c : i = j
    · subst c; rw [if_pos rfl, if_pos h, if_pos ⟨by omega, e⟩]
    · rw [if_neg c]
      have : (j < i + 1 ∧ ms.getD j 0 ≠ j) ↔ (j < i ∧ ms.getD j 0 ≠ j) := by constructor <;> (rintro ⟨h1, h2⟩; exact ⟨by omega, h2⟩)
      simp only [this]
  · rw [List.getElem?_eq_none (by rw [D5]; omega), List.getElem?_eq_none (by rw [List.length_set, D5]; omega)]
theorem zP0 {ms : List Nat} {i : Nat} (e : ms.getD i 0 = i) : d2 ms (i + 1) = d2 ms i := by
  unfold d2
  apply List.map_congr_left
  intro j _
  have : (j < i + 1 ∧ ms.getD j 0 ≠ j) ↔ (j < i ∧ ms.getD j 0 ≠ j) := by
    constructor
    · rintro ⟨h1, h2⟩
      refine ⟨?_, h2⟩
      by_cases c : j = i
      · subst c; exact absurd e h2
      · omega
    · rintro ⟨h1, h2⟩; exact ⟨by omega, h2⟩
  simp only [this]
def zz3 : Sp := fun vs H Q _ => ∃ (m : V) (ms : List Nat), vs = [m] ∧ R0 H m ms ∧ ms.length ≤ 7 ∧ ∀ (H' : Hp) (r : Addr), H' r = some (.lst (nVs (cnt ms :: d2 ms ms.length))) → x0 H H' → H r = Option.none → Q (.ref r) H'
include T in
theorem r8 : FnOk P w K mg base CX0 2 A.f_told_pairing A.d_told_pairing ["mates"] (zz3) := by
  refine T.F_told_pairing.ok zH6 (fun vs H Q E h => ?_) (fun cdv Ar outer s H vs Q E hr h => ?_)
  · obtain ⟨m, ms, rfl, _⟩ := h
    rfl
  · obtain ⟨m, ms, rfl, hm, h7, k⟩ := h
    have hm0 := hm
    obtain ⟨p, rfl, hp⟩ := hm0
    refine ⟨_, (j0 (T0 (i := 1) zH6.nd rfl (.inl rfl) (B1 m6 (G0 (pa_cons pe_int c0)) (V0 rfl T.c_MOST_STUDENTS)))
      (j0 (W2 PassesOwn.never rfl (m3 rfl T.range (pa_cons (N0 O0 (by rfl) T.len PySem.boot_len (pa_cons (pv 0) c0)) c0)) (O1 (i := 2) zH6.nd rfl (.inl rfl)) (g0 (B0 (J0 n6 (pe_ix j1 (pv 0) (pv 2) (fun _ _ => rfl)) (pv 2) (F0 _)) (g0 (d4 (B1 D3 (pe_ix j1 (pv 0) (pv 2) (fun _ _ => rfl)) pe_int) (i4 (pv 1) (pv 2) Z3))) C0)))
      (g0 (n0 (B1 Z4 (G0 (pa_cons (o0 (u6 T) (hr.mono (by decide)) rfl T.m_pair_count T.F_pair_count.kp T.b_pair_count .nil pass0 (pa_cons (pv 0) c0)) c0)) (pv 1)))))), ?_⟩
    refine ⟨(by show 1 ≤ sizeLine; decide), fun t ht => ⟨t, 7, _, rfl, rfl, i0, by decide, by decide, by decide, fun r hr0 => ?_⟩⟩
    have s1 := (p0 (.lst [nV 0]) ht).trans (p0 (.lst (nVs (d2 ms 0))) hr0)
    have f0 : H r = Option.none := (p0 (.lst [nV 0]) ht).free hr0
    refine ⟨_, rfl, _, _, rfl, .inr (SqT.of (s1 _ _ hp)), (((nVs ms).length : Nat) : Int), rfl, (Z0 (by rw [List.length_map]; omega)).1, (Z0 (by rw [List.length_map]; omega)).2,
      (F3 (lo := 0) (n := (nVs ms).length) (fun i σ H' => ∃ va : Option V, σ = [some (.ref p), some (.ref r), va] ∧ x0 H H' ∧ H' r = some (.lst (nVs (d2 ms i)))) ⟨none, rfl, s1, i0⟩ ?_ ?_)⟩
    · rintro i σ H1 hi ⟨va, rfl, s2, e2⟩
      rw [List.length_map] at hi
      rw [V2]
      have ga := T1 (E2 hi)
      refine ⟨_, rfl, _, rfl, rdT (s2 _ _ hp) ga ⟨_, rfl, i6 ⟨_, rfl, A0 (fun e => ?_) (fun e => ?_)⟩⟩⟩
      · have e' : ms.getD i 0 ≠ i := by simpa using e
        refine ⟨_, rfl, _, rfl, rdT (s2 _ _ hp) ga ⟨_, _, rfl, rfl, _, rfl, _, rfl, r, _, _, i, rfl, rfl, e2, zo1 (by rw [List.length_map, D5]; omega), ?_⟩⟩
        refine ⟨_, rfl, R1 s2 _ f0, ?_⟩
        rw [i0, zO9 (by omega) e', ← a5]
        rfl
      · have e' : ms.getD i 0 = i := by simpa using e
        exact ⟨_, rfl, s2, by rw [zP0 e']; exact e2⟩
    · rintro σ H1 ⟨va, rfl, s2, e2⟩
      rw [List.length_map] at e2
      refine ⟨_, rfl, .ref p, ms, rfl, (KT.of s2).tupN hm, h7, fun H2 s3 => ⟨(by show 1 ≤ sizeLine; decide), fun t2 ht2 => ⟨_, rfl, t2, r, _, _, rfl, rfl, i0, by rw [r0 (S0 (s3 _ _ e2) ht2)]; exact s3 _ _ e2, ?_, fun r2 hr2 => ?_⟩⟩⟩
      · rw [List.length_map, D5, sizeLine_eq]
        show 1 + 7 ≤ 16777216
        decide
      · have s4 := (p0 (.lst [nV (cnt ms)]) ht2).trans (p0 (.lst ([nV (cnt ms)] ++ nVs (d2 ms ms.length))) hr2)
        exact k _ r2 i0 ((s2.trans s3).trans s4) ((s2.trans s3).free ((p0 (.lst [nV (cnt ms)]) ht2).free hr2))
end Pl
end
section
set_option Elab.async false
set_option linter.all false
set_option maxRecDepth 100000
set_option maxHeartbeats 4000000
namespace Pl
open PySem PySem.Spec PyProof.Rows L2 PM
variable {P : Program} {w : World} {K : PySem.W.Frag} {mg : Str → Option Value} {base : Heap} {A : Ad} (T : Txt K mg base A)
open Km464 (House Desk withIn opened)
theorem zl9 : ("lists" : Str) ≠ "mates" := by decide +kernel
theorem zl8 : ("lists" : Str) ≠ "past" := by decide +kernel
theorem zl7 : ("lists" : Str) ≠ "undone" := by decide +kernel
theorem zl6 : ("mates" : Str) ≠ "past" := by decide +kernel
theorem zl5 : ("mates" : Str) ≠ "undone" := by decide +kernel
theorem zl4 : ("past" : Str) ≠ "undone" := by decide +kernel
section
variable (l m q u x : V)
theorem zQ9 : K0 "lists" x [] = ([("lists", x)] : List (Str × V)) := rfl
theorem zQ8 : K0 "mates" x ([("lists", l)] : List (Str × V)) = ([("lists", l), ("mates", x)] : List (Str × V)) := by
  unfold K0; rw [if_neg zl9]; rfl
theorem zQ7 : K0 "past" x ([("lists", l), ("mates", m)] : List (Str × V)) = ([("lists", l), ("mates", m), ("past", x)] : List (Str × V)) := by
  unfold K0; rw [if_neg zl8]; unfold K0; rw [if_neg zl6]; rfl
theorem zQ6 : K0 "undone" x ([("lists", l), ("mates", m), ("past", q)] : List (Str × V)) = J1 l m q x := by
  unfold K0; rw [if_neg zl7]; unfold K0; rw [if_neg zl5]; unfold K0; rw [if_neg zl4]; rfl
theorem zh7 : K0 "lists" x (J1 l m q u) = J1 x m q u := by
  unfold J1 K0; rw [if_pos rfl]
theorem zh6 : K0 "mates" x (J1 l m q u) = J1 l x q u := by
  unfold J1 K0; rw [if_neg zl9]; unfold K0; rw [if_pos rfl]
theorem zh5 : K0 "past" x (J1 l m q u) = J1 l m x u := by
  unfold J1 K0; rw [if_neg zl8]; unfold K0; rw [if_neg zl6]; unfold K0; rw [if_pos rfl]
theorem zh4 : K0 "undone" x (J1 l m q u) = J1 l m q x := by
  unfold J1 K0; rw [if_neg zl7]; unfold K0; rw [if_neg zl5]; unfold K0; rw [if_neg zl4]; unfold K0; rw [if_pos rfl]
end
theorem Z7 (n : Nat) (v : V) : (List.replicate n [v]).flatten = List.replicate n v := by
  induction n with
  | zero => rfl
  | succ n ih => rw [List.replicate_succ, List.flatten_cons, ih, List.replicate_succ]; rfl
def But (H H' : Hp) (p : Addr) : Prop := ∀ b o, H b = some o → b ≠ p → H' b = some o
def zE9 (C : Addr) : Sp := fun vs H Q _ => ∃ (p dx : Addr) (n : Nat) (fs : List (Str × V)), vs = [.ref p, nV n] ∧ n ≤ 7 ∧ H p = some (.ins C dx fs) ∧ (fs = [] ∨ ∃ l m q u, fs = J1 l m q u) ∧
  ∀ (H' : Hp) (q u : Addr), StAt C H' p q u ⟨opened n, [], []⟩ → But H H' p → H q = Option.none → H u = Option.none → Q .non H'
include T in
theorem zl1 : FnOk P w K mg base CX0 1 A.f_Students_begin A.d_Students_begin ["self", "n"] (zE9 A.C_Students) := by
  refine T.F_Students_begin.ok zO5 (fun vs H Q E h => ?_) (fun cdv Ar outer s H vs Q E hr h => ?_)
  · obtain ⟨p, dx, n, fs, rfl, _⟩ := h
    rfl
  · obtain ⟨p, dx, n, fs, rfl, h7, hp, hfs, k⟩ := h
    refine ⟨_, (j0 (F4 (pv 0) (g2 o5 (by rfl) T.tuple PyProof.Rows.boot_tuple (pa_cons (B1 m6 (G0 (pa_cons (N3 c0) c0)) (pv 1)) c0)) rfl)
      (j0 (F4 (pv 0) (g2 (zs5 rfl) (by rfl) T.tuple PyProof.Rows.boot_tuple (pa_cons (g2 zs6 (by rfl) T.range PyProof.Rows.boot_range (pa_cons (pv 1) c0)) c0)) rfl)
      (j0 (F4 (pv 0) (G0 c0) rfl)
      (g0 (F4 (pv 0) (G0 c0) rfl))))), ?_⟩
    have few : fs.length ≤ 4 := by
      rcases hfs with e | ⟨l, m, q, u, e⟩
      · rw [e]; exact Nat.zero_le _
      · rw [e]; exact Nat.le_refl 4
    refine ⟨Nat.zero_le _, fun t0 ht0 => ⟨(by show 1 ≤ sizeLine; decide), fun t1 ht1 => ⟨_, rfl, t1, ((n : Nat) : Int), _, rfl, rfl, i0, by omega, by omega, by show 1 * n ≤ sizeLine; rw [sizeLine_eq]; omega, fun t2 ht2 => ⟨t2, _, rfl, .inl ⟨SqL.of i0, fun t3 ht3 => ?_⟩⟩⟩⟩⟩
    have e0 : (List.replicate (((n : Nat) : Int)).toNat [V.ref t0]).flatten = List.replicate n (V.ref t0) := Z7 n _
    rw [e0] at ht3 ⊢
    have s1 := p0 (.tup []) ht0
    have s2 := s1.trans (p0 (.lst [V.ref t0]) ht1)
    have s3 := s2.trans (p0 (.lst (List.replicate n (V.ref t0))) ht2)
    have s4 := s3.trans (p0 (.tup (List.replicate n (V.ref t0))) ht3)
    refine ⟨_, rfl, p, _, dx, fs, rfl, s4 _ _ hp, T.cl_Students, T.n_lists, by omega, ?_⟩
    generalize hH4 : upd (upd (upd (upd H t0 (.tup [])) t1 (.lst [V.ref t0])) t2 (.lst (List.replicate n (V.ref t0)))) t3 (.tup (List.replicate n (V.ref t0))) = H4 at s4 ⊢
    have tl : L1 H4 (.ref t3) (List.replicate n []) := by
      refine ⟨t3, _, rfl, by rw [← hH4]; exact i0, .rep ⟨t0, rfl, ?_⟩ n⟩
      rw [← hH4, r0 (S0 (p0 (.lst (List.replicate n (V.ref t0))) ht2 _ _ (p0 (.lst [V.ref t0]) ht1 _ _ i0)) ht3), r0 (S0 (p0 (.lst [V.ref t0]) ht1 _ _ i0) ht2), r0 (S0 i0 ht1)]
      exact i0
    have hp4 := s4 _ _ hp
    refine ⟨_, rfl, _, rfl, fun t5 ht5 => ⟨t5, 0, ((n : Nat) : Int), rfl, i0, ⟨by decide, by decide, by omega, by omega⟩, by rw [sizeLine_eq]; omega, fun t6 ht6 => ?_⟩⟩
    rw [zg6]
    have kt5 := R3 (.ins A.C_Students dx (K0 "lists" (.ref t3) fs)) hp4
    have s5 := (p0 (.rng 0 ((n : Nat) : Int)) ht5).trans (p0 (.tup (nVs (List.range n))) ht6)
    refine ⟨_, rfl, p, _, dx, K0 "lists" (.ref t3) fs, rfl, s5 _ _ i0, T.cl_Students, T.n_mates, Nat.lt_of_le_of_lt (P4 _ _ _) (by omega), ?_⟩
    have b5 : But H (upd (upd (upd H4 p (.ins A.C_Students dx (K0 "lists" (.ref t3) fs))) t5 (.rng 0 ((n : Nat) : Int))) t6 (.tup (nVs (List.range n)))) p := fun b o e hb => s5 b o (by rw [r0 hb]; exact s4 b o e)
    have hm : R0 (upd (upd (upd H4 p (.ins A.C_Students dx (K0 "lists" (.ref t3) fs))) t5 (.rng 0 ((n : Nat) : Int))) t6 (.tup (nVs (List.range n)))) (.ref t6) (List.range n) := ⟨t6, rfl, i0⟩
    have hl5 := (kt5.trans (KT.of s5)).tupL tl
    generalize upd (upd (upd H4 p (.ins A.C_Students dx (K0 "lists" (.ref t3) fs))) t5 (.rng 0 ((n : Nat) : Int))) t6 (.tup (nVs (List.range n))) = H6 at *
    have hp6 : H6 p = some (.ins A.C_Students dx (K0 "lists" (.ref t3) fs)) := s5 _ _ i0
    refine ⟨Nat.zero_le _, fun t7 ht7 => ?_⟩
    have s7 := p0 (.lst []) ht7
    have kt7 := R3 (.ins A.C_Students dx (K0 "mates" (.ref t6) (K0 "lists" (.ref t3) fs))) hp6
    refine ⟨_, rfl, p, _, dx, K0 "mates" (.ref t6) (K0 "lists" (.ref t3) fs), rfl, s7 _ _ i0, T.cl_Students, T.n_past, Nat.lt_of_le_of_lt (P4 _ _ _) (Nat.lt_of_le_of_lt (Nat.add_le_add_right (P4 _ _ _) 1) (by omega)), ?_⟩
    refine ⟨Nat.zero_le _, fun t8 ht8 => ?_⟩
    have s8 := p0 (.lst []) ht8
    refine ⟨_, rfl, p, _, dx, K0 "past" (.ref t7) (K0 "mates" (.ref t6) (K0 "lists" (.ref t3) fs)), rfl, s8 _ _ i0, T.cl_Students, T.n_undone, Nat.lt_of_le_of_lt (P4 _ _ _) (Nat.lt_of_le_of_lt (Nat.add_le_add_right (P4 _ _ _) 1) (Nat.lt_of_le_of_lt (Nat.add_le_add_right (Nat.add_le_add_right (P4 _ _ _) 1) 1) (by omega))), ?_⟩
    have efs : K0 "undone" (.ref t8) (K0 "past" (.ref t7) (K0 "mates" (.ref t6) (K0 "lists" (.ref t3) fs))) = J1 (.ref t3) (.ref t6) (.ref t7) (.ref t8) := by
      rcases hfs with e | ⟨l, m, q, u, e⟩
      · rw [e, zQ9, zQ8, zQ7, zQ6]
      · rw [e, zh7, zh6, zh5, zh4]
    have n7 : t7 ≠ p := fun e => by rw [e, i0] at ht7; cases ht7
    have n8 : t8 ≠ p := fun e => by rw [e, i0] at ht8; cases ht8
    have f7 : H6 t7 = Option.none := by rw [r0 n7] at ht7; exact ht7
    have f8 : t8 ≠ t7 ∧ H6 t8 = Option.none := by
      rw [r0 n8] at ht8
      have n78 : t8 ≠ t7 := fun e => by rw [e, i0] at ht8; cases ht8
      rw [r0 n78, r0 n8] at ht8
      exact ⟨n78, ht8⟩
    have fr : ∀ {a : Addr}, a ≠ p → H6 a = Option.none → H a = Option.none := fun {a} hn hf => by
      cases c : H a with
      | none => rfl
      | some o => rw [b5 a o c hn] at hf; cases hf
    have ktA : KT H6 (upd H6 p (.ins A.C_Students dx (K0 "mates" (.ref t6) (K0 "lists" (.ref t3) fs)))) := kt7
    have ktB := ktA.trans (KT.of s7)
    have ktC := ktB.trans (R3 (.ins A.C_Students dx (K0 "past" (.ref t7) (K0 "mates" (.ref t6) (K0 "lists" (.ref t3) fs)))) (s7 _ _ i0))
    have ktD := ktC.trans (KT.of s8)
    have ktE := ktD.trans (R3 (.ins A.C_Students dx (K0 "undone" (.ref t8) (K0 "past" (.ref t7) (K0 "mates" (.ref t6) (K0 "lists" (.ref t3) fs))))) (s8 _ _ i0))
    refine k _ t7 t8 ⟨⟨dx, _, _, by rw [i0, efs], ktE.tupL hl5, ?_⟩, ⟨[], ?_, .nil⟩, ⟨[], ?_, .nil⟩, f8.1.symm⟩ ?_ (fr n7 f7) (fr n8 f8.2)
    · have e : mOf (opened n).many (opened n).paired = List.range n := by
        show mOf (List.replicate n []).length [] = _
        rw [List.length_replicate, zm5]
      show R0 _ _ (mOf (opened n).many (opened n).paired)
      rw [e]
      exact ktE.tupN hm
    · rw [r0 n7, r0 f8.1.symm, r0 n7]; exact i0
    · rw [r0 n8]; exact i0
    · intro b o e hb
      have b6 := b5 b o e hb
      rw [r0 hb, r0 (S0 b6 f8.2), r0 hb, r0 (S0 b6 f7), r0 hb]
      exact b6
def zC6 (C : Addr) : Sp := fun vs H Q _ => ∃ (p dx : Addr), vs = [.ref p] ∧ H p = some (.ins C dx []) ∧
  ∀ (H' : Hp) (q u : Addr), StAt C H' p q u (Km464.fresh 0) → But H H' p → H q = Option.none → H u = Option.none → Q .non H'
include T in
theorem zX7 : FnOk P w K mg base CX0 2 A.f_Students_init A.d_Students_init ["self"] (zC6 A.C_Students) := by
  refine T.F_Students_init.ok zO1 (fun vs H Q E h => ?_) (fun cdv Ar outer s H vs Q E hr h => ?_)
  · obtain ⟨p, dx, rfl, _⟩ := h
    rfl
  · obtain ⟨p, dx, rfl, hp, k⟩ := h
    refine ⟨_, (g0 (Q1 (G1 (pv 0) T.cl_Students T.me_Students_begin (zl1 T) (hr.mono (by decide)) T.b_Students_begin .nil pass0 (pa_cons pe_int c0)))), ?_⟩
    exact ⟨_, rfl, p, dx, [], rfl, hp, rfl, p, dx, 0, [], rfl, by decide, hp, .inl rfl, k⟩
def zC9 (C : Addr) : Sp := fun vs H Q _ => ∃ (p q u : Addr) (a : Nat) (d : Desk), vs = [.ref p, nV a] ∧ StAt C H p q u d ∧ Q (.bl (decide (a < d.now.many))) H
include T in
theorem X1 : FnOk P w K mg base CX0 1 A.f_Students_has A.d_Students_has ["self", "a"] (zC9 A.C_Students) := by
  refine T.F_Students_has.ok zO2 (fun vs H Q E h => ?_) (fun cdv Ar outer s H vs Q E hr h => ?_)
  · obtain ⟨p, q, u, a, d, rfl, _⟩ := h
    rfl
  · obtain ⟨p, q, u, a, d, rfl, st, k⟩ := h
    obtain ⟨dx, l, m, hp, ⟨pl, vs, rfl, hl, hE⟩, hm⟩ := st.ins
    refine ⟨_, (g0 (n0 (M4 W6 (pv 1) (N0 O0 (by rfl) T.len PySem.boot_len (pa_cons (I0 (pv 0) rfl) c0)) (F0 _)))), ?_⟩
    refine ⟨_, rfl, _, rfl, p, _, dx, _, _, rfl, hp, T.cl_Students, T.n_lists, rfl, _, _, rfl, .inr (SqT.of hl), R6 ?_⟩
    rw [hE.1]
    exact k
def zA5 (C : Addr) : Sp := fun vs H Q _ => ∃ (p dx t : Addr) (l m q u x y : V), vs = [.ref p, .ref t] ∧ H p = some (.ins C dx (J1 l m q u)) ∧ H t = some (.tup [x, y]) ∧ Q .non (upd H p (.ins C dx (J1 x y q u)))
include T in
theorem z8 : FnOk P w K mg base CX0 1 A.f_Students_put A.d_Students_put ["self", "kept"] (zA5 A.C_Students) := by
  refine T.F_Students_put.ok zO0 (fun vs H Q E h => ?_) (fun cdv Ar outer s H vs Q E hr h => ?_)
  · obtain ⟨p, dx, t, l, m, q, u, x, y, rfl, _⟩ := h
    rfl
  · obtain ⟨p, dx, t, l, m, q, u, x, y, rfl, hp, ht, k⟩ := h
    refine ⟨_, (j0 (F4 (pv 0) (pe_ix j1 (pv 1) pe_int (fun _ _ => rfl)) rfl)
      (g0 (F4 (pv 0) (pe_ix j1 (pv 1) pe_int (fun _ _ => rfl)) rfl))), ?_⟩
    refine ⟨_, rfl, t, _, _, _, rfl, rfl, SqT.of ht, rfl, _, rfl, p, _, dx, _, rfl, hp, T.cl_Students, T.n_lists, (by show 4 < 1000; decide), ?_⟩
    rw [zh7]
    refine ⟨_, rfl, t, _, _, _, rfl, rfl, SqT.of (R3 _ hp _ _ ht), rfl, _, rfl, p, _, dx, _, rfl, i0, T.cl_Students, T.n_mates, (by show 4 < 1000; decide), ?_⟩
    rw [zh6, W4]
    exact k
theorem qg7 (xs : List V) : U1 xs (some (-20)) none = xs.drop (xs.length - 20) := by
  unfold U1
  have e1 : HT.sIx xs.length 0 (some (-20)) = xs.length - 20 := by
    show (if (-20 : Int) < 0 then ((-20 : Int) + (xs.length : Int)).toNat else min (-20 : Int).toNat xs.length) = _
    rw [if_pos (by decide)]
    omega
  rw [e1, HT.sIx_none]
  rw [List.take_of_length_le (by rw [List.length_drop]; omega)]
theorem zS1 (a : House) (l : List House) : ((a :: l).take 20).reverse.map kept = ((l.reverse ++ [a]).map kept).drop (l.length + 1 - 20) := by
  rw [List.reverse_take, List.map_drop, List.reverse_cons, List.length_cons]
def zE3 (C : Addr) : Sp := fun vs H Q _ => ∃ (p q u : Addr) (l m : V) (d : Desk) (s' : House), vs = [.ref p, l, m] ∧ StAt C H p q u d ∧ d.past.length ≤ 20 ∧ L1 H l s'.wish ∧ R0 H m (mOf s'.many s'.paired) ∧
  ∀ (H' : Hp) (q' u' : Addr), StAt C H' p q' u' (d.become s') → i3 H H' p q u → H q' = Option.none → H u' = Option.none → Q .non H'
include T in
theorem G5 : FnOk P w K mg base CX0 2 A.f_Students_change A.d_Students_change ["self", "lists", "mates"] (zE3 A.C_Students) := by
  refine T.F_Students_change.ok zO4 (fun vs H Q E h => ?_) (fun cdv Ar outer s H vs Q E hr h => ?_)
  · obtain ⟨p, q, u, l, m, d, s', rfl, _⟩ := h
    rfl
  · obtain ⟨p, q, u, l, m, d, s', rfl, st, h20, hl, hm, k⟩ := h
    obtain ⟨dx, l0, m0, hp, tl0, tm0⟩ := st.ins
    obtain ⟨ws, hq, wE⟩ := st.past
    obtain ⟨xs, hu, xE⟩ := st.und
    have npq : p ≠ q := ne_of hp hq (by intro z; cases z)
    have npu : p ≠ u := ne_of hp hu (by intro z; cases z)
    have wl : ws.length = d.past.length := by rw [wE.1]; simp
    refine ⟨_, (j0 (Q1 (p3 PySem.F.plainAttrs_list PySem.F.slot_list_append PySem.F.type_list_append P3 (I0 (pv 0) rfl) (pa_cons (N3 (pa_cons (I0 (pv 0) rfl) (pa_cons (I0 (pv 0) rfl) c0))) c0)))
      (j0 (F4 (pv 0) (Y4 C5 (I0 (pv 0) rfl) (G4 (U6 L6 (V0 rfl T.c_MOST_CHANGES))) E5) rfl)
      (j0 (F4 (pv 0) (G0 c0) rfl)
      (g0 (Q1 (G1 (pv 0) T.cl_Students T.me_Students_put (z8 T) (hr.mono (by decide)) T.b_Students_put .nil pass0 (pa_cons (N3 (pa_cons (pv 1) (pa_cons (pv 2) c0))) c0))))))), ?_⟩
    refine ⟨_, rfl, p, _, dx, _, _, rfl, hp, T.cl_Students, T.n_past, rfl, .inl ⟨rfl, _, SqL.of hq⟩, _, rfl, p, _, dx, _, _, rfl, hp, T.cl_Students, T.n_lists, rfl, _, rfl, p, _, dx, _, _, rfl, hp, T.cl_Students, T.n_mates, rfl, (by show 2 ≤ sizeLine; decide), fun t ht => ?_⟩
    have s1 := p0 (.tup [l0, m0]) ht
    refine ⟨q, ws, _, rfl, rfl, s1 _ _ hq, by rw [wl, sizeLine_eq]; omega, ?_⟩
    have kt2 := (KT.of s1).trans (P2 (.lst (ws ++ [.ref t])) (s1 _ _ hq))
    have hp2 : upd (upd H t (.tup [l0, m0])) q (.lst (ws ++ [.ref t])) p = some (.ins A.C_Students dx (J1 l0 m0 (.ref q) (.ref u))) := by rw [r0 npq]; exact s1 _ _ hp
    have wE2 : M1 (Y3 (upd (upd H t (.tup [l0, m0])) q (.lst (ws ++ [.ref t])))) (ws ++ [.ref t]) ((d.past.reverse ++ [d.now]).map kept) := by
      rw [List.map_append]
      refine (wE.imp fun _ _ => kt2.kept).snoc ⟨t, l0, m0, rfl, ?_, kt2.tupL tl0, kt2.tupN tm0⟩
      rw [r0 (S0 hq ht).symm]
      exact i0
    have fr2 : i3 H (upd (upd H t (.tup [l0, m0])) q (.lst (ws ++ [.ref t]))) p q u := fun b o e _ hb _ => by rw [r0 hb]; exact s1 b o e
    have hu2 : upd (upd H t (.tup [l0, m0])) q (.lst (ws ++ [.ref t])) u = some (.lst xs) := by rw [r0 (Ne.symm st.ne)]; exact s1 _ _ hu
    have hq2 : upd (upd H t (.tup [l0, m0])) q (.lst (ws ++ [.ref t])) q = some (.lst (ws ++ [.ref t])) := i0
    generalize upd (upd H t (.tup [l0, m0])) q (.lst (ws ++ [.ref t])) = H2 at *
    refine ⟨_, rfl, p, _, dx, _, _, rfl, hp2, T.cl_Students, T.n_past, rfl, _, rfl, _, rfl, q, _, rfl, SqL.of hq2, fun q3 hq3 => ?_⟩
    have n3 : q3 ≠ p := fun e => by rw [e, hp2] at hq3; cases hq3
    have s3 := p0 (.lst (U1 (ws ++ [.ref t]) (some (-20)) none)) hq3
    refine ⟨_, rfl, p, _, dx, _, rfl, s3 _ _ hp2, T.cl_Students, T.n_past, (by show 4 < 1000; decide), ?_⟩
    rw [zh5]
    have kt4 := (KT.of s3).trans (R3 (.ins A.C_Students dx (J1 l0 m0 (.ref q3) (.ref u))) (s3 _ _ hp2))
    refine ⟨Nat.zero_le _, fun u4 hu4 => ?_⟩
    have n4 : u4 ≠ p := fun e => by rw [e, i0] at hu4; cases hu4
    have hu4' : u4 ≠ q3 ∧ H2 u4 = Option.none := by
      rw [r0 n4] at hu4
      have n : u4 ≠ q3 := fun e => by rw [e, i0] at hu4; cases hu4
      rw [r0 n] at hu4
      exact ⟨n, hu4⟩
    have s5 := p0 (.lst []) hu4
    refine ⟨_, rfl, p, _, dx, _, rfl, s5 _ _ i0, T.cl_Students, T.n_undone, (by show 4 < 1000; decide), ?_⟩
    rw [zh4]
    have kt6 := (kt4.trans (KT.of s5)).trans (R3 (.ins A.C_Students dx (J1 l0 m0 (.ref q3) (.ref u4))) (s5 _ _ i0))
    refine ⟨_, rfl, p, dx, _, rfl, i0, rfl, _, rfl, _, rfl, (by show 2 ≤ sizeLine; decide), fun t7 ht7 => ?_⟩
    have n7 : t7 ≠ p := fun e => by rw [e, i0] at ht7; cases ht7
    have s7 := p0 (.tup [l, m]) ht7
    refine ⟨p, dx, t7, l0, m0, .ref q3, .ref u4, l, m, rfl, s7 _ _ i0, i0, ?_⟩
    have kt8 := (kt6.trans (KT.of s7)).trans (R3 (.ins A.C_Students dx (J1 l m (.ref q3) (.ref u4))) (s7 _ _ i0))
    have fre : ∀ {a : Addr}, H2 a = Option.none → a ≠ p → a ≠ u → H a = Option.none := fun {a} hf h1 h3 => by
      cases c : H a with
      | none => rfl
      | some o =>
        by_cases h2 : a = q
        · subst h2; rw [hq2] at hf; cases hf
        · rw [fr2 a o c h1 h2 h3] at hf; cases hf
    refine k _ q3 u4 ⟨⟨dx, l, m, i0, (kt2.trans kt8).tupL hl, (kt2.trans kt8).tupN hm⟩, ⟨U1 (ws ++ [.ref t]) (some (-20)) none, ?_, ?_⟩, ⟨[], ?_, .nil⟩, hu4'.1.symm⟩ ?_ (fre hq3 n3 fun e => ?_) (fre hu4'.2 n4 fun e => ?_)
    · rw [r0 n3]
      refine s7 _ _ ?_
      rw [r0 n3]
      refine s5 _ _ ?_
      rw [r0 n3]
      exact i0
    · have e1 := (wE2.imp fun _ _ => kt8.kept).drop ((ws ++ [V.ref t]).length - 20)
      rw [← qg7] at e1
      show M1 _ _ (((d.now :: d.past).take 20).reverse.map kept)
      rw [zS1]
      rw [List.length_append, wl] at e1
      exact e1
    · rw [r0 n4]
      refine s7 _ _ ?_
      rw [r0 n4]
      exact i0
    · intro b o e hb1 hb2 hb3
      rw [r0 hb1]
      refine s7 _ _ ?_
      rw [r0 hb1]
      refine s5 _ _ ?_
      rw [r0 hb1]
      exact s3 _ _ (fr2 b o e hb1 hb2 hb3)
    · rw [e, hu2] at hq3; cases hq3
    · rw [e, hu2] at hu4'; cases hu4'.2
end Pl
end
section
set_option Elab.async false
set_option linter.all false
set_option maxRecDepth 100000
set_option maxHeartbeats 4000000
namespace Pl
open PySem PySem.Spec PyProof.Rows L2 PM
variable {P : Program} {w : World} {K : PySem.W.Frag} {mg : Str → Option Value} {base : Heap} {A : Ad} (T : Txt K mg base A)
open Km464 (House Desk withIn opened key only act okWish MOST)
def zz6 (C : Addr) : Sp := fun vs H Q _ => ∃ (p q u : Addr) (n : Nat) (d : Desk), vs = [.ref p, nV n] ∧ StAt C H p q u d ∧ Y0 C H p q u d (.start n) Q
theorem L0 : 1 ≤ sizeLine := by decide
theorem M3 : 2 ≤ sizeLine := by decide
include T in
theorem zU3 : FnOk P w K mg base CX0 2 A.f_ho_start A.d_ho_start ["students", "n"] (zz6 A.C_Students) := by
  refine T.F_ho_start.ok zK0 (fun vs H Q E h => ?_) (fun cdv Ar outer s H vs Q E hr h => ?_)
  · obtain ⟨p, q, u, n, d, rfl, _⟩ := h
    rfl
  · obtain ⟨p, q, u, n, d, rfl, st, k⟩ := h
    obtain ⟨dx, l, m, hp, tl, tm⟩ := st.ins
    refine ⟨_, (j0 (B0 (J0 X6 (pv 1) (V0 rfl T.c_MOST_STUDENTS) (F0 _)) (g0 (n0 (G0 (pa_cons (V0 rfl T.c_WRONG) c0)))) C0)
      (j0 (Q1 (G1 (pv 0) T.cl_Students T.me_Students_begin (zl1 T) (hr.mono (by decide)) T.b_Students_begin .nil pass0 (pa_cons (pv 1) c0)))
      (g0 (n0 (G0 (pa_cons pe_int c0)))))), ?_⟩
    refine ⟨_, rfl, _, _, rfl, rfl, _, rfl, A0 (fun e => ?_) (fun e => ?_)⟩
    · have e' : MOST < n := by
        have := of_decide_eq_true e
        unfold MOST
        omega
      exact ⟨L0, fun r hr0 => k.ref st (if_pos e') hr0⟩
    · have e' : ¬ MOST < n := fun z => e (decide_eq_true (by unfold MOST at z; omega))
      have h7 : n ≤ 7 := Nat.le_of_not_lt e'
      refine ⟨_, rfl, p, dx, _, rfl, hp, rfl, _, rfl, p, dx, n, _, rfl, h7, hp, .inr ⟨_, _, _, _, rfl⟩, fun H1 q1 u1 st1 b1 f1 f2 => ⟨L0, fun r hr0 => ?_⟩⟩
      exact k.fin st (if_neg e') st1 (fun b o hb h1 _ _ => b1 b o hb h1) (.inr f1) (.inr f2) rfl (p0 _ hr0) hr0 i0
theorem zr6 (l : List Nat) (b : Nat) : (l.map fun (x : Nat) => (x : Int)).count (b : Int) = l.count b := by
  induction l with
  | nil => rfl
  | cons x l ih =>
    rw [List.map_cons, List.count_cons, List.count_cons, ih]
    have : ((x : Int) == (b : Int)) = (x == b) := by rw [Bool.eq_iff_iff, beq_iff_eq, beq_iff_eq]; omega
    rw [this]
theorem N5 (l : List Nat) : (l.map fun (x : Nat) => (x : Int)).map V.int = nVs l := by rw [List.map_map]; rfl
theorem zl2 (n a : Nat) (l : List Nat) : okWish n a l = true ↔ ∀ b ∈ l, b ≠ a ∧ b < n ∧ ¬ 1 < l.count b := by
  rw [zX9, List.nodup_iff_count]
  constructor
  · rintro ⟨h1, h2⟩ b hb
    have := h2 b
    exact ⟨(h1 b hb).2, (h1 b hb).1, by omega⟩
  · intro h
    refine ⟨fun b hb => ⟨(h b hb).2.1, (h b hb).1⟩, fun b => ?_⟩
    by_cases hb : b ∈ l
    · have := (h b hb).2.2; omega
    · rw [List.count_eq_zero.mpr hb]; omega
def zB3 (C : Addr) : Sp := fun vs H Q _ => ∃ (p q u w : Addr) (a : Nat) (l : List Nat) (d : Desk), vs = [.ref p, nV a, .ref w] ∧ StAt C H p q u d ∧ H w = some (.lst (nVs l)) ∧ Q (.bl (okWish d.now.many a l)) H
include T in
theorem zW8 : FnOk P w K mg base CX0 2 A.f_are_others A.d_are_others ["students", "a", "wished"] (zB3 A.C_Students) := by
  refine T.F_are_others.ok zM9 (fun vs H Q E h => ?_) (fun cdv Ar outer s H vs Q E hr h => ?_)
  · obtain ⟨p, q, u, w, a, l, d, rfl, _⟩ := h
    rfl
  · obtain ⟨p, q, u, w, a, l, d, rfl, st, hw, k⟩ := h
    obtain ⟨dx, l0, m0, hp, tl, tm⟩ := st.ins
    refine ⟨_, (j0 (W2 PassesOwn.never rfl (L4 (pv 2)) (O1 (i := 3) zM9.nd rfl (.inl rfl)) (g0 (B0 (PW.pt (M2 (J0 U0 (pv 3) (pv 1) (F0 _)) (M2 (N1 (X0 (G1 (pv 0) T.cl_Students T.me_Students_has (X1 T) (hr.mono (by decide)) T.b_Students_has .nil pass0 (pa_cons (pv 3) c0)))) (j3 (J0 X6 (p3 PySem.F.plainAttrs_list PySem.F.slot_list_count PySem.F.type_list_count zZ7 (pv 2) (pa_cons (pv 3) c0)) pe_int (F0 _)))))) (g0 (n0 O3)) C0)))
      (g0 (n0 O3))), ?_⟩
    refine ⟨_, rfl, w, rfl, ⟨_, SqL.of hw⟩, zp0 (K := K) (a := w) (xs := nVs l) (fun i σ H' => ∃ vb : Option V, σ = [some (.ref p), some (nV a), some (.ref w), vb] ∧ H' = H ∧ ∀ b ∈ l.take i, b ≠ a ∧ b < d.now.many ∧ ¬ 1 < l.count b)
      ⟨none, rfl, rfl, fun b hb => by simp at hb⟩ (fun i σ H' _ ⟨_, _, e, _⟩ => by rw [e]; exact SqL.of hw) ?_ ?_⟩
    · rintro i v σ H1 hi ⟨vb, rfl, rfl, e1⟩
      obtain ⟨b, hb, rfl⟩ : ∃ b, l[i]? = some b ∧ v = nV b := by
        rw [List.getElem?_map] at hi
        cases c : l[i]? with
        | none => rw [c] at hi; cases hi
        | some b => rw [c] at hi; exact ⟨b, rfl, (Option.some.inj hi).symm⟩
      have bad : ¬ (b ≠ a ∧ b < d.now.many ∧ ¬ 1 < l.count b) → Q (.bl false) H1 := fun z => by
        have e : okWish d.now.many a l = false := by
          cases c : okWish d.now.many a l with
          | false => rfl
          | true => exact absurd ((zl2 _ _ _).mp c b (List.mem_of_getElem? hb)) z
        rw [e] at k
        exact k
      refine ⟨_, rfl, _, rfl, C3 ⟨_, rfl, A0 (fun c1 => C2 (bad fun z => z.1 (of_decide_eq_true c1))) (fun c1 => ?_)⟩⟩
      refine ⟨_, rfl, p, dx, _, rfl, hp, rfl, _, rfl, p, q, u, b, d, rfl, st, _, rfl, A0 (fun c2 => C2 (bad fun z => ?_)) (fun c2 => ?_)⟩
      · rw [decide_eq_true z.2.1] at c2; cases c2
      · refine ⟨_, rfl, .inl ⟨rfl, _, SqL.of hw⟩, _, rfl, w, l.map fun (x : Nat) => (x : Int), (b : Int), rfl, rfl, by rw [N5]; exact SqL.of hw, _, _, rfl, rfl, _, rfl, A0 (fun c3 => bad fun z => z.2.2 ?_) (fun c3 => ?_)⟩
        · have y := of_decide_eq_true c3
          rw [zr6] at y
          omega
        refine ⟨_, rfl, rfl, fun x hx => ?_⟩
        rw [Z1 hb] at hx
        rcases List.mem_append.mp hx with hx | hx
        · exact e1 x hx
        · rw [List.mem_singleton.mp hx]
          exact ⟨fun z => c1 (decide_eq_true z), by simpa using c2, fun z => c3 (decide_eq_true (by rw [zr6]; omega))⟩
    · rintro σ H1 ⟨vb, rfl, rfl, e1⟩
      rw [List.length_map, List.take_length] at e1
      rw [(zl2 _ _ _).mpr e1] at k
      exact k
def zz0 : Sp := fun vs H Q _ => ∃ (l : V) (w : Addr) (a : Nat) (L : List (List Nat)) (ws : List Nat), vs = [l, nV a, .ref w] ∧ L1 H l L ∧ a < L.length ∧ H w = some (.lst (nVs ws)) ∧ ∀ (H' : Hp) (v : V), L1 H' v (L.set a ws) → x0 H H' → Q v H'
include T in
theorem zk0 : FnOk P w K mg base CX0 1 A.f_with_list A.d_with_list ["lists", "a", "wished"] (zz0) := by
  refine T.F_with_list.ok zH1 (fun vs H Q E h => ?_) (fun cdv Ar outer s H vs Q E hr h => ?_)
  · obtain ⟨l, w, a, L, ws, rfl, _⟩ := h
    rfl
  · obtain ⟨l, w, a, L, ws, rfl, ⟨p, vs, rfl, hp, hE⟩, ha, hw, k⟩ := h
    refine ⟨_, (j0 (T0 (i := 3) zH1.nd rfl (.inl rfl) (g2 D6 (by rfl) T.list PyProof.Rows.boot_list (pa_cons (pv 0) c0)))
      (j0 (d4 (g2 o5 (by rfl) T.tuple PyProof.Rows.boot_tuple (pa_cons (pv 2) c0)) (i4 (pv 3) (pv 1) Z3))
      (g0 (n0 (g2 o5 (by rfl) T.tuple PyProof.Rows.boot_tuple (pa_cons (pv 3) c0)))))), ?_⟩
    refine ⟨_, rfl, p, _, rfl, .inr (SqT.of hp), fun q hq => ?_⟩
    have s0 := p0 (.lst vs) hq
    refine ⟨_, rfl, w, _, rfl, .inl ⟨SqL.of (s0 _ _ hw), fun t ht => ?_⟩⟩
    have s1 := p0 (.tup (nVs ws)) ht
    have hq1 : upd (upd H q (.lst vs)) t (.tup (nVs ws)) q = some (.lst vs) := s1 _ _ i0
    have nqt : t ≠ q := (S0 (i0 (H := H) (o := .lst vs)) ht).symm
    refine ⟨_, rfl, _, rfl, C4 hq1 (by rw [hE.1]; exact ha) ?_⟩
    refine ⟨_, rfl, q, _, rfl, .inl ⟨SqL.of i0, fun t2 ht2 => ?_⟩⟩
    have s2 : x0 H (upd (upd (upd H q (.lst vs)) t (.tup (nVs ws))) q (.lst (vs.set a (.ref t)))) := R1 (s0.trans s1) _ hq
    have s3 := s2.trans (p0 (.tup (vs.set a (.ref t))) ht2)
    refine k _ _ ⟨t2, _, rfl, i0, (hE.imp fun _ _ => (KT.of s3).tupN).set a ⟨t, rfl, ?_⟩⟩ s3
    rw [r0 (S0 (a := t) (o := .tup (nVs ws)) (by rw [r0 nqt]; exact i0) ht2), r0 nqt]
    exact i0
theorem W8 (l : List Nat) (n : Nat) : U1 (nVs l) none (some ((n : Nat) : Int)) = nVs (l.take n) := by
  unfold U1
  rw [HT.sIx_none, HT.sIx_nat, List.drop_zero, Nat.sub_zero, List.length_map]
  show _ = (l.take n).map nV
  rw [List.map_take]
  by_cases h : n ≤ l.length
  · rw [Nat.min_eq_left h]
  · rw [Nat.min_eq_right (by omega), List.take_of_length_le (by rw [List.length_map]; exact Nat.le_refl _), List.take_of_length_le (by rw [List.length_map]; omega)]
theorem k5 {n : Nat} {p : List (Nat × Nat)} (h : Ok n p) : cnt (mOf n p) = p.length := by
  unfold cnt
  rw [E1, ← qg9 h]
  apply List.countP_congr
  intro a ha
  rw [j2 p (List.mem_range.mp ha)]
theorem GoodH.in_ {s : House} (g : GoodH s) : In (mOf s.many s.paired) := by
  intro x hx
  rw [E1] at hx ⊢
  rw [j2 _ hx]
  exact g.fit.ok.lt_of hx
theorem B6 {H H' : Hp} {p q u C dx : Addr} {fs : List (Str × V)} {xs ys : List V} (fr : i3 H H' p q u) (hp : H p = some (.ins C dx fs)) (hq : H q = some (.lst xs)) (hu : H u = some (.lst ys)) : KT H H' := fun a zs e =>
  fr a _ e (ne_of e hp (by intro z; cases z)) (ne_of e hq (by intro z; cases z)) (ne_of e hu (by intro z; cases z))
def zz1 (C : Addr) : Sp := fun vs H Q _ => ∃ (p q u w : Addr) (a n : Nat) (l : List Nat) (d : Desk), vs = [.ref p, nV a, nV n, .ref w] ∧ StAt C H p q u d ∧ GoodD d ∧ H w = some (.lst (nVs l)) ∧ w ≠ q ∧ w ≠ u ∧ Y0 C H p q u d (.wish a n l) Q
include T in
theorem zU0 : FnOk P w K mg base CX0 3 A.f_ho_wish A.d_ho_wish ["students", "a", "n", "row"] (zz1 A.C_Students) := by
  refine T.F_ho_wish.ok zJ7 (fun vs H Q E h => ?_) (fun cdv Ar outer s H vs Q E hr h => ?_)
  · obtain ⟨p, q, u, w, a, n, l, d, rfl, _⟩ := h
    rfl
  · obtain ⟨p, q, u, w, a, n, l, d, rfl, st, g, hw, nwq, nwu, k⟩ := h
    obtain ⟨dx, l0, m0, hp, tl, tm⟩ := st.ins
    refine ⟨_, (j0 (B0 (N1 (X0 (G1 (pv 0) T.cl_Students T.me_Students_has (X1 T) (hr.mono (by decide)) T.b_Students_has .nil pass0 (pa_cons (pv 1) c0)))) (g0 (n0 (G0 (pa_cons (V0 rfl T.c_NOT_THERE) c0)))) C0)
      (j0 (B0 (PW.pt (M2 (J0 X6 (pv 2) (V0 rfl T.c_MOST_WISHES) (F0 _)) (j3 (N1 (X0 (o0 (zW8 T) (hr.mono (by decide)) rfl T.m_are_others T.F_are_others.kp T.b_are_others .nil pass0 (pa_cons (pv 0) (pa_cons (pv 1) (pa_cons (Y4 C5 (pv 3) E5 (G4 (pv 2))) c0))))))))) (g0 (n0 (G0 (pa_cons (V0 rfl T.c_WRONG) c0)))) C0)
      (j0 (T0 (i := 4) zJ7.nd rfl (.inl rfl) (N0 O0 (by rfl) T.len PySem.boot_len (pa_cons (pe_ix j1 (I0 (pv 0) rfl) (pv 1) (fun _ _ => rfl)) c0)))
      (j0 (T0 (i := 5) zJ7.nd rfl (.inl rfl) (o0 (zk0 T) (hr.mono (by decide)) rfl T.m_with_list T.F_with_list.kp T.b_with_list .nil pass0 (pa_cons (I0 (pv 0) rfl) (pa_cons (pv 1) (pa_cons (Y4 C5 (pv 3) E5 (G4 (pv 2))) c0)))))
      (j0 (T0 (i := 6) zJ7.nd rfl (.inl rfl) (I0 (pv 0) rfl))
      (j0 (B0 (N1 (X0 (o0 (F5 T) (hr.mono (by decide)) rfl T.m_would_share T.F_would_share.kp T.b_would_share .nil pass0 (pa_cons (pv 5) (pa_cons (pv 1) (pa_cons (pe_ix j1 (pv 6) (pv 1) (fun _ _ => rfl)) c0)))))) (g0 (T0 (i := 6) zJ7.nd rfl (.inl rfl) (o0 (b7 T) (hr.mono (by decide)) rfl T.m_parted T.F_parted.kp T.b_parted .nil pass0 (pa_cons (pv 6) (pa_cons (pv 1) c0))))) C0)
      (j0 (Q1 (G1 (pv 0) T.cl_Students T.me_Students_change (G5 T) (hr.mono (by decide)) T.b_Students_change .nil pass0 (pa_cons (pv 5) (pa_cons (pv 6) c0))))
      (g0 (n0 (G0 (pa_cons (pv 4) (pa_cons (o0 (u6 T) (hr.mono (by decide)) rfl T.m_pair_count T.F_pair_count.kp T.b_pair_count .nil pass0 (pa_cons (pv 6) c0)) c0)))))))))))), ?_⟩
    refine ⟨_, rfl, p, dx, _, rfl, hp, rfl, _, rfl, p, q, u, a, d, rfl, st, _, rfl, A0 (fun c => ?_) (fun c => ?_)⟩
    · have c' : d.now.many ≤ a := by simpa using c
      exact ⟨L0, fun r hr0 => k.ref st (if_pos c') hr0⟩
    · have ha : a < d.now.many := by simpa using c
      have ha' : ¬ d.now.many ≤ a := by omega
      have wrong : (MOST - 1 < n ∨ okWish d.now.many a (l.take n) = false) → ∀ (H1 : Hp) (r : Addr), x0 H H1 → H1 r = Option.none → Q (.ref r) (upd H1 r (.lst [.int (-22)])) := fun z H1 r s1 hr0 =>
        k.read st (show act d (.wish a n l) = (d, only (-22)) from (if_neg ha').trans (if_pos z)) rfl (s1.trans (p0 _ hr0)) (s1.free hr0) i0
      refine ⟨_, rfl, _, _, rfl, rfl, _, rfl, A0 (fun c2 => C2 ⟨L0, fun r hr0 => wrong (.inl (by have := of_decide_eq_true c2; unfold MOST; omega)) H r (x0.refl _) hr0⟩) (fun c2 => ?_)⟩
      have hn : ¬ MOST - 1 < n := fun z => c2 (decide_eq_true (by unfold MOST at z; omega))
      refine ⟨_, rfl, _, rfl, _, rfl, _, rfl, _, rfl, w, _, rfl, SqL.of hw, fun w1 hw1 => ?_⟩
      rw [W8]
      have s1 := p0 (.lst (nVs (l.take n))) hw1
      refine ⟨p, q, u, w1, a, l.take n, d, rfl, st.same s1, i0, _, rfl, A0 (fun c3 => ⟨L0, fun r hr0 => wrong (.inr (by simpa using c3)) _ r s1 hr0⟩) (fun c3 => ?_)⟩
      have hok : okWish d.now.many a (l.take n) = true := by simpa using c3
      have hno : ¬ (MOST - 1 < n ∨ okWish d.now.many a (l.take n) = false) := fun z => z.elim hn fun y => by rw [hok] at y; cases y
      obtain ⟨o1, o2⟩ := zX9.mp hok
      generalize hH1 : upd H w1 (.lst (nVs (l.take n))) = H1 at s1 ⊢
      obtain ⟨pl, vs, rfl, hl, hE⟩ := tl
      obtain ⟨va, ga, pa, rfl, hpa⟩ := hE.get (V3 (L := d.now.wish) ha)
      refine ⟨_, rfl, p, _, dx, _, _, rfl, s1 _ _ hp, T.cl_Students, T.n_lists, rfl, _, rfl, rdT (s1 _ _ hl) ga ⟨_, _, rfl, .inr (SqT.of (s1 _ _ hpa)), ?_⟩⟩
      refine ⟨_, rfl, p, _, dx, _, _, rfl, s1 _ _ hp, T.cl_Students, T.n_lists, rfl, _, rfl, _, rfl, _, rfl, _, rfl, w, _, rfl, SqL.of (s1 _ _ hw), fun w2 hw2 => ?_⟩
      rw [W8]
      have s2 := p0 (.lst (nVs (l.take n))) hw2
      refine ⟨.ref pl, w2, a, d.now.wish, l.take n, rfl, (KT.of (s1.trans s2)).tupL ⟨pl, vs, rfl, hl, hE⟩, ha, i0, fun H3 v3 tl3 s3 => ?_⟩
      have s13 := (s1.trans s2).trans s3
      generalize upd H1 w2 (.lst (nVs (l.take n))) = H2 at *
      refine ⟨_, rfl, p, _, dx, _, _, rfl, s13 _ _ hp, T.cl_Students, T.n_mates, rfl, ?_⟩
      have tm3 := (KT.of s13).tupN tm
      have tm4 := tm3
      obtain ⟨pm, rfl, hpm⟩ := tm4
      have hlen : (d.now.wish.set a (l.take n)).length = d.now.many := by rw [List.length_set]; rfl
      have gm := T1 (E2 (l := mOf d.now.many d.now.paired) (i := a) (by rw [E1]; exact ha))
      rw [j2 _ ha] at gm
      have wlt := g.now.fit.ok.lt_of ha
      have e1 : act d (.wish a n l) = (d.become (d.now.setWish a (l.take n)).mended, ⟨(((d.now.list a).length : Nat) : Int), [(d.now.setWish a (l.take n)).mended.paired.length]⟩) := (if_neg ha').trans (if_neg hno)
      have em := qa1 g.now (l := l.take n) ha (fun z => (o1 a z).2 rfl)
      have el : (nVs (d.now.wish.getD a [])).length = (d.now.list a).length := by rw [List.length_map]; rfl
      have gH : GoodH (d.now.setWish a (l.take n)).mended := by
        refine g.now.wish ha ⟨fun b hb => (o1 b hb).1, fun b hb => (o1 b hb).2, o2, ?_⟩
        rw [List.length_take]
        have h1 : n ≤ 6 := by unfold MOST at hn; omega
        omega
      have hmany : (d.now.setWish a (l.take n)).mended.many = d.now.many := j7 d.now a (l.take n)
      obtain ⟨_, hq0, _⟩ := st.past
      obtain ⟨_, hu0, _⟩ := st.und
      refine ⟨_, rfl, _, rfl, _, rfl, _, rfl, rdT hpm gm ⟨v3, a, _, d.now.wish.set a (l.take n), rfl, tl3, by rw [hlen]; exact ha, by rw [hlen]; exact wlt, _, rfl, A0 (fun c4 => ?_) (fun c4 => ?_)⟩⟩
      · have c5 : ¬ (d.now.setWish a (l.take n)).would a (withIn d.now.paired a) = true := fun z => by
          have z' : S1 (d.now.wish.set a (l.take n)) a (withIn d.now.paired a) = true := z
          rw [z'] at c4; cases c4
        rw [if_neg c5] at em
        refine ⟨_, rfl, _, rfl, .ref pm, a, _, rfl, tm3, by rw [E1]; exact ha, by rw [E1, j2 _ ha]; exact wlt, fun H4 v4 TM4 s4 => ?_⟩
        rw [V6 g.now.fit.ok ha, ← em] at TM4
        have S4 := s13.trans s4
        have TL4 := (KT.of s4).tupL tl3
        refine ⟨_, rfl, p, dx, _, rfl, S4 _ _ hp, rfl, _, rfl, _, rfl, p, q, u, v3, v4, d, (d.now.setWish a (l.take n)).mended, rfl, st.same S4, by have := g.len; omega, TL4, by rw [hmany]; exact TM4, fun H5 q5 u5 st5 fr5 f5 g5 => ?_⟩
        have fr : i3 H H5 p q u := fun b o hb h1 h2 h3 => fr5 b o (S4 b o hb) h1 h2 h3
        obtain ⟨dx5, l5, m5, hp5, tl5, tm5⟩ := st5.ins
        have TM5 : R0 H5 v4 (mOf d.now.many (d.now.setWish a (l.take n)).mended.paired) := (B6 fr5 (S4 _ _ hp) (S4 _ _ hq0) (S4 _ _ hu0)).tupN TM4
        refine ⟨_, rfl, _, rfl, v4, _, rfl, TM5, by rw [E1]; exact g.now.n7, fun H6 s6 => ⟨M3, fun r hr0 => ?_⟩⟩
        refine k.fin st e1 st5 fr (.inr (S4.free f5)) (.inr (S4.free g5)) ?_ (s6.trans (p0 _ hr0)) (s6.free hr0) i0
        rw [k5 (show Ok d.now.many (d.now.setWish a (l.take n)).mended.paired by rw [← hmany]; exact gH.fit.ok), el]
        rfl
      · have c5 : (d.now.setWish a (l.take n)).would a (withIn d.now.paired a) = true := by
          have c6 : S1 (d.now.wish.set a (l.take n)) a (withIn d.now.paired a) = true := by simpa using c4
          exact c6
        rw [if_pos c5] at em
        have TM4 := tm3
        rw [← em] at TM4
        have S4 := s13
        have TL4 := tl3
        refine ⟨_, rfl, p, dx, _, rfl, S4 _ _ hp, rfl, _, rfl, _, rfl, p, q, u, v3, (.ref pm), d, (d.now.setWish a (l.take n)).mended, rfl, st.same S4, by have := g.len; omega, TL4, by rw [hmany]; exact TM4, fun H5 q5 u5 st5 fr5 f5 g5 => ?_⟩
        have fr : i3 H H5 p q u := fun b o hb h1 h2 h3 => fr5 b o (S4 b o hb) h1 h2 h3
        obtain ⟨dx5, l5, m5, hp5, tl5, tm5⟩ := st5.ins
        have TM5 : R0 H5 (.ref pm) (mOf d.now.many (d.now.setWish a (l.take n)).mended.paired) := (B6 fr5 (S4 _ _ hp) (S4 _ _ hq0) (S4 _ _ hu0)).tupN TM4
        refine ⟨_, rfl, _, rfl, (.ref pm), _, rfl, TM5, by rw [E1]; exact g.now.n7, fun H6 s6 => ⟨M3, fun r hr0 => ?_⟩⟩
        refine k.fin st e1 st5 fr (.inr (S4.free f5)) (.inr (S4.free g5)) ?_ (s6.trans (p0 _ hr0)) (s6.free hr0) i0
        rw [k5 (show Ok d.now.many (d.now.setWish a (l.take n)).mended.paired by rw [← hmany]; exact gH.fit.ok), el]
        rfl
def zz4 (C : Addr) : Sp := fun vs H Q _ => ∃ (p q u : Addr) (a i j : Nat) (d : Desk), vs = [.ref p, nV a, nV i, nV j] ∧ StAt C H p q u d ∧ GoodD d ∧ Y0 C H p q u d (.swap a i j) Q
include T in
theorem zU1 : FnOk P w K mg base CX0 3 A.f_ho_swap A.d_ho_swap ["students", "a", "i", "j"] (zz4 A.C_Students) := by
  refine T.F_ho_swap.ok zJ8 (fun vs H Q E h => ?_) (fun cdv Ar outer s H vs Q E hr h => ?_)
  · obtain ⟨p, q, u, a, i, j, d, rfl, _⟩ := h
    rfl
  · obtain ⟨p, q, u, a, i, j, d, rfl, st, g, k⟩ := h
    obtain ⟨dx, l0, m0, hp, tl, tm⟩ := st.ins
    obtain ⟨_, hq0, _⟩ := st.past
    obtain ⟨_, hu0, _⟩ := st.und
    refine ⟨_, (j0 (B0 (N1 (X0 (G1 (pv 0) T.cl_Students T.me_Students_has (X1 T) (hr.mono (by decide)) T.b_Students_has .nil pass0 (pa_cons (pv 1) c0)))) (g0 (n0 (G0 (pa_cons (V0 rfl T.c_NOT_THERE) c0)))) C0)
      (j0 (T0 (i := 4) zJ8.nd rfl (.inl rfl) (g2 D6 (by rfl) T.list PyProof.Rows.boot_list (pa_cons (pe_ix j1 (I0 (pv 0) rfl) (pv 1) (fun _ _ => rfl)) c0)))
      (j0 (B0 (PW.pt (M2 (J0 p6 (pv 2) (N0 O0 (by rfl) T.len PySem.boot_len (pa_cons (pv 4) c0)) (F0 _)) (M2 (J0 p6 (pv 3) (N0 O0 (by rfl) T.len PySem.boot_len (pa_cons (pv 4) c0)) (F0 _)) (j3 (J0 U0 (pv 2) (pv 3) (F0 _)))))) (g0 (n0 (G0 (pa_cons (V0 rfl T.c_WRONG) c0)))) C0)
      (j0 (T0 (i := 5) zJ8.nd rfl (.inl rfl) (pe_ix ix_list (pv 4) (pv 2) (fun _ _ => rfl)))
      (j0 (T0 (i := 6) zJ8.nd rfl (.inl rfl) (pe_ix ix_list (pv 4) (pv 3) (fun _ _ => rfl)))
      (j0 (d4 (pv 6) (i4 (pv 4) (pv 2) Z3))
      (j0 (d4 (pv 5) (i4 (pv 4) (pv 3) Z3))
      (j0 (Q1 (G1 (pv 0) T.cl_Students T.me_Students_change (G5 T) (hr.mono (by decide)) T.b_Students_change .nil pass0 (pa_cons (o0 (zk0 T) (hr.mono (by decide)) rfl T.m_with_list T.F_with_list.kp T.b_with_list .nil pass0 (pa_cons (I0 (pv 0) rfl) (pa_cons (pv 1) (pa_cons (pv 4) c0)))) (pa_cons (I0 (pv 0) rfl) c0))))
      (g0 (n0 (G0 (pa_cons (pv 5) (pa_cons (pv 6) c0))))))))))))), ?_⟩
    refine ⟨_, rfl, p, dx, _, rfl, hp, rfl, _, rfl, p, q, u, a, d, rfl, st, _, rfl, A0 (fun c => ?_) (fun c => ?_)⟩
    · have c' : d.now.many ≤ a := by simpa using c
      exact ⟨L0, fun r hr0 => k.ref st (if_pos c') hr0⟩
    · have ha : a < d.now.many := by simpa using c
      have ha' : ¬ d.now.many ≤ a := by omega
      have tl0 := tl
      obtain ⟨pl, vs, rfl, hl, hE⟩ := tl0
      obtain ⟨va, ga, pa, rfl, hpa⟩ := hE.get (V3 (L := d.now.wish) ha)
      refine ⟨_, rfl, p, _, dx, _, _, rfl, hp, T.cl_Students, T.n_lists, rfl, _, rfl, rdT hl ga ⟨pa, _, rfl, .inr (SqT.of hpa), fun w hw => ?_⟩⟩
      have eL : d.now.wish.getD a [] = d.now.list a := rfl
      rw [eL]
      have s1 := p0 (.lst (nVs (d.now.list a))) hw
      have hw1 : upd H w (.lst (nVs (d.now.list a))) w = some (.lst (nVs (d.now.list a))) := i0
      generalize upd H w (.lst (nVs (d.now.list a))) = H1 at *
      have wrong : ((d.now.list a).length ≤ i ∨ (d.now.list a).length ≤ j ∨ i = j) → ∀ (r : Addr), H1 r = Option.none → Q (.ref r) (upd H1 r (.lst [.int (-22)])) := fun z r hr0 =>
        k.read st (show act d (.swap a i j) = (d, only (-22)) from (if_neg ha').trans (if_pos z)) rfl (s1.trans (p0 _ hr0)) (s1.free hr0) i0
      have elen : (nVs (d.now.list a)).length = (d.now.list a).length := List.length_map _
      refine ⟨_, rfl, _, rfl, _, _, rfl, .inl (SqL.of hw1), S6 ⟨_, rfl, A0 (fun c1 => C2 ⟨L0, fun r hr0 => wrong (.inl (by rw [← elen]; exact of_decide_eq_true c1)) r hr0⟩) (fun c1 => ?_)⟩⟩
      refine ⟨_, rfl, _, rfl, _, _, rfl, .inl (SqL.of hw1), S6 ⟨_, rfl, A0 (fun c2 => C2 ⟨L0, fun r hr0 => wrong (.inr (.inl (by rw [← elen]; exact of_decide_eq_true c2))) r hr0⟩) (fun c2 => ?_)⟩⟩
      refine ⟨_, rfl, _, rfl, C3 ⟨_, rfl, A0 (fun c3 => ⟨L0, fun r hr0 => wrong (.inr (.inr (of_decide_eq_true c3))) r hr0⟩) (fun c3 => ?_)⟩⟩
      have hi : i < (d.now.list a).length := by
        have : ¬ (nVs (d.now.list a)).length ≤ i := fun z => c1 (decide_eq_true z)
        rw [elen] at this; omega
      have hj : j < (d.now.list a).length := by
        have : ¬ (nVs (d.now.list a)).length ≤ j := fun z => c2 (decide_eq_true z)
        rw [elen] at this; omega
      have hij : ¬ i = j := fun z => c3 (decide_eq_true z)
      have gi := T1 (E2 hi)
      have gj := T1 (E2 hj)
      refine ⟨_, rfl, _, rfl, rdL (SqL.of hw1) gi ⟨_, rfl, _, rfl, rdL (SqL.of hw1) gj ⟨_, rfl, _, rfl, _, rfl, C4 hw1 (by rw [elen]; exact hi) ?_⟩⟩⟩
      rw [a5]
      refine ⟨_, rfl, _, rfl, _, rfl, C4 i0 (by rw [List.length_map, List.length_set]; exact hj) ?_⟩
      rw [a5, W4]
      have s2 : x0 H (upd H1 w (.lst (nVs (((d.now.list a).set i ((d.now.list a).getD j 0)).set j ((d.now.list a).getD i 0))))) := R1 s1 _ hw
      have hw2 : upd H1 w (.lst (nVs (((d.now.list a).set i ((d.now.list a).getD j 0)).set j ((d.now.list a).getD i 0)))) w = some (.lst (nVs (((d.now.list a).set i ((d.now.list a).getD j 0)).set j ((d.now.list a).getD i 0)))) := i0
      generalize upd H1 w (.lst (nVs (((d.now.list a).set i ((d.now.list a).getD j 0)).set j ((d.now.list a).getD i 0)))) = H2 at *
      refine ⟨_, rfl, p, dx, _, rfl, s2 _ _ hp, rfl, _, rfl, p, _, dx, _, _, rfl, s2 _ _ hp, T.cl_Students, T.n_lists, rfl, _, rfl, _, rfl, .ref pl, w, a, d.now.wish, _, rfl, (KT.of s2).tupL tl, ha, hw2, fun H3 v3 tl3 s3 => ?_⟩
      have S3 := s2.trans s3
      have hmany := j7 d.now a (((d.now.list a).set i ((d.now.list a).getD j 0)).set j ((d.now.list a).getD i 0))
      refine ⟨_, rfl, p, _, dx, _, _, rfl, S3 _ _ hp, T.cl_Students, T.n_mates, rfl, p, q, u, v3, m0, d, d.now.setWish a (((d.now.list a).set i ((d.now.list a).getD j 0)).set j ((d.now.list a).getD i 0)), rfl, st.same S3, by have := g.len; omega, tl3, by rw [hmany]; exact (KT.of S3).tupN tm, fun H5 q5 u5 st5 fr5 f5 g5 => ?_⟩
      have e1 : act d (.swap a i j) = (d.become (d.now.setWish a (((d.now.list a).set i ((d.now.list a).getD j 0)).set j ((d.now.list a).getD i 0))), ⟨(((d.now.list a).getD i 0 : Nat) : Int), [(d.now.list a).getD j 0]⟩) := (if_neg ha').trans (if_neg (by omega))
      refine ⟨_, rfl, _, rfl, M3, fun r hr0 => ?_⟩
      exact k.fin st e1 st5 (fun b o hb h1 h2 h3 => fr5 b o (S3 b o hb) h1 h2 h3) (.inr (S3.free f5)) (.inr (S3.free g5)) rfl (p0 _ hr0) hr0 i0
def zB2 (C : Addr) : Sp := fun vs H Q _ => ∃ (p q u : Addr) (a b : Nat) (d : Desk), vs = [.ref p, nV a, nV b] ∧ StAt C H p q u d ∧ GoodD d ∧ Y0 C H p q u d (.pair a b) Q
include T in
theorem zU9 : FnOk P w K mg base CX0 3 A.f_ho_pair A.d_ho_pair ["students", "a", "b"] (zB2 A.C_Students) := by
  refine T.F_ho_pair.ok zK6 (fun vs H Q E h => ?_) (fun cdv Ar outer s H vs Q E hr h => ?_)
  · obtain ⟨p, q, u, a, b, d, rfl, _⟩ := h
    rfl
  · obtain ⟨p, q, u, a, b, d, rfl, st, g, k⟩ := h
    obtain ⟨dx, l0, m0, hp, tl, tm⟩ := st.ins
    obtain ⟨_, hq0, _⟩ := st.past
    obtain ⟨_, hu0, _⟩ := st.und
    refine ⟨_, (j0 (B0 (PW.pt (M2 (N1 (X0 (G1 (pv 0) T.cl_Students T.me_Students_has (X1 T) (hr.mono (by decide)) T.b_Students_has .nil pass0 (pa_cons (pv 1) c0)))) (j3 (N1 (X0 (G1 (pv 0) T.cl_Students T.me_Students_has (X1 T) (hr.mono (by decide)) T.b_Students_has .nil pass0 (pa_cons (pv 2) c0))))))) (g0 (n0 (G0 (pa_cons (V0 rfl T.c_NOT_THERE) c0)))) C0)
      (j0 (B0 (N1 (X0 (o0 (F5 T) (hr.mono (by decide)) rfl T.m_would_share T.F_would_share.kp T.b_would_share .nil pass0 (pa_cons (I0 (pv 0) rfl) (pa_cons (pv 1) (pa_cons (pv 2) c0)))))) (g0 (n0 (G0 (pa_cons (V0 rfl T.c_NOT_SO) c0)))) C0)
      (j0 (B0 (PW.pt (M2 (J0 n6 (pe_ix j1 (I0 (pv 0) rfl) (pv 1) (fun _ _ => rfl)) (pv 1) (F0 _)) (j3 (J0 n6 (pe_ix j1 (I0 (pv 0) rfl) (pv 2) (fun _ _ => rfl)) (pv 2) (F0 _))))) (g0 (n0 (G0 (pa_cons (V0 rfl T.c_PAIRED) c0)))) C0)
      (j0 (T0 (i := 3) zK6.nd rfl (.inl rfl) (o0 (w8 T) (hr.mono (by decide)) rfl T.m_paired T.F_paired.kp T.b_paired .nil pass0 (pa_cons (I0 (pv 0) rfl) (pa_cons (pv 1) (pa_cons (pv 2) c0)))))
      (j0 (Q1 (G1 (pv 0) T.cl_Students T.me_Students_change (G5 T) (hr.mono (by decide)) T.b_Students_change .nil pass0 (pa_cons (I0 (pv 0) rfl) (pa_cons (pv 3) c0))))
      (g0 (n0 (G0 (pa_cons (o0 (u6 T) (hr.mono (by decide)) rfl T.m_pair_count T.F_pair_count.kp T.b_pair_count .nil pass0 (pa_cons (pv 3) c0)) c0))))))))), ?_⟩
    refine ⟨_, rfl, p, dx, _, rfl, hp, rfl, _, rfl, p, q, u, a, d, rfl, st, _, rfl, A0 (fun c => C2 ?_) (fun c => ?_)⟩
    · have c' : d.now.many ≤ a := by simpa using c
      exact ⟨L0, fun r hr0 => k.ref st (if_pos (.inl c')) hr0⟩
    refine ⟨_, rfl, p, dx, _, rfl, hp, rfl, _, rfl, p, q, u, b, d, rfl, st, _, rfl, A0 (fun c2 => ?_) (fun c2 => ?_)⟩
    · have c' : d.now.many ≤ b := by simpa using c2
      exact ⟨L0, fun r hr0 => k.ref st (if_pos (.inr c')) hr0⟩
    have ha : a < d.now.many := by simpa using c
    have hb : b < d.now.many := by simpa using c2
    have hab : ¬ (d.now.many ≤ a ∨ d.now.many ≤ b) := by omega
    refine ⟨_, rfl, p, _, dx, _, _, rfl, hp, T.cl_Students, T.n_lists, rfl, _, rfl, _, rfl, l0, a, b, d.now.wish, rfl, tl, ha, hb, _, rfl, A0 (fun c3 => ?_) (fun c3 => ?_)⟩
    · have c' : d.now.would a b = false := by
        have z : S1 d.now.wish a b = false := by simpa using c3
        exact z
      exact ⟨L0, fun r hr0 => k.ref st ((if_neg hab).trans (if_pos c')) hr0⟩
    have w : d.now.would a b = true := by
      have z : S1 d.now.wish a b = true := by simpa using c3
      exact z
    have w' : ¬ d.now.would a b = false := by rw [w]; simp
    have tm0 := tm
    obtain ⟨pm, rfl, hpm⟩ := tm0
    have gma := T1 (Q3 d.now.paired ha)
    have gmb := T1 (Q3 d.now.paired hb)
    have paired : (withIn d.now.paired a ≠ a ∨ withIn d.now.paired b ≠ b) → ∀ (r : Addr), H r = Option.none → Q (.ref r) (upd H r (.lst [.int (-16)])) := fun z r hr0 => k.ref st ((if_neg hab).trans ((if_neg w').trans (if_pos z))) hr0
    refine ⟨_, rfl, p, _, dx, _, _, rfl, hp, T.cl_Students, T.n_mates, rfl, _, rfl, rdT hpm gma ⟨_, rfl, i6 ⟨_, rfl, A0 (fun c4 => C2 ⟨L0, fun r hr0 => paired (.inl (by simpa using c4)) r hr0⟩) (fun c4 => ?_)⟩⟩⟩
    refine ⟨_, rfl, p, _, dx, _, _, rfl, hp, T.cl_Students, T.n_mates, rfl, _, rfl, rdT hpm gmb ⟨_, rfl, i6 ⟨_, rfl, A0 (fun c5 => ⟨L0, fun r hr0 => paired (.inr (by simpa using c5)) r hr0⟩) (fun c5 => ?_)⟩⟩⟩
    have wa : withIn d.now.paired a = a := by simpa using c4
    have wb : withIn d.now.paired b = b := by simpa using c5
    have hne := g.now.would_ne ha w
    refine ⟨_, rfl, p, _, dx, _, _, rfl, hp, T.cl_Students, T.n_mates, rfl, _, rfl, _, rfl, .ref pm, a, b, _, rfl, tm, by rw [E1]; exact ha, by rw [E1]; exact hb, GoodH.in_ g.now, fun H1 v1 tm1 s1 => ?_⟩
    rw [zj0 g.now.fit.ok hne ha hb wa wb] at tm1
    refine ⟨_, rfl, p, dx, _, rfl, s1 _ _ hp, rfl, _, rfl, p, _, dx, _, _, rfl, s1 _ _ hp, T.cl_Students, T.n_lists, rfl, _, rfl, p, q, u, l0, v1, d, { d.now with paired := d.now.paired ++ [key a b] }, rfl, st.same s1, by have := g.len; omega, (KT.of s1).tupL tl, tm1, fun H5 q5 u5 st5 fr5 f5 g5 => ?_⟩
    have e1 : act d (.pair a b) = (d.become { d.now with paired := d.now.paired ++ [key a b] }, only ((d.now.paired.length + 1 : Nat) : Int)) := (if_neg hab).trans ((if_neg w').trans (if_neg (fun z => z.elim (fun y => y wa) fun y => y wb)))
    have tm5 := (B6 fr5 (s1 _ _ hp) (s1 _ _ hq0) (s1 _ _ hu0)).tupN tm1
    refine ⟨_, rfl, v1, _, rfl, tm5, by rw [E1]; exact g.now.n7, fun H6 s6 => ⟨L0, fun r hr0 => ?_⟩⟩
    refine k.fin st e1 st5 (fun b o hb h1 h2 h3 => fr5 b o (s1 b o hb) h1 h2 h3) (.inr (s1.free f5)) (.inr (s1.free g5)) ?_ (s6.trans (p0 _ hr0)) (s6.free hr0) i0
    rw [k5 (g.now.fit.ok.key hne ha hb (g.now.fit.ok.ne_mem wa) (g.now.fit.ok.ne_mem wb)), List.length_append]
    rfl
def zB0 (C : Addr) : Sp := fun vs H Q _ => ∃ (p q u : Addr) (a : Nat) (d : Desk), vs = [.ref p, nV a] ∧ StAt C H p q u d ∧ GoodD d ∧ Y0 C H p q u d (.part a) Q
include T in
theorem zU8 : FnOk P w K mg base CX0 3 A.f_ho_part A.d_ho_part ["students", "a"] (zB0 A.C_Students) := by
  refine T.F_ho_part.ok zK5 (fun vs H Q E h => ?_) (fun cdv Ar outer s H vs Q E hr h => ?_)
  · obtain ⟨p, q, u, a, d, rfl, _⟩ := h
    rfl
  · obtain ⟨p, q, u, a, d, rfl, st, g, k⟩ := h
    obtain ⟨dx, l0, m0, hp, tl, tm⟩ := st.ins
    refine ⟨_, (j0 (B0 (N1 (X0 (G1 (pv 0) T.cl_Students T.me_Students_has (X1 T) (hr.mono (by decide)) T.b_Students_has .nil pass0 (pa_cons (pv 1) c0)))) (g0 (n0 (G0 (pa_cons (V0 rfl T.c_NOT_THERE) c0)))) C0)
      (j0 (T0 (i := 2) zK5.nd rfl (.inl rfl) (pe_ix j1 (I0 (pv 0) rfl) (pv 1) (fun _ _ => rfl)))
      (j0 (B0 (J0 U0 (pv 2) (pv 1) (F0 _)) (g0 (n0 (G0 (pa_cons (V0 rfl T.c_ALONE) c0)))) C0)
      (j0 (Q1 (G1 (pv 0) T.cl_Students T.me_Students_change (G5 T) (hr.mono (by decide)) T.b_Students_change .nil pass0 (pa_cons (I0 (pv 0) rfl) (pa_cons (o0 (b7 T) (hr.mono (by decide)) rfl T.m_parted T.F_parted.kp T.b_parted .nil pass0 (pa_cons (I0 (pv 0) rfl) (pa_cons (pv 1) c0))) c0))))
      (g0 (n0 (G0 (pa_cons (pv 2) c0)))))))), ?_⟩
    refine ⟨_, rfl, p, dx, _, rfl, hp, rfl, _, rfl, p, q, u, a, d, rfl, st, _, rfl, A0 (fun c => ?_) (fun c => ?_)⟩
    · have c' : d.now.many ≤ a := by simpa using c
      exact ⟨L0, fun r hr0 => k.ref st (if_pos c') hr0⟩
    have ha : a < d.now.many := by simpa using c
    have ha' : ¬ d.now.many ≤ a := by omega
    have tm0 := tm
    obtain ⟨pm, rfl, hpm⟩ := tm0
    have gma := T1 (Q3 d.now.paired ha)
    refine ⟨_, rfl, p, _, dx, _, _, rfl, hp, T.cl_Students, T.n_mates, rfl, _, rfl, rdT hpm gma ⟨_, rfl, _, rfl, C3 ⟨_, rfl, A0 (fun c2 => ⟨L0, fun r hr0 => k.ref st ((if_neg ha').trans (if_pos (of_decide_eq_true c2))) hr0⟩) (fun c2 => ?_)⟩⟩⟩
    have c2' : ¬ withIn d.now.paired a = a := fun z => c2 (decide_eq_true z)
    refine ⟨_, rfl, p, dx, _, rfl, hp, rfl, _, rfl, p, _, dx, _, _, rfl, hp, T.cl_Students, T.n_lists, rfl, _, rfl, p, _, dx, _, _, rfl, hp, T.cl_Students, T.n_mates, rfl, _, rfl, .ref pm, a, _, rfl, tm, by rw [E1]; exact ha, by rw [E1, j2 _ ha]; exact g.now.fit.ok.lt_of ha, fun H1 v1 tm1 s1 => ?_⟩
    rw [V6 g.now.fit.ok ha] at tm1
    refine ⟨p, q, u, l0, v1, d, d.now.unpair [a], rfl, st.same s1, by have := g.len; omega, (KT.of s1).tupL tl, tm1, fun H5 q5 u5 st5 fr5 f5 g5 => ?_⟩
    have e1 : act d (.part a) = (d.become (d.now.unpair [a]), only ((withIn d.now.paired a : Nat) : Int)) := (if_neg ha').trans (if_neg c2')
    refine ⟨_, rfl, L0, fun r hr0 => ?_⟩
    exact k.fin st e1 st5 (fun b o hb h1 h2 h3 => fr5 b o (s1 b o hb) h1 h2 h3) (.inr (s1.free f5)) (.inr (s1.free g5)) rfl (p0 _ hr0) hr0 i0
def zE6 (C : Addr) : Sp := fun vs H Q _ => ∃ (p q u : Addr) (a b : Nat) (d : Desk), vs = [.ref p, nV a, nV b] ∧ StAt C H p q u d ∧ GoodD d ∧ Y0 C H p q u d (.break_ a b) Q
include T in
theorem zW0 : FnOk P w K mg base CX0 5 A.f_ho_break A.d_ho_break ["students", "a", "b"] (zE6 A.C_Students) := by
  refine T.F_ho_break.ok zL7 (fun vs H Q E h => ?_) (fun cdv Ar outer s H vs Q E hr h => ?_)
  · obtain ⟨p, q, u, a, b, d, rfl, _⟩ := h
    rfl
  · obtain ⟨p, q, u, a, b, d, rfl, st, g, k⟩ := h
    obtain ⟨dx, l0, m0, hp, tl, tm⟩ := st.ins
    obtain ⟨_, hq0, _⟩ := st.past
    obtain ⟨_, hu0, _⟩ := st.und
    refine ⟨_, (j0 (B0 (PW.pt (M2 (N1 (X0 (G1 (pv 0) T.cl_Students T.me_Students_has (X1 T) (hr.mono (by decide)) T.b_Students_has .nil pass0 (pa_cons (pv 1) c0)))) (j3 (N1 (X0 (G1 (pv 0) T.cl_Students T.me_Students_has (X1 T) (hr.mono (by decide)) T.b_Students_has .nil pass0 (pa_cons (pv 2) c0))))))) (g0 (n0 (G0 (pa_cons (V0 rfl T.c_NOT_THERE) c0)))) C0)
      (j0 (B0 (N1 (X0 (o0 (Z6 T) (hr.mono (by decide)) rfl T.m_would_break T.F_would_break.kp T.b_would_break .nil pass0 (pa_cons (I0 (pv 0) rfl) (pa_cons (I0 (pv 0) rfl) (pa_cons (pv 1) (pa_cons (pv 2) c0))))))) (g0 (n0 (G0 (pa_cons (V0 rfl T.c_NOT_SO) c0)))) C0)
      (j0 (T0 (i := 3) zL7.nd rfl (.inl rfl) (o0 (w8 T) (hr.mono (by decide)) rfl T.m_paired T.F_paired.kp T.b_paired .nil pass0 (pa_cons (I0 (pv 0) rfl) (pa_cons (pv 1) (pa_cons (pv 2) c0)))))
      (j0 (Q1 (G1 (pv 0) T.cl_Students T.me_Students_change (G5 T) (hr.mono (by decide)) T.b_Students_change .nil pass0 (pa_cons (I0 (pv 0) rfl) (pa_cons (pv 3) c0))))
      (g0 (n0 (G0 (pa_cons (o0 (u6 T) (hr.mono (by decide)) rfl T.m_pair_count T.F_pair_count.kp T.b_pair_count .nil pass0 (pa_cons (pv 3) c0)) (pa_cons (N0 O0 (by rfl) T.len PySem.boot_len (pa_cons (o0 (zk9 T) (hr.mono (by decide)) rfl T.m_breakers T.F_breakers.kp T.b_breakers .nil pass0 (pa_cons (I0 (pv 0) rfl) (pa_cons (pv 3) c0))) c0)) c0))))))))), ?_⟩
    refine ⟨_, rfl, p, dx, _, rfl, hp, rfl, _, rfl, p, q, u, a, d, rfl, st, _, rfl, A0 (fun c => C2 ?_) (fun c => ?_)⟩
    · have c' : d.now.many ≤ a := by simpa using c
      exact ⟨L0, fun r hr0 => k.ref st (if_pos (.inl c')) hr0⟩
    refine ⟨_, rfl, p, dx, _, rfl, hp, rfl, _, rfl, p, q, u, b, d, rfl, st, _, rfl, A0 (fun c2 => ?_) (fun c2 => ?_)⟩
    · have c' : d.now.many ≤ b := by simpa using c2
      exact ⟨L0, fun r hr0 => k.ref st (if_pos (.inr c')) hr0⟩
    have ha : a < d.now.many := by simpa using c
    have hb : b < d.now.many := by simpa using c2
    have hab : ¬ (d.now.many ≤ a ∨ d.now.many ≤ b) := by omega
    refine ⟨_, rfl, p, _, dx, _, _, rfl, hp, T.cl_Students, T.n_lists, rfl, _, rfl, p, _, dx, _, _, rfl, hp, T.cl_Students, T.n_mates, rfl, _, rfl, _, rfl, l0, m0, a, b, d.now.wish, _, rfl, tl, tm, k4 g.now.fit, ha, hb, _, rfl, A0 (fun c3 => ?_) (fun c3 => ?_)⟩
    · have c' : d.now.breaks d.now.paired a b = false := by
        rw [← G7 d.now ha hb]
        simpa using c3
      exact ⟨L0, fun r hr0 => k.ref st ((if_neg hab).trans (if_pos c')) hr0⟩
    have br : d.now.breaks d.now.paired a b = true := by
      rw [← G7 d.now ha hb]
      simpa using c3
    have br' : ¬ d.now.breaks d.now.paired a b = false := by rw [br]; simp
    have w := zs9 br
    have hne := g.now.would_ne ha w
    refine ⟨_, rfl, p, _, dx, _, _, rfl, hp, T.cl_Students, T.n_mates, rfl, _, rfl, _, rfl, m0, a, b, _, rfl, tm, by rw [E1]; exact ha, by rw [E1]; exact hb, GoodH.in_ g.now, fun H1 v1 tm1 s1 => ?_⟩
    rw [zi9 g.now.fit.ok hne ha hb] at tm1
    refine ⟨_, rfl, p, dx, _, rfl, s1 _ _ hp, rfl, _, rfl, p, _, dx, _, _, rfl, s1 _ _ hp, T.cl_Students, T.n_lists, rfl, _, rfl, p, q, u, l0, v1, d, { d.now with paired := d.now.paired.filter (notouch [a, b]) ++ [key a b] }, rfl, st.same s1, by have := g.len; omega, (KT.of s1).tupL tl, tm1, fun H5 q5 u5 st5 fr5 f5 g5 => ?_⟩
    have fit' : Fit d.now (d.now.paired.filter (notouch [a, b]) ++ [key a b]) := (g.now.fit.filter (notouch [a, b])).pair hne ha hb w (K5 (by simp)) (K5 (by simp))
    have e1 : act d (.break_ a b) = (d.become { d.now with paired := d.now.paired.filter (notouch [a, b]) ++ [key a b] }, ⟨(((d.now.paired.filter (notouch [a, b]) ++ [key a b]).length : Nat) : Int), [(d.now.breakers (d.now.paired.filter (notouch [a, b]) ++ [key a b])).length]⟩) := (if_neg hab).trans (if_neg br')
    have kt5 := B6 fr5 (s1 _ _ hp) (s1 _ _ hq0) (s1 _ _ hu0)
    have tm5 := kt5.tupN tm1
    obtain ⟨dx5, l5, m5, hp5, tl5, tm5'⟩ := st5.ins
    refine ⟨_, rfl, v1, _, rfl, tm5, by rw [E1]; exact g.now.n7, fun H6 s6 => ?_⟩
    refine ⟨_, rfl, p, _, dx5, _, _, rfl, s6 _ _ hp5, T.cl_Students, T.n_lists, rfl, _, rfl, l5, v1, d.now.wish, _, rfl, (KT.of s6).tupL tl5, (KT.of s6).tupN tm5, k4 fit', g.now.n7, fun H7 r7 ⟨ws, e7, w7⟩ s7 f7 => ⟨_, _, rfl, .inl (SqL.of e7), ⟨M3, fun r hr0 => ?_⟩⟩⟩
    refine k.fin st e1 st5 (fun b o hb h1 h2 h3 => fr5 b o (s1 b o hb) h1 h2 h3) (.inr (s1.free f5)) (.inr (s1.free g5)) ?_ ((s6.trans s7).trans (p0 _ hr0)) ((s6.trans s7).free hr0) i0
    rw [k5 fit'.ok, w7.1, d9 d.now]
    rfl
theorem Y7 (n : Nat) (h7 : n ≤ 7) (p : List (Nat × Nat)) : d2 (mOf n p) n = Km464.toldPairs n p := by
  unfold d2 Km464.toldPairs
  apply List.map_congr_left
  intro a ha
  by_cases h : a < n
  · rw [j2 p h]
    by_cases e : withIn p a = a
    · rw [if_neg (by simp [e]), if_pos (.inr e)]
    · rw [if_pos ⟨h, e⟩, if_neg (by omega)]
  · rw [if_neg (by omega), if_pos (.inl (by omega))]
def zF5 (C : Addr) : Sp := fun vs H Q _ => ∃ (p q u : Addr) (d : Desk), vs = [.ref p] ∧ StAt C H p q u d ∧ GoodD d ∧ Y0 C H p q u d .all_ Q
include T in
theorem zW4 : FnOk P w K mg base CX0 6 A.f_ho_all A.d_ho_all ["students"] (zF5 A.C_Students) := by
  refine T.F_ho_all.ok zM1 (fun vs H Q E h => ?_) (fun cdv Ar outer s H vs Q E hr h => ?_)
  · obtain ⟨p, q, u, d, rfl, _⟩ := h
    rfl
  · obtain ⟨p, q, u, d, rfl, st, g, k⟩ := h
    obtain ⟨dx, l0, m0, hp, tl, tm⟩ := st.ins
    obtain ⟨_, hq0, _⟩ := st.past
    obtain ⟨_, hu0, _⟩ := st.und
    refine ⟨_, (j0 (T0 (i := 1) zM1.nd rfl (.inl rfl) (o0 (O4 T) (hr.mono (by decide)) rfl T.m_good_pairings T.F_good_pairings.kp T.b_good_pairings .nil pass0 (pa_cons (I0 (pv 0) rfl) c0)))
      (j0 (B0 (J0 U0 (N0 O0 (by rfl) T.len PySem.boot_len (pa_cons (pv 1) c0)) pe_int (F0 _)) (g0 (n0 (G0 (pa_cons (V0 rfl T.c_NOT_SO) c0)))) C0)
      (j0 (Q1 (G1 (pv 0) T.cl_Students T.me_Students_change (G5 T) (hr.mono (by decide)) T.b_Students_change .nil pass0 (pa_cons (I0 (pv 0) rfl) (pa_cons (pe_ix ix_list (pv 1) pe_int (fun _ _ => rfl)) c0))))
      (g0 (n0 (o0 (r8 T) (hr.mono (by decide)) rfl T.m_told_pairing T.F_told_pairing.kp T.b_told_pairing .nil pass0 (pa_cons (pe_ix ix_list (pv 1) pe_int (fun _ _ => rfl)) c0))))))), ?_⟩
    refine ⟨_, rfl, p, _, dx, _, _, rfl, hp, T.cl_Students, T.n_lists, rfl, l0, d.now.wish, rfl, tl, g.now.n7, fun H1 r1 ⟨ws, e1, w1⟩ s1 f1 lz => ?_⟩
    rw [U3 d.now] at w1
    refine ⟨_, rfl, _, _, rfl, .inl (SqL.of e1), rfl, _, rfl, A0 (fun c => ?_) (fun c => ?_)⟩
    · have c' : d.now.good = [] := by
        have z := of_decide_eq_true c
        injection z with z
        have z2 : ws.length = 0 := by omega
        rw [w1.1, List.length_map] at z2
        exact List.eq_nil_of_length_eq_zero z2
      have ea : act d .all_ = (d, only (-33)) := by
        show (match d.now.good with | [] => (d, only (-33)) | m :: _ => _) = _
        rw [c']
      exact ⟨L0, fun r hr0 => k.read st ea rfl (s1.trans (p0 _ hr0)) (s1.free hr0) i0⟩
    cases hg : d.now.good with
    | nil =>
      rw [hg] at w1
      have z : ws.length = 0 := w1.1
      exact absurd (by rw [z]; rfl) c
    | cons m rest =>
      have ea : act d .all_ = (d.become { d.now with paired := m }, ⟨((m.length : Nat) : Int), Km464.toldPairs d.now.many m⟩) := by
        show (match d.now.good with | [] => (d, only (-33)) | m :: _ => _) = _
        rw [hg]
      have fm : Fit d.now m := good_fit d.now (by rw [hg]; exact List.mem_cons_self)
      rw [hg] at w1
      obtain ⟨v, hv, tv⟩ := w1.get (i := 0) (x := mOf d.now.many m) rfl
      refine ⟨_, rfl, p, dx, _, rfl, s1 _ _ hp, rfl, _, rfl, p, _, dx, _, _, rfl, s1 _ _ hp, T.cl_Students, T.n_lists, rfl, _, rfl, r1, _, _, _, rfl, rfl, SqL.of e1, K1 (j := 0) rfl hv, p, q, u, l0, v, d, { d.now with paired := m }, rfl, st.same s1, by have := g.len; omega, (KT.of s1).tupL tl, tv, fun H5 q5 u5 st5 fr5 f5 g5 => ?_⟩
      have kt5 := B6 fr5 (s1 _ _ hp) (s1 _ _ hq0) (s1 _ _ hu0)
      have e5 : H5 r1 = some (.lst ws) := fr5 r1 _ e1 (fun z => by rw [z, hp] at f1; cases f1) (fun z => by rw [z, hq0] at f1; cases f1) (fun z => by rw [z, hu0] at f1; cases f1)
      refine ⟨_, rfl, r1, _, _, _, rfl, rfl, SqL.of e5, K1 (j := 0) rfl hv, v, _, rfl, kt5.tupN tv, by rw [E1]; exact g.now.n7, fun H6 r e6 s6 hr0 => ?_⟩
      refine k.fin st ea st5 (fun b o hb h1 h2 h3 => fr5 b o (s1 b o hb) h1 h2 h3) (.inr (s1.free f5)) (.inr (s1.free g5)) ?_ s6 hr0 e6
      rw [k5 fm.ok, E1, Y7 _ g.now.n7]
      rfl
end Pl
end
section
set_option Elab.async false
set_option linter.all false
set_option maxRecDepth 100000
set_option maxHeartbeats 4000000
namespace Pl
open PySem PySem.Spec PyProof.Rows L2 PM
variable {P : Program} {w : World} {K : PySem.W.Frag} {mg : Str → Option Value} {base : Heap} {A : Ad} (T : Txt K mg base A)
open Km464 (House Desk withIn opened key only act MOST bit bits fill)
theorem g6 {σ : L2.St} {H : Hp} {A B : Hp → Prop} (h : A H) : tYes σ H (fun b H3 => if b = true then A H3 else B H3) := by
  show if true = true then A H else B H
  rw [if_pos rfl]
  exact h
theorem qi2 (l : List Nat) : ∀ w : Nat, ((l.foldl (fun w k => w + 2 ^ k) w : Nat) : Int) = (w : Int) + (l.map fun (a : Nat) => (1 : Int) * 2 ^ (((a : Nat) : Int)).toNat).sum := by
  induction l with
  | nil => intro w; simp
  | cons x l ih =>
    intro w
    rw [List.foldl_cons, ih, List.map_cons, List.sum_cons]
    rw [Int.natCast_add, Int.natCast_pow, Int.one_mul, Int.toNat_natCast]
    show (w : Int) + 2 ^ x + _ = _
    omega
theorem M5 {l : List Nat} {i : Nat} {x : V} (h : (nVs l)[i]? = some x) : ∃ b, l[i]? = some b ∧ x = nV b := by
  rw [List.getElem?_map] at h
  cases c : l[i]? with
  | none => rw [c] at h; cases h
  | some b => rw [c] at h; exact ⟨b, rfl, (Option.some.inj h).symm⟩
def T4 (H : Hp) (l : List Nat) (Q : VK) : Prop := ∀ (H' : Hp) (r : Addr), H' r = some (.lst (nVs l)) → x0 H H' → H r = Option.none → Q (.ref r) H'
def aloneL (ms : List Nat) : List Nat := (List.range ms.length).filter fun a => ms.getD a 0 == a
def zF4 : Sp := fun vs H Q _ => ∃ (m : V) (ms : List Nat), vs = [m] ∧ R0 H m ms ∧ ms.length ≤ 7 ∧ T4 H (aloneL ms) Q
include T in
theorem zl0 : FnOk P w K mg base CX0 1 A.f_alone_ones A.d_alone_ones ["mates"] (zF4) := by
  refine T.F_alone_ones.ok zN7 (fun vs H Q E h => ?_) (fun cdv Ar outer s H vs Q E hr h => ?_)
  · obtain ⟨m, ms, rfl, _⟩ := h
    rfl
  · obtain ⟨m, ms, rfl, ⟨p, rfl, hp⟩, h7, k⟩ := h
    refine ⟨_, (g0 (n0 (o3 rfl zN7.nd (m3 rfl T.range (pa_cons (N0 O0 (by rfl) T.len PySem.boot_len (pa_cons (pv 0) c0)) c0)) (g3 (own := [("a", 1)]) (by with_unfolding_all rfl)) (fun _ _ _ _ _ => O1 (i := 1) zN7.nd rfl (Or.inl rfl) (Or.inr rfl)) (fun _ _ _ _ _ => E4 (J0 U0 (pe_ix (show IxR _ (D4 K) from j1) (pv 0) (pv 1) (fun _ _ => rfl)) (pv 1) (F0 _))) (fun _ _ _ _ _ => (pv 1))))), ?_⟩
    refine ⟨_, rfl, _, _, rfl, .inr (SqT.of hp), (((nVs ms).length : Nat) : Int), rfl, (Z0 (by rw [List.length_map]; omega)).1, (Z0 (by rw [List.length_map]; omega)).2, fun D hD => u7 (lo := 0) (n := (nVs ms).length) (fun i H' => x0 H H' ∧ H' D = some (.lst (nVs ((List.range i).filter fun a => ms.getD a 0 == a)))) ⟨p0 _ hD, i0⟩ ?_ ?_⟩
    · rintro i H1 hi ⟨s1, e1⟩
      rw [List.length_map] at hi
      rw [V2]
      refine ⟨rfl, _, rfl, _, rfl, rdT (s1 _ _ hp) (T1 (E2 hi)) ⟨_, rfl, C3 ⟨_, rfl, A0 (fun e => ?_) (fun e => ?_)⟩⟩⟩
      · have e' : (ms.getD i 0 == i) = true := by simpa using e
        refine ⟨_, rfl, _, e1, ?_, R1 s1 _ hD, ?_⟩
        · rw [List.length_map]
          have h2 := List.length_filter_le (fun a => ms.getD a 0 == a) (List.range i)
          rw [List.length_range] at h2
          rw [sizeLine_eq]
          omega
        · rw [i0, List.range_succ, List.filter_append, List.filter_cons, if_pos e', List.filter_nil, N2]
          rfl
      · have e' : ¬ (ms.getD i 0 == i) = true := by simpa using e
        refine ⟨s1, ?_⟩
        rw [e1, List.range_succ, List.filter_append, List.filter_cons, if_neg e', List.filter_nil, List.append_nil]
    · rintro H1 ⟨s1, e1⟩
      rw [List.length_map] at e1
      exact k H1 D e1 s1 hD
theorem zt8 (n : Nat) (p : List (Nat × Nat)) : aloneL (mOf n p) = (List.range n).filter fun a => withIn p a == a := by
  unfold aloneL
  rw [E1]
  apply List.filter_congr
  intro a ha
  rw [j2 p (List.mem_range.mp ha)]
theorem L7 {ms : List Nat} (h : ms.length ≤ 7) : (aloneL ms).length ≤ 7 ∧ ∀ a ∈ aloneL ms, a < 7 := by
  unfold aloneL
  refine ⟨?_, fun a ha => ?_⟩
  · have h2 := List.length_filter_le (fun a => ms.getD a 0 == a) (List.range ms.length)
    rw [List.length_range] at h2
    omega
  · have := List.mem_range.mp (List.mem_filter.mp ha).1
    omega
def zz9 : Sp := fun vs H Q _ => ∃ (p : Addr) (l : List Nat), vs = [.ref p] ∧ H p = some (.lst (nVs l)) ∧ l.length ≤ 7 ∧ (∀ a ∈ l, a < 7) ∧ T4 H [l.length, bits l] Q
include T in
theorem a7 : FnOk P w K mg base CX0 1 A.f_told_set A.d_told_set ["members"] (zz9) := by
  refine T.F_told_set.ok zH4 (fun vs H Q E h => ?_) (fun cdv Ar outer s H vs Q E hr h => ?_)
  · obtain ⟨p, l, rfl, _⟩ := h
    rfl
  · obtain ⟨p, l, rfl, hp, l7, lt7, k⟩ := h
    refine ⟨_, (g0 (n0 (G0 (pa_cons (N0 O0 (by rfl) T.len PySem.boot_len (pa_cons (pv 0) c0)) (pa_cons (N0 (X8 rfl) (by rfl) T.sum PyProof.Rows.boot_sum (pa_cons (o3 rfl zH4.nd (L4 (pv 0)) (g3 (own := [("a", 1)]) (by with_unfolding_all rfl)) (fun _ _ _ _ _ => O1 (i := 1) zH4.nd rfl (Or.inl rfl) (Or.inr rfl)) (fun _ _ _ _ _ => j6) (fun _ _ _ _ _ => (B1 zS3 pe_int (pv 1)))) c0)) c0))))), ?_⟩
    refine ⟨_, rfl, _, _, rfl, .inl (SqL.of hp), _, rfl, p, rfl, ⟨_, SqL.of hp⟩, fun D hD => Q5 (K := K) (a := p) (xs := nVs l) (fun i H' => x0 H H' ∧ H' D = some (.lst (((l.take i).map fun (a : Nat) => (1 : Int) * 2 ^ (((a : Nat) : Int)).toNat).map V.int))) ⟨p0 _ hD, i0⟩ (fun i H' _ ⟨s1, _⟩ => SqL.of (s1 _ _ hp)) ?_ ?_⟩
    · rintro i x H1 hi ⟨s1, e1⟩
      obtain ⟨b, hb, rfl⟩ := M5 hi
      have hb7 := lt7 b (List.mem_of_getElem? hb)
      refine ⟨rfl, g6 ?_⟩
      refine ⟨_, rfl, _, _, rfl, rfl, ⟨by omega, by omega, by decide⟩, _, e1, ?_, R1 s1 _ hD, ?_⟩
      · rw [List.length_map, List.length_map, List.length_take, sizeLine_eq]
        omega
      · rw [i0, Z1 hb, List.map_append, List.map_append]
        rfl
    · rintro H1 ⟨s1, e1⟩
      rw [List.length_map, List.take_length] at e1
      refine ⟨D, _, rfl, SqL.of e1, M3, fun r hr0 => ?_⟩
      have hs := qi2 l 0
      rw [show (((0 : Nat) : Int)) = 0 from rfl, Int.zero_add] at hs
      rw [← hs, List.length_map]
      exact k _ r i0 (s1.trans (p0 _ hr0)) (s1.free hr0)
def qj9 (H : Hp) (v : V) (l : List Nat) : Prop := R0 H v l ∨ ∃ a, v = .ref a ∧ H a = some (.lst (nVs l))
def zA0 : Sp := fun vs H Q _ => ∃ (m : V) (l : List Nat) (n : Nat), vs = [m, nV n] ∧ qj9 H m l ∧ l.length ≤ n ∧ n ≤ 7 ∧ T4 H (fill n (l.map fun b => b + 1)) Q
theorem zg4 {H H1 : Hp} {l : List Nat} {n : Nat} {Q : VK} {D : Addr} (hln : l.length ≤ n) (hn7 : n ≤ 7) (k : T4 H (fill n (l.map fun b => b + 1)) Q) (s1 : x0 H H1) (e1 : H1 D = some (.lst (nVs (l.map fun b => b + 1)))) {t r : Addr} (ht : H1 t = Option.none) (w : (1 : Nat) ≤ sizeLine) :
    ∃ (l0 : Addr) (k0 : Int) (xs : List V), V.ref t = .ref l0 ∧ V.int (((n : Nat) : Int) - ((l.length : Nat) : Int)) = .int k0 ∧ upd H1 t (.lst [V.int 0]) l0 = some (.lst xs) ∧ -(2 ^ 63) ≤ k0 ∧ k0 < 2 ^ 63 ∧ xs.length * k0.toNat ≤ sizeLine ∧
      ∀ p, upd H1 t (.lst [V.int 0]) p = none → ∃ (l1 b1 : Addr) (xs1 zs1 : List V), V.ref D = .ref l1 ∧ V.ref p = .ref b1 ∧ upd (upd H1 t (.lst [V.int 0])) p (.lst (List.replicate k0.toNat xs).flatten) l1 = some (.lst xs1) ∧ upd (upd H1 t (.lst [V.int 0])) p (.lst (List.replicate k0.toNat xs).flatten) b1 = some (.lst zs1) ∧ xs1.length + zs1.length ≤ sizeLine ∧
        ∀ p1, upd (upd H1 t (.lst [V.int 0])) p (.lst (List.replicate k0.toNat xs).flatten) p1 = none → Q (.ref p1) (upd (upd (upd H1 t (.lst [V.int 0])) p (.lst (List.replicate k0.toNat xs).flatten)) p1 (.lst (xs1 ++ zs1))) := by
  have ek : (((n : Nat) : Int) - ((l.length : Nat) : Int)).toNat = n - l.length := by omega
  refine ⟨t, _, [V.int 0], rfl, rfl, i0, by omega, by omega, ?_, fun p hp => ?_⟩
  · rw [ek, sizeLine_eq]
    show 1 * (n - l.length) ≤ _
    omega
  have s2 := p0 (.lst [V.int 0]) ht
  have s3 := s2.trans (p0 (.lst (List.replicate (((n : Nat) : Int) - ((l.length : Nat) : Int)).toNat [V.int 0]).flatten) hp)
  have er : (List.replicate (((n : Nat) : Int) - ((l.length : Nat) : Int)).toNat [V.int 0]).flatten = nVs (List.replicate (n - l.length) 0) := by
    rw [ek, Z7]
    show _ = (List.replicate (n - l.length) 0).map nV
    rw [List.map_replicate]
    rfl
  refine ⟨D, p, _, _, rfl, rfl, s3 _ _ e1, i0, ?_, fun p1 hp1 => ?_⟩
  · rw [er]
    simp only [List.length_map, List.length_replicate]
    rw [sizeLine_eq]
    omega
  · have ef : fill n (l.map fun b => b + 1) = (l.map fun b => b + 1) ++ List.replicate (n - l.length) 0 := by
      rw [zq4 (by rw [List.length_map]; exact hln), List.length_map]
    refine k _ p1 ?_ ((s1.trans s3).trans (p0 _ hp1)) ((s1.trans s3).free hp1)
    rw [i0, ef, er, N2]
include T in
theorem p8 : FnOk P w K mg base CX0 1 A.f_told_row A.d_told_row ["members", "length"] (zA0) := by
  refine T.F_told_row.ok zH5 (fun vs H Q E h => ?_) (fun cdv Ar outer s H vs Q E hr h => ?_)
  · obtain ⟨m, l, n, rfl, _⟩ := h
    rfl
  · obtain ⟨m, l, n, rfl, hS, hln, hn7, k⟩ := h
    rcases hS with ⟨p, rfl, hp⟩ | ⟨p, rfl, hp⟩
    · refine ⟨_, (g0 (n0 (B1 Z4 (o3 rfl zH5.nd (d8 (pv 0)) (g3 (own := [("a", 2)]) (by with_unfolding_all rfl)) (fun _ _ _ _ _ => O1 (i := 2) zH5.nd rfl (Or.inl rfl) (Or.inr rfl)) (fun _ _ _ _ _ => j6) (fun _ _ _ _ _ => (B1 D3 (pv 2) pe_int))) (B1 m6 (G0 (pa_cons pe_int c0)) (B1 m8 (pv 1) (N0 O0 (by rfl) T.len PySem.boot_len (pa_cons (pv 0) c0))))))), ?_⟩
      refine ⟨_, rfl, p, rfl, ⟨_, SqT.of hp⟩, fun D hD => G8 (K := K) (a := p) (xs := nVs l) (fun i H' => x0 H H' ∧ H' D = some (.lst (nVs ((l.take i).map fun b => b + 1)))) ⟨p0 _ hD, i0⟩ (fun i H' _ ⟨s1, _⟩ => SqT.of (s1 _ _ hp)) ?_ ?_⟩
      · rintro i x H1 hi ⟨s1, e1⟩
        obtain ⟨b, hb, rfl⟩ := M5 hi
        refine ⟨rfl, g6 ⟨_, rfl, _, _, rfl, rfl, _, e1, ?_, R1 s1 _ hD, ?_⟩⟩
        · rw [List.length_map, List.length_map, List.length_take, sizeLine_eq]
          omega
        · rw [i0, Z1 hb, List.map_append, N2]
          rfl
      · rintro H1 ⟨s1, e1⟩
        rw [List.length_map, List.take_length] at e1
        refine ⟨L0, fun t ht => ⟨_, rfl, _, rfl, _, _, rfl, .inr (SqT.of (p0 _ ht _ _ (s1 _ _ hp))), _, _, rfl, rfl, ?_⟩⟩
        rw [List.length_map]
        exact zg4 (r := t) hln hn7 k s1 e1 ht L0
    · refine ⟨_, (g0 (n0 (B1 Z4 (o3 rfl zH5.nd (L4 (pv 0)) (g3 (own := [("a", 2)]) (by with_unfolding_all rfl)) (fun _ _ _ _ _ => O1 (i := 2) zH5.nd rfl (Or.inl rfl) (Or.inr rfl)) (fun _ _ _ _ _ => j6) (fun _ _ _ _ _ => (B1 D3 (pv 2) pe_int))) (B1 m6 (G0 (pa_cons pe_int c0)) (B1 m8 (pv 1) (N0 O0 (by rfl) T.len PySem.boot_len (pa_cons (pv 0) c0))))))), ?_⟩
      refine ⟨_, rfl, p, rfl, ⟨_, SqL.of hp⟩, fun D hD => Q5 (K := K) (a := p) (xs := nVs l) (fun i H' => x0 H H' ∧ H' D = some (.lst (nVs ((l.take i).map fun b => b + 1)))) ⟨p0 _ hD, i0⟩ (fun i H' _ ⟨s1, _⟩ => SqL.of (s1 _ _ hp)) ?_ ?_⟩
      · rintro i x H1 hi ⟨s1, e1⟩
        obtain ⟨b, hb, rfl⟩ := M5 hi
        refine ⟨rfl, g6 ⟨_, rfl, _, _, rfl, rfl, _, e1, ?_, R1 s1 _ hD, ?_⟩⟩
        · rw [List.length_map, List.length_map, List.length_take, sizeLine_eq]
          omega
        · rw [i0, Z1 hb, List.map_append, N2]
          rfl
      · rintro H1 ⟨s1, e1⟩
        rw [List.length_map, List.take_length] at e1
        refine ⟨L0, fun t ht => ⟨_, rfl, _, rfl, _, _, rfl, .inl (SqL.of (p0 _ ht _ _ (s1 _ _ hp))), _, _, rfl, rfl, ?_⟩⟩
        rw [List.length_map]
        exact zg4 (r := t) hln hn7 k s1 e1 ht L0
def zA6 : Sp := fun vs H Q _ => ∃ (l m : V) (L : List (List Nat)) (ms : List Nat), vs = [l, m] ∧ L1 H l L ∧ R0 H m ms ∧ Fits L ms ∧ L.length ≤ 7 ∧ T4 H (g4 L ms) Q
include T in
theorem zk2 : FnOk P w K mg base CX0 2 A.f_places_had A.d_places_had ["lists", "mates"] (zA6) := by
  refine T.F_places_had.ok zH8 (fun vs H Q E h => ?_) (fun cdv Ar outer s H vs Q E hr h => ?_)
  · obtain ⟨l, m, L, ms, rfl, _⟩ := h
    rfl
  · obtain ⟨l, m, L, ms, rfl, hl, hm, f, h7, k⟩ := h
    have hl0 := hl
    obtain ⟨p, vs, rfl, hp, hE⟩ := hl0
    have hm0 := hm
    obtain ⟨pm, rfl, hpm⟩ := hm0
    refine ⟨_, (g0 (n0 (o3 rfl zH8.nd (m3 rfl T.range (pa_cons (N0 O0 (by rfl) T.len PySem.boot_len (pa_cons (pv 0) c0)) c0)) (g3 (own := [("a", 2)]) (by with_unfolding_all rfl)) (fun _ _ _ _ _ => O1 (i := 2) zH8.nd rfl (Or.inl rfl) (Or.inr rfl)) (fun _ _ _ _ _ => j6) (fun _ _ _ _ _ => (o0 (N4 T) (hr.mono (by decide)) rfl T.m_place T.F_place.kp T.b_place .nil pass0 (pa_cons (pv 0) (pa_cons (pv 2) (pa_cons (pe_ix (show IxR _ (D4 K) from j1) (pv 1) (pv 2) (fun _ _ => rfl)) c0)))))))), ?_⟩
    refine ⟨_, rfl, _, _, rfl, .inr (SqT.of hp), ((vs.length : Nat) : Int), rfl, (Z0 (by rw [hE.1]; omega)).1, (Z0 (by rw [hE.1]; omega)).2, fun D hD => u7 (lo := 0) (n := vs.length) (fun i H' => x0 H H' ∧ H' D = some (.lst (nVs ((List.range i).map fun a => plc L a (ms.getD a 0))))) ⟨p0 _ hD, i0⟩ ?_ ?_⟩
    · rintro i H1 hi ⟨s1, e1⟩
      rw [hE.1] at hi
      rw [V2]
      have kt := KT.of s1
      refine ⟨rfl, g6 ⟨_, rfl, _, rfl, _, rfl, _, rfl, rdT (s1 _ _ hpm) (T1 (E2 (by rw [f.len]; exact hi))) ⟨_, i, ms.getD i 0, L, rfl, kt.tupL hl, hi, f.on hi, _, e1, ?_, R1 s1 _ hD, ?_⟩⟩⟩
      · rw [List.length_map, List.length_map, List.length_range, sizeLine_eq]
        omega
      · rw [i0, List.range_succ, List.map_append, N2]
        rfl
    · rintro H1 ⟨s1, e1⟩
      rw [hE.1] at e1
      exact k H1 D e1 s1 hD
def zD0 : Sp := fun vs H Q _ => ∃ (p : Addr) (l : List Nat), vs = [.ref p] ∧ H p = some (.lst (nVs l)) ∧ Q (nV (greatest l)) H
include T in
theorem zk7 : FnOk P w K mg base CX0 1 A.f_greatest_of A.d_greatest_of ["places"] (zD0) := by
  refine T.F_greatest_of.ok zM3 (fun vs H Q E h => ?_) (fun cdv Ar outer s H vs Q E hr h => ?_)
  · obtain ⟨p, l, rfl, _⟩ := h
    rfl
  · obtain ⟨p, l, rfl, hp, k⟩ := h
    refine ⟨_, (g0 (n0 (zR9 (by rfl) T.max (pa_cons (pv 0) c0) pe_int rfl))), ?_⟩
    refine ⟨_, rfl, p, l.map fun (x : Nat) => (x : Int), rfl, by rw [N5]; exact SqL.of hp, fun e => ?_, fun ne m hm hall => ?_⟩
    · have e' : l = [] := by simpa using e
      subst e'
      exact k
    · rw [qe4 hm hall]
      exact k
def S5 (L : List (List Nat)) (ms : List Nat) : Nat × Nat := (greatest (g4 L ms), (g4 L ms).sum)
def zD6 : Sp := fun vs H Q _ => ∃ (l m : V) (L : List (List Nat)) (ms : List Nat), vs = [l, m] ∧ L1 H l L ∧ R0 H m ms ∧ Fits L ms ∧ L.length ≤ 7 ∧ ∀ (H' : Hp) (t : Addr), H' t = some (.tup [nV (S5 L ms).1, nV (S5 L ms).2]) → x0 H H' → Q (.ref t) H'
include T in
theorem zk5 : FnOk P w K mg base CX0 3 A.f_how_fair A.d_how_fair ["lists", "mates"] (zD6) := by
  refine T.F_how_fair.ok zJ1 (fun vs H Q E h => ?_) (fun cdv Ar outer s H vs Q E hr h => ?_)
  · obtain ⟨l, m, L, ms, rfl, _⟩ := h
    rfl
  · obtain ⟨l, m, L, ms, rfl, hl, hm, f, h7, k⟩ := h
    refine ⟨_, (j0 (T0 (i := 2) zJ1.nd rfl (.inl rfl) (o0 (zk2 T) (hr.mono (by decide)) rfl T.m_places_had T.F_places_had.kp T.b_places_had .nil pass0 (pa_cons (pv 0) (pa_cons (pv 1) c0))))
      (g0 (n0 (N3 (pa_cons (o0 (zk7 T) (hr.mono (by decide)) rfl T.m_greatest_of T.F_greatest_of.kp T.b_greatest_of .nil pass0 (pa_cons (pv 2) c0)) (pa_cons (N0 (X8 rfl) (by rfl) T.sum PyProof.Rows.boot_sum (pa_cons (pv 2) c0)) c0)))))), ?_⟩
    refine ⟨_, rfl, _, rfl, l, m, L, ms, rfl, hl, hm, f, h7, fun H1 r e1 s1 f1 => ?_⟩
    refine ⟨_, rfl, r, _, rfl, e1, _, rfl, r, (g4 L ms).map fun (x : Nat) => (x : Int), rfl, by rw [N5]; exact SqL.of e1, M3, fun t ht => ?_⟩
    rw [z9]
    exact k _ t i0 (s1.trans (p0 _ ht))
end Pl
end
section
set_option Elab.async false
set_option linter.all false
set_option maxRecDepth 100000
set_option maxHeartbeats 4000000
namespace Pl
open PySem PySem.Spec PyProof.Rows L2 PM
variable {P : Program} {w : World} {K : PySem.W.Frag} {mg : Str → Option Value} {base : Heap} {A : Ad} (T : Txt K mg base A)
open Km464 (House Desk withIn opened key only act okWish MOST bit bits)
def zC7 (C : Addr) : Sp := fun vs H Q _ => ∃ (p q u : Addr) (d : Desk), vs = [.ref p] ∧ StAt C H p q u d ∧ GoodD d ∧ Y0 C H p q u d .holds Q
include T in
theorem zV3 : FnOk P w K mg base CX0 5 A.f_ho_holds A.d_ho_holds ["students"] (zC7 A.C_Students) := by
  refine T.F_ho_holds.ok zL0 (fun vs H Q E h => ?_) (fun cdv Ar outer s H vs Q E hr h => ?_)
  · obtain ⟨p, q, u, d, rfl, _⟩ := h
    rfl
  · obtain ⟨p, q, u, d, rfl, st, g, k⟩ := h
    obtain ⟨dx, l0, m0, hp, tl, tm⟩ := st.ins
    refine ⟨_, (j0 (B0 (X0 (o0 (zk6 T) (hr.mono (by decide)) rfl T.m_holds T.F_holds.kp T.b_holds .nil pass0 (pa_cons (I0 (pv 0) rfl) (pa_cons (I0 (pv 0) rfl) c0)))) (g0 (n0 (G0 (pa_cons pe_int c0)))) C0)
      (g0 (n0 (G0 (pa_cons pe_int c0))))), ?_⟩
    have ea : act d .holds = (d, only ((bit (E3 d.now.wish (mOf d.now.many d.now.paired)) : Nat) : Int)) := by rw [zo4]; rfl
    refine ⟨_, rfl, p, _, dx, _, _, rfl, hp, T.cl_Students, T.n_lists, rfl, _, rfl, p, _, dx, _, _, rfl, hp, T.cl_Students, T.n_mates, rfl, l0, m0, d.now.wish, _, rfl, tl, tm, k4 g.now.fit, g.now.n7, _, rfl, A0 (fun c => ?_) (fun c => ?_)⟩
    · rw [c] at ea
      exact ⟨L0, fun r hr0 => k.ref st ea hr0⟩
    · rw [Bool.eq_false_iff.mpr c] at ea
      exact ⟨L0, fun r hr0 => k.ref st ea hr0⟩
def zE4 (C : Addr) : Sp := fun vs H Q _ => ∃ (p q u : Addr) (d : Desk), vs = [.ref p] ∧ StAt C H p q u d ∧ GoodD d ∧ Y0 C H p q u d .breakers Q
theorem p9 : 3 ≤ sizeLine := by decide
include T in
theorem zV9 : FnOk P w K mg base CX0 5 A.f_ho_breakers A.d_ho_breakers ["students"] (zE4 A.C_Students) := by
  refine T.F_ho_breakers.ok zL6 (fun vs H Q E h => ?_) (fun cdv Ar outer s H vs Q E hr h => ?_)
  · obtain ⟨p, q, u, d, rfl, _⟩ := h
    rfl
  · obtain ⟨p, q, u, d, rfl, st, g, k⟩ := h
    obtain ⟨dx, l0, m0, hp, tl, tm⟩ := st.ins
    refine ⟨_, (j0 (T0 (i := 1) zL6.nd rfl (.inl rfl) (o0 (zk9 T) (hr.mono (by decide)) rfl T.m_breakers T.F_breakers.kp T.b_breakers .nil pass0 (pa_cons (I0 (pv 0) rfl) (pa_cons (I0 (pv 0) rfl) c0))))
      (j0 (B0 (J0 U0 (N0 O0 (by rfl) T.len PySem.boot_len (pa_cons (pv 1) c0)) pe_int (F0 _)) (g0 (n0 (G0 (pa_cons pe_int (pa_cons pe_int (pa_cons pe_int c0)))))) C0)
      (g0 (n0 (G0 (pa_cons (N0 O0 (by rfl) T.len PySem.boot_len (pa_cons (pv 1) c0)) (pa_cons (pe_ix j1 (pe_ix ix_list (pv 1) pe_int (fun _ _ => rfl)) pe_int (fun _ _ => rfl)) (pa_cons (pe_ix j1 (pe_ix ix_list (pv 1) pe_int (fun _ _ => rfl)) pe_int (fun _ _ => rfl)) c0)))))))), ?_⟩
    refine ⟨_, rfl, p, _, dx, _, _, rfl, hp, T.cl_Students, T.n_lists, rfl, _, rfl, p, _, dx, _, _, rfl, hp, T.cl_Students, T.n_mates, rfl, l0, m0, d.now.wish, _, rfl, tl, tm, k4 g.now.fit, g.now.n7, fun H1 r1 ⟨ws, e1, w1⟩ s1 f1 => ?_⟩
    rw [d9 d.now] at w1
    refine ⟨_, rfl, _, _, rfl, .inl (SqL.of e1), rfl, _, rfl, A0 (fun c => ?_) (fun c => ?_)⟩
    · have c' : d.now.breakers d.now.paired = [] := by
        have z := of_decide_eq_true c
        injection z with z
        have z2 : ws.length = 0 := by omega
        rw [w1.1] at z2
        exact List.eq_nil_of_length_eq_zero z2
      have ea : act d .breakers = (d, ⟨0, [0, 0]⟩) := by
        show (d, match d.now.breakers d.now.paired with | [] => _ | p :: l => _) = _
        rw [c']
      exact ⟨p9, fun r hr0 => k.read st ea rfl (s1.trans (p0 _ hr0)) (s1.free hr0) i0⟩
    cases hg : d.now.breakers d.now.paired with
    | nil =>
      rw [hg] at w1
      have z : ws.length = 0 := w1.1
      exact absurd (by rw [z]; rfl) c
    | cons b rest =>
      have ea : act d .breakers = (d, ⟨((rest.length + 1 : Nat) : Int), [b.1, b.2]⟩) := by
        show (d, match d.now.breakers d.now.paired with | [] => _ | p :: l => _) = _
        rw [hg]
      rw [hg] at w1
      obtain ⟨v, hv, t, rfl, ht⟩ := w1.get (i := 0) (x := b) rfl
      refine ⟨_, rfl, _, _, rfl, .inl (SqL.of e1), _, rfl, r1, _, _, _, rfl, rfl, SqL.of e1, K1 (j := 0) rfl hv, t, _, _, _, rfl, rfl, SqT.of ht, rfl, _, rfl, r1, _, _, _, rfl, rfl, SqL.of e1, K1 (j := 0) rfl hv, t, _, _, _, rfl, rfl, SqT.of ht, rfl, p9, fun r hr0 => ?_⟩
      refine k.read st ea ?_ (s1.trans (p0 _ hr0)) (s1.free hr0) i0
      rw [w1.1]
      rfl
def zy6 (C : Addr) : Sp := fun vs H Q _ => ∃ (p q u : Addr) (a b : Nat) (d : Desk), vs = [.ref p, nV a, nV b] ∧ StAt C H p q u d ∧ GoodD d ∧ Y0 C H p q u d (.would a b) Q
include T in
theorem zT6 : FnOk P w K mg base CX0 4 A.f_ho_would A.d_ho_would ["students", "a", "b"] (zy6 A.C_Students) := by
  refine T.F_ho_would.ok zJ3 (fun vs H Q E h => ?_) (fun cdv Ar outer s H vs Q E hr h => ?_)
  · obtain ⟨p, q, u, a, b, d, rfl, _⟩ := h
    rfl
  · obtain ⟨p, q, u, a, b, d, rfl, st, g, k⟩ := h
    obtain ⟨dx, l0, m0, hp, tl, tm⟩ := st.ins
    have no : (d.now.many ≤ a ∨ d.now.many ≤ b) → act d (.would a b) = (d, only (-2)) := fun z => by
      show (d, if d.now.many ≤ a ∨ d.now.many ≤ b then _ else _) = _
      rw [if_pos z]
    refine ⟨_, (j0 (B0 (PW.pt (M2 (N1 (X0 (G1 (pv 0) T.cl_Students T.me_Students_has (X1 T) (hr.mono (by decide)) T.b_Students_has .nil pass0 (pa_cons (pv 1) c0)))) (j3 (N1 (X0 (G1 (pv 0) T.cl_Students T.me_Students_has (X1 T) (hr.mono (by decide)) T.b_Students_has .nil pass0 (pa_cons (pv 2) c0))))))) (g0 (n0 (G0 (pa_cons (V0 rfl T.c_NOT_THERE) c0)))) C0)
      (j0 (B0 (X0 (o0 (Z6 T) (hr.mono (by decide)) rfl T.m_would_break T.F_would_break.kp T.b_would_break .nil pass0 (pa_cons (I0 (pv 0) rfl) (pa_cons (I0 (pv 0) rfl) (pa_cons (pv 1) (pa_cons (pv 2) c0)))))) (g0 (n0 (G0 (pa_cons pe_int c0)))) C0)
      (g0 (n0 (G0 (pa_cons pe_int c0)))))), ?_⟩
    refine ⟨_, rfl, p, dx, _, rfl, hp, rfl, _, rfl, p, q, u, a, d, rfl, st, _, rfl, A0 (fun c => C2 ?_) (fun c => ?_)⟩
    · have c' : d.now.many ≤ a := by simpa using c
      exact ⟨L0, fun r hr0 => k.ref st (no (.inl c')) hr0⟩
    refine ⟨_, rfl, p, dx, _, rfl, hp, rfl, _, rfl, p, q, u, b, d, rfl, st, _, rfl, A0 (fun c2 => ?_) (fun c2 => ?_)⟩
    · have c' : d.now.many ≤ b := by simpa using c2
      exact ⟨L0, fun r hr0 => k.ref st (no (.inr c')) hr0⟩
    have ha : a < d.now.many := by simpa using c
    have hb : b < d.now.many := by simpa using c2
    have hab : ¬ (d.now.many ≤ a ∨ d.now.many ≤ b) := by omega
    have ea : act d (.would a b) = (d, only ((bit (brk d.now.wish (mOf d.now.many d.now.paired) a b) : Nat) : Int)) := by
      rw [G7 d.now ha hb]
      show (d, if d.now.many ≤ a ∨ d.now.many ≤ b then _ else _) = _
      rw [if_neg hab]
    refine ⟨_, rfl, p, _, dx, _, _, rfl, hp, T.cl_Students, T.n_lists, rfl, _, rfl, p, _, dx, _, _, rfl, hp, T.cl_Students, T.n_mates, rfl, _, rfl, _, rfl, l0, m0, a, b, d.now.wish, _, rfl, tl, tm, k4 g.now.fit, ha, hb, _, rfl, A0 (fun c3 => ?_) (fun c3 => ?_)⟩
    · rw [c3] at ea
      exact ⟨L0, fun r hr0 => k.ref st ea hr0⟩
    · rw [Bool.eq_false_iff.mpr c3] at ea
      exact ⟨L0, fun r hr0 => k.ref st ea hr0⟩
def zD1 (C : Addr) : Sp := fun vs H Q _ => ∃ (p q u : Addr) (d : Desk), vs = [.ref p] ∧ StAt C H p q u d ∧ GoodD d ∧ Y0 C H p q u d .good Q
include T in
theorem zV4 : FnOk P w K mg base CX0 6 A.f_ho_good A.d_ho_good ["students"] (zD1 A.C_Students) := by
  refine T.F_ho_good.ok zL1 (fun vs H Q E h => ?_) (fun cdv Ar outer s H vs Q E hr h => ?_)
  · obtain ⟨p, q, u, d, rfl, _⟩ := h
    rfl
  · obtain ⟨p, q, u, d, rfl, st, g, k⟩ := h
    obtain ⟨dx, l0, m0, hp, tl, tm⟩ := st.ins
    refine ⟨_, (g0 (n0 (G0 (pa_cons (N0 O0 (by rfl) T.len PySem.boot_len (pa_cons (o0 (O4 T) (hr.mono (by decide)) rfl T.m_good_pairings T.F_good_pairings.kp T.b_good_pairings .nil pass0 (pa_cons (I0 (pv 0) rfl) c0)) c0)) c0)))), ?_⟩
    refine ⟨_, rfl, p, _, dx, _, _, rfl, hp, T.cl_Students, T.n_lists, rfl, l0, d.now.wish, rfl, tl, g.now.n7, fun H1 r1 ⟨ws, e1, w1⟩ s1 f1 lz => ⟨_, _, rfl, .inl (SqL.of e1), L0, fun r hr0 => ?_⟩⟩
    rw [U3 d.now] at w1
    refine k.read st (show act d .good = (d, only ((d.now.good.length : Nat) : Int)) from rfl) ?_ (s1.trans (p0 _ hr0)) (s1.free hr0) i0
    rw [w1.1, List.length_map]
    rfl
def zB8 (C : Addr) : Sp := fun vs H Q _ => ∃ (p q u : Addr) (n : Nat) (d : Desk), vs = [.ref p, nV n] ∧ StAt C H p q u d ∧ GoodD d ∧ Y0 C H p q u d (.nth n) Q
include T in
theorem zV1 : FnOk P w K mg base CX0 6 A.f_ho_nth A.d_ho_nth ["students", "k"] (zB8 A.C_Students) := by
  refine T.F_ho_nth.ok zK8 (fun vs H Q E h => ?_) (fun cdv Ar outer s H vs Q E hr h => ?_)
  · obtain ⟨p, q, u, n, d, rfl, _⟩ := h
    rfl
  · obtain ⟨p, q, u, n, d, rfl, st, g, k⟩ := h
    obtain ⟨dx, l0, m0, hp, tl, tm⟩ := st.ins
    refine ⟨_, (j0 (T0 (i := 2) zK8.nd rfl (.inl rfl) (o0 (O4 T) (hr.mono (by decide)) rfl T.m_good_pairings T.F_good_pairings.kp T.b_good_pairings .nil pass0 (pa_cons (I0 (pv 0) rfl) c0)))
      (j0 (B0 (J0 p6 (pv 1) (N0 O0 (by rfl) T.len PySem.boot_len (pa_cons (pv 2) c0)) (F0 _)) (g0 (n0 (G0 (pa_cons (V0 rfl T.c_NOT_THERE) c0)))) C0)
      (g0 (n0 (o0 (r8 T) (hr.mono (by decide)) rfl T.m_told_pairing T.F_told_pairing.kp T.b_told_pairing .nil pass0 (pa_cons (pe_ix ix_list (pv 2) (pv 1) (fun _ _ => rfl)) c0)))))), ?_⟩
    refine ⟨_, rfl, p, _, dx, _, _, rfl, hp, T.cl_Students, T.n_lists, rfl, l0, d.now.wish, rfl, tl, g.now.n7, fun H1 r1 ⟨ws, e1, w1⟩ s1 f1 lz => ?_⟩
    rw [U3 d.now] at w1
    have wl : ws.length = d.now.good.length := by rw [w1.1, List.length_map]
    refine ⟨_, rfl, _, rfl, _, _, rfl, .inl (SqL.of e1), S6 ⟨_, rfl, A0 (fun c => ?_) (fun c => ?_)⟩⟩
    · have c' : ws.length ≤ n := of_decide_eq_true c
      have ea : act d (.nth n) = (d, only (-2)) := by
        show (d, match d.now.good[n]? with | none => _ | some m => _) = _
        rw [List.getElem?_eq_none (by omega)]
      exact ⟨L0, fun r hr0 => k.read st ea rfl (s1.trans (p0 _ hr0)) (s1.free hr0) i0⟩
    · have c' : ¬ ws.length ≤ n := fun z => c (decide_eq_true z)
      have hn : n < d.now.good.length := by omega
      obtain ⟨m, hm⟩ : ∃ m, d.now.good[n]? = some m := ⟨_, List.getElem?_eq_getElem hn⟩
      have ea : act d (.nth n) = (d, ⟨((m.length : Nat) : Int), Km464.toldPairs d.now.many m⟩) := by
        show (d, match d.now.good[n]? with | none => _ | some m => _) = _
        rw [hm]
      have fm : Fit d.now m := good_fit d.now (List.mem_of_getElem? hm)
      obtain ⟨v, hv, tv⟩ := w1.get (i := n) (x := mOf d.now.many m) (by rw [List.getElem?_map, hm]; rfl)
      refine ⟨_, rfl, _, rfl, rdL (SqL.of e1) hv ⟨v, _, rfl, tv, by rw [E1]; exact g.now.n7, fun H6 r e6 s6 hr0 => ?_⟩⟩
      refine k.read st ea ?_ (s1.trans s6) (s1.free hr0) e6
      rw [k5 fm.ok, E1, Y7 _ g.now.n7]
      rfl
def zF3 (C : Addr) : Sp := fun vs H Q _ => ∃ (p q u : Addr) (d : Desk), vs = [.ref p] ∧ StAt C H p q u d ∧ GoodD d ∧ Y0 C H p q u d .alone Q
include T in
theorem zW3 : FnOk P w K mg base CX0 6 A.f_ho_alone A.d_ho_alone ["students"] (zF3 A.C_Students) := by
  refine T.F_ho_alone.ok zM0 (fun vs H Q E h => ?_) (fun cdv Ar outer s H vs Q E hr h => ?_)
  · obtain ⟨p, q, u, d, rfl, _⟩ := h
    rfl
  · obtain ⟨p, q, u, d, rfl, st, g, k⟩ := h
    obtain ⟨dx, l0, m0, hp, tl, tm⟩ := st.ins
    refine ⟨_, (j0 (T0 (i := 1) zM0.nd rfl (.inl rfl) (o0 (O4 T) (hr.mono (by decide)) rfl T.m_good_pairings T.F_good_pairings.kp T.b_good_pairings .nil pass0 (pa_cons (I0 (pv 0) rfl) c0)))
      (j0 (B0 (J0 U0 (N0 O0 (by rfl) T.len PySem.boot_len (pa_cons (pv 1) c0)) pe_int (F0 _)) (g0 (n0 (G0 (pa_cons (V0 rfl T.c_NOT_SO) c0)))) C0)
      (g0 (n0 (o0 (a7 T) (hr.mono (by decide)) rfl T.m_told_set T.F_told_set.kp T.b_told_set .nil pass0 (pa_cons (o0 (zl0 T) (hr.mono (by decide)) rfl T.m_alone_ones T.F_alone_ones.kp T.b_alone_ones .nil pass0 (pa_cons (pe_ix ix_list (pv 1) pe_int (fun _ _ => rfl)) c0)) c0)))))), ?_⟩
    refine ⟨_, rfl, p, _, dx, _, _, rfl, hp, T.cl_Students, T.n_lists, rfl, l0, d.now.wish, rfl, tl, g.now.n7, fun H1 r1 ⟨ws, e1, w1⟩ s1 f1 lz => ?_⟩
    rw [U3 d.now] at w1
    refine ⟨_, rfl, _, _, rfl, .inl (SqL.of e1), rfl, _, rfl, A0 (fun c => ?_) (fun c => ?_)⟩
    · have c' : d.now.good = [] := by
        have z := of_decide_eq_true c
        injection z with z
        have z2 : ws.length = 0 := by omega
        rw [w1.1, List.length_map] at z2
        exact List.eq_nil_of_length_eq_zero z2
      have ea : act d .alone = (d, only (-33)) := by
        show (d, match d.now.good with | [] => only (-33) | m :: _ => _) = _
        rw [c']
      exact ⟨L0, fun r hr0 => k.read st ea rfl (s1.trans (p0 _ hr0)) (s1.free hr0) i0⟩
    cases hg : d.now.good with
    | nil =>
      rw [hg] at w1
      have z : ws.length = 0 := w1.1
      exact absurd (by rw [z]; rfl) c
    | cons m rest =>
      have ea : act d .alone = (d, ⟨(((d.now.all.filter fun a => withIn m a == a).length : Nat) : Int), [bits (d.now.all.filter fun a => withIn m a == a)]⟩) := by
        show (d, match d.now.good with | [] => only (-33) | m :: _ => _) = _
        rw [hg]
      rw [hg] at w1
      obtain ⟨v, hv, tv⟩ := w1.get (i := 0) (x := mOf d.now.many m) rfl
      have n7 : (mOf d.now.many m).length ≤ 7 := by rw [E1]; exact g.now.n7
      refine ⟨_, rfl, r1, _, _, _, rfl, rfl, SqL.of e1, K1 (j := 0) rfl hv, v, _, rfl, tv, n7, fun H2 r2 e2 s2 f2 => ⟨r2, _, rfl, e2, (L7 n7).1, (L7 n7).2, fun H3 r3 e3 s3 f3 => ?_⟩⟩
      refine k.read st ea ?_ ((s1.trans s2).trans s3) ((s1.trans s2).free f3) e3
      rw [zt8]
      rfl
def zD7 (C : Addr) : Sp := fun vs H Q _ => ∃ (p q u : Addr) (a b : Nat) (d : Desk), vs = [.ref p, nV a, nV b] ∧ StAt C H p q u d ∧ GoodD d ∧ Y0 C H p q u d (.ever a b) Q
include T in
theorem zV8 : FnOk P w K mg base CX0 6 A.f_ho_ever A.d_ho_ever ["students", "a", "b"] (zD7 A.C_Students) := by
  refine T.F_ho_ever.ok zL5 (fun vs H Q E h => ?_) (fun cdv Ar outer s H vs Q E hr h => ?_)
  · obtain ⟨p, q, u, a, b, d, rfl, _⟩ := h
    rfl
  · obtain ⟨p, q, u, a, b, d, rfl, st, g, k⟩ := h
    obtain ⟨dx, l0, m0, hp, tl, tm⟩ := st.ins
    have no : (d.now.many ≤ a ∨ d.now.many ≤ b) → act d (.ever a b) = (d, only (-2)) := fun z => by
      show (d, if d.now.many ≤ a ∨ d.now.many ≤ b then _ else _) = _
      rw [if_pos z]
    refine ⟨_, (j0 (B0 (PW.pt (M2 (N1 (X0 (G1 (pv 0) T.cl_Students T.me_Students_has (X1 T) (hr.mono (by decide)) T.b_Students_has .nil pass0 (pa_cons (pv 1) c0)))) (j3 (N1 (X0 (G1 (pv 0) T.cl_Students T.me_Students_has (X1 T) (hr.mono (by decide)) T.b_Students_has .nil pass0 (pa_cons (pv 2) c0))))))) (g0 (n0 (G0 (pa_cons (V0 rfl T.c_NOT_THERE) c0)))) C0)
      (j0 (B0 (J0 U0 (pv 1) (pv 2) (F0 _)) (g0 (n0 (G0 (pa_cons (V0 rfl T.c_WRONG) c0)))) C0)
      (g0 (n0 (G0 (pa_cons (N0 O0 (by rfl) T.len PySem.boot_len (pa_cons (o3 rfl zL5.nd (L4 (o0 (O4 T) (hr.mono (by decide)) rfl T.m_good_pairings T.F_good_pairings.kp T.b_good_pairings .nil pass0 (pa_cons (I0 (pv 0) rfl) c0))) (g3 (own := [("mates", 3)]) (by with_unfolding_all rfl)) (fun _ _ _ _ _ => O1 (i := 3) zL5.nd rfl (Or.inl rfl) (Or.inr rfl)) (fun _ _ _ _ _ => E4 (J0 U0 (pe_ix (show IxR _ (D4 K) from j1) (pv 3) (pv 1) (fun _ _ => rfl)) (pv 2) (F0 _))) (fun _ _ _ _ _ => (pv 3))) c0)) c0)))))), ?_⟩
    refine ⟨_, rfl, p, dx, _, rfl, hp, rfl, _, rfl, p, q, u, a, d, rfl, st, _, rfl, A0 (fun c => C2 ?_) (fun c => ?_)⟩
    · have c' : d.now.many ≤ a := by simpa using c
      exact ⟨L0, fun r hr0 => k.ref st (no (.inl c')) hr0⟩
    refine ⟨_, rfl, p, dx, _, rfl, hp, rfl, _, rfl, p, q, u, b, d, rfl, st, _, rfl, A0 (fun c2 => ?_) (fun c2 => ?_)⟩
    · have c' : d.now.many ≤ b := by simpa using c2
      exact ⟨L0, fun r hr0 => k.ref st (no (.inr c')) hr0⟩
    have ha : a < d.now.many := by simpa using c
    have hb : b < d.now.many := by simpa using c2
    have hab : ¬ (d.now.many ≤ a ∨ d.now.many ≤ b) := by omega
    refine ⟨_, rfl, _, rfl, C3 ⟨_, rfl, A0 (fun c3 => ?_) (fun c3 => ?_)⟩⟩
    · have c' : a = b := of_decide_eq_true c3
      have ea : act d (.ever a b) = (d, only (-22)) := by
        show (d, if d.now.many ≤ a ∨ d.now.many ≤ b then _ else if a = b then _ else _) = _
        rw [if_neg hab, if_pos c']
      exact ⟨L0, fun r hr0 => k.ref st ea hr0⟩
    have c' : ¬ a = b := fun z => c3 (decide_eq_true z)
    have ea : act d (.ever a b) = (d, only (((d.now.good.filter fun m => withIn m a == b).length : Nat) : Int)) := by
      show (d, if d.now.many ≤ a ∨ d.now.many ≤ b then _ else if a = b then _ else _) = _
      rw [if_neg hab, if_neg c']
    refine ⟨_, rfl, p, _, dx, _, _, rfl, hp, T.cl_Students, T.n_lists, rfl, l0, d.now.wish, rfl, tl, g.now.n7, fun H1 r1 ⟨ws, e1, w1⟩ s1 f1 lz => ?_⟩
    rw [U3 d.now] at w1
    have wl : ws.length = d.now.good.length := by rw [w1.1, List.length_map]
    have gz : d.now.good.length ≤ 823543 := by rw [U3 d.now, List.length_map] at lz; exact lz
    refine ⟨r1, rfl, ⟨_, SqL.of e1⟩, fun D hD => Q5 (K := K) (a := r1) (xs := ws) (fun i H' => x0 H1 H' ∧ ∃ vs, H' D = some (.lst vs) ∧ vs.length = ((d.now.good.take i).filter fun m => withIn m a == b).length) ⟨p0 _ hD, [], i0, rfl⟩ (fun i H' _ ⟨s2, _⟩ => SqL.of (s2 _ _ e1)) ?_ ?_⟩
    · rintro i x H2 hi ⟨s2, vs, e2, hvs⟩
      obtain ⟨mt, hmt, tx⟩ := w1.of hi
      rw [List.getElem?_map] at hmt
      cases hm : d.now.good[i]? with
      | none => rw [hm] at hmt; cases hmt
      | some m =>
        rw [hm] at hmt
        have em : mOf d.now.many m = mt := Option.some.inj hmt
        subst em
        obtain ⟨px, rfl, hpx⟩ := (KT.of s2).tupN tx
        have hi' : i < d.now.good.length := (List.getElem?_eq_some_iff.mp hm).1
        have hfl := List.length_filter_le (fun m => withIn m a == b) (d.now.good.take i)
        rw [List.length_take] at hfl
        refine ⟨rfl, _, rfl, _, rfl, rdT hpx (T1 (Q3 m ha)) ⟨_, rfl, C3 ⟨_, rfl, A0 (fun c4 => ?_) (fun c4 => ?_)⟩⟩⟩
        · have c4' : (withIn m a == b) = true := by simpa using c4
          refine ⟨_, rfl, vs, e2, by rw [sizeLine_eq]; omega, R1 s2 _ hD, _, i0, ?_⟩
          rw [Z1 hm, List.filter_append, List.filter_cons, if_pos c4', List.filter_nil, List.length_append, List.length_append, hvs]
          rfl
        · have c4' : ¬ (withIn m a == b) = true := by simpa using c4
          refine ⟨s2, vs, e2, ?_⟩
          rw [Z1 hm, List.filter_append, List.filter_cons, if_neg c4', List.filter_nil, List.append_nil, hvs]
    · rintro H2 ⟨s2, vs, e2, hvs⟩
      rw [wl, List.take_length] at hvs
      refine ⟨_, _, rfl, .inl (SqL.of e2), L0, fun r hr0 => ?_⟩
      refine k.read st ea ?_ ((s1.trans s2).trans (p0 _ hr0)) ((s1.trans s2).free hr0) i0
      rw [hvs]
      rfl
end Pl
end
section
set_option Elab.async false
set_option linter.all false
set_option maxRecDepth 100000
set_option maxHeartbeats 4000000
namespace Pl
open PySem PySem.Spec PyProof.Rows L2 PM
variable {P : Program} {w : World} {K : PySem.W.Frag} {mg : Str → Option Value} {base : Heap} {A : Ad} (T : Txt K mg base A)
open Km464 (House Desk withIn opened key only act okWish MOST bit bits)
theorem WS.kt {H H' : Hp} (s : WS H H') : KT H H' := fun a xs e => (s a _ e).plain (by intro ps z; cases z)
theorem StAt.ws {C : Addr} {H H' : Hp} {p q u : Addr} {d : Desk} (h : StAt C H p q u d) (s : WS H H') : StAt C H' p q u d := by
  obtain ⟨dx, l, m, e, tl, tm⟩ := h.ins
  obtain ⟨vs, e1, k1⟩ := h.past
  obtain ⟨ws, e2, k2⟩ := h.und
  have kt := s.kt
  exact ⟨⟨dx, l, m, (s _ _ e).plain (by intro ps z; cases z), kt.tupL tl, kt.tupN tm⟩, ⟨vs, (s _ _ e1).plain (by intro ps z; cases z), k1.imp fun _ _ => kt.kept⟩, ⟨ws, (s _ _ e2).plain (by intro ps z; cases z), k2.imp fun _ _ => kt.kept⟩, h.ne⟩
def Z5 (at_ : Int) (a : Nat) : Km464.Call := if at_ = 0 then .bestOf a else .worstOf a
def zz2 (C : Addr) : Sp := fun vs H Q _ => ∃ (p q u : Addr) (a : Nat) (at_ : Int) (d : Desk), vs = [.ref p, nV a, .int at_] ∧ (at_ = 0 ∨ at_ = -1) ∧ StAt C H p q u d ∧ GoodD d ∧ U2 H ∧ Y0 C H p q u d (Z5 at_ a) Q
theorem zu8 (d : Desk) (a : Nat) {at_ : Int} (h : at_ = 0 ∨ at_ = -1) : (d.now.many ≤ a → act d (Z5 at_ a) = (d, only (-2))) ∧ (a < d.now.many → d.now.good = [] → act d (Z5 at_ a) = (d, only (-33))) ∧
    ∀ m l, a < d.now.many → d.now.good = m :: l → act d (Z5 at_ a) = (d, only (((if at_ = 0 then (l.map fun q => withIn q a).foldl (fun r q => if d.now.stands a q < d.now.stands a r then q else r) (withIn m a) else (l.map fun q => withIn q a).foldl (fun r q => if d.now.stands a r < d.now.stands a q then q else r) (withIn m a) : Nat)) : Int)) := by
  unfold Z5
  rcases h with rfl | rfl
  · rw [if_pos rfl]
    refine ⟨fun h => ?_, fun h e => ?_, fun m l h e => ?_⟩
    · show (d, if d.now.many ≤ a then _ else _) = _
      rw [if_pos h]
    · show (d, if d.now.many ≤ a then _ else match d.now.good with | [] => _ | m :: l => _) = _
      rw [if_neg (by omega), e]
    · show (d, if d.now.many ≤ a then _ else match d.now.good with | [] => _ | m :: l => _) = _
      rw [if_neg (by omega), e, if_pos rfl, List.foldl_map]
  · rw [if_neg (by decide)]
    refine ⟨fun h => ?_, fun h e => ?_, fun m l h e => ?_⟩
    · show (d, if d.now.many ≤ a then _ else _) = _
      rw [if_pos h]
    · show (d, if d.now.many ≤ a then _ else match d.now.good with | [] => _ | m :: l => _) = _
      rw [if_neg (by omega), e]
    · show (d, if d.now.many ≤ a then _ else match d.now.good with | [] => _ | m :: l => _) = _
      rw [if_neg (by omega), e, if_neg (by decide), List.foldl_map]
include T in
theorem zk1 : FnOk P w K mg base CX0 6 A.f_whom_by_place A.d_whom_by_place ["students", "a", "at"] (zz2 A.C_Students) := by
  refine T.FC_whom_by_place.ok zH3 (fun vs H Q E h => ?_) (fun Ar outer s H vs Q E hr h => ?_)
  · obtain ⟨p, q, u, a, at_, d, rfl, _⟩ := h
    rfl
  · obtain ⟨p, q, u, a, at_, d, rfl, hat, st, g, tbs, k⟩ := h
    obtain ⟨⟨ps, tb⟩, psF, tbF⟩ := id tbs
    obtain ⟨dx, l0, m0, hp, tl, tm⟩ := st.ins
    obtain ⟨a1, a2, a3⟩ := zu8 d a hat
    refine ⟨_, (j0 (B0 (N1 (X0 (G1 (pv 0) T.cl_Students T.me_Students_has (X1 T) (hr.mono (by decide)) T.b_Students_has .nil pass0 (pa_cons (pv 1) c0)))) (g0 (n0 (G0 (pa_cons (V0 rfl T.c_NOT_THERE) c0)))) C0)
      (j0 (zR0 (i := 3) rfl zH3.nd rfl rfl (zx7 rfl rfl rfl (by decide +kernel)) (L4 (o0 (O4 T) (hr.mono (by decide)) rfl T.m_good_pairings T.F_good_pairings.kp T.b_good_pairings .nil pass0 (pa_cons (I0 (pv 0) rfl) c0))) (g3 (own := [("mates", 4)]) (by with_unfolding_all rfl)) (fun _ _ _ _ _ => O1 (i := 4) zH3.nd rfl (Or.inl rfl) (Or.inr rfl)) (fun _ _ _ _ _ => j6) (fun _ _ _ _ _ => (pe_ix (show IxR _ (D4 K) from j1) (pv 4) (pv 1) (fun _ _ => rfl))))
      (j0 (B0 (J0 U0 (N0 O0 (by rfl) T.len PySem.boot_len (pa_cons (pv 3) c0)) pe_int (F0 _)) (g0 (n0 (G0 (pa_cons (V0 rfl T.c_NOT_SO) c0)))) C0)
      (g0 (n0 (G0 (pa_cons (pe_ix ix_list (zR6 (k := 2) (c := A.k_whom_by_place) (P := A5) (N := ["b", "a", "students"]) (x := "b") (fr := [("a", 1), ("students", 0)]) (by rfl) T.sorted (pa_cons (pv 3) c0) (hr.mono (by decide)) rfl T.hd_whom_by_place T.bl_whom_by_place (zn6 (by with_unfolding_all rfl)) rfl (fun _ _ _ _ _ => rfl) (fun _ _ _ _ => (o0 (N4 T) (((hr.mono (show 4 ≤ _ by decide)).in1.in1.deeper _).mono (by decide)) rfl T.m_place T.F_place.kp T.b_place .nil pass0 (pa_cons (show PE _ _ (N6 K _ _) from I0 (pv 2) rfl) (pa_cons (pv 1) (pa_cons (pv 0) c0)))))) (pv 2) (fun _ _ => rfl)) c0))))))), ?_⟩
    refine ⟨_, rfl, p, dx, _, rfl, hp, rfl, _, rfl, p, q, u, a, d, rfl, st, _, rfl, A0 (fun c => ?_) (fun c => ?_)⟩
    · have c' : d.now.many ≤ a := by simpa using c
      exact ⟨L0, fun r hr0 => k.ref st (a1 c') hr0⟩
    have ha : a < d.now.many := by simpa using c
    refine ⟨_, rfl, p, _, dx, _, _, rfl, hp, T.cl_Students, T.n_lists, rfl, l0, d.now.wish, rfl, tl, g.now.n7, fun H1 r1 ⟨ws, e1, w1⟩ s1 f1 lz => ?_⟩
    rw [U3 d.now] at w1
    have wl : ws.length = d.now.good.length := by rw [w1.1, List.length_map]
    have gz : d.now.good.length ≤ 823543 := by rw [U3 d.now, List.length_map] at lz; exact lz
    refine ⟨r1, rfl, ⟨_, SqL.of e1⟩, fun D hD => Q5 (K := K) (a := r1) (xs := ws) (fun i H' => x0 H1 H' ∧ H' D = some (.lst (nVs ((d.now.good.take i).map fun m => withIn m a)))) ⟨p0 _ hD, i0⟩ (fun i H' _ ⟨s2, _⟩ => SqL.of (s2 _ _ e1)) ?_ ?_⟩
    · rintro i x H2 hi ⟨s2, e2⟩
      obtain ⟨mt, hmt, tx⟩ := w1.of hi
      rw [List.getElem?_map] at hmt
      cases hm : d.now.good[i]? with
      | none => rw [hm] at hmt; cases hmt
      | some m =>
        rw [hm] at hmt
        have em : mOf d.now.many m = mt := Option.some.inj hmt
        subst em
        obtain ⟨px, rfl, hpx⟩ := (KT.of s2).tupN tx
        have hi' : i < d.now.good.length := (List.getElem?_eq_some_iff.mp hm).1
        refine ⟨rfl, g6 ⟨_, rfl, _, rfl, rdT hpx (T1 (Q3 m ha)) ⟨_, e2, ?_, R1 s2 _ hD, ?_⟩⟩⟩
        · rw [List.length_map, List.length_map, List.length_take, sizeLine_eq]
          omega
        · rw [i0, Z1 hm, List.map_append, N2]
          rfl
    · rintro H2 ⟨s2, e2⟩
      rw [wl, List.take_length] at e2
      have S2 := s1.trans s2
      refine ⟨_, rfl, _, _, rfl, .inl (SqL.of e2), rfl, _, rfl, A0 (fun c2 => ?_) (fun c2 => ?_)⟩
      · have c' : d.now.good = [] := by
          have z := of_decide_eq_true c2
          injection z with z
          have z2 : (nVs (d.now.good.map fun m => withIn m a)).length = 0 := by omega
          rw [List.length_map, List.length_map] at z2
          exact List.eq_nil_of_length_eq_zero z2
        exact ⟨L0, fun r hr0 => k.read st (a2 ha c') rfl (S2.trans (p0 _ hr0)) (S2.free hr0) i0⟩
      cases hg : d.now.good with
      | nil =>
        rw [hg] at c2
        exact absurd rfl c2
      | cons m rest =>
        rw [hg] at e2
        have tb2 := z5 tb S2
        refine ⟨_, rfl, D, ((m :: rest).map fun m => withIn m a).map (fun (x : Nat) => (x : Int)), fun n => ((plc d.now.wish a n.toNat : Nat) : Int), ps, rfl, by rw [N5]; exact SqL.of e2, tb2, fun H3 ps' tb3 kp => ⟨fun n hn => ?_, fun ns' D2 hperm hpw hD2 => ?_⟩⟩
        · obtain ⟨x, hx, rfl⟩ := List.mem_map.mp hn
          obtain ⟨m', hm', rfl⟩ := List.mem_map.mp hx
          rw [← hg] at hm'
          have hp3 : H3 p = some (.ins A.C_Students dx (J1 l0 m0 (.ref q) (.ref u))) := kp p _ (S2 _ _ hp) (ne_of (S2 _ _ hp) tb2.at_ (by intro z; cases z))
          have kt3 : KT H2 H3 := fun b xs e => kp b _ e (ne_of e tb2.at_ (by intro z; cases z))
          refine ⟨_, rfl, p, _, dx, _, _, rfl, hp3, T.cl_Students, T.n_lists, rfl, _, rfl, _, rfl, l0, a, withIn m' a, d.now.wish, rfl, ((KT.of S2).trans kt3).tupL tl, ha, ?_, rfl, rfl⟩
          rcases good_on hm' a with e | e
          · exact .inl e.symm
          · exact .inr e
        · have inj : ∀ x ∈ withIn m a :: rest.map (fun q => withIn q a), ∀ y ∈ withIn m a :: rest.map (fun q => withIn q a), d.now.stands a x = d.now.stands a y → x = y := fun x hx y hy e => by
            have on : ∀ z ∈ withIn m a :: rest.map (fun q => withIn q a), z = a ∨ d.now.onList a z = true := fun z hz => by
              obtain ⟨m', hm', rfl⟩ : ∃ m' ∈ m :: rest, withIn m' a = z := List.mem_map.mp (show z ∈ (m :: rest).map fun q => withIn q a from hz)
              exact good_on (by rw [hg]; exact hm') a
            exact D9 d.now (on x hx) (on y hy) e
          obtain ⟨⟨r1', en1⟩, r2', en2⟩ := zF9 inj hperm hpw
          have ea := a3 m rest ha hg
          have ws3 : WS H H3 := fun b o e => by
            by_cases hb : b = A5
            · subst hb
              have e4 := S2 _ _ e
              rw [tb2.at_] at e4
              exact .inr ⟨ps, ps', (Option.some.inj e4).symm, tb3.at_⟩
            · exact .inl (kp b o (S2 _ _ e) hb)
          have tk3 : y4 H H3 := fun _ => ⟨⟨ps', tb3⟩, psF, u9 (z5 tbF S2) tb2.at_ (by decide) kp⟩
          have s4 := p0 (.lst (ns'.map V.int)) hD2
          have hat' : atI (ns'.map V.int) at_ = some (V.int (((if at_ = 0 then (rest.map fun q => withIn q a).foldl (fun r q => if d.now.stands a q < d.now.stands a r then q else r) (withIn m a) else (rest.map fun q => withIn q a).foldl (fun r q => if d.now.stands a r < d.now.stands a q then q else r) (withIn m a) : Nat)) : Int)) := by
            rcases hat with rfl | rfl
            · rw [if_pos rfl, en1]
              exact t4 (j := 0) rfl
            · rw [if_neg (by decide), en2, List.map_append]
              exact zt7 _ _
          refine ⟨_, rfl, D2, _, _, _, rfl, rfl, SqL.of i0, hat', L0, fun r hr0 => ?_⟩
          exact k.finT ea (st.ws ws3) (fun b o hb _ _ _ => ws3 b o hb) tk3 (.inl rfl) (.inl rfl) rfl (s4.trans (p0 _ hr0)) (s4.free hr0) i0
def zE8 (C : Addr) : Sp := fun vs H Q _ => ∃ (p q u : Addr) (a : Nat) (d : Desk), vs = [.ref p, nV a] ∧ StAt C H p q u d ∧ GoodD d ∧ U2 H ∧ Y0 C H p q u d (.bestOf a) Q
include T in
theorem zW1 : FnOk P w K mg base CX0 7 A.f_ho_best A.d_ho_best ["students", "a"] (zE8 A.C_Students) := by
  refine T.F_ho_best.ok zL8 (fun vs H Q E h => ?_) (fun cdv Ar outer s H vs Q E hr h => ?_)
  · obtain ⟨p, q, u, a, d, rfl, _⟩ := h
    rfl
  · obtain ⟨p, q, u, a, d, rfl, st, g, tb, k⟩ := h
    refine ⟨_, (g0 (n0 (o0 (zk1 T) (hr.mono (by decide)) rfl T.m_whom_by_place T.F_whom_by_place.kp T.b_whom_by_place .nil pass0 (pa_cons (pv 0) (pa_cons (pv 1) (pa_cons pe_int c0)))))), ?_⟩
    exact ⟨_, rfl, _, rfl, p, q, u, a, 0, d, rfl, .inl rfl, st, g, tb, k⟩
def zy7 (C : Addr) : Sp := fun vs H Q _ => ∃ (p q u : Addr) (a : Nat) (d : Desk), vs = [.ref p, nV a] ∧ StAt C H p q u d ∧ GoodD d ∧ U2 H ∧ Y0 C H p q u d (.worstOf a) Q
include T in
theorem zT7 : FnOk P w K mg base CX0 7 A.f_ho_worst A.d_ho_worst ["students", "a"] (zy7 A.C_Students) := by
  refine T.F_ho_worst.ok zJ4 (fun vs H Q E h => ?_) (fun cdv Ar outer s H vs Q E hr h => ?_)
  · obtain ⟨p, q, u, a, d, rfl, _⟩ := h
    rfl
  · obtain ⟨p, q, u, a, d, rfl, st, g, tb, k⟩ := h
    refine ⟨_, (g0 (n0 (o0 (zk1 T) (hr.mono (by decide)) rfl T.m_whom_by_place T.F_whom_by_place.kp T.b_whom_by_place .nil pass0 (pa_cons (pv 0) (pa_cons (pv 1) (pa_cons (U6 L6 pe_int) c0)))))), ?_⟩
    exact ⟨_, rfl, _, rfl, _, rfl, p, q, u, a, -1, d, rfl, .inr rfl, st, g, tb, k⟩
theorem zr5 (xs : List V) : U1 xs (some 1) none = xs.drop 1 := by
  unfold U1
  have e1 : HT.sIx xs.length 0 (some 1) = min 1 xs.length := HT.sIx_nat ..
  rw [e1, HT.sIx_none]
  cases xs with
  | nil => rfl
  | cons x xs => rw [show min 1 (x :: xs).length = 1 from Nat.min_eq_left (by simp), List.take_of_length_le (by simp)]
theorem zq6 (s : House) (p : List (Nat × Nat)) : S5 s.wish (mOf s.many p) = l4 s p := by
  unfold S5 l4
  rw [zo7, y9]
def zD5 (C : Addr) : Sp := fun vs H Q _ => ∃ (p q u : Addr) (d : Desk), vs = [.ref p] ∧ StAt C H p q u d ∧ GoodD d ∧ U2 H ∧ Y0 C H p q u d .fairest Q
include T in
theorem zV7 : FnOk P w K mg base CX0 6 A.f_ho_fairest A.d_ho_fairest ["students"] (zD5 A.C_Students) := by
  refine T.FC_ho_fairest.ok zL4 (fun vs H Q E h => ?_) (fun Ar outer s H vs Q E hr h => ?_)
  · obtain ⟨p, q, u, d, rfl, _⟩ := h
    rfl
  · obtain ⟨p, q, u, d, rfl, st, g, tbs, k⟩ := h
    obtain ⟨⟨psW, tbW⟩, ps, tb⟩ := id tbs
    obtain ⟨dx, l0, m0, hp, tl, tm⟩ := st.ins
    refine ⟨_, (j0 (T0 (i := 1) zL4.nd rfl (.inl rfl) (o0 (O4 T) (hr.mono (by decide)) rfl T.m_good_pairings T.F_good_pairings.kp T.b_good_pairings .nil pass0 (pa_cons (I0 (pv 0) rfl) c0)))
      (j0 (B0 (J0 U0 (N0 O0 (by rfl) T.len PySem.boot_len (pa_cons (pv 1) c0)) pe_int (F0 _)) (g0 (n0 (G0 (pa_cons (V0 rfl T.c_NOT_SO) c0)))) C0)
      (j0 (T0 (i := 2) zL4.nd rfl (.inl rfl) (zR8 (k := 4) (c := A.k_ho_fairest) (P := B5) (N := ["mates", "students"]) (x := "mates") (fr := [("students", 0)]) (by rfl) T.min (pa_cons (pv 1) c0) (hr.mono (by decide)) rfl T.hd_ho_fairest T.bl_ho_fairest (zn6 (by with_unfolding_all rfl)) rfl (fun _ _ _ _ _ => rfl) (fun _ _ _ _ => (o0 (zk5 T) (((hr.mono (show 5 ≤ _ by decide)).in1.deeper _).mono (by decide)) rfl T.m_how_fair T.F_how_fair.kp T.b_how_fair .nil pass0 (pa_cons (show PE _ _ (N6 K _ _) from I0 (pv 1) rfl) (pa_cons (pv 0) c0))))))
      (g0 (n0 (B1 Z4 (g2 D6 (by rfl) T.list PyProof.Rows.boot_list (pa_cons (o0 (zk5 T) (hr.mono (by decide)) rfl T.m_how_fair T.F_how_fair.kp T.b_how_fair .nil pass0 (pa_cons (I0 (pv 0) rfl) (pa_cons (pv 2) c0))) c0)) (Y4 C5 (o0 (r8 T) (hr.mono (by decide)) rfl T.m_told_pairing T.F_told_pairing.kp T.b_told_pairing .nil pass0 (pa_cons (pv 2) c0)) (G4 pe_int) E5))))))), ?_⟩
    refine ⟨_, rfl, p, _, dx, _, _, rfl, hp, T.cl_Students, T.n_lists, rfl, l0, d.now.wish, rfl, tl, g.now.n7, fun H1 r1 ⟨ws, e1, w1⟩ s1 f1 lz => ?_⟩
    rw [U3 d.now] at w1
    have wl : ws.length = d.now.good.length := by rw [w1.1, List.length_map]
    refine ⟨_, rfl, _, _, rfl, .inl (SqL.of e1), rfl, _, rfl, A0 (fun c => ?_) (fun c => ?_)⟩
    · have c' : d.now.good = [] := by
        have z := of_decide_eq_true c
        injection z with z
        have z2 : ws.length = 0 := by omega
        rw [wl] at z2
        exact List.eq_nil_of_length_eq_zero z2
      have ea : act d .fairest = (d, only (-33)) := by
        show (d, match d.now.good with | [] => only (-33) | m :: l => _) = _
        rw [c']
      exact ⟨L0, fun r hr0 => k.read st ea rfl (s1.trans (p0 _ hr0)) (s1.free hr0) i0⟩
    cases hg : d.now.good with
    | nil =>
      rw [hg] at wl
      exact absurd (by rw [wl]; rfl) c
    | cons m rest =>
      have tb1 := z5 tb s1
      have hne : ws ≠ [] := fun z => by rw [z, hg] at wl; simp at wl
      refine ⟨_, rfl, r1, ws, fun i => ((((l4 d.now (d.now.good.getD i [])).1 : Nat) : Int), (((l4 d.now (d.now.good.getD i [])).2 : Nat) : Int)), ps, rfl, SqL.of e1, hne, tb1, fun H2 ps' tb2 kp => ?_⟩
      have hp2 : H2 p = some (.ins A.C_Students dx (J1 l0 m0 (.ref q) (.ref u))) := kp p _ (s1 _ _ hp) (ne_of (s1 _ _ hp) tb1.at_ (by intro z; cases z))
      have kt2 : KT H1 H2 := fun b xs e => kp b _ e (ne_of e tb1.at_ (by intro z; cases z))
      have at_ : ∀ {j : Nat} {x : V}, ws[j]? = some x → ∃ m', d.now.good[j]? = some m' ∧ m' ∈ d.now.good ∧ d.now.good.getD j [] = m' ∧ R0 H1 x (mOf d.now.many m') := fun {j x} hj => by
        obtain ⟨mt, hmt, tx⟩ := w1.of hj
        rw [List.getElem?_map] at hmt
        cases hm : d.now.good[j]? with
        | none => rw [hm] at hmt; cases hmt
        | some m' =>
          rw [hm] at hmt
          have em : mOf d.now.many m' = mt := Option.some.inj hmt
          subst em
          exact ⟨m', rfl, List.mem_of_getElem? hm, by rw [List.getD_eq_getElem?_getD, hm]; rfl, tx⟩
      have tl2 : L1 H2 l0 d.now.wish := ((KT.of s1).trans kt2).tupL tl
      refine ⟨fun j x H3 hj sm => ?_, fun i x H3 hi hbest sm => ?_⟩
      · obtain ⟨m', hm', mem', eD, tx⟩ := at_ hj
        refine ⟨_, rfl, p, _, dx, _, _, rfl, sm _ _ hp2, T.cl_Students, T.n_lists, rfl, _, rfl, l0, x, d.now.wish, _, rfl, (KT.of sm).tupL tl2, (KT.of sm).tupN (kt2.tupN tx), k4 (good_fit d.now mem'), g.now.n7, fun H4 t et s4 => ⟨s4, t, rfl, ?_⟩⟩
        show _ = some (HO.tup (kP ((((l4 d.now (d.now.good.getD j [])).1 : Nat) : Int), (((l4 d.now (d.now.good.getD j [])).2 : Nat) : Int))))
        rw [et, eD, zq6 d.now m']
        rfl
      · obtain ⟨m', hm', mem', eD, tx⟩ := at_ hi
        have lst : IsLeast (l4 d.now) (m :: rest) i m' := by
          rw [← hg]
          refine ⟨hm', fun j y hy => ?_, fun j y hj hy => ?_⟩
          · have hjl : j < ws.length := by rw [wl]; exact (List.getElem?_eq_some_iff.mp hy).1
            have eY : d.now.good.getD j [] = y := by rw [List.getD_eq_getElem?_getD, hy]; rfl
            have := (hbest j hjl).1
            dsimp only at this
            rw [eD, eY] at this
            unfold ltP at this
            unfold Lx
            dsimp only at this
            omega
          · have hjl : j < ws.length := by rw [wl]; exact (List.getElem?_eq_some_iff.mp hy).1
            have eY : d.now.good.getD j [] = y := by rw [List.getD_eq_getElem?_getD, hy]; rfl
            have := (hbest j hjl).2 hj
            dsimp only at this
            rw [eD, eY] at this
            unfold ltP at this
            unfold Lx
            dsimp only at this
            omega
        have ea : act d .fairest = (d, ⟨((d.now.worst m' : Nat) : Int), d.now.sum m' :: Km464.toldPairs d.now.many m'⟩) := by
          show (d, match d.now.good with | [] => only (-33) | m :: l => _) = _
          rw [hg]
          show (d, (⟨_, _⟩ : Km464.Ans)) = _
          rw [qf7 lst]
        have ws2 : WS H H2 := fun b o e => by
          by_cases hb : b = B5
          · subst hb
            have e4 := s1 _ _ e
            rw [tb1.at_] at e4
            exact .inr ⟨ps, ps', (Option.some.inj e4).symm, tb2.at_⟩
          · exact .inl (kp b o (s1 _ _ e) hb)
        have tk2 : y4 H H2 := fun _ => ⟨⟨psW, u9 (z5 tbW s1) tb1.at_ (by decide) kp⟩, ps', tb2⟩
        have ff := good_fit d.now mem'
        have tx3 := (KT.of sm).tupN (kt2.tupN tx)
        refine ⟨_, rfl, p, _, dx, _, _, rfl, sm _ _ hp2, T.cl_Students, T.n_lists, rfl, _, rfl, l0, x, d.now.wish, _, rfl, (KT.of sm).tupL tl2, tx3, k4 ff, g.now.n7, fun H4 t et s4 => ⟨t, _, rfl, .inr (SqT.of et), fun q1 hq1 => ?_⟩⟩
        have s5 := p0 (.lst [nV (S5 d.now.wish (mOf d.now.many m')).1, nV (S5 d.now.wish (mOf d.now.many m')).2]) hq1
        refine ⟨_, rfl, x, _, rfl, (KT.of s5).tupN ((KT.of s4).tupN tx3), by rw [E1]; exact g.now.n7, fun H6 r6 e6 s6 f6 => ⟨_, rfl, r6, _, rfl, SqL.of e6, fun q2 hq2 => ?_⟩⟩
        have s7 := p0 (.lst (U1 (nVs (cnt (mOf d.now.many m') :: d2 (mOf d.now.many m') (mOf d.now.many m').length)) (some 1) none)) hq2
        refine ⟨q1, q2, _, _, rfl, rfl, s7 _ _ (s6 _ _ i0), i0, ?_, fun r hr0 => ?_⟩
        · rw [zr5]
          simp only [List.length_drop, List.length_map, List.length_cons, D5, List.length_nil]
          rw [sizeLine_eq]
          omega
        · have S := (((sm.trans s4).trans s5).trans s6).trans s7
          refine k.finT ea (st.ws ws2) (fun b o hb _ _ _ => ws2 b o hb) tk2 (.inl rfl) (.inl rfl) ?_ (S.trans (p0 _ hr0)) (S.free hr0) i0
          rw [zr5, zq6, E1, Y7 _ g.now.n7]
          rfl
end Pl
end
section
set_option Elab.async false
set_option linter.all false
set_option maxRecDepth 100000
set_option maxHeartbeats 4000000
namespace Pl
open PySem PySem.Spec PyProof.Rows L2 PM
variable {P : Program} {w : World} {K : PySem.W.Frag} {mg : Str → Option Value} {base : Heap} {A : Ad} (T : Txt K mg base A)
open Km464 (House Desk withIn opened key only act MOST bit bits fill)
def oV : Option Nat → V
  | none => .non
  | some a => nV a
abbrev oVs (l : List (Option Nat)) : List V := l.map oV
theorem A8 {l : List (Option Nat)} {i : Nat} (h : i < l.length) : (oVs l)[i]? = some (oV (l.getD i none)) := by
  rw [List.getElem?_map, List.getD_eq_getElem?_getD, List.getElem?_eq_getElem h]; rfl
theorem zY7 (x : Option Nat) : decide (oV x = V.non) = decide (x = none) := by
  cases x with
  | none => rfl
  | some a => exact decide_eq_decide.mpr ⟨(fun h => by cases h), (fun h => by cases h)⟩
def zC4 : Sp := fun vs H Q _ => ∃ (n : Nat) (m : V) (rs : List Nat), vs = [nV n, m] ∧ R0 H m rs ∧ n ≤ 7 ∧ rs.length ≤ 7 ∧ (∀ x ∈ rs, x < n) ∧ ∀ (H' : Hp) (r : Addr), H' r = some (.lst (oVs (knB n rs rs.length))) → x0 H H' → H r = Option.none → Q (.ref r) H'
include T in
theorem zT4 : FnOk P w K mg base CX0 1 A.f_known_before A.d_known_before ["n", "rings"] (zC4) := by
  refine T.F_known_before.ok zI6 (fun vs H Q E h => ?_) (fun cdv Ar outer s H vs Q E hr h => ?_)
  · obtain ⟨n, m, rs, rfl, _⟩ := h
    rfl
  · obtain ⟨n, m, rs, rfl, ⟨p, rfl, hp⟩, h7, hr7, hlt, k⟩ := h
    refine ⟨_, (j0 (T0 (i := 2) zI6.nd rfl (.inl rfl) (B1 m6 (G0 (pa_cons k6 c0)) (pv 0)))
      (j0 (W2 PassesOwn.never rfl (m3 rfl T.range (pa_cons (N0 O0 (by rfl) T.len PySem.boot_len (pa_cons (pv 1) c0)) c0)) (O1 (i := 3) zI6.nd rfl (.inl rfl)) (g0 (d4 (pv 3) (i4 (pv 2) (pe_ix j1 (pv 1) (pv 3) (fun _ _ => rfl)) Z3))))
      (g0 (n0 (pv 2))))), ?_⟩
    refine ⟨L0, fun t ht => ⟨_, rfl, t, ((n : Nat) : Int), _, rfl, rfl, i0, by omega, by omega, by show 1 * n ≤ sizeLine; rw [sizeLine_eq]; omega, fun r hr0 => ?_⟩⟩
    have e0 : (List.replicate (((n : Nat) : Int)).toNat [V.non]).flatten = oVs (knB n rs 0) := by
      rw [show (((n : Nat) : Int)).toNat = n from Int.toNat_natCast n, Z7]
      show _ = (List.replicate n none).map oV
      rw [List.map_replicate]
      rfl
    rw [e0]
    have s1 := (p0 (.lst [V.non]) ht).trans (p0 (.lst (oVs (knB n rs 0))) hr0)
    have f0 : H r = Option.none := (p0 (.lst [V.non]) ht).free hr0
    refine ⟨_, rfl, _, _, rfl, .inr (SqT.of (s1 _ _ hp)), (((nVs rs).length : Nat) : Int), rfl, (Z0 (by rw [List.length_map]; omega)).1, (Z0 (by rw [List.length_map]; omega)).2,
      (F3 (lo := 0) (n := (nVs rs).length) (fun i σ H' => ∃ va : Option V, σ = [some (nV n), some (.ref p), some (.ref r), va] ∧ x0 H H' ∧ H' r = some (.lst (oVs (knB n rs i)))) ⟨none, rfl, s1, i0⟩ ?_ ?_)⟩
    · rintro i σ H1 hi ⟨va, rfl, s2, e2⟩
      rw [List.length_map] at hi
      rw [V2]
      have gi := E2 hi
      have hb : rs.getD i 0 < n := hlt _ (List.mem_of_getElem? gi)
      refine ⟨_, rfl, _, rfl, _, rfl, _, rfl, rdT (s2 _ _ hp) (T1 gi) (C4 e2 (by rw [List.length_map, v7]; exact hb) ?_)⟩
      refine ⟨_, rfl, R1 s2 _ f0, ?_⟩
      rw [i0, J8]
      show _ = some (HO.lst (((knB n rs i).set (rs.getD i 0) (some i)).map oV))
      rw [List.map_set]
      rfl
    · rintro σ H1 ⟨va, rfl, s2, e2⟩
      rw [List.length_map] at e2
      exact ⟨_, rfl, k H1 r e2 s2 f0⟩
def zB4 : Sp := fun vs H Q _ => ∃ (l m : V) (pb : Addr) (x : Nat) (L : List (List Nat)) (rs : List Nat) (bf : List (Option Nat)), vs = [l, m, .ref pb, nV x] ∧ L1 H l L ∧ R0 H m rs ∧ H pb = some (.lst (oVs bf)) ∧ x < L.length ∧ bf.length = L.length ∧
  (x < rs.length → x = rs.getD x 0 ∨ (L.getD x []).contains (rs.getD x 0) = true) ∧ (∀ y, bf.getD x none = some y → x = y ∨ (L.getD x []).contains y = true) ∧
  Q (.bl (if rs.length ≤ x then true else match bf.getD x none with | none => true | some y => decide (plc L x (rs.getD x 0) ≤ plc L x y))) H
theorem zP7 {H : Hp} {a b : Nat} {Q : VK} (q : Q (.bl (decide (a ≤ b))) H) : rI0 (fun i j => .bl (decide (i ≤ j))) (nV a) (nV b) H Q := ⟨_, _, rfl, rfl, by
  have e : decide (((a : Nat) : Int) ≤ ((b : Nat) : Int)) = decide (a ≤ b) := decide_eq_decide.mpr (by omega)
  dsimp only; rw [e]; exact q⟩
include T in
theorem zk4 : FnOk P w K mg base CX0 2 A.f_in_order A.d_in_order ["lists", "rings", "before", "a"] (zB4) := by
  refine T.F_in_order.ok zI8 (fun vs H Q E h => ?_) (fun cdv Ar outer s H vs Q E hr h => ?_)
  · obtain ⟨l, m, pb, x, L, rs, bf, rfl, _⟩ := h
    rfl
  · obtain ⟨l, m, pb, x, L, rs, bf, rfl, hl, ⟨p, rfl, hp⟩, hb, hx, hbl, o1, o2, k⟩ := h
    have gx := A8 (l := bf) (i := x) (by rw [hbl]; exact hx)
    refine ⟨_, (j0 (B0 (PW.pt (M2 (J0 p6 (pv 3) (N0 O0 (by rfl) T.len PySem.boot_len (pa_cons (pv 1) c0)) (F0 _)) (j3 (J0 zS5 (pe_ix ix_list (pv 2) (pv 3) (fun _ _ => rfl)) k6 (F0 _))))) (g0 (n0 O3)) C0)
      (g0 (n0 (M4 o6 (o0 (N4 T) (hr.mono (by decide)) rfl T.m_place T.F_place.kp T.b_place .nil pass0 (pa_cons (pv 0) (pa_cons (pv 3) (pa_cons (pe_ix j1 (pv 1) (pv 3) (fun _ _ => rfl)) c0)))) (o0 (N4 T) (hr.mono (by decide)) rfl T.m_place T.F_place.kp T.b_place .nil pass0 (pa_cons (pv 0) (pa_cons (pv 3) (pa_cons (pe_ix ix_list (pv 2) (pv 3) (fun _ _ => rfl)) c0)))) (F0 _))))), ?_⟩
    refine ⟨_, rfl, _, rfl, _, _, rfl, .inr (SqT.of hp), S6 ⟨_, rfl, A0 (fun c => C2 ?_) (fun c => ?_)⟩⟩
    · have c' : rs.length ≤ x := by have := of_decide_eq_true c; rw [List.length_map] at this; exact this
      rw [if_pos c'] at k
      exact k
    have c' : ¬ rs.length ≤ x := fun z => c (decide_eq_true (by rw [List.length_map]; exact z))
    rw [if_neg c'] at k
    refine ⟨_, rfl, _, rfl, rdL (SqL.of hb) gx ⟨rfl, _, rfl, A0 (fun c2 => ?_) (fun c2 => ?_)⟩⟩
    · have e : bf.getD x none = none := by rw [zY7] at c2; exact of_decide_eq_true c2
      rw [e] at k
      exact k
    · cases e : bf.getD x none with
      | none => exact absurd (by rw [e]; rfl) c2
      | some y =>
        rw [e] at k gx
        refine ⟨_, rfl, _, rfl, _, rfl, _, rfl, rdT hp (T1 (E2 (by omega))) ⟨l, x, _, L, rfl, hl, hx, o1 (by omega), ?_⟩⟩
        exact ⟨_, rfl, _, rfl, _, rfl, _, rfl, rdL (SqL.of hb) gx ⟨l, x, y, L, rfl, hl, hx, o2 y e, zP7 k⟩⟩
def lvB (L : List (List Nat)) (bf : List (Option Nat)) (b x c : Nat) : Bool := match bf.getD c none with
  | none => false
  | some y => S1 L b c && (decide (plc L b c < plc L b x) && decide (plc L c b < plc L c y))
def zC0 : Sp := fun vs H Q _ => ∃ (l : V) (pb : Addr) (b x : Nat) (L : List (List Nat)) (bf : List (Option Nat)), vs = [l, .ref pb, nV b] ∧ L1 H l L ∧ H pb = some (.lst (oVs bf)) ∧ b < L.length ∧ bf.length = L.length ∧ L.length ≤ 7 ∧ bf.getD b none = some x ∧
  (∀ c y, c < L.length → bf.getD c none = some y → c = y ∨ (L.getD c []).contains y = true) ∧ Q (.bl ((List.range L.length).any fun c => lvB L bf b x c)) H
include T in
theorem zS9 : FnOk P w K mg base CX0 4 A.f_would_leave_before A.d_would_leave_before ["lists", "before", "b"] (zC0) := by
  refine T.F_would_leave_before.ok zG8 (fun vs H Q E h => ?_) (fun cdv Ar outer s H vs Q E hr h => ?_)
  · obtain ⟨l, pb, b, x, L, bf, rfl, _⟩ := h
    rfl
  · obtain ⟨l, pb, b, x, L, bf, rfl, hl, hb, hbL, hbl, h7, ex, on, k⟩ := h
    have hl0 := hl
    obtain ⟨p, vs, rfl, hp, hE⟩ := hl0
    refine ⟨_, (j0 (W2 PassesOwn.never rfl (m3 rfl T.range (pa_cons (N0 O0 (by rfl) T.len PySem.boot_len (pa_cons (pv 0) c0)) c0)) (O1 (i := 3) zG8.nd rfl (.inl rfl)) (g0 (B0 (PW.pt (T6 (J0 zj5 (pe_ix ix_list (pv 1) (pv 3) (fun _ _ => rfl)) k6 (F0 _)) (c8 (X0 (o0 (zj9 T) (hr.mono (by decide)) rfl T.m_would_break T.F_would_break.kp T.b_would_break .nil pass0 (pa_cons (pv 0) (pa_cons (pv 1) (pa_cons (pv 2) (pa_cons (pv 3) c0))))))))) (g0 (n0 O3)) C0)))
      (g0 (n0 O3))), ?_⟩
    refine ⟨_, rfl, _, _, rfl, .inr (SqT.of hp), ((vs.length : Nat) : Int), rfl, (Z0 (by rw [hE.1]; omega)).1, (Z0 (by rw [hE.1]; omega)).2, (F3 (lo := 0) (n := vs.length) (fun i σ H' => ∃ vc : Option V, σ = [some (.ref p), some (.ref pb), some (nV b), vc] ∧ H' = H ∧ ∀ c, c < i → lvB L bf b x c = false) ⟨none, rfl, rfl, fun c hc => absurd hc (by omega)⟩ ?_ ?_)⟩
    · rintro i σ H1 hi ⟨vc, rfl, rfl, e1⟩
      rw [hE.1] at hi
      rw [V2]
      have gi := A8 (l := bf) (i := i) (by rw [hbl]; exact hi)
      have gb := A8 (l := bf) (i := b) (by rw [hbl]; exact hbL)
      have no : lvB L bf b x i = false → ∃ vc : Option V, [some (V.ref p), some (V.ref pb), some (nV b), some (nV i)] = [some (V.ref p), some (.ref pb), some (nV b), vc] ∧ H1 = H1 ∧ ∀ c, c < i + 1 → lvB L bf b x c = false := fun z =>
        ⟨_, rfl, rfl, fun c hc => by
          by_cases e : c = i
          · rw [e]; exact z
          · exact e1 c (by omega)⟩
      refine ⟨_, rfl, _, rfl, rdL (SqL.of hb) gi ⟨rfl, _, rfl, A0 (fun c => ?_) (fun c => A6 (no ?_))⟩⟩
      · cases e : bf.getD i none with
        | none => rw [e] at c; cases c
        | some y =>
          rw [e] at gi
          rw [ex] at gb
          refine ⟨_, rfl, _, rfl, _, rfl, _, rfl, _, .ref pb, b, i, x, y, L, rfl, hl, hbL, hi, ⟨pb, _, rfl, .inr hb, gb⟩, ⟨pb, _, rfl, .inr hb, gi⟩, on b x hbL ex, on i y hi e, _, rfl, A0 (fun c2 => ?_) (fun c2 => no ?_)⟩
          · have z : ((List.range L.length).any fun c => lvB L bf b x c) = true := List.any_eq_true.mpr ⟨i, List.mem_range.mpr hi, by unfold lvB; rw [e]; exact c2⟩
            rw [z] at k
            exact k
          · unfold lvB
            rw [e]
            exact Bool.eq_false_iff.mpr c2
      · have e : bf.getD i none = none := by
          cases e : bf.getD i none with
          | none => rfl
          | some y => rw [e] at c; exact absurd rfl c
        unfold lvB
        rw [e]
    · rintro σ H1 ⟨vc, rfl, rfl, e1⟩
      have z : ((List.range L.length).any fun c => lvB L bf b x c) = false := List.any_eq_false.mpr fun c hc => by
        rw [e1 c (by rw [hE.1]; exact List.mem_range.mp hc)]
        simp
      rw [z] at k
      exact k
abbrev hs (L : List (List Nat)) : House := ⟨L, []⟩
def Nxt (L : List (List Nat)) (rs : List Nat) (k : Nat) : Prop := k = rs.getD k 0 ∨ S1 L k (rs.getD k 0) = true
def zB9 : Sp := fun vs H Q _ => ∃ (l m : V) (L : List (List Nat)) (rs : List Nat) (a : Nat), vs = [l, m] ∧ L1 H l L ∧ R0 H m rs ∧ rs.length = a + 1 ∧ rs.length ≤ L.length ∧ L.length ≤ 7 ∧ (∀ x ∈ rs, x < L.length) ∧ (∀ k, k < a → Nxt L rs k) ∧ ((rs.take a).Nodup) ∧ ∀ H' : Hp, x0 H H' → Q (.bl (O2 (hs L) rs)) H'
theorem qi4 {L : List (List Nat)} {rs : List Nat} (nd : rs.Nodup) (lt : ∀ x ∈ rs, x < L.length) (nx : ∀ k, k < rs.length → Nxt L rs k) {c y : Nat} (e : (knB L.length rs rs.length).getD c none = some y) : c = y ∨ (L.getD c []).contains y = true := by
  obtain ⟨h1, h2⟩ := (f9 nd lt c y).mp e
  have e2 : rs.getD y 0 = c := by rw [List.getD_eq_getElem?_getD, h2]; rfl
  rcases nx y h1 with z | z
  · rw [e2] at z; exact .inl z.symm
  · rw [e2, L9] at z; exact .inr (d6 z)
theorem qb8 {L : List (List Nat)} {rs : List Nat} {b x : Nat} (e : (knB L.length rs rs.length).getD b none = some x) : z6 (hs L) rs b = (List.range L.length).any fun c => lvB L (knB L.length rs rs.length) b x c := by
  unfold z6
  show (List.range L.length).any _ = _
  congr 1
  funext c
  unfold P5 lvB m4
  show (match (knB L.length rs rs.length).getD b none, (knB L.length rs rs.length).getD c none with | some x, some y => _ | _, _ => _) = _
  rw [e]
  cases (knB L.length rs rs.length).getD c none <;> rfl
theorem qa4 {s : House} {rs : List Nat} {a : Nat} (h : rs.length = a + 1) : O2 s rs = (!((rs.take a).contains (rs.getD a 0)) && ((a == rs.getD a 0 || s.would a (rs.getD a 0)) && (Q2 s rs a && (Q2 s rs (rs.getD a 0) && !z6 s rs (rs.getD a 0))))) := by
  have e : rs.length - 1 = a := by omega
  unfold O2
  rw [e]
theorem zj2 (L : List (List Nat)) (rs : List Nat) (x : Nat) : (if rs.length ≤ x then true else match (knB L.length rs rs.length).getD x none with | none => true | some y => decide (plc L x (rs.getD x 0) ≤ plc L x y)) = Q2 (hs L) rs x := by
  unfold Q2 m4
  rfl
include T in
theorem zT2 : FnOk P w K mg base CX0 5 A.f_may_hold A.d_may_hold ["lists", "rings"] (zB9) := by
  refine T.F_may_hold.ok zI4 (fun vs H Q E h => ?_) (fun cdv Ar outer s H vs Q E hr h => ?_)
  · obtain ⟨l, m, L, rs, a, rfl, _⟩ := h
    rfl
  · obtain ⟨l, m, L, rs, a, rfl, hl, hm, ha, hrL, h7, hlt, nx, nd, k⟩ := h
    have hl0 := hl
    obtain ⟨p, vs, rfl, hp, hE⟩ := hl0
    have hm0 := hm
    obtain ⟨pm, rfl, hpm⟩ := hm0
    have ga := E2 (l := rs) (i := a) (by omega)
    have hbL : rs.getD a 0 < L.length := hlt _ (List.mem_of_getElem? ga)
    have ea : V.int (((rs.length : Nat) : Int) - 1) = nV a := by unfold nV; rw [ha]; congr 1; omega
    have k2 := k
    rw [qa4 ha] at k2
    refine ⟨_, (j0 (T0 (i := 2) zI4.nd rfl (.inl rfl) (B1 m8 (N0 O0 (by rfl) T.len PySem.boot_len (pa_cons (pv 1) c0)) pe_int))
      (j0 (T0 (i := 3) zI4.nd rfl (.inl rfl) (pe_ix j1 (pv 1) (pv 2) (fun _ _ => rfl)))
      (j0 (B0 (PW.pt (M2 (J0 o8 (pv 3) (Y4 zG4 (pv 1) E5 (G4 (pv 2))) (by with_unfolding_all rfl)) (j3 (PW.pt (T6 (J0 n6 (pv 2) (pv 3) (F0 _)) (c8 (N1 (X0 (o0 (F5 T) (hr.mono (by decide)) rfl T.m_would_share T.F_would_share.kp T.b_would_share .nil pass0 (pa_cons (pv 0) (pa_cons (pv 2) (pa_cons (pv 3) c0)))))))))))) (g0 (n0 O3)) C0)
      (j0 (T0 (i := 4) zI4.nd rfl (.inl rfl) (o0 (zT4 T) (hr.mono (by decide)) rfl T.m_known_before T.F_known_before.kp T.b_known_before .nil pass0 (pa_cons (N0 O0 (by rfl) T.len PySem.boot_len (pa_cons (pv 0) c0)) (pa_cons (pv 1) c0))))
      (j0 (B0 (PW.pt (M2 (N1 (X0 (o0 (zk4 T) (hr.mono (by decide)) rfl T.m_in_order T.F_in_order.kp T.b_in_order .nil pass0 (pa_cons (pv 0) (pa_cons (pv 1) (pa_cons (pv 4) (pa_cons (pv 2) c0))))))) (j3 (N1 (X0 (o0 (zk4 T) (hr.mono (by decide)) rfl T.m_in_order T.F_in_order.kp T.b_in_order .nil pass0 (pa_cons (pv 0) (pa_cons (pv 1) (pa_cons (pv 4) (pa_cons (pv 3) c0)))))))))) (g0 (n0 O3)) C0)
      (g0 (n0 (zR7 (o0 (zS9 T) (hr.mono (by decide)) rfl T.m_would_leave_before T.F_would_leave_before.kp T.b_would_leave_before .nil pass0 (pa_cons (pv 0) (pa_cons (pv 4) (pa_cons (pv 3) c0)))))))))))), ?_⟩
    refine ⟨_, rfl, _, _, rfl, .inr (SqT.of hpm), _, _, rfl, rfl, ?_⟩
    dsimp only
    rw [List.length_map, ea]
    refine ⟨_, rfl, _, rfl, rdT hpm (T1 ga) ?_⟩
    refine ⟨_, rfl, _, rfl, _, rfl, _, rfl, pm, _, rfl, SqT.of hpm, ?_, fun t ht => ?_⟩
    · rw [HT.sIx_none, HT.sIx_nat, List.length_map]
      omega
    have s1 := p0 (.tup (U1 (nVs rs) none (some ((a : Nat) : Int)))) ht
    rw [W8] at s1 ⊢
    refine a8 i0 ⟨_, rfl, A0 (fun c => C2 ?_) (fun c => ?_)⟩
    · have z := k2 _ s1
      rw [c, Bool.not_true, Bool.false_and] at z
      exact z
    have c' : (rs.take a).contains (rs.getD a 0) = false := Bool.eq_false_iff.mpr c
    rw [c', Bool.not_false, Bool.true_and] at k2
    have hns : rs.Nodup := by
      have e : rs = rs.take a ++ [rs.getD a 0] := by
        have := Z1 ga
        rw [← this, List.take_of_length_le (by omega)]
      rw [e]
      refine List.nodup_append.mpr ⟨nd, by simp, fun x hx y hy z => ?_⟩
      rw [List.mem_singleton.mp hy] at z
      rw [← z] at c'
      simp [hx] at c'
    refine ⟨_, rfl, _, rfl, i6 ⟨_, rfl, A0 (fun c1 => ⟨_, rfl, _, rfl, _, rfl, .ref p, a, rs.getD a 0, L, rfl, (KT.of s1).tupL hl, by omega, hbL, _, rfl, A0 (fun c2 => ?_) (fun c2 => ?_)⟩) (fun c1 => A6 ?_)⟩⟩
    · have e1 : (a == rs.getD a 0) = false := by
        have z : ¬ a = rs.getD a 0 := by simpa using c1
        exact beq_eq_false_iff_ne.mpr z
      have e2 : (hs L).would a (rs.getD a 0) = false := by
        have z : S1 L a (rs.getD a 0) = false := by simpa using c2
        exact z
      have z := k2 _ s1
      rw [e1, e2, Bool.false_or, Bool.false_and] at z
      exact z
    all_goals
      have hn : Nxt L rs a := by
        first
          | exact .inr (by simpa using c2)
          | exact .inl (by simpa using c1)
      have eo : (a == rs.getD a 0 || (hs L).would a (rs.getD a 0)) = true := by
        rw [Bool.or_eq_true]
        exact hn.imp (fun e => beq_iff_eq.mpr e) fun e => e
      rw [eo, Bool.true_and] at k2
      have nxA : ∀ k, k < rs.length → Nxt L rs k := fun k hk => by
        by_cases e : k = a
        · rw [e]; exact hn
        · exact nx k (by omega)
      have nxO : ∀ k, k < rs.length → k = rs.getD k 0 ∨ (L.getD k []).contains (rs.getD k 0) = true := fun k hk => (nxA k hk).imp id d6
      refine ⟨_, rfl, _, _, rfl, .inr (SqT.of (s1 _ _ hp)), _, rfl, vs.length, .ref pm, rs, rfl, (KT.of s1).tupN hm, by rw [hE.1]; exact h7, by omega, by rw [hE.1]; exact hlt, fun H2 r2 e2 s2 f2 => ?_⟩
      rw [hE.1] at e2
      have S2 := s1.trans s2
      have kt := KT.of S2
      have bl : (knB L.length rs rs.length).length = L.length := v7 _ _ _
      have on : ∀ c y, c < L.length → (knB L.length rs rs.length).getD c none = some y → c = y ∨ (L.getD c []).contains y = true := fun c y _ hy => qi4 hns hlt nxA hy
      have k3 := k2 H2 S2
      rw [← zj2, ← zj2] at k3
      refine ⟨_, rfl, _, rfl, _, rfl, _, rfl, .ref p, .ref pm, r2, a, L, rs, _, rfl, kt.tupL hl, kt.tupN hm, e2, by omega, bl, nxO a, fun y hy => on a y (by omega) hy, _, rfl, A0 (fun c3 => C2 ?_) (fun c3 => ?_)⟩
      · rw [Bool.not_eq_true'] at c3
        rw [c3, Bool.false_and] at k3
        exact k3
      rw [Bool.not_eq_true', Bool.not_eq_false] at c3
      rw [c3, Bool.true_and] at k3
      refine ⟨_, rfl, _, rfl, _, rfl, _, rfl, .ref p, .ref pm, r2, rs.getD a 0, L, rs, _, rfl, kt.tupL hl, kt.tupN hm, e2, hbL, bl, nxO _, fun y hy => on _ y hbL hy, _, rfl, A0 (fun c4 => ?_) (fun c4 => ?_)⟩
      · rw [Bool.not_eq_true'] at c4
        rw [c4, Bool.false_and] at k3
        exact k3
      rw [Bool.not_eq_true', Bool.not_eq_false] at c4
      rw [c4, Bool.true_and] at k3
      have ex : (knB L.length rs rs.length).getD (rs.getD a 0) none = some a := (f9 hns hlt _ _).mpr ⟨by omega, ga⟩
      rw [qb8 ex] at k3
      exact ⟨_, rfl, _, rfl, _, rfl, .ref p, r2, rs.getD a 0, a, L, _, rfl, kt.tupL hl, e2, hbL, bl, h7, ex, on, _, rfl, k3⟩
end Pl
end
section
set_option Elab.async false
set_option linter.all false
set_option maxRecDepth 100000
set_option maxHeartbeats 4000000
namespace L2
open PySem PySem.Spec PyProof.Rows
def rCatS : R2 := fun x y H Q => ∃ a b xs ys, x = .ref a ∧ y = .ref b ∧ H a = some (.tup xs) ∧ H b = some (.tup ys) ∧ ys ≠ [] ∧ xs.length + ys.length ≤ sizeLine ∧ ∀ (c : Addr) (H2 : Hp), x0 H H2 → H2 c = some (.tup (xs ++ ys)) → Q (.ref c) H2
theorem zS7 {X : Cx} : OpR X (binaryOp .Add) rCatS := by
  intro pins s σ H x y v u Q I rx ry h
  obtain ⟨a, b, xs, ys, rfl, rfl, ha, hb, hy, hz, q⟩ := h
  refine zS8 pins s σ H _ _ v u Q I rx ry ⟨a, b, xs, ys, rfl, rfl, SqT.of ha, SqT.of hb, hy, hz, fun e => ?_, fun _ p hp => ?_⟩
  · subst e
    exact q b H (fun _ _ e => e) hb
  · exact q p _ (fun c o e => by rw [r0 (S0 e hp)]; exact e) i0
end L2
namespace Pl
open PySem PySem.Spec PyProof.Rows L2 PM
variable {P : Program} {w : World} {K : PySem.W.Frag} {mg : Str → Option Value} {base : Heap} {A : Ad} (T : Txt K mg base A)
open Km464 (House Desk withIn opened key only act MOST bit bits fill)
def qk1 (H : Hp) (v : V) : Option (List Nat) → Prop
  | none => v = .non
  | some rs => R0 H v rs
def O6 (f : Nat) : Sp := fun vs H Q _ => ∃ (l m : V) (L : List (List Nat)) (rs : List Nat), vs = [l, m] ∧ L1 H l L ∧ R0 H m rs ∧ rs.length + f = L.length ∧ L.length ≤ 7 ∧ (∀ x ∈ rs, x < L.length) ∧ (∀ k, k < rs.length → Nxt L rs k) ∧ rs.Nodup ∧
  ∀ (H' : Hp) (v : V), x0 H H' → qk1 H' v (G3 (hs L) f rs) → Q v H'
def spR : Nat → Sp
  | 0 => fun _ _ _ _ => False
  | f + 1 => O6 f
theorem zp9 {g : Nat → Option (List Nat)} : ∀ n, (∀ c, c < n → g c = none) → (List.range n).findSome? g = none := fun n h => List.findSome?_eq_none_iff.mpr fun c hc => h c (List.mem_range.mp hc)
theorem qf6 {g : Nat → Option (List Nat)} {r : List Nat} : ∀ {n i : Nat}, i < n → (∀ c, c < i → g c = none) → g i = some r → (List.range n).findSome? g = some r := fun {n i} hi h e => by
  have e1 : List.range n = List.range i ++ (i :: List.range' (i + 1) (n - (i + 1))) := by
    rw [List.range_eq_range', List.range_eq_range', ← List.range'_succ, show n - (i + 1) + 1 = n - i by omega]
    have := List.range'_append_1 (s := 0) (m := i) (n := n - i)
    rw [Nat.zero_add] at this
    rw [this]
    congr 1
    omega
  rw [e1, List.findSome?_append, zp9 i h, List.findSome?_cons, e]
  rfl
theorem G9 {L : List (List Nat)} {rs : List Nat} (h : ∀ k, k < rs.length → Nxt L rs k) (b : Nat) : ∀ k, k < rs.length → Nxt L (rs ++ [b]) k := fun k hk => by
  have e : (rs ++ [b]).getD k 0 = rs.getD k 0 := by rw [List.getD_eq_getElem?_getD, List.getElem?_append_left hk, ← List.getD_eq_getElem?_getD]
  unfold Nxt
  rw [e]
  exact h k hk
theorem zG0 (rs : List Nat) (b : Nat) : (rs ++ [b]).getD rs.length 0 = b := by rw [List.getD_eq_getElem?_getD, List.getElem?_append_right (Nat.le_refl _), Nat.sub_self]; rfl
theorem qa3 {L : List (List Nat)} {rs : List Nat} {b : Nat} (nd : rs.Nodup) (nx : ∀ k, k < rs.length → Nxt L rs k) (h : O2 (hs L) (rs ++ [b]) = true) : (rs ++ [b]).Nodup ∧ ∀ k, k < (rs ++ [b]).length → Nxt L (rs ++ [b]) k := by
  have M := (w6 (hs L) (rs ++ [b]) (k := rs.length) (by simp)).mp (by rw [List.take_of_length_le (by simp)]; exact h)
  have h1 := M.new
  have h2 := M.sh
  rw [zG0, List.take_left] at h1
  refine ⟨List.nodup_append.mpr ⟨nd, by simp, fun x hx y hy z => ?_⟩, fun k hk => ?_⟩
  · rw [List.mem_singleton.mp hy] at z
    exact h1 (z ▸ hx)
  · by_cases e : k = rs.length
    · rw [e]; exact h2
    · refine G9 nx b k ?_
      rw [List.length_append, List.length_singleton] at hk
      omega
theorem zk8 {P : Program} {w : World} {K : PySem.W.Frag} {mg : Str → Option Value} {base : Heap} {A : Ad} (T : Txt K mg base A) (f : Nat) (ih : FnOk P w K mg base CX0 (5 + f) A.f_first_beginning A.d_first_beginning ["lists", "rings"] (spR f)) :
    FnOk P w K mg base CX0 (5 + f + 1) A.f_first_beginning A.d_first_beginning ["lists", "rings"] (O6 f) := by
  refine T.F_first_beginning.ok zM6 (fun vs H Q E h => ?_) (fun cdv Ar outer s H vs Q E hr h => ?_)
  · obtain ⟨l, m, L, rs, rfl, _⟩ := h
    rfl
  · obtain ⟨l, m, L, rs, rfl, hl, hm, hf, h7, hlt, nx, nd, k⟩ := h
    have hl0 := hl
    obtain ⟨p, vs, rfl, hp, hE⟩ := hl0
    have hm0 := hm
    obtain ⟨pm, rfl, hpm⟩ := hm0
    refine ⟨_, (j0 (B0 (J0 U0 (N0 O0 (by rfl) T.len PySem.boot_len (pa_cons (pv 1) c0)) (N0 O0 (by rfl) T.len PySem.boot_len (pa_cons (pv 0) c0)) (F0 _)) (g0 (n0 (pv 1))) C0)
      (j0 (W2 PassesOwn.never rfl (m3 rfl T.range (pa_cons (N0 O0 (by rfl) T.len PySem.boot_len (pa_cons (pv 0) c0)) c0)) (O1 (i := 2) zM6.nd rfl (.inl rfl)) (j0 (T0 (i := 3) zM6.nd rfl (.inl rfl) (B1 zS7 (pv 1) (N3 (pa_cons (pv 2) c0))))
      (g0 (B0 (X0 (o0 (zT2 T) (hr.mono (by omega)) rfl T.m_may_hold T.F_may_hold.kp T.b_may_hold .nil pass0 (pa_cons (pv 0) (pa_cons (pv 3) c0)))) (j0 (T0 (i := 4) zM6.nd rfl (.inl rfl) (o0 ih hr rfl T.m_first_beginning T.F_first_beginning.kp T.b_first_beginning .nil pass0 (pa_cons (pv 0) (pa_cons (pv 3) c0))))
      (g0 (B0 (J0 zj5 (pv 4) k6 (F0 _)) (g0 (n0 (pv 4))) C0))) C0))))
      (g0 (n0 k6)))), ?_⟩
    refine ⟨_, rfl, _, _, rfl, .inr (SqT.of hpm), _, rfl, _, _, rfl, .inr (SqT.of hp), rfl, _, rfl, A0 (fun c => ?_) (fun c => ?_)⟩
    · have e : f = 0 := by
        have z := of_decide_eq_true c
        injection z with z
        rw [List.length_map, hE.1] at z
        omega
      subst e
      exact ⟨_, rfl, k H _ (fun _ _ e => e) hm⟩
    cases f with
    | zero =>
      refine absurd (decide_eq_true ?_) c
      rw [List.length_map, hE.1, ← hf]
      rfl
    | succ f =>
      have nn : rs.length < L.length := by omega
      refine ⟨_, rfl, _, _, rfl, .inr (SqT.of hp), ((vs.length : Nat) : Int), rfl, (Z0 (by rw [hE.1]; omega)).1, (Z0 (by rw [hE.1]; omega)).2, (F3 (lo := 0) (n := vs.length) (fun i σ H' => ∃ vb vl vf : Option V, σ = [some (.ref p), some (.ref pm), vb, vl, vf] ∧ x0 H H' ∧ ∀ c, c < i → (if O2 (hs L) (rs ++ [c]) = true then G3 (hs L) f (rs ++ [c]) else none) = none) ⟨none, none, none, rfl, (fun _ _ e => e), fun c hc => absurd hc (by omega)⟩ ?_ ?_)⟩
      · rintro i σ H1 hi ⟨vb, vl, vf, rfl, s1, e1⟩
        rw [hE.1] at hi
        rw [V2]
        have next : ∀ {H2 : Hp} (vl vf : Option V), x0 H H2 → (if O2 (hs L) (rs ++ [i]) = true then G3 (hs L) f (rs ++ [i]) else none) = none → ∃ vb' vl' vf' : Option V, [some (V.ref p), some (V.ref pm), some (nV i), vl, vf] = [some (V.ref p), some (.ref pm), vb', vl', vf'] ∧ x0 H H2 ∧ ∀ c, c < i + 1 → (if O2 (hs L) (rs ++ [c]) = true then G3 (hs L) f (rs ++ [c]) else none) = none := fun vl vf s z =>
          ⟨_, _, _, rfl, s, fun c hc => by
            by_cases e : c = i
            · rw [e]; exact z
            · exact e1 c (by omega)⟩
        refine ⟨_, rfl, _, rfl, L0, fun t ht => ?_⟩
        have s2 := s1.trans (p0 (.tup [nV i]) ht)
        refine ⟨pm, t, _, _, rfl, rfl, s2 _ _ hpm, i0, by simp, ?_, fun c2 H2 s3 ec => ?_⟩
        · rw [List.length_map, sizeLine_eq]
          show rs.length + 1 ≤ _
          omega
        have S2 := s2.trans s3
        have kt := KT.of S2
        have tl : R0 H2 (.ref c2) (rs ++ [i]) := ⟨c2, rfl, by rw [N2]; exact ec⟩
        have lt2 : ∀ x ∈ rs ++ [i], x < L.length := fun x hx => by
          rcases List.mem_append.mp hx with h | h
          · exact hlt x h
          · rw [List.mem_singleton.mp h]; exact hi
        refine ⟨_, rfl, _, rfl, .ref p, .ref c2, L, rs ++ [i], rs.length, rfl, kt.tupL hl, tl, by simp, by simp; omega, h7, lt2, G9 nx i, by rw [List.take_left]; exact nd, fun H3 s4 => ⟨_, rfl, A0 (fun c3 => ?_) (fun c3 => ?_)⟩⟩
        · obtain ⟨nd2, nx2⟩ := qa3 nd nx c3
          have S3 := S2.trans s4
          refine ⟨_, rfl, _, rfl, .ref p, .ref c2, L, rs ++ [i], rfl, (KT.of S3).tupL hl, (KT.of s4).tupN tl, by simp; omega, h7, lt2, nx2, nd2, fun H4 v4 s5 o4 => ?_⟩
          have S4 := S3.trans s5
          cases e : G3 (hs L) f (rs ++ [i]) with
          | none =>
            rw [e] at o4
            have o4' : v4 = .non := o4
            subst o4'
            refine ⟨_, rfl, rfl, _, rfl, A0 (fun c4 => ?_) (fun c4 => ?_)⟩
            · cases c4
            · exact next _ _ S4 (by rw [if_pos c3]; exact e)
          | some r =>
            rw [e] at o4
            obtain ⟨p4, rfl, hp4⟩ := (show R0 H4 v4 r from o4)
            refine ⟨_, rfl, rfl, _, rfl, A0 (fun c4 => ?_) (fun c4 => ?_)⟩
            · refine ⟨_, rfl, k H4 _ S4 ?_⟩
              have z : G3 (hs L) (f + 1) rs = some r := qf6 hi e1 (by rw [if_pos c3]; exact e)
              rw [z]
              exact ⟨p4, rfl, hp4⟩
            · exact absurd rfl c4
        · exact next _ _ (S2.trans s4) (by rw [if_neg c3])
      · rintro σ H1 ⟨vb, vl, vf, rfl, s1, e1⟩
        rw [hE.1] at e1
        refine k H1 _ s1 ?_
        have z : G3 (hs L) (f + 1) rs = none := zp9 L.length e1
        rw [z]
        rfl
theorem y8 {P : Program} {w : World} {K : PySem.W.Frag} {mg : Str → Option Value} {base : Heap} {A : Ad} (T : Txt K mg base A) : ∀ f : Nat, FnOk P w K mg base CX0 (5 + f + 1) A.f_first_beginning A.d_first_beginning ["lists", "rings"] (O6 f)
  | 0 => zk8 T 0 ⟨fun _ _ _ _ h => h.elim, fun _ _ _ _ _ _ _ _ _ _ _ _ _ h => h.elim⟩
  | f + 1 => zk8 T (f + 1) (y8 T f)
def spFirst : Sp := fun vs H Q _ => ∃ (l m : V) (L : List (List Nat)), vs = [l, m] ∧ L1 H l L ∧ R0 H m [] ∧ L.length ≤ 7 ∧ Wl (hs L) ∧ ∀ (H' : Hp) (v : V), x0 H H' → R0 H' v (hs L).told → Q v H'
theorem zq5 {vs : List V} {H : Hp} {Q : VK} {E : XK} (h : spFirst vs H Q E) : ∃ f, f ≤ 7 ∧ O6 f vs H Q E := by
  obtain ⟨l, m, L, rfl, hl, hm, h7, g, k⟩ := h
  refine ⟨L.length, h7, l, m, L, [], rfl, hl, hm, by simp, h7, fun _ h => (by cases h), fun k hk => (by simp at hk), .nil, fun H' v s o => k H' v s ?_⟩
  have e : G3 (hs L) L.length [] = some (hs L).told := g.first
  rw [e] at o
  exact o
theorem zW6 {P : Program} {w : World} {K : PySem.W.Frag} {mg : Str → Option Value} {base : Heap} {A : Ad} (T : Txt K mg base A) : FnOk P w K mg base CX0 13 A.f_first_beginning A.d_first_beginning ["lists", "rings"] spFirst :=
  ⟨fun vs H Q E h => let ⟨f, _, h2⟩ := zq5 h; (y8 (P := P) (w := w) T f).len vs H Q E h2, fun A2 outer s H args us vs Q E hr e0 hb hv h => let ⟨f, hf, h2⟩ := zq5 h; ((y8 T f).mono (show 5 + f + 1 ≤ 13 by omega)).run A2 outer s H args us vs Q E hr e0 hb hv h2⟩
def zA2 : Sp := fun vs H Q _ => ∃ (l : V) (L : List (List Nat)), vs = [l] ∧ L1 H l L ∧ L.length ≤ 7 ∧ Wl (hs L) ∧ ∀ (H' : Hp) (v : V), x0 H H' → R0 H' v (hs L).told → Q v H'
include T in
theorem c7 : FnOk P w K mg base CX0 14 A.f_first_rings A.d_first_rings ["lists"] (zA2) := by
  refine T.F_first_rings.ok zM5 (fun vs H Q E h => ?_) (fun cdv Ar outer s H vs Q E hr h => ?_)
  · obtain ⟨l, L, rfl, _⟩ := h
    rfl
  · obtain ⟨l, L, rfl, hl, h7, g, k⟩ := h
    refine ⟨_, (g0 (n0 (o0 (zW6 T) (hr.mono (by decide)) rfl T.m_first_beginning T.F_first_beginning.kp T.b_first_beginning .nil pass0 (pa_cons (pv 0) (pa_cons (N3 c0) c0))))), ?_⟩
    refine ⟨_, rfl, Nat.zero_le _, fun t ht => ⟨l, .ref t, L, rfl, (KT.of (p0 _ ht)).tupL hl, ⟨t, rfl, i0⟩, h7, g, fun H' v s hv => k H' v ((p0 _ ht).trans s) hv⟩⟩
end Pl
end
section
set_option Elab.async false
set_option linter.all false
set_option maxRecDepth 100000
set_option maxHeartbeats 4000000
namespace Pl
open PySem PySem.Spec PyProof.Rows L2 PM
variable {P : Program} {w : World} {K : PySem.W.Frag} {mg : Str → Option Value} {base : Heap} {A : Ad} (T : Txt K mg base A)
open Km464 (House Desk withIn opened key only act MOST bit bits fill ring odds oddRing oddRings)
def zA4 : Sp := fun vs H Q _ => ∃ (m : V) (rs : List Nat) (a : Nat), vs = [m, nV a] ∧ R0 H m rs ∧ IsP rs.length rs ∧ rs.length ≤ 7 ∧ a < rs.length ∧ T4 H (ring rs a) Q
theorem zo2 (rs : List Nat) (a j : Nat) : atI (nVs ((List.range (j + 1)).map (iter rs a))) (-1) = some (nV (iter rs a j)) := by
  rw [List.range_succ, List.map_append, N2]
  exact zt7 _ _
theorem zY9 {rs : List Nat} {a : Nat} (h : a < rs.length) : rs.getD a 0 = Km464.next rs a := R5 h
include T in
theorem v8 : FnOk P w K mg base CX0 1 A.f_ring_from A.d_ring_from ["rings", "a"] (zA4) := by
  refine T.F_ring_from.ok zH7 (fun vs H Q E h => ?_) (fun cdv Ar outer s H vs Q E hr h => ?_)
  · obtain ⟨m, rs, a, rfl, _⟩ := h
    rfl
  · obtain ⟨m, rs, a, rfl, ⟨p, rfl, hp⟩, P, h7, ha, k⟩ := h
    obtain ⟨n, n1, n2, n3, n4, er⟩ := P.ring ha
    rw [er] at k
    refine ⟨_, (j0 (T0 (i := 2) zH7.nd rfl (.inl rfl) (G0 (pa_cons (pv 1) c0)))
      (j0 (zh8 PassesOwn.never (J0 n6 (pe_ix j1 (pv 0) (pe_ix ix_list (pv 2) (U6 L6 pe_int) (fun _ _ => rfl)) (fun _ _ => rfl)) (pv 1) (F0 _)) (g0 (Q1 (p3 PySem.F.plainAttrs_list PySem.F.slot_list_append PySem.F.type_list_append P3 (pv 2) (pa_cons (pe_ix j1 (pv 0) (pe_ix ix_list (pv 2) (U6 L6 pe_int) (fun _ _ => rfl)) (fun _ _ => rfl)) c0)))))
      (g0 (n0 (pv 2))))), ?_⟩
    refine ⟨_, rfl, L0, fun r hr0 => ?_⟩
    have s1 := p0 (.lst [nV a]) hr0
    refine ⟨fun m σ H' => ∃ j, m = n - (j + 1) ∧ j + 1 ≤ n ∧ σ = [some (.ref p), some (nV a), some (.ref r)] ∧ x0 H H' ∧ H' r = some (.lst (nVs ((List.range (j + 1)).map (iter rs a)))), ⟨n - 1, 0, rfl, n1, rfl, s1, i0⟩, ?_⟩
    rintro m σ H1 ⟨j, rfl, hj, rfl, s2, e2⟩
    have hil : iter rs a j < rs.length := P.iter_lt ha j
    have gi : (nVs rs)[iter rs a j]? = some (nV (iter rs a (j + 1))) := by
      have := T1 (E2 hil)
      rw [zY9 hil] at this
      exact this
    refine ⟨_, rfl, _, rfl, _, rfl, r, _, _, _, rfl, rfl, SqL.of e2, zo2 rs a j, rdT (s2 _ _ hp) gi ⟨_, rfl, i6 ⟨_, rfl, A0 (fun c => ?_) (fun c => ?_)⟩⟩⟩
    · have c' : iter rs a (j + 1) ≠ a := by simpa using c
      have hj2 : j + 1 < n := by
        refine Nat.lt_of_le_of_ne hj fun z => ?_
        rw [z] at c'
        exact c' n3
      refine ⟨fun σ' H' => σ' = [some (.ref p), some (nV a), some (.ref r)] ∧ x0 H H' ∧ H' r = some (.lst (nVs ((List.range (j + 2)).map (iter rs a)))), ?_, ?_⟩
      · rintro σ' H' ⟨rfl, s3, e3⟩
        exact ⟨n - (j + 2), by omega, j + 1, rfl, hj2, rfl, s3, e3⟩
      · refine ⟨_, rfl, .inl ⟨rfl, _, SqL.of e2⟩, _, rfl, _, rfl, _, rfl, r, _, _, _, rfl, rfl, SqL.of e2, zo2 rs a j, rdT (s2 _ _ hp) gi ⟨r, _, _, rfl, rfl, e2, ?_, rfl, R1 s2 _ hr0, ?_⟩⟩
        · rw [List.length_map, List.length_map, List.length_range, sizeLine_eq]
          omega
        · rw [i0, show List.range (j + 2) = List.range (j + 1) ++ [j + 1] from List.range_succ, List.map_append (l₁ := List.range (j + 1)), N2]
          rfl
    · have c' : iter rs a (j + 1) = a := by simpa using c
      have hj2 : j + 1 = n := by
        rcases Nat.lt_or_eq_of_le hj with z | z
        · exact absurd c' (n4 (j + 1) (by omega) z)
        · exact z
      rw [hj2] at e2
      exact ⟨_, rfl, k H1 r e2 s2 hr0⟩
def zB7 : Sp := fun vs H Q _ => ∃ (m : V) (rs : List Nat) (a : Nat), vs = [m, nV a] ∧ R0 H m rs ∧ IsP rs.length rs ∧ rs.length ≤ 7 ∧ a < rs.length ∧ ∀ H' : Hp, x0 H H' → Q (.bl (oddRing rs a)) H'
include T in
theorem zT5 : FnOk P w K mg base CX0 2 A.f_in_odd_ring A.d_in_odd_ring ["rings", "a"] (zB7) := by
  refine T.F_in_odd_ring.ok zJ0 (fun vs H Q E h => ?_) (fun cdv Ar outer s H vs Q E hr h => ?_)
  · obtain ⟨m, rs, a, rfl, _⟩ := h
    rfl
  · obtain ⟨m, rs, a, rfl, hm, P, h7, ha, k⟩ := h
    refine ⟨_, (j0 (T0 (i := 2) zJ0.nd rfl (.inl rfl) (N0 O0 (by rfl) T.len PySem.boot_len (pa_cons (o0 (v8 T) (hr.mono (by decide)) rfl T.m_ring_from T.F_ring_from.kp T.b_ring_from .nil pass0 (pa_cons (pv 0) (pa_cons (pv 1) c0))) c0)))
      (g0 (n0 (j8 (M4 p6 (pv 2) pe_int (F0 _)) (i8 (M4 U0 (B1 zj6 (pv 2) pe_int) pe_int (F0 _))))))), ?_⟩
    refine ⟨_, rfl, _, rfl, m, rs, a, rfl, hm, P, h7, ha, fun H1 r e1 s1 f1 => ⟨_, _, rfl, .inl (SqL.of e1), ?_⟩⟩
    have k1 := k H1 s1
    have k2 : Q (.bl (decide (3 ≤ (ring rs a).length) && ((ring rs a).length % 2 == 1))) H1 := k1
    rw [List.length_map]
    refine ⟨_, rfl, _, _, rfl, rfl, _, rfl, A0 (fun c => ?_) (fun c => ?_)⟩
    · have c' : 3 ≤ (ring rs a).length := by have := of_decide_eq_true c; omega
      rw [decide_eq_true c', Bool.true_and] at k2
      refine ⟨_, rfl, _, _, rfl, rfl, (by show (0 : Int) < 2; decide), rfl, ?_⟩
      have e : decide (V.int ((((ring rs a).length : Nat) : Int) % 2) = V.int 1) = ((ring rs a).length % 2 == 1) := by
        rw [Bool.eq_iff_iff, decide_eq_true_eq, beq_iff_eq]
        constructor
        · intro z; injection z with z; omega
        · intro z; congr 1; omega
      rw [e]
      exact k2
    · have c' : ¬ 3 ≤ (ring rs a).length := fun z => c (decide_eq_true (by omega))
      rw [decide_eq_false c', Bool.false_and] at k2
      exact k2
def zB6 : Sp := fun vs H Q _ => ∃ (m : V) (rs : List Nat), vs = [m] ∧ R0 H m rs ∧ IsP rs.length rs ∧ rs.length ≤ 7 ∧ T4 H (odds rs) Q
include T in
theorem x8 : FnOk P w K mg base CX0 3 A.f_in_odd_rings A.d_in_odd_rings ["rings"] (zB6) := by
  refine T.F_in_odd_rings.ok zI9 (fun vs H Q E h => ?_) (fun cdv Ar outer s H vs Q E hr h => ?_)
  · obtain ⟨m, rs, rfl, _⟩ := h
    rfl
  · obtain ⟨m, rs, rfl, hm, P, h7, k⟩ := h
    have hm0 := hm
    obtain ⟨p, rfl, hp⟩ := hm0
    refine ⟨_, (g0 (n0 (o3 rfl zI9.nd (m3 rfl T.range (pa_cons (N0 O0 (by rfl) T.len PySem.boot_len (pa_cons (pv 0) c0)) c0)) (g3 (own := [("a", 1)]) (by with_unfolding_all rfl)) (fun _ _ _ _ _ => O1 (i := 1) zI9.nd rfl (Or.inl rfl) (Or.inr rfl)) (fun _ _ _ _ _ => E4 (X0 (o0 (zT5 T) (hr.mono (by decide)) rfl T.m_in_odd_ring T.F_in_odd_ring.kp T.b_in_odd_ring .nil pass0 (pa_cons (pv 0) (pa_cons (pv 1) c0))))) (fun _ _ _ _ _ => (pv 1))))), ?_⟩
    refine ⟨_, rfl, _, _, rfl, .inr (SqT.of hp), (((nVs rs).length : Nat) : Int), rfl, (Z0 (by rw [List.length_map]; omega)).1, (Z0 (by rw [List.length_map]; omega)).2, fun D hD => u7 (lo := 0) (n := (nVs rs).length) (fun i H' => x0 H H' ∧ H' D = some (.lst (nVs ((List.range i).filter (oddRing rs))))) ⟨p0 _ hD, i0⟩ ?_ ?_⟩
    · rintro i H1 hi ⟨s1, e1⟩
      rw [List.length_map] at hi
      rw [V2]
      refine ⟨rfl, _, rfl, _, rfl, .ref p, rs, i, rfl, (KT.of s1).tupN hm, P, h7, hi, fun H2 s2 => ⟨_, rfl, A0 (fun c => ?_) (fun c => ?_)⟩⟩
      · refine ⟨_, rfl, _, s2 _ _ e1, ?_, R1 (s1.trans s2) _ hD, ?_⟩
        · rw [List.length_map]
          have h2 := List.length_filter_le (oddRing rs) (List.range i)
          rw [List.length_range] at h2
          rw [sizeLine_eq]
          omega
        · rw [i0, List.range_succ, List.filter_append, List.filter_cons, if_pos c, List.filter_nil, N2]
          rfl
      · refine ⟨s1.trans s2, ?_⟩
        rw [s2 _ _ e1, List.range_succ, List.filter_append, List.filter_cons, if_neg c, List.filter_nil, List.append_nil]
    · rintro H1 ⟨s1, e1⟩
      rw [List.length_map] at e1
      exact k H1 D e1 s1 hD
theorem d7 {rs : List Nat} (h7 : rs.length ≤ 7) : (odds rs).length ≤ 7 ∧ (∀ a ∈ odds rs, a < 7) ∧ ∀ a ∈ odds rs, a < rs.length := by
  unfold odds
  refine ⟨?_, fun a ha => ?_, fun a ha => ?_⟩
  · have h2 := List.length_filter_le (oddRing rs) (List.range rs.length)
    rw [List.length_range] at h2
    omega
  · have := List.mem_range.mp (List.mem_filter.mp ha).1
    omega
  · exact List.mem_range.mp (List.mem_filter.mp ha).1
def zE0 : Sp := fun vs H Q _ => ∃ (m : V) (rs : List Nat), vs = [m] ∧ R0 H m rs ∧ IsP rs.length rs ∧ rs.length ≤ 7 ∧ ∀ H' : Hp, x0 H H' → Q (nV (oddRings rs).length) H'
include T in
theorem zT1 : FnOk P w K mg base CX0 4 A.f_odd_ring_count A.d_odd_ring_count ["rings"] (zE0) := by
  refine T.F_odd_ring_count.ok zI3 (fun vs H Q E h => ?_) (fun cdv Ar outer s H vs Q E hr h => ?_)
  · obtain ⟨m, rs, rfl, _⟩ := h
    rfl
  · obtain ⟨m, rs, rfl, hm, P, h7, k⟩ := h
    refine ⟨_, (g0 (n0 (N0 O0 (by rfl) T.len PySem.boot_len (pa_cons (o3 rfl zI3.nd (L4 (o0 (x8 T) (hr.mono (by decide)) rfl T.m_in_odd_rings T.F_in_odd_rings.kp T.b_in_odd_rings .nil pass0 (pa_cons (pv 0) c0))) (g3 (own := [("a", 1)]) (by with_unfolding_all rfl)) (fun _ _ _ _ _ => O1 (i := 1) zI3.nd rfl (Or.inl rfl) (Or.inr rfl)) (fun _ _ _ _ _ => E4 (J0 U0 (pv 1) (N0 (show K3 _ _ (zh1 K) from qg8 rfl) (by rfl) T.min PyProof.Rows.boot_min (pa_cons (o0 (v8 T) (hr.mono (by decide)) rfl T.m_ring_from T.F_ring_from.kp T.b_ring_from .nil pass0 (pa_cons (pv 0) (pa_cons (pv 1) c0))) c0)) (F0 _))) (fun _ _ _ _ _ => (pv 1))) c0)))), ?_⟩
    refine ⟨_, rfl, m, rs, rfl, hm, P, h7, fun H1 r1 e1 s1 f1 => ⟨r1, rfl, ⟨_, SqL.of e1⟩, fun D hD => Q5 (K := K) (a := r1) (xs := nVs (odds rs)) (fun i H' => x0 H1 H' ∧ H' D = some (.lst (nVs (((odds rs).take i).filter fun a => (ring rs a).foldl min a == a)))) ⟨p0 _ hD, i0⟩ (fun i H' _ ⟨s2, _⟩ => SqL.of (s2 _ _ e1)) ?_ ?_⟩⟩
    · rintro i x H2 hi ⟨s2, e2⟩
      obtain ⟨b, hb, rfl⟩ := M5 hi
      have hbm := List.mem_of_getElem? hb
      have S2 := s1.trans s2
      have hfl := List.length_filter_le (fun a => (ring rs a).foldl min a == a) ((odds rs).take i)
      rw [List.length_take] at hfl
      have o7 := (d7 h7).1
      refine ⟨rfl, _, rfl, _, rfl, _, rfl, m, rs, b, rfl, (KT.of S2).tupN hm, P, h7, (d7 h7).2.2 b hbm, fun H3 r3 e3 s3 f3 => ⟨r3, (ring rs b).map fun (x : Nat) => (x : Int), rfl, by rw [N5]; exact SqL.of e3, ?_, fun z hz hall => ?_⟩⟩
      · rw [List.length_map]
        exact List.length_pos_of_mem (zg7 rs b)
      rw [qb9 hz hall]
      refine C3 ⟨_, rfl, A0 (fun c => ?_) (fun c => ?_)⟩
      · have c' : ((ring rs b).foldl min b == b) = true := by
          have z := of_decide_eq_true c
          exact beq_iff_eq.mpr z.symm
        refine ⟨_, rfl, _, s3 _ _ e2, ?_, R1 (s2.trans s3) _ hD, ?_⟩
        · rw [List.length_map, sizeLine_eq]
          omega
        · rw [i0, Z1 hb, List.filter_append, List.filter_cons, if_pos c', List.filter_nil, N2]
          rfl
      · have c' : ¬ ((ring rs b).foldl min b == b) = true := fun z => c (decide_eq_true (beq_iff_eq.mp z).symm)
        refine ⟨s2.trans s3, ?_⟩
        rw [s3 _ _ e2, Z1 hb, List.filter_append, List.filter_cons, if_neg c', List.filter_nil, List.append_nil]
    · rintro H2 ⟨s2, e2⟩
      rw [List.length_map, List.take_length] at e2
      refine ⟨_, _, rfl, .inl (SqL.of e2), ?_⟩
      rw [List.length_map]
      exact k H2 (s1.trans s2)
end Pl
end
section
set_option Elab.async false
set_option linter.all false
set_option maxRecDepth 100000
set_option maxHeartbeats 4000000
namespace Pl
open PySem PySem.Spec PyProof.Rows L2 PM
variable {P : Program} {w : World} {K : PySem.W.Frag} {mg : Str → Option Value} {base : Heap} {A : Ad} (T : Txt K mg base A)
open Km464 (House Desk withIn opened key only act MOST bit bits fill ring odds oddRing oddRings)
theorem M6 {s : House} (g : Wl s) : s.told.length = s.many ∧ IsP s.told.length s.told := by
  have h := g.told_find.2.1
  exact ⟨h.len, by rw [h.len]; exact h⟩
theorem c9 {H H1 : Hp} {x : Nat} {l : List Nat} {r t : Addr} {Q : VK} (l7 : l.length ≤ 7) (s1 : x0 H H1) (ht : H t = Option.none) (et : H1 t = some (.lst [nV x])) (er : H1 r = some (.lst (nVs l))) (k : T4 H (x :: l) Q) : rCat (.ref t) (.ref r) H1 Q := by
  refine ⟨t, r, _, _, rfl, rfl, et, er, ?_, fun p hp => ?_⟩
  · rw [List.length_map, sizeLine_eq]
    show 1 + l.length ≤ _
    omega
  · exact k _ p i0 (s1.trans (p0 _ hp)) (s1.free hp)
theorem Q8 (n : Nat) (l : List Nat) (h : l.length ≤ n) : (fill n l).length = n := by
  rw [zq4 h, List.length_append, List.length_replicate]
  omega
def zA1 (C : Addr) : Sp := fun vs H Q _ => ∃ (p q u : Addr) (d : Desk), vs = [.ref p] ∧ StAt C H p q u d ∧ GoodD d ∧ Y0 C H p q u d .rings Q
include T in
theorem zU5 : FnOk P w K mg base CX0 15 A.f_ho_rings A.d_ho_rings ["students"] (zA1 A.C_Students) := by
  refine T.F_ho_rings.ok zK2 (fun vs H Q E h => ?_) (fun cdv Ar outer s H vs Q E hr h => ?_)
  · obtain ⟨p, q, u, d, rfl, _⟩ := h
    rfl
  · obtain ⟨p, q, u, d, rfl, st, g, k⟩ := h
    obtain ⟨dx, l0, m0, hp, tl, tm⟩ := st.ins
    have gw := g.now.wl
    obtain ⟨tlen, tP⟩ := M6 gw
    have t7 : d.now.told.length ≤ 7 := by rw [tlen]; exact g.now.n7
    have ea : act d .rings = (d, ⟨(((oddRings d.now.told).length : Nat) : Int), fill 7 (d.now.told.map fun b => b + 1)⟩) := rfl
    refine ⟨_, (j0 (T0 (i := 1) zK2.nd rfl (.inl rfl) (o0 (c7 T) (hr.mono (by decide)) rfl T.m_first_rings T.F_first_rings.kp T.b_first_rings .nil pass0 (pa_cons (I0 (pv 0) rfl) c0)))
      (g0 (n0 (B1 Z4 (G0 (pa_cons (o0 (zT1 T) (hr.mono (by decide)) rfl T.m_odd_ring_count T.F_odd_ring_count.kp T.b_odd_ring_count .nil pass0 (pa_cons (pv 1) c0)) c0)) (o0 (p8 T) (hr.mono (by decide)) rfl T.m_told_row T.F_told_row.kp T.b_told_row .nil pass0 (pa_cons (pv 1) (pa_cons (V0 rfl T.c_MOST_STUDENTS) c0))))))), ?_⟩
    refine ⟨_, rfl, p, _, dx, _, _, rfl, hp, T.cl_Students, T.n_lists, rfl, l0, d.now.wish, rfl, tl, g.now.n7, ⟨gw.lst⟩, fun H1 v s1 tv => ?_⟩
    have tv' : R0 H1 v d.now.told := tv
    refine ⟨_, rfl, v, _, rfl, tv', tP, t7, fun H2 s2 => ⟨L0, fun t ht => ?_⟩⟩
    have s3 := p0 (.lst [nV (oddRings d.now.told).length]) ht
    refine ⟨_, rfl, v, d.now.told, 7, rfl, .inl ((KT.of s3).tupN ((KT.of s2).tupN tv')), t7, Nat.le_refl _, fun H4 r4 e4 s4 f4 => ?_⟩
    have S4 := ((s1.trans s2).trans s3).trans s4
    refine c9 (by rw [Q8 7 _ (by rw [List.length_map]; exact t7)]; exact Nat.le_refl _) S4 ((s1.trans s2).free ht) (s4 _ _ i0) e4 fun H5 r5 e5 s5 f5 => ?_
    exact k.read st ea rfl s5 f5 e5
def zA3 (C : Addr) : Sp := fun vs H Q _ => ∃ (p q u : Addr) (a : Nat) (d : Desk), vs = [.ref p, nV a] ∧ StAt C H p q u d ∧ GoodD d ∧ Y0 C H p q u d (.ring a) Q
theorem zP3 {n : Nat} {p : List Nat} (P : IsP n p) {a : Nat} (ha : a < n) : (ring p a).length ≤ n := by
  obtain ⟨m, _, h2, _, _, e⟩ := P.ring ha
  rw [e, List.length_map, List.length_range]
  exact h2
include T in
theorem zU6 : FnOk P w K mg base CX0 15 A.f_ho_ring A.d_ho_ring ["students", "a"] (zA3 A.C_Students) := by
  refine T.F_ho_ring.ok zK3 (fun vs H Q E h => ?_) (fun cdv Ar outer s H vs Q E hr h => ?_)
  · obtain ⟨p, q, u, a, d, rfl, _⟩ := h
    rfl
  · obtain ⟨p, q, u, a, d, rfl, st, g, k⟩ := h
    obtain ⟨dx, l0, m0, hp, tl, tm⟩ := st.ins
    have gw := g.now.wl
    obtain ⟨tlen, tP⟩ := M6 gw
    have t7 : d.now.told.length ≤ 7 := by rw [tlen]; exact g.now.n7
    refine ⟨_, (j0 (B0 (N1 (X0 (G1 (pv 0) T.cl_Students T.me_Students_has (X1 T) (hr.mono (by decide)) T.b_Students_has .nil pass0 (pa_cons (pv 1) c0)))) (g0 (n0 (G0 (pa_cons (V0 rfl T.c_NOT_THERE) c0)))) C0)
      (j0 (T0 (i := 2) zK3.nd rfl (.inl rfl) (o0 (v8 T) (hr.mono (by decide)) rfl T.m_ring_from T.F_ring_from.kp T.b_ring_from .nil pass0 (pa_cons (o0 (c7 T) (hr.mono (by decide)) rfl T.m_first_rings T.F_first_rings.kp T.b_first_rings .nil pass0 (pa_cons (I0 (pv 0) rfl) c0)) (pa_cons (pv 1) c0))))
      (g0 (n0 (B1 Z4 (G0 (pa_cons (N0 O0 (by rfl) T.len PySem.boot_len (pa_cons (pv 2) c0)) c0)) (o0 (p8 T) (hr.mono (by decide)) rfl T.m_told_row T.F_told_row.kp T.b_told_row .nil pass0 (pa_cons (pv 2) (pa_cons (V0 rfl T.c_MOST_STUDENTS) c0)))))))), ?_⟩
    refine ⟨_, rfl, p, dx, _, rfl, hp, rfl, _, rfl, p, q, u, a, d, rfl, st, _, rfl, A0 (fun c => ?_) (fun c => ?_)⟩
    · have c' : d.now.many ≤ a := by simpa using c
      have ea : act d (.ring a) = (d, only (-2)) := by
        show (d, if d.now.many ≤ a then _ else _) = _
        rw [if_pos c']
      exact ⟨L0, fun r hr0 => k.ref st ea hr0⟩
    have ha : a < d.now.many := by simpa using c
    have ea : act d (.ring a) = (d, ⟨(((ring d.now.told a).length : Nat) : Int), fill 7 ((ring d.now.told a).map fun b => b + 1)⟩) := by
      show (d, if d.now.many ≤ a then _ else _) = _
      rw [if_neg (by omega)]
      rfl
    have r7 : (ring d.now.told a).length ≤ 7 := Nat.le_trans (zP3 tP (by rw [tlen]; exact ha)) t7
    refine ⟨_, rfl, p, _, dx, _, _, rfl, hp, T.cl_Students, T.n_lists, rfl, l0, d.now.wish, rfl, tl, g.now.n7, ⟨gw.lst⟩, fun H1 v s1 tv => ?_⟩
    have tv' : R0 H1 v d.now.told := tv
    refine ⟨_, rfl, v, _, a, rfl, tv', tP, t7, by rw [tlen]; exact ha, fun H2 r2 e2 s2 f2 => ?_⟩
    refine ⟨_, rfl, _, _, rfl, .inl (SqL.of e2), L0, fun t ht => ?_⟩
    rw [List.length_map] at *
    have s3 := p0 (.lst [nV (ring d.now.told a).length]) ht
    refine ⟨_, rfl, .ref r2, ring d.now.told a, 7, rfl, .inr ⟨r2, rfl, s3 _ _ e2⟩, r7, Nat.le_refl _, fun H4 r4 e4 s4 f4 => ?_⟩
    have S4 := ((s1.trans s2).trans s3).trans s4
    refine c9 (by rw [Q8 7 _ (by rw [List.length_map]; exact r7)]; exact Nat.le_refl _) S4 ((s1.trans s2).free ht) (s4 _ _ i0) e4 fun H5 r5 e5 s5 f5 => ?_
    exact k.read st ea rfl s5 f5 e5
def zB5 (C : Addr) : Sp := fun vs H Q _ => ∃ (p q u : Addr) (d : Desk), vs = [.ref p] ∧ StAt C H p q u d ∧ GoodD d ∧ Y0 C H p q u d .odds Q
include T in
theorem zV0 : FnOk P w K mg base CX0 15 A.f_ho_odds A.d_ho_odds ["students"] (zB5 A.C_Students) := by
  refine T.F_ho_odds.ok zK7 (fun vs H Q E h => ?_) (fun cdv Ar outer s H vs Q E hr h => ?_)
  · obtain ⟨p, q, u, d, rfl, _⟩ := h
    rfl
  · obtain ⟨p, q, u, d, rfl, st, g, k⟩ := h
    obtain ⟨dx, l0, m0, hp, tl, tm⟩ := st.ins
    have gw := g.now.wl
    obtain ⟨tlen, tP⟩ := M6 gw
    have t7 : d.now.told.length ≤ 7 := by rw [tlen]; exact g.now.n7
    have ea : act d .odds = (d, ⟨(((odds d.now.told).length : Nat) : Int), [bits (odds d.now.told)]⟩) := rfl
    refine ⟨_, (g0 (n0 (o0 (a7 T) (hr.mono (by decide)) rfl T.m_told_set T.F_told_set.kp T.b_told_set .nil pass0 (pa_cons (o0 (x8 T) (hr.mono (by decide)) rfl T.m_in_odd_rings T.F_in_odd_rings.kp T.b_in_odd_rings .nil pass0 (pa_cons (o0 (c7 T) (hr.mono (by decide)) rfl T.m_first_rings T.F_first_rings.kp T.b_first_rings .nil pass0 (pa_cons (I0 (pv 0) rfl) c0)) c0)) c0)))), ?_⟩
    refine ⟨_, rfl, p, _, dx, _, _, rfl, hp, T.cl_Students, T.n_lists, rfl, l0, d.now.wish, rfl, tl, g.now.n7, ⟨gw.lst⟩, fun H1 v s1 tv => ?_⟩
    have tv' : R0 H1 v d.now.told := tv
    refine ⟨v, _, rfl, tv', tP, t7, fun H2 r2 e2 s2 f2 => ⟨r2, _, rfl, e2, (d7 t7).1, (d7 t7).2.1, fun H3 r3 e3 s3 f3 => ?_⟩⟩
    exact k.read st ea rfl ((s1.trans s2).trans s3) ((s1.trans s2).free f3) e3
def zC5 : Sp := fun vs H Q _ => ∃ (w a : Nat), vs = [nV w, nV a] ∧ Q (.bl (Z2 w a)) H
theorem V8 (w a : Nat) : (((w : Nat) : Int) / 2 ^ (((a : Nat) : Int)).toNat) = ((w / 2 ^ a : Nat) : Int) := by
  rw [Int.toNat_natCast, Int.natCast_ediv, Int.natCast_pow]
  rfl
include T in
theorem zk3 : FnOk P w K mg base CX0 1 A.f_is_in A.d_is_in ["w", "a"] (zC5) := by
  refine T.F_is_in.ok zI7 (fun vs H Q E h => ?_) (fun cdv Ar outer s H vs Q E hr h => ?_)
  · obtain ⟨w, a, rfl, _⟩ := h
    rfl
  · obtain ⟨w', a, rfl, k⟩ := h
    refine ⟨_, (g0 (n0 (M4 U0 (B1 zj6 (B1 zj4 (pv 0) (pv 1)) pe_int) pe_int (F0 _)))), ?_⟩
    refine ⟨_, rfl, _, rfl, _, _, rfl, rfl, by omega, _, _, rfl, rfl, (by show (0 : Int) < 2; decide), rfl, ?_⟩
    have e : decide (V.int ((((w' : Nat) : Int) / 2 ^ (((a : Nat) : Int)).toNat) % 2) = V.int 1) = Z2 w' a := by
      rw [qd3, V8]
      refine decide_eq_decide.mpr ⟨fun z => ?_, fun z => ?_⟩
      · injection z with z; omega
      · congr 1; omega
    rw [e]
    exact k
def zC2 : Sp := fun vs H Q _ => ∃ (l : V) (w : Nat) (L : List (List Nat)), vs = [l, nV w] ∧ L1 H l L ∧ L.length ≤ 7 ∧ (∀ x ∈ L, x.length ≤ 7) ∧ ∀ (H' : Hp) (v : V), x0 H H' → L1 H' v (y3 L w L.length) → Q v H'
theorem qb5 (L : List (List Nat)) (w n : Nat) : (y3 L w n).length = n := by unfold y3; simp
include T in
theorem zT3 : FnOk P w K mg base CX0 2 A.f_lists_without A.d_lists_without ["lists", "w"] (zC2) := by
  refine T.F_lists_without.ok zI5 (fun vs H Q E h => ?_) (fun cdv Ar outer s H vs Q E hr h => ?_)
  · obtain ⟨l, w, L, rfl, _⟩ := h
    rfl
  · obtain ⟨l, w', L, rfl, hl, h7, hx7, k⟩ := h
    have hl0 := hl
    obtain ⟨p, vs, rfl, hp, hE⟩ := hl0
    refine ⟨_, (j0 (T0 (i := 2) zI5.nd rfl (.inl rfl) (G0 c0))
      (j0 (W2 PassesOwn.never rfl (m3 rfl T.range (pa_cons (N0 O0 (by rfl) T.len PySem.boot_len (pa_cons (pv 0) c0)) c0)) (O1 (i := 3) zI5.nd rfl (.inl rfl)) (g0 (B0 (X0 (o0 (zk3 T) (hr.mono (by decide)) rfl T.m_is_in T.F_is_in.kp T.b_is_in .nil pass0 (pa_cons (pv 1) (pa_cons (pv 3) c0)))) (g0 (Q1 (p3 PySem.F.plainAttrs_list PySem.F.slot_list_append PySem.F.type_list_append P3 (pv 2) (pa_cons (N3 c0) c0)))) (g0 (Q1 (p3 PySem.F.plainAttrs_list PySem.F.slot_list_append PySem.F.type_list_append P3 (pv 2) (pa_cons (g2 o5 (by rfl) T.tuple PyProof.Rows.boot_tuple (pa_cons (o3 rfl zI5.nd (d8 (pe_ix j1 (pv 0) (pv 3) (fun _ _ => rfl))) (g3 (own := [("b", 4)]) (by with_unfolding_all rfl)) (fun _ _ _ _ _ => O1 (i := 4) zI5.nd rfl (Or.inl rfl) (Or.inr rfl)) (fun _ _ _ _ _ => E4 (N1 (X0 (o0 (zk3 T) (hr.mono (by decide)) rfl T.m_is_in T.F_is_in.kp T.b_is_in .nil pass0 (pa_cons (pv 1) (pa_cons (pv 4) c0)))))) (fun _ _ _ _ _ => (pv 4))) c0)) c0)))))))
      (g0 (n0 (g2 o5 (by rfl) T.tuple PyProof.Rows.boot_tuple (pa_cons (pv 2) c0)))))), ?_⟩
    refine ⟨Nat.zero_le _, fun q hq => ?_⟩
    have s0 : x0 H (upd H q (.lst [])) := p0 _ hq
    refine ⟨_, rfl, _, _, rfl, .inr (SqT.of (s0 _ _ hp)), ((vs.length : Nat) : Int), rfl, (Z0 (by rw [hE.1]; omega)).1, (Z0 (by rw [hE.1]; omega)).2, (F3 (lo := 0) (n := vs.length) (fun i σ H' => ∃ va vb : Option V, σ = [some (.ref p), some (nV w'), some (.ref q), va, vb] ∧ x0 H H' ∧ G2 R0 H' q (y3 L w' i)) ⟨none, none, rfl, s0, [], i0, .nil⟩ ?_ ?_)⟩
    · rintro i σ H1 hi ⟨va, vb, rfl, s1, ws, e1, w1⟩
      rw [hE.1] at hi
      rw [V2]
      have wl : ws.length < sizeLine := by rw [w1.1, qb5, sizeLine_eq]; omega
      refine ⟨_, rfl, _, rfl, w', i, rfl, _, rfl, A0 (fun c => ?_) (fun c => ?_)⟩
      · refine ⟨_, rfl, .inl ⟨rfl, _, SqL.of e1⟩, Nat.zero_le _, fun t ht => ?_⟩
        have s2 := p0 (.tup []) ht
        refine ⟨q, ws, _, rfl, rfl, s2 _ _ e1, wl, ?_⟩
        have kt2 := (KT.of s2).trans (P2 (.lst (ws ++ [.ref t])) (s2 _ _ e1))
        refine ⟨_, _, rfl, R1 (s1.trans s2) _ hq, _, i0, ?_⟩
        rw [zm9, if_pos c]
        exact (w1.imp fun _ _ => kt2.tupN).snoc ⟨t, rfl, by rw [r0 (S0 e1 ht).symm]; exact i0⟩
      · obtain ⟨va2, ga, pa, rfl, ha'⟩ := hE.get (V3 hi)
        have x7 : (L.getD i []).length ≤ 7 := hx7 _ (List.mem_of_getElem? (V3 hi))
        refine ⟨_, rfl, .inl ⟨rfl, _, SqL.of e1⟩, _, rfl, _, rfl, rdT (s1 _ _ hp) ga ⟨pa, rfl, ⟨_, SqT.of (s1 _ _ ha')⟩, fun D hD => G8 (K := K) (a := pa) (xs := nVs (L.getD i [])) (fun j H' => x0 H1 H' ∧ H' D = some (.lst (nVs (((L.getD i []).take j).filter fun b => !Z2 w' b)))) ⟨p0 _ hD, i0⟩ (fun j H' _ ⟨s2, _⟩ => SqT.of (s2 _ _ (s1 _ _ ha'))) ?_ ?_⟩⟩
        · rintro j x H2 hj ⟨s2, e2⟩
          obtain ⟨b, hb, rfl⟩ := M5 hj
          have hfl := List.length_filter_le (fun b => !Z2 w' b) ((L.getD i []).take j)
          rw [List.length_take] at hfl
          refine ⟨rfl, _, rfl, _, rfl, w', b, rfl, _, rfl, A0 (fun c2 => ?_) (fun c2 => ?_)⟩
          · refine ⟨_, rfl, _, e2, ?_, R1 s2 _ hD, ?_⟩
            · rw [List.length_map, sizeLine_eq]
              omega
            · rw [i0, Z1 hb, List.filter_append, List.filter_cons, if_pos c2, List.filter_nil, N2]
              rfl
          · refine ⟨s2, ?_⟩
            rw [e2, Z1 hb, List.filter_append, List.filter_cons, if_neg c2, List.filter_nil, List.append_nil]
        · rintro H2 ⟨s2, e2⟩
          rw [List.length_map, List.take_length] at e2
          refine ⟨D, _, rfl, .inl ⟨SqL.of e2, fun t ht => ?_⟩⟩
          have s3 := p0 (.tup (nVs ((L.getD i []).filter fun b => !Z2 w' b))) ht
          have e3 := s3 _ _ (s2 _ _ e1)
          refine ⟨q, ws, _, rfl, rfl, e3, wl, ?_⟩
          have kt2 := ((KT.of s2).trans (KT.of s3)).trans (P2 (.lst (ws ++ [.ref t])) e3)
          refine ⟨_, _, rfl, R1 ((s1.trans s2).trans s3) _ hq, _, i0, ?_⟩
          rw [zm9, if_neg c]
          refine (w1.imp fun _ _ => kt2.tupN).snoc ⟨t, rfl, ?_⟩
          rw [r0 (S0 (s2 _ _ e1) ht).symm]
          exact i0
    · rintro σ H1 ⟨va, vb, rfl, s1, ws, e1, w1⟩
      rw [hE.1] at w1
      refine ⟨_, rfl, q, _, rfl, .inl ⟨SqL.of e1, fun t ht => ?_⟩⟩
      have s2 := p0 (.tup ws) ht
      exact k _ _ (s1.trans s2) ⟨t, ws, rfl, i0, w1.imp fun _ _ => (KT.of s2).tupN⟩
def zy8 (C : Addr) : Sp := fun vs H Q _ => ∃ (p q u : Addr) (w : Nat) (d : Desk), vs = [.ref p, nV w] ∧ StAt C H p q u d ∧ GoodD d ∧ Y0 C H p q u d (.without w) Q
include T in
theorem zT8 : FnOk P w K mg base CX0 15 A.f_ho_without A.d_ho_without ["students", "w"] (zy8 A.C_Students) := by
  refine T.F_ho_without.ok zJ5 (fun vs H Q E h => ?_) (fun cdv Ar outer s H vs Q E hr h => ?_)
  · obtain ⟨p, q, u, w, d, rfl, _⟩ := h
    rfl
  · obtain ⟨p, q, u, w', d, rfl, st, g, k⟩ := h
    obtain ⟨dx, l0, m0, hp, tl, tm⟩ := st.ins
    have tl0 := tl
    obtain ⟨pl, vs, rfl, hpl, hE⟩ := tl0
    have gw := g.now.wl
    have el : vs.length = d.now.many := hE.1
    refine ⟨_, (j0 (B0 (J0 X6 (B1 zj4 (pv 1) (N0 O0 (by rfl) T.len PySem.boot_len (pa_cons (I0 (pv 0) rfl) c0))) pe_int (F0 _)) (g0 (n0 (G0 (pa_cons (V0 rfl T.c_WRONG) c0)))) C0)
      (j0 (T0 (i := 2) zJ5.nd rfl (.inl rfl) (o0 (zT3 T) (hr.mono (by decide)) rfl T.m_lists_without T.F_lists_without.kp T.b_lists_without .nil pass0 (pa_cons (I0 (pv 0) rfl) (pa_cons (pv 1) c0))))
      (j0 (T0 (i := 3) zJ5.nd rfl (.inl rfl) (N0 O0 (by rfl) T.len PySem.boot_len (pa_cons (o0 (x8 T) (hr.mono (by decide)) rfl T.m_in_odd_rings T.F_in_odd_rings.kp T.b_in_odd_rings .nil pass0 (pa_cons (o0 (c7 T) (hr.mono (by decide)) rfl T.m_first_rings T.F_first_rings.kp T.b_first_rings .nil pass0 (pa_cons (pv 2) c0)) c0)) c0)))
      (j0 (B0 (J0 U0 (N0 O0 (by rfl) T.len PySem.boot_len (pa_cons (o0 (O4 T) (hr.mono (by decide)) rfl T.m_good_pairings T.F_good_pairings.kp T.b_good_pairings .nil pass0 (pa_cons (pv 2) c0)) c0)) pe_int (F0 _)) (g0 (n0 (G0 (pa_cons pe_int (pa_cons (pv 3) c0))))) C0)
      (g0 (n0 (G0 (pa_cons pe_int (pa_cons (pv 3) c0))))))))), ?_⟩
    refine ⟨_, rfl, _, rfl, p, _, dx, _, _, rfl, hp, T.cl_Students, T.n_lists, rfl, _, _, rfl, .inr (SqT.of hpl), _, _, rfl, rfl, by omega, _, _, rfl, rfl, _, rfl, A0 (fun c => ?_) (fun c => ?_)⟩
    · have c' : 2 ^ d.now.many ≤ w' := by
        have z := of_decide_eq_true c
        rw [el, V8] at z
        have z2 : 0 < w' / 2 ^ d.now.many := by omega
        exact Nat.le_of_not_lt fun y => by rw [Nat.div_eq_of_lt y] at z2; omega
      have ea : act d (.without w') = (d, only (-22)) := by
        show (d, if 2 ^ d.now.many ≤ w' then _ else _) = _
        rw [if_pos c']
      exact ⟨L0, fun r hr0 => k.ref st ea hr0⟩
    have c' : ¬ 2 ^ d.now.many ≤ w' := fun y => by
      refine c (decide_eq_true ?_)
      rw [el, V8]
      have : 0 < w' / 2 ^ d.now.many := Nat.div_pos y (Nat.two_pow_pos _)
      omega
    have aw := qi5 gw w'
    obtain ⟨hm, tw⟩ := qb4 gw aw
    have ea : act d (.without w') = (d, ⟨((bit ((d.now.away (d.now.all.filter fun a => w'.testBit a)).good != []) : Nat) : Int), [(odds (d.now.away (d.now.all.filter fun a => w'.testBit a)).told).length]⟩) := by
      show (d, if 2 ^ d.now.many ≤ w' then _ else _) = _
      rw [if_neg c']
    generalize d.now.away (d.now.all.filter fun a => w'.testBit a) = t at aw hm tw ea
    obtain ⟨tlen, tP⟩ := M6 tw
    have t7 : t.told.length ≤ 7 := by rw [tlen, hm]; exact g.now.n7
    have n7 : t.wish.length ≤ 7 := by have : t.many ≤ 7 := by rw [hm]; exact g.now.n7
                                      exact this
    refine ⟨_, rfl, p, _, dx, _, _, rfl, hp, T.cl_Students, T.n_lists, rfl, _, rfl, _, w', d.now.wish, rfl, tl, g.now.n7, fun x hx => ?_, fun H1 v s1 tv => ?_⟩
    · obtain ⟨i, hi⟩ := List.getElem?_of_mem hx
      have hil : i < d.now.many := (List.getElem?_eq_some_iff.mp hi).1
      have o := (gw.lst i hil).len
      have e : d.now.list i = x := by
        unfold House.list
        rw [List.getD_eq_getElem?_getD, hi]
        rfl
      rw [e] at o
      omega
    have tv' : L1 H1 v t.wish := by rw [aw]; exact tv
    refine ⟨_, rfl, v, t.wish, rfl, tv', n7, ⟨tw.lst⟩, fun H2 v2 s2 tv2 => ?_⟩
    have tv2' : R0 H2 v2 t.told := tv2
    refine ⟨v2, _, rfl, tv2', tP, t7, fun H3 r3 e3 s3 f3 => ⟨_, _, rfl, .inl (SqL.of e3), ?_⟩⟩
    have S3 := (s1.trans s2).trans s3
    refine ⟨_, rfl, v, t.wish, rfl, ((KT.of s2).trans (KT.of s3)).tupL tv', n7, fun H4 r4 ⟨ws, e4, w4⟩ s4 f4 lz => ⟨_, _, rfl, .inl (SqL.of e4), rfl, _, rfl, ?_⟩⟩
    rw [U3 t] at w4
    have wl : ws.length = t.good.length := by rw [w4.1, List.length_map]
    have S4 := S3.trans s4
    refine A0 (fun c2 => ?_) (fun c2 => ?_)
    · have e0 : t.good = [] := by
        have z := of_decide_eq_true c2
        injection z with z
        have z2 : ws.length = 0 := by omega
        rw [wl] at z2
        exact List.eq_nil_of_length_eq_zero z2
      rw [e0] at ea
      refine ⟨_, rfl, M3, fun r hr0 => k.read st ea ?_ (S4.trans (p0 _ hr0)) (S4.free hr0) i0⟩
      rw [List.length_map]
      rfl
    · have e0 : (t.good != []) = true := by
        cases hg : t.good with
        | nil =>
          rw [hg] at wl
          exact absurd (by rw [wl]; rfl) c2
        | cons a l => rfl
      rw [e0] at ea
      refine ⟨_, rfl, M3, fun r hr0 => k.read st ea ?_ (S4.trans (p0 _ hr0)) (S4.free hr0) i0⟩
      rw [List.length_map]
      rfl
end Pl
end
section
set_option Elab.async false
set_option linter.all false
set_option maxRecDepth 100000
set_option maxHeartbeats 4000000
namespace Pl
open PySem PySem.Spec PyProof.Rows L2 PM
variable {P : Program} {w : World} {K : PySem.W.Frag} {mg : Str → Option Value} {base : Heap} {A : Ad} (T : Txt K mg base A)
open Km464 (House Desk withIn opened key only act MOST bit bits fill)
def zA7 (C : Addr) : Sp := fun vs H Q _ => ∃ (p q u : Addr) (a b : Nat) (d : Desk), vs = [.ref p, nV a, nV b] ∧ StAt C H p q u d ∧ GoodD d ∧ Y0 C H p q u d (.place a b) Q
include T in
theorem zU7 : FnOk P w K mg base CX0 2 A.f_ho_place A.d_ho_place ["students", "a", "b"] (zA7 A.C_Students) := by
  refine T.F_ho_place.ok zK4 (fun vs H Q E h => ?_) (fun cdv Ar outer s H vs Q E hr h => ?_)
  · obtain ⟨p, q, u, a, b, d, rfl, _⟩ := h
    rfl
  · obtain ⟨p, q, u, a, b, d, rfl, st, g, k⟩ := h
    obtain ⟨dx, l0, m0, hp, tl, tm⟩ := st.ins
    have no : (d.now.many ≤ a ∨ d.now.many ≤ b) → act d (.place a b) = (d, only (-2)) := fun z => by
      show (d, if d.now.many ≤ a ∨ d.now.many ≤ b then _ else _) = _
      rw [if_pos z]
    refine ⟨_, (j0 (B0 (PW.pt (M2 (N1 (X0 (G1 (pv 0) T.cl_Students T.me_Students_has (X1 T) (hr.mono (by decide)) T.b_Students_has .nil pass0 (pa_cons (pv 1) c0)))) (j3 (N1 (X0 (G1 (pv 0) T.cl_Students T.me_Students_has (X1 T) (hr.mono (by decide)) T.b_Students_has .nil pass0 (pa_cons (pv 2) c0))))))) (g0 (n0 (G0 (pa_cons (V0 rfl T.c_NOT_THERE) c0)))) C0)
      (j0 (B0 (J0 zS4 (pv 2) (pe_ix j1 (I0 (pv 0) rfl) (pv 1) (fun _ _ => rfl)) (by with_unfolding_all rfl)) (g0 (n0 (G0 (pa_cons (V0 rfl T.c_NOT_ON_LIST) c0)))) C0)
      (g0 (n0 (G0 (pa_cons (o0 (N4 T) (hr.mono (by decide)) rfl T.m_place T.F_place.kp T.b_place .nil pass0 (pa_cons (I0 (pv 0) rfl) (pa_cons (pv 1) (pa_cons (pv 2) c0)))) c0)))))), ?_⟩
    refine ⟨_, rfl, p, dx, _, rfl, hp, rfl, _, rfl, p, q, u, a, d, rfl, st, _, rfl, A0 (fun c => C2 ?_) (fun c => ?_)⟩
    · have c' : d.now.many ≤ a := by simpa using c
      exact ⟨L0, fun r hr0 => k.ref st (no (.inl c')) hr0⟩
    refine ⟨_, rfl, p, dx, _, rfl, hp, rfl, _, rfl, p, q, u, b, d, rfl, st, _, rfl, A0 (fun c2 => ?_) (fun c2 => ?_)⟩
    · have c' : d.now.many ≤ b := by simpa using c2
      exact ⟨L0, fun r hr0 => k.ref st (no (.inr c')) hr0⟩
    have ha : a < d.now.many := by simpa using c
    have hb : b < d.now.many := by simpa using c2
    have hab : ¬ (d.now.many ≤ a ∨ d.now.many ≤ b) := by omega
    have tl0 := tl
    obtain ⟨pl, vs, rfl, hpl, hE⟩ := tl0
    obtain ⟨va, ga, pa, rfl, ha'⟩ := hE.get (V3 ha)
    have eI : inV (nV b) (nVs (d.now.wish.getD a [])) = d.now.onList a b := zo3 _ _
    refine ⟨_, rfl, _, rfl, p, _, dx, _, _, rfl, hp, T.cl_Students, T.n_lists, rfl, _, rfl, rdT hpl ga ⟨pa, _, rfl, .inr (SqT.of ha'), rfl, B8 _, _, rfl, ?_⟩⟩
    rw [eI]
    refine A0 (fun c3 => ?_) (fun c3 => ?_)
    · have c' : d.now.onList a b = false := by simpa using c3
      have ea : act d (.place a b) = (d, only (-6)) := by
        show (d, if d.now.many ≤ a ∨ d.now.many ≤ b then _ else if d.now.onList a b = false then _ else _) = _
        rw [if_neg hab, if_pos c']
      exact ⟨L0, fun r hr0 => k.ref st ea hr0⟩
    · have c' : d.now.onList a b = true := by simpa using c3
      have ea : act d (.place a b) = (d, only ((d.now.place a b : Nat) : Int)) := by
        show (d, if d.now.many ≤ a ∨ d.now.many ≤ b then _ else if d.now.onList a b = false then _ else _) = _
        rw [if_neg hab, if_neg (by rw [c']; simp)]
      have hne : ¬ a = b := fun e => (g.now.wl.on_lt c').2.2 e.symm
      have ep : plc d.now.wish a b = d.now.place a b := if_neg hne
      refine ⟨_, rfl, p, _, dx, _, _, rfl, hp, T.cl_Students, T.n_lists, rfl, _, rfl, _, rfl, _, a, b, d.now.wish, rfl, tl, ha, .inr c', L0, fun r hr0 => ?_⟩
      rw [ep]
      exact k.ref st ea hr0
def zD4 (C : Addr) : Sp := fun vs H Q _ => ∃ (p q u : Addr) (a : Nat) (d : Desk), vs = [.ref p, nV a] ∧ StAt C H p q u d ∧ GoodD d ∧ Y0 C H p q u d (.friends a) Q
include T in
theorem zV6 : FnOk P w K mg base CX0 2 A.f_ho_friends A.d_ho_friends ["students", "a"] (zD4 A.C_Students) := by
  refine T.F_ho_friends.ok zL3 (fun vs H Q E h => ?_) (fun cdv Ar outer s H vs Q E hr h => ?_)
  · obtain ⟨p, q, u, a, d, rfl, _⟩ := h
    rfl
  · obtain ⟨p, q, u, a, d, rfl, st, g, k⟩ := h
    obtain ⟨dx, l0, m0, hp, tl, tm⟩ := st.ins
    have gw := g.now.wl
    refine ⟨_, (j0 (B0 (N1 (X0 (G1 (pv 0) T.cl_Students T.me_Students_has (X1 T) (hr.mono (by decide)) T.b_Students_has .nil pass0 (pa_cons (pv 1) c0)))) (g0 (n0 (G0 (pa_cons (V0 rfl T.c_NOT_THERE) c0)))) C0)
      (g0 (n0 (o0 (a7 T) (hr.mono (by decide)) rfl T.m_told_set T.F_told_set.kp T.b_told_set .nil pass0 (pa_cons (o3 rfl zL3.nd (d8 (pe_ix j1 (I0 (pv 0) rfl) (pv 1) (fun _ _ => rfl))) (g3 (own := [("b", 2)]) (by with_unfolding_all rfl)) (fun _ _ _ _ _ => O1 (i := 2) zL3.nd rfl (Or.inl rfl) (Or.inr rfl)) (fun _ _ _ _ _ => E4 (X0 (o0 (F5 T) (hr.mono (by decide)) rfl T.m_would_share T.F_would_share.kp T.b_would_share .nil pass0 (pa_cons (show PE _ _ (N6 K _ _) from I0 (pv 0) rfl) (pa_cons (pv 1) (pa_cons (pv 2) c0)))))) (fun _ _ _ _ _ => (pv 2))) c0))))), ?_⟩
    refine ⟨_, rfl, p, dx, _, rfl, hp, rfl, _, rfl, p, q, u, a, d, rfl, st, _, rfl, A0 (fun c => ?_) (fun c => ?_)⟩
    · have c' : d.now.many ≤ a := by simpa using c
      have ea : act d (.friends a) = (d, only (-2)) := by
        show (d, if d.now.many ≤ a then _ else _) = _
        rw [if_pos c']
      exact ⟨L0, fun r hr0 => k.ref st ea hr0⟩
    have ha : a < d.now.many := by simpa using c
    have ea : act d (.friends a) = (d, ⟨(((d.now.all.filter fun b => d.now.would a b).length : Nat) : Int), [bits (d.now.all.filter fun b => d.now.would a b)]⟩) := by
      show (d, if d.now.many ≤ a then _ else _) = _
      rw [if_neg (by omega)]
    have pm := qe9 gw ha
    have eb : bits ((d.now.list a).filter fun b => d.now.would a b) = bits (d.now.all.filter fun b => d.now.would a b) := by
      rw [zt1, zt1]
      exact (pm.map _).sum_nat
    have okl := gw.lst a ha
    have tl0 := tl
    obtain ⟨pl, vs, rfl, hpl, hE⟩ := tl0
    obtain ⟨va, ga, pa, rfl, ha'⟩ := hE.get (V3 ha)
    refine ⟨_, rfl, p, _, dx, _, _, rfl, hp, T.cl_Students, T.n_lists, rfl, _, rfl, rdT hpl ga ⟨pa, rfl, ⟨_, SqT.of ha'⟩, fun D hD => G8 (K := K) (a := pa) (xs := nVs (d.now.list a)) (fun j H' => x0 H H' ∧ H' D = some (.lst (nVs (((d.now.list a).take j).filter fun b => d.now.would a b)))) ⟨p0 _ hD, i0⟩ (fun j H' _ ⟨s1, _⟩ => SqT.of (s1 _ _ ha')) ?_ ?_⟩⟩
    · rintro j x H1 hj ⟨s1, e1⟩
      obtain ⟨b, hb, rfl⟩ := M5 hj
      have hfl := List.length_filter_le (fun b => d.now.would a b) ((d.now.list a).take j)
      rw [List.length_take] at hfl
      have l6 := okl.len
      have hbl := okl.lt b (List.mem_of_getElem? hb)
      refine ⟨rfl, _, rfl, p, _, dx, _, _, rfl, s1 _ _ hp, T.cl_Students, T.n_lists, rfl, _, rfl, _, rfl, _, a, b, d.now.wish, rfl, (KT.of s1).tupL tl, ha, hbl, _, rfl, A0 (fun c2 => ?_) (fun c2 => ?_)⟩
      · have c' : d.now.would a b = true := c2
        refine ⟨_, rfl, _, e1, ?_, R1 s1 _ hD, ?_⟩
        · rw [List.length_map, sizeLine_eq]
          omega
        · rw [i0, Z1 hb, List.filter_append, List.filter_cons, if_pos c', List.filter_nil, N2]
          rfl
      · have c' : ¬ d.now.would a b = true := c2
        refine ⟨s1, ?_⟩
        rw [e1, Z1 hb, List.filter_append, List.filter_cons, if_neg c', List.filter_nil, List.append_nil]
    · rintro H1 ⟨s1, e1⟩
      rw [List.length_map, List.take_length] at e1
      have hfl := List.length_filter_le (fun b => d.now.would a b) (d.now.list a)
      have l6 := okl.len
      have n7 := g.now.n7
      refine ⟨D, _, rfl, e1, by omega, fun b hb => ?_, fun H2 r2 e2 s2 f2 => ?_⟩
      · have := okl.lt b (List.mem_filter.mp hb).1
        omega
      · refine k.read st ea ?_ (s1.trans s2) (s1.free f2) e2
        rw [eb, pm.length_eq]
        rfl
def zy9 (C : Addr) : Sp := fun vs H Q _ => ∃ (p q u : Addr) (a : Nat) (d : Desk), vs = [.ref p, nV a] ∧ StAt C H p q u d ∧ GoodD d ∧ Y0 C H p q u d (.with_ a) Q
include T in
theorem zT9 : FnOk P w K mg base CX0 2 A.f_ho_with A.d_ho_with ["students", "a"] (zy9 A.C_Students) := by
  refine T.F_ho_with.ok zJ6 (fun vs H Q E h => ?_) (fun cdv Ar outer s H vs Q E hr h => ?_)
  · obtain ⟨p, q, u, a, d, rfl, _⟩ := h
    rfl
  · obtain ⟨p, q, u, a, d, rfl, st, g, k⟩ := h
    obtain ⟨dx, l0, m0, hp, tl, tm⟩ := st.ins
    refine ⟨_, (j0 (B0 (N1 (X0 (G1 (pv 0) T.cl_Students T.me_Students_has (X1 T) (hr.mono (by decide)) T.b_Students_has .nil pass0 (pa_cons (pv 1) c0)))) (g0 (n0 (G0 (pa_cons (V0 rfl T.c_NOT_THERE) c0)))) C0)
      (j0 (T0 (i := 2) zJ6.nd rfl (.inl rfl) (pe_ix j1 (I0 (pv 0) rfl) (pv 1) (fun _ _ => rfl)))
      (j0 (B0 (J0 U0 (pv 2) (pv 1) (F0 _)) (g0 (n0 (G0 (pa_cons (V0 rfl T.c_ALONE) c0)))) C0)
      (g0 (n0 (G0 (pa_cons (pv 2) (pa_cons (o0 (N4 T) (hr.mono (by decide)) rfl T.m_place T.F_place.kp T.b_place .nil pass0 (pa_cons (I0 (pv 0) rfl) (pa_cons (pv 1) (pa_cons (pv 2) c0)))) c0)))))))), ?_⟩
    refine ⟨_, rfl, p, dx, _, rfl, hp, rfl, _, rfl, p, q, u, a, d, rfl, st, _, rfl, A0 (fun c => ?_) (fun c => ?_)⟩
    · have c' : d.now.many ≤ a := by simpa using c
      have ea : act d (.with_ a) = (d, only (-2)) := by
        show (d, if d.now.many ≤ a then _ else _) = _
        rw [if_pos c']
      exact ⟨L0, fun r hr0 => k.ref st ea hr0⟩
    have ha : a < d.now.many := by simpa using c
    obtain ⟨pm, rfl, hpm⟩ := id tm
    refine ⟨_, rfl, p, _, dx, _, _, rfl, hp, T.cl_Students, T.n_mates, rfl, _, rfl, rdT hpm (T1 (Q3 _ ha)) ?_⟩
    refine ⟨_, rfl, _, rfl, C3 ⟨_, rfl, A0 (fun c2 => ?_) (fun c2 => ?_)⟩⟩
    · have c' : withIn d.now.paired a = a := of_decide_eq_true c2
      have ea : act d (.with_ a) = (d, only (-6)) := by
        show (d, if d.now.many ≤ a then _ else if withIn d.now.paired a = a then _ else _) = _
        rw [if_neg (by omega), if_pos c']
      exact ⟨L0, fun r hr0 => k.ref st ea hr0⟩
    · have c' : ¬ withIn d.now.paired a = a := fun z => c2 (decide_eq_true z)
      have ea : act d (.with_ a) = (d, ⟨((withIn d.now.paired a : Nat) : Int), [d.now.place a (withIn d.now.paired a)]⟩) := by
        show (d, if d.now.many ≤ a then _ else if withIn d.now.paired a = a then _ else _) = _
        rw [if_neg (by omega), if_neg c']
      have on := (g.now.fit.with_ a).resolve_left c'
      have ep : plc d.now.wish a (withIn d.now.paired a) = d.now.place a (withIn d.now.paired a) := if_neg fun e => c' e.symm
      refine ⟨_, rfl, _, rfl, p, _, dx, _, _, rfl, hp, T.cl_Students, T.n_lists, rfl, _, rfl, _, rfl, l0, a, _, d.now.wish, rfl, tl, ha, .inr (U4 on).1, M3, fun r hr0 => ?_⟩
      rw [ep]
      exact k.read st ea rfl (p0 _ hr0) hr0 i0
def zz7 (C : Addr) : Sp := fun vs H Q _ => ∃ (p q u : Addr) (d : Desk), vs = [.ref p] ∧ StAt C H p q u d ∧ GoodD d ∧ Y0 C H p q u d .single Q
include T in
theorem zU4 : FnOk P w K mg base CX0 2 A.f_ho_single A.d_ho_single ["students"] (zz7 A.C_Students) := by
  refine T.F_ho_single.ok zK1 (fun vs H Q E h => ?_) (fun cdv Ar outer s H vs Q E hr h => ?_)
  · obtain ⟨p, q, u, d, rfl, _⟩ := h
    rfl
  · obtain ⟨p, q, u, d, rfl, st, g, k⟩ := h
    obtain ⟨dx, l0, m0, hp, tl, tm⟩ := st.ins
    have n7 : (mOf d.now.many d.now.paired).length ≤ 7 := by rw [E1]; exact g.now.n7
    have ea : act d .single = (d, ⟨(((d.now.all.filter fun a => withIn d.now.paired a == a).length : Nat) : Int), [bits (d.now.all.filter fun a => withIn d.now.paired a == a)]⟩) := rfl
    refine ⟨_, (g0 (n0 (o0 (a7 T) (hr.mono (by decide)) rfl T.m_told_set T.F_told_set.kp T.b_told_set .nil pass0 (pa_cons (o0 (zl0 T) (hr.mono (by decide)) rfl T.m_alone_ones T.F_alone_ones.kp T.b_alone_ones .nil pass0 (pa_cons (I0 (pv 0) rfl) c0)) c0)))), ?_⟩
    refine ⟨_, rfl, p, _, dx, _, _, rfl, hp, T.cl_Students, T.n_mates, rfl, m0, _, rfl, tm, n7, fun H2 r2 e2 s2 f2 => ⟨r2, _, rfl, e2, (L7 n7).1, (L7 n7).2, fun H3 r3 e3 s3 f3 => ?_⟩⟩
    refine k.read st ea ?_ (s2.trans s3) (s2.free f3) e3
    rw [zt8]
    rfl
def zD3 (C : Addr) : Sp := fun vs H Q _ => ∃ (p q u : Addr) (d : Desk), vs = [.ref p] ∧ StAt C H p q u d ∧ GoodD d ∧ Y0 C H p q u d .glad Q
include T in
theorem zV5 : FnOk P w K mg base CX0 3 A.f_ho_glad A.d_ho_glad ["students"] (zD3 A.C_Students) := by
  refine T.F_ho_glad.ok zL2 (fun vs H Q E h => ?_) (fun cdv Ar outer s H vs Q E hr h => ?_)
  · obtain ⟨p, q, u, d, rfl, _⟩ := h
    rfl
  · obtain ⟨p, q, u, d, rfl, st, g, k⟩ := h
    obtain ⟨dx, l0, m0, hp, tl, tm⟩ := st.ins
    have ea : act d .glad = (d, ⟨((d.now.sum d.now.paired : Nat) : Int), [d.now.worst d.now.paired]⟩) := rfl
    refine ⟨_, (j0 (T0 (i := 1) zL2.nd rfl (.inl rfl) (o0 (zk2 T) (hr.mono (by decide)) rfl T.m_places_had T.F_places_had.kp T.b_places_had .nil pass0 (pa_cons (I0 (pv 0) rfl) (pa_cons (I0 (pv 0) rfl) c0))))
      (g0 (n0 (G0 (pa_cons (N0 (X8 rfl) (by rfl) T.sum PyProof.Rows.boot_sum (pa_cons (pv 1) c0)) (pa_cons (o0 (zk7 T) (hr.mono (by decide)) rfl T.m_greatest_of T.F_greatest_of.kp T.b_greatest_of .nil pass0 (pa_cons (pv 1) c0)) c0)))))), ?_⟩
    refine ⟨_, rfl, p, _, dx, _, _, rfl, hp, T.cl_Students, T.n_lists, rfl, _, rfl, p, _, dx, _, _, rfl, hp, T.cl_Students, T.n_mates, rfl, l0, m0, d.now.wish, _, rfl, tl, tm, k4 g.now.fit, g.now.n7, fun H1 r1 e1 s1 f1 => ?_⟩
    refine ⟨_, rfl, r1, (g4 d.now.wish (mOf d.now.many d.now.paired)).map fun (x : Nat) => (x : Int), rfl, by rw [N5]; exact SqL.of e1, _, rfl, r1, _, rfl, e1, M3, fun r hr0 => ?_⟩
    refine k.read st ea ?_ (s1.trans (p0 _ hr0)) (s1.free hr0) i0
    rw [z9, y9, zo7]
    rfl
def zC1 (C : Addr) : Sp := fun vs H Q _ => ∃ (p q u : Addr) (a : Nat) (d : Desk), vs = [.ref p, nV a] ∧ StAt C H p q u d ∧ GoodD d ∧ Y0 C H p q u d (.look a) Q
include T in
theorem zV2 : FnOk P w K mg base CX0 2 A.f_ho_look A.d_ho_look ["students", "a"] (zC1 A.C_Students) := by
  refine T.F_ho_look.ok zK9 (fun vs H Q E h => ?_) (fun cdv Ar outer s H vs Q E hr h => ?_)
  · obtain ⟨p, q, u, a, d, rfl, _⟩ := h
    rfl
  · obtain ⟨p, q, u, a, d, rfl, st, g, k⟩ := h
    obtain ⟨dx, l0, m0, hp, tl, tm⟩ := st.ins
    refine ⟨_, (j0 (B0 (N1 (X0 (G1 (pv 0) T.cl_Students T.me_Students_has (X1 T) (hr.mono (by decide)) T.b_Students_has .nil pass0 (pa_cons (pv 1) c0)))) (g0 (n0 (G0 (pa_cons (V0 rfl T.c_NOT_THERE) c0)))) C0)
      (j0 (T0 (i := 2) zK9.nd rfl (.inl rfl) (pe_ix j1 (I0 (pv 0) rfl) (pv 1) (fun _ _ => rfl)))
      (g0 (n0 (B1 Z4 (G0 (pa_cons (N0 O0 (by rfl) T.len PySem.boot_len (pa_cons (pv 2) c0)) c0)) (o0 (p8 T) (hr.mono (by decide)) rfl T.m_told_row T.F_told_row.kp T.b_told_row .nil pass0 (pa_cons (pv 2) (pa_cons (V0 rfl T.c_MOST_WISHES) c0)))))))), ?_⟩
    refine ⟨_, rfl, p, dx, _, rfl, hp, rfl, _, rfl, p, q, u, a, d, rfl, st, _, rfl, A0 (fun c => ?_) (fun c => ?_)⟩
    · have c' : d.now.many ≤ a := by simpa using c
      have ea : act d (.look a) = (d, only (-2)) := by
        show (d, if d.now.many ≤ a then _ else _) = _
        rw [if_pos c']
      exact ⟨L0, fun r hr0 => k.ref st ea hr0⟩
    have ha : a < d.now.many := by simpa using c
    have ea : act d (.look a) = (d, ⟨(((d.now.list a).length : Nat) : Int), fill 6 ((d.now.list a).map fun b => b + 1)⟩) := by
      show (d, if d.now.many ≤ a then _ else _) = _
      rw [if_neg (by omega)]
      rfl
    have l6 := (g.now.lst a ha).len
    obtain ⟨pl, vs, rfl, hpl, hE⟩ := id tl
    obtain ⟨va, ga, pa, rfl, ha'⟩ := hE.get (V3 ha)
    have ha2 : H pa = some (.tup (nVs (d.now.list a))) := ha'
    refine ⟨_, rfl, p, _, dx, _, _, rfl, hp, T.cl_Students, T.n_lists, rfl, _, rfl, rdT hpl ga ?_⟩
    refine ⟨_, rfl, _, _, rfl, .inr (SqT.of ha2), L0, fun t ht => ?_⟩
    rw [List.length_map] at *
    have s3 := p0 (.lst [nV (d.now.list a).length]) ht
    refine ⟨_, rfl, .ref pa, d.now.list a, 6, rfl, .inl ⟨pa, rfl, s3 _ _ ha2⟩, l6, by decide, fun H4 r4 e4 s4 f4 => ?_⟩
    refine c9 (by rw [Q8 6 _ (by rw [List.length_map]; exact l6)]; decide) (s3.trans s4) ht (s4 _ _ i0) e4 fun H5 r5 e5 s5 f5 => ?_
    exact k.read st ea rfl s5 f5 e5
theorem zn4 {H : Hp} {vs : List V} {l : List House} {a : House} (h : M1 (Y3 H) vs (((a :: l).reverse).map kept)) : ∃ v, vs[vs.length - 1]? = some v ∧ Y3 H v (kept a) ∧ M1 (Y3 H) vs.dropLast (l.reverse.map kept) := by
  have e : ((a :: l).reverse).map kept = l.reverse.map kept ++ [kept a] := by rw [List.reverse_cons, List.map_append]; rfl
  rw [e] at h
  have hl := h.1
  rw [List.length_append, List.length_singleton] at hl
  obtain ⟨v, hv, kv⟩ := h.get (i := (l.reverse.map kept).length) (x := kept a) (by rw [List.getElem?_append_right (Nat.le_refl _), Nat.sub_self]; rfl)
  refine ⟨v, by rw [show vs.length - 1 = (l.reverse.map kept).length by omega]; exact hv, kv, ?_⟩
  have := h.dropLast
  rw [List.dropLast_concat] at this
  exact this
def F9 (C : Addr) (back : Bool) : Sp := fun vs H Q _ => ∃ (p q u : Addr) (d : Desk) (a : House) (l : List House), vs = [.ref p] ∧ StAt C H p q u d ∧ (if back then d.past else d.future) = a :: l ∧ d.past.length + d.future.length ≤ 20 ∧
  ∀ H' : Hp, StAt C H' p q u (if back then ⟨a, l, d.now :: d.future⟩ else ⟨a, d.now :: d.past, l⟩) → i3 H H' p q u → Q .non H'
include T in
theorem zX6 : FnOk P w K mg base CX0 2 A.f_Students_take_back A.d_Students_take_back ["self"] (F9 A.C_Students true) := by
  refine T.F_Students_take_back.ok zN9 (fun vs H Q E h => ?_) (fun cdv Ar outer s H vs Q E hr h => ?_)
  · obtain ⟨p, q, u, d, a, l, rfl, _⟩ := h
    rfl
  · obtain ⟨p, q, u, d, a, l, rfl, st, hpast, h20, k⟩ := h
    have hpast : d.past = a :: l := hpast
    obtain ⟨dx, l0, m0, hp, tl0, tm0⟩ := st.ins
    obtain ⟨ws, hq, wE⟩ := st.past
    obtain ⟨xs, hu, xE⟩ := st.und
    have npq : p ≠ q := ne_of hp hq (by intro z; cases z)
    have npu : p ≠ u := ne_of hp hu (by intro z; cases z)
    have xl : xs.length = d.future.length := by rw [xE.1]; simp
    rw [hpast] at wE
    obtain ⟨v, hv, kv, wE'⟩ := zn4 wE
    refine ⟨_, (j0 (Q1 (p3 PySem.F.plainAttrs_list PySem.F.slot_list_append PySem.F.type_list_append P3 (I0 (pv 0) rfl) (pa_cons (N3 (pa_cons (I0 (pv 0) rfl) (pa_cons (I0 (pv 0) rfl) c0))) c0)))
      (g0 (Q1 (G1 (pv 0) T.cl_Students T.me_Students_put (z8 T) (hr.mono (by decide)) T.b_Students_put .nil pass0 (pa_cons (zi7 PySem.F.plainAttrs_list PySem.F.slot_list_pop PySem.F.type_list_pop zm1 (I0 (pv 0) rfl)) c0))))), ?_⟩
    refine ⟨_, rfl, p, _, dx, _, _, rfl, hp, T.cl_Students, T.n_undone, rfl, .inl ⟨rfl, _, SqL.of hu⟩, _, rfl, p, _, dx, _, _, rfl, hp, T.cl_Students, T.n_lists, rfl, _, rfl, p, _, dx, _, _, rfl, hp, T.cl_Students, T.n_mates, rfl, (by show 2 ≤ sizeLine; decide), fun t ht => ?_⟩
    have s1 := p0 (.tup [l0, m0]) ht
    refine ⟨u, xs, _, rfl, rfl, s1 _ _ hu, by rw [xl, sizeLine_eq]; omega, ?_⟩
    have kt2 := (KT.of s1).trans (P2 (.lst (xs ++ [.ref t])) (s1 _ _ hu))
    have hp2 : upd (upd H t (.tup [l0, m0])) u (.lst (xs ++ [.ref t])) p = some (.ins A.C_Students dx (J1 l0 m0 (.ref q) (.ref u))) := by rw [r0 npu]; exact s1 _ _ hp
    have xE2 : M1 (Y3 (upd (upd H t (.tup [l0, m0])) u (.lst (xs ++ [.ref t])))) (xs ++ [.ref t]) ((d.future.reverse ++ [d.now]).map kept) := by
      rw [List.map_append]
      refine (xE.imp fun _ _ => kt2.kept).snoc ⟨t, l0, m0, rfl, ?_, kt2.tupL tl0, kt2.tupN tm0⟩
      rw [r0 (S0 hu ht).symm]
      exact i0
    have fr2 : i3 H (upd (upd H t (.tup [l0, m0])) u (.lst (xs ++ [.ref t]))) p q u := fun b o e _ _ hb => by rw [r0 hb]; exact s1 b o e
    have hq2 : upd (upd H t (.tup [l0, m0])) u (.lst (xs ++ [.ref t])) q = some (.lst ws) := by rw [r0 st.ne]; exact s1 _ _ hq
    have hu2 : upd (upd H t (.tup [l0, m0])) u (.lst (xs ++ [.ref t])) u = some (.lst (xs ++ [.ref t])) := i0
    have kv2 := kt2.kept kv
    have wE2 := wE'.imp fun _ _ => kt2.kept
    generalize upd (upd H t (.tup [l0, m0])) u (.lst (xs ++ [.ref t])) = H2 at *
    refine ⟨_, rfl, p, dx, _, rfl, hp2, rfl, _, rfl, p, _, dx, _, _, rfl, hp2, T.cl_Students, T.n_past, rfl, .inl ⟨rfl, _, SqL.of hq2⟩, q, ws, v, rfl, rfl, hq2, hv, ?_⟩
    have kt3 := P2 (.lst ws.dropLast) hq2
    have hp3 : upd H2 q (.lst ws.dropLast) p = some (.ins A.C_Students dx (J1 l0 m0 (.ref q) (.ref u))) := by rw [r0 npq]; exact hp2
    have hu3 : upd H2 q (.lst ws.dropLast) u = some (.lst (xs ++ [.ref t])) := by rw [r0 (Ne.symm st.ne)]; exact hu2
    have hq3 : upd H2 q (.lst ws.dropLast) q = some (.lst ws.dropLast) := i0
    have fr3 : i3 H (upd H2 q (.lst ws.dropLast)) p q u := fun b o e h1 h2 h3 => by rw [r0 h2]; exact fr2 b o e h1 h2 h3
    have kv3 := kt3.kept kv2
    have wE3 := wE2.imp fun _ _ => kt3.kept
    have xE3 := xE2.imp fun _ _ => kt3.kept
    generalize upd H2 q (.lst ws.dropLast) = H3 at *
    obtain ⟨tv, x, y, rfl, htv, kx, ky⟩ := kv3
    refine ⟨p, dx, tv, l0, m0, .ref q, .ref u, x, y, rfl, hp3, htv, ?_⟩
    have kt4 := R3 (.ins A.C_Students dx (J1 x y (.ref q) (.ref u))) hp3
    refine k _ ⟨⟨dx, x, y, i0, kt4.tupL kx, kt4.tupN ky⟩, ⟨_, by rw [r0 (Ne.symm npq)]; exact hq3, wE3.imp fun _ _ => kt4.kept⟩, ⟨_, by rw [r0 (Ne.symm npu)]; exact hu3, ?_⟩, st.ne⟩ fun b o e h1 h2 h3 => by rw [r0 h1]; exact fr3 b o e h1 h2 h3
    show M1 _ _ ((d.now :: d.future).reverse.map kept)
    rw [List.reverse_cons]
    exact xE3.imp fun _ _ => kt4.kept
include T in
theorem zX8 : FnOk P w K mg base CX0 2 A.f_Students_do_again A.d_Students_do_again ["self"] (F9 A.C_Students false) := by
  refine T.F_Students_do_again.ok zO3 (fun vs H Q E h => ?_) (fun cdv Ar outer s H vs Q E hr h => ?_)
  · obtain ⟨p, q, u, d, a, l, rfl, _⟩ := h
    rfl
  · obtain ⟨p, q, u, d, a, l, rfl, st, hfut, h20, k⟩ := h
    have hfut : d.future = a :: l := hfut
    obtain ⟨dx, l0, m0, hp, tl0, tm0⟩ := st.ins
    obtain ⟨xs, hq, xE⟩ := st.past
    obtain ⟨ws, hu, wE⟩ := st.und
    have npq : p ≠ q := ne_of hp hq (by intro z; cases z)
    have npu : p ≠ u := ne_of hp hu (by intro z; cases z)
    have xl : xs.length = d.past.length := by rw [xE.1]; simp
    rw [hfut] at wE
    obtain ⟨v, hv, kv, wE'⟩ := zn4 wE
    refine ⟨_, (j0 (Q1 (p3 PySem.F.plainAttrs_list PySem.F.slot_list_append PySem.F.type_list_append P3 (I0 (pv 0) rfl) (pa_cons (N3 (pa_cons (I0 (pv 0) rfl) (pa_cons (I0 (pv 0) rfl) c0))) c0)))
      (g0 (Q1 (G1 (pv 0) T.cl_Students T.me_Students_put (z8 T) (hr.mono (by decide)) T.b_Students_put .nil pass0 (pa_cons (zi7 PySem.F.plainAttrs_list PySem.F.slot_list_pop PySem.F.type_list_pop zm1 (I0 (pv 0) rfl)) c0))))), ?_⟩
    refine ⟨_, rfl, p, _, dx, _, _, rfl, hp, T.cl_Students, T.n_past, rfl, .inl ⟨rfl, _, SqL.of hq⟩, _, rfl, p, _, dx, _, _, rfl, hp, T.cl_Students, T.n_lists, rfl, _, rfl, p, _, dx, _, _, rfl, hp, T.cl_Students, T.n_mates, rfl, (by show 2 ≤ sizeLine; decide), fun t ht => ?_⟩
    have s1 := p0 (.tup [l0, m0]) ht
    refine ⟨q, xs, _, rfl, rfl, s1 _ _ hq, by rw [xl, sizeLine_eq]; omega, ?_⟩
    have kt2 := (KT.of s1).trans (P2 (.lst (xs ++ [.ref t])) (s1 _ _ hq))
    have hp2 : upd (upd H t (.tup [l0, m0])) q (.lst (xs ++ [.ref t])) p = some (.ins A.C_Students dx (J1 l0 m0 (.ref q) (.ref u))) := by rw [r0 npq]; exact s1 _ _ hp
    have xE2 : M1 (Y3 (upd (upd H t (.tup [l0, m0])) q (.lst (xs ++ [.ref t])))) (xs ++ [.ref t]) ((d.past.reverse ++ [d.now]).map kept) := by
      rw [List.map_append]
      refine (xE.imp fun _ _ => kt2.kept).snoc ⟨t, l0, m0, rfl, ?_, kt2.tupL tl0, kt2.tupN tm0⟩
      rw [r0 (S0 hq ht).symm]
      exact i0
    have fr2 : i3 H (upd (upd H t (.tup [l0, m0])) q (.lst (xs ++ [.ref t]))) p q u := fun b o e _ hb _ => by rw [r0 hb]; exact s1 b o e
    have hu2 : upd (upd H t (.tup [l0, m0])) q (.lst (xs ++ [.ref t])) u = some (.lst ws) := by rw [r0 (Ne.symm st.ne)]; exact s1 _ _ hu
    have hq2 : upd (upd H t (.tup [l0, m0])) q (.lst (xs ++ [.ref t])) q = some (.lst (xs ++ [.ref t])) := i0
    have kv2 := kt2.kept kv
    have wE2 := wE'.imp fun _ _ => kt2.kept
    generalize upd (upd H t (.tup [l0, m0])) q (.lst (xs ++ [.ref t])) = H2 at *
    refine ⟨_, rfl, p, dx, _, rfl, hp2, rfl, _, rfl, p, _, dx, _, _, rfl, hp2, T.cl_Students, T.n_undone, rfl, .inl ⟨rfl, _, SqL.of hu2⟩, u, ws, v, rfl, rfl, hu2, hv, ?_⟩
    have kt3 := P2 (.lst ws.dropLast) hu2
    have hp3 : upd H2 u (.lst ws.dropLast) p = some (.ins A.C_Students dx (J1 l0 m0 (.ref q) (.ref u))) := by rw [r0 npu]; exact hp2
    have hq3 : upd H2 u (.lst ws.dropLast) q = some (.lst (xs ++ [.ref t])) := by rw [r0 st.ne]; exact hq2
    have hu3 : upd H2 u (.lst ws.dropLast) u = some (.lst ws.dropLast) := i0
    have fr3 : i3 H (upd H2 u (.lst ws.dropLast)) p q u := fun b o e h1 h2 h3 => by rw [r0 h3]; exact fr2 b o e h1 h2 h3
    have kv3 := kt3.kept kv2
    have wE3 := wE2.imp fun _ _ => kt3.kept
    have xE3 := xE2.imp fun _ _ => kt3.kept
    generalize upd H2 u (.lst ws.dropLast) = H3 at *
    obtain ⟨tv, x, y, rfl, htv, kx, ky⟩ := kv3
    refine ⟨p, dx, tv, l0, m0, .ref q, .ref u, x, y, rfl, hp3, htv, ?_⟩
    have kt4 := R3 (.ins A.C_Students dx (J1 x y (.ref q) (.ref u))) hp3
    refine k _ ⟨⟨dx, x, y, i0, kt4.tupL kx, kt4.tupN ky⟩, ⟨_, by rw [r0 (Ne.symm npq)]; exact hq3, ?_⟩, ⟨_, by rw [r0 (Ne.symm npu)]; exact hu3, wE3.imp fun _ _ => kt4.kept⟩, st.ne⟩ fun b o e h1 h2 h3 => by rw [r0 h1]; exact fr3 b o e h1 h2 h3
    show M1 _ _ ((d.now :: d.past).reverse.map kept)
    rw [List.reverse_cons]
    exact xE3.imp fun _ _ => kt4.kept
def zF0 (C : Addr) : Sp := fun vs H Q _ => ∃ (p q u : Addr) (d : Desk), vs = [.ref p] ∧ StAt C H p q u d ∧ GoodD d ∧ Y0 C H p q u d .back Q
include T in
theorem zW2 : FnOk P w K mg base CX0 3 A.f_ho_back A.d_ho_back ["students"] (zF0 A.C_Students) := by
  refine T.F_ho_back.ok zL9 (fun vs H Q E h => ?_) (fun cdv Ar outer s H vs Q E hr h => ?_)
  · obtain ⟨p, q, u, d, rfl, _⟩ := h
    rfl
  · obtain ⟨p, q, u, d, rfl, st, g, k⟩ := h
    obtain ⟨dx, l0, m0, hp, tl, tm⟩ := st.ins
    obtain ⟨ws, hq, wE⟩ := st.past
    have wl : ws.length = d.past.length := by rw [wE.1]; simp
    refine ⟨_, (j0 (B0 (J0 U0 (N0 O0 (by rfl) T.len PySem.boot_len (pa_cons (I0 (pv 0) rfl) c0)) pe_int (F0 _)) (g0 (n0 (G0 (pa_cons (V0 rfl T.c_NOT_THERE) c0)))) C0)
      (j0 (Q1 (zi5 (pv 0) T.cl_Students T.me_Students_take_back (zX6 T) (hr.mono (by decide)) T.b_Students_take_back .nil pass0))
      (g0 (n0 (G0 (pa_cons (N0 O0 (by rfl) T.len PySem.boot_len (pa_cons (I0 (pv 0) rfl) c0)) c0)))))), ?_⟩
    refine ⟨_, rfl, p, _, dx, _, _, rfl, hp, T.cl_Students, T.n_past, rfl, _, _, rfl, .inl (SqL.of hq), rfl, _, rfl, A0 (fun c => ?_) (fun c => ?_)⟩
    · have c' : d.past = [] := by
        have z := of_decide_eq_true c
        injection z with z
        have z2 : ws.length = 0 := by omega
        rw [wl] at z2
        exact List.eq_nil_of_length_eq_zero z2
      have ea : act d .back = (d, only (-2)) := by
        show (match d.past with | [] => _ | k :: r => _) = _
        rw [c']
      exact ⟨L0, fun r hr0 => k.ref st ea hr0⟩
    cases hg : d.past with
    | nil =>
      rw [hg] at wl
      exact absurd (by rw [wl]; rfl) c
    | cons a l =>
      have ea : act d .back = (⟨a, l, d.now :: d.future⟩, only ((l.length : Nat) : Int)) := by
        show (match d.past with | [] => _ | k :: r => _) = _
        rw [hg]
      refine ⟨_, rfl, p, dx, _, rfl, hp, rfl, p, q, u, d, a, l, rfl, st, hg, g.len, fun H1 st1 fr1 => ?_⟩
      have st1 : StAt A.C_Students H1 p q u ⟨a, l, d.now :: d.future⟩ := st1
      obtain ⟨dx1, l1, m1, hp1, _, _⟩ := st1.ins
      obtain ⟨ws1, hq1, wE1⟩ := st1.past
      have wl1 : ws1.length = l.length := by rw [wE1.1]; simp
      refine ⟨_, rfl, p, _, dx1, _, _, rfl, hp1, T.cl_Students, T.n_past, rfl, _, _, rfl, .inl (SqL.of hq1), L0, fun r hr0 => ?_⟩
      rw [wl1]
      exact k.fin st ea st1 fr1 (.inl rfl) (.inl rfl) rfl (p0 _ hr0) hr0 i0
def zF7 (C : Addr) : Sp := fun vs H Q _ => ∃ (p q u : Addr) (d : Desk), vs = [.ref p] ∧ StAt C H p q u d ∧ GoodD d ∧ Y0 C H p q u d .again Q
include T in
theorem zW5 : FnOk P w K mg base CX0 3 A.f_ho_again A.d_ho_again ["students"] (zF7 A.C_Students) := by
  refine T.F_ho_again.ok zM2 (fun vs H Q E h => ?_) (fun cdv Ar outer s H vs Q E hr h => ?_)
  · obtain ⟨p, q, u, d, rfl, _⟩ := h
    rfl
  · obtain ⟨p, q, u, d, rfl, st, g, k⟩ := h
    obtain ⟨dx, l0, m0, hp, tl, tm⟩ := st.ins
    obtain ⟨ws, hu, wE⟩ := st.und
    have wl : ws.length = d.future.length := by rw [wE.1]; simp
    refine ⟨_, (j0 (B0 (J0 U0 (N0 O0 (by rfl) T.len PySem.boot_len (pa_cons (I0 (pv 0) rfl) c0)) pe_int (F0 _)) (g0 (n0 (G0 (pa_cons (V0 rfl T.c_NOT_THERE) c0)))) C0)
      (j0 (Q1 (zi5 (pv 0) T.cl_Students T.me_Students_do_again (zX8 T) (hr.mono (by decide)) T.b_Students_do_again .nil pass0))
      (g0 (n0 (G0 (pa_cons (N0 O0 (by rfl) T.len PySem.boot_len (pa_cons (I0 (pv 0) rfl) c0)) c0)))))), ?_⟩
    refine ⟨_, rfl, p, _, dx, _, _, rfl, hp, T.cl_Students, T.n_undone, rfl, _, _, rfl, .inl (SqL.of hu), rfl, _, rfl, A0 (fun c => ?_) (fun c => ?_)⟩
    · have c' : d.future = [] := by
        have z := of_decide_eq_true c
        injection z with z
        have z2 : ws.length = 0 := by omega
        rw [wl] at z2
        exact List.eq_nil_of_length_eq_zero z2
      have ea : act d .again = (d, only (-2)) := by
        show (match d.future with | [] => _ | k :: r => _) = _
        rw [c']
      exact ⟨L0, fun r hr0 => k.ref st ea hr0⟩
    cases hg : d.future with
    | nil =>
      rw [hg] at wl
      exact absurd (by rw [wl]; rfl) c
    | cons a l =>
      have gl := g.len
      rw [hg, List.length_cons] at gl
      have ea : act d .again = (⟨a, d.now :: d.past, l⟩, only ((l.length : Nat) : Int)) := by
        show (match d.future with | [] => _ | k :: r => _) = _
        rw [hg]
        show ((⟨a, (d.now :: d.past).take 20, l⟩ : Desk), _) = _
        rw [List.take_of_length_le (by rw [List.length_cons]; omega)]
      refine ⟨_, rfl, p, dx, _, rfl, hp, rfl, p, q, u, d, a, l, rfl, st, hg, g.len, fun H1 st1 fr1 => ?_⟩
      have st1 : StAt A.C_Students H1 p q u ⟨a, d.now :: d.past, l⟩ := st1
      obtain ⟨dx1, l1, m1, hp1, _, _⟩ := st1.ins
      obtain ⟨ws1, hu1, wE1⟩ := st1.und
      have wl1 : ws1.length = l.length := by rw [wE1.1]; simp
      refine ⟨_, rfl, p, _, dx1, _, _, rfl, hp1, T.cl_Students, T.n_undone, rfl, _, _, rfl, .inl (SqL.of hu1), L0, fun r hr0 => ?_⟩
      rw [wl1]
      exact k.fin st ea st1 fr1 (.inl rfl) (.inl rfl) rfl (p0 _ hr0) hr0 i0
def zz5 (C : Addr) : Sp := fun vs H Q _ => ∃ (p q u : Addr) (d : Desk), vs = [.ref p] ∧ StAt C H p q u d ∧ GoodD d ∧ Y0 C H p q u d .state Q
include T in
theorem zU2 : FnOk P w K mg base CX0 2 A.f_ho_state A.d_ho_state ["students"] (zz5 A.C_Students) := by
  refine T.F_ho_state.ok zJ9 (fun vs H Q E h => ?_) (fun cdv Ar outer s H vs Q E hr h => ?_)
  · obtain ⟨p, q, u, d, rfl, _⟩ := h
    rfl
  · obtain ⟨p, q, u, d, rfl, st, g, k⟩ := h
    obtain ⟨dx, l0, m0, hp, tl, tm⟩ := st.ins
    obtain ⟨ws, hq, wE⟩ := st.past
    obtain ⟨xs, hu, xE⟩ := st.und
    have wl : ws.length = d.past.length := by rw [wE.1]; simp
    have xl : xs.length = d.future.length := by rw [xE.1]; simp
    obtain ⟨pl, vs, rfl, hpl, hE⟩ := id tl
    have ea : act d .state = (d, ⟨((d.now.many : Nat) : Int), [d.now.paired.length, d.past.length, d.future.length]⟩) := rfl
    refine ⟨_, (g0 (n0 (G0 (pa_cons (N0 O0 (by rfl) T.len PySem.boot_len (pa_cons (I0 (pv 0) rfl) c0)) (pa_cons (o0 (u6 T) (hr.mono (by decide)) rfl T.m_pair_count T.F_pair_count.kp T.b_pair_count .nil pass0 (pa_cons (I0 (pv 0) rfl) c0)) (pa_cons (N0 O0 (by rfl) T.len PySem.boot_len (pa_cons (I0 (pv 0) rfl) c0)) (pa_cons (N0 O0 (by rfl) T.len PySem.boot_len (pa_cons (I0 (pv 0) rfl) c0)) c0))))))), ?_⟩
    refine ⟨_, rfl, p, _, dx, _, _, rfl, hp, T.cl_Students, T.n_lists, rfl, _, _, rfl, .inr (SqT.of hpl), _, rfl, p, _, dx, _, _, rfl, hp, T.cl_Students, T.n_mates, rfl, m0, _, rfl, tm, by rw [E1]; exact g.now.n7, fun H1 s1 => ?_⟩
    refine ⟨_, rfl, p, _, dx, _, _, rfl, s1 _ _ hp, T.cl_Students, T.n_past, rfl, _, _, rfl, .inl (SqL.of (s1 _ _ hq)), _, rfl, p, _, dx, _, _, rfl, s1 _ _ hp, T.cl_Students, T.n_undone, rfl, _, _, rfl, .inl (SqL.of (s1 _ _ hu)), (by show 4 ≤ sizeLine; decide), fun r hr0 => ?_⟩
    refine k.read st ea ?_ (s1.trans (p0 _ hr0)) (s1.free hr0) i0
    rw [hE.1, k5 g.now.fit.ok, wl, xl]
    rfl
end Pl
end
section
set_option Elab.async false
set_option linter.all false
set_option maxRecDepth 100000
set_option maxHeartbeats 4000000
namespace Pl
open PySem PySem.Spec PyProof.Rows L2 PM
variable {P : Program} {w : World} {K : PySem.W.Frag} {mg : Str → Option Value} {base : Heap} {A : Ad} (T : Txt K mg base A)
open Km464 (House Desk withIn opened key only act fresh)
def zF2 (K : PySem.W.Frag) : Sp := fun vs H Q _ => ∃ (a : Addr) (ns : List Int), vs = [.ref a] ∧ SqL K H a (ns.map V.int) ∧ H A5 = some (.tbl #[]) ∧ H B5 = some (.tbl #[]) ∧ PyKm464.answers_asked ns = true ∧ ∀ (H' : Hp) (p : Addr), H' p = some (.lst ((PyKm464.answers ns).map V.int)) → Q (.ref p) H'
def zD8 (K : PySem.W.Frag) : Sp := fun vs H Q _ => ∃ (c : Addr) (ns pre post : List Int) (x : Km464.Call), vs = [.ref c, nV pre.length] ∧ SqL K H c (ns.map V.int) ∧ ns = pre ++ (C1 x ++ post) ∧ B4 x ∧ Q (nV (pre.length + (C1 x).length)) H
def a6 (C : Addr) (lo hi : Int) : Sp := fun vs H Q _ => ∃ (p q u w : Addr) (num : Int) (args : List Int) (d : Desk) (x : Km464.Call), vs = [.ref p, .int num, .ref w] ∧ C1 x = num :: args ∧ lo ≤ num ∧ num ≤ hi ∧ B4 x ∧ H w = some (.lst (args.map V.int)) ∧ w ≠ q ∧ w ≠ u ∧ StAt C H p q u d ∧ GoodD d ∧ U2 H ∧ Y0 C H p q u d x Q
def zD9 (C : Addr) (lo hi : Int) : Sp := fun vs H Q _ => ∃ (p q u w : Addr) (num : Int) (args : List Int) (d : Desk) (x : Km464.Call), vs = [.ref p, .int num] ∧ C1 x = num :: args ∧ lo ≤ num ∧ num ≤ hi ∧ B4 x ∧ H w = some (.lst (args.map V.int)) ∧ w ≠ q ∧ w ≠ u ∧ StAt C H p q u d ∧ GoodD d ∧ U2 H ∧ Y0 C H p q u d x Q
theorem z0 {c A B : Prop} [Decidable c] (h : ¬ c) (x : B) : if decide c = true then A else B := by
  rw [decide_eq_false h]
  exact A6 x
theorem P1 {c A B : Prop} [Decidable c] (h : c) (x : A) : if decide c = true then A else B := by
  rw [decide_eq_true h]
  exact C2 x
theorem Y0.of_same {C : Addr} {H H1 : Hp} {p q u : Addr} {d : Desk} {c : Km464.Call} {Q : VK} (k : Y0 C H p q u d c Q) (s : x0 H H1) : Y0 C H1 p q u d c Q := fun H' r q' u' h1 h2 st wf tk hq hu n1 n2 =>
  k H' r q' u' h1 (fun b o e a1 a2 a3 => h2 b o (s _ _ e) a1 a2 a3) st (fun b o e a1 a2 a3 => wf b o (s _ _ e) a1 a2 a3) ((y4.of s).trans tk) (hq.imp id s.free) (hu.imp id s.free) n1 n2
theorem qg6 (a n : Nat) (l : List Nat) : U1 (([PM.nat a, PM.nat n, PM.nat l.length] ++ l.map PM.nat).map V.int) (some 3) none = nVs l := by
  unfold U1
  have e1 : HT.sIx (([PM.nat a, PM.nat n, PM.nat l.length] ++ l.map PM.nat).map V.int).length 0 (some 3) = min 3 (([PM.nat a, PM.nat n, PM.nat l.length] ++ l.map PM.nat).map V.int).length := HT.sIx_nat ..
  rw [e1, HT.sIx_none, Nat.min_eq_left (by simp), List.take_of_length_le (by simp)]
  show (l.map PM.nat).map V.int = _
  rw [List.map_map]
  rfl
def qk7 : List Int := [1, 2, 3, 2, 1, 2, 0, 0, 0, 2, 0, 1, 1, 1, 0, 2, 0, 1, 0, 1, 2, 1, 1, 0, 0, 0, 1, 0, 0, 0]
theorem qg2 (x : Km464.Call) (h : B4 x) : ∃ (num : Int) (args : List Int) (k : Nat), C1 x = num :: args ∧ atI (qk7.map V.int) num = some (V.int ((k : Nat) : Int)) ∧ ((num ≠ 1 ∧ (C1 x).length = 1 + k) ∨ (num = 1 ∧ k = 2 ∧ (C1 x).length = 10 ∧ (C1 x)[3]? = some 6)) := by
  cases x with
  | wish a n l =>
    have hl : l.length = 6 := h
    refine ⟨1, _, 2, rfl, rfl, .inr ⟨rfl, rfl, ?_, ?_⟩⟩
    · show (l.map PM.nat).length + 4 = 10
      rw [List.length_map, hl]
    · show some (PM.nat l.length) = some 6
      rw [hl]
      rfl
  | start a => exact ⟨_, _, 1, rfl, rfl, .inl ⟨by decide, rfl⟩⟩
  | swap a b c => exact ⟨_, _, 3, rfl, rfl, .inl ⟨by decide, rfl⟩⟩
  | pair a b => exact ⟨_, _, 2, rfl, rfl, .inl ⟨by decide, rfl⟩⟩
  | part a => exact ⟨_, _, 1, rfl, rfl, .inl ⟨by decide, rfl⟩⟩
  | break_ a b => exact ⟨_, _, 2, rfl, rfl, .inl ⟨by decide, rfl⟩⟩
  | all_  => exact ⟨_, _, 0, rfl, rfl, .inl ⟨by decide, rfl⟩⟩
  | holds  => exact ⟨_, _, 0, rfl, rfl, .inl ⟨by decide, rfl⟩⟩
  | breakers  => exact ⟨_, _, 0, rfl, rfl, .inl ⟨by decide, rfl⟩⟩
  | would a b => exact ⟨_, _, 2, rfl, rfl, .inl ⟨by decide, rfl⟩⟩
  | good  => exact ⟨_, _, 0, rfl, rfl, .inl ⟨by decide, rfl⟩⟩
  | nth a => exact ⟨_, _, 1, rfl, rfl, .inl ⟨by decide, rfl⟩⟩
  | bestOf a => exact ⟨_, _, 1, rfl, rfl, .inl ⟨by decide, rfl⟩⟩
  | worstOf a => exact ⟨_, _, 1, rfl, rfl, .inl ⟨by decide, rfl⟩⟩
  | alone  => exact ⟨_, _, 0, rfl, rfl, .inl ⟨by decide, rfl⟩⟩
  | ever a b => exact ⟨_, _, 2, rfl, rfl, .inl ⟨by decide, rfl⟩⟩
  | rings  => exact ⟨_, _, 0, rfl, rfl, .inl ⟨by decide, rfl⟩⟩
  | ring a => exact ⟨_, _, 1, rfl, rfl, .inl ⟨by decide, rfl⟩⟩
  | odds  => exact ⟨_, _, 0, rfl, rfl, .inl ⟨by decide, rfl⟩⟩
  | without a => exact ⟨_, _, 1, rfl, rfl, .inl ⟨by decide, rfl⟩⟩
  | place a b => exact ⟨_, _, 2, rfl, rfl, .inl ⟨by decide, rfl⟩⟩
  | friends a => exact ⟨_, _, 1, rfl, rfl, .inl ⟨by decide, rfl⟩⟩
  | with_ a => exact ⟨_, _, 1, rfl, rfl, .inl ⟨by decide, rfl⟩⟩
  | single  => exact ⟨_, _, 0, rfl, rfl, .inl ⟨by decide, rfl⟩⟩
  | glad  => exact ⟨_, _, 0, rfl, rfl, .inl ⟨by decide, rfl⟩⟩
  | fairest  => exact ⟨_, _, 0, rfl, rfl, .inl ⟨by decide, rfl⟩⟩
  | look a => exact ⟨_, _, 1, rfl, rfl, .inl ⟨by decide, rfl⟩⟩
  | back  => exact ⟨_, _, 0, rfl, rfl, .inl ⟨by decide, rfl⟩⟩
  | again  => exact ⟨_, _, 0, rfl, rfl, .inl ⟨by decide, rfl⟩⟩
  | state  => exact ⟨_, _, 0, rfl, rfl, .inl ⟨by decide, rfl⟩⟩
include T in
theorem zW7 : FnOk P w K mg base CX0 1 A.f_call_end A.d_call_end ["calls", "at"] (zD8 K) := by
  refine T.F_call_end.ok zM7 (fun vs H Q E h => ?_) (fun cdv Ar outer s H vs Q E hr h => ?_)
  · obtain ⟨c, ns, pre, post, x, rfl, _⟩ := h
    rfl
  · obtain ⟨c, ns, pre, post, x, rfl, hS, hns, hrow, k⟩ := h
    obtain ⟨num, args, m, hfx, hat, hor⟩ := qg2 x hrow
    have hA : atI (ns.map V.int) ((pre.length : Nat) : Int) = some (V.int num) := t4 (by rw [List.getElem?_map, hns, List.getElem?_append_right (Nat.le_refl _), Nat.sub_self, hfx]; rfl)
    refine ⟨_, (j0 (T0 (i := 2) zM7.nd rfl (.inl rfl) (B1 D3 (B1 D3 (pv 1) pe_int) (pe_ix j1 (zi6 (v := V.ref A.a_PLAIN_NUMBERS) rfl T.c_PLAIN_NUMBERS rfl) (pe_ix ix_list (pv 0) (pv 1) (fun _ _ => rfl)) (fun _ _ => rfl))))
      (j0 (B0 (J0 U0 (pe_ix ix_list (pv 0) (pv 1) (fun _ _ => rfl)) (V0 rfl T.c_WISH) (F0 _)) (g0 (n0 (B1 D3 (B1 D3 (pv 2) pe_int) (pe_ix ix_list (pv 0) (pv 2) (fun _ _ => rfl))))) C0)
      (g0 (n0 (pv 2))))), ?_⟩
    refine ⟨_, rfl, _, _, rfl, rfl, _, rfl, _, rfl, c, _, _, _, rfl, rfl, hS, hA, A.a_PLAIN_NUMBERS, _, _, _, rfl, rfl, T.t_PLAIN_NUMBERS H, hat, _, _, rfl, rfl, ?_⟩
    refine ⟨_, rfl, _, rfl, c, _, _, _, rfl, rfl, hS, hA, rfl, _, rfl, ?_⟩
    rcases hor with ⟨n1, hl⟩ | ⟨rfl, rfl, hl, h3⟩
    · refine z0 (fun z => n1 (by injection z)) ⟨_, rfl, ?_⟩
      have e : nV (pre.length + (C1 x).length) = V.int (((pre.length : Nat) : Int) + 1 + ((m : Nat) : Int)) := by
        unfold nV
        congr 1
        rw [hl]
        omega
      rw [e] at k
      exact k
    · have hB : atI (ns.map V.int) (((pre.length : Nat) : Int) + 1 + ((2 : Nat) : Int)) = some (V.int 6) := by
        have e : ((pre.length : Nat) : Int) + 1 + ((2 : Nat) : Int) = ((pre.length + 3 : Nat) : Int) := by omega
        rw [e]
        refine t4 ?_
        rw [List.getElem?_map, hns, List.getElem?_append_right (by omega), Nat.add_sub_cancel_left, List.getElem?_append_left (by omega), h3]
        rfl
      refine P1 rfl ⟨_, rfl, _, _, rfl, rfl, _, rfl, _, rfl, c, _, _, _, rfl, rfl, hS, hB, _, _, rfl, rfl, ?_⟩
      have e : nV (pre.length + (C1 x).length) = V.int (((pre.length : Nat) : Int) + 1 + ((2 : Nat) : Int) + 1 + 6) := by
        unfold nV
        congr 1
        rw [hl]
        omega
      rw [e] at k
      exact k
include T in
theorem zX3 : FnOk P w K mg base CX0 7 A.f_answer_changing A.d_answer_changing ["students", "call", "given"] (a6 A.C_Students 0 6) := by
  refine T.F_answer_changing.ok zN5 (fun vs H Q E h => ?_) (fun cdv Ar outer s H vs Q E hr h => ?_)
  · obtain ⟨p, q, u, w, num, args, d, x, rfl, _⟩ := h
    rfl
  · obtain ⟨p, q, u, w, num, args, d, x, rfl, hfx, h1, h2, hrow, hw, nwq, nwu, st, g, tb, k⟩ := h
    refine ⟨_, (j0 (B0 (J0 U0 (pv 1) pe_int (F0 _)) (g0 (n0 (o0 (zU3 T) (hr.mono (by decide)) rfl T.m_ho_start T.F_ho_start.kp T.b_ho_start .nil pass0 (pa_cons (pv 0) (pa_cons (pe_ix ix_list (pv 2) pe_int (fun _ _ => rfl)) c0))))) C0)
      (j0 (B0 (J0 U0 (pv 1) pe_int (F0 _)) (g0 (n0 (o0 (zU0 T) (hr.mono (by decide)) rfl T.m_ho_wish T.F_ho_wish.kp T.b_ho_wish .nil pass0 (pa_cons (pv 0) (pa_cons (pe_ix ix_list (pv 2) pe_int (fun _ _ => rfl)) (pa_cons (pe_ix ix_list (pv 2) pe_int (fun _ _ => rfl)) (pa_cons (Y4 C5 (pv 2) (G4 pe_int) E5) c0))))))) C0)
      (j0 (B0 (J0 U0 (pv 1) pe_int (F0 _)) (g0 (n0 (o0 (zU1 T) (hr.mono (by decide)) rfl T.m_ho_swap T.F_ho_swap.kp T.b_ho_swap .nil pass0 (pa_cons (pv 0) (pa_cons (pe_ix ix_list (pv 2) pe_int (fun _ _ => rfl)) (pa_cons (pe_ix ix_list (pv 2) pe_int (fun _ _ => rfl)) (pa_cons (pe_ix ix_list (pv 2) pe_int (fun _ _ => rfl)) c0))))))) C0)
      (j0 (B0 (J0 U0 (pv 1) pe_int (F0 _)) (g0 (n0 (o0 (zU9 T) (hr.mono (by decide)) rfl T.m_ho_pair T.F_ho_pair.kp T.b_ho_pair .nil pass0 (pa_cons (pv 0) (pa_cons (pe_ix ix_list (pv 2) pe_int (fun _ _ => rfl)) (pa_cons (pe_ix ix_list (pv 2) pe_int (fun _ _ => rfl)) c0)))))) C0)
      (j0 (B0 (J0 U0 (pv 1) pe_int (F0 _)) (g0 (n0 (o0 (zU8 T) (hr.mono (by decide)) rfl T.m_ho_part T.F_ho_part.kp T.b_ho_part .nil pass0 (pa_cons (pv 0) (pa_cons (pe_ix ix_list (pv 2) pe_int (fun _ _ => rfl)) c0))))) C0)
      (j0 (B0 (J0 U0 (pv 1) pe_int (F0 _)) (g0 (n0 (o0 (zW0 T) (hr.mono (by decide)) rfl T.m_ho_break T.F_ho_break.kp T.b_ho_break .nil pass0 (pa_cons (pv 0) (pa_cons (pe_ix ix_list (pv 2) pe_int (fun _ _ => rfl)) (pa_cons (pe_ix ix_list (pv 2) pe_int (fun _ _ => rfl)) c0)))))) C0)
      (g0 (n0 (o0 (zW4 T) (hr.mono (by decide)) rfl T.m_ho_all T.F_ho_all.kp T.b_ho_all .nil pass0 (pa_cons (pv 0) c0)))))))))), ?_⟩
    cases x with
    | start a =>
      cases hfx
      exact ⟨_, rfl, rfl, _, rfl, P1 rfl ⟨_, rfl, _, rfl, w, _, _, _, rfl, rfl, SqL.of hw, K1 (j := 0) rfl rfl, p, q, u, a, d, rfl, st, k⟩⟩
    | wish a n l =>
      cases hfx
      have hl6 : l.length = 6 := hrow
      refine ⟨_, rfl, rfl, _, rfl, z0 (by decide) ⟨_, rfl, rfl, _, rfl, P1 rfl ⟨_, rfl, _, rfl, w, _, _, _, rfl, rfl, SqL.of hw, K1 (j := 0) rfl rfl, _, rfl, w, _, _, _, rfl, rfl, SqL.of hw, K1 (j := 1) rfl rfl, _, rfl, _, rfl, w, _, rfl, SqL.of hw, fun w2 hw2 => ?_⟩⟩⟩
      have s2 := p0 (.lst (U1 ([PM.nat a, PM.nat n, PM.nat l.length] ++ l.map PM.nat |>.map V.int) (some 3) none)) hw2
      obtain ⟨_, hq1, _⟩ := st.past
      obtain ⟨_, hu1, _⟩ := st.und
      refine ⟨p, q, u, w2, a, n, l, d, rfl, st.same s2, g, ?_, (S0 hq1 hw2).symm, (S0 hu1 hw2).symm, k.of_same s2⟩
      exact i0.trans (congrArg (fun z => some (HO.lst z)) (qg6 a n l))
    | swap a b c =>
      cases hfx
      exact ⟨_, rfl, rfl, _, rfl, z0 (by decide) ⟨_, rfl, rfl, _, rfl, z0 (by decide) ⟨_, rfl, rfl, _, rfl, P1 rfl ⟨_, rfl, _, rfl, w, _, _, _, rfl, rfl, SqL.of hw, K1 (j := 0) rfl rfl, _, rfl, w, _, _, _, rfl, rfl, SqL.of hw, K1 (j := 1) rfl rfl, _, rfl, w, _, _, _, rfl, rfl, SqL.of hw, K1 (j := 2) rfl rfl, p, q, u, a, b, c, d, rfl, st, g, k⟩⟩⟩⟩
    | pair a b =>
      cases hfx
      exact ⟨_, rfl, rfl, _, rfl, z0 (by decide) ⟨_, rfl, rfl, _, rfl, z0 (by decide) ⟨_, rfl, rfl, _, rfl, z0 (by decide) ⟨_, rfl, rfl, _, rfl, P1 rfl ⟨_, rfl, _, rfl, w, _, _, _, rfl, rfl, SqL.of hw, K1 (j := 0) rfl rfl, _, rfl, w, _, _, _, rfl, rfl, SqL.of hw, K1 (j := 1) rfl rfl, p, q, u, a, b, d, rfl, st, g, k⟩⟩⟩⟩⟩
    | part a =>
      cases hfx
      exact ⟨_, rfl, rfl, _, rfl, z0 (by decide) ⟨_, rfl, rfl, _, rfl, z0 (by decide) ⟨_, rfl, rfl, _, rfl, z0 (by decide) ⟨_, rfl, rfl, _, rfl, z0 (by decide) ⟨_, rfl, rfl, _, rfl, P1 rfl ⟨_, rfl, _, rfl, w, _, _, _, rfl, rfl, SqL.of hw, K1 (j := 0) rfl rfl, p, q, u, a, d, rfl, st, g, k⟩⟩⟩⟩⟩⟩
    | break_ a b =>
      cases hfx
      exact ⟨_, rfl, rfl, _, rfl, z0 (by decide) ⟨_, rfl, rfl, _, rfl, z0 (by decide) ⟨_, rfl, rfl, _, rfl, z0 (by decide) ⟨_, rfl, rfl, _, rfl, z0 (by decide) ⟨_, rfl, rfl, _, rfl, z0 (by decide) ⟨_, rfl, rfl, _, rfl, P1 rfl ⟨_, rfl, _, rfl, w, _, _, _, rfl, rfl, SqL.of hw, K1 (j := 0) rfl rfl, _, rfl, w, _, _, _, rfl, rfl, SqL.of hw, K1 (j := 1) rfl rfl, p, q, u, a, b, d, rfl, st, g, k⟩⟩⟩⟩⟩⟩⟩
    | all_  =>
      cases hfx
      exact ⟨_, rfl, rfl, _, rfl, z0 (by decide) ⟨_, rfl, rfl, _, rfl, z0 (by decide) ⟨_, rfl, rfl, _, rfl, z0 (by decide) ⟨_, rfl, rfl, _, rfl, z0 (by decide) ⟨_, rfl, rfl, _, rfl, z0 (by decide) ⟨_, rfl, rfl, _, rfl, z0 (by decide) ⟨_, rfl, p, q, u, d, rfl, st, g, k⟩⟩⟩⟩⟩⟩⟩
    | holds  =>
      cases hfx
      exact absurd h2 (by decide)
    | breakers  =>
      cases hfx
      exact absurd h2 (by decide)
    | would a b =>
      cases hfx
      exact absurd h2 (by decide)
    | good  =>
      cases hfx
      exact absurd h2 (by decide)
    | nth a =>
      cases hfx
      exact absurd h2 (by decide)
    | bestOf a =>
      cases hfx
      exact absurd h2 (by decide)
    | worstOf a =>
      cases hfx
      exact absurd h2 (by decide)
    | alone  =>
      cases hfx
      exact absurd h2 (by decide)
    | ever a b =>
      cases hfx
      exact absurd h2 (by decide)
    | rings  =>
      cases hfx
      exact absurd h2 (by decide)
    | ring a =>
      cases hfx
      exact absurd h2 (by decide)
    | odds  =>
      cases hfx
      exact absurd h2 (by decide)
    | without a =>
      cases hfx
      exact absurd h2 (by decide)
    | place a b =>
      cases hfx
      exact absurd h2 (by decide)
    | friends a =>
      cases hfx
      exact absurd h2 (by decide)
    | with_ a =>
      cases hfx
      exact absurd h2 (by decide)
    | single  =>
      cases hfx
      exact absurd h2 (by decide)
    | glad  =>
      cases hfx
      exact absurd h2 (by decide)
    | fairest  =>
      cases hfx
      exact absurd h2 (by decide)
    | look a =>
      cases hfx
      exact absurd h2 (by decide)
    | back  =>
      cases hfx
      exact absurd h2 (by decide)
    | again  =>
      cases hfx
      exact absurd h2 (by decide)
    | state  =>
      cases hfx
      exact absurd h2 (by decide)
include T in
theorem zX1 : FnOk P w K mg base CX0 8 A.f_answer_holding A.d_answer_holding ["students", "call", "given"] (a6 A.C_Students 7 15) := by
  refine T.F_answer_holding.ok zN3 (fun vs H Q E h => ?_) (fun cdv Ar outer s H vs Q E hr h => ?_)
  · obtain ⟨p, q, u, w, num, args, d, x, rfl, _⟩ := h
    rfl
  · obtain ⟨p, q, u, w, num, args, d, x, rfl, hfx, h1, h2, hrow, hw, nwq, nwu, st, g, tb, k⟩ := h
    refine ⟨_, (j0 (B0 (J0 U0 (pv 1) pe_int (F0 _)) (g0 (n0 (o0 (zV3 T) (hr.mono (by decide)) rfl T.m_ho_holds T.F_ho_holds.kp T.b_ho_holds .nil pass0 (pa_cons (pv 0) c0)))) C0)
      (j0 (B0 (J0 U0 (pv 1) pe_int (F0 _)) (g0 (n0 (o0 (zV9 T) (hr.mono (by decide)) rfl T.m_ho_breakers T.F_ho_breakers.kp T.b_ho_breakers .nil pass0 (pa_cons (pv 0) c0)))) C0)
      (j0 (B0 (J0 U0 (pv 1) pe_int (F0 _)) (g0 (n0 (o0 (zT6 T) (hr.mono (by decide)) rfl T.m_ho_would T.F_ho_would.kp T.b_ho_would .nil pass0 (pa_cons (pv 0) (pa_cons (pe_ix ix_list (pv 2) pe_int (fun _ _ => rfl)) (pa_cons (pe_ix ix_list (pv 2) pe_int (fun _ _ => rfl)) c0)))))) C0)
      (j0 (B0 (J0 U0 (pv 1) pe_int (F0 _)) (g0 (n0 (o0 (zV4 T) (hr.mono (by decide)) rfl T.m_ho_good T.F_ho_good.kp T.b_ho_good .nil pass0 (pa_cons (pv 0) c0)))) C0)
      (j0 (B0 (J0 U0 (pv 1) pe_int (F0 _)) (g0 (n0 (o0 (zV1 T) (hr.mono (by decide)) rfl T.m_ho_nth T.F_ho_nth.kp T.b_ho_nth .nil pass0 (pa_cons (pv 0) (pa_cons (pe_ix ix_list (pv 2) pe_int (fun _ _ => rfl)) c0))))) C0)
      (j0 (B0 (J0 U0 (pv 1) pe_int (F0 _)) (g0 (n0 (o0 (zW1 T) (hr.mono (by decide)) rfl T.m_ho_best T.F_ho_best.kp T.b_ho_best .nil pass0 (pa_cons (pv 0) (pa_cons (pe_ix ix_list (pv 2) pe_int (fun _ _ => rfl)) c0))))) C0)
      (j0 (B0 (J0 U0 (pv 1) pe_int (F0 _)) (g0 (n0 (o0 (zT7 T) (hr.mono (by decide)) rfl T.m_ho_worst T.F_ho_worst.kp T.b_ho_worst .nil pass0 (pa_cons (pv 0) (pa_cons (pe_ix ix_list (pv 2) pe_int (fun _ _ => rfl)) c0))))) C0)
      (j0 (B0 (J0 U0 (pv 1) pe_int (F0 _)) (g0 (n0 (o0 (zW3 T) (hr.mono (by decide)) rfl T.m_ho_alone T.F_ho_alone.kp T.b_ho_alone .nil pass0 (pa_cons (pv 0) c0)))) C0)
      (g0 (n0 (o0 (zV8 T) (hr.mono (by decide)) rfl T.m_ho_ever T.F_ho_ever.kp T.b_ho_ever .nil pass0 (pa_cons (pv 0) (pa_cons (pe_ix ix_list (pv 2) pe_int (fun _ _ => rfl)) (pa_cons (pe_ix ix_list (pv 2) pe_int (fun _ _ => rfl)) c0)))))))))))))), ?_⟩
    cases x with
    | start a =>
      cases hfx
      exact absurd h1 (by decide)
    | wish a n l =>
      cases hfx
      exact absurd h1 (by decide)
    | swap a b c =>
      cases hfx
      exact absurd h1 (by decide)
    | pair a b =>
      cases hfx
      exact absurd h1 (by decide)
    | part a =>
      cases hfx
      exact absurd h1 (by decide)
    | break_ a b =>
      cases hfx
      exact absurd h1 (by decide)
    | all_  =>
      cases hfx
      exact absurd h1 (by decide)
    | holds  =>
      cases hfx
      exact ⟨_, rfl, rfl, _, rfl, P1 rfl ⟨_, rfl, p, q, u, d, rfl, st, g, k⟩⟩
    | breakers  =>
      cases hfx
      exact ⟨_, rfl, rfl, _, rfl, z0 (by decide) ⟨_, rfl, rfl, _, rfl, P1 rfl ⟨_, rfl, p, q, u, d, rfl, st, g, k⟩⟩⟩
    | would a b =>
      cases hfx
      exact ⟨_, rfl, rfl, _, rfl, z0 (by decide) ⟨_, rfl, rfl, _, rfl, z0 (by decide) ⟨_, rfl, rfl, _, rfl, P1 rfl ⟨_, rfl, _, rfl, w, _, _, _, rfl, rfl, SqL.of hw, K1 (j := 0) rfl rfl, _, rfl, w, _, _, _, rfl, rfl, SqL.of hw, K1 (j := 1) rfl rfl, p, q, u, a, b, d, rfl, st, g, k⟩⟩⟩⟩
    | good  =>
      cases hfx
      exact ⟨_, rfl, rfl, _, rfl, z0 (by decide) ⟨_, rfl, rfl, _, rfl, z0 (by decide) ⟨_, rfl, rfl, _, rfl, z0 (by decide) ⟨_, rfl, rfl, _, rfl, P1 rfl ⟨_, rfl, p, q, u, d, rfl, st, g, k⟩⟩⟩⟩⟩
    | nth a =>
      cases hfx
      exact ⟨_, rfl, rfl, _, rfl, z0 (by decide) ⟨_, rfl, rfl, _, rfl, z0 (by decide) ⟨_, rfl, rfl, _, rfl, z0 (by decide) ⟨_, rfl, rfl, _, rfl, z0 (by decide) ⟨_, rfl, rfl, _, rfl, P1 rfl ⟨_, rfl, _, rfl, w, _, _, _, rfl, rfl, SqL.of hw, K1 (j := 0) rfl rfl, p, q, u, a, d, rfl, st, g, k⟩⟩⟩⟩⟩⟩
    | bestOf a =>
      cases hfx
      exact ⟨_, rfl, rfl, _, rfl, z0 (by decide) ⟨_, rfl, rfl, _, rfl, z0 (by decide) ⟨_, rfl, rfl, _, rfl, z0 (by decide) ⟨_, rfl, rfl, _, rfl, z0 (by decide) ⟨_, rfl, rfl, _, rfl, z0 (by decide) ⟨_, rfl, rfl, _, rfl, P1 rfl ⟨_, rfl, _, rfl, w, _, _, _, rfl, rfl, SqL.of hw, K1 (j := 0) rfl rfl, p, q, u, a, d, rfl, st, g, tb, k⟩⟩⟩⟩⟩⟩⟩
    | worstOf a =>
      cases hfx
      exact ⟨_, rfl, rfl, _, rfl, z0 (by decide) ⟨_, rfl, rfl, _, rfl, z0 (by decide) ⟨_, rfl, rfl, _, rfl, z0 (by decide) ⟨_, rfl, rfl, _, rfl, z0 (by decide) ⟨_, rfl, rfl, _, rfl, z0 (by decide) ⟨_, rfl, rfl, _, rfl, z0 (by decide) ⟨_, rfl, rfl, _, rfl, P1 rfl ⟨_, rfl, _, rfl, w, _, _, _, rfl, rfl, SqL.of hw, K1 (j := 0) rfl rfl, p, q, u, a, d, rfl, st, g, tb, k⟩⟩⟩⟩⟩⟩⟩⟩
    | alone  =>
      cases hfx
      exact ⟨_, rfl, rfl, _, rfl, z0 (by decide) ⟨_, rfl, rfl, _, rfl, z0 (by decide) ⟨_, rfl, rfl, _, rfl, z0 (by decide) ⟨_, rfl, rfl, _, rfl, z0 (by decide) ⟨_, rfl, rfl, _, rfl, z0 (by decide) ⟨_, rfl, rfl, _, rfl, z0 (by decide) ⟨_, rfl, rfl, _, rfl, z0 (by decide) ⟨_, rfl, rfl, _, rfl, P1 rfl ⟨_, rfl, p, q, u, d, rfl, st, g, k⟩⟩⟩⟩⟩⟩⟩⟩⟩
    | ever a b =>
      cases hfx
      exact ⟨_, rfl, rfl, _, rfl, z0 (by decide) ⟨_, rfl, rfl, _, rfl, z0 (by decide) ⟨_, rfl, rfl, _, rfl, z0 (by decide) ⟨_, rfl, rfl, _, rfl, z0 (by decide) ⟨_, rfl, rfl, _, rfl, z0 (by decide) ⟨_, rfl, rfl, _, rfl, z0 (by decide) ⟨_, rfl, rfl, _, rfl, z0 (by decide) ⟨_, rfl, rfl, _, rfl, z0 (by decide) ⟨_, rfl, _, rfl, w, _, _, _, rfl, rfl, SqL.of hw, K1 (j := 0) rfl rfl, _, rfl, w, _, _, _, rfl, rfl, SqL.of hw, K1 (j := 1) rfl rfl, p, q, u, a, b, d, rfl, st, g, k⟩⟩⟩⟩⟩⟩⟩⟩⟩
    | rings  =>
      cases hfx
      exact absurd h2 (by decide)
    | ring a =>
      cases hfx
      exact absurd h2 (by decide)
    | odds  =>
      cases hfx
      exact absurd h2 (by decide)
    | without a =>
      cases hfx
      exact absurd h2 (by decide)
    | place a b =>
      cases hfx
      exact absurd h2 (by decide)
    | friends a =>
      cases hfx
      exact absurd h2 (by decide)
    | with_ a =>
      cases hfx
      exact absurd h2 (by decide)
    | single  =>
      cases hfx
      exact absurd h2 (by decide)
    | glad  =>
      cases hfx
      exact absurd h2 (by decide)
    | fairest  =>
      cases hfx
      exact absurd h2 (by decide)
    | look a =>
      cases hfx
      exact absurd h2 (by decide)
    | back  =>
      cases hfx
      exact absurd h2 (by decide)
    | again  =>
      cases hfx
      exact absurd h2 (by decide)
    | state  =>
      cases hfx
      exact absurd h2 (by decide)
include T in
theorem zW9 : FnOk P w K mg base CX0 16 A.f_answer_ringing A.d_answer_ringing ["students", "call", "given"] (a6 A.C_Students 16 19) := by
  refine T.F_answer_ringing.ok zN1 (fun vs H Q E h => ?_) (fun cdv Ar outer s H vs Q E hr h => ?_)
  · obtain ⟨p, q, u, w, num, args, d, x, rfl, _⟩ := h
    rfl
  · obtain ⟨p, q, u, w, num, args, d, x, rfl, hfx, h1, h2, hrow, hw, nwq, nwu, st, g, tb, k⟩ := h
    refine ⟨_, (j0 (B0 (J0 U0 (pv 1) pe_int (F0 _)) (g0 (n0 (o0 (zU5 T) (hr.mono (by decide)) rfl T.m_ho_rings T.F_ho_rings.kp T.b_ho_rings .nil pass0 (pa_cons (pv 0) c0)))) C0)
      (j0 (B0 (J0 U0 (pv 1) pe_int (F0 _)) (g0 (n0 (o0 (zU6 T) (hr.mono (by decide)) rfl T.m_ho_ring T.F_ho_ring.kp T.b_ho_ring .nil pass0 (pa_cons (pv 0) (pa_cons (pe_ix ix_list (pv 2) pe_int (fun _ _ => rfl)) c0))))) C0)
      (j0 (B0 (J0 U0 (pv 1) pe_int (F0 _)) (g0 (n0 (o0 (zV0 T) (hr.mono (by decide)) rfl T.m_ho_odds T.F_ho_odds.kp T.b_ho_odds .nil pass0 (pa_cons (pv 0) c0)))) C0)
      (g0 (n0 (o0 (zT8 T) (hr.mono (by decide)) rfl T.m_ho_without T.F_ho_without.kp T.b_ho_without .nil pass0 (pa_cons (pv 0) (pa_cons (pe_ix ix_list (pv 2) pe_int (fun _ _ => rfl)) c0)))))))), ?_⟩
    cases x with
    | start a =>
      cases hfx
      exact absurd h1 (by decide)
    | wish a n l =>
      cases hfx
      exact absurd h1 (by decide)
    | swap a b c =>
      cases hfx
      exact absurd h1 (by decide)
    | pair a b =>
      cases hfx
      exact absurd h1 (by decide)
    | part a =>
      cases hfx
      exact absurd h1 (by decide)
    | break_ a b =>
      cases hfx
      exact absurd h1 (by decide)
    | all_  =>
      cases hfx
      exact absurd h1 (by decide)
    | holds  =>
      cases hfx
      exact absurd h1 (by decide)
    | breakers  =>
      cases hfx
      exact absurd h1 (by decide)
    | would a b =>
      cases hfx
      exact absurd h1 (by decide)
    | good  =>
      cases hfx
      exact absurd h1 (by decide)
    | nth a =>
      cases hfx
      exact absurd h1 (by decide)
    | bestOf a =>
      cases hfx
      exact absurd h1 (by decide)
    | worstOf a =>
      cases hfx
      exact absurd h1 (by decide)
    | alone  =>
      cases hfx
      exact absurd h1 (by decide)
    | ever a b =>
      cases hfx
      exact absurd h1 (by decide)
    | rings  =>
      cases hfx
      exact ⟨_, rfl, rfl, _, rfl, P1 rfl ⟨_, rfl, p, q, u, d, rfl, st, g, k⟩⟩
    | ring a =>
      cases hfx
      exact ⟨_, rfl, rfl, _, rfl, z0 (by decide) ⟨_, rfl, rfl, _, rfl, P1 rfl ⟨_, rfl, _, rfl, w, _, _, _, rfl, rfl, SqL.of hw, K1 (j := 0) rfl rfl, p, q, u, a, d, rfl, st, g, k⟩⟩⟩
    | odds  =>
      cases hfx
      exact ⟨_, rfl, rfl, _, rfl, z0 (by decide) ⟨_, rfl, rfl, _, rfl, z0 (by decide) ⟨_, rfl, rfl, _, rfl, P1 rfl ⟨_, rfl, p, q, u, d, rfl, st, g, k⟩⟩⟩⟩
    | without a =>
      cases hfx
      exact ⟨_, rfl, rfl, _, rfl, z0 (by decide) ⟨_, rfl, rfl, _, rfl, z0 (by decide) ⟨_, rfl, rfl, _, rfl, z0 (by decide) ⟨_, rfl, _, rfl, w, _, _, _, rfl, rfl, SqL.of hw, K1 (j := 0) rfl rfl, p, q, u, a, d, rfl, st, g, k⟩⟩⟩⟩
    | place a b =>
      cases hfx
      exact absurd h2 (by decide)
    | friends a =>
      cases hfx
      exact absurd h2 (by decide)
    | with_ a =>
      cases hfx
      exact absurd h2 (by decide)
    | single  =>
      cases hfx
      exact absurd h2 (by decide)
    | glad  =>
      cases hfx
      exact absurd h2 (by decide)
    | fairest  =>
      cases hfx
      exact absurd h2 (by decide)
    | look a =>
      cases hfx
      exact absurd h2 (by decide)
    | back  =>
      cases hfx
      exact absurd h2 (by decide)
    | again  =>
      cases hfx
      exact absurd h2 (by decide)
    | state  =>
      cases hfx
      exact absurd h2 (by decide)
include T in
theorem zX0 : FnOk P w K mg base CX0 7 A.f_answer_looking A.d_answer_looking ["students", "call", "given"] (a6 A.C_Students 20 26) := by
  refine T.F_answer_looking.ok zN2 (fun vs H Q E h => ?_) (fun cdv Ar outer s H vs Q E hr h => ?_)
  · obtain ⟨p, q, u, w, num, args, d, x, rfl, _⟩ := h
    rfl
  · obtain ⟨p, q, u, w, num, args, d, x, rfl, hfx, h1, h2, hrow, hw, nwq, nwu, st, g, tb, k⟩ := h
    refine ⟨_, (j0 (B0 (J0 U0 (pv 1) pe_int (F0 _)) (g0 (n0 (o0 (zU7 T) (hr.mono (by decide)) rfl T.m_ho_place T.F_ho_place.kp T.b_ho_place .nil pass0 (pa_cons (pv 0) (pa_cons (pe_ix ix_list (pv 2) pe_int (fun _ _ => rfl)) (pa_cons (pe_ix ix_list (pv 2) pe_int (fun _ _ => rfl)) c0)))))) C0)
      (j0 (B0 (J0 U0 (pv 1) pe_int (F0 _)) (g0 (n0 (o0 (zV6 T) (hr.mono (by decide)) rfl T.m_ho_friends T.F_ho_friends.kp T.b_ho_friends .nil pass0 (pa_cons (pv 0) (pa_cons (pe_ix ix_list (pv 2) pe_int (fun _ _ => rfl)) c0))))) C0)
      (j0 (B0 (J0 U0 (pv 1) pe_int (F0 _)) (g0 (n0 (o0 (zT9 T) (hr.mono (by decide)) rfl T.m_ho_with T.F_ho_with.kp T.b_ho_with .nil pass0 (pa_cons (pv 0) (pa_cons (pe_ix ix_list (pv 2) pe_int (fun _ _ => rfl)) c0))))) C0)
      (j0 (B0 (J0 U0 (pv 1) pe_int (F0 _)) (g0 (n0 (o0 (zU4 T) (hr.mono (by decide)) rfl T.m_ho_single T.F_ho_single.kp T.b_ho_single .nil pass0 (pa_cons (pv 0) c0)))) C0)
      (j0 (B0 (J0 U0 (pv 1) pe_int (F0 _)) (g0 (n0 (o0 (zV5 T) (hr.mono (by decide)) rfl T.m_ho_glad T.F_ho_glad.kp T.b_ho_glad .nil pass0 (pa_cons (pv 0) c0)))) C0)
      (j0 (B0 (J0 U0 (pv 1) pe_int (F0 _)) (g0 (n0 (o0 (zV7 T) (hr.mono (by decide)) rfl T.m_ho_fairest T.F_ho_fairest.kp T.b_ho_fairest .nil pass0 (pa_cons (pv 0) c0)))) C0)
      (g0 (n0 (o0 (zV2 T) (hr.mono (by decide)) rfl T.m_ho_look T.F_ho_look.kp T.b_ho_look .nil pass0 (pa_cons (pv 0) (pa_cons (pe_ix ix_list (pv 2) pe_int (fun _ _ => rfl)) c0))))))))))), ?_⟩
    cases x with
    | start a =>
      cases hfx
      exact absurd h1 (by decide)
    | wish a n l =>
      cases hfx
      exact absurd h1 (by decide)
    | swap a b c =>
      cases hfx
      exact absurd h1 (by decide)
    | pair a b =>
      cases hfx
      exact absurd h1 (by decide)
    | part a =>
      cases hfx
      exact absurd h1 (by decide)
    | break_ a b =>
      cases hfx
      exact absurd h1 (by decide)
    | all_  =>
      cases hfx
      exact absurd h1 (by decide)
    | holds  =>
      cases hfx
      exact absurd h1 (by decide)
    | breakers  =>
      cases hfx
      exact absurd h1 (by decide)
    | would a b =>
      cases hfx
      exact absurd h1 (by decide)
    | good  =>
      cases hfx
      exact absurd h1 (by decide)
    | nth a =>
      cases hfx
      exact absurd h1 (by decide)
    | bestOf a =>
      cases hfx
      exact absurd h1 (by decide)
    | worstOf a =>
      cases hfx
      exact absurd h1 (by decide)
    | alone  =>
      cases hfx
      exact absurd h1 (by decide)
    | ever a b =>
      cases hfx
      exact absurd h1 (by decide)
    | rings  =>
      cases hfx
      exact absurd h1 (by decide)
    | ring a =>
      cases hfx
      exact absurd h1 (by decide)
    | odds  =>
      cases hfx
      exact absurd h1 (by decide)
    | without a =>
      cases hfx
      exact absurd h1 (by decide)
    | place a b =>
      cases hfx
      exact ⟨_, rfl, rfl, _, rfl, P1 rfl ⟨_, rfl, _, rfl, w, _, _, _, rfl, rfl, SqL.of hw, K1 (j := 0) rfl rfl, _, rfl, w, _, _, _, rfl, rfl, SqL.of hw, K1 (j := 1) rfl rfl, p, q, u, a, b, d, rfl, st, g, k⟩⟩
    | friends a =>
      cases hfx
      exact ⟨_, rfl, rfl, _, rfl, z0 (by decide) ⟨_, rfl, rfl, _, rfl, P1 rfl ⟨_, rfl, _, rfl, w, _, _, _, rfl, rfl, SqL.of hw, K1 (j := 0) rfl rfl, p, q, u, a, d, rfl, st, g, k⟩⟩⟩
    | with_ a =>
      cases hfx
      exact ⟨_, rfl, rfl, _, rfl, z0 (by decide) ⟨_, rfl, rfl, _, rfl, z0 (by decide) ⟨_, rfl, rfl, _, rfl, P1 rfl ⟨_, rfl, _, rfl, w, _, _, _, rfl, rfl, SqL.of hw, K1 (j := 0) rfl rfl, p, q, u, a, d, rfl, st, g, k⟩⟩⟩⟩
    | single  =>
      cases hfx
      exact ⟨_, rfl, rfl, _, rfl, z0 (by decide) ⟨_, rfl, rfl, _, rfl, z0 (by decide) ⟨_, rfl, rfl, _, rfl, z0 (by decide) ⟨_, rfl, rfl, _, rfl, P1 rfl ⟨_, rfl, p, q, u, d, rfl, st, g, k⟩⟩⟩⟩⟩
    | glad  =>
      cases hfx
      exact ⟨_, rfl, rfl, _, rfl, z0 (by decide) ⟨_, rfl, rfl, _, rfl, z0 (by decide) ⟨_, rfl, rfl, _, rfl, z0 (by decide) ⟨_, rfl, rfl, _, rfl, z0 (by decide) ⟨_, rfl, rfl, _, rfl, P1 rfl ⟨_, rfl, p, q, u, d, rfl, st, g, k⟩⟩⟩⟩⟩⟩
    | fairest  =>
      cases hfx
      exact ⟨_, rfl, rfl, _, rfl, z0 (by decide) ⟨_, rfl, rfl, _, rfl, z0 (by decide) ⟨_, rfl, rfl, _, rfl, z0 (by decide) ⟨_, rfl, rfl, _, rfl, z0 (by decide) ⟨_, rfl, rfl, _, rfl, z0 (by decide) ⟨_, rfl, rfl, _, rfl, P1 rfl ⟨_, rfl, p, q, u, d, rfl, st, g, tb, k⟩⟩⟩⟩⟩⟩⟩
    | look a =>
      cases hfx
      exact ⟨_, rfl, rfl, _, rfl, z0 (by decide) ⟨_, rfl, rfl, _, rfl, z0 (by decide) ⟨_, rfl, rfl, _, rfl, z0 (by decide) ⟨_, rfl, rfl, _, rfl, z0 (by decide) ⟨_, rfl, rfl, _, rfl, z0 (by decide) ⟨_, rfl, rfl, _, rfl, z0 (by decide) ⟨_, rfl, _, rfl, w, _, _, _, rfl, rfl, SqL.of hw, K1 (j := 0) rfl rfl, p, q, u, a, d, rfl, st, g, k⟩⟩⟩⟩⟩⟩⟩
    | back  =>
      cases hfx
      exact absurd h2 (by decide)
    | again  =>
      cases hfx
      exact absurd h2 (by decide)
    | state  =>
      cases hfx
      exact absurd h2 (by decide)
include T in
theorem zX2 : FnOk P w K mg base CX0 4 A.f_answer_going_back A.d_answer_going_back ["students", "call"] (zD9 A.C_Students 27 29) := by
  refine T.F_answer_going_back.ok zN4 (fun vs H Q E h => ?_) (fun cdv Ar outer s H vs Q E hr h => ?_)
  · obtain ⟨p, q, u, w, num, args, d, x, rfl, _⟩ := h
    rfl
  · obtain ⟨p, q, u, w, num, args, d, x, rfl, hfx, h1, h2, hrow, hw, nwq, nwu, st, g, tb, k⟩ := h
    refine ⟨_, (j0 (B0 (J0 U0 (pv 1) pe_int (F0 _)) (g0 (n0 (o0 (zW2 T) (hr.mono (by decide)) rfl T.m_ho_back T.F_ho_back.kp T.b_ho_back .nil pass0 (pa_cons (pv 0) c0)))) C0)
      (j0 (B0 (J0 U0 (pv 1) pe_int (F0 _)) (g0 (n0 (o0 (zW5 T) (hr.mono (by decide)) rfl T.m_ho_again T.F_ho_again.kp T.b_ho_again .nil pass0 (pa_cons (pv 0) c0)))) C0)
      (g0 (n0 (o0 (zU2 T) (hr.mono (by decide)) rfl T.m_ho_state T.F_ho_state.kp T.b_ho_state .nil pass0 (pa_cons (pv 0) c0)))))), ?_⟩
    cases x with
    | start a =>
      cases hfx
      exact absurd h1 (by decide)
    | wish a n l =>
      cases hfx
      exact absurd h1 (by decide)
    | swap a b c =>
      cases hfx
      exact absurd h1 (by decide)
    | pair a b =>
      cases hfx
      exact absurd h1 (by decide)
    | part a =>
      cases hfx
      exact absurd h1 (by decide)
    | break_ a b =>
      cases hfx
      exact absurd h1 (by decide)
    | all_  =>
      cases hfx
      exact absurd h1 (by decide)
    | holds  =>
      cases hfx
      exact absurd h1 (by decide)
    | breakers  =>
      cases hfx
      exact absurd h1 (by decide)
    | would a b =>
      cases hfx
      exact absurd h1 (by decide)
    | good  =>
      cases hfx
      exact absurd h1 (by decide)
    | nth a =>
      cases hfx
      exact absurd h1 (by decide)
    | bestOf a =>
      cases hfx
      exact absurd h1 (by decide)
    | worstOf a =>
      cases hfx
      exact absurd h1 (by decide)
    | alone  =>
      cases hfx
      exact absurd h1 (by decide)
    | ever a b =>
      cases hfx
      exact absurd h1 (by decide)
    | rings  =>
      cases hfx
      exact absurd h1 (by decide)
    | ring a =>
      cases hfx
      exact absurd h1 (by decide)
    | odds  =>
      cases hfx
      exact absurd h1 (by decide)
    | without a =>
      cases hfx
      exact absurd h1 (by decide)
    | place a b =>
      cases hfx
      exact absurd h1 (by decide)
    | friends a =>
      cases hfx
      exact absurd h1 (by decide)
    | with_ a =>
      cases hfx
      exact absurd h1 (by decide)
    | single  =>
      cases hfx
      exact absurd h1 (by decide)
    | glad  =>
      cases hfx
      exact absurd h1 (by decide)
    | fairest  =>
      cases hfx
      exact absurd h1 (by decide)
    | look a =>
      cases hfx
      exact absurd h1 (by decide)
    | back  =>
      cases hfx
      exact ⟨_, rfl, rfl, _, rfl, P1 rfl ⟨_, rfl, p, q, u, d, rfl, st, g, k⟩⟩
    | again  =>
      cases hfx
      exact ⟨_, rfl, rfl, _, rfl, z0 (by decide) ⟨_, rfl, rfl, _, rfl, P1 rfl ⟨_, rfl, p, q, u, d, rfl, st, g, k⟩⟩⟩
    | state  =>
      cases hfx
      exact ⟨_, rfl, rfl, _, rfl, z0 (by decide) ⟨_, rfl, rfl, _, rfl, z0 (by decide) ⟨_, rfl, p, q, u, d, rfl, st, g, k⟩⟩⟩
def zF1 (C : Addr) : Sp := a6 C 0 29
include T in
theorem zX4 : FnOk P w K mg base CX0 17 A.f_answer A.d_answer ["students", "call", "given"] (zF1 A.C_Students) := by
  refine T.F_answer.ok zN6 (fun vs H Q E h => ?_) (fun cdv Ar outer s H vs Q E hr h => ?_)
  · obtain ⟨p, q, u, w, num, args, d, x, rfl, _⟩ := h
    rfl
  · obtain ⟨p, q, u, w, num, args, d, x, rfl, hfx, h1, h2, hrow, hw, nwq, nwu, st, g, tb, k⟩ := h
    refine ⟨_, (j0 (B0 (J0 o6 (pv 1) (V0 rfl T.c_LAST_CHANGING) (F0 _)) (g0 (n0 (o0 (zX3 T) (hr.mono (by decide)) rfl T.m_answer_changing T.F_answer_changing.kp T.b_answer_changing .nil pass0 (pa_cons (pv 0) (pa_cons (pv 1) (pa_cons (pv 2) c0)))))) C0)
      (j0 (B0 (J0 o6 (pv 1) (V0 rfl T.c_LAST_HOLDING) (F0 _)) (g0 (n0 (o0 (zX1 T) (hr.mono (by decide)) rfl T.m_answer_holding T.F_answer_holding.kp T.b_answer_holding .nil pass0 (pa_cons (pv 0) (pa_cons (pv 1) (pa_cons (pv 2) c0)))))) C0)
      (j0 (B0 (J0 o6 (pv 1) (V0 rfl T.c_LAST_RINGING) (F0 _)) (g0 (n0 (o0 (zW9 T) (hr.mono (by decide)) rfl T.m_answer_ringing T.F_answer_ringing.kp T.b_answer_ringing .nil pass0 (pa_cons (pv 0) (pa_cons (pv 1) (pa_cons (pv 2) c0)))))) C0)
      (j0 (B0 (J0 o6 (pv 1) (V0 rfl T.c_LAST_LOOKING) (F0 _)) (g0 (n0 (o0 (zX0 T) (hr.mono (by decide)) rfl T.m_answer_looking T.F_answer_looking.kp T.b_answer_looking .nil pass0 (pa_cons (pv 0) (pa_cons (pv 1) (pa_cons (pv 2) c0)))))) C0)
      (g0 (n0 (o0 (zX2 T) (hr.mono (by decide)) rfl T.m_answer_going_back T.F_answer_going_back.kp T.b_answer_going_back .nil pass0 (pa_cons (pv 0) (pa_cons (pv 1) c0))))))))), ?_⟩
    refine ⟨_, rfl, _, _, rfl, rfl, _, rfl, A0 (fun c => ?_) (fun c => ?_)⟩
    · exact ⟨_, rfl, _, rfl, _, rfl, p, q, u, w, num, args, d, x, rfl, hfx, h1, of_decide_eq_true c, hrow, hw, nwq, nwu, st, g, tb, k⟩
    have c1 : ¬ num ≤ 6 := fun z => c (decide_eq_true z)
    refine ⟨_, rfl, _, _, rfl, rfl, _, rfl, A0 (fun c => ?_) (fun c => ?_)⟩
    · exact ⟨_, rfl, _, rfl, _, rfl, p, q, u, w, num, args, d, x, rfl, hfx, by omega, of_decide_eq_true c, hrow, hw, nwq, nwu, st, g, tb, k⟩
    have c2 : ¬ num ≤ 15 := fun z => c (decide_eq_true z)
    refine ⟨_, rfl, _, _, rfl, rfl, _, rfl, A0 (fun c => ?_) (fun c => ?_)⟩
    · exact ⟨_, rfl, _, rfl, _, rfl, p, q, u, w, num, args, d, x, rfl, hfx, by omega, of_decide_eq_true c, hrow, hw, nwq, nwu, st, g, tb, k⟩
    have c3 : ¬ num ≤ 19 := fun z => c (decide_eq_true z)
    refine ⟨_, rfl, _, _, rfl, rfl, _, rfl, A0 (fun c => ?_) (fun c => ?_)⟩
    · exact ⟨_, rfl, _, rfl, _, rfl, p, q, u, w, num, args, d, x, rfl, hfx, by omega, of_decide_eq_true c, hrow, hw, nwq, nwu, st, g, tb, k⟩
    have c4 : ¬ num ≤ 26 := fun z => c (decide_eq_true z)
    exact ⟨_, rfl, _, rfl, p, q, u, w, num, args, d, x, rfl, hfx, by omega, h2, hrow, hw, nwq, nwu, st, g, tb, k⟩
theorem zp5 (x : Km464.Call) {num : Int} {args : List Int} (h : C1 x = num :: args) : 0 ≤ num ∧ num ≤ 29 := by
  cases x <;> (cases h; decide)
theorem zp6 (x : Km464.Call) : ∃ num args, C1 x = num :: args := by cases x <;> exact ⟨_, _, rfl⟩
theorem qg5 (pre mid post : List Int) : U1 ((pre ++ (mid ++ post)).map V.int) (some ((pre.length : Nat) : Int)) (some (((pre.length + mid.length : Nat)) : Int)) = mid.map V.int := by
  unfold U1
  rw [HT.sIx_nat, HT.sIx_nat, List.length_map]
  have h1 : min pre.length (pre ++ (mid ++ post)).length = pre.length := Nat.min_eq_left (by simp)
  have h2 : min (pre.length + mid.length) (pre ++ (mid ++ post)).length = pre.length + mid.length := Nat.min_eq_left (by simp)
  rw [h1, h2, Nat.add_sub_cancel_left, ← List.map_drop, List.drop_left, ← List.map_take, List.take_left]
theorem r9 (d : Desk) (x : Km464.Call) (cs : List Km464.Call) : B3 d (x :: cs) = ((Km464Neutral.told (act d x).2).length : Int) :: Km464Neutral.told (act d x).2 ++ B3 (act d x).1 cs := rfl
theorem zq9 (d : Desk) (xs : List Km464.Call) (x : Km464.Call) : z3 d (xs ++ [x]) = (act (z3 d xs) x).1 := by unfold z3; rw [List.foldl_append]; rfl
theorem zr0 {d : Desk} (g : GoodD d) : ∀ cs : List Km464.Call, GoodD (z3 d cs)
  | [] => g
  | x :: cs => zr0 (d := (act d x).1) (qj7 g x) cs
theorem qf4 (xs : List Km464.Call) (x : Km464.Call) : ((xs ++ [x]).map C1).flatten = (xs.map C1).flatten ++ C1 x := by simp
theorem WS.frame {H H3 H4 : Hp} {p q u : Addr} (a : WS H H3) (b : WF H3 H4 p q u) (hp : H p = Option.none) (hq : H q = Option.none) (hu : H u = Option.none) : WS H H4 := fun c o e => by
  have n1 := S0 e hp
  have n2 := S0 e hq
  have n3 := S0 e hu
  rcases a c o e with z | ⟨ps, ps', h1, h2⟩
  · exact b c o z n1 n2 n3
  · rcases b c _ h2 n1 n2 n3 with z | ⟨_, ps2, _, z⟩
    · exact .inr ⟨ps, ps', h1, z⟩
    · exact .inr ⟨ps, ps2, h1, z⟩
theorem WS.upd {H H' : Hp} {a : Addr} (s : WS H H') (o : HO) (h : H a = Option.none) : WS H (L2.upd H' a o) := fun b u e => by rw [r0 (S0 e h)]; exact s b u e
include T in
theorem qk8 : FnOk P w K mg base CX0 18 A.f_answers A.d_answers ["calls"] (zF2 K) := by
  refine T.F_answers.ok zN0 (fun vs H Q E h => ?_) (fun cdv Ar outer s H vs Q E hr h => ?_)
  · obtain ⟨a, ns, rfl, _⟩ := h
    rfl
  · obtain ⟨a, ns, rfl, hS, hP0, hP1, hask, k⟩ := h
    obtain ⟨cs, hns, hrow, hfew, hans, hshort⟩ := m7 hask
    refine ⟨_, (j0 (T0 (i := 1) zN0.nd rfl (.inl rfl) (zS0 T.mk_Students (zX7 T) (hr.mono (by decide)) rfl T.m_Students T.b_Students_init .nil pass0))
      (j0 (T0 (i := 2) zN0.nd rfl (.inl rfl) (G0 c0))
      (j0 (T0 (i := 3) zN0.nd rfl (.inl rfl) pe_int)
      (j0 (zh8 PassesOwn.never (J0 W6 (pv 3) (N0 O0 (by rfl) T.len PySem.boot_len (pa_cons (pv 0) c0)) (F0 _)) (j0 (T0 (i := 4) zN0.nd rfl (.inl rfl) (o0 (zW7 T) (hr.mono (by decide)) rfl T.m_call_end T.F_call_end.kp T.b_call_end .nil pass0 (pa_cons (pv 0) (pa_cons (pv 3) c0))))
      (j0 (T0 (i := 5) zN0.nd rfl (.inl rfl) (o0 (zX4 T) (hr.mono (by decide)) rfl T.m_answer T.F_answer.kp T.b_answer .nil pass0 (pa_cons (pv 1) (pa_cons (pe_ix ix_list (pv 0) (pv 3) (fun _ _ => rfl)) (pa_cons (Y4 C5 (pv 0) (G4 (B1 D3 (pv 3) pe_int)) (G4 (pv 4))) c0)))))
      (j0 (Q1 (p3 PySem.F.plainAttrs_list PySem.F.slot_list_append PySem.F.type_list_append P3 (pv 2) (pa_cons (N0 O0 (by rfl) T.len PySem.boot_len (pa_cons (pv 5) c0)) c0)))
      (j0 (Q1 (p3 PySem.F.plainAttrs_list PySem.F.slot_list_extend PySem.F.type_list_extend zZ6 (pv 2) (pa_cons (pv 5) c0)))
      (g0 (T0 (i := 3) zN0.nd rfl (.inl rfl) (pv 4))))))))
      (g0 (n0 (pv 2))))))), ?_⟩
    intro p dx np ndx ne
    refine ⟨p, dx, rfl, i0, fun H1 q0 u0 st0 b0 f1 f2 => ⟨rfl, ?_⟩⟩
    have s1 : x0 H H1 := x0.made np ndx b0
    have fresh0 : ∀ {b : Addr}, upd (upd H dx (.own p)) p (.ins A.C_Students dx []) b = Option.none → H b = Option.none := fun {b} hb => by
      by_cases e1 : b = p
      · subst e1; rw [i0] at hb; cases hb
      · rw [r0 e1] at hb
        by_cases e2 : b = dx
        · subst e2; rw [i0] at hb; cases hb
        · rw [r0 e2] at hb; exact hb
    refine ⟨Nat.zero_le _, fun t ht => ?_⟩
    have s2 := p0 (.lst []) ht
    obtain ⟨_, hq0, _⟩ := st0.past
    obtain ⟨_, hu0, _⟩ := st0.und
    refine ⟨fun m σ H' => ∃ (done rest : List Km464.Call) (q u : Addr) (ve vn : Option V) (told : List Int), cs = done ++ rest ∧ m = rest.length ∧ σ = [some (.ref a), some (.ref p), some (.ref t), some (nV ((done.map C1).flatten.length)), ve, vn] ∧ WS H H' ∧ U2 H' ∧ H p = Option.none ∧ H q = Option.none ∧ H u = Option.none ∧ H t = Option.none ∧
        StAt A.C_Students H' p q u (z3 (fresh 0) done) ∧ H' t = some (.lst (told.map V.int)) ∧ told ++ B3 (z3 (fresh 0) done) rest = B3 (fresh 0) cs ∧ t ≠ q ∧ t ≠ u,
      ⟨cs.length, [], cs, q0, u0, none, none, [], rfl, rfl, rfl, .of (s1.trans s2), ⟨⟨#[], (s1.trans s2) _ _ hP0, trivial, .inl rfl⟩, #[], (s1.trans s2) _ _ hP1, trivial, .inl rfl⟩, np, fresh0 f1, fresh0 f2, s1.free ht, st0.same s2, i0, rfl, (S0 hq0 ht).symm, (S0 hu0 ht).symm⟩, ?_⟩
    rintro m σ H2 ⟨done, rest, q, u, ve, vn, told, hcs, rfl, rfl, sH, tb, fp, fq, fu, ft, st, htd, htl, ntq, ntu⟩
    have hS2 := sH.seq hS
    have hlenA : ns.length = (done.map C1).flatten.length + ((rest.map C1).flatten).length := by rw [hns, hcs, List.map_append, List.flatten_append, List.length_append]
    refine ⟨_, rfl, _, rfl, _, _, rfl, .inl hS2, R6 ⟨_, rfl, A0 (fun c => ?_) (fun c => ?_)⟩⟩
    · cases rest with
      | nil =>
        have z := of_decide_eq_true c
        rw [List.length_map, hlenA] at z
        simp at z
      | cons x rest =>
        have hx : B4 x := hrow x (by rw [hcs]; simp)
        obtain ⟨num, args, hfx⟩ := zp6 x
        have hns2 : ns = (done.map C1).flatten ++ (C1 x ++ (rest.map C1).flatten) := by rw [hns, hcs]; simp
        have hns3 : ns = ((done.map C1).flatten ++ [num]) ++ (args ++ (rest.map C1).flatten) := by rw [hns2, hfx]; simp
        generalize hpre : (done.map C1).flatten = pre at *
        refine ⟨fun σ' H' => ∃ (q u : Addr) (ve vn : Option V), σ' = [some (.ref a), some (.ref p), some (.ref t), some (nV (((done ++ [x]).map C1).flatten.length)), ve, vn] ∧ WS H H' ∧ U2 H' ∧ H q = Option.none ∧ H u = Option.none ∧ StAt A.C_Students H' p q u (z3 (fresh 0) (done ++ [x])) ∧ H' t = some (.lst ((told ++ (((Km464Neutral.told (act (z3 (fresh 0) done) x).2).length : Int) :: Km464Neutral.told (act (z3 (fresh 0) done) x).2)).map V.int)) ∧ t ≠ q ∧ t ≠ u, ?_, ?_⟩
        · rintro σ' H' ⟨q', u', ve', vn', rfl, s', tb', fq', fu', st', ht', n1, n2⟩
          refine ⟨rest.length, by simp, done ++ [x], rest, q', u', ve', vn', _, by rw [hcs]; simp, rfl, rfl, s', tb', fp, fq', fu', ft, st', ht', ?_, n1, n2⟩
          rw [← htl, zq9, r9, List.append_assoc]
        · have gd := zr0 qf0 done
          refine ⟨_, rfl, _, rfl, a, ns, pre, (rest.map C1).flatten, x, rfl, hS2, hns2, hx, ?_⟩
          have hat : atI (ns.map V.int) ((pre.length : Nat) : Int) = some (V.int num) := t4 (by rw [List.getElem?_map, hns2, List.getElem?_append_right (Nat.le_refl _), Nat.sub_self, hfx]; rfl)
          refine ⟨_, rfl, _, rfl, _, rfl, a, _, _, _, rfl, rfl, hS2, hat, _, rfl, _, rfl, _, _, rfl, rfl, _, rfl, _, rfl, _, rfl, a, _, rfl, hS2, fun w hw => ?_⟩
          have hcut : U1 (ns.map V.int) (some (((pre.length : Nat) : Int) + 1)) (some (((pre.length + (C1 x).length : Nat)) : Int)) = args.map V.int := by
            have e := qg5 (pre ++ [num]) args (rest.map C1).flatten
            rw [← hns3] at e
            rw [hfx]
            have e2 : ((((pre ++ [num]).length : Nat)) : Int) = ((pre.length : Nat) : Int) + 1 := by simp
            have e3 : (pre ++ [num]).length + args.length = pre.length + (num :: args).length := by simp; omega
            rw [e2, e3] at e
            exact e
          rw [hcut]
          have s3 := p0 (.lst (args.map V.int)) hw
          obtain ⟨_, hq1, _⟩ := st.past
          obtain ⟨_, hu1, _⟩ := st.und
          refine ⟨p, q, u, w, num, args, z3 (fresh 0) done, x, rfl, hfx, (zp5 x hfx).1, (zp5 x hfx).2, hx, i0, (S0 hq1 hw).symm, (S0 hu1 hw).symm, st.same s3, gd, tb.same s3, fun H4 r q' u' hr0 hrb st4 fr4 tk4 hq' hu' nrq nru => ?_⟩
          have sH3 := sH.same s3
          have tb4 := tk4 (tb.same s3)
          obtain ⟨dxp, lp, mp, hpp, _, _⟩ := st.ins
          have ntp : t ≠ p := ne_of htd hpp (by intro z; cases z)
          have ht4 : H4 t = some (.lst (told.map V.int)) := (fr4 t _ (s3 _ _ htd) ntp ntq ntu).plain (by intro ps z; cases z)
          have nrt : r ≠ t := hrb t _ (s3 _ _ htd) ntp ntq ntu
          have fq' : H q' = Option.none := hq'.elim (fun e => by rw [e]; exact fq) fun e => sH3.free e
          have fu' : H u' = Option.none := hu'.elim (fun e => by rw [e]; exact fu) fun e => sH3.free e
          have ntq' : t ≠ q' := hq'.elim (fun e => by rw [e]; exact ntq) fun e => S0 (s3 _ _ htd) e
          have ntu' : t ≠ u' := hu'.elim (fun e => by rw [e]; exact ntu) fun e => S0 (s3 _ _ htd) e
          have sH4 : WS H H4 := sH3.frame fr4 fp fq fu
          have hsz : (told ++ (((Km464Neutral.told (act (z3 (fresh 0) done) x).2).length : Int) :: Km464Neutral.told (act (z3 (fresh 0) done) x).2)).length ≤ 10000000 := by
            have e := congrArg List.length htl
            rw [r9] at e
            simp only [List.length_append, List.length_cons] at e hshort ⊢
            omega
          simp only [List.length_append, List.length_cons] at hsz
          refine ⟨_, rfl, .inl ⟨rfl, _, SqL.of ht4⟩, _, rfl, _, _, rfl, .inl (SqL.of hr0), t, _, _, rfl, rfl, ht4, by rw [List.length_map, sizeLine_eq]; omega, ?_⟩
          refine ⟨_, rfl, .inl ⟨rfl, _, SqL.of i0⟩, _, rfl, t, r, _, _, rfl, rfl, i0, by rw [r0 nrt]; exact hr0, by rw [List.length_append, List.length_map, List.length_map, sizeLine_eq]; simp only [List.length_cons, List.length_nil]; omega, ?_⟩
          rw [W4]
          refine ⟨_, rfl, q', u', some (nV (pre.length + (C1 x).length)), some (.ref r), ?_, sH4.upd _ ft, tb4.lst ht4 _, fq', fu', ?_, ?_, ntq', ntu'⟩
          · rw [qf4, hpre, List.length_append]
            rfl
          · rw [zq9]
            exact st4.other _ ht4 ntq' ntu'
          · rw [i0, List.map_append, List.map_cons, List.append_assoc, List.length_map]
            rfl
    · cases rest with
      | nil =>
        refine ⟨_, rfl, k H2 t ?_⟩
        have e : told = B3 (fresh 0) cs := by rw [← htl]; show told = told ++ []; rw [List.append_nil]
        rw [hans, ← e]
        exact htd
      | cons x rest =>
        refine absurd (decide_eq_true ?_) c
        rw [List.length_map, hlenA]
        obtain ⟨num, args, hfx⟩ := zp6 x
        simp [hfx]
end Pl
end
set_option Elab.async false
set_option linter.all false
set_option maxRecDepth 100000
set_option maxHeartbeats 4000000
namespace Pl
open PySem PySem.Spec PyProof.Rows L2 PM
theorem ql8 {K : PySem.W.Frag} {f : Addr} {fd : FuncData} (F : Fun K "answers" "answers" W7 f fd) : ∀ (s : Shared) (us : List Value), us.length = (["calls"] : List Str).length → BindsTo s fd ⟨us, []⟩ ((["calls"] : List Str).zip us) := by
  obtain ⟨oc, od, kV, doc, pm, an, cdv, ct, osl, rfl, lk, hcd⟩ := F.ex
  exact fun s us hu => match us, hu with | [_], _ => .of_eq rfl
end Pl
namespace Pl
open PySem PySem.Spec PyProof.Rows L2 PM
section
variable {K : PySem.W.Frag} {h : Heap} {mg : Str → Option Value} {Goal : Prop}
theorem ql5 (X : K.In h) (G : h.Ns mainGlobals mg) (x : Str) (st : Stmt) {f : Addr} {oc kV doc pm cdv ct : Value} {od an : Option Addr} {osl : Array (Option Value)} (a : PySem.W.nsIn K mainGlobals x = some (some (.ref f)))
    (l : K.lookup f = some ⟨oc, od, .func (PySem.W.fnOf x x (A3 st) (T2 st) (v0 st) .none kV doc pm an cdv ct), osl⟩) (c : PySem.W.codeIn K cdv x = true) (k : PySem.W.keepIn K (.ref f) = true)
    (next : ∀ fd : FuncData, Fun K x x st f fd → mg x = some (.ref f) → Goal) : Goal := next _ (zo9 l c k) (PySem.W.mg_of X G a)
theorem ql3 (X : K.In h) (G : h.Ns mainGlobals mg) (x : Str) (st : Stmt) {f c P : Addr} {oc kV doc pm ct : Value} {od an od2 : Option Addr} {osl osl2 : Array (Option Value)} {vs : Array Value} {file : Str} {tf tg tt : Tok} {flags text : Int} {inF : Bool} (a : PySem.W.nsIn K mainGlobals x = some (some (.ref f)))
    (l : K.lookup f = some ⟨oc, od, .func (PySem.W.fnOf x x (A3 st) (T2 st) (v0 st) .none kV doc pm an (.ref c) ct), osl⟩) (cc : PySem.W.codeIn K (.ref c) x = true) (k : PySem.W.keepIn K (.ref f) = true)
    (lc : K.lookup c = some ⟨.type "code", od2, .fields vs, osl2⟩) (v : vs[11]? = some (.ref P) ∧ vs.getD 11 .none = .ref P ∧ vs.getD 18 .none = .str file tf ∧ vs.getD 7 .none = .int flags tg ∧ vs.getD 9 .none = .bool inF ∧ vs.getD 10 .none = .int text tt) (nc : c ≠ P)
    (next : ∀ fd : FuncData, FunC K x x st f c fd → mg x = some (.ref f) → (∀ h : Heap, K.In h → PySem.W.CodeHd h c P) → Goal) : Goal :=
  next _ ⟨⟨oc, od, kV, doc, pm, an, ct, osl, rfl, l, cc⟩, k⟩ (PySem.W.mg_of X G a)
    (fun h' Y => ⟨_, vs, file, tf, flags, tg, inF, text, tt, Y _ _ lc, rfl, rfl, v.1, v.2.1, v.2.2.1, v.2.2.2.1, v.2.2.2.2.1, v.2.2.2.2.2, nc⟩)
theorem ql0 {C : Addr} (_ : Cls K C) (x qual : Str) (st : Stmt) {f : Addr} {oc kV doc pm cdv ct : Value} {od an : Option Addr} {osl : Array (Option Value)} (a : PySem.W.findIn K (.ref C) x = some (some (.ref f))) (i : PySem.W.isFn K (.ref f) = true)
    (l : K.lookup f = some ⟨oc, od, .func (PySem.W.fnOf x qual (A3 st) (T2 st) (v0 st) .none kV doc pm an cdv ct), osl⟩) (c : PySem.W.codeIn K cdv qual = true) (k : PySem.W.keepIn K (.ref f) = true)
    (next : ∀ fd : FuncData, Fun K x qual st f fd → Meth K C x f → Goal) : Goal := next _ (zo9 l c k) ⟨a, i, k⟩
theorem ql6 (X : K.In h) (G : h.Ns mainGlobals mg) (x : Str) {C : Addr} (a : PySem.W.nsIn K mainGlobals x = some (some (.ref C))) (pg : PySem.W.plainGet K C Str.empty = true) (hd : PySem.W.hasDictIn K C = true) (po : PySem.W.plainOver K C = true)
    (sa : PySem.W.findIn K (.ref C) "__setattr__" = some (some (.builtin "object.__setattr__"))) (mk : PySem.W.makesIn K C = true) (kc : PySem.W.keepIn K (.ref C) = true)
    (next : Cls K C → mg x = some (.ref C) → (∀ f, Meth K C "__init__" f → Mk K C f) → Goal) : Goal := next ⟨pg, hd, po, sa⟩ (PySem.W.mg_of X G a) fun _ m => ⟨mk, m.at_, m.fn, kc⟩
section
variable {x qual p q r t : Str} {st : Stmt} {f : Addr} {fd : FuncData} (F : Fun K x qual st f fd)
include F
theorem bn1 (h : ∀ kV doc pm an cdv ct u, bindArgs (PySem.W.fnOf x qual (A3 st) (T2 st) (v0 st) .none kV doc pm an cdv ct) ⟨[u], []⟩ = pure [(p, u)]) : y0 K fd [p] [] := F.binds fun k d m a c e us hl => match us, hl with | [u], _ => h k d m a c e u
theorem bn2 (h : ∀ kV doc pm an cdv ct u v, bindArgs (PySem.W.fnOf x qual (A3 st) (T2 st) (v0 st) .none kV doc pm an cdv ct) ⟨[u, v], []⟩ = pure [(p, u), (q, v)]) : y0 K fd [p, q] [] := F.binds fun k d m a c e us hl => match us, hl with | [u, v], _ => h k d m a c e u v
theorem bn3 (h : ∀ kV doc pm an cdv ct u v w, bindArgs (PySem.W.fnOf x qual (A3 st) (T2 st) (v0 st) .none kV doc pm an cdv ct) ⟨[u, v, w], []⟩ = pure [(p, u), (q, v), (r, w)]) : y0 K fd [p, q, r] [] := F.binds fun k d m a c e us hl => match us, hl with | [u, v, w], _ => h k d m a c e u v w
theorem bn4 (h : ∀ kV doc pm an cdv ct u v w z, bindArgs (PySem.W.fnOf x qual (A3 st) (T2 st) (v0 st) .none kV doc pm an cdv ct) ⟨[u, v, w, z], []⟩ = pure [(p, u), (q, v), (r, w), (t, z)]) : y0 K fd [p, q, r, t] [] := F.binds fun k d m a c e us hl => match us, hl with | [u, v, w, z], _ => h k d m a c e u v w z
end
theorem qk9 {C : Addr} (_ : Cls K C) (x : Str) (a : PySem.W.findIn K (.ref C) x = some none) (next : X3 K C x → Goal) : Goal := next a
theorem ql7 (X : K.In h) (G : h.Ns mainGlobals mg) (x : Str) (a : PySem.W.nsIn K mainGlobals x = some none) (next : mg x = none → Goal) : Goal := next (PySem.W.mg_none_of X G a)
theorem ql4 (X : K.In h) (G : h.Ns mainGlobals mg) (x : Str) (i : Int) {t : Tok} (a : PySem.W.nsIn K mainGlobals x = some (some (.int i t))) (next : (∃ t, mg x = some (.int i t)) → Goal) : Goal := next ⟨t, PySem.W.mg_of X G a⟩
theorem qk5 (X : K.In h) (G : h.Ns mainGlobals mg) (x : Str) (xs : List V) {f : Addr} {od : Option Addr} {its : Array Value} {n : Nat} {osl : Array (Option Value)} (a : PySem.W.nsIn K mainGlobals x = some (some (.ref f))) (l : K.lookup f = some ⟨.type "tuple", od, .seq its n, osl⟩) (z : its.size ≤ sizeLine) (v : M0 xs its.toList)
    (next : mg x = some (.ref f) → (∀ H : Hp, SqT K H f xs) → Goal) : Goal := next (PySem.W.mg_of X G a) fun _ => .inr ⟨_, its, n, l, rfl, rfl, z, v⟩
end
end Pl
namespace PySem.W.Fast
def tw15059874487614208172 := ()
def tw9362302303617075747 := ()
def tw5579003188539487662 := ()
def tw2157867443662929895 := ()
def tw1931510852008097281 := ()
def tw13239777656533024710 := ()
def tw8931617176368950459 := ()
def tw4592707377843285352 := ()
def tw4838706043737264984 := ()
def tw13826995445744049134 := ()
def tw9738067929344452925 := ()
def tw5036019074334703954 := ()
def tw6706779491623755035 := ()
def tw380965398180683511 := ()
def tw12663011614350483112 := ()
def tw1784709513426856997 := ()
def tw162568593124953805 := ()
def tw16413283272058524973 := ()
def tw8175754604688591239 := ()
def tw2923992001931552504 := ()
def tw10014531530019733553 := ()
def tw16540461951380972606 := ()
def tw6181066083023499600 := ()
def tw11924955587568736940 := ()
def tw8622988233922645951 := ()
def tw2370682119285427550 := ()
def tw843618757365546454 := ()
def tw11365429992926118852 := ()
def tw4478888971186457270 := ()
def tw10476726182782367076 := ()
def tw11424106678229358497 := ()
def tw4579575615801707914 := ()
def tw17774299830442544051 := ()
def tw7930175095161777261 := ()
def tw8292192597920226237 := ()
def tw11852078853439674930 := ()
def tw14440349175137047899 := ()
def tw15749709776878861653 := ()
def tw16829476197989735058 := ()
def tw15243627819227978320 := ()
def tw2368731003354259266 := ()
def tw6264429673322552831 := ()
def tw15217507875368416794 := ()
def tw3183517724099088194 := ()
def tw582269827663834427 := ()
def tw6474600743015774067 := ()
def tw7468464625047511841 := ()
def tw6120814795764493490 := ()
def tw4816798975245312864 := ()
def tw7378822997615695307 := ()
def tw18258155711257999808 := ()
def tw7507950525374104852 := ()
def tw16977958884644150923 := ()
def tw5421872923118498095 := ()
def tw10111838245356453249 := ()
def tw6392063563579201237 := ()
def tw14555041576120768194 := ()
def tw14524004001103254354 := ()
def tw5240968935173265486 := ()
def tw14919595098208511913 := ()
def tw4903169863952436933 := ()
def tw8427118544187392818 := ()
def tw16369996149192873545 := ()
def tw5515625931187029233 := ()
def tw17961965540880209930 := ()
def tw3294024379673132815 := ()
def tw4891594349445938149 := ()
def tw13553268152677637409 := ()
def tw971456651931268448 := ()
def tw18231028089594292320 := ()
def tw4218685706634084774 := ()
def tw11082773283087925715 := ()
def tw18358695047476895689 := ()
def tw6424087589825166969 := ()
def tw4831789880274985912 := ()
def tw9562678448227398097 := ()
def tw13228557966063301893 := ()
def tw7326515613923895412 := ()
def tw6106448646547349772 := ()
def tw8441639091833070114 := ()
def tw10506731076129714734 := ()
def tw11339423526210914292 := ()
def tw1788280846450848729 := ()
def tw17214304420572187320 := ()
def tw13540706918071071538 := ()
def tw6538524890470640144 := ()
def tw1785545287870153604 := ()
def tw1786410662551528681 := ()
def tw11331182542074789907 := ()
def tw8060851190569244854 := ()
def tw10124382417430915112 := ()
def tw18317346190929364079 := ()
def tw14255339699664733836 := ()
def tw10030824234750718102 := ()
def tw5438913158202237068 := ()
def tw10251783867231497203 := ()
def tw1680968641261752297 := ()
def tw14010458396001557094 := ()
def tw5318789241553266222 := ()
def tw4978672467970486988 := ()
def tw17861840310846805218 := ()
def tw5403852154979858334 := ()
def tw12840402913039101679 := ()
def tw1440796073687440954 := ()
def tw1682175309778433240 := ()
def tw14460026840266701009 := ()
def tw17419856387111387129 := ()
def tw18400860347251789808 := ()
def tw3049482127441910539 := ()
def tw5654548675883374125 := ()
def tw5319257204346912647 := ()
def tw17582194798866968348 := ()
def tw1409500922233176188 := ()
def tw3906637315757039001 := ()
def tw17990963814749419363 := ()
def tw5233437661239047955 := ()
def tw6690797450871220049 := ()
def tw12894040478215194902 := ()
def tw11924896767429639955 := ()
def tw2758221196192000635 := ()
def tw3485398168019566533 := ()
def tw16535136648599456820 := ()
def tw12776383356016608549 := ()
def tw4981679114703259274 := ()
def tw13096712072024696040 := ()
def tw1666751838910249635 := ()
def tw7205213429458935488 := ()
def tw107938794054152067 := ()
def tw13362093759519210009 := ()
def tw9161037113068405049 := ()
def tw7576387837226873797 := ()
def tw10347080742708511253 := ()
def tw2827532386628664483 := ()
def tw3772347791663627765 := ()
def tw11508506816373044867 := ()
def tw6880689284608063861 := ()
def tw5099694853718198781 := ()
def tw14472183225270202499 := ()
def tw4115278681186845999 := ()
def tw7278628525662088710 := ()
def tw6700485668179123240 := ()
def tw11541512507015145012 := ()
def tw4591838702560106606 := ()
def tw6991534446903592999 := ()
def tw17580848060145586794 := ()
def tw16621608731520474628 := ()
def tw18282443168451506920 := ()
def tw16018213010092115299 := ()
def tw6376768744995783167 := ()
def tw2619753333071344321 := ()
def tw3466395549394132578 := ()
def tw10687460616637089926 := ()
def tw3311644450407066401 := ()
def tw7430873602032788359 := ()
def tw18446357613598458955 := ()
def tw18100059267085931829 := ()
def tw15220256557613946543 := ()
def tw2952515322661311387 := ()
def tw14758511738789495489 := ()
def tw1694884084840500690 := ()
def tw15637206892968377205 := ()
def tw15998782768612345309 := ()
def tw6585390848335489161 := ()
def tw6287632938840613169 := ()
def tw8029373624826424425 := ()
def tw7430586636929001180 := ()
def tw1768250445675363689 := ()
def tw14985240092210974563 := ()
def tw15952955006674451985 := ()
def tw2895218075880977920 := ()
def tw15125820709285008636 := ()
def tw16706776551854559002 := ()
def tw39418740211181050 := ()
def tw13087598554042242948 := ()
def tw12217319475524635818 := ()
def tw8402121070454649196 := ()
def tw15381165496148422301 := ()
def tw14124166509632901149 := ()
def tw2765467512324528988 := ()
def tw13768018378269186223 := ()
def tw12946030907687122929 := ()
def tw12611705558573543686 := ()
def tw6496641164619629859 := ()
def tw4337364034291915150 := ()
def tw6216372297429494308 := ()
end PySem.W.Fast
open PySem PySem.W PyProof.Rows
set_option maxRecDepth 100000 in
set_option maxHeartbeats 0 in
theorem PySem.Challenge.cw_pairsthathold_s01_answers_holds : PySem.Challenge.rw_pairsthathold_s01_answers.Holds := by
  w_on; k_headS; (case hw => exact ⟨[.list [.int 0, .int 0]], by decide +kernel, by decide +kernel⟩)
  k_fillS
  refine L2.qk4 (r := PySem.Challenge.rw_pairsthathold_s01_answers) (k := 18) (CX := L2.CX0) (ps := ["calls"]) (TP := [312, 350]) (sp := Pl.zF2) (by decide +kernel) rfl rfl ⟨rfl, by decide, by decide⟩ (fun w h Y => PySem.W.kIn_of Y) ?T ?F ?S (fun _ _ _ _ z => z)
  case T =>
    intro w p hp
    rcases List.mem_cons.mp hp with rfl | hp
    · exact ⟨by kernel_rfl, "whom_by_place", _, 314, rfl, by kernel_rfl⟩
    rcases List.mem_cons.mp hp with rfl | hp
    · exact ⟨by kernel_rfl, "ho_fairest", _, 354, rfl, by kernel_rfl⟩
    cases hp
  case F =>
    intro w mg fa h Y KX G hmg
    refine' Pl.ql6 KX G "Students" ?a ?b ?c ?d ?e ?f ?g ?_
    (case a => k_is); (case b => k_is); (case c => k_is); (case d => k_is); (case e => k_is); (case f => k_is); (case g => k_is)
    intro cl mC mkC
    refine' Pl.ql0 cl "__init__" "Students.__init__" Pl.zf8 ?a ?i ?l ?c ?k ?_
    (case a => k_is); (case i => k_is); (case l => k_is); (case c => k_is); (case k => k_is)
    intro d_Students_init F_Students_init m_Students_init
    refine' Pl.ql0 cl "begin" "Students.begin" Pl.zg2 ?a ?i ?l ?c ?k ?_
    (case a => k_is); (case i => k_is); (case l => k_is); (case c => k_is); (case k => k_is)
    intro d_Students_begin F_Students_begin m_Students_begin
    refine' Pl.ql0 cl "has" "Students.has" Pl.zf9 ?a ?i ?l ?c ?k ?_
    (case a => k_is); (case i => k_is); (case l => k_is); (case c => k_is); (case k => k_is)
    intro d_Students_has F_Students_has m_Students_has
    refine' Pl.ql0 cl "change" "Students.change" Pl.zg1 ?a ?i ?l ?c ?k ?_
    (case a => k_is); (case i => k_is); (case l => k_is); (case c => k_is); (case k => k_is)
    intro d_Students_change F_Students_change m_Students_change
    refine' Pl.ql0 cl "take_back" "Students.take_back" Pl.zf6 ?a ?i ?l ?c ?k ?_
    (case a => k_is); (case i => k_is); (case l => k_is); (case c => k_is); (case k => k_is)
    intro d_Students_take_back F_Students_take_back m_Students_take_back
    refine' Pl.ql0 cl "do_again" "Students.do_again" Pl.zg0 ?a ?i ?l ?c ?k ?_
    (case a => k_is); (case i => k_is); (case l => k_is); (case c => k_is); (case k => k_is)
    intro d_Students_do_again F_Students_do_again m_Students_do_again
    refine' Pl.ql0 cl "put" "Students.put" Pl.zf7 ?a ?i ?l ?c ?k ?_
    (case a => k_is); (case i => k_is); (case l => k_is); (case c => k_is); (case k => k_is)
    intro d_Students_put F_Students_put m_Students_put
    refine' Pl.ql5 KX G "would_share" Pl.N9 ?a ?l ?c ?k ?_
    (case a => k_is); (case l => k_is); (case c => k_is); (case k => k_is)
    intro d_would_share F_would_share m_would_share
    refine' Pl.ql5 KX G "place" Pl.Y9 ?a ?l ?c ?k ?_
    (case a => k_is); (case l => k_is); (case c => k_is); (case k => k_is)
    intro d_place F_place m_place
    refine' Pl.ql5 KX G "places_had" Pl.X9 ?a ?l ?c ?k ?_
    (case a => k_is); (case l => k_is); (case c => k_is); (case k => k_is)
    intro d_places_had F_places_had m_places_had
    refine' Pl.ql5 KX G "greatest_of" Pl.ze1 ?a ?l ?c ?k ?_
    (case a => k_is); (case l => k_is); (case c => k_is); (case k => k_is)
    intro d_greatest_of F_greatest_of m_greatest_of
    refine' Pl.ql5 KX G "would_leave" Pl.P9 ?a ?l ?c ?k ?_
    (case a => k_is); (case l => k_is); (case c => k_is); (case k => k_is)
    intro d_would_leave F_would_leave m_would_leave
    refine' Pl.ql5 KX G "would_break" Pl.Q9 ?a ?l ?c ?k ?_
    (case a => k_is); (case l => k_is); (case c => k_is); (case k => k_is)
    intro d_would_break F_would_break m_would_break
    refine' Pl.ql5 KX G "breakers" Pl.ze6 ?a ?l ?c ?k ?_
    (case a => k_is); (case l => k_is); (case c => k_is); (case k => k_is)
    intro d_breakers F_breakers m_breakers
    refine' Pl.ql5 KX G "holds" Pl.zb1 ?a ?l ?c ?k ?_
    (case a => k_is); (case l => k_is); (case c => k_is); (case k => k_is)
    intro d_holds F_holds m_holds
    refine' Pl.ql5 KX G "parted" Pl.Z9 ?a ?l ?c ?k ?_
    (case a => k_is); (case l => k_is); (case c => k_is); (case k => k_is)
    intro d_parted F_parted m_parted
    refine' Pl.ql5 KX G "paired" Pl.za0 ?a ?l ?c ?k ?_
    (case a => k_is); (case l => k_is); (case c => k_is); (case k => k_is)
    intro d_paired F_paired m_paired
    refine' Pl.ql5 KX G "with_choices" Pl.S9 ?a ?l ?c ?k ?_
    (case a => k_is); (case l => k_is); (case c => k_is); (case k => k_is)
    intro d_with_choices F_with_choices m_with_choices
    refine' Pl.ql5 KX G "all_pairings" Pl.zf5 ?a ?l ?c ?k ?_
    (case a => k_is); (case l => k_is); (case c => k_is); (case k => k_is)
    intro d_all_pairings F_all_pairings m_all_pairings
    refine' Pl.ql5 KX G "good_pairings" Pl.ze2 ?a ?l ?c ?k ?_
    (case a => k_is); (case l => k_is); (case c => k_is); (case k => k_is)
    intro d_good_pairings F_good_pairings m_good_pairings
    refine' Pl.ql5 KX G "alone_ones" Pl.zf4 ?a ?l ?c ?k ?_
    (case a => k_is); (case l => k_is); (case c => k_is); (case k => k_is)
    intro d_alone_ones F_alone_ones m_alone_ones
    refine' Pl.ql5 KX G "pair_count" Pl.za1 ?a ?l ?c ?k ?_
    (case a => k_is); (case l => k_is); (case c => k_is); (case k => k_is)
    intro d_pair_count F_pair_count m_pair_count
    refine' Pl.ql5 KX G "told_pairing" Pl.V9 ?a ?l ?c ?k ?_
    (case a => k_is); (case l => k_is); (case c => k_is); (case k => k_is)
    intro d_told_pairing F_told_pairing m_told_pairing
    refine' Pl.ql5 KX G "ho_start" Pl.zb9 ?a ?l ?c ?k ?_
    (case a => k_is); (case l => k_is); (case c => k_is); (case k => k_is)
    intro d_ho_start F_ho_start m_ho_start
    refine' Pl.ql5 KX G "are_others" Pl.ze7 ?a ?l ?c ?k ?_
    (case a => k_is); (case l => k_is); (case c => k_is); (case k => k_is)
    intro d_are_others F_are_others m_are_others
    refine' Pl.ql5 KX G "with_list" Pl.R9 ?a ?l ?c ?k ?_
    (case a => k_is); (case l => k_is); (case c => k_is); (case k => k_is)
    intro d_with_list F_with_list m_with_list
    refine' Pl.ql5 KX G "ho_wish" Pl.zb6 ?a ?l ?c ?k ?_
    (case a => k_is); (case l => k_is); (case c => k_is); (case k => k_is)
    intro d_ho_wish F_ho_wish m_ho_wish
    refine' Pl.ql5 KX G "ho_swap" Pl.zb7 ?a ?l ?c ?k ?_
    (case a => k_is); (case l => k_is); (case c => k_is); (case k => k_is)
    intro d_ho_swap F_ho_swap m_ho_swap
    refine' Pl.ql5 KX G "ho_pair" Pl.zc5 ?a ?l ?c ?k ?_
    (case a => k_is); (case l => k_is); (case c => k_is); (case k => k_is)
    intro d_ho_pair F_ho_pair m_ho_pair
    refine' Pl.ql5 KX G "ho_part" Pl.zc4 ?a ?l ?c ?k ?_
    (case a => k_is); (case l => k_is); (case c => k_is); (case k => k_is)
    intro d_ho_part F_ho_part m_ho_part
    refine' Pl.ql5 KX G "ho_break" Pl.zd5 ?a ?l ?c ?k ?_
    (case a => k_is); (case l => k_is); (case c => k_is); (case k => k_is)
    intro d_ho_break F_ho_break m_ho_break
    refine' Pl.ql5 KX G "ho_all" Pl.zd9 ?a ?l ?c ?k ?_
    (case a => k_is); (case l => k_is); (case c => k_is); (case k => k_is)
    intro d_ho_all F_ho_all m_ho_all
    refine' Pl.ql5 KX G "ho_back" Pl.zd7 ?a ?l ?c ?k ?_
    (case a => k_is); (case l => k_is); (case c => k_is); (case k => k_is)
    intro d_ho_back F_ho_back m_ho_back
    refine' Pl.ql5 KX G "ho_again" Pl.ze0 ?a ?l ?c ?k ?_
    (case a => k_is); (case l => k_is); (case c => k_is); (case k => k_is)
    intro d_ho_again F_ho_again m_ho_again
    refine' Pl.ql5 KX G "ho_state" Pl.zb8 ?a ?l ?c ?k ?_
    (case a => k_is); (case l => k_is); (case c => k_is); (case k => k_is)
    intro d_ho_state F_ho_state m_ho_state
    refine' Pl.ql5 KX G "told_set" Pl.T9 ?a ?l ?c ?k ?_
    (case a => k_is); (case l => k_is); (case c => k_is); (case k => k_is)
    intro d_told_set F_told_set m_told_set
    refine' Pl.ql5 KX G "told_row" Pl.U9 ?a ?l ?c ?k ?_
    (case a => k_is); (case l => k_is); (case c => k_is); (case k => k_is)
    intro d_told_row F_told_row m_told_row
    refine' Pl.ql5 KX G "ho_holds" Pl.zc9 ?a ?l ?c ?k ?_
    (case a => k_is); (case l => k_is); (case c => k_is); (case k => k_is)
    intro d_ho_holds F_ho_holds m_ho_holds
    refine' Pl.ql5 KX G "ho_breakers" Pl.zd4 ?a ?l ?c ?k ?_
    (case a => k_is); (case l => k_is); (case c => k_is); (case k => k_is)
    intro d_ho_breakers F_ho_breakers m_ho_breakers
    refine' Pl.ql5 KX G "ho_would" Pl.zb2 ?a ?l ?c ?k ?_
    (case a => k_is); (case l => k_is); (case c => k_is); (case k => k_is)
    intro d_ho_would F_ho_would m_ho_would
    refine' Pl.ql5 KX G "ho_good" Pl.zd0 ?a ?l ?c ?k ?_
    (case a => k_is); (case l => k_is); (case c => k_is); (case k => k_is)
    intro d_ho_good F_ho_good m_ho_good
    refine' Pl.ql5 KX G "ho_nth" Pl.zc7 ?a ?l ?c ?k ?_
    (case a => k_is); (case l => k_is); (case c => k_is); (case k => k_is)
    intro d_ho_nth F_ho_nth m_ho_nth
    refine' Pl.ql3 KX G "whom_by_place" Pl.U7 ?a ?l ?c ?k ?lc ?v ?nc ?_
    (case a => k_is); (case l => k_is); (case c => k_is); (case k => k_is); (case lc => k_is); (case v => exact ⟨rfl, rfl, rfl, rfl, rfl, rfl⟩); (case nc => decide)
    intro d_whom_by_place FC_whom_by_place m_whom_by_place hd_whom_by_place
    have F_whom_by_place := FC_whom_by_place.fun_
    refine' Pl.ql5 KX G "ho_best" Pl.zd6 ?a ?l ?c ?k ?_
    (case a => k_is); (case l => k_is); (case c => k_is); (case k => k_is)
    intro d_ho_best F_ho_best m_ho_best
    refine' Pl.ql5 KX G "ho_worst" Pl.zb3 ?a ?l ?c ?k ?_
    (case a => k_is); (case l => k_is); (case c => k_is); (case k => k_is)
    intro d_ho_worst F_ho_worst m_ho_worst
    refine' Pl.ql5 KX G "ho_alone" Pl.zd8 ?a ?l ?c ?k ?_
    (case a => k_is); (case l => k_is); (case c => k_is); (case k => k_is)
    intro d_ho_alone F_ho_alone m_ho_alone
    refine' Pl.ql5 KX G "ho_ever" Pl.zd3 ?a ?l ?c ?k ?_
    (case a => k_is); (case l => k_is); (case c => k_is); (case k => k_is)
    intro d_ho_ever F_ho_ever m_ho_ever
    refine' Pl.ql5 KX G "how_fair" Pl.zb0 ?a ?l ?c ?k ?_
    (case a => k_is); (case l => k_is); (case c => k_is); (case k => k_is)
    intro d_how_fair F_how_fair m_how_fair
    refine' Pl.ql3 KX G "ho_fairest" Pl.V7 ?a ?l ?c ?k ?lc ?v ?nc ?_
    (case a => k_is); (case l => k_is); (case c => k_is); (case k => k_is); (case lc => k_is); (case v => exact ⟨rfl, rfl, rfl, rfl, rfl, rfl⟩); (case nc => decide)
    intro d_ho_fairest FC_ho_fairest m_ho_fairest hd_ho_fairest
    have F_ho_fairest := FC_ho_fairest.fun_
    refine' Pl.ql5 KX G "ho_place" Pl.zc3 ?a ?l ?c ?k ?_
    (case a => k_is); (case l => k_is); (case c => k_is); (case k => k_is)
    intro d_ho_place F_ho_place m_ho_place
    refine' Pl.ql5 KX G "ho_friends" Pl.zd2 ?a ?l ?c ?k ?_
    (case a => k_is); (case l => k_is); (case c => k_is); (case k => k_is)
    intro d_ho_friends F_ho_friends m_ho_friends
    refine' Pl.ql5 KX G "ho_with" Pl.zb5 ?a ?l ?c ?k ?_
    (case a => k_is); (case l => k_is); (case c => k_is); (case k => k_is)
    intro d_ho_with F_ho_with m_ho_with
    refine' Pl.ql5 KX G "ho_single" Pl.zc0 ?a ?l ?c ?k ?_
    (case a => k_is); (case l => k_is); (case c => k_is); (case k => k_is)
    intro d_ho_single F_ho_single m_ho_single
    refine' Pl.ql5 KX G "ho_glad" Pl.zd1 ?a ?l ?c ?k ?_
    (case a => k_is); (case l => k_is); (case c => k_is); (case k => k_is)
    intro d_ho_glad F_ho_glad m_ho_glad
    refine' Pl.ql5 KX G "ho_look" Pl.zc8 ?a ?l ?c ?k ?_
    (case a => k_is); (case l => k_is); (case c => k_is); (case k => k_is)
    intro d_ho_look F_ho_look m_ho_look
    refine' Pl.ql5 KX G "known_before" Pl.za5 ?a ?l ?c ?k ?_
    (case a => k_is); (case l => k_is); (case c => k_is); (case k => k_is)
    intro d_known_before F_known_before m_known_before
    refine' Pl.ql5 KX G "in_order" Pl.za7 ?a ?l ?c ?k ?_
    (case a => k_is); (case l => k_is); (case c => k_is); (case k => k_is)
    intro d_in_order F_in_order m_in_order
    refine' Pl.ql5 KX G "would_leave_before" Pl.O9 ?a ?l ?c ?k ?_
    (case a => k_is); (case l => k_is); (case c => k_is); (case k => k_is)
    intro d_would_leave_before F_would_leave_before m_would_leave_before
    refine' Pl.ql5 KX G "may_hold" Pl.za3 ?a ?l ?c ?k ?_
    (case a => k_is); (case l => k_is); (case c => k_is); (case k => k_is)
    intro d_may_hold F_may_hold m_may_hold
    refine' Pl.ql5 KX G "first_beginning" Pl.ze4 ?a ?l ?c ?k ?_
    (case a => k_is); (case l => k_is); (case c => k_is); (case k => k_is)
    intro d_first_beginning F_first_beginning m_first_beginning
    refine' Pl.ql5 KX G "first_rings" Pl.ze3 ?a ?l ?c ?k ?_
    (case a => k_is); (case l => k_is); (case c => k_is); (case k => k_is)
    intro d_first_rings F_first_rings m_first_rings
    refine' Pl.ql5 KX G "ring_from" Pl.W9 ?a ?l ?c ?k ?_
    (case a => k_is); (case l => k_is); (case c => k_is); (case k => k_is)
    intro d_ring_from F_ring_from m_ring_from
    refine' Pl.ql5 KX G "in_odd_ring" Pl.za9 ?a ?l ?c ?k ?_
    (case a => k_is); (case l => k_is); (case c => k_is); (case k => k_is)
    intro d_in_odd_ring F_in_odd_ring m_in_odd_ring
    refine' Pl.ql5 KX G "in_odd_rings" Pl.za8 ?a ?l ?c ?k ?_
    (case a => k_is); (case l => k_is); (case c => k_is); (case k => k_is)
    intro d_in_odd_rings F_in_odd_rings m_in_odd_rings
    refine' Pl.ql5 KX G "odd_ring_count" Pl.za2 ?a ?l ?c ?k ?_
    (case a => k_is); (case l => k_is); (case c => k_is); (case k => k_is)
    intro d_odd_ring_count F_odd_ring_count m_odd_ring_count
    refine' Pl.ql5 KX G "ho_rings" Pl.zc1 ?a ?l ?c ?k ?_
    (case a => k_is); (case l => k_is); (case c => k_is); (case k => k_is)
    intro d_ho_rings F_ho_rings m_ho_rings
    refine' Pl.ql5 KX G "ho_ring" Pl.zc2 ?a ?l ?c ?k ?_
    (case a => k_is); (case l => k_is); (case c => k_is); (case k => k_is)
    intro d_ho_ring F_ho_ring m_ho_ring
    refine' Pl.ql5 KX G "ho_odds" Pl.zc6 ?a ?l ?c ?k ?_
    (case a => k_is); (case l => k_is); (case c => k_is); (case k => k_is)
    intro d_ho_odds F_ho_odds m_ho_odds
    refine' Pl.ql5 KX G "is_in" Pl.za6 ?a ?l ?c ?k ?_
    (case a => k_is); (case l => k_is); (case c => k_is); (case k => k_is)
    intro d_is_in F_is_in m_is_in
    refine' Pl.ql5 KX G "lists_without" Pl.za4 ?a ?l ?c ?k ?_
    (case a => k_is); (case l => k_is); (case c => k_is); (case k => k_is)
    intro d_lists_without F_lists_without m_lists_without
    refine' Pl.ql5 KX G "ho_without" Pl.zb4 ?a ?l ?c ?k ?_
    (case a => k_is); (case l => k_is); (case c => k_is); (case k => k_is)
    intro d_ho_without F_ho_without m_ho_without
    refine' Pl.ql5 KX G "call_end" Pl.ze5 ?a ?l ?c ?k ?_
    (case a => k_is); (case l => k_is); (case c => k_is); (case k => k_is)
    intro d_call_end F_call_end m_call_end
    refine' Pl.ql5 KX G "answer_changing" Pl.zf2 ?a ?l ?c ?k ?_
    (case a => k_is); (case l => k_is); (case c => k_is); (case k => k_is)
    intro d_answer_changing F_answer_changing m_answer_changing
    refine' Pl.ql5 KX G "answer_holding" Pl.zf0 ?a ?l ?c ?k ?_
    (case a => k_is); (case l => k_is); (case c => k_is); (case k => k_is)
    intro d_answer_holding F_answer_holding m_answer_holding
    refine' Pl.ql5 KX G "answer_ringing" Pl.ze8 ?a ?l ?c ?k ?_
    (case a => k_is); (case l => k_is); (case c => k_is); (case k => k_is)
    intro d_answer_ringing F_answer_ringing m_answer_ringing
    refine' Pl.ql5 KX G "answer_looking" Pl.ze9 ?a ?l ?c ?k ?_
    (case a => k_is); (case l => k_is); (case c => k_is); (case k => k_is)
    intro d_answer_looking F_answer_looking m_answer_looking
    refine' Pl.ql5 KX G "answer_going_back" Pl.zf1 ?a ?l ?c ?k ?_
    (case a => k_is); (case l => k_is); (case c => k_is); (case k => k_is)
    intro d_answer_going_back F_answer_going_back m_answer_going_back
    refine' Pl.ql5 KX G "answer" Pl.zf3 ?a ?l ?c ?k ?_
    (case a => k_is); (case l => k_is); (case c => k_is); (case k => k_is)
    intro d_answer F_answer m_answer
    refine' Pl.ql5 KX G "answers" Pl.W7 ?a ?l ?c ?k ?_
    (case a => k_is); (case l => k_is); (case c => k_is); (case k => k_is)
    intro d_answers F_answers m_answers
    refine' Pl.qk9 cl "lists" ?a ?_
    (case a => k_is)
    intro n_lists
    refine' Pl.qk9 cl "mates" ?a ?_
    (case a => k_is)
    intro n_mates
    refine' Pl.qk9 cl "past" ?a ?_
    (case a => k_is)
    intro n_past
    refine' Pl.qk9 cl "undone" ?a ?_
    (case a => k_is)
    intro n_undone
    refine' Pl.ql7 KX G "len" ?a ?_
    (case a => k_is)
    intro z_len
    refine' Pl.ql7 KX G "range" ?a ?_
    (case a => k_is)
    intro z_range
    refine' Pl.ql7 KX G "tuple" ?a ?_
    (case a => k_is)
    intro z_tuple
    refine' Pl.ql7 KX G "list" ?a ?_
    (case a => k_is)
    intro z_list
    refine' Pl.ql7 KX G "sum" ?a ?_
    (case a => k_is)
    intro z_sum
    refine' Pl.ql7 KX G "sorted" ?a ?_
    (case a => k_is)
    intro z_sorted
    refine' Pl.ql7 KX G "max" ?a ?_
    (case a => k_is)
    intro z_max
    refine' Pl.ql7 KX G "min" ?a ?_
    (case a => k_is)
    intro z_min
    refine' Pl.ql4 KX G "MOST_STUDENTS" 7 ?a ?_
    (case a => k_is)
    intro c_MOST_STUDENTS
    refine' Pl.ql4 KX G "MOST_WISHES" 6 ?a ?_
    (case a => k_is)
    intro c_MOST_WISHES
    refine' Pl.ql4 KX G "MOST_CHANGES" 20 ?a ?_
    (case a => k_is)
    intro c_MOST_CHANGES
    refine' Pl.ql4 KX G "NOT_THERE" (-2) ?a ?_
    (case a => k_is)
    intro c_NOT_THERE
    refine' Pl.ql4 KX G "ALONE" (-6) ?a ?_
    (case a => k_is)
    intro c_ALONE
    refine' Pl.ql4 KX G "NOT_ON_LIST" (-6) ?a ?_
    (case a => k_is)
    intro c_NOT_ON_LIST
    refine' Pl.ql4 KX G "PAIRED" (-16) ?a ?_
    (case a => k_is)
    intro c_PAIRED
    refine' Pl.ql4 KX G "WRONG" (-22) ?a ?_
    (case a => k_is)
    intro c_WRONG
    refine' Pl.ql4 KX G "NOT_SO" (-33) ?a ?_
    (case a => k_is)
    intro c_NOT_SO
    refine' Pl.qk5 KX G "PLAIN_NUMBERS" ([1, 2, 3, 2, 1, 2, 0, 0, 0, 2, 0, 1, 1, 1, 0, 2, 0, 1, 0, 1, 2, 1, 1, 0, 0, 0, 1, 0, 0, 0].map L2.V.int) ?a ?l ?z ?v ?_
    (case a => k_is); (case l => k_is); (case z => decide); (case v => (repeat (first | exact .nil | refine .cons ⟨_, rfl⟩ ?_)))
    intro c_PLAIN_NUMBERS t_PLAIN_NUMBERS
    refine' Pl.ql4 KX G "WISH" 1 ?a ?_
    (case a => k_is)
    intro c_WISH
    refine' Pl.ql4 KX G "LAST_CHANGING" 6 ?a ?_
    (case a => k_is)
    intro c_LAST_CHANGING
    refine' Pl.ql4 KX G "LAST_HOLDING" 15 ?a ?_
    (case a => k_is)
    intro c_LAST_HOLDING
    refine' Pl.ql4 KX G "LAST_RINGING" 19 ?a ?_
    (case a => k_is)
    intro c_LAST_RINGING
    refine' Pl.ql4 KX G "LAST_LOOKING" 26 ?a ?_
    (case a => k_is)
    intro c_LAST_LOOKING
    have T : ∀ base : Heap, (∀ p ∈ [312, 350], base.BuiltinsAt mg p) → Pl.Txt _ mg base ({ C_Students := _, a_PLAIN_NUMBERS := _, f_Students_init := _, d_Students_init := d_Students_init, f_Students_begin := _, d_Students_begin := d_Students_begin, f_Students_has := _, d_Students_has := d_Students_has, f_Students_change := _, d_Students_change := d_Students_change, f_Students_take_back := _, d_Students_take_back := d_Students_take_back, f_Students_do_again := _, d_Students_do_again := d_Students_do_again, f_Students_put := _, d_Students_put := d_Students_put, f_would_share := _, d_would_share := d_would_share, f_place := _, d_place := d_place, f_places_had := _, d_places_had := d_places_had, f_greatest_of := _, d_greatest_of := d_greatest_of, f_would_leave := _, d_would_leave := d_would_leave, f_would_break := _, d_would_break := d_would_break, f_breakers := _, d_breakers := d_breakers, f_holds := _, d_holds := d_holds, f_parted := _, d_parted := d_parted, f_paired := _, d_paired := d_paired, f_with_choices := _, d_with_choices := d_with_choices, f_all_pairings := _, d_all_pairings := d_all_pairings, f_good_pairings := _, d_good_pairings := d_good_pairings, f_alone_ones := _, d_alone_ones := d_alone_ones, f_pair_count := _, d_pair_count := d_pair_count, f_told_pairing := _, d_told_pairing := d_told_pairing, f_ho_start := _, d_ho_start := d_ho_start, f_are_others := _, d_are_others := d_are_others, f_with_list := _, d_with_list := d_with_list, f_ho_wish := _, d_ho_wish := d_ho_wish, f_ho_swap := _, d_ho_swap := d_ho_swap, f_ho_pair := _, d_ho_pair := d_ho_pair, f_ho_part := _, d_ho_part := d_ho_part, f_ho_break := _, d_ho_break := d_ho_break, f_ho_all := _, d_ho_all := d_ho_all, f_ho_back := _, d_ho_back := d_ho_back, f_ho_again := _, d_ho_again := d_ho_again, f_ho_state := _, d_ho_state := d_ho_state, f_told_set := _, d_told_set := d_told_set, f_told_row := _, d_told_row := d_told_row, f_ho_holds := _, d_ho_holds := d_ho_holds, f_ho_breakers := _, d_ho_breakers := d_ho_breakers, f_ho_would := _, d_ho_would := d_ho_would, f_ho_good := _, d_ho_good := d_ho_good, f_ho_nth := _, d_ho_nth := d_ho_nth, f_whom_by_place := _, d_whom_by_place := d_whom_by_place, f_ho_best := _, d_ho_best := d_ho_best, f_ho_worst := _, d_ho_worst := d_ho_worst, f_ho_alone := _, d_ho_alone := d_ho_alone, f_ho_ever := _, d_ho_ever := d_ho_ever, f_how_fair := _, d_how_fair := d_how_fair, f_ho_fairest := _, d_ho_fairest := d_ho_fairest, f_ho_place := _, d_ho_place := d_ho_place, f_ho_friends := _, d_ho_friends := d_ho_friends, f_ho_with := _, d_ho_with := d_ho_with, f_ho_single := _, d_ho_single := d_ho_single, f_ho_glad := _, d_ho_glad := d_ho_glad, f_ho_look := _, d_ho_look := d_ho_look, f_known_before := _, d_known_before := d_known_before, f_in_order := _, d_in_order := d_in_order, f_would_leave_before := _, d_would_leave_before := d_would_leave_before, f_may_hold := _, d_may_hold := d_may_hold, f_first_beginning := _, d_first_beginning := d_first_beginning, f_first_rings := _, d_first_rings := d_first_rings, f_ring_from := _, d_ring_from := d_ring_from, f_in_odd_ring := _, d_in_odd_ring := d_in_odd_ring, f_in_odd_rings := _, d_in_odd_rings := d_in_odd_rings, f_odd_ring_count := _, d_odd_ring_count := d_odd_ring_count, f_ho_rings := _, d_ho_rings := d_ho_rings, f_ho_ring := _, d_ho_ring := d_ho_ring, f_ho_odds := _, d_ho_odds := d_ho_odds, f_is_in := _, d_is_in := d_is_in, f_lists_without := _, d_lists_without := d_lists_without, f_ho_without := _, d_ho_without := d_ho_without, f_call_end := _, d_call_end := d_call_end, f_answer_changing := _, d_answer_changing := d_answer_changing, f_answer_holding := _, d_answer_holding := d_answer_holding, f_answer_ringing := _, d_answer_ringing := d_answer_ringing, f_answer_looking := _, d_answer_looking := d_answer_looking, f_answer_going_back := _, d_answer_going_back := d_answer_going_back, f_answer := _, d_answer := d_answer, f_answers := _, d_answers := d_answers, k_whom_by_place := _, k_ho_fairest := _ } : Pl.Ad) := fun base hB => { cl_Students := cl, m_Students := mC, mk_Students := mkC _ m_Students_init, n_lists := n_lists, n_mates := n_mates, n_past := n_past, n_undone := n_undone, len := z_len, range := z_range, tuple := z_tuple, list := z_list, sum := z_sum, sorted := z_sorted, max := z_max, min := z_min, c_MOST_STUDENTS := c_MOST_STUDENTS, c_MOST_WISHES := c_MOST_WISHES, c_MOST_CHANGES := c_MOST_CHANGES, c_NOT_THERE := c_NOT_THERE, c_ALONE := c_ALONE, c_NOT_ON_LIST := c_NOT_ON_LIST, c_PAIRED := c_PAIRED, c_WRONG := c_WRONG, c_NOT_SO := c_NOT_SO, c_PLAIN_NUMBERS := c_PLAIN_NUMBERS, t_PLAIN_NUMBERS := t_PLAIN_NUMBERS, c_WISH := c_WISH, c_LAST_CHANGING := c_LAST_CHANGING, c_LAST_HOLDING := c_LAST_HOLDING, c_LAST_RINGING := c_LAST_RINGING, c_LAST_LOOKING := c_LAST_LOOKING, F_Students_init := F_Students_init, b_Students_init := Pl.bn1 F_Students_init fun _ _ _ _ _ _ _ => rfl, F_Students_begin := F_Students_begin, b_Students_begin := Pl.bn2 F_Students_begin fun _ _ _ _ _ _ _ _ => rfl, me_Students_begin := m_Students_begin, F_Students_has := F_Students_has, b_Students_has := Pl.bn2 F_Students_has fun _ _ _ _ _ _ _ _ => rfl, me_Students_has := m_Students_has, F_Students_change := F_Students_change, b_Students_change := Pl.bn3 F_Students_change fun _ _ _ _ _ _ _ _ _ => rfl, me_Students_change := m_Students_change, F_Students_take_back := F_Students_take_back, b_Students_take_back := Pl.bn1 F_Students_take_back fun _ _ _ _ _ _ _ => rfl, me_Students_take_back := m_Students_take_back, F_Students_do_again := F_Students_do_again, b_Students_do_again := Pl.bn1 F_Students_do_again fun _ _ _ _ _ _ _ => rfl, me_Students_do_again := m_Students_do_again, F_Students_put := F_Students_put, b_Students_put := Pl.bn2 F_Students_put fun _ _ _ _ _ _ _ _ => rfl, me_Students_put := m_Students_put, F_would_share := F_would_share, b_would_share := Pl.bn3 F_would_share fun _ _ _ _ _ _ _ _ _ => rfl, m_would_share := m_would_share, F_place := F_place, b_place := Pl.bn3 F_place fun _ _ _ _ _ _ _ _ _ => rfl, m_place := m_place, F_places_had := F_places_had, b_places_had := Pl.bn2 F_places_had fun _ _ _ _ _ _ _ _ => rfl, m_places_had := m_places_had, F_greatest_of := F_greatest_of, b_greatest_of := Pl.bn1 F_greatest_of fun _ _ _ _ _ _ _ => rfl, m_greatest_of := m_greatest_of, F_would_leave := F_would_leave, b_would_leave := Pl.bn4 F_would_leave fun _ _ _ _ _ _ _ _ _ _ => rfl, m_would_leave := m_would_leave, F_would_break := F_would_break, b_would_break := Pl.bn4 F_would_break fun _ _ _ _ _ _ _ _ _ _ => rfl, m_would_break := m_would_break, F_breakers := F_breakers, b_breakers := Pl.bn2 F_breakers fun _ _ _ _ _ _ _ _ => rfl, m_breakers := m_breakers, F_holds := F_holds, b_holds := Pl.bn2 F_holds fun _ _ _ _ _ _ _ _ => rfl, m_holds := m_holds, F_parted := F_parted, b_parted := Pl.bn2 F_parted fun _ _ _ _ _ _ _ _ => rfl, m_parted := m_parted, F_paired := F_paired, b_paired := Pl.bn3 F_paired fun _ _ _ _ _ _ _ _ _ => rfl, m_paired := m_paired, F_with_choices := F_with_choices, b_with_choices := Pl.bn3 F_with_choices fun _ _ _ _ _ _ _ _ _ => rfl, m_with_choices := m_with_choices, F_all_pairings := F_all_pairings, b_all_pairings := Pl.bn1 F_all_pairings fun _ _ _ _ _ _ _ => rfl, m_all_pairings := m_all_pairings, F_good_pairings := F_good_pairings, b_good_pairings := Pl.bn1 F_good_pairings fun _ _ _ _ _ _ _ => rfl, m_good_pairings := m_good_pairings, F_alone_ones := F_alone_ones, b_alone_ones := Pl.bn1 F_alone_ones fun _ _ _ _ _ _ _ => rfl, m_alone_ones := m_alone_ones, F_pair_count := F_pair_count, b_pair_count := Pl.bn1 F_pair_count fun _ _ _ _ _ _ _ => rfl, m_pair_count := m_pair_count, F_told_pairing := F_told_pairing, b_told_pairing := Pl.bn1 F_told_pairing fun _ _ _ _ _ _ _ => rfl, m_told_pairing := m_told_pairing, F_ho_start := F_ho_start, b_ho_start := Pl.bn2 F_ho_start fun _ _ _ _ _ _ _ _ => rfl, m_ho_start := m_ho_start, F_are_others := F_are_others, b_are_others := Pl.bn3 F_are_others fun _ _ _ _ _ _ _ _ _ => rfl, m_are_others := m_are_others, F_with_list := F_with_list, b_with_list := Pl.bn3 F_with_list fun _ _ _ _ _ _ _ _ _ => rfl, m_with_list := m_with_list, F_ho_wish := F_ho_wish, b_ho_wish := Pl.bn4 F_ho_wish fun _ _ _ _ _ _ _ _ _ _ => rfl, m_ho_wish := m_ho_wish, F_ho_swap := F_ho_swap, b_ho_swap := Pl.bn4 F_ho_swap fun _ _ _ _ _ _ _ _ _ _ => rfl, m_ho_swap := m_ho_swap, F_ho_pair := F_ho_pair, b_ho_pair := Pl.bn3 F_ho_pair fun _ _ _ _ _ _ _ _ _ => rfl, m_ho_pair := m_ho_pair, F_ho_part := F_ho_part, b_ho_part := Pl.bn2 F_ho_part fun _ _ _ _ _ _ _ _ => rfl, m_ho_part := m_ho_part, F_ho_break := F_ho_break, b_ho_break := Pl.bn3 F_ho_break fun _ _ _ _ _ _ _ _ _ => rfl, m_ho_break := m_ho_break, F_ho_all := F_ho_all, b_ho_all := Pl.bn1 F_ho_all fun _ _ _ _ _ _ _ => rfl, m_ho_all := m_ho_all, F_ho_back := F_ho_back, b_ho_back := Pl.bn1 F_ho_back fun _ _ _ _ _ _ _ => rfl, m_ho_back := m_ho_back, F_ho_again := F_ho_again, b_ho_again := Pl.bn1 F_ho_again fun _ _ _ _ _ _ _ => rfl, m_ho_again := m_ho_again, F_ho_state := F_ho_state, b_ho_state := Pl.bn1 F_ho_state fun _ _ _ _ _ _ _ => rfl, m_ho_state := m_ho_state, F_told_set := F_told_set, b_told_set := Pl.bn1 F_told_set fun _ _ _ _ _ _ _ => rfl, m_told_set := m_told_set, F_told_row := F_told_row, b_told_row := Pl.bn2 F_told_row fun _ _ _ _ _ _ _ _ => rfl, m_told_row := m_told_row, F_ho_holds := F_ho_holds, b_ho_holds := Pl.bn1 F_ho_holds fun _ _ _ _ _ _ _ => rfl, m_ho_holds := m_ho_holds, F_ho_breakers := F_ho_breakers, b_ho_breakers := Pl.bn1 F_ho_breakers fun _ _ _ _ _ _ _ => rfl, m_ho_breakers := m_ho_breakers, F_ho_would := F_ho_would, b_ho_would := Pl.bn3 F_ho_would fun _ _ _ _ _ _ _ _ _ => rfl, m_ho_would := m_ho_would, F_ho_good := F_ho_good, b_ho_good := Pl.bn1 F_ho_good fun _ _ _ _ _ _ _ => rfl, m_ho_good := m_ho_good, F_ho_nth := F_ho_nth, b_ho_nth := Pl.bn2 F_ho_nth fun _ _ _ _ _ _ _ _ => rfl, m_ho_nth := m_ho_nth, F_whom_by_place := F_whom_by_place, b_whom_by_place := Pl.bn3 F_whom_by_place fun _ _ _ _ _ _ _ _ _ => rfl, FC_whom_by_place := FC_whom_by_place, hd_whom_by_place := hd_whom_by_place, bl_whom_by_place := hB _ (List.mem_cons_self ..), m_whom_by_place := m_whom_by_place, F_ho_best := F_ho_best, b_ho_best := Pl.bn2 F_ho_best fun _ _ _ _ _ _ _ _ => rfl, m_ho_best := m_ho_best, F_ho_worst := F_ho_worst, b_ho_worst := Pl.bn2 F_ho_worst fun _ _ _ _ _ _ _ _ => rfl, m_ho_worst := m_ho_worst, F_ho_alone := F_ho_alone, b_ho_alone := Pl.bn1 F_ho_alone fun _ _ _ _ _ _ _ => rfl, m_ho_alone := m_ho_alone, F_ho_ever := F_ho_ever, b_ho_ever := Pl.bn3 F_ho_ever fun _ _ _ _ _ _ _ _ _ => rfl, m_ho_ever := m_ho_ever, F_how_fair := F_how_fair, b_how_fair := Pl.bn2 F_how_fair fun _ _ _ _ _ _ _ _ => rfl, m_how_fair := m_how_fair, F_ho_fairest := F_ho_fairest, b_ho_fairest := Pl.bn1 F_ho_fairest fun _ _ _ _ _ _ _ => rfl, FC_ho_fairest := FC_ho_fairest, hd_ho_fairest := hd_ho_fairest, bl_ho_fairest := hB _ (List.mem_cons_of_mem _ (List.mem_cons_self ..)), m_ho_fairest := m_ho_fairest, F_ho_place := F_ho_place, b_ho_place := Pl.bn3 F_ho_place fun _ _ _ _ _ _ _ _ _ => rfl, m_ho_place := m_ho_place, F_ho_friends := F_ho_friends, b_ho_friends := Pl.bn2 F_ho_friends fun _ _ _ _ _ _ _ _ => rfl, m_ho_friends := m_ho_friends, F_ho_with := F_ho_with, b_ho_with := Pl.bn2 F_ho_with fun _ _ _ _ _ _ _ _ => rfl, m_ho_with := m_ho_with, F_ho_single := F_ho_single, b_ho_single := Pl.bn1 F_ho_single fun _ _ _ _ _ _ _ => rfl, m_ho_single := m_ho_single, F_ho_glad := F_ho_glad, b_ho_glad := Pl.bn1 F_ho_glad fun _ _ _ _ _ _ _ => rfl, m_ho_glad := m_ho_glad, F_ho_look := F_ho_look, b_ho_look := Pl.bn2 F_ho_look fun _ _ _ _ _ _ _ _ => rfl, m_ho_look := m_ho_look, F_known_before := F_known_before, b_known_before := Pl.bn2 F_known_before fun _ _ _ _ _ _ _ _ => rfl, m_known_before := m_known_before, F_in_order := F_in_order, b_in_order := Pl.bn4 F_in_order fun _ _ _ _ _ _ _ _ _ _ => rfl, m_in_order := m_in_order, F_would_leave_before := F_would_leave_before, b_would_leave_before := Pl.bn3 F_would_leave_before fun _ _ _ _ _ _ _ _ _ => rfl, m_would_leave_before := m_would_leave_before, F_may_hold := F_may_hold, b_may_hold := Pl.bn2 F_may_hold fun _ _ _ _ _ _ _ _ => rfl, m_may_hold := m_may_hold, F_first_beginning := F_first_beginning, b_first_beginning := Pl.bn2 F_first_beginning fun _ _ _ _ _ _ _ _ => rfl, m_first_beginning := m_first_beginning, F_first_rings := F_first_rings, b_first_rings := Pl.bn1 F_first_rings fun _ _ _ _ _ _ _ => rfl, m_first_rings := m_first_rings, F_ring_from := F_ring_from, b_ring_from := Pl.bn2 F_ring_from fun _ _ _ _ _ _ _ _ => rfl, m_ring_from := m_ring_from, F_in_odd_ring := F_in_odd_ring, b_in_odd_ring := Pl.bn2 F_in_odd_ring fun _ _ _ _ _ _ _ _ => rfl, m_in_odd_ring := m_in_odd_ring, F_in_odd_rings := F_in_odd_rings, b_in_odd_rings := Pl.bn1 F_in_odd_rings fun _ _ _ _ _ _ _ => rfl, m_in_odd_rings := m_in_odd_rings, F_odd_ring_count := F_odd_ring_count, b_odd_ring_count := Pl.bn1 F_odd_ring_count fun _ _ _ _ _ _ _ => rfl, m_odd_ring_count := m_odd_ring_count, F_ho_rings := F_ho_rings, b_ho_rings := Pl.bn1 F_ho_rings fun _ _ _ _ _ _ _ => rfl, m_ho_rings := m_ho_rings, F_ho_ring := F_ho_ring, b_ho_ring := Pl.bn2 F_ho_ring fun _ _ _ _ _ _ _ _ => rfl, m_ho_ring := m_ho_ring, F_ho_odds := F_ho_odds, b_ho_odds := Pl.bn1 F_ho_odds fun _ _ _ _ _ _ _ => rfl, m_ho_odds := m_ho_odds, F_is_in := F_is_in, b_is_in := Pl.bn2 F_is_in fun _ _ _ _ _ _ _ _ => rfl, m_is_in := m_is_in, F_lists_without := F_lists_without, b_lists_without := Pl.bn2 F_lists_without fun _ _ _ _ _ _ _ _ => rfl, m_lists_without := m_lists_without, F_ho_without := F_ho_without, b_ho_without := Pl.bn2 F_ho_without fun _ _ _ _ _ _ _ _ => rfl, m_ho_without := m_ho_without, F_call_end := F_call_end, b_call_end := Pl.bn2 F_call_end fun _ _ _ _ _ _ _ _ => rfl, m_call_end := m_call_end, F_answer_changing := F_answer_changing, b_answer_changing := Pl.bn3 F_answer_changing fun _ _ _ _ _ _ _ _ _ => rfl, m_answer_changing := m_answer_changing, F_answer_holding := F_answer_holding, b_answer_holding := Pl.bn3 F_answer_holding fun _ _ _ _ _ _ _ _ _ => rfl, m_answer_holding := m_answer_holding, F_answer_ringing := F_answer_ringing, b_answer_ringing := Pl.bn3 F_answer_ringing fun _ _ _ _ _ _ _ _ _ => rfl, m_answer_ringing := m_answer_ringing, F_answer_looking := F_answer_looking, b_answer_looking := Pl.bn3 F_answer_looking fun _ _ _ _ _ _ _ _ _ => rfl, m_answer_looking := m_answer_looking, F_answer_going_back := F_answer_going_back, b_answer_going_back := Pl.bn2 F_answer_going_back fun _ _ _ _ _ _ _ _ => rfl, m_answer_going_back := m_answer_going_back, F_answer := F_answer, b_answer := Pl.bn3 F_answer fun _ _ _ _ _ _ _ _ _ => rfl, m_answer := m_answer, F_answers := F_answers, b_answers := Pl.bn1 F_answers fun _ _ _ _ _ _ _ => rfl, m_answers := m_answers }
    have e0 := hmg.symm.trans m_answers
    cases e0
    exact ⟨d_answers, Pl.ql8 F_answers, fun base _ _ hB => Pl.qk8 (T base hB)⟩
  case S =>
    intro K H0 H xs a hO hwi hask hx sm tabs
    cases hx with
    | cons h1 h2 =>
      cases h2
      cases h1 with
      | lst hs ha =>
        have e := L2.qd5 a.1 _ ha
        subst e
        exact ⟨_, a.1, rfl, sm.seq hs, tabs _ (List.mem_cons_self ..), tabs _ (List.mem_cons_of_mem _ (List.mem_cons_self ..)), hask, fun H' p hp => .lst (L2.SqL.of hp) (L2.qg4 _)⟩
#print axioms PySem.Challenge.cw_pairsthathold_s01_answers_holds
