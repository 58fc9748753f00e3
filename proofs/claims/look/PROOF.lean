import PyProof.Rows.All
import Wide.All
import OpenK.AllK
import Wide.FinOn
import PyProof.EqAt
import PyProof.EqKinds
import PyProof.TupleCall
import Open.SpecLaws
import KE.OsHead
import KE.OsGo
import KE.BitLaws
import KE.KTryMore
import KE.RegKTryMore
import KE.KEqDeep
import PySem.Challenge.RW_losslook_s01_look
section
set_option autoImplicit false
namespace Lk
open Sn15
/-! ### the reading monad -/
theorem d_bind {α β : Type} (m : D α) (f : α → D β) (bs : List Bool) : (m >>= f) bs = (m bs).bind fun x => f x.1 x.2 := by
  show (StateT.bind m f) bs = _
  unfold StateT.bind
  show (m bs >>= fun x => _) = _
  cases m bs <;> rfl
theorem d_pure {α : Type} (a : α) (bs : List Bool) : (pure a : D α) bs = some (a, bs) := rfl
theorem d_bad {α : Type} (bs : List Bool) : (bad : D α) bs = none := rfl
theorem d_need (b : Bool) (bs : List Bool) : need b bs = if b = true then some ((), bs) else none := by
  unfold need; split <;> rfl
theorem d_assoc {α β γ : Type} (m : D α) (f : α → D β) (g : β → D γ) : ((m >>= f) >>= g) = (m >>= fun a => f a >>= g) := by
  funext bs
  simp only [d_bind]
  cases m bs <;> rfl
theorem d_pure_bind {α β : Type} (a : α) (f : α → D β) : ((pure a : D α) >>= f) = f a := by
  funext bs; rw [d_bind]; rfl
theorem d_bind_pure {α : Type} (m : D α) : (m >>= fun a => (pure a : D α)) = m := by
  funext bs; rw [d_bind]; cases m bs <;> rfl
theorem d_bad_bind {α β : Type} (f : α → D β) : ((bad : D α) >>= f) = bad := by
  funext bs; rw [d_bind]; rfl
theorem d_need_true {β : Type} (f : Unit → D β) : (need true >>= f) = f () := by
  funext bs; rw [d_bind]; rfl
theorem d_need_false {β : Type} (f : Unit → D β) : (need false >>= f) = bad := by
  funext bs; rw [d_bind]; rfl
theorem d_bind_bad {α β : Type} (m : D α) : (m >>= fun _ => (bad : D β)) = bad := by
  funext bs; rw [d_bind]; cases m bs <;> rfl
theorem d_ext {α : Type} {m m' : D α} (h : ∀ bs, m bs = m' bs) : m = m' := funext h
theorem d_map {α β : Type} (f : α → β) (m : D α) (bs : List Bool) : (f <$> m) bs = (m bs).map fun x => (f x.1, x.2) := by
  show (StateT.map f m) bs = _
  unfold StateT.map
  show (m bs >>= fun x => _) = _
  cases m bs <;> rfl

/-! ### bits -/
def b2n (x : Bool) : Nat := if x = true then 1 else 0
theorem b2n_lt (x : Bool) : b2n x < 2 := by cases x <;> decide
theorem bits_nil (n : Nat) : bits (n + 1) [] = none := rfl
theorem bits_cons (n : Nat) (x : Bool) (r : List Bool) : bits (n + 1) (x :: r) = (bits n r).map fun y => (b2n x + 2 * y.1, y.2) := by
  show ((bits n) >>= fun v => (pure ((if x = true then 1 else 0) + 2 * v) : D Nat)) r = _
  rw [d_bind]
  cases bits n r <;> rfl
def val : List Bool → Nat
  | [] => 0
  | x :: r => b2n x + 2 * val r
theorem bits_val : ∀ (n : Nat) (bs : List Bool), bits n bs = if n ≤ bs.length then some (val (bs.take n), bs.drop n) else none
  | 0, bs => by simp [val]; rfl
  | n + 1, [] => by rw [bits_nil]; simp
  | n + 1, x :: r => by
    rw [bits_cons, bits_val n r]
    by_cases h : n ≤ r.length
    · rw [if_pos h, if_pos (by simpa using h)]; rfl
    · rw [if_neg h, if_neg (by simpa using h)]; rfl
theorem val_snoc : ∀ (l : List Bool) (x : Bool), val (l ++ [x]) = val l + b2n x * 2 ^ l.length
  | [], x => by simp [val]
  | y :: r, x => by
    have e := val_snoc r x
    simp only [List.cons_append, val, e, List.length_cons, Nat.pow_succ]
    rw [Nat.mul_add, ← Nat.add_assoc, Nat.mul_comm (2 ^ r.length) 2, ← Nat.mul_assoc, ← Nat.mul_assoc, Nat.mul_comm (b2n x) 2]
theorem val_lt : ∀ (l : List Bool), val l < 2 ^ l.length
  | [] => by simp [val]
  | x :: r => by
    have := val_lt r
    have := b2n_lt x
    simp only [val, List.length_cons, Nat.pow_succ]
    omega
theorem bits_lt {n : Nat} {bs bs' : List Bool} {v : Nat} (h : bits n bs = some (v, bs')) : v < 2 ^ n := by
  rw [bits_val] at h
  by_cases hn : n ≤ bs.length
  · rw [if_pos hn] at h
    cases h
    have := val_lt (bs.take n)
    rwa [List.length_take, Nat.min_eq_left hn] at this
  · rw [if_neg hn] at h; cases h
theorem bits_len {n : Nat} {bs bs' : List Bool} {v : Nat} (h : bits n bs = some (v, bs')) : bs'.length + n = bs.length := by
  rw [bits_val] at h
  by_cases hn : n ≤ bs.length
  · rw [if_pos hn] at h
    cases h
    rw [List.length_drop]; omega
  · rw [if_neg hn] at h; cases h
theorem bits0 : bits 0 = (pure 0 : D Nat) := rfl
theorem bit_nil : bits 1 [] = none := rfl
theorem bit_cons (x : Bool) (r : List Bool) : bits 1 (x :: r) = some (b2n x, r) := by
  rw [bits_cons]; simp [bits0, d_pure]

/-! ### a file's bits -/
theorem bitsOf_len : ∀ (b : List Nat), (bitsOf b).length = 8 * b.length
  | [] => rfl
  | c :: r => by
    have e := bitsOf_len r
    unfold bitsOf at e ⊢
    rw [List.flatMap_cons, List.length_append, e]
    simp; omega
theorem bitsOf_get : ∀ (b : List Nat) (i : Nat), (bitsOf b)[i]? = (b[i / 8]?).map fun c => c.testBit (i % 8)
  | [], i => by simp [bitsOf]
  | c :: r, i => by
    have e := bitsOf_get r (i - 8)
    unfold bitsOf at e ⊢
    rw [List.flatMap_cons]
    by_cases h : i < 8
    · rw [List.getElem?_append_left (by simpa using h)]
      have : i / 8 = 0 := by omega
      rw [this, Nat.mod_eq_of_lt h]
      simp [h]
    · rw [List.getElem?_append_right (by simpa using h)]
      have h1 : i / 8 = (i - 8) / 8 + 1 := by omega
      have h2 : (i - 8) % 8 = i % 8 := by omega
      simp only [List.length_map, List.length_range]
      rw [e, h1, h2]
      simp
theorem drop_bits {b : List Nat} {i : Nat} (h : i < 8 * b.length) : ∃ c, b[i / 8]? = some c ∧ (bitsOf b).drop i = c.testBit (i % 8) :: (bitsOf b).drop (i + 1) := by
  have hi : i / 8 < b.length := by omega
  refine ⟨b[i / 8], List.getElem?_eq_getElem hi, ?_⟩
  have hl : i < (bitsOf b).length := by rw [bitsOf_len]; exact h
  rw [List.drop_eq_getElem_cons hl]
  have e := bitsOf_get b i
  rw [List.getElem?_eq_getElem hl, List.getElem?_eq_getElem hi] at e
  simp only [Option.map_some, Option.some.injEq] at e
  rw [e]
theorem b2n_test (c i : Nat) : b2n (c.testBit i) = c / 2 ^ i % 2 := by
  unfold b2n
  have := Nat.testBit_eq_decide_div_mod_eq (x := c) (i := i)
  rw [this]
  have h2 : c / 2 ^ i % 2 < 2 := Nat.mod_lt _ (by decide)
  by_cases h : c / 2 ^ i % 2 = 1
  · simp [h]
  · have h0 : c / 2 ^ i % 2 = 0 := by omega
    simp [h0]
end Lk
end
section
set_option autoImplicit false
namespace Lk
open Sn15
/-! ### codes -/
/-- the walk down the lengths: what is left of the lists of symbols, and the rank -/
def symT : List (List Nat) → Nat → D Nat
  | [], _ => bad
  | w :: ws, r => match w[r]? with
    | some s => pure s
    | none => do
      let b ← bits 1
      symT ws (2 * (r - w.length) + b)
/-- the words fill all there is: c places are left at this length -/
def fitsW : Nat → List (List Nat) → Prop
  | c, [] => c = 0
  | c, w :: ws => w.length ≤ c ∧ fitsW (2 * (c - w.length)) ws
/-- the symbols whose words have n bits -/
def symsOf (c : Code) (n : Nat) : List Nat := (List.range c.length).filter fun s => c.getD s 0 == n
/-- the lists for the lengths n, n + 1, .. (k of them) -/
def wordsFrom (c : Code) : Nat → Nat → List (List Nat)
  | _, 0 => []
  | n, k + 1 => symsOf c n :: wordsFrom c (n + 1) k
/-- what words of 1 to n bits take of 2 ^ 15 -/
def taken (c : Code) : Nat → Nat
  | 0 => 0
  | n + 1 => taken c n + (symsOf c (n + 1)).length * 2 ^ (14 - n)

/-! a sum over a list, by the length of words -/
def part (c : Code) (n s : Nat) : Nat := (c.zipIdx.map fun x => if x.1 ≠ 0 ∧ (x.1 < n ∨ (x.1 = n ∧ x.2 < s)) then 2 ^ (15 - x.1) else 0).sum
theorem word_part (c : Code) (s : Nat) : word c s = part c (c.getD s 0) s / 2 ^ (15 - c.getD s 0) := rfl
theorem zipIdx_range : ∀ (c : List Nat) (k : Nat), c.zipIdx k = (List.range c.length).map fun i => (c.getD i 0, i + k)
  | [], _ => rfl
  | x :: r, k => by
    rw [List.zipIdx_cons, zipIdx_range r (k + 1), List.length_cons, List.range_succ_eq_map, List.map_cons, List.map_map]
    simp only [List.getD_cons_zero, Nat.zero_add, List.cons.injEq, true_and]
    apply List.map_congr_left
    intro i _
    simp only [Function.comp, List.getD_cons_succ]
    congr 1
    omega
theorem sum_congr {l : List Nat} {f g : Nat → Nat} (h : ∀ i ∈ l, f i = g i) : (l.map f).sum = (l.map g).sum := by
  rw [List.map_congr_left h]
theorem sum_add (f g : Nat → Nat) : ∀ (l : List Nat), (l.map fun i => f i + g i).sum = (l.map f).sum + (l.map g).sum
  | [] => rfl
  | x :: r => by simp only [List.map_cons, List.sum_cons, sum_add f g r]; omega
theorem sum_ite (p : Nat → Bool) (v : Nat) : ∀ (l : List Nat), (l.map fun i => if p i = true then v else 0).sum = (l.filter p).length * v
  | [] => by simp
  | x :: r => by
    simp only [List.map_cons, List.sum_cons, sum_ite p v r, List.filter_cons]
    by_cases h : p x = true
    · simp [h, Nat.add_mul]; omega
    · simp [h]
theorem part_range (c : Code) (n s : Nat) : part c n s = ((List.range c.length).map fun i => if c.getD i 0 ≠ 0 ∧ (c.getD i 0 < n ∨ (c.getD i 0 = n ∧ i < s)) then 2 ^ (15 - c.getD i 0) else 0).sum := by
  unfold part
  rw [zipIdx_range, List.map_map]
  rfl
/-- how many of one length stand ahead of s -/
def rank (c : Code) (n s : Nat) : Nat := ((List.range c.length).filter fun i => c.getD i 0 == n && decide (i < s)).length
theorem part_zero (c : Code) (n : Nat) : part c (n + 1) 0 = taken c n := by
  induction n with
  | zero =>
    rw [part_range]
    show _ = 0
    have : (List.map (fun i => if c.getD i 0 ≠ 0 ∧ (c.getD i 0 < 0 + 1 ∨ c.getD i 0 = 0 + 1 ∧ i < 0) then 2 ^ (15 - c.getD i 0) else 0) (List.range c.length)) = List.map (fun _ => 0) (List.range c.length) := by
      apply List.map_congr_left
      intro i _
      rw [if_neg]
      omega
    rw [this]
    generalize List.range c.length = l
    induction l with
    | nil => rfl
    | cons _ r ih => simp only [List.map_cons, List.sum_cons, ih]
  | succ n ih =>
    rw [taken, ← ih, part_range, part_range]
    unfold symsOf
    rw [← sum_ite (fun i => c.getD i 0 == n + 1) (2 ^ (14 - n)), ← sum_add]
    apply sum_congr
    intro i _
    by_cases h : c.getD i 0 = n + 1
    · rw [if_pos (show c.getD i 0 ≠ 0 ∧ _ by omega), if_neg (show ¬(c.getD i 0 ≠ 0 ∧ (c.getD i 0 < n + 1 ∨ c.getD i 0 = n + 1 ∧ i < 0)) by omega), if_pos (by simpa using h), h]
      simp
    · rw [if_neg (show ¬ ((c.getD i 0 == n + 1) = true) by simpa using h)]
      by_cases h2 : c.getD i 0 ≠ 0 ∧ c.getD i 0 < n + 1
      · rw [if_pos (by omega), if_pos (by omega)]
        rfl
      · rw [if_neg (by omega), if_neg (by omega)]
theorem part_rank (c : Code) (n s : Nat) (hn : 0 < n) : part c n s = part c n 0 + rank c n s * 2 ^ (15 - n) := by
  unfold rank
  rw [part_range, part_range, ← sum_ite (fun i => c.getD i 0 == n && decide (i < s)) (2 ^ (15 - n)), ← sum_add]
  apply sum_congr
  intro i _
  by_cases h : c.getD i 0 = n ∧ i < s
  · rw [if_pos (by omega), if_neg (by omega), if_pos (by rw [Bool.and_eq_true]; exact ⟨beq_iff_eq.mpr h.1, decide_eq_true h.2⟩), h.1]
    simp
  · rw [if_neg (show ¬ ((c.getD i 0 == n && decide (i < s)) = true) by rw [Bool.and_eq_true, beq_iff_eq, decide_eq_true_iff]; exact h)]
    by_cases h2 : c.getD i 0 ≠ 0 ∧ c.getD i 0 < n
    · rw [if_pos (by omega), if_pos (by omega)]
      rfl
    · rw [if_neg (by omega), if_neg (by omega)]
/-- the taken part is a multiple of the next words' step -/
theorem taken_dvd (c : Code) : ∀ (n : Nat), n ≤ 14 → 2 ^ (14 - n) ∣ taken c n
  | 0, _ => ⟨0, rfl⟩
  | n + 1, h => by
    obtain ⟨k, hk⟩ := taken_dvd c n (by omega)
    have e : 2 ^ (14 - n) = 2 ^ (14 - (n + 1)) * 2 := by
      rw [← Nat.pow_succ]; congr 1; omega
    refine ⟨2 * k + (symsOf c (n + 1)).length * 2, ?_⟩
    rw [taken, hk, e]
    rw [Nat.mul_add, Nat.mul_assoc, Nat.mul_left_comm (symsOf c (n + 1)).length, ← Nat.mul_assoc]
/-- a symbol's word: the first of its length and its rank -/
theorem word_eq (c : Code) (n s : Nat) (h : c.getD s 0 = n + 1) (hn : n ≤ 14) : word c s = taken c n / 2 ^ (14 - n) + rank c (n + 1) s := by
  rw [word_part, h, part_rank c (n + 1) s (by omega), part_zero]
  have e : 15 - (n + 1) = 14 - n := by omega
  rw [e, Nat.add_mul_div_right _ _ (Nat.pow_pos (by decide))]
/-- in a list that rises, the r-th is the one with r ahead of it -/
theorem find_rank (p : Nat → Bool) (g : Nat → Nat) (hg : ∀ s, g s = ((List.range s).filter p).length) (r : Nat) : ∀ (N : Nat), (List.range N).find? (fun s => p s && g s == r) = ((List.range N).filter p)[r]?
  | 0 => by simp
  | N + 1 => by
    rw [List.range_succ, List.find?_append, find_rank p g hg r N, List.filter_append]
    by_cases hr : r < ((List.range N).filter p).length
    · rw [List.getElem?_append_left hr, List.getElem?_eq_getElem hr]
      rfl
    · rw [List.getElem?_append_right (by omega), List.getElem?_eq_none (by omega)]
      rw [Option.none_or]
      by_cases hp : p N = true
      · by_cases e : g N = r
        · have : r - ((List.range N).filter p).length = 0 := by rw [hg] at e; omega
          rw [this]
          simp [hp, e]
        · have : r - ((List.range N).filter p).length ≠ 0 := by rw [hg] at e; omega
          obtain ⟨k, hk⟩ := Nat.exists_eq_succ_of_ne_zero this
          rw [hk]
          simp [hp, e]
      · simp [hp]
theorem rank_range {c : Code} {n s : Nat} (hs : s ≤ c.length) : rank c n s = ((List.range s).filter fun i => c.getD i 0 == n).length := by
  unfold rank
  obtain ⟨k, hk⟩ : ∃ k, c.length = s + k := ⟨c.length - s, by omega⟩
  rw [hk, List.range_add, List.filter_append, List.length_append]
  have e1 : List.filter (fun i => c.getD i 0 == n && decide (i < s)) (List.range s) = List.filter (fun i => c.getD i 0 == n) (List.range s) := by
    apply List.filter_congr
    intro i hi
    simp [List.mem_range.mp hi]
  have e2 : List.filter (fun i => c.getD i 0 == n && decide (i < s)) (List.map (fun x => s + x) (List.range k)) = [] := by
    rw [List.filter_eq_nil_iff]
    intro i hi
    obtain ⟨j, _, rfl⟩ := List.mem_map.mp hi
    simp
  rw [e1, e2]
  rfl
/-- the specification's search is the r-th symbol of that length -/
theorem find_word (c : Code) (n w : Nat) (hn : n ≤ 14) (hw : taken c n / 2 ^ (14 - n) ≤ w) : ((List.range c.length).find? fun s => c.getD s 0 == n + 1 && word c s == w) = (symsOf c (n + 1))[w - taken c n / 2 ^ (14 - n)]? := by
  unfold symsOf
  rw [← find_rank (fun s => c.getD s 0 == n + 1) (fun s => ((List.range s).filter fun i => c.getD i 0 == n + 1).length) (fun _ => rfl)]
  have key : ∀ (l : List Nat), (∀ s ∈ l, s < c.length) → (l.find? fun s => c.getD s 0 == n + 1 && word c s == w) = (l.find? fun s => c.getD s 0 == n + 1 && ((List.range s).filter fun i => c.getD i 0 == n + 1).length == w - taken c n / 2 ^ (14 - n)) := by
    intro l
    induction l with
    | nil => intro _; rfl
    | cons s r ih =>
      intro h
      rw [List.find?_cons, List.find?_cons, ih fun i hi => h i (List.mem_cons_of_mem _ hi)]
      have : (c.getD s 0 == n + 1 && word c s == w) = (c.getD s 0 == n + 1 && ((List.range s).filter fun i => c.getD i 0 == n + 1).length == w - taken c n / 2 ^ (14 - n)) := by
        by_cases hc : c.getD s 0 = n + 1
        · have hs := h s List.mem_cons_self
          rw [word_eq c n s hc hn, rank_range (Nat.le_of_lt hs)]
          simp only [hc, beq_self_eq_true, Bool.true_and]
          rw [Bool.eq_iff_iff]
          simp only [beq_iff_eq]
          omega
        · have : (c.getD s 0 == n + 1) = false := by simpa using hc
          rw [this]; rfl
      rw [this]
  exact key _ fun s hs => List.mem_range.mp hs
theorem bits1_lt {bs bs' : List Bool} {v : Nat} (h : bits 1 bs = some (v, bs')) : v < 2 := bits_lt h
/-- **the specification's walk is the walk down the lists** -/
theorem symbolFrom_eq (c : Code) : ∀ (k n rd : Nat), n + k = 15 → taken c n ≤ 2 * rd * 2 ^ (14 - n) ∨ n = 15 → symbolFrom c k rd n = (bits 1 >>= fun b => symT (wordsFrom c (n + 1) k) (2 * rd + b - taken c n / 2 ^ (14 - n)))
  | 0, n, rd, hk, _ => by
    show bad = _
    funext bs
    rw [d_bind]
    cases bits 1 bs <;> rfl
  | k + 1, n, rd, hk, ht => by
    have hn : n ≤ 14 := by omega
    have ht : taken c n ≤ 2 * rd * 2 ^ (14 - n) := by
      rcases ht with h | h
      · exact h
      · omega
    have hdiv : taken c n / 2 ^ (14 - n) ≤ 2 * rd := by
      calc taken c n / 2 ^ (14 - n) ≤ 2 * rd * 2 ^ (14 - n) / 2 ^ (14 - n) := Nat.div_le_div_right ht
        _ = 2 * rd := Nat.mul_div_cancel _ (Nat.pow_pos (by decide))
    funext bs
    show (bits 1 >>= fun b => _) bs = _
    rw [d_bind, d_bind]
    cases hb : bits 1 bs with
    | none => rfl
    | some x =>
      obtain ⟨b, bs'⟩ := x
      simp only [Option.bind_some]
      rw [find_word c n (2 * rd + b) hn (by omega)]
      show _ = symT (symsOf c (n + 1) :: wordsFrom c (n + 1 + 1) k) (2 * rd + b - taken c n / 2 ^ (14 - n)) bs'
      unfold symT
      cases hs : (symsOf c (n + 1))[2 * rd + b - taken c n / 2 ^ (14 - n)]? with
      | some s => rfl
      | none =>
        simp only []
        have hlen : (symsOf c (n + 1)).length ≤ 2 * rd + b - taken c n / 2 ^ (14 - n) := List.getElem?_eq_none_iff.mp hs
        obtain ⟨q, hq⟩ := taken_dvd c n hn
        have hpos : 0 < 2 ^ (14 - n) := Nat.pow_pos (by decide)
        have hq' : taken c n / 2 ^ (14 - n) = q := by rw [hq, Nat.mul_comm, Nat.mul_div_cancel _ hpos]
        rw [hq'] at hlen ⊢
        have hnext : taken c (n + 1) ≤ (2 * rd + b) * 2 ^ (14 - n) := by
          rw [taken, hq, Nat.mul_comm (2 ^ (14 - n)) q, ← Nat.add_mul]
          exact Nat.mul_le_mul_right _ (by omega)
        by_cases hn14 : n = 14
        · have hk0 : k = 0 := by omega
          subst hk0
          rw [symbolFrom_eq c 0 (n + 1) (2 * rd + b) (by omega) (.inr (by omega))]
          rw [d_bind, d_bind]
          cases bits 1 bs' <;> rfl
        · have e1 : 2 ^ (14 - n) = 2 * 2 ^ (14 - (n + 1)) := by
            rw [← Nat.pow_succ']; congr 1; omega
          rw [symbolFrom_eq c k (n + 1) (2 * rd + b) (by omega) (.inl (by rw [e1] at hnext; rw [Nat.mul_assoc] ; rw [Nat.mul_left_comm]; exact hnext))]
          have e2 : taken c (n + 1) / 2 ^ (14 - (n + 1)) = 2 * (q + (symsOf c (n + 1)).length) := by
            rw [taken, hq, Nat.mul_comm (2 ^ (14 - n)) q, ← Nat.add_mul, e1, ← Nat.mul_assoc, Nat.mul_div_cancel _ (Nat.pow_pos (by decide)), Nat.mul_comm]
          rw [e2]
          rw [d_bind, d_bind]
          cases bits 1 bs' with
          | none => rfl
          | some y =>
            simp only [Option.bind_some]
            congr 1
            omega
theorem symbol_eq (c : Code) (h : ∀ s, ((List.range c.length).filter fun s => c.getD s 0 != 0) ≠ [s]) : symbol c = (bits 1 >>= symT (wordsFrom c 1 15)) := by
  unfold symbol
  split
  · rename_i s hs
    exact absurd hs (h s)
  · rw [symbolFrom_eq c 15 0 0 rfl (.inl (Nat.le_refl _))]
    simp only [taken, Nat.mul_zero, Nat.zero_add, Nat.zero_div, Nat.sub_zero]
theorem symbol_sole {c : Code} {s : Nat} (h : ((List.range c.length).filter fun s => c.getD s 0 != 0) = [s]) : symbol c = pure s := by
  unfold symbol
  rw [h]
/-- what comes out is one of the symbols -/
theorem symT_mem : ∀ {ws : List (List Nat)} {r s : Nat} {bs bs' : List Bool}, symT ws r bs = some (s, bs') → ∃ w ∈ ws, s ∈ w
  | [], _, _, _, _, h => by cases h
  | w :: ws, r, s, bs, bs', h => by
    unfold symT at h
    cases hw : w[r]? with
    | some x =>
      rw [hw] at h
      cases h
      exact ⟨w, List.mem_cons_self, List.mem_of_getElem? hw⟩
    | none =>
      rw [hw] at h
      simp only [] at h
      rw [d_bind] at h
      cases hb : bits 1 bs with
      | none => rw [hb] at h; cases h
      | some y =>
        rw [hb] at h
        obtain ⟨w', h1, h2⟩ := symT_mem h
        exact ⟨w', List.mem_cons_of_mem _ h1, h2⟩
theorem symsOf_lt {c : Code} {n s : Nat} (h : s ∈ symsOf c n) : s < c.length := List.mem_range.mp (List.mem_filter.mp h).1
theorem wordsFrom_mem {c : Code} : ∀ {k n : Nat} {w : List Nat}, w ∈ wordsFrom c n k → ∃ m, w = symsOf c m
  | 0, _, _, h => by cases h
  | k + 1, n, w, h => by
    rcases List.mem_cons.mp h with e | h
    · exact ⟨n, e⟩
    · exact wordsFrom_mem h
theorem symbol_lt {c : Code} {s : Nat} {bs bs' : List Bool} (h : symbol c bs = some (s, bs')) : s < c.length := by
  by_cases hs : ∃ s, ((List.range c.length).filter fun s => c.getD s 0 != 0) = [s]
  · obtain ⟨x, hx⟩ := hs
    rw [symbol_sole hx] at h
    cases h
    exact List.mem_range.mp (List.mem_filter.mp (by rw [hx]; exact List.mem_cons_self : s ∈ _)).1
  · rw [symbol_eq c fun s e => hs ⟨s, e⟩, d_bind] at h
    cases hb : bits 1 bs with
    | none => rw [hb] at h; cases h
    | some y =>
      rw [hb] at h
      obtain ⟨w, h1, h2⟩ := symT_mem h
      obtain ⟨m, rfl⟩ := wordsFrom_mem h1
      exact symsOf_lt h2
end Lk
end
section
set_option autoImplicit false
namespace Lk
open Sn15
/-! ### codes by their lengths -/
theorem taken_mono (c : Code) {m : Nat} : ∀ {n : Nat}, m ≤ n → taken c m ≤ taken c n
  | 0, h => by have : m = 0 := by omega
               subst this; exact Nat.le_refl _
  | n + 1, h => by
    by_cases e : m = n + 1
    · subst e; exact Nat.le_refl _
    · exact Nat.le_trans (taken_mono c (n := n) (by omega)) (Nat.le_add_right _ _)
theorem fits_of (c : Code) : ∀ (k n q : Nat), n + k = 16 → 1 ≤ n → (n ≤ 15 → taken c (n - 1) + q * 2 ^ (15 - n) = taken c 15) → (n = 16 → q = 0) → fitsW q (wordsFrom c n k)
  | 0, n, q, h, _, _, h2 => h2 (by omega)
  | k + 1, n, q, h, h1, hq, _ => by
    have hq := hq (by omega)
    obtain ⟨m, rfl⟩ : ∃ m, n = m + 1 := ⟨n - 1, by omega⟩
    have e0 : m + 1 - 1 = m := rfl
    have e1 : 15 - (m + 1) = 14 - m := by omega
    rw [e0, e1] at hq
    have hm := taken_mono c (m := m + 1) (n := 15) (by omega)
    rw [taken] at hm
    have hpos : 0 < 2 ^ (14 - m) := Nat.pow_pos (by decide)
    have hle : (symsOf c (m + 1)).length ≤ q := Nat.le_of_mul_le_mul_right (by omega) hpos
    refine ⟨hle, fits_of c k (m + 1 + 1) _ (by omega) (by omega) (fun h15 => ?_) (fun h16 => ?_)⟩
    · have e2 : m + 1 + 1 - 1 = m + 1 := rfl
      have e3 : 2 * 2 ^ (15 - (m + 1 + 1)) = 2 ^ (14 - m) := by rw [← Nat.pow_succ']; congr 1; omega
      rw [e2, taken, Nat.mul_comm 2, Nat.mul_assoc, e3, Nat.add_assoc, ← Nat.add_mul, Nat.add_sub_cancel' hle]
      exact hq
    · have hm14 : m = 14 := by omega
      subst hm14
      have : q = (symsOf c (14 + 1)).length := by
        have h15 : taken c 15 = taken c 14 + (symsOf c (14 + 1)).length * 2 ^ (14 - 14) := rfl
        rw [h15] at hq
        simp at hq
        omega
      omega
theorem fits_full {c : Code} (h : taken c 15 = 2 ^ 15) : fitsW 2 (wordsFrom c 1 15) :=
  fits_of c 15 1 2 rfl (Nat.le_refl _) (fun _ => by rw [h]; show 0 + 2 * 2 ^ 14 = 2 ^ 15; decide) (fun h => absurd h (by decide))
theorem range_get (c : List Nat) : (List.range c.length).map (fun i => c.getD i 0) = c := by
  apply List.ext_getElem
  · simp
  · intro i h1 h2
    rw [List.getElem_map, List.getElem_range, List.getD_eq_getElem?_getD, List.getElem?_eq_getElem h2]
    rfl
theorem sum_range (c : List Nat) (f : Nat → Nat) : (c.map f).sum = ((List.range c.length).map fun i => f (c.getD i 0)).sum := by
  have e : c.map f = (List.range c.length).map fun i => f (c.getD i 0) := by
    conv => lhs; rw [← range_get c]
    rw [List.map_map]; rfl
  rw [e]
theorem taken_sum_to (c : Code) : ∀ (n : Nat), n ≤ 15 → ((List.range c.length).map fun i => if c.getD i 0 ≠ 0 ∧ c.getD i 0 ≤ n then 2 ^ (15 - c.getD i 0) else 0).sum = taken c n
  | 0, _ => by
    have : (List.map (fun i => if c.getD i 0 ≠ 0 ∧ c.getD i 0 ≤ 0 then 2 ^ (15 - c.getD i 0) else 0) (List.range c.length)) = List.map (fun _ => 0) (List.range c.length) := by
      apply List.map_congr_left
      intro i _
      rw [if_neg]
      omega
    rw [this]
    show _ = 0
    generalize List.range c.length = l
    induction l with
    | nil => rfl
    | cons _ r ih => simp only [List.map_cons, List.sum_cons, ih]
  | n + 1, h => by
    rw [taken, ← taken_sum_to c n (by omega)]
    unfold symsOf
    rw [← sum_ite (fun i => c.getD i 0 == n + 1) (2 ^ (14 - n)), ← sum_add]
    apply sum_congr
    intro i _
    by_cases h : c.getD i 0 = n + 1
    · rw [if_pos (by omega), if_neg (by omega), if_pos (by simpa using h), h]
      simp
    · rw [if_neg (show ¬ ((c.getD i 0 == n + 1) = true) by simpa using h)]
      by_cases h2 : c.getD i 0 ≠ 0 ∧ c.getD i 0 ≤ n
      · rw [if_pos (by omega), if_pos (by omega)]
        rfl
      · rw [if_neg (by omega), if_neg (by omega)]
theorem taken_sum {c : Code} (h15 : ∀ n ∈ c, n ≤ 15) : (c.map fun n => if n = 0 then 0 else 2 ^ (15 - n)).sum = taken c 15 := by
  rw [← taken_sum_to c 15 (Nat.le_refl _), sum_range]
  apply sum_congr
  intro i hi
  have hl : c.getD i 0 ≤ 15 := by
    have := List.mem_range.mp hi
    rw [List.getD_eq_getElem?_getD, List.getElem?_eq_getElem this]
    exact h15 _ (List.getElem_mem _)
  by_cases h0 : c.getD i 0 = 0
  · rw [if_pos h0, if_neg (by omega)]
  · rw [if_neg h0, if_pos ⟨h0, hl⟩]
theorem used_range (c : List Nat) : (c.filter fun n => n != 0).length = ((List.range c.length).filter fun s => c.getD s 0 != 0).length := by
  conv => lhs; rw [← range_get c]
  rw [List.filter_map, List.length_map]
  rfl
theorem used_count (c : Code) : ((List.range c.length).filter fun s => c.getD s 0 != 0).length + (symsOf c 0).length = c.length := by
  unfold symsOf
  have h : ∀ (l : List Nat), (l.filter fun s => c.getD s 0 != 0).length + (l.filter fun s => c.getD s 0 == 0).length = l.length := by
    intro l
    induction l with
    | nil => rfl
    | cons x r ih =>
      rw [List.filter_cons, List.filter_cons]
      by_cases h0 : c.getD x 0 = 0
      · simp only [h0, bne_self_eq_false, Bool.false_eq_true, if_false, beq_self_eq_true, if_true, List.length_cons]; omega
      · have h1 : (c.getD x 0 != 0) = true := by simpa using h0
        have h2 : (c.getD x 0 == 0) = false := by simpa using h0
        simp only [h1, h2, if_true, Bool.false_eq_true, if_false, List.length_cons]; omega
  have := h (List.range c.length)
  rwa [List.length_range] at this
/-- good, as the program asks it -/
theorem good_iff {c : Code} (h15 : ∀ n ∈ c, n ≤ 15) : good c = true ↔ (c.length - (symsOf c 0).length = 1 ∨ taken c 15 = 2 ^ 15) := by
  unfold good
  rw [Bool.or_eq_true, beq_iff_eq, beq_iff_eq, taken_sum h15, used_range]
  have := used_count c
  constructor
  · rintro (h | h)
    · exact .inl (by omega)
    · exact .inr h
  · rintro (h | h)
    · exact .inl (by omega)
    · exact .inr h
theorem one_of_len {l : List Nat} (h : l.length = 1) : ∃ s, l = [s] := by
  match l, h with
  | [s], _ => exact ⟨s, rfl⟩
/-- the sole symbol -/
theorem sole_of {c : Code} (h : c.length - (symsOf c 0).length = 1) : ∃ s, ((List.range c.length).filter fun s => c.getD s 0 != 0) = [s] ∧ s < c.length ∧ c.getD s 0 ≠ 0 ∧ ∀ i, i < c.length → i ≠ s → c.getD i 0 = 0 := by
  have := used_count c
  obtain ⟨s, hs⟩ := one_of_len (l := (List.range c.length).filter fun s => c.getD s 0 != 0) (by omega)
  have hm : s ∈ (List.range c.length).filter fun s => c.getD s 0 != 0 := by rw [hs]; exact List.mem_cons_self
  have hm' := List.mem_filter.mp hm
  refine ⟨s, hs, List.mem_range.mp hm'.1, by simpa using hm'.2, fun i hi hne => ?_⟩
  by_cases h0 : c.getD i 0 = 0
  · exact h0
  · exfalso
    have : i ∈ (List.range c.length).filter fun s => c.getD s 0 != 0 := List.mem_filter.mpr ⟨List.mem_range.mpr hi, by simpa using h0⟩
    rw [hs] at this
    exact hne (by simpa using this)
/-! a code whose last lengths are missing -/
theorem getD_pad (c : List Nat) (k i : Nat) : (c ++ List.replicate k 0).getD i 0 = c.getD i 0 := by
  rw [List.getD_eq_getElem?_getD, List.getD_eq_getElem?_getD]
  by_cases h : i < c.length
  · rw [List.getElem?_append_left h]
  · rw [List.getElem?_append_right (by omega), List.getElem?_eq_none (l := c) (by omega), List.getElem?_replicate]
    split <;> rfl
theorem symsOf_pad (c : Code) (k n : Nat) (hn : 0 < n) : symsOf (c ++ List.replicate k 0) n = symsOf c n := by
  unfold symsOf
  rw [List.length_append, List.length_replicate, List.range_add, List.filter_append]
  have e1 : List.filter (fun s => (c ++ List.replicate k 0).getD s 0 == n) (List.range c.length) = List.filter (fun s => c.getD s 0 == n) (List.range c.length) := by
    apply List.filter_congr
    intro i _
    rw [getD_pad]
  have e2 : List.filter (fun s => (c ++ List.replicate k 0).getD s 0 == n) (List.map (fun x => c.length + x) (List.range k)) = [] := by
    rw [List.filter_eq_nil_iff]
    intro i hi
    obtain ⟨j, _, rfl⟩ := List.mem_map.mp hi
    rw [getD_pad, List.getD_eq_getElem?_getD, List.getElem?_eq_none (by omega)]
    simp; omega
  rw [e1, e2, List.append_nil]
theorem used_pad (c : Code) (k : Nat) : ((List.range (c ++ List.replicate k 0).length).filter fun s => (c ++ List.replicate k 0).getD s 0 != 0) = ((List.range c.length).filter fun s => c.getD s 0 != 0) := by
  rw [List.length_append, List.length_replicate, List.range_add, List.filter_append]
  have e1 : List.filter (fun s => (c ++ List.replicate k 0).getD s 0 != 0) (List.range c.length) = List.filter (fun s => c.getD s 0 != 0) (List.range c.length) := by
    apply List.filter_congr
    intro i _
    rw [getD_pad]
  have e2 : List.filter (fun s => (c ++ List.replicate k 0).getD s 0 != 0) (List.map (fun x => c.length + x) (List.range k)) = [] := by
    rw [List.filter_eq_nil_iff]
    intro i hi
    obtain ⟨j, _, rfl⟩ := List.mem_map.mp hi
    rw [getD_pad, List.getD_eq_getElem?_getD, List.getElem?_eq_none (by omega)]
    simp
  rw [e1, e2, List.append_nil]
theorem wordsFrom_pad (c : Code) (j : Nat) : ∀ (k n : Nat), 0 < n → wordsFrom (c ++ List.replicate j 0) n k = wordsFrom c n k
  | 0, _, _ => rfl
  | k + 1, n, h => by
    show symsOf _ n :: _ = symsOf c n :: _
    rw [symsOf_pad c j n h, wordsFrom_pad c j k (n + 1) (by omega)]
theorem symbol_pad (c : Code) (k : Nat) : symbol (c ++ List.replicate k 0) = symbol c := by
  by_cases hs : ∃ s, ((List.range c.length).filter fun s => c.getD s 0 != 0) = [s]
  · obtain ⟨s, hs⟩ := hs
    rw [symbol_sole hs, symbol_sole (by rw [used_pad]; exact hs)]
  · rw [symbol_eq c fun s e => hs ⟨s, e⟩, symbol_eq _ fun s e => hs ⟨s, by rw [used_pad] at e; exact e⟩, wordsFrom_pad c k 15 1 (by decide)]
theorem good_pad (c : Code) (k : Nat) : good (c ++ List.replicate k 0) = good c := by
  unfold good
  rw [List.filter_append, List.map_append, List.sum_append]
  have e1 : (List.replicate k 0).filter (fun n => n != 0) = [] := by
    rw [List.filter_eq_nil_iff]
    intro i hi
    rw [List.eq_of_mem_replicate hi]; decide
  have e2 : ((List.replicate k 0).map fun n => if n = 0 then 0 else 2 ^ (15 - n)).sum = 0 := by
    rw [List.map_replicate]; simp
  rw [e1, e2, List.append_nil, Nat.add_zero]
end Lk
end
section
set_option autoImplicit false
namespace Lk
open Sn15
/-! ### codes read, in the program's order -/
def short1 (size a : Nat) : Code := (List.range size).map fun s => if s = a then 1 else 0
def short2 (size a b : Nat) : Code := (List.range size).map fun s => if s = a ∨ s = b then 1 else 0
def mShort (size : Nat) : D Code := do
  let two ← bits 1
  let long ← bits 1
  let a ← bits (if long = 1 then 8 else 1)
  need (decide (a < size))
  if two = 1 then do
    let b ← bits 8
    need (decide (b < size) && b != a)
    return short2 size a b
  else return short1 size a
def colOf (o : List (Nat × Nat)) : Code := (List.range 19).map fun s => ((o.find? fun x => x.1 == s).map fun x => x.2).getD 0
def mCol : D Code := do
  let n ← bits 4
  let o ← orderLengths (n + 4) ORDER
  need (good (colOf o))
  return colOf o
def mMost (size : Nat) : D Nat := do
  if (← bits 1) = 0 then pure size else do
    let k ← bits 3
    let m ← bits (2 + 2 * k)
    need (decide (m + 2 ≤ size))
    return m + 2
def mLengths (size : Nat) : D Code := do
  let c ← mCol
  let most ← mMost size
  lengths c size (size + 1) most 8 []
def mCode (size : Nat) : D Code := do
  if (← bits 1) = 1 then mShort size else do
    let l ← mLengths size
    need (good l)
    return l
theorem code_short (size : Nat) : (do
    let two ← bits 1
    let long ← bits 1
    let a ← bits (if long = 1 then 8 else 1)
    let b ← if two = 1 then (do return some (← bits 8)) else pure none
    need (decide (a < size) && match b with
      | some b => decide (b < size) && b != a
      | none => true)
    return (List.range size).map fun s => if s = a ∨ some s = b then 1 else 0 : D Code) = mShort size := by
  unfold mShort
  apply d_ext
  intro bs
  simp only [d_bind]
  cases bits 1 bs with
  | none => rfl
  | some x =>
    obtain ⟨two, bs⟩ := x
    simp only [Option.bind_some]
    cases bits 1 bs with
    | none => rfl
    | some x =>
      obtain ⟨long, bs⟩ := x
      simp only [Option.bind_some]
      cases bits (if long = 1 then 8 else 1) bs with
      | none => rfl
      | some x =>
        obtain ⟨a, bs⟩ := x
        simp only [Option.bind_some]
        by_cases h : two = 1
        · simp only [h, if_true]
          simp only [d_assoc, d_pure_bind]
          by_cases ha : a < size
          · simp only [decide_eq_true ha, Bool.true_and]
            have e : need true bs = some ((), bs) := rfl
            rw [e]
            simp only [Option.bind_some]
            rw [d_bind, d_bind]
            cases bits 8 bs with
            | none => rfl
            | some x =>
              simp only [Option.bind_some, Option.some.injEq]
              rfl
          · have hf : decide (a < size) = false := decide_eq_false ha
            simp only [hf, Bool.false_and, d_need_false, d_bind_bad, d_need]
            rfl
        · simp only [h, if_false]
          simp only [d_pure_bind, Bool.and_true]
          by_cases ha : a < size
          · simp only [decide_eq_true ha, d_need_true, reduceCtorEq, or_false]
            rfl
          · simp only [decide_eq_false ha, d_need_false]
            rfl
theorem code_eq (size : Nat) : code size = mCode size := by
  unfold mCode mLengths mCol mMost
  apply d_ext
  intro bs
  show (bits 1 >>= fun t => if t = 1 then _ else _) bs = (bits 1 >>= fun t => if t = 1 then _ else _) bs
  rw [d_bind, d_bind]
  cases bits 1 bs with
  | none => rfl
  | some x =>
    obtain ⟨t, bs⟩ := x
    simp only [Option.bind_some]
    by_cases ht : t = 1
    · rw [if_pos ht, if_pos ht]
      exact congrFun (code_short size) bs
    · rw [if_neg ht, if_neg ht]
      simp only [d_assoc, d_pure_bind]
      rw [d_bind, d_bind]
      cases bits 4 bs with
      | none => rfl
      | some x =>
        obtain ⟨n, bs⟩ := x
        simp only [Option.bind_some]
        rw [d_bind, d_bind]
        cases orderLengths (n + 4) ORDER bs with
        | none => rfl
        | some x =>
          obtain ⟨o, bs⟩ := x
          simp only [Option.bind_some]
          rw [show (List.map (fun s => (Option.map (fun x => x.2) (List.find? (fun x => x.1 == s) o)).getD 0) (List.range 19)) = colOf o from rfl]
          rw [d_bind, d_bind]
          cases need (good (colOf o)) bs with
          | none => rfl
          | some x =>
            obtain ⟨_, bs⟩ := x
            simp only [Option.bind_some]
            rw [d_bind, d_bind]
            cases bits 1 bs with
            | none => rfl
            | some x =>
              obtain ⟨u, bs⟩ := x
              simp only [Option.bind_some]
              by_cases hu : u = 0
              · rw [if_pos hu, if_pos hu]
                simp only [d_pure_bind, decide_eq_true (Nat.le_refl size), d_need_true]
              · rw [if_neg hu, if_neg hu]
                simp only [d_assoc, d_pure_bind]
/-! the lengths' lengths -/
def setL : List Nat → List Nat → D (List Nat)
  | [], l => pure l
  | s :: r, l => do
    let k ← bits 3
    setL r (l.set s k)
def overlay (o : List (Nat × Nat)) (l : List Nat) : Code := (List.range 19).map fun s => ((o.find? fun x => x.1 == s).map fun x => x.2).getD (l.getD s 0)
theorem overlay_cons {s k : Nat} {o : List (Nat × Nat)} {l : List Nat} (hs : ∀ x ∈ o, x.1 ≠ s) (hl : s < l.length) : overlay ((s, k) :: o) l = overlay o (l.set s k) := by
  unfold overlay
  apply List.map_congr_left
  intro i _
  rw [List.find?_cons]
  by_cases e : s = i
  · subst e
    have hn : o.find? (fun x => x.1 == s) = none := by
      rw [List.find?_eq_none]
      intro x hx
      simpa using hs x hx
    simp [hn, hl]
  · have : ((s, k).1 == i) = false := by simpa using e
    rw [this]
    simp only []
    rw [List.getD_eq_getElem?_getD, List.getD_eq_getElem?_getD, List.getElem?_set_ne e]
theorem orderLengths_keys : ∀ (n : Nat) (ord : List Nat) (bs bs' : List Bool) (o : List (Nat × Nat)), orderLengths n ord bs = some (o, bs') → (∀ x ∈ o, x.1 ∈ ord)
  | 0, ord, bs, bs', o, h => by
    cases ord <;> (cases h; intro x hx; cases hx)
  | n + 1, [], bs, bs', o, h => by cases h
  | n + 1, s :: r, bs, bs', o, h => by
    have h : (bits 3 >>= fun k => orderLengths n r >>= fun q => pure ((s, k) :: q)) bs = some (o, bs') := h
    rw [d_bind] at h
    cases hb : bits 3 bs with
    | none => rw [hb] at h; cases h
    | some x =>
      rw [hb] at h
      simp only [Option.bind_some] at h
      rw [d_bind] at h
      cases ho : orderLengths n r x.2 with
      | none => rw [ho] at h; cases h
      | some y =>
        rw [ho] at h
        cases h
        intro z hz
        rcases List.mem_cons.mp hz with e | hz
        · rw [e]; exact List.mem_cons_self
        · exact List.mem_cons_of_mem _ (orderLengths_keys n r x.2 y.2 y.1 ho z hz)
theorem order_set : ∀ (n : Nat) (ord l : List Nat), n ≤ ord.length → ord.Nodup → (∀ s ∈ ord, s < 19) → l.length = 19 → (orderLengths n ord >>= fun o => pure (overlay o l)) = setL (ord.take n) l
  | 0, ord, l, _, _, _, hl => by
    have e : orderLengths 0 ord = pure [] := by cases ord <;> rfl
    rw [e, d_pure_bind]
    show pure (overlay [] l) = pure l
    have : overlay [] l = l := by
      have := range_get l
      rw [hl] at this
      exact this
    rw [this]
  | n + 1, [], l, h, _, _, _ => by simp at h
  | n + 1, s :: r, l, h, hnd, hlt, hl => by
    show ((bits 3 >>= fun k => orderLengths n r >>= fun q => pure ((s, k) :: q)) >>= fun o => pure (overlay o l)) = (bits 3 >>= fun k => setL (r.take n) (l.set s k))
    rw [d_assoc]
    apply d_ext
    intro bs
    rw [d_bind, d_bind]
    cases bits 3 bs with
    | none => rfl
    | some x =>
      obtain ⟨k, bs⟩ := x
      simp only [Option.bind_some]
      have hnd' := List.nodup_cons.mp hnd
      rw [← order_set n r (l.set s k) (by simpa using h) hnd'.2 (fun t ht => hlt t (List.mem_cons_of_mem _ ht)) (by rw [List.length_set]; exact hl)]
      rw [d_assoc, d_bind, d_bind]
      cases ho : orderLengths n r bs with
      | none => rfl
      | some y =>
        obtain ⟨o, bs'⟩ := y
        simp only [Option.bind_some]
        rw [d_pure_bind]
        rw [overlay_cons (fun x hx e => hnd'.1 (by rw [← e]; exact orderLengths_keys n r _ _ _ ho x hx)) (by rw [hl]; exact hlt s List.mem_cons_self)]
def mCol' : D Code := do
  let n ← bits 4
  let c ← setL (ORDER.take (n + 4)) (List.replicate 19 0)
  need (good c)
  return c
theorem colOf_overlay (o : List (Nat × Nat)) : colOf o = overlay o (List.replicate 19 0) := by
  unfold colOf overlay
  apply List.map_congr_left
  intro i hi
  have : (List.replicate 19 0).getD i 0 = 0 := by
    rw [List.getD_eq_getElem?_getD, List.getElem?_replicate]
    split <;> rfl
  rw [this]
theorem mCol_eq : mCol = mCol' := by
  unfold mCol mCol'
  apply d_ext
  intro bs
  rw [d_bind, d_bind]
  cases hb : bits 4 bs with
  | none => rfl
  | some x =>
    obtain ⟨n, bs⟩ := x
    simp only [Option.bind_some]
    have hn : n < 16 := bits_lt hb
    rw [← order_set (n + 4) ORDER (List.replicate 19 0) (by show n + 4 ≤ 19; omega) (by decide) (by decide) (by simp)]
    rw [d_assoc]
    simp only [d_pure_bind, colOf_overlay]
/-! the lengths' loop -/
theorem lengths_end (c : Code) (size n most last : Nat) (l : List Nat) (h : size ≤ l.length ∨ most = 0) : lengths c size (n + 1) most last l = pure (l ++ List.replicate (size - l.length) 0) := by
  show (if size ≤ l.length ∨ most = 0 then _ else _) = _
  rw [if_pos h]
theorem lengths_step (c : Code) (size n most last : Nat) (l : List Nat) (h : l.length < size) (hm : 0 < most) : lengths c size (n + 1) most last l = (symbol c >>= fun s => if s < 16 then lengths c size n (most - 1) (if s = 0 then last else s) (l ++ [s]) else
    ((if s = 16 then bits 2 else if s = 17 then bits 3 else bits 7) >>= fun k => need (decide (l.length + (if s = 18 then k + 11 else k + 3) ≤ size)) >>= fun _ =>
      lengths c size n (most - 1) last (l ++ List.replicate (if s = 18 then k + 11 else k + 3) (if s = 16 then last else 0)))) := by
  show (if size ≤ l.length ∨ most = 0 then _ else _) = _
  rw [if_neg (by omega)]
  congr 1
  funext s
  by_cases h16 : s < 16
  · simp only [h16, if_true]
  · simp only [h16, if_false]
    by_cases e1 : s = 16
    · simp only [e1, if_true]
    · by_cases e2 : s = 17
      · simp only [e1, e2, if_true, if_false]; rfl
      · simp only [e1, e2, if_false]
theorem lengths_sole {c : Code} {s : Nat} (hs : symbol c = pure s) (h16 : s < 16) (size : Nat) : ∀ (n most last : Nat) (l : List Nat), most < n → l.length + most ≤ size → lengths c size n most last l = pure ((l ++ List.replicate most s) ++ List.replicate (size - (l.length + most)) 0)
  | 0, _, _, _, h, _ => absurd h (Nat.not_lt_zero _)
  | n + 1, 0, last, l, _, _ => by
    rw [lengths_end c size n 0 last l (.inr rfl)]
    simp
  | n + 1, m + 1, last, l, h, hl => by
    rw [lengths_step c size n (m + 1) last l (by omega) (by omega), hs, d_pure_bind, if_pos h16, lengths_sole hs h16 size n (m + 1 - 1) _ (l ++ [s]) (by omega) (by simp; omega)]
    simp only [List.length_append, List.length_cons, List.length_nil, List.append_assoc, Nat.add_sub_cancel]
    congr 2
    rw [show l.length + (0 + 1) + m = l.length + (m + 1) by omega]
    rw [← List.append_assoc [s]]
    congr 1
end Lk
end
section
set_option autoImplicit false
namespace Lk
open Sn15
/-! ### elements and the cache -/
structure PxOk (p : Px) : Prop where
  a : p.a < 256
  r : p.r < 256
  g : p.g < 256
  b : p.b < 256
theorem word_lt {p : Px} (h : PxOk p) : p.word < 2 ^ 32 := by
  obtain ⟨h1, h2, h3, h4⟩ := h
  unfold Px.word
  omega
theorem hash_lt (k : Nat) (p : Px) (hk : k ≤ 32) : hash k p < 2 ^ k := by
  unfold Sn15.hash
  rw [Nat.div_lt_iff_lt_mul (Nat.pow_pos (by decide)), ← Nat.pow_add, Nat.add_sub_cancel' hk]
  exact Nat.mod_lt _ (Nat.pow_pos (by decide))
def cacheL (k : Nat) (l : List Px) : List Nat := (List.range (2 ^ k)).map fun i => if k = 0 then 0 else (cached k l i).word
theorem cacheL_nil (k : Nat) : cacheL k [] = List.replicate (2 ^ k) 0 := by
  unfold cacheL
  apply List.ext_getElem
  · simp
  · intro i _ _
    simp [cached, Px.word]
theorem cached_snoc (k : Nat) (l : List Px) (p : Px) (i : Nat) : cached k (l ++ [p]) i = if hash k p = i then p else cached k l i := by
  unfold cached
  rw [List.reverse_append, List.reverse_singleton, List.singleton_append, List.find?_cons]
  by_cases h : hash k p = i
  · simp [h]
  · have : (hash k p == i) = false := by simpa using h
    rw [this, if_neg h]
theorem cacheL_snoc (k : Nat) (l : List Px) (p : Px) (hk : 0 < k) (hk2 : k ≤ 32) : cacheL k (l ++ [p]) = (cacheL k l).set (hash k p) p.word := by
  unfold cacheL
  apply List.ext_getElem
  · simp
  · intro i h1 h2
    rw [List.getElem_set]
    simp only [List.getElem_map, List.getElem_range]
    rw [if_neg (show ¬ k = 0 by omega), if_neg (show ¬ k = 0 by omega), cached_snoc]
    by_cases h : hash k p = i
    · rw [if_pos h, if_pos h]
    · rw [if_neg h, if_neg h]
theorem cacheL_zero (l : List Px) : cacheL 0 l = [0] := rfl
theorem cacheL_len (k : Nat) (l : List Px) : (cacheL k l).length = 2 ^ k := by unfold cacheL; simp
theorem cacheL_get (k : Nat) (l : List Px) (i : Nat) (hk : 0 < k) (hi : i < 2 ^ k) : (cacheL k l)[i]? = some (cached k l i).word := by
  unfold cacheL
  rw [List.getElem?_map, List.getElem?_range hi]
  simp only [Option.map_some]
  rw [if_neg (by omega)]
theorem cached_ok {k : Nat} {l : List Px} {i : Nat} (h : ∀ p ∈ l, PxOk p) : PxOk (cached k l i) := by
  unfold cached
  cases e : l.reverse.find? fun p => hash k p == i with
  | none => exact ⟨by decide, by decide, by decide, by decide⟩
  | some p => exact h p (List.mem_reverse.mp (List.mem_of_find?_eq_some e))
/-! ### again -/
theorem again_succ (n d : Nat) (l : List Px) : again (n + 1) d l = again n d (l ++ [l.getD (l.length - d) black]) := rfl
theorem again_len : ∀ (n d : Nat) (l : List Px), (again n d l).length = l.length + n
  | 0, _, _ => rfl
  | n + 1, d, l => by rw [again_succ, again_len n]; simp; omega
theorem getD_mem {l : List Px} {i : Nat} {d : Px} (h : i < l.length) : l.getD i d ∈ l := by
  rw [List.getD_eq_getElem?_getD, List.getElem?_eq_getElem h]
  exact List.getElem_mem _
theorem again_ok : ∀ (n d : Nat) (l : List Px), (∀ p ∈ l, PxOk p) → 0 < d → d ≤ l.length → ∀ p ∈ again n d l, PxOk p
  | 0, _, _, h, _, _ => h
  | n + 1, d, l, h, hd, hl => by
    rw [again_succ]
    refine again_ok n d _ (fun p hp => ?_) hd (by simp; omega)
    rcases List.mem_append.mp hp with hp | hp
    · exact h p hp
    · rw [List.mem_singleton.mp hp]
      exact h _ (getD_mem (by omega))
/-! ### the elements' loop -/
theorem elements_end (w t k : Nat) (gs : List Group) (wh : Nat → Nat → Nat) (n : Nat) (l : List Px) (h : t ≤ l.length) : elements w t k gs wh (n + 1) l = pure l := by
  show (if t ≤ l.length then _ else _) = _
  rw [if_pos h]
/-- one step: what is put behind the elements so far -/
def stepE (w t k : Nat) (g : Group) (l : List Px) : D (List Px) := do
  let s ← symbol g.green
  if s < 256 then do
    let r ← symbol g.red
    let b ← symbol g.blue
    let a ← symbol g.alpha
    return l ++ [⟨a, r, s, b⟩]
  else if s < 280 then do
    let n ← value (s - 256)
    let ds ← symbol g.distance
    let dv ← value ds
    need (decide (back w dv ≤ l.length) && decide (l.length + n ≤ t))
    return again n (back w dv) l
  else return l ++ [cached k l (s - 280)]
theorem elements_step (w t k : Nat) (gs : List Group) (wh : Nat → Nat → Nat) (n : Nat) (l : List Px) (g : Group) (h : l.length < t) (hg : gs[wh (l.length % w) (l.length / w)]? = some g) :
    elements w t k gs wh (n + 1) l = (stepE w t k g l >>= fun l' => elements w t k gs wh n l') := by
  show (if t ≤ l.length then _ else _) = _
  rw [if_neg (by omega)]
  simp only [hg]
  unfold stepE
  rw [d_assoc]
  congr 1
  funext s
  by_cases h1 : s < 256
  · simp only [h1, if_true, d_assoc, d_pure_bind]
  · by_cases h2 : s < 280
    · simp only [h1, h2, if_true, if_false, d_assoc, d_pure_bind]
    · simp only [h1, h2, if_false, d_pure_bind]
theorem value_pos {s v : Nat} {bs bs' : List Bool} (h : value s bs = some (v, bs')) : 0 < v := by
  unfold value at h
  split at h
  · cases h; omega
  · rw [d_bind] at h
    cases hb : bits ((s - 2) / 2) bs with
    | none => rw [hb] at h; cases h
    | some x => rw [hb] at h; cases h; omega
theorem back_pos (w d : Nat) (h : 0 < d) : 0 < back w d := by
  unfold back
  split
  · omega
  · simp only []
    split
    · decide
    · omega
/-! ### coded pictures -/
def csize (k : Nat) : Nat := if k = 0 then 0 else 2 ^ k
def mCache : D Nat := do
  if (← bits 1) = 1 then do
    let k ← bits 4
    need (decide (1 ≤ k ∧ k ≤ 11))
    return k
  else pure 0
def elems (w h k : Nat) (gs : List Group) (wh : Nat → Nat → Nat) : D (List Px) := elements w (w * h) k gs wh (w * h + 1) []
def mPlain (w h : Nat) : D (List Px) := do
  let k ← mCache
  let g ← group (csize k)
  elems w h k [g] fun _ _ => 0
def mSquares (w h : Nat) : D (Nat × List Px) := do
  let k ← bits 3
  let l ← mPlain (up w (2 ^ (k + 2))) (up h (2 ^ (k + 2)))
  return (k + 2, l)
def number (p : Px) : Nat := p.r * 256 + p.g
def whichOf (w z : Nat) (l : List Px) (x y : Nat) : Nat := number (l.getD (y / 2 ^ z * up w (2 ^ z) + x / 2 ^ z) black)
def mGroups (w h k : Nat) : D (List Group × (Nat → Nat → Nat)) := do
  if (← bits 1) = 1 then do
    let m ← mSquares w h
    let gs ← groups (csize k) ((m.2.map number).foldl max 0 + 1)
    return (gs, whichOf w m.1 m.2)
  else do
    let g ← group (csize k)
    return ([g], fun _ _ => 0)
def mMain (w h : Nat) : D (List Px) := do
  let k ← mCache
  let g ← mGroups w h k
  elems w h k g.1 g.2
theorem groups_one (c : Nat) : groups c 1 = (group c >>= fun g => pure [g]) := by
  show (group c >>= fun g => groups c 0 >>= fun r => pure (g :: r)) = _
  congr 1
theorem ite_bind {α β : Type} (c : Prop) [Decidable c] (a b : D α) (f : α → D β) : ((if c then a else b) >>= f) = if c then a >>= f else b >>= f := by
  split <;> rfl
theorem coded_plain (n w h : Nat) : coded (n + 1) false w h = mPlain w h := by
  unfold coded mPlain mCache
  simp only [Bool.false_eq_true, if_false, ite_bind, d_assoc, d_pure_bind, Nat.zero_ne_one, groups_one]
  rfl
theorem coded_main (w h : Nat) : coded 2 true w h = mMain w h := by
  unfold coded mMain mCache mGroups mSquares
  simp only [if_true, ite_bind, d_assoc, d_pure_bind, coded_plain]
  congr 1
  funext t
  have key : ∀ (k : Nat), (bits 1 >>= fun many => if many = 1 then (bits 3 >>= fun j => mPlain ((w + 2 ^ (j + 2) - 1) / 2 ^ (j + 2)) ((h + 2 ^ (j + 2) - 1) / 2 ^ (j + 2)) >>= fun l =>
        groups (csize k) (if many = 1 then (l.map number).foldl max 0 + 1 else 1) >>= fun gs =>
        elements w (w * h) k gs (fun x y => if many = 1 then number (l.getD (y / 2 ^ (j + 2) * ((w + 2 ^ (j + 2) - 1) / 2 ^ (j + 2)) + x / 2 ^ (j + 2)) black) else 0) (w * h + 1) [])
      else groups (csize k) (if many = 1 then (([] : List Px).map number).foldl max 0 + 1 else 1) >>= fun gs =>
        elements w (w * h) k gs (fun x y => if many = 1 then number (([] : List Px).getD (y / 2 ^ 0 * ((w + 2 ^ 0 - 1) / 2 ^ 0) + x / 2 ^ 0) black) else 0) (w * h + 1) []) =
      (bits 1 >>= fun a => if a = 1 then (bits 3 >>= fun j => mPlain (up w (2 ^ (j + 2))) (up h (2 ^ (j + 2))) >>= fun l => groups (csize k) ((l.map number).foldl max 0 + 1) >>= fun gs => elems w h k gs (whichOf w (j + 2) l))
        else group (csize k) >>= fun g => elems w h k [g] fun _ _ => 0) := by
    intro k
    congr 1
    funext many
    by_cases hm : many = 1
    · simp only [hm, if_true]
      rfl
    · simp only [hm, if_false, groups_one, d_assoc, d_pure_bind]
      rfl
  by_cases ht : t = 1
  · simp only [ht, if_true]
    congr 1
    funext k
    congr 1
    funext _
    exact key k
  · simp only [ht, if_false]
    exact key 0
end Lk
end
section
set_option autoImplicit false
namespace Lk
open Sn15
/-! ### transforms, with the modes looked at on the way -/
def modesOk (l : List Px) : Bool := l.all fun p => decide (p.g < 14)
def mTrans (height : Nat) : Nat → List Nat → Nat → D (List Trans × Nat)
  | 0, _, _ => bad
  | n + 1, had, width => do
    if (← bits 1) = 0 then return ([], width)
    else do
      let t ← bits 2
      need (!had.contains t)
      if t = 0 then do
        let m ← mSquares width height
        need (modesOk m.2)
        let r ← mTrans height n (t :: had) width
        return (.predict m.1 m.2 :: r.1, r.2)
      else if t = 1 then do
        let m ← mSquares width height
        let r ← mTrans height n (t :: had) width
        return (.cross m.1 m.2 :: r.1, r.2)
      else if t = 2 then do
        let r ← mTrans height n (t :: had) width
        return (.green :: r.1, r.2)
      else do
        let k ← bits 8
        let l ← mPlain (k + 1) 1
        let r ← mTrans height n (t :: had) (up width (2 ^ packedBits (k + 1)))
        return (.table (sums ⟨0, 0, 0, 0⟩ l) :: r.1, r.2)
/-- checked in the end -/
def chk (m : D (List Trans × Nat)) : D (List Trans × Nat) := do
  let t ← m
  need (t.1.all fits)
  return t
theorem need_and {β : Type} (a b : Bool) (f : Unit → D β) : (need (a && b) >>= f) = (need a >>= fun _ => need b >>= f) := by
  cases a
  · simp only [Bool.false_and, d_need_false]
  · simp only [Bool.true_and, d_need_true]
theorem need_late {α β : Type} (a : Bool) (m : D α) (f : α → D β) : (m >>= fun x => need a >>= fun _ => f x) = (need a >>= fun _ => m >>= f) := by
  cases a
  · simp only [d_need_false, d_bind_bad]
  · simp only [d_need_true]
theorem chk_cons (m : D (List Trans × Nat)) (t : Trans) : chk (m >>= fun r => pure (t :: r.1, r.2)) = (need (fits t) >>= fun _ => chk m >>= fun r => pure (t :: r.1, r.2)) := by
  unfold chk
  simp only [d_assoc, d_pure_bind, List.all_cons, need_and]
  rw [need_late (fits t) m fun x => need (x.1.all fits) >>= fun _ => pure (t :: x.1, x.2)]
theorem chk_bind {α : Type} (m : D α) (f : α → D (List Trans × Nat)) : chk (m >>= f) = (m >>= fun a => chk (f a)) := by
  unfold chk
  rw [d_assoc]
theorem bind_congr {α β : Type} (m : D α) {f g : α → D β} (h : ∀ a bs bs', m bs = some (a, bs') → f a = g a) : (m >>= f) = (m >>= g) := by
  apply d_ext
  intro bs
  rw [d_bind, d_bind]
  cases hm : m bs with
  | none => rfl
  | some x => simp only [Option.bind_some]; rw [h x.1 bs x.2 hm]
theorem transforms_eq (height : Nat) : ∀ (n : Nat) (had : List Nat) (width : Nat), chk (transforms height n had width) = mTrans height n had width
  | 0, _, _ => by unfold chk transforms mTrans; rw [d_bad_bind]
  | n + 1, had, width => by
    have e : transforms height (n + 1) had width = (bits 1 >>= fun u => if u = 0 then pure ([], width) else bits 2 >>= fun t => need (!had.contains t) >>= fun _ =>
        if t = 0 ∨ t = 1 then bits 3 >>= fun k => coded 1 false (up width (2 ^ (k + 2))) (up height (2 ^ (k + 2))) >>= fun l => transforms height n (t :: had) width >>= fun r => pure ((if t = 0 then .predict (k + 2) l else .cross (k + 2) l) :: r.1, r.2)
        else if t = 2 then transforms height n (t :: had) width >>= fun r => pure (.green :: r.1, r.2)
        else bits 8 >>= fun k => coded 1 false (k + 1) 1 >>= fun l => transforms height n (t :: had) (up width (2 ^ packedBits (k + 1))) >>= fun r => pure (.table (sums ⟨0, 0, 0, 0⟩ l) :: r.1, r.2)) := by
      rfl
    rw [e, chk_bind]
    show _ = (bits 1 >>= fun u => if u = 0 then _ else _)
    congr 1
    funext u
    by_cases hu : u = 0
    · rw [if_pos hu, if_pos hu]
      unfold chk
      rw [d_pure_bind]
      show (need true >>= _) = _
      rw [d_need_true]
    · rw [if_neg hu, if_neg hu, chk_bind]
      apply bind_congr
      intro t bs bs' ht
      have ht4 : t < 4 := bits_lt ht
      rw [chk_bind]
      congr 1
      funext _
      by_cases h0 : t = 0
      · rw [if_pos (.inl h0), if_pos h0]
        unfold mSquares
        simp only [chk_bind, d_assoc, d_pure_bind, coded_plain]
        congr 1
        funext k
        congr 1
        funext l
        rw [← chk_bind, chk_cons, transforms_eq height n (t :: had) width]
        simp only [h0, if_true]
        rfl
      · by_cases h1 : t = 1
        · rw [if_pos (.inr h1), if_neg h0, if_pos h1]
          unfold mSquares
          simp only [chk_bind, d_assoc, d_pure_bind, coded_plain]
          congr 1
          funext k
          congr 1
          funext l
          rw [← chk_bind, chk_cons, transforms_eq height n (t :: had) width]
          simp only [h0, if_false]
          show (need true >>= _) = _
          rw [d_need_true]
        · rw [if_neg (by omega), if_neg h0, if_neg h1]
          by_cases h2 : t = 2
          · rw [if_pos h2, if_pos h2, chk_cons, transforms_eq height n (t :: had) width]
            show (need true >>= _) = _
            rw [d_need_true]
          · rw [if_neg h2, if_neg h2]
            simp only [chk_bind, coded_plain]
            congr 1
            funext k
            congr 1
            funext l
            rw [← chk_bind, chk_cons, transforms_eq height n (t :: had)]
            show (need true >>= _) = _
            rw [d_need_true]
/-! ### a picture -/
def bitsLeft : D Nat := fun bs => some (bs.length, bs)
/-- the head: width, height, whether alphas count; none: too large -/
def mHead : D (Nat × Nat × Nat) := do
  let w ← bits 14
  let h ← bits 14
  let alpha ← bits 1
  let v ← bits 3
  need (v == 0)
  return (w + 1, h + 1, alpha)
/-- behind the head: the transforms and the elements -/
def mBody (w h : Nat) : D (List Trans × List Px) := do
  let t ← mTrans h 5 [] w
  let l ← mMain t.2 h
  let n ← bitsLeft
  need (decide (n < 8))
  return (t.1, l)
def mPicture : D Picture := do
  let s ← mHead
  if MOSTELEMENTS < s.1 * s.2.1 then return ⟨s.1, s.2.1, []⟩ else do
    let b ← mBody s.1 s.2.1
    return ⟨s.1, s.2.1, if s.2.2 = 1 then undoAll s.1 s.2.1 b.1 b.2 else (undoAll s.1 s.2.1 b.1 b.2).map fun p => { p with a := 255 }⟩
theorem picture_eq : picture = mPicture := by
  unfold picture mPicture mHead
  simp only [d_assoc, d_pure_bind]
  congr 1
  funext w
  congr 1
  funext h
  congr 1
  funext alpha
  congr 1
  funext v
  congr 1
  funext _
  by_cases hm : MOSTELEMENTS < (w + 1) * (h + 1)
  · rw [if_pos hm, if_pos hm]
  · rw [if_neg hm, if_neg hm]
    unfold mBody
    simp only [← transforms_eq, ← coded_main]
    unfold chk
    simp only [d_assoc, d_pure_bind]
    rfl
end Lk
end
section
set_option autoImplicit false
namespace Lk
open Sn15
/-! ### the file's frame, and look's answer -/
def okFrame (b : List Nat) : Prop := ¬ (b.length < 21 ∨ b.take 4 ≠ [82, 73, 70, 70] ∨ (b.drop 8).take 8 ≠ [87, 69, 66, 80, 86, 80, 56, 76] ∨ four b 4 ≠ 12 + four b 16 + four b 16 % 2 ∨
  b.length ≠ 20 + four b 16 + four b 16 % 2 ∨ b.getD 20 0 ≠ 0x2F ∨ (four b 16 % 2 = 1 ∧ b.getD (20 + four b 16) 0 ≠ 0))
instance (b : List Nat) : Decidable (okFrame b) := by unfold okFrame; infer_instance
def payload (b : List Nat) : List Nat := (b.drop 21).take (four b 16 - 1)
theorem read_frame (b : List Nat) : Sn15.read b = if okFrame b then (mPicture (bitsOf (payload b))).map (fun x => x.1) else none := by
  by_cases h : okFrame b
  · rw [if_pos h, ← picture_eq]
    unfold okFrame at h
    show (if _ then none else _) = _
    rw [if_neg h]
    rfl
  · rw [if_neg h]
    have h' := Classical.not_not.mp h
    show (if _ then none else _) = _
    rw [if_pos h']
/-- what look has to find out: none: no such file; the sizes -/
def mLook : D (Nat × Nat) := do
  let s ← mHead
  if MOSTELEMENTS < s.1 * s.2.1 then return (s.1, s.2.1) else do
    let _ ← mBody s.1 s.2.1
    return (s.1, s.2.1)
theorem picture_look (bs : List Bool) : (mPicture bs).map (fun x => (x.1.width, x.1.height)) = (mLook bs).map (fun x => x.1) := by
  unfold mPicture mLook
  rw [d_bind, d_bind]
  cases mHead bs with
  | none => rfl
  | some x =>
    simp only [Option.bind_some]
    by_cases h : MOSTELEMENTS < x.1.1 * x.1.2.1
    · rw [if_pos h, if_pos h]; rfl
    · rw [if_neg h, if_neg h, d_bind, d_bind]
      cases mBody x.1.1 x.1.2.1 x.2 <;> rfl
def lookAns (b : List Nat) : List Int := if okFrame b then (match mLook (bitsOf (payload b)) with
    | none => [-3]
    | some ((w, h), _) => if MOSTELEMENTS < w * h then [-4] else [0, (w : Int), (h : Int)]) else [-3]
theorem look_ans (most : Int) (data : List Int) (hl : data.length ≤ 100000) : PySn15.look most data = lookAns (data.map Int.toNat) := by
  unfold PySn15.look Sn15Neutral.f Sn15Neutral.callOf
  simp only []
  unfold Sn15Answer.answered Sn15Neutral.nats
  simp only []
  rw [if_neg (by unfold MOST; omega), read_frame]
  unfold lookAns
  by_cases hf : okFrame (data.map Int.toNat)
  · rw [if_pos hf, if_pos hf]
    have hp := picture_look (bitsOf (payload (data.map Int.toNat)))
    cases hm : mPicture (bitsOf (payload (data.map Int.toNat))) with
    | none =>
      rw [hm] at hp
      cases hk : mLook (bitsOf (payload (data.map Int.toNat))) with
      | none => rfl
      | some y => rw [hk] at hp; cases hp
    | some x =>
      rw [hm] at hp
      cases hk : mLook (bitsOf (payload (data.map Int.toNat))) with
      | none => rw [hk] at hp; cases hp
      | some y =>
        rw [hk] at hp
        obtain ⟨⟨w, h⟩, bs⟩ := y
        simp only [Option.map_some, Option.some.injEq] at hp
        have h1 : x.1.width = w := congrArg Prod.fst hp
        have h2 : x.1.height = h := congrArg Prod.snd hp
        simp only [Option.map_some]
        rw [h1, h2]
        by_cases hl : MOSTELEMENTS < w * h
        · rw [if_pos hl, if_pos hl]; rfl
        · rw [if_neg hl, if_neg hl]; rfl
  · rw [if_neg hf, if_neg hf]; rfl
end Lk
end
section
set_option autoImplicit false
namespace Lk
open Sn15
/-! ### short codes -/
theorem filter_one {N x : Nat} (p : Nat → Bool) (hp : ∀ s, p s = true ↔ s = x) (h : x < N) : (List.range N).filter p = [x] := by
  obtain ⟨k, rfl⟩ : ∃ k, N = x + (1 + k) := ⟨N - x - 1, by omega⟩
  rw [List.range_add, List.filter_append, List.range_add, List.map_append, List.filter_append]
  have e1 : (List.range x).filter p = [] := by
    rw [List.filter_eq_nil_iff]
    intro i hi q
    have := List.mem_range.mp hi
    have := (hp i).mp q
    omega
  have e2 : List.filter p (List.map (fun y => x + y) (List.range 1)) = [x] := by
    show List.filter p [x + 0] = [x]
    rw [List.filter_cons, if_pos ((hp (x + 0)).mpr rfl)]; rfl
  have e3 : List.filter p (List.map (fun y => x + y) (List.map (fun y => 1 + y) (List.range k))) = [] := by
    rw [List.filter_eq_nil_iff]
    intro i hi q
    obtain ⟨j, hj, rfl⟩ := List.mem_map.mp hi
    obtain ⟨m, _, rfl⟩ := List.mem_map.mp hj
    have := (hp _).mp q
    omega
  rw [e1, e2, e3]; rfl
theorem filter_two {N x y : Nat} (p : Nat → Bool) (hp : ∀ s, p s = true ↔ (s = x ∨ s = y)) (hxy : x < y) (h : y < N) : (List.range N).filter p = [x, y] := by
  obtain ⟨k, rfl⟩ : ∃ k, N = (x + 1) + k := ⟨N - x - 1, by omega⟩
  rw [List.range_add, List.filter_append]
  have e1 : (List.range (x + 1)).filter p = [x] := by
    have := filter_one (N := x + 1) (x := x) (fun s => p s && decide (s = x)) (fun s => by rw [Bool.and_eq_true, hp, decide_eq_true_iff]; omega) (by omega)
    rw [← this]
    apply List.filter_congr
    intro i hi
    have := List.mem_range.mp hi
    by_cases e : i = x
    · simp [e]
    · have : p i = false := by
        cases q : p i with
        | false => rfl
        | true => have := (hp i).mp q; omega
      simp [this]
  have e2 : List.filter p (List.map (fun z => x + 1 + z) (List.range k)) = [y] := by
    rw [List.filter_map]
    have := filter_one (N := k) (x := y - x - 1) (p ∘ fun z => x + 1 + z) (fun s => by
      simp only [Function.comp]
      rw [hp]
      omega) (by omega)
    rw [this]
    simp; omega
  rw [e1, e2]; rfl
theorem short1_len (size a : Nat) : (short1 size a).length = size := by unfold short1; simp
theorem short2_len (size a b : Nat) : (short2 size a b).length = size := by unfold short2; simp
theorem short1_get {size a s : Nat} (h : s < size) : (short1 size a).getD s 0 = if s = a then 1 else 0 := by
  unfold short1
  rw [List.getD_eq_getElem?_getD, List.getElem?_map, List.getElem?_range h]; rfl
theorem short2_get {size a b s : Nat} (h : s < size) : (short2 size a b).getD s 0 = if s = a ∨ s = b then 1 else 0 := by
  unfold short2
  rw [List.getD_eq_getElem?_getD, List.getElem?_map, List.getElem?_range h]; rfl
theorem filter_range_congr {N : Nat} {p q : Nat → Bool} (h : ∀ s, s < N → p s = q s) : (List.range N).filter p = (List.range N).filter q :=
  List.filter_congr fun s hs => h s (List.mem_range.mp hs)
theorem short1_sole {size a : Nat} (h : a < size) : symbol (short1 size a) = pure a := by
  apply symbol_sole
  rw [short1_len]
  rw [filter_range_congr (q := fun s => decide (s = a)) fun s hs => by rw [short1_get hs]; by_cases e : s = a <;> simp [e]]
  exact filter_one _ (fun s => by simp) h
theorem short2_syms {size a b : Nat} (ha : a < size) (hb : b < size) (h : a ≠ b) : symsOf (short2 size a b) 1 = [min a b, max a b] := by
  unfold symsOf
  rw [short2_len]
  rw [filter_range_congr (q := fun s => decide (s = a ∨ s = b)) fun s hs => by rw [short2_get hs]; by_cases e : s = a ∨ s = b <;> simp [e]]
  by_cases hab : a < b
  · rw [Nat.min_eq_left (Nat.le_of_lt hab), Nat.max_eq_right (Nat.le_of_lt hab)]
    exact filter_two _ (fun s => by simp) hab hb
  · have hba : b < a := by omega
    rw [Nat.min_eq_right (Nat.le_of_lt hba), Nat.max_eq_left (Nat.le_of_lt hba)]
    exact filter_two _ (fun s => by simp; omega) hba ha
theorem short2_symbol {size a b : Nat} (ha : a < size) (hb : b < size) (h : a ≠ b) : symbol (short2 size a b) = (bits 1 >>= symT [[min a b, max a b]]) := by
  have e := short2_syms ha hb h
  rw [symbol_eq]
  · apply bind_congr
    intro r bs bs' hr
    have hr2 : r < 2 := bits_lt hr
    show symT (symsOf (short2 size a b) 1 :: wordsFrom _ 2 14) r = symT ([min a b, max a b] :: []) r
    rw [e]
    have : ∃ s, ([min a b, max a b] : List Nat)[r]? = some s := ⟨_, List.getElem?_eq_getElem (by simpa using hr2)⟩
    obtain ⟨s, hs⟩ := this
    unfold symT
    rw [hs]
  · intro s hs
    have q : ((List.range (short2 size a b).length).filter fun s => (short2 size a b).getD s 0 != 0).length = 2 := by
      have : ((List.range (short2 size a b).length).filter fun s => (short2 size a b).getD s 0 != 0) = symsOf (short2 size a b) 1 := by
        unfold symsOf
        apply List.filter_congr
        intro i hi
        have hi := List.mem_range.mp hi
        rw [short2_len] at hi
        rw [short2_get hi]
        by_cases e : i = a ∨ i = b <;> simp [e]
      rw [this, e]; rfl
    rw [hs] at q
    simp at q
/-! ### sizes of codes -/
theorem bind_some {α β : Type} {m : D α} {f : α → D β} {bs bs' : List Bool} {b : β} (h : (m >>= f) bs = some (b, bs')) : ∃ a bs1, m bs = some (a, bs1) ∧ f a bs1 = some (b, bs') := by
  rw [d_bind] at h
  cases hm : m bs with
  | none => rw [hm] at h; cases h
  | some x => rw [hm] at h; exact ⟨x.1, x.2, rfl, h⟩
theorem need_some {c : Bool} {bs bs' : List Bool} {u : Unit} (h : need c bs = some (u, bs')) : c = true ∧ bs' = bs := by
  rw [d_need] at h
  split at h
  · rename_i hc; cases h; exact ⟨hc, rfl⟩
  · cases h
theorem lengths_len {c : Code} {size : Nat} : ∀ (n most last : Nat) (l r : List Nat) (bs bs' : List Bool), l.length ≤ size → lengths c size n most last l bs = some (r, bs') → r.length = size
  | 0, _, _, _, _, _, _, _, h => by cases h
  | n + 1, most, last, l, r, bs, bs', hl, h => by
    by_cases he : size ≤ l.length ∨ most = 0
    · rw [lengths_end c size n most last l he] at h
      cases h
      simp; omega
    · rw [lengths_step c size n most last l (by omega) (by omega)] at h
      obtain ⟨s, bs1, _, h⟩ := bind_some h
      split at h
      · exact lengths_len n _ _ _ r bs1 bs' (by simp; omega) h
      · obtain ⟨k, bs2, _, h⟩ := bind_some h
        obtain ⟨_, bs3, hn, h⟩ := bind_some h
        have hn := of_decide_eq_true (need_some hn).1
        exact lengths_len n _ _ _ r bs3 bs' (by rw [List.length_append, List.length_replicate]; exact hn) h
theorem mCode_len {size : Nat} {c : Code} {bs bs' : List Bool} (h : mCode size bs = some (c, bs')) : c.length = size := by
  unfold mCode at h
  obtain ⟨t, bs1, _, h⟩ := bind_some h
  split at h
  · unfold mShort at h
    obtain ⟨two, bs2, _, h⟩ := bind_some h
    obtain ⟨long, bs3, _, h⟩ := bind_some h
    obtain ⟨a, bs4, _, h⟩ := bind_some h
    obtain ⟨_, bs5, _, h⟩ := bind_some h
    split at h
    · obtain ⟨b, bs6, _, h⟩ := bind_some h
      obtain ⟨_, bs7, _, h⟩ := bind_some h
      cases h
      exact short2_len _ _ _
    · cases h
      exact short1_len _ _
  · obtain ⟨l, bs2, hl, h⟩ := bind_some h
    obtain ⟨_, bs3, _, h⟩ := bind_some h
    cases h
    unfold mLengths at hl
    obtain ⟨c', bs4, _, hl⟩ := bind_some hl
    obtain ⟨most, bs5, _, hl⟩ := bind_some hl
    exact lengths_len _ _ _ _ _ _ _ (Nat.zero_le _) hl
theorem setL_ok : ∀ (ord l r : List Nat) (bs bs' : List Bool), (∀ n ∈ l, n ≤ 15) → setL ord l bs = some (r, bs') → r.length = l.length ∧ ∀ n ∈ r, n ≤ 15
  | [], l, r, bs, bs', hl, h => by cases h; exact ⟨rfl, hl⟩
  | s :: ord, l, r, bs, bs', hl, h => by
    obtain ⟨k, bs1, hk, h⟩ := bind_some (m := bits 3) (f := fun k => setL ord (l.set s k)) h
    have hk8 : k < 8 := bits_lt hk
    obtain ⟨h1, h2⟩ := setL_ok ord (l.set s k) r bs1 bs' (fun n hn => by
      rcases List.mem_or_eq_of_mem_set hn with q | q
      · exact hl n q
      · omega) h
    exact ⟨by rw [h1, List.length_set], h2⟩
end Lk
end
section
set_option Elab.async false
set_option linter.all false
set_option maxRecDepth 100000
/-! THE HAND LAYER, for ints, bools, texts, own classes, lists, tuples, dicts, comprehensions, walks over dicts, enumerate, zip, reversed, texts, calls, loops. Paste it whole ahead of your own text; what your proof does not reach may be deleted. -/
namespace L2
open PySem PySem.Spec PyProof.Rows
/-- a key: an int or a str -/
abbrev Key := Sum Int Str
def keyIs : Key → Value → Bool
  | .inl k, v => Value.isInt k v
  | .inr x, v => Value.isStrOf x v
def keyH (w : World) : Key → Int
  | .inl k => hashInt k
  | .inr x => hashStr w x
theorem keyIs_shape : ∀ {k : Key} {v : Value}, keyIs k v = true → (∃ i t, k = Sum.inl i ∧ v = Value.int i t) ∨ (∃ x t, k = Sum.inr x ∧ v = Value.str x t)
  | .inl i, v, h => by
    obtain ⟨t, e⟩ := Value.isInt_shape (k := i) (v := v) h
    exact .inl ⟨i, t, rfl, e⟩
  | .inr x, v, h => by
    obtain ⟨t, e⟩ := Value.isStrOf_shape (x := x) (v := v) h
    exact .inr ⟨x, t, rfl, e⟩
theorem key_ll (a b : Int) : decide ((Sum.inl a : Key) = Sum.inl b) = (a == b) := by
  by_cases e : a = b
  · subst e; simp
  · have h : ¬ (Sum.inl a : Key) = Sum.inl b := fun q => e (Sum.inl.inj q)
    rw [decide_eq_false h]
    exact (beq_eq_false_iff_ne.mpr e).symm
theorem key_rr (a b : Str) : decide ((Sum.inr a : Key) = Sum.inr b) = decide (a = b) := by
  by_cases e : a = b
  · subst e; simp
  · have h : ¬ (Sum.inr a : Key) = Sum.inr b := fun q => e (Sum.inr.inj q)
    rw [decide_eq_false h, decide_eq_false e]
theorem key_lr (a : Int) (b : Str) : decide ((Sum.inl a : Key) = Sum.inr b) = false := decide_eq_false (fun q => nomatch q)
theorem key_rl (a : Str) (b : Int) : decide ((Sum.inr a : Key) = Sum.inl b) = false := decide_eq_false (fun q => nomatch q)
def mixKind (prog : Program) (w : World) : PySem.KeyKind prog w Key where
  is := keyIs
  hash := keyH w
  inj := fun v a b ha hb => by
    rcases keyIs_shape ha with ⟨i, t, rfl, rfl⟩ | ⟨x, t, rfl, rfl⟩
    · rcases keyIs_shape hb with ⟨j, u, rfl, e⟩ | ⟨y, u, rfl, e⟩
      · injection e with e1 _; rw [e1]
      · exact nomatch e
    · rcases keyIs_shape hb with ⟨j, u, rfl, e⟩ | ⟨y, u, rfl, e⟩
      · exact nomatch e
      · injection e with e1 _; rw [e1]
  byValue := fun k v h => by
    rcases keyIs_shape h with ⟨i, t, rfl, rfl⟩ | ⟨x, t, rfl, rfl⟩ <;> rfl
  pyHash := fun hv h => by
    rcases keyIs_shape hv with ⟨i, t, rfl, rfl⟩ | ⟨x, t, rfl, rfl⟩
    · exact wpAny_pyHash_int h
    · exact wpAny_pyHash_str h
  eqBool := fun hu hv h => by
    rcases keyIs_shape hu with ⟨i, t, rfl, rfl⟩ | ⟨x, t, rfl, rfl⟩
    · rcases keyIs_shape hv with ⟨j, u, rfl, rfl⟩ | ⟨y, u, rfl, rfl⟩
      · rw [key_ll] at h; exact wpAny_eqBool_int h
      · rw [key_lr] at h; exact SeqAt.EqAt.int_str i t y u _ _ _ _ h
    · rcases keyIs_shape hv with ⟨j, u, rfl, rfl⟩ | ⟨y, u, rfl, rfl⟩
      · rw [key_rl] at h; exact SeqAt.EqAt.str_int x t j u _ _ _ _ h
      · rw [key_rr] at h; exact wpAny_eqBool_str h
  «strs» := fun k x t v h => by
    rcases keyIs_shape h with ⟨i, u, rfl, e⟩ | ⟨y, u, rfl, e⟩
    · exact nomatch e
    · injection e with e1 _
      subst e1
      cases v <;> rfl
end L2
namespace L2
open PySem PySem.Spec PyProof.Rows
/-- a value, without the heap -/
inductive V where
  | non | bl (b : Bool) | int (i : Int) | str (x : Str) | byt (b : Array UInt8) | flt (b : UInt64) | ref (a : Addr) | ty (n : String)
  deriving DecidableEq
def RelV : V → Value → Prop
  | .non, u => u = Value.none
  | .bl b, u => u = Value.bool b
  | .int i, u => ∃ t, u = Value.int i t
  | .str x, u => ∃ t, u = Value.str x t
  | .byt b, u => ∃ t, u = Value.bytes b t
  | .flt b, u => ∃ t, u = Value.float b t
  | .ref a, u => u = Value.ref a
  | .ty n, u => u = Value.type n
abbrev Vals : List V → List Value → Prop := Paired RelV
theorem Vals.length {xs : List V} {us : List Value} (r : Vals xs us) : xs.length = us.length := Paired.length r
theorem Vals.get : ∀ {xs : List V} {us : List Value} {i : Nat} {x : V}, Vals xs us → xs[i]? = some x → ∃ u, us[i]? = some u ∧ RelV x u
  | _, _, _, _, .nil, e => by simp at e
  | _, _, 0, _, .cons r _, e => by simp at e; subst e; exact ⟨_, rfl, r⟩
  | _, _, i + 1, x, .cons _ t, e => by
    obtain ⟨u, h1, h2⟩ := Vals.get (i := i) (x := x) t (by simpa using e)
    exact ⟨u, by simpa using h1, h2⟩
theorem Vals.set {x : V} {u : Value} (r : RelV x u) : ∀ {xs : List V} {us : List Value} (i : Nat), Vals xs us → Vals (xs.set i x) (us.set i u)
  | _, _, _, .nil => .nil
  | _, _, 0, .cons _ t => .cons r t
  | _, _, i + 1, .cons q t => .cons q (Vals.set r i t)
theorem Vals.append : ∀ {xs ys : List V} {us ws : List Value}, Vals xs us → Vals ys ws → Vals (xs ++ ys) (us ++ ws)
  | _, _, _, _, .nil, s => s
  | _, _, _, _, .cons r t, s => .cons r (Vals.append t s)
theorem Vals.take : ∀ {xs : List V} {us : List Value} (n : Nat), Vals xs us → Vals (xs.take n) (us.take n)
  | _, _, 0, _ => .nil
  | _, _, _ + 1, .nil => .nil
  | _, _, n + 1, .cons r t => .cons r (Vals.take n t)
theorem Vals.drop : ∀ {xs : List V} {us : List Value} (n : Nat), Vals xs us → Vals (xs.drop n) (us.drop n)
  | _, _, 0, r => r
  | _, _, _ + 1, .nil => .nil
  | _, _, n + 1, .cons _ t => Vals.drop n t
theorem Vals.none_of : ∀ {xs : List V} {us : List Value} {i : Nat}, Vals xs us → xs[i]? = none → us[i]? = none := fun {xs us i} r e => by
  have h1 := r.length
  have h2 : xs.length ≤ i := List.getElem?_eq_none_iff.mp e
  exact List.getElem?_eq_none_iff.mpr (by omega)
def RelO : Option V → Option Value → Prop
  | some v, some u => RelV v u
  | none, none => True
  | _, _ => False
def KV {κ : Type} : List (κ × V) → List (κ × Value) → Prop := Paired fun (p : κ × V) (q : κ × Value) => p.1 = q.1 ∧ RelV p.2 q.2
/-- a key of a dict (00_mix): an int or a text -/
def kV : Key → V
  | .inl i => .int i
  | .inr x => .str x
/-- what stands at a tracked address -/
inductive HO where
  /-- a list -/
  | lst (xs : List V)
  /-- a tuple (never changes) -/
  | tup (xs : List V)
  /-- a dict whose keys are ints and texts; one whose keys are tuples of ints and texts (the empty one is both) -/
  | dK (kvs : List (Key × V)) | dT (kvs : List (List Key × V))
  /-- a set of ints: its members, its size -/
  | set (S : Int → Bool) (n : Nat)
  /-- an instance of the class at C, its dict at dx, its attributes -/
  | ins (C dx : Addr) (fs : List (Str × V))
  /-- the dict of the instance at x -/
  | own (x : Addr)
  /-- the dict of an exception -/
  | xd (fs : List (Str × V))
  /-- a bound method, f of x -/
  | met (f x : Addr)
  /-- a range object lo, lo + 1, .. below hi -/
  | rng (lo hi : Int)
  /-- a thing that is known to the object (the script; a dict while a loop walks it): read, never written while it is so -/
  | frz (o : Obj) (u : HO)
  /-- a code object's table -/
  | tbl (ps : Array Value)
  /-- any other thing, by what is true of its one object (a def of one's own: SetO a S n := HO.ext fun h => ..) -/
  | ext (φ : Heap → Prop)
abbrev Hp := Addr → Option HO
def upd (H : Hp) (a : Addr) (o : HO) : Hp := fun b => if b = a then some o else H b
theorem upd_same {H : Hp} {a : Addr} {o : HO} : upd H a o a = some o := by unfold upd; rw [if_pos rfl]
theorem upd_ne {H : Hp} {a b : Addr} {o : HO} (h : b ≠ a) : upd H a o b = H b := by unfold upd; rw [if_neg h]
/-- two objects of different content stand apart -/
theorem ne_of {H : Hp} {a b : Addr} {o u : HO} (h : H a = some o) (h' : H b = some u) (d : o ≠ u) : a ≠ b := by
  intro e; subst e; rw [h] at h'; exact d (Option.some.inj h')
theorem ne_of_none {H : Hp} {a b : Addr} {o : HO} (h : H a = some o) (h' : H b = none) : a ≠ b := by
  intro e; subst e; rw [h] at h'; cases h'
section
variable (P : Program) (w : World)
def ObjOk (H : Hp) (h : Heap) (a : Addr) : HO → Prop
  | .lst xs => xs.length ≤ sizeLine ∧ ∃ (its : List Value) (n : Nat), Vals xs its ∧ h.get? a = some { cls := .type "list", data := .seq its.toArray n }
  | .tup xs => xs.length ≤ sizeLine ∧ ∃ its : List Value, Vals xs its ∧ IsTup h a its.toArray
  | .dK kvs => kvs.length ≤ sizeLine ∧ (a == sysModules) = false ∧ ∃ vs, KV kvs vs ∧ h.DictOf (mixKind P w) a vs
  | .dT kvs => kvs.length ≤ sizeLine ∧ (a == sysModules) = false ∧ ∃ xs : List (List Key × Addr × Value),
      Paired (fun (p : List Key × V) (q : List Key × Addr × Value) => p.1 = q.1 ∧ H q.2.1 = some (.tup (p.1.map kV)) ∧ RelV p.2 q.2.2) kvs xs ∧
      ∃ o es ep, h.get? a = some o ∧ o.ExactDict ∧ o.data = .dict es ep ∧ es.toList = xs.map (entryOfKey (tupleKind (mixKind P w))) ∧ (xs.map (·.1)).Nodup
  | .set S n => h.SetOf (intKind P w) a S n
  | .ins C dx fs => H dx = some (.own a) ∧ fs.length ≤ 1000 ∧ dx ≠ a ∧ h.get? a = some (PySem.W.instObj C dx) ∧
      ∃ mA, h.Ns1 dx mA ∧ (∀ f, RelO (fs.lookup f) (mA f)) ∧ PySem.Within mA (fs.map (·.1))
  | .own _ => ∃ o, h.get? a = some o
  | .xd fs => ∃ mA, h.Ns1 a mA ∧ ∀ f, RelO (fs.lookup f) (mA f)
  | .rng lo hi => ∃ t u v, h.get? a = some { cls := .type "range", data := .fields #[.int lo t, .int hi u, .int 1 v] }
  | .frz o u => h.get? a = some o ∧ ObjOk H h a u
  | .tbl ps => h.get? a = some { cls := .none, data := .fields ps }
  | .met f x => h.get? a = some (PySem.W.methodObj (.ref f) (.ref x))
  | .ext φ => φ h ∧ (∃ o, h.get? a = some o) ∧ ∀ h1 h2 : Heap, φ h1 → (∀ o, h1.get? a = some o → h2.get? a = some o) → φ h2
/-- the abstract heap is held -/
def HOk (H : Hp) (h : Heap) : Prop := ∀ a o, H a = some o → ObjOk P w H h a o
end
section
variable {P : Program} {w : World} {H H' : Hp} {h h' : Heap} {a : Addr} {o : HO}
theorem ObjOk.lt (x : ObjOk P w H h a o) : a < h.objs.size := by
  cases o with
  | lst xs => obtain ⟨_, _, _, _, e⟩ := x; exact Heap.lt_size e
  | tup xs => obtain ⟨_, _, _, p⟩ := x; exact p.lt
  | dK kvs => obtain ⟨_, _, _, _, o, _, _, e, _⟩ := x; exact Heap.lt_size e
  | dT kvs => obtain ⟨_, _, _, _, o, _, _, e, _⟩ := x; exact Heap.lt_size e
  | set S n => obtain ⟨o, _, _, _, e, _⟩ := x; exact Heap.lt_size e
  | ins C dx fs => obtain ⟨_, _, _, e, _⟩ := x; exact Heap.lt_size e
  | own y => obtain ⟨_, e⟩ := x; exact Heap.lt_size e
  | xd fs => obtain ⟨_, ⟨_, _, _, e, _⟩, _⟩ := x; exact Heap.lt_size e
  | rng lo hi => obtain ⟨_, _, _, e⟩ := x; exact Heap.lt_size e
  | frz ob u => obtain ⟨e, _⟩ := x; exact Heap.lt_size e
  | tbl ps => exact Heap.lt_size (show h.get? a = some _ from x)
  | met f y => exact Heap.lt_size (show h.get? a = some _ from x)
  | ext φ => obtain ⟨_, ⟨_, e⟩, _⟩ := x; exact Heap.lt_size e
theorem Paired.mapP {α β : Type} {F G : α → β → Prop} : ∀ {l₁ : List α} {l₂ : List β}, Paired F l₁ l₂ → (∀ a b, F a b → G a b) → Paired G l₁ l₂
  | _, _, .nil, _ => .nil
  | _, _, .cons r t, f => .cons (f _ _ r) (Paired.mapP t f)
/-- what an object's description leans on: its own object, its own dict, the tuples -/
theorem ObjOk.stay (x : ObjOk P w H h a o) (k : ∀ b u, (b = a ∨ H b = some (.own a)) → h.get? b = some u → h'.get? b = some u)
    (ho : ∀ b, H b = some (.own a) → H' b = some (.own a)) (ht : ∀ b xs, H b = some (.tup xs) → H' b = some (.tup xs)) : ObjOk P w H' h' a o := by
  induction o with
  | lst xs => obtain ⟨z, its, n, r, e⟩ := x; exact ⟨z, its, n, r, k _ _ (.inl rfl) e⟩
  | tup xs => obtain ⟨z, its, r, ob, e, c⟩ := x; exact ⟨z, its, r, ob, k _ _ (.inl rfl) e, c⟩
  | dK kvs => obtain ⟨z, y, vs, r, ob, es, ep, e, c⟩ := x; exact ⟨z, y, vs, r, ob, es, ep, k _ _ (.inl rfl) e, c⟩
  | dT kvs =>
    obtain ⟨z, y, xs, r, ob, es, ep, e, c⟩ := x
    exact ⟨z, y, xs, Paired.mapP r fun p q z => ⟨z.1, ht _ _ z.2.1, z.2.2⟩, ob, es, ep, k _ _ (.inl rfl) e, c⟩
  | set S n => obtain ⟨ob, es, ep, t, e, c⟩ := x; exact ⟨ob, es, ep, t, k _ _ (.inl rfl) e, c⟩
  | ins C dx fs =>
    obtain ⟨d, z, ne, e, mA, ⟨od, es, ep, e2, c⟩, r⟩ := x
    exact ⟨ho _ d, z, ne, k _ _ (.inl rfl) e, mA, ⟨od, es, ep, k _ _ (.inr d) e2, c⟩, r⟩
  | own y => obtain ⟨ob, e⟩ := x; exact ⟨ob, k _ _ (.inl rfl) e⟩
  | xd fs => obtain ⟨mA, ⟨od, es, ep, e, c⟩, r⟩ := x; exact ⟨mA, ⟨od, es, ep, k _ _ (.inl rfl) e, c⟩, r⟩
  | rng lo hi => obtain ⟨t, u, v, e⟩ := x; exact ⟨t, u, v, k _ _ (.inl rfl) e⟩
  | frz ob u ih => obtain ⟨e, q⟩ := x; exact ⟨k _ _ (.inl rfl) e, ih q⟩
  | tbl ps =>
    have e : h.get? a = some { cls := .none, data := .fields ps } := x
    show h'.get? a = some { cls := .none, data := .fields ps }
    exact k a _ (.inl rfl) e
  | met f y =>
    have e : h.get? a = some (PySem.W.methodObj (.ref f) (.ref y)) := x
    show h'.get? a = some (PySem.W.methodObj (.ref f) (.ref y))
    exact k a _ (.inl rfl) e
  | ext φ => obtain ⟨p, ⟨o, e⟩, st⟩ := x; exact ⟨st _ _ p fun o q => k _ _ (.inl rfl) q, ⟨o, k _ _ (.inl rfl) e⟩, st⟩
theorem HOk.lt (x : HOk P w H h) (e : H a = some o) : a < h.objs.size := (x a o e).lt
theorem HOk.fresh (x : HOk P w H h) (e : h.objs.size ≤ a) : H a = none := by
  cases q : H a with
  | none => rfl
  | some u => exact absurd (Nat.lt_of_lt_of_le (x.lt q) e) (Nat.lt_irrefl _)
/-- every object of the heap is kept -/
theorem HOk.kept (x : HOk P w H h) (k : ∀ b u, h.get? b = some u → h'.get? b = some u) : HOk P w H h' := fun a o e =>
  (x a o e).stay (fun b u _ q => k b u q) (fun _ q => q) fun _ _ q => q
/-- a new object is laid and tracked -/
theorem HOk.laid (x : HOk P w H h) (k : ∀ b u, h.get? b = some u → h'.get? b = some u) (hp : h.objs.size ≤ a) (new : ObjOk P w (upd H a o) h' a o) : HOk P w (upd H a o) h' := fun b u e => by
  have hn := x.fresh hp
  by_cases hb : b = a
  · subst hb; rw [upd_same] at e; cases e; exact new
  · rw [upd_ne hb] at e
    exact (x b u e).stay (fun c v _ q => k c v q) (fun c q => by rw [upd_ne (ne_of_none q hn)]; exact q) fun c xs q => by rw [upd_ne (ne_of_none q hn)]; exact q
end
/-- what may be read as u: it is u, or a known u -/
def Rd (H : Hp) (a : Addr) (u : HO) : Prop := H a = some u ∨ ∃ o, H a = some (.frz o u)
theorem Rd.of {H : Hp} {a : Addr} {u : HO} (h : H a = some u) : Rd H a u := .inl h
theorem Rd.ok {P : Program} {w : World} {H : Hp} {h : Heap} {a : Addr} {u : HO} (r : Rd H a u) (x : HOk P w H h) : ObjOk P w H h a u := by
  rcases r with r | ⟨o, r⟩
  · exact x a u r
  · obtain ⟨_, q⟩ := x a _ r
    exact q
/-- what may be written -/
def Mut : Option HO → Prop
  | some (.lst _) => True
  | some (.dK _) => True
  | some (.dT _) => True
  | some (.set _ _) => True
  | some (.ins _ _ _) => True
  | some (.ext _) => True
  | _ => False
section
variable {P : Program} {w : World} {H : Hp} {h h' : Heap} {x e : Addr} {o' : HO}
/-- the object at e is changed: x itself, or the dict of the instance x -/
theorem HOk.write (ok : HOk P w H h) (mu : Mut (H x)) (he : e = x ∨ H e = some (.own x)) (k : ∀ b u, b ≠ e → h.get? b = some u → h'.get? b = some u) (heo : ∃ u, h'.get? e = some u)
    (new : ObjOk P w (upd H x o') h' x o') : HOk P w (upd H x o') h' := fun b u q => by
  have nown : ∀ c y, H c = some (.own y) → c ≠ x := fun c y r z => by subst z; rw [r] at mu; exact mu
  have ntup : ∀ c xs, H c = some (.tup xs) → c ≠ x := fun c xs r z => by subst z; rw [r] at mu; exact mu
  by_cases hb : b = x
  · subst hb; rw [upd_same] at q; cases q; exact new
  · rw [upd_ne hb] at q
    by_cases hbe : b = e
    · have q' : H b = some (.own x) := by
        rcases he with z | z
        · exact absurd (hbe.trans z) hb
        · rw [hbe]; exact z
      rw [q] at q'; cases q'
      obtain ⟨v, hv⟩ := heo
      exact ⟨v, by rw [hbe]; exact hv⟩
    · refine (ok b u q).stay (fun c v hc r => k c v ?_ r) (fun c r => by rw [upd_ne (nown c b r)]; exact r) fun c xs r => by rw [upd_ne (ntup c xs r)]; exact r
      rcases hc with rfl | hc
      · exact hbe
      · rintro rfl
        rcases he with z | z
        · exact nown c b hc z
        · rw [hc] at z; cases z; exact hb rfl
end
/-! ### kept unless tracked; of the frames at fs (the callers') the slots may change (an exception that passes writes there); of the records at ex (iterators) nothing is said -/
structure Un (fs ex : List Addr) (H H' : Hp) (h h' : Heap) : Prop where
  keep : ∀ b o, h.get? b = some o → H b = none → b ∉ fs → b ∉ ex → h'.get? b = some o
  slot : ∀ b o, h.get? b = some o → H b = none → b ∈ fs → b ∉ ex → ∃ sl, h'.get? b = some { o with slots := sl }
  free : ∀ b o, h.get? b = some o → H b = none → b ∉ ex → H' b = none
  there : ∀ b o, h.get? b = some o → b ∉ ex → ∃ o', h'.get? b = some o'
  tups : ∀ b xs, H b = some (.tup xs) → H' b = some (.tup xs)
  frzs : ∀ b o u, H b = some (.frz o u) → H' b = some (.frz o u)
  tbls : ∀ b ps, H b = some (.tbl ps) → ∃ more, H' b = some (.tbl (ps ++ more))
section
variable {fs fs' ex ex' : List Addr} {H H1 H2 : Hp} {h h1 h2 h' : Heap} {a x e : Addr} {o : HO}
theorem Un.any (u : Un fs ex H H1 h h1) {b : Addr} {ob : Obj} (q : h.get? b = some ob) (n : H b = none) (hx : b ∉ ex) : ∃ sl, h1.get? b = some { ob with slots := sl } := by
  by_cases hb : b ∈ fs
  · exact u.slot b ob q n hb hx
  · exact ⟨ob.slots, u.keep b ob q n hb hx⟩
theorem Un.trans (a : Un fs ex H H1 h h1) (b : Un fs ex H1 H2 h1 h2) : Un fs ex H H2 h h2 where
  keep := fun c ob q n hc hx => b.keep c ob (a.keep c ob q n hc hx) (a.free c ob q n hx) hc hx
  slot := fun c ob q n hc hx => by
    obtain ⟨sl, e1⟩ := a.slot c ob q n hc hx
    obtain ⟨sl', e2⟩ := b.slot c _ e1 (a.free c ob q n hx) hc hx
    exact ⟨sl', e2⟩
  free := fun c ob q n hx => by
    obtain ⟨o', e1⟩ := a.there c ob q hx
    exact b.free c o' e1 (a.free c ob q n hx) hx
  there := fun c ob q hx => by
    obtain ⟨o', e1⟩ := a.there c ob q hx
    exact b.there c o' e1 hx
  tups := fun c xs q => b.tups c xs (a.tups c xs q)
  frzs := fun c ob xs q => b.frzs c ob xs (a.frzs c ob xs q)
  tbls := fun c ps q => by
    obtain ⟨m1, e1⟩ := a.tbls c ps q
    obtain ⟨m2, e2⟩ := b.tbls c _ e1
    exact ⟨m1 ++ m2, by rw [e2, Array.append_assoc]⟩
theorem Un.kept (k : ∀ b u, h.get? b = some u → h'.get? b = some u) : Un fs ex H H h h' :=
  ⟨fun b ob q _ _ _ => k b ob q, fun b ob q _ _ _ => ⟨ob.slots, k b ob q⟩, fun _ _ _ n _ => n, fun b ob q _ => ⟨ob, k b ob q⟩, fun _ _ q => q, fun _ _ _ q => q, fun _ ps q => ⟨#[], by rw [q]; simp⟩⟩
theorem Un.refl : Un fs ex H H h h := Un.kept fun _ _ q => q
theorem Un.laid (k : ∀ b u, h.get? b = some u → h'.get? b = some u) (hp : h.objs.size ≤ a) (hn : H a = none) : Un fs ex H (upd H a o) h h' where
  keep := fun b u q _ _ _ => k b u q
  slot := fun b u q _ _ _ => ⟨u.slots, k b u q⟩
  free := fun b u q n _ => by rw [upd_ne (Nat.ne_of_lt (Nat.lt_of_lt_of_le (Heap.lt_size q) hp))]; exact n
  there := fun b u q _ => ⟨u, k b u q⟩
  tups := fun b xs q => by rw [upd_ne (ne_of_none q hn)]; exact q
  frzs := fun b u xs q => by rw [upd_ne (ne_of_none q hn)]; exact q
  tbls := fun b ps q => ⟨#[], by rw [upd_ne (ne_of_none q hn), q]; simp⟩
theorem Un.write (mu : Mut (H x)) (he : e = x ∨ H e = some (.own x)) (k : ∀ b u, b ≠ e → h.get? b = some u → h'.get? b = some u) (heo : ∃ u, h'.get? e = some u) : Un fs ex H (upd H x o) h h' := by
  have hx : ∀ b, H b = none → b ≠ x := fun b n z => by subst z; rw [n] at mu; exact mu
  have hb : ∀ b, H b = none → b ≠ e := fun b n z => by
    subst z
    rcases he with r | r
    · exact hx b n r
    · rw [n] at r; cases r
  have hm : ∀ b u, H b = some u → ¬ Mut (some u) → b ≠ x := fun b u q nm z => by subst z; rw [q] at mu; exact nm mu
  refine ⟨fun b u q n _ _ => k b u (hb b n) q, fun b u q n _ _ => ⟨u.slots, k b u (hb b n) q⟩, fun b u q n _ => by rw [upd_ne (hx b n)]; exact n, fun b u q _ => ?_,
    fun b xs q => by rw [upd_ne (hm b _ q fun z => z)]; exact q, fun b u xs q => by rw [upd_ne (hm b _ q fun z => z)]; exact q, fun b ps q => ⟨#[], by rw [upd_ne (hm b _ q fun z => z), q]; simp⟩⟩
  by_cases hbe : b = e
  · subst hbe; exact heo
  · exact ⟨u, k b u hbe q⟩
theorem Un.mono (u : Un fs ex H H1 h h1) (hs : ∀ b ∈ fs, b ∈ fs') (hx : ∀ b ∈ ex, b ∈ ex') : Un fs' ex' H H1 h h1 :=
  ⟨fun b ob q n hb he => u.keep b ob q n (fun z => hb (hs b z)) fun z => he (hx b z), fun _ _ q n _ he => u.any q n fun z => he (hx _ z), fun b ob q n he => u.free b ob q n fun z => he (hx b z), fun b ob q he => u.there b ob q fun z => he (hx b z), u.tups, u.frzs, u.tbls⟩
end
/-! ### the heap without what is tracked -/
def trk (h : Heap) (H : Hp) : List Addr := (List.range h.objs.size).filter fun a => (H a).isSome
def hidT (h : Heap) (H : Hp) : Heap := PySem.W.hideAll h (trk h H)
theorem hidT_size (h : Heap) (H : Hp) : (hidT h H).objs.size = h.objs.size := PySem.W.hideAll_size _ _
theorem hidT_get {h : Heap} {H : Hp} {b : Addr} {o : Obj} (e : h.get? b = some o) (n : H b = none) : (hidT h H).get? b = some o :=
  PySem.W.hideAll_get _ e fun hm => by
    have q : (H b).isSome = true := (List.mem_filter.mp hm).2
    rw [n] at q; simp at q
theorem of_hidT {h : Heap} {H : Hp} {b : Addr} {o : Obj} (e : (hidT h H).get? b = some o) : h.get? b = some o ∧ H b = none := by
  have e' : h.get? b = some o := PySem.W.of_hideAll (trk h H) e
  refine ⟨e', ?_⟩
  cases q : H b with
  | none => rfl
  | some x =>
    have hm : b ∈ trk h H := List.mem_filter.mpr ⟨List.mem_range.mpr (Heap.lt_size e'), by simp [q]⟩
    have z : (hidT h H).get? b = none := PySem.W.hideAll_none (trk h H) hm
    rw [z] at e; cases e
/-! ### OpenK's ledger, filled with every new object but one -/
def allNews (g h : Heap) (L : Addr) : List (Addr × Obj) := (List.range h.objs.size).filterMap fun a => if a = L ∨ (g.get? a).isSome = true then none else (h.get? a).map fun o => (a, o)
def rest (g h : Heap) (L d : Addr) : List (Addr × Obj) := (allNews g h L).filter fun p => decide (p.1 ≠ d)
end L2
namespace L2
open PySem PySem.Spec PyProof.Rows
/-- the module's facts, over the base: the heap at the law's entry without what is tracked there -/
structure Mod (K : PySem.W.Frag) (mg : Str → Option Value) (base : Heap) : Prop where
  kin : K.In base
  glob : base.Ns mainGlobals mg
  blt : ∃ mb, base.Ns builtinsNs mb ∧ ∀ x : Str, x ≠ "__name__" → mb x = bootBuiltins x
  nolimit : base.NoLimit
/-- the context: a def's body (or a comprehension's block) running. base: fixed through the whole law; s₀, H₀: the entry; outer: the frames whose slots others may change (a def's callers); stack: all frames that run;
   ex: iterators that were made ahead of the entry and are walked here (a comprehension's); fn: the names whose cells were made at the entry (a def: all; a comprehension's block: its own); calm: not within an except suite; pn: pins that every state bears; xe: what is wanted of an exception that leaves the code -/
structure Cx where
  prog : Program
  w : World
  K : PySem.W.Frag
  mg : Str → Option Value
  base : Heap
  A : Around
  N : List Str
  s_0 : Shared
  H_0 : Hp
  env : Env
  outer : List Env
  stack : List Env
  ex : List Addr
  fn : Str → Bool
  calm : Bool
  pn : List (Addr × Obj)
  xe : Value → Shared → Prop
/-- the callers' frames -/
def frs (l : List Env) : List Addr := l.filterMap (·.frame)
abbrev Cx.fs (X : Cx) : List Addr := frs X.outer
def Vis (sc : Scope) (x : Str) : Prop := sc.names.lookup x = some .local ∨ sc.names.lookup x = some .cell ∨ sc.names.lookup x = some .free
def Loc (sc : Scope) (x : Str) : Prop := sc.names.lookup x = some .local ∨ sc.names.lookup x = some .cell
def Look (env : Env) (h : Heap) (m : Str → Option Value) (x : Str) (u : Value) : Prop :=
  (env.kindOf x = some .local ∧ m x = some u) ∨ ((env.kindOf x = some .cell ∨ env.kindOf x = some .free) ∧ ∃ c, env.cells.lookup x = some c ∧ h.IsCell c (some u))
structure Cx.Ok (X : Cx) : Prop where
  mod : Mod X.K X.mg X.base
  kind : X.env.scope.kind = .function
  glob : X.env.globals = mainGlobals
  blt : X.env.builtins = builtinsNs
  above : X.s_0.heap.objs.size ≤ X.env.locals
  inj : ∀ x y c, X.env.cells.lookup x = some c → X.env.cells.lookup y = some c → x = y
  has : ∀ x, (X.env.kindOf x = some .cell ∨ X.env.kindOf x = some .free) → ∃ c, X.env.cells.lookup x = some c
  cab : ∀ x c, X.fn x = true → X.env.cells.lookup x = some c → X.s_0.heap.objs.size ≤ c
  hd : X.calm = true → X.A.handled = none
  frames : X.A.frames = some X.stack
  stk : X.stack = X.outer ∨ (X.stack = X.env :: X.outer ∧ X.env.frame = some X.env.locals)
  exf : ∀ b ∈ X.ex, b ≠ X.env.locals ∧ ∀ x c, X.env.cells.lookup x = some c → c ≠ b
  bs : ∀ b o, X.base.get? b = some o → X.s_0.heap.get? b = some o ∧ X.H_0 b = none
  bsz : X.base.objs.size ≤ X.s_0.heap.objs.size
  noex : ∀ b o, X.base.get? b = some o → b ∉ X.ex
  exfs : ∀ b ∈ X.ex, b ∉ X.fs
  funs : X.s_0.heap.FunFrames X.base X.outer
  frf : ∀ b ∈ X.fs, X.H_0 b = none
structure Inv (X : Cx) (pins : List (Addr × Obj)) (σ : List (Option V)) (H : Hp) (s : Shared) : Prop where
  ok : X.Ok
  os : s.os = X.s_0.os
  bare : AllBare s.gens
  base : Un X.fs X.ex X.H_0 H X.s_0.heap s.heap
  loc : ∃ m, s.heap.Ns X.env.locals m ∧ ∀ (i : Nat) (x : Str) (v : V), X.N[i]? = some x → σ[i]? = some (some v) → Vis X.env.scope x → ∃ u, RelV v u ∧ Look X.env s.heap m x u
  cell : ∀ x c, X.env.cells.lookup x = some c → ∃ v, s.heap.IsCell c v
  free : H X.env.locals = none
  freeC : ∀ x c, X.env.cells.lookup x = some c → H c = none
  pin : ∀ p ∈ X.pn ++ pins, s.heap.get? p.1 = some p.2 ∧ H p.1 = none ∧ p.1 ≠ X.env.locals ∧ p.1 ∉ X.fs ∧ ∀ v, p.2.data ≠ .cell v
  hok : HOk X.prog X.w H s.heap
  len : σ.length = X.N.length
section
variable {X : Cx} {pins : List (Addr × Obj)} {σ : List (Option V)} {H H' : Hp} {s : Shared} {h' : Heap}
theorem Cx.Ok.nofr (ok : X.Ok) {b : Addr} {o : Obj} (e : X.base.get? b = some o) : b ∉ X.fs := fun hb => by
  have := (ok.funs.mem hb).1
  rw [e] at this; cases this
theorem Inv.bs (I : Inv X pins σ H s) : ∀ b o, X.base.get? b = some o → s.heap.get? b = some o ∧ H b = none := fun b o e =>
  ⟨I.base.keep b o (I.ok.bs b o e).1 (I.ok.bs b o e).2 (I.ok.nofr e) (I.ok.noex b o e), I.base.free b o (I.ok.bs b o e).1 (I.ok.bs b o e).2 (I.ok.noex b o e)⟩
theorem Inv.bk (I : Inv X pins σ H s) : ∀ b o, X.base.get? b = some o → s.heap.get? b = some o := fun b o e => (I.bs b o e).1
theorem Inv.mod (I : Inv X pins σ H s) : Mod X.K X.mg X.base := I.ok.mod
theorem Inv.kIn (I : Inv X pins σ H s) : X.K.In s.heap := I.ok.mod.kin.keeps I.bk
theorem Inv.nolimit (I : Inv X pins σ H s) : s.heap.NoLimit := I.ok.mod.nolimit.keeps I.bk
/-- the frame over the base: for OpenK's rules (K.In X.base is I.mod.kin) -/
theorem Inv.fr (I : Inv X pins σ H s) : ∃ m, Fr X.base X.env.locals s.heap m :=
  let ⟨m, hn, _⟩ := I.loc
  ⟨m, hn, I.bk, Nat.le_trans I.ok.bsz I.ok.above⟩
theorem Inv.lt (I : Inv X pins σ H s) : X.env.locals < s.heap.objs.size := let ⟨_, hn, _⟩ := I.loc; hn.lt
theorem Inv.sz (I : Inv X pins σ H s) : X.s_0.heap.objs.size ≤ s.heap.objs.size := Nat.le_trans I.ok.above (Nat.le_of_lt I.lt)
theorem Inv.nofs (I : Inv X pins σ H s) {a : Addr} (h : s.heap.objs.size ≤ a) : a ∉ X.fs := fun hb => by
  obtain ⟨_, o, ho, _⟩ := I.ok.funs.mem hb
  exact absurd (Nat.lt_of_lt_of_le (Heap.lt_size ho) (Nat.le_trans I.sz h)) (Nat.lt_irrefl _)
theorem Inv.cne (I : Inv X pins σ H s) : ∀ x c, X.env.cells.lookup x = some c → c ≠ X.env.locals := fun x c e z => by
  obtain ⟨v, o, ho, hd⟩ := I.cell x c e
  obtain ⟨m, ⟨o', es, ep, ho', hd', _⟩, _⟩ := I.loc
  rw [z, ho'] at ho; cases ho; rw [hd'] at hd; cases hd
theorem Inv.funs (I : Inv X pins σ H s) : s.heap.FunFrames X.base X.outer := by
  have all : ∀ (l : List Env), (∀ b ∈ frs l, b ∈ X.fs) → X.s_0.heap.FunFrames X.base l → s.heap.FunFrames X.base l := by
    intro l
    induction l with
    | nil => intro _ _; trivial
    | cons env r ih =>
      intro hs hl
      obtain ⟨hk, ⟨L, o, hf, hn, ho, hd⟩, hr⟩ := hl
      have hL : L ∈ X.fs := hs L (by unfold frs; rw [List.filterMap_cons, hf]; exact List.mem_cons_self)
      obtain ⟨sl, e⟩ := I.base.slot L o ho (I.ok.frf L hL) hL fun z => I.ok.exfs L z hL
      exact ⟨hk, ⟨L, _, hf, hn, e, hd⟩, ih (fun b hb => hs b (by unfold frs; rw [List.filterMap_cons, hf]; exact List.mem_cons_of_mem _ hb)) hr⟩
  exact all X.outer (fun _ hb => hb) I.ok.funs
/-- the frames that run, for a call -/
theorem Inv.stack (I : Inv X pins σ H s) : s.heap.FunFrames X.base X.stack := by
  rcases I.ok.stk with e | ⟨e, hf⟩
  · rw [e]; exact I.funs
  · rw [e]
    obtain ⟨m, hn, _⟩ := I.loc
    refine .cons (by rw [I.ok.kind]; decide) hf hn ?_ I.funs
    exact Heap.get?_none_of_le (Nat.le_trans I.ok.bsz I.ok.above)
theorem Inv.stkSub (I : Inv X pins σ H s) : ∀ b ∈ frs X.stack, b ∈ X.env.locals :: X.fs := fun b hb => by
  rcases I.ok.stk with e | ⟨e, hf⟩
  · rw [e] at hb; exact List.mem_cons_of_mem _ hb
  · rw [e] at hb
    unfold frs at hb
    rw [List.filterMap_cons, hf] at hb
    exact hb
theorem Inv.stkFree (I : Inv X pins σ H s) : ∀ b ∈ frs X.stack, H b = none := fun b hb => by
  rcases List.mem_cons.mp (I.stkSub b hb) with e | hb
  · rw [e]; exact I.free
  · obtain ⟨_, o, ho, _⟩ := I.ok.funs.mem hb
    exact I.base.free b o ho (I.ok.frf b hb) fun z => I.ok.exfs b z hb
/-- THE STEP: the untracked objects but the frame and the records at ch are kept (the callers' frames up to slots), the frame's map is kept, the new abstract heap is held -/
theorem Inv.step {g' : Array GenState} {t' : Nat} {d' : Drawn} {ch : List Addr} (I : Inv X pins σ H s)
    (hch : ∀ b ∈ ch, (b ∈ X.ex ∨ X.s_0.heap.objs.size ≤ b) ∧ b ≠ X.env.locals ∧ (∀ x c, X.env.cells.lookup x = some c → c ≠ b) ∧ ∀ p ∈ X.pn ++ pins, p.1 ≠ b)
    (keep : ∀ b o, b ≠ X.env.locals → b ∉ X.fs → b ∉ ch → s.heap.get? b = some o → H b = none → h'.get? b = some o)
    (slot : ∀ b o, b ≠ X.env.locals → b ∈ X.fs → b ∉ ch → s.heap.get? b = some o → H b = none → ∃ sl, h'.get? b = some { o with slots := sl }) (free : ∀ b o, b ∉ ch → s.heap.get? b = some o → H b = none → H' b = none)
    (there : ∀ b o, b ∉ ch → s.heap.get? b = some o → ∃ o', h'.get? b = some o')
    (tups : ∀ b xs, H b = some (.tup xs) → H' b = some (.tup xs)) (frzs : ∀ b o u, H b = some (.frz o u) → H' b = some (.frz o u)) (tbls : ∀ b ps, H b = some (.tbl ps) → ∃ more, H' b = some (.tbl (ps ++ more)))
    (ns : ∀ m, s.heap.Ns X.env.locals m → h'.Ns X.env.locals m) (hok : HOk X.prog X.w H' h') (hg : AllBare g') :
    Inv X pins σ H' { s with heap := h', gens := g', drawn := d', toks := t' } := by
  have neL : ∀ b o, X.s_0.heap.get? b = some o → b ≠ X.env.locals := fun b o e => Nat.ne_of_lt (Nat.lt_of_lt_of_le (Heap.lt_size e) I.ok.above)
  have neC : ∀ b o, X.s_0.heap.get? b = some o → b ∉ X.ex → b ∉ ch := fun b o e hx hb => by
    rcases (hch b hb).1 with z | z
    · exact hx z
    · exact absurd (Nat.lt_of_lt_of_le (Heap.lt_size e) z) (Nat.lt_irrefl _)
  have cellK : ∀ x c, X.env.cells.lookup x = some c → ∀ v, s.heap.IsCell c v → h'.IsCell c v := fun x c e v ⟨o, ho, hd⟩ => by
    have nch : c ∉ ch := fun z => (hch c z).2.2.1 x c e rfl
    by_cases hc : c ∈ X.fs
    · obtain ⟨sl, q⟩ := slot c o (I.cne x c e) hc nch ho (I.freeC x c e)
      exact ⟨_, q, hd⟩
    · exact ⟨o, keep c o (I.cne x c e) hc nch ho (I.freeC x c e), hd⟩
  refine ⟨I.ok, I.os, hg, ⟨fun b o e n hb hx => ?_, fun b o e n hb hx => ?_, fun b o e n hx => ?_, fun b o e hx => ?_, fun b xs e => tups b xs (I.base.tups b xs e), fun b o xs e => frzs b o xs (I.base.frzs b o xs e), fun b ps e => ?_⟩, ?_, fun x c e => ?_, ?_, fun x c e => ?_, fun p hp => ?_, hok, I.len⟩
  · exact keep b o (neL b o e) hb (neC b o e hx) (I.base.keep b o e n hb hx) (I.base.free b o e n hx)
  · obtain ⟨sl, e1⟩ := I.base.slot b o e n hb hx
    obtain ⟨sl', e2⟩ := slot b _ (neL b o e) hb (neC b o e hx) e1 (I.base.free b o e n hx)
    exact ⟨sl', e2⟩
  · obtain ⟨o', e1⟩ := I.base.there b o e hx
    exact free b o' (neC b o e hx) e1 (I.base.free b o e n hx)
  · obtain ⟨o', e1⟩ := I.base.there b o e hx
    exact there b o' (neC b o e hx) e1
  · obtain ⟨m1, e1⟩ := I.base.tbls b ps e
    obtain ⟨m2, e2⟩ := tbls b _ e1
    exact ⟨m1 ++ m2, by rw [e2, Array.append_assoc]⟩
  · obtain ⟨m, hn, hl⟩ := I.loc
    refine ⟨m, ns m hn, fun i x v e1 e2 e3 => ?_⟩
    obtain ⟨u, r, l⟩ := hl i x v e1 e2 e3
    refine ⟨u, r, ?_⟩
    rcases l with l | ⟨k, c, e, z⟩
    · exact .inl l
    · exact .inr ⟨k, c, e, cellK x c e _ z⟩
  · obtain ⟨v, z⟩ := I.cell x c e
    exact ⟨v, cellK x c e v z⟩
  · obtain ⟨m, ⟨o, _, _, ho, _⟩, _⟩ := I.loc
    exact free _ o (fun z => (hch _ z).2.1 rfl) ho I.free
  · obtain ⟨v, o, ho, hd⟩ := I.cell x c e
    exact free c o (fun z => (hch c z).2.2.1 x c e rfl) ho (I.freeC x c e)
  · obtain ⟨e, n, ne, nf, d⟩ := I.pin p hp
    have nch : p.1 ∉ ch := fun z => (hch p.1 z).2.2.2 p hp rfl
    exact ⟨keep p.1 p.2 ne nf nch e n, free p.1 p.2 nch e n, ne, nf, d⟩
/-- .. where the frame's own object is kept too -/
theorem Inv.un {t' : Nat} (I : Inv X pins σ H s) (u : Un X.fs [] H H' s.heap h') (hok : HOk X.prog X.w H' h') : Inv X pins σ H' { s with heap := h', toks := t' } := by
  obtain ⟨m, ⟨o, es, ep, ho, r⟩, _⟩ := id I.loc
  obtain ⟨sl, hL⟩ := u.any ho I.free (by simp)
  exact I.step (g' := s.gens) (d' := s.drawn) (ch := []) (fun _ z => nomatch z) (fun b o _ hb _ e n => u.keep b o e n hb (by simp)) (fun b o _ hb _ e n => u.slot b o e n hb (by simp)) (fun b o _ e n => u.free b o e n (by simp)) (fun b o _ e => u.there b o e (by simp)) u.tups u.frzs u.tbls (fun m' hm => by
    obtain ⟨o', es', ep', ho', r'⟩ := hm
    rw [ho] at ho'; cases ho'
    exact ⟨_, es', ep', hL, r'⟩) hok I.bare
/-- behind a call (or a comprehension's block): the slots of this frame may have changed too, the records at ch may have turned -/
theorem Inv.call {g' : Array GenState} {t' : Nat} {d' : Drawn} {ch : List Addr} (I : Inv X pins σ H s) (u : Un (frs X.stack) ch H H' s.heap h') (hok : HOk X.prog X.w H' h') (hg : AllBare g')
    (hch : ∀ b ∈ ch, (b ∈ X.ex ∨ X.s_0.heap.objs.size ≤ b) ∧ b ≠ X.env.locals ∧ (∀ x c, X.env.cells.lookup x = some c → c ≠ b) ∧ ∀ p ∈ X.pn ++ pins, p.1 ≠ b) :
    Inv X pins σ H' { s with heap := h', gens := g', drawn := d', toks := t' } := by
  obtain ⟨m, ⟨o, es, ep, ho, r⟩, _⟩ := id I.loc
  obtain ⟨sl, hL⟩ := u.any ho I.free fun z => (hch _ z).2.1 rfl
  exact I.step (ch := ch) hch (fun b o hL hb hc e n => u.keep b o e n (fun z => (List.mem_cons.mp (I.stkSub b z)).elim hL hb) hc) (fun b o _ _ hc e n => u.any e n hc) (fun b o hc e n => u.free b o e n hc) (fun b o hc e => u.there b o e hc) u.tups u.frzs u.tbls (fun m' hm => by
    obtain ⟨o', es', ep', ho', r'⟩ := hm
    rw [ho] at ho'; cases ho'
    exact ⟨_, es', ep', hL, r'⟩) hok hg
/-- an untracked record of ours (an iterator) has turned -/
theorem Inv.turned {t' : Nat} {it : Addr} (I : Inv X pins σ H s) (k : ∀ b o, b ≠ it → s.heap.get? b = some o → h'.get? b = some o) (hn : H it = none) (hL : it ≠ X.env.locals)
    (h1 : it ∈ X.ex ∨ X.s_0.heap.objs.size ≤ it) (h2 : ∀ x c, X.env.cells.lookup x = some c → c ≠ it) (h3 : ∀ p ∈ X.pn ++ pins, p.1 ≠ it) : Inv X pins σ H { s with heap := h', toks := t' } := by
  have nit : ∀ b u, H b = some u → b ≠ it := fun b u e z => by rw [z, hn] at e; cases e
  refine I.step (g' := s.gens) (d' := s.drawn) (ch := [it]) (fun b hb => ?_) (fun b o _ _ hc e _ => k b o (fun z => hc (by simp [z])) e) (fun b o _ _ hc e _ => ⟨o.slots, k b o (fun z => hc (by simp [z])) e⟩) (fun _ _ _ _ n => n)
    (fun b o hc e => ⟨o, k b o (fun z => hc (by simp [z])) e⟩) (fun _ _ e => e) (fun _ _ _ e => e) (fun b ps e => ⟨#[], by rw [e]; simp⟩) (fun m hm => ?_) (fun b u e => ?_) I.bare
  · have e : b = it := by simpa using hb
    subst e
    exact ⟨h1, hL, h2, h3⟩
  · obtain ⟨o, es, ep, ho, r⟩ := hm
    exact ⟨o, es, ep, k _ o (Ne.symm hL) ho, r⟩
  · refine (I.hok b u e).stay (fun c v hc q => k c v ?_ q) (fun _ q => q) fun _ _ q => q
    rcases hc with z | z
    · rw [z]; exact nit b u e
    · exact nit c _ z
theorem Inv.tok (I : Inv X pins σ H s) (t : Nat) : Inv X pins σ H { s with toks := t } := I.un (h' := s.heap) (t' := t) Un.refl I.hok
/-- all objects kept -/
theorem Inv.kept {t' : Nat} (I : Inv X pins σ H s) (k : ∀ b u, s.heap.get? b = some u → h'.get? b = some u) : Inv X pins σ H { s with heap := h', toks := t' } := I.un (Un.kept k) (I.hok.kept k)
/-- a new object laid and tracked -/
theorem Inv.laid {a : Addr} {o : HO} {t' : Nat} (I : Inv X pins σ H s) (k : ∀ b u, s.heap.get? b = some u → h'.get? b = some u) (hp : s.heap.objs.size ≤ a) (new : ObjOk X.prog X.w (upd H a o) h' a o) :
    Inv X pins σ (upd H a o) { s with heap := h', toks := t' } := I.un (Un.laid k hp (I.hok.fresh hp)) (I.hok.laid k hp new)
/-- an object written -/
theorem Inv.write {x e : Addr} {o : HO} {t' : Nat} (I : Inv X pins σ H s) (mu : Mut (H x)) (he : e = x ∨ H e = some (.own x)) (k : ∀ b u, b ≠ e → s.heap.get? b = some u → h'.get? b = some u) (heo : ∃ u, h'.get? e = some u)
    (new : ObjOk X.prog X.w (upd H x o) h' x o) : Inv X pins σ (upd H x o) { s with heap := h', toks := t' } := I.un (Un.write mu he k heo) (I.hok.write mu he k heo new)
/-- forgetting slots, pins -/
theorem Inv.weak {σ' : List (Option V)} (I : Inv X pins σ H s) (hl : σ'.length = σ.length) (w : ∀ (i : Nat) v, σ'[i]? = some (some v) → σ[i]? = some (some v)) : Inv X pins σ' H s :=
  ⟨I.ok, I.os, I.bare, I.base, let ⟨m, hn, hl'⟩ := I.loc; ⟨m, hn, fun i x v e1 e2 e3 => hl' i x v e1 (w i v e2) e3⟩, I.cell, I.free, I.freeC, I.pin, I.hok, hl.trans I.len⟩
theorem Inv.pins_of {pins' : List (Addr × Obj)} (I : Inv X pins σ H s) (h : ∀ p ∈ pins', s.heap.get? p.1 = some p.2 ∧ H p.1 = none ∧ p.1 ≠ X.env.locals ∧ p.1 ∉ X.fs ∧ ∀ v, p.2.data ≠ .cell v) : Inv X pins' σ H s :=
  ⟨I.ok, I.os, I.bare, I.base, I.loc, I.cell, I.free, I.freeC, fun p hp => (List.mem_append.mp hp).elim (fun z => I.pin p (List.mem_append_left _ z)) (h p), I.hok, I.len⟩
theorem nodup_ix {N : List Str} (hN : N.Nodup) {i j : Nat} {x : Str} (a : N[i]? = some x) (b : N[j]? = some x) : i = j := by
  obtain ⟨h1, e1⟩ := List.getElem?_eq_some_iff.mp a
  obtain ⟨h2, e2⟩ := List.getElem?_eq_some_iff.mp b
  exact (List.getElem_inj hN).mp (e1.trans e2.symm)
/-- a name is stored; what changed -/
theorem store_ok2 {M : Model} {A : Around} {E : Value → Shared → Prop} {i : Nat} {x : Str} {v : V} {u : Value} {Q : Unit → Shared → Prop} (I : Inv X pins σ H s) (hN : X.N.Nodup) (hi : X.N[i]? = some x) (hx : Loc X.env.scope x) (r : RelV v u)
    (h : ∀ s', Inv X pins (σ.set i (some v)) H s' → (∃ a, Heap.SameBut a s.heap s'.heap ∧ (a = X.env.locals ∨ X.env.cells.lookup x = some a)) → Q () s') (hf : X.fn x = true ∨ X.env.scope.names.lookup x = some .local := by first | exact .inl rfl | exact .inr rfl | assumption) : wpAny M A (storeName X.env x u) Q E s := by
  obtain ⟨m, hn, hl⟩ := id I.loc
  have hcls : (X.env.scope.kind == .class || (X.env.scope.kind == .module && X.env.locals != X.env.globals)) = false := by rw [I.ok.kind]; rfl
  have hiσ : i < σ.length := by rw [I.len]; exact (List.getElem?_eq_some_iff.mp hi).1
  have cne := I.cne
  have tracked : ∀ {a : Addr} {h' : Heap}, (∃ o, s.heap.get? a = some o ∧ H a = none) → Heap.SameBut a s.heap h' → HOk X.prog X.w H h' := fun {a h'} ha hs b ob e => by
    obtain ⟨_, _, hfree⟩ := ha
    refine (I.hok b ob e).stay (fun c w' hc q => (hs.2 c ?_).trans q) (fun _ q => q) fun _ _ q => q
    rintro rfl
    rcases hc with rfl | hc
    · rw [hfree] at e; cases e
    · rw [hfree] at hc; cases hc
  rcases hx with hk | hk
  · refine wpAny_storeName_local hk hn (fun h' hn' hs => ?_) hcls
    obtain ⟨oL, _, _, hoL, _⟩ := id hn
    refine h _ ⟨I.ok, I.os, I.bare, ⟨fun b o e n hb hx => ?_, fun b o e n hb hx => ?_, I.base.free, fun b o e hx => ?_, I.base.tups, I.base.frzs, I.base.tbls⟩, ⟨_, hn', fun j y v' e1 e2 e3 => ?_⟩, fun y c e => ?_, I.free, I.freeC, fun p hp => ?_, tracked ⟨oL, hoL, I.free⟩ hs, by simpa using I.len⟩ ⟨_, hs, .inl rfl⟩
    · exact (hs.2 b (Nat.ne_of_lt (Nat.lt_of_lt_of_le (Heap.lt_size e) I.ok.above))).trans (I.base.keep b o e n hb hx)
    · obtain ⟨sl, e1⟩ := I.base.slot b o e n hb hx
      exact ⟨sl, (hs.2 b (Nat.ne_of_lt (Nat.lt_of_lt_of_le (Heap.lt_size e) I.ok.above))).trans e1⟩
    · obtain ⟨o', e1⟩ := I.base.there b o e hx
      exact ⟨o', (hs.2 b (Nat.ne_of_lt (Nat.lt_of_lt_of_le (Heap.lt_size e) I.ok.above))).trans e1⟩
    · by_cases hj : j = i
      · subst hj
        rw [hi] at e1; cases e1
        rw [List.getElem?_set_self hiσ] at e2
        cases e2
        exact ⟨u, r, .inl ⟨hk, by simp⟩⟩
      · rw [List.getElem?_set_ne (Ne.symm hj)] at e2
        obtain ⟨u', r', q⟩ := hl j y v' e1 e2 e3
        refine ⟨u', r', ?_⟩
        rcases q with ⟨k, e⟩ | ⟨k, c, e, z⟩
        · refine .inl ⟨k, ?_⟩
          have : y ≠ x := fun e => hj (nodup_ix hN e1 (e ▸ hi))
          simp [this, e]
        · exact .inr ⟨k, c, e, z.sameBut hs (cne y c e)⟩
    · obtain ⟨w', z⟩ := I.cell y c e
      exact ⟨w', z.sameBut hs (cne y c e)⟩
    · obtain ⟨e, n, ne, nf, d⟩ := I.pin p hp
      exact ⟨(hs.2 p.1 ne).trans e, n, ne, nf, d⟩
  · have hfn : X.fn x = true := by
      rcases hf with z | z
      · exact z
      · rw [z] at hk; cases hk
    obtain ⟨c, hc⟩ := I.ok.has x (.inl hk)
    obtain ⟨w', z⟩ := I.cell x c hc
    refine wpAny_storeName_cell I.ok.kind hk hc z (fun h' hc' hs => ?_)
    obtain ⟨oc, hoc, hocd⟩ := id z
    refine h { s with heap := h' } ⟨I.ok, I.os, I.bare, ⟨fun b o e n hb hx => ?_, fun b o e n hb hx => ?_, I.base.free, fun b o e hx => ?_, I.base.tups, I.base.frzs, I.base.tbls⟩, ⟨m, hn.sameBut hs (Ne.symm (cne x c hc)), fun j y v' e1 e2 e3 => ?_⟩, fun y c' e => ?_, I.free, I.freeC, fun p hp => ?_, tracked ⟨oc, hoc, I.freeC x c hc⟩ hs, by simpa using I.len⟩ ⟨c, hs, .inr hc⟩
    · exact (hs.2 b (Nat.ne_of_lt (Nat.lt_of_lt_of_le (Heap.lt_size e) (I.ok.cab x c hfn hc)))).trans (I.base.keep b o e n hb hx)
    · obtain ⟨sl, e1⟩ := I.base.slot b o e n hb hx
      exact ⟨sl, (hs.2 b (Nat.ne_of_lt (Nat.lt_of_lt_of_le (Heap.lt_size e) (I.ok.cab x c hfn hc)))).trans e1⟩
    · obtain ⟨o', e1⟩ := I.base.there b o e hx
      exact ⟨o', (hs.2 b (Nat.ne_of_lt (Nat.lt_of_lt_of_le (Heap.lt_size e) (I.ok.cab x c hfn hc)))).trans e1⟩
    · by_cases hj : j = i
      · subst hj
        rw [hi] at e1; cases e1
        rw [List.getElem?_set_self hiσ] at e2
        cases e2
        exact ⟨u, r, .inr ⟨.inl hk, c, hc, hc'⟩⟩
      · rw [List.getElem?_set_ne (Ne.symm hj)] at e2
        obtain ⟨u', r', q⟩ := hl j y v' e1 e2 e3
        refine ⟨u', r', ?_⟩
        rcases q with q | ⟨k, c', e, z'⟩
        · exact .inl q
        · refine .inr ⟨k, c', e, z'.sameBut hs ?_⟩
          rintro rfl
          exact hj (nodup_ix hN e1 (I.ok.inj _ _ _ e hc ▸ hi))
    · by_cases hcc : c' = c
      · subst hcc; exact ⟨_, hc'⟩
      · obtain ⟨w2, z2⟩ := I.cell y c' e
        exact ⟨w2, z2.sameBut hs hcc⟩
    · obtain ⟨e, n, ne, nf, d⟩ := I.pin p hp
      refine ⟨(hs.2 p.1 ?_).trans e, n, ne, nf, d⟩
      intro q
      rw [q, hoc] at e
      have q' : oc = p.2 := Option.some.inj e
      exact d w' (by rw [← q']; exact hocd)
theorem store_ok {M : Model} {A : Around} {E : Value → Shared → Prop} {i : Nat} {x : Str} {v : V} {u : Value} {Q : Unit → Shared → Prop} (I : Inv X pins σ H s) (hN : X.N.Nodup) (hi : X.N[i]? = some x) (hx : Loc X.env.scope x) (r : RelV v u)
    (h : ∀ s', Inv X pins (σ.set i (some v)) H s' → Q () s') (hf : X.fn x = true ∨ X.env.scope.names.lookup x = some .local := by first | exact .inl rfl | exact .inr rfl | assumption) : wpAny M A (storeName X.env x u) Q E s :=
  store_ok2 I hN hi hx r (fun s' I' _ => h s' I') hf
/-- behind a call or a block, the state as it is -/
theorem Inv.call' {s' : Shared} {ch : List Addr} (I : Inv X pins σ H s) (ho : s'.os = s.os) (u : Un (frs X.stack) ch H H' s.heap s'.heap) (hok : HOk X.prog X.w H' s'.heap) (hg : AllBare s'.gens)
    (hch : ∀ b ∈ ch, (b ∈ X.ex ∨ X.s_0.heap.objs.size ≤ b) ∧ b ≠ X.env.locals ∧ (∀ x c, X.env.cells.lookup x = some c → c ≠ b) ∧ ∀ p ∈ X.pn ++ pins, p.1 ≠ b) : Inv X pins σ H' s' := by
  obtain ⟨h', g', d', t', o'⟩ := s'
  have e : o' = s.os := ho
  subst e
  exact I.call (g' := g') (t' := t') (d' := d') u hok hg hch
end
/-! ### the judgements -/
/-- an exception: its class, its own dict's address (where it has one), the abstract heap behind it -/
abbrev XK := Value → Option Addr → Hp → Prop
abbrev St := List (Option V)
abbrev VK := V → Hp → Prop
/-- an expression's reading; a test's; an argument list's -/
abbrev TE := St → Hp → VK → Prop
abbrev TT := St → Hp → (Bool → Hp → Prop) → Prop
abbrev TA := St → Hp → (List V → Hp → Prop) → Prop
/-- what is wanted behind a statement -/
structure Ends where
  nx : St → Hp → Prop
  rt : VK
  bk : St → Hp → Prop := fun _ _ => False
  ct : St → Hp → Prop := fun _ _ => False
abbrev TS := Ends → St → Hp → Prop
def EP (X : Cx) (pins : List (Addr × Obj)) (σ : St) (Q : VK) (u : Value) (s' : Shared) : Prop := ∃ v H', Inv X pins σ H' s' ∧ RelV v u ∧ Q v H'
def TP (X : Cx) (pins : List (Addr × Obj)) (σ : St) (Q : Bool → Hp → Prop) (b : Bool) (s' : Shared) : Prop := ∃ H', Inv X pins σ H' s' ∧ Q b H'
def AP (X : Cx) (pins : List (Addr × Obj)) (σ : St) (Q : List V → Hp → Prop) (us : List Value) (s' : Shared) : Prop := ∃ vs H', Inv X pins σ H' s' ∧ Vals vs us ∧ Q vs H'
def SP (X : Cx) (pins : List (Addr × Obj)) (D : Ends) (f : Flow) (s' : Shared) : Prop :=
  match f with
  | .next => ∃ σ' H', Inv X pins σ' H' s' ∧ D.nx σ' H'
  | .brk => ∃ σ' H', Inv X pins σ' H' s' ∧ D.bk σ' H'
  | .cont => ∃ σ' H', Inv X pins σ' H' s' ∧ D.ct σ' H'
  | .ret u => ∃ v σ' H', Inv X pins σ' H' s' ∧ RelV v u ∧ D.rt v H'
def PE (X : Cx) (e : Expr) (t : TE) : Prop :=
  ∀ (pins : List (Addr × Obj)) (s : Shared) (σ : St) (H : Hp) (Q : VK), Inv X pins σ H s → t σ H Q → wpAny (model X.prog X.w) X.A (eval e X.env) (EP X pins σ Q) X.xe s
def PT (X : Cx) (e : Expr) (t : TT) : Prop :=
  ∀ (pins : List (Addr × Obj)) (s : Shared) (σ : St) (H : Hp) (Q : Bool → Hp → Prop), Inv X pins σ H s → t σ H Q → wpAny (model X.prog X.w) X.A (isTrue e X.env (eval e X.env)) (TP X pins σ Q) X.xe s
/-- a test whatever its 'whole' is (and, or) -/
def PW (X : Cx) (e : Expr) (t : TT) : Prop :=
  ∀ (whole : Sem Value) (pins : List (Addr × Obj)) (s : Shared) (σ : St) (H : Hp) (Q : Bool → Hp → Prop), Inv X pins σ H s → t σ H Q → wpAny (model X.prog X.w) X.A (isTrue e X.env whole) (TP X pins σ Q) X.xe s
theorem PW.pt {X : Cx} {e : Expr} {t : TT} (h : PW X e t) : PT X e t := h _
/-- an argument list (no star), from the left -/
def PA (X : Cx) (es : List Expr) (t : TA) : Prop :=
  ∀ (pos : Pos) (pins : List (Addr × Obj)) (s : Shared) (σ : St) (H : Hp) (Q : List V → Hp → Prop), Inv X pins σ H s → t σ H Q → wpAny (model X.prog X.w) X.A (spliced (backTo pos (starEach es X.env))) (AP X pins σ Q) X.xe s
def PS (X : Cx) (st : Stmt) (t : TS) : Prop :=
  ∀ (pins : List (Addr × Obj)) (s : Shared) (σ : St) (H : Hp) (D : Ends), Inv X pins σ H s → t D σ H → wpAny (model X.prog X.w) X.A (exec st X.env) (SP X pins D) X.xe s
def PSs (X : Cx) (st : List Stmt) (t : TS) : Prop :=
  ∀ (pins : List (Addr × Obj)) (s : Shared) (σ : St) (H : Hp) (D : Ends), Inv X pins σ H s → t D σ H → wpAny (model X.prog X.w) X.A (execs st X.env) (SP X pins D) X.xe s
/-- weaken the end -/
theorem thn {α : Type} {t : Sem α} {Q Q' : α → Shared → Prop} {M : Model} {A : Around} {E : Value → Shared → Prop} {s : Shared} (h : wpAny M A t Q E s) (hQ : ∀ a s, Q a s → Q' a s) : wpAny M A t Q' E s := wpAny_mono h hQ fun _ _ x => x
end L2
namespace L2
open PySem PySem.Spec PyProof.Rows
section
variable {X : Cx}
/-! ### names and constants -/
def tVar (i : Nat) : TE := fun σ H Q => ∃ v, σ[i]? = some (some v) ∧ Q v H
def tC (v : V) : TE := fun _ H Q => Q v H
theorem pe_var {i : Nat} {x : Str} {pos : Pos} (hN : X.N[i]? = some x) (hv : Vis X.env.scope x) (hd : (x == ("__debug__" : Str)) = false := by decide) (hcd : (x == ("__classdict__" : Str)) = false := by decide) : PE X (.Name x pos) (tVar i) := by
  intro pins s σ H Q I h
  obtain ⟨v, e, h⟩ := h
  obtain ⟨m, hn, hl⟩ := I.loc
  obtain ⟨u, r, l⟩ := hl i x v hN e hv
  have fin : EP X pins σ Q u s := ⟨v, H, I, r, h⟩
  rcases l with ⟨hk, hm⟩ | ⟨hk, c, hc, hcell⟩
  · exact wpAny_Name (wpAny_loadName_local I.ok.kind hk hn hm fin) hd
  · rcases hk with hk | hk
    · exact wpAny_Name (wpAny_loadName_cell I.ok.kind hk hc hcell fin) hd
    · exact wpAny_Name (wpAny_loadName_free I.ok.kind hk hc hcell fin hcd) hd
theorem pe_int {i j pos} : PE X (.Constant (.int i) j pos) (tC (.int i)) := fun _ _ _ H _ I h => wpAny_Constant_int ⟨.int i, H, I.tok _, ⟨_, rfl⟩, h⟩
theorem pe_non {j pos} : PE X (.Constant .none j pos) (tC .non) := fun _ _ _ H _ I h => Constant_none ⟨.non, H, I, rfl, h⟩
theorem pe_str {x j pos} : PE X (.Constant (.str x) j pos) (tC (.str x)) := fun _ _ _ H _ I h => Calls.Constant_str ⟨.str x, H, I.tok _, ⟨_, rfl⟩, h⟩
/-- a global name of the def -/
def Gl (X : Cx) (x : Str) : Prop := X.env.kindOf x = some .globalImplicit
theorem ld_glob {E : Value → Shared → Prop} {pins : List (Addr × Obj)} {s : Shared} {σ : St} {H : Hp} {x : Str} {u : Value} {pos : Pos} {Q : Value → Shared → Prop} (I : Inv X pins σ H s) (hg : Gl X x) (hm : X.mg x = some u) (h : Q u s)
    (hd : (x == ("__debug__" : Str)) = false := by decide) : wpAny (model X.prog X.w) X.A (eval (.Name x pos) X.env) Q E s :=
  Calls.Name_function_global I.ok.kind hg (Calls.loadGlobal_global (by rw [I.ok.glob]; exact I.mod.glob.keeps I.bk) hm h) hd
theorem ld_blt {E : Value → Shared → Prop} {pins : List (Addr × Obj)} {s : Shared} {σ : St} {H : Hp} {x : Str} {u : Value} {pos : Pos} {Q : Value → Shared → Prop} (I : Inv X pins σ H s) (hg : Gl X x) (hm : X.mg x = none) (hv : bootBuiltins x = some u) (h : Q u s)
    (hn : x ≠ "__name__" := by decide) (hd : (x == ("__debug__" : Str)) = false := by decide) : wpAny (model X.prog X.w) X.A (eval (.Name x pos) X.env) Q E s := by
  obtain ⟨mb, h1, h2⟩ := I.mod.blt
  exact Calls.Name_function_global I.ok.kind hg (Calls.loadGlobal_builtin (by rw [I.ok.glob]; exact I.mod.glob.keeps I.bk) hm (by rw [I.ok.blt]; exact h1.keeps I.bk) ((h2 x hn).trans hv) h) hd
/-- a module's constant, a class, a function, as a value -/
theorem pe_glob {x : Str} {v : V} {u : Value} {pos : Pos} (hg : Gl X x) (hm : X.mg x = some u) (r : RelV v u) (hd : (x == ("__debug__" : Str)) = false := by decide) : PE X (.Name x pos) (tC v) :=
  fun _ _ _ H _ I h => ld_glob I hg hm ⟨v, H, I, r, h⟩ hd
/-! ### arithmetic -/
variable {a b : Expr} {ta tb : TE} {pos : Pos}
/-! ### comparisons -/
def PC (X : Cx) (op : CmpOp) (a b : Expr) (t : TE) : Prop :=
  ∀ (pins : List (Addr × Obj)) (s : Shared) (σ : St) (H : Hp) (Q : VK), Inv X pins σ H s → t σ H Q →
    wpAny (model X.prog X.w) X.A (eval a X.env) (fun v s₁ => wpAny (model X.prog X.w) X.A (eval b X.env) (fun u s₂ => wpAny (model X.prog X.w) X.A (compareOp op v u) (EP X pins σ Q) X.xe s₂) X.xe s₁) X.xe s
theorem nobehind (b : Expr) {op : CmpOp} (h : op ≠ .In) (h2 : op ≠ .NotIn) : behindInMarks op b = false := by
  have e1 : (op == CmpOp.In) = false := by cases op <;> first | rfl | exact absurd rfl h
  have e2 : (op == CmpOp.NotIn) = false := by cases op <;> first | rfl | exact absurd rfl h2
  cases b <;> simp [behindInMarks, e1, e2]
/-- is None -/
def tIsN (ta : TE) : TE := fun σ H Q => ta σ H fun x H1 => Q (.bl (decide (x = .non))) H1
def tNotN (ta : TE) : TE := fun σ H Q => ta σ H fun x H1 => Q (.bl (!decide (x = .non))) H1
theorem RelV.none_iff {x : V} {v : Value} (r : RelV x v) : (v == Value.none) = decide (x = .non) := by
  cases x with
  | non => cases r; rfl
  | bl _ => cases r; rfl
  | int _ => obtain ⟨t, rfl⟩ := r; rfl
  | str _ => obtain ⟨t, rfl⟩ := r; rfl
  | byt _ => obtain ⟨t, rfl⟩ := r; rfl
  | flt _ => obtain ⟨t, rfl⟩ := r; rfl
  | ref _ => cases r; rfl
  | ty _ => cases r; rfl
theorem pc_isN {j pos'} (ha : PE X a ta) : PC X .Is a (.Constant .none j pos') (tIsN ta) := by
  intro pins s σ H Q I h
  refine thn (ha pins s σ H _ I h) fun v s1 ⟨x, H1, I1, r1, q1⟩ => ?_
  exact Constant_none (is_none_gen ⟨.bl _, H1, I1, by rw [r1.none_iff]; rfl, q1⟩)
theorem pc_notN {j pos'} (ha : PE X a ta) : PC X .IsNot a (.Constant .none j pos') (tNotN ta) := by
  intro pins s σ H Q I h
  refine thn (ha pins s σ H _ I h) fun v s1 ⟨x, H1, I1, r1, q1⟩ => ?_
  exact Constant_none (isnot_none_gen ⟨.bl _, H1, I1, by rw [r1.none_iff]; rfl, q1⟩)
/-- a comparison as a value, as a test -/
def tB (t : TE) : TT := fun σ H Q => t σ H fun x H1 => ∃ c, x = .bl c ∧ Q c H1
theorem pt_cmp {op : CmpOp} {t : TE} (h : PC X op a b t) (h1 : behindInMarks op b = false := by first | exact nobehind _ (by decide) (by decide) | rfl) : PT X (.Compare a [op] [b] pos) (tB t) := by
  intro pins s σ H Q I hw
  refine wpAny_isTrue_Compare1 (thn (h pins s σ H _ I hw) fun v s1 h1 => thn h1 fun u s2 h2 => thn h2 fun c s3 ⟨x, H1, I1, r1, q1⟩ => ?_) h1
  obtain ⟨d, rfl, q⟩ := q1
  cases r1
  exact wpAny_truthy_bool ⟨H1, I1, q⟩
/-- an expression whose value is a bool, as a test -/
theorem pt_val {e : Expr} {t : TE} (h : PE X e t) (he : ∀ whole, isTrue e X.env whole = (do let v ← whole; standAt e.pos; holding [v] (truthy v)) := by intro _; rfl) : PT X e (tB t) := by
  intro pins s σ H Q I hw
  refine isTrue_plain (thn (h pins s σ H _ I hw) fun v s1 ⟨x, H1, I1, r1, q1⟩ => ?_) (he _)
  obtain ⟨d, rfl, q⟩ := q1
  cases r1
  exact wpAny_truthy_bool ⟨H1, I1, q⟩
/-! ### and, or, not -/
variable {tA tB' : TT} {rest : List Expr}
def tAnd (t u : TT) : TT := fun σ H Q => t σ H fun c H1 => if c = true then u σ H1 Q else Q false H1
def tOr (t u : TT) : TT := fun σ H Q => t σ H fun c H1 => if c = true then Q true H1 else u σ H1 Q
def tNot (t : TT) : TT := fun σ H Q => t σ H fun c H1 => Q (!c) H1
theorem pw_and1 (ha : PT X a tA) : PW X (.BoolOp .And [a] pos) tA := by
  intro wh pins s σ H Q I h
  refine isTrue_and (thn (ha pins s σ H Q I h) fun c s1 e => ?_)
  cases c with
  | true => exact isTrue_and_nil e
  | false => exact e
theorem pw_or1 (ha : PT X a tA) : PW X (.BoolOp .Or [a] pos) tA := by
  intro wh pins s σ H Q I h
  refine isTrue_or (thn (ha pins s σ H Q I h) fun c s1 e => ?_)
  cases c with
  | false => exact isTrue_or_nil e
  | true => exact e
theorem pw_and (ha : PT X a tA) (hb : PW X (.BoolOp .And (b :: rest) pos) tB') : PW X (.BoolOp .And (a :: b :: rest) pos) (tAnd tA tB') := by
  intro wh pins s σ H Q I h
  refine isTrue_and (thn (ha pins s σ H _ I h) fun c s1 ⟨H1, I1, q1⟩ => ?_)
  cases c with
  | true => exact hb wh pins s1 σ H1 Q I1 q1
  | false => exact ⟨H1, I1, q1⟩
theorem pw_or (ha : PT X a tA) (hb : PW X (.BoolOp .Or (b :: rest) pos) tB') : PW X (.BoolOp .Or (a :: b :: rest) pos) (tOr tA tB') := by
  intro wh pins s σ H Q I h
  refine isTrue_or (thn (ha pins s σ H _ I h) fun c s1 ⟨H1, I1, q1⟩ => ?_)
  cases c with
  | true => exact ⟨H1, I1, q1⟩
  | false => exact hb wh pins s1 σ H1 Q I1 q1
theorem pt_not (ha : PT X a tA) : PT X (.UnaryOp .Not a pos) (tNot tA) := by
  intro pins s σ H Q I h
  exact isTrue_not (ha pins s σ H (fun c H1 => Q (!c) H1) I h)
/-- .. as values (bools) -/
def tAndV (ta tb : TE) : TE := fun σ H Q => ta σ H fun x H1 => ∃ c, x = .bl c ∧ if c = true then tb σ H1 Q else Q (.bl false) H1
theorem pe_and (ha : PE X a ta) (hb : PE X (.BoolOp .And (b :: rest) pos) tb) : PE X (.BoolOp .And (a :: b :: rest) pos) (tAndV ta tb) := by
  intro pins s σ H Q I h
  refine BoolOp_and (thn (ha pins s σ H _ I h) fun v s1 ⟨x, H1, I1, r1, q1⟩ => ?_)
  obtain ⟨c, rfl, q1⟩ := q1
  cases r1
  refine wpAny_truthy_bool ?_
  cases c with
  | true => exact hb pins s1 σ H1 Q I1 q1
  | false => exact ⟨.bl false, H1, I1, rfl, q1⟩
/-- a if t else b -/
def tIf (t : TT) (ta tb : TE) : TE := fun σ H Q => t σ H fun c H1 => if c = true then ta σ H1 Q else tb σ H1 Q
theorem pe_ifExp {c : Expr} (hc : PT X c tA) (ha : PE X a ta) (hb : PE X b tb) : PE X (.IfExp c a b pos) (tIf tA ta tb) := by
  intro pins s σ H Q I h
  refine wpAny_IfExp (thn (hc pins s σ H _ I h) fun d s1 ⟨H1, I1, q1⟩ => ?_)
  cases d with
  | true => exact ha pins s1 σ H1 Q I1 q1
  | false => exact hb pins s1 σ H1 Q I1 q1
end
end L2
namespace L2
open PySem PySem.Spec PyProof.Rows
/-! ### a list, a tuple that is read: tracked, frozen, or an object of the module -/
def SqL (K : PySem.W.Frag) (H : Hp) (a : Addr) (xs : List V) : Prop :=
  Rd H a (.lst xs) ∨
    ∃ (o : Obj) (its : Array Value) (n : Nat), K.lookup a = some o ∧ o.cls = .type "list" ∧ o.dict = none ∧ o.data = .seq its n ∧ its.size ≤ sizeLine ∧ Vals xs its.toList
def SqT (K : PySem.W.Frag) (H : Hp) (a : Addr) (xs : List V) : Prop :=
  Rd H a (.tup xs) ∨
    ∃ (o : Obj) (its : Array Value) (n : Nat), K.lookup a = some o ∧ o.cls = .type "tuple" ∧ o.data = .seq its n ∧ its.size ≤ sizeLine ∧ Vals xs its.toList
def absV : Value → Option V
  | .none => some .non
  | .bool b => some (.bl b)
  | .int i _ => some (.int i)
  | .str x _ => some (.str x)
  | .bytes b _ => some (.byt b)
  | .float b _ => some (.flt b)
  | .ref a => some (.ref a)
  | .type n => some (.ty n)
  | _ => none
theorem RelV.abs {x : V} {u : Value} (r : RelV x u) : absV u = some x := by
  cases x with
  | non => cases r; rfl
  | bl _ => cases r; rfl
  | int _ => obtain ⟨t, rfl⟩ := r; rfl
  | str _ => obtain ⟨t, rfl⟩ := r; rfl
  | byt _ => obtain ⟨t, rfl⟩ := r; rfl
  | flt _ => obtain ⟨t, rfl⟩ := r; rfl
  | ref _ => cases r; rfl
  | ty _ => cases r; rfl
theorem RelV.inj {x y : V} {u : Value} (r : RelV x u) (q : RelV y u) : x = y := Option.some.inj (r.abs.symm.trans q.abs)
theorem Vals.inj : ∀ {xs ys : List V} {us : List Value}, Vals xs us → Vals ys us → xs = ys
  | _, _, _, .nil, .nil => rfl
  | _, _, _, .cons r t, .cons r' t' => by rw [r.inj r', Vals.inj t t']
section
variable {X : Cx} {pins : List (Addr × Obj)} {σ : St} {H : Hp} {s : Shared} {a : Addr} {xs ys : List V}
theorem SqL.of {K : PySem.W.Frag} (h : H a = some (.lst xs)) : SqL K H a xs := .inl (.inl h)
theorem SqT.of {K : PySem.W.Frag} (h : H a = some (.tup xs)) : SqT K H a xs := .inl (.inl h)
theorem Inv.list (I : Inv X pins σ H s) (h : SqL X.K H a xs) : ∃ its : List Value, Vals xs its ∧ PlainL s.heap a its.toArray ∧ xs.length ≤ sizeLine := by
  rcases h with h | ⟨o, its, n, hk, hc, hd, hs, hz, r⟩
  · obtain ⟨z, its, n, r, e⟩ := h.ok I.hok
    exact ⟨its, r, ⟨_, n, e, rfl, rfl, rfl⟩, z⟩
  · refine ⟨its.toList, r, ⟨o, n, I.kIn a o hk, hc, hd, by simpa using hs⟩, ?_⟩
    have e := r.length
    simp only [Array.length_toList] at e
    omega
theorem Inv.tuple (I : Inv X pins σ H s) (h : SqT X.K H a xs) : ∃ its : List Value, Vals xs its ∧ IsTup s.heap a its.toArray ∧ xs.length ≤ sizeLine := by
  rcases h with h | ⟨o, its, n, hk, hc, hs, hz, r⟩
  · obtain ⟨z, its, r, p⟩ := h.ok I.hok
    exact ⟨its, r, p, z⟩
  · refine ⟨its.toList, r, ⟨o, I.kIn a o hk, hc, n, by simpa using hs⟩, ?_⟩
    have e := r.length
    simp only [Array.length_toList] at e
    omega
theorem Inv.list_inj (I : Inv X pins σ H s) (h : SqL X.K H a xs) (h' : SqL X.K H a ys) : xs = ys := by
  obtain ⟨its, r, ⟨o, n, e, _, _, d⟩, _⟩ := I.list h
  obtain ⟨its', r', ⟨o', n', e', _, _, d'⟩, _⟩ := I.list h'
  rw [e] at e'; cases e'
  rw [d] at d'
  injection d' with d1 _
  have : its = its' := by simpa using congrArg Array.toList d1
  subst this
  exact r.inj r'
theorem Inv.tuple_inj (I : Inv X pins σ H s) (h : SqT X.K H a xs) (h' : SqT X.K H a ys) : xs = ys := by
  obtain ⟨its, r, ⟨o, e, _, n, d⟩, _⟩ := I.tuple h
  obtain ⟨its', r', ⟨o', e', _, n', d'⟩, _⟩ := I.tuple h'
  rw [e] at e'; cases e'
  rw [d] at d'
  injection d' with d1 _
  have : its = its' := by simpa using congrArg Array.toList d1
  subst this
  exact r.inj r'
end
/-! ### another wish about exceptions -/
abbrev Cx.wish (X : Cx) (E : Value → Shared → Prop) : Cx := { X with xe := E }
/-- no exception leaves -/
abbrev Cx.nox (X : Cx) : Cx := X.wish fun _ _ => False
theorem Cx.Ok.wish {X : Cx} (ok : X.Ok) (E : Value → Shared → Prop) : (X.wish E).Ok :=
  ⟨ok.mod, ok.kind, ok.glob, ok.blt, ok.above, ok.inj, ok.has, ok.cab, ok.hd, ok.frames, ok.stk, ok.exf, ok.bs, ok.bsz, ok.noex, ok.exfs, ok.funs, ok.frf⟩
theorem Cx.Ok.unwish {X : Cx} {E : Value → Shared → Prop} (ok : (X.wish E).Ok) : X.Ok :=
  ⟨ok.mod, ok.kind, ok.glob, ok.blt, ok.above, ok.inj, ok.has, ok.cab, ok.hd, ok.frames, ok.stk, ok.exf, ok.bs, ok.bsz, ok.noex, ok.exfs, ok.funs, ok.frf⟩
section
variable {X : Cx} {pins : List (Addr × Obj)} {σ : St} {H : Hp} {s : Shared} {E : Value → Shared → Prop}
theorem Inv.wish (I : Inv X pins σ H s) (E : Value → Shared → Prop) : Inv (X.wish E) pins σ H s := ⟨I.ok.wish E, I.os, I.bare, I.base, I.loc, I.cell, I.free, I.freeC, I.pin, I.hok, I.len⟩
theorem Inv.unwish (I : Inv (X.wish E) pins σ H s) : Inv X pins σ H s := ⟨I.ok.unwish, I.os, I.bare, I.base, I.loc, I.cell, I.free, I.freeC, I.pin, I.hok, I.len⟩
theorem SP.unwish {D : Ends} {f : Flow} {s' : Shared} (h : SP (X.wish E) pins D f s') : SP X pins D f s' := by
  cases f with
  | next => obtain ⟨σ', H', I, q⟩ := h; exact ⟨σ', H', I.unwish, q⟩
  | brk => obtain ⟨σ', H', I, q⟩ := h; exact ⟨σ', H', I.unwish, q⟩
  | cont => obtain ⟨σ', H', I, q⟩ := h; exact ⟨σ', H', I.unwish, q⟩
  | ret u => obtain ⟨v, σ', H', I, r, q⟩ := h; exact ⟨v, σ', H', I.unwish, r, q⟩
theorem PE.nox {e : Expr} {t : TE} (h : PE X.nox e t) : PE X e t := fun pins s σ H Q I hw =>
  wpAny_mono (h pins s σ H Q (I.wish _) hw) (fun _ _ ⟨v, H', I', r, q⟩ => ⟨v, H', I'.unwish, r, q⟩) fun _ _ z => False.elim z
theorem PT.nox {e : Expr} {t : TT} (h : PT X.nox e t) : PT X e t := fun pins s σ H Q I hw =>
  wpAny_mono (h pins s σ H Q (I.wish _) hw) (fun _ _ ⟨H', I', q⟩ => ⟨H', I'.unwish, q⟩) fun _ _ z => False.elim z
theorem PSs.nox {st : List Stmt} {t : TS} (h : PSs X.nox st t) : PSs X st t := fun pins s σ H D I hw =>
  wpAny_mono (h pins s σ H D (I.wish _) hw) (fun _ _ q => q.unwish) fun _ _ z => False.elim z
end
/-! ### blocks and small statements -/
section
variable {X : Cx} {st : Stmt} {rest : List Stmt} {t u : TS} {e : Expr} {te : TE} {pos : Pos}
def tNext : TS := fun D σ H => D.nx σ H
def tSeq (t u : TS) : TS := fun D σ H => t { D with nx := u D } σ H
theorem pss_nil : PSs X [] tNext := fun _ _ σ H _ I h => wpAny_execs_nil ⟨σ, H, I, h⟩
theorem pss_cons (h1 : PS X st t) (h2 : PSs X rest u) : PSs X (st :: rest) (tSeq t u) := by
  intro pins s σ H D I h
  refine wpAny_execs_cons (thn (h1 pins s σ H { D with nx := u D } I h) fun f s1 q => ?_)
  cases f with
  | next =>
    obtain ⟨σ', H', I', q⟩ := q
    exact h2 pins s1 σ' H' D I' q
  | ret v => exact q
  | brk => exact q
  | cont => exact q
theorem pss_one (h1 : PS X st t) : PSs X [st] t := by
  intro pins s σ H D I h
  refine wpAny_execs_cons (thn (h1 pins s σ H D I h) fun f s1 q => ?_)
  cases f with
  | next => exact wpAny_execs_nil q
  | ret v => exact q
  | brk => exact q
  | cont => exact q
/-- in a def's body nothing is shown -/
theorem Inv.quiet {pins : List (Addr × Obj)} {σ : St} {H : Hp} {s : Shared} (I : Inv X pins σ H s) : interactive X.env = false := by simp [interactive, I.ok.kind]
/-- an expression whose value is dropped -/
def tDrop (te : TE) : TS := fun D σ H => te σ H fun _ H1 => D.nx σ H1
theorem ps_expr (he : PE X e te) (hs : swapsWith e none pos.line X.env = pure false := by rfl) : PS X (.Expr e pos) (tDrop te) := by
  intro pins s σ H D I h
  exact wpAny_Expr_any (thn (he pins s σ H _ I h) fun v s1 ⟨x, H1, I1, r1, q1⟩ => ⟨σ, H1, I1, q1⟩) I.quiet hs
def tRet (te : TE) : TS := fun D σ H => te σ H D.rt
theorem ps_ret (he : PE X e te) : PS X (.Return (some e) pos) (tRet te) := by
  intro pins s σ H D I h
  exact wpAny_Return_some (thn (he pins s σ H _ I h) fun v s1 ⟨x, H1, I1, r1, q1⟩ => ⟨x, σ, H1, I1, r1, q1⟩)
def tIfS (c : TT) (t u : TS) : TS := fun D σ H => c σ H fun b H1 => if b = true then t D σ H1 else u D σ H1
theorem ps_if {c : Expr} {a b : List Stmt} {tc : TT} (hc : PT X c tc) (ha : PSs X a t) (hb : PSs X b u) : PS X (.If c a b pos) (tIfS tc t u) := by
  intro pins s σ H D I h
  refine wpAny_If (thn (hc pins s σ H _ I h) fun d s1 ⟨H1, I1, q1⟩ => ?_)
  cases d with
  | true => exact ha pins s1 σ H1 D I1 q1
  | false => exact hb pins s1 σ H1 D I1 q1
end
/-! ### targets -/
abbrev TG := V → St → Hp → (St → Hp → Prop) → Prop
abbrev TGs := List V → St → Hp → (St → Hp → Prop) → Prop
def PG (X : Cx) (target : Expr) (t : TG) : Prop :=
  ∀ (pins : List (Addr × Obj)) (s : Shared) (σ : St) (H : Hp) (v : V) (u : Value) (Q : St → Hp → Prop), Inv X pins σ H s → RelV v u → t v σ H Q →
    wpAny (model X.prog X.w) X.A (assign target X.env u) (fun _ s' => ∃ σ' H', Inv X pins σ' H' s' ∧ Q σ' H') X.xe s
/-- several targets, one after another -/
def PGs (X : Cx) (ts : List Expr) (t : TGs) : Prop :=
  ∀ (pins : List (Addr × Obj)) (s : Shared) (σ : St) (H : Hp) (vs : List V) (us : List Value) (Q : St → Hp → Prop), Inv X pins σ H s → Vals vs us → t vs σ H Q →
    wpAny (model X.prog X.w) X.A (assignInOrder ((assignEach ts X.env).map (·.2)) us) (fun _ s' => ∃ σ' H', Inv X pins σ' H' s' ∧ Q σ' H') X.xe s
/-- o[i] = v, by values -/
abbrev TSet := V → V → V → Hp → (Hp → Prop) → Prop
def PSet (X : Cx) (t : TSet) : Prop :=
  ∀ (pins : List (Addr × Obj)) (s : Shared) (σ : St) (H : Hp) (o i v : V) (ov iv u : Value) (Q : Hp → Prop), Inv X pins σ H s → RelV o ov → RelV i iv → RelV v u → t o i v H Q →
    wpAny (model X.prog X.w) X.A (setItem ov iv u) (fun _ s' => ∃ H', Inv X pins σ H' s' ∧ Q H') X.xe s
/-- a op= b, by values -/
abbrev TIp := V → V → Hp → VK → Prop
def PIp (X : Cx) (op : Operator) (t : TIp) : Prop :=
  ∀ (pins : List (Addr × Obj)) (s : Shared) (σ : St) (H : Hp) (x y : V) (v u : Value) (Q : VK), Inv X pins σ H s → RelV x v → RelV y u → t x y H Q →
    wpAny (model X.prog X.w) X.A (inplaceOp op v u) (EP X pins σ Q) X.xe s
section
variable {X : Cx} {pos : Pos}
def gName (i : Nat) : TG := fun v σ H Q => Q (σ.set i (some v)) H
theorem pg_name {i : Nat} {x : Str} (hN : X.N.Nodup) (hi : X.N[i]? = some x) (hx : Loc X.env.scope x) (hf : X.fn x = true ∨ X.env.scope.names.lookup x = some .local := by first | exact .inl rfl | exact .inr rfl | assumption) : PG X (.Name x pos) (gName i) := by
  intro pins s σ H v u Q I r h
  exact wpAny_assign_Name (store_ok I hN hi hx r (fun s' I' => ⟨_, H, I', h⟩) hf)
def gNil : TGs := fun vs σ H Q => vs = [] ∧ Q σ H
def gCons (t : TG) (u : TGs) : TGs := fun vs σ H Q => ∃ v r, vs = v :: r ∧ t v σ H fun σ' H' => u r σ' H' Q
theorem pgs_nil : PGs X [] gNil := by
  intro pins s σ H vs us Q I r h
  obtain ⟨e, h⟩ := h
  subst e
  cases r
  exact assignInOrder_nil ⟨σ, H, I, h⟩
theorem pgs_cons {e : Expr} {es : List Expr} {t : TG} {u : TGs} (h1 : PG X e t) (h2 : PGs X es u)
    (hs : (assignEach (e :: es) X.env).map (·.2) = assign e X.env :: (assignEach es X.env).map (·.2) := by rfl) : PGs X (e :: es) (gCons t u) := by
  intro pins s σ H vs us Q I r h
  obtain ⟨v, vr, e1, h⟩ := h
  subst e1
  cases r with
  | cons r rr =>
    rw [hs]
    refine assignInOrder_cons (thn (h1 pins s σ H _ _ _ I r h) fun _ s1 ⟨σ1, H1, I1, q1⟩ => ?_)
    exact h2 pins s1 σ1 H1 _ _ Q I1 rr q1
/-- (a, b, ..) = a tuple of that length -/
def gTup (K : PySem.W.Frag) (n : Nat) (t : TGs) : TG := fun v σ H Q => ∃ a xs, v = .ref a ∧ SqT K H a xs ∧ xs.length = n ∧ t xs σ H Q
theorem pg_tup {es : List Expr} {k : Nat} {t : TGs} {n : Nat} (hc : X.calm = true) (h : PGs X es t)
    (hn : (assignEach es X.env).length = n := by rfl) (hst : (assignEach es X.env).findIdx? (·.1) = none := by rfl) : PG X (.Tuple es k pos) (gTup X.K n t) := by
  intro pins s σ H v u Q I r hw
  obtain ⟨a, xs, e1, hq, hl, hw⟩ := hw
  subst e1
  cases r
  obtain ⟨its, rv, ht, hz⟩ := I.tuple hq
  refine assign_Tuple_tuple (I.ok.hd hc) ht (by simp [hn, ← hl, rv.length]) hst fun h' hx => ?_
  have I1 : Inv X pins σ H { s with heap := h' } := I.kept (t' := s.toks) fun b o e => hx b o (Nat.ne_of_lt (Heap.lt_size e)) e
  exact h pins _ σ H xs _ Q I1 (by simpa using rv) hw
/-- o[i] = .. -/
def gSub (to ti : TE) (t : TSet) : TG := fun v σ H Q => to σ H fun o H1 => ti σ H1 fun i H2 => t o i v H2 fun H3 => Q σ H3
theorem pg_sub {o i : Expr} {to ti : TE} {t : TSet} (ho : PE X o to) (hi : PE X i ti) (hs : PSet X t)
    (ha : ∀ v, assign (.Subscript o i pos) X.env v = (do
      let ov ← holding [v] (eval o X.env)
      let iv ← holding [v, ov] (eval i X.env)
      standAt pos
      holding [v, ov, iv] (setItem ov iv v)
      release [v, ov, iv] []) := by intro _; rfl) : PG X (.Subscript o i pos) (gSub to ti t) := by
  intro pins s σ H v u Q I r h
  rw [ha]
  refine wpAny_bind (wpAny_holding (thn (ho pins s σ H _ I h) fun ov s1 ⟨x, H1, I1, r1, q1⟩ => ?_))
  refine wpAny_bind (wpAny_holding (thn (hi pins s1 σ H1 _ I1 q1) fun iv s2 ⟨y, H2, I2, r2, q2⟩ => ?_))
  refine wpAny_bind (wpAny_standAt (wpAny_bind (wpAny_holding (thn (hs pins s2 σ H2 x y v ov iv u _ I2 r1 r2 r q2) fun _ s3 ⟨H3, I3, q3⟩ => ?_))))
  exact wpAny_release ⟨σ, H3, I3, q3⟩
/-- target = value -/
def tAsg (te : TE) (g : TG) : TS := fun D σ H => te σ H fun x H1 => g x σ H1 D.nx
theorem ps_asg {tg e : Expr} {te : TE} {g : TG} (he : PE X e te) (hg : PG X tg g) (hs : swapsWithSole [tg] e pos.line X.env = pure false := by rfl) (hw : swappedStores [tg] e X.env = pure none := by rfl)
    (h1 : (assignEach [tg] X.env).map (·.2) = [assign tg X.env] := by rfl) : PS X (.Assign [tg] e pos) (tAsg te g) := by
  intro pins s σ H D I h
  refine wpAny_Assign_stores (thn (he pins s σ H _ I h) fun v s1 ⟨x, H1, I1, r1, q1⟩ => ?_) hs hw
  rw [h1]
  exact thn (hg pins s1 σ H1 x v _ I1 r1 q1) fun _ s2 q => q
/-- name = value -/
theorem ps_set {i : Nat} {x : Str} {e : Expr} {te : TE} {pos' : Pos} (hN : X.N.Nodup) (hi : X.N[i]? = some x) (hx : Loc X.env.scope x) (he : PE X e te) (hs : swapsWith e (some (.Name x pos')) pos.line X.env = pure false := by rfl) (hf : X.fn x = true ∨ X.env.scope.names.lookup x = some .local := by first | exact .inl rfl | exact .inr rfl | assumption) :
    PS X (.Assign [.Name x pos'] e pos) (tAsg te (gName i)) := by
  intro pins s σ H D I h
  refine wpAny_Assign_Name (thn (he pins s σ H _ I h) fun v s1 ⟨y, H1, I1, r1, q1⟩ => ?_) hs
  exact store_ok I1 hN hi hx r1 (fun s2 I2 => ⟨_, H1, I2, q1⟩) hf
/-- name op= e -/
def tAug (i : Nat) (te : TE) (ti : TIp) : TS := fun D σ H => ∃ x, σ[i]? = some (some x) ∧ te σ H fun y H1 => ti x y H1 fun z H2 => D.nx (σ.set i (some z)) H2
theorem ps_aug {i : Nat} {x : Str} {e : Expr} {te : TE} {op : Operator} {ti : TIp} {pos' : Pos} (hN : X.N.Nodup) (hi : X.N[i]? = some x) (hx : Loc X.env.scope x) (he : PE X e te) (ho : PIp X op ti) (hf : X.fn x = true ∨ X.env.scope.names.lookup x = some .local := by first | exact .inl rfl | exact .inr rfl | assumption) :
    PS X (.AugAssign (.Name x pos') op e pos) (tAug i te ti) := by
  intro pins s σ H D I h
  obtain ⟨v, e1, h⟩ := h
  obtain ⟨m, hn, hl⟩ := I.loc
  have vis : Vis X.env.scope x := by rcases hx with k | k; exact .inl k; exact .inr (.inl k)
  obtain ⟨u, r, l⟩ := hl i x v hi e1 vis
  refine wpAny_AugAssign_Name ?_
  have go : wpAny (model X.prog X.w) X.A (eval e X.env) (fun w s₂ => wpAny (model X.prog X.w) X.A (inplaceOp op u w) (fun r s₃ => wpAny (model X.prog X.w) X.A (storeName X.env x r) (fun _ => SP X pins D .next) X.xe s₃) X.xe s₂) X.xe s := by
    refine thn (he pins s σ H _ I h) fun w s1 ⟨y, H1, I1, r1, q1⟩ => ?_
    refine thn (ho pins s1 σ H1 v y u w _ I1 r r1 q1) fun z s2 ⟨zv, H2, I2, r2, q2⟩ => ?_
    exact store_ok I2 hN hi hx r2 (fun s3 I3 => ⟨_, H2, I3, q2⟩) hf
  rcases l with ⟨hk, hm⟩ | ⟨hk, c, hc, hcell⟩
  · exact wpAny_loadName_local I.ok.kind hk hn hm go
  · rcases hk with hk | hk
    · exact wpAny_loadName_cell I.ok.kind hk hc hcell go
    · rcases hx with k | k
      · have : X.env.scope.names.lookup x = some .free := hk
        rw [k] at this; cases this
      · have : X.env.scope.names.lookup x = some .free := hk
        rw [k] at this; cases this
/-- ints -/
def ipI (f : Int → Int → Int) : TIp := fun x y H Q => ∃ i j, x = .int i ∧ y = .int j ∧ Q (.int (f i j)) H
theorem ip_add : PIp X .Add (ipI fun i j => i + j) := by
  intro pins s σ H x y v u Q I r1 r2 h
  obtain ⟨i, j, e1, e2, q⟩ := h
  subst e1; subst e2
  obtain ⟨t, rfl⟩ := r1
  obtain ⟨t', rfl⟩ := r2
  exact iadd_int ⟨.int _, H, I.tok _, ⟨_, rfl⟩, q⟩
theorem ip_sub : PIp X .Sub (ipI fun i j => i - j) := by
  intro pins s σ H x y v u Q I r1 r2 h
  obtain ⟨i, j, e1, e2, q⟩ := h
  subst e1; subst e2
  obtain ⟨t, rfl⟩ := r1
  obtain ⟨t', rfl⟩ := r2
  exact isub_int ⟨.int _, H, I.tok _, ⟨_, rfl⟩, q⟩
end
/-! ### while -/
section
variable {X : Cx} {pos : Pos}
/-- the invariant W with its measure -/
def tWhile (c : TT) (tb : TS) : TS := fun D σ H => ∃ W : Nat → St → Hp → Prop, (∃ m, W m σ H) ∧ ∀ m σ H, W m σ H →
  c σ H fun b H1 => if b = true then ∃ N : St → Hp → Prop, (∀ σ' H', N σ' H' → ∃ m', m' < m ∧ W m' σ' H') ∧ tb { D with nx := N, ct := N, bk := D.nx } σ H1 else D.nx σ H1
theorem ps_while {c : Expr} {body : List Stmt} {tc : TT} {tb : TS} (hp : PassesOwn (model X.prog X.w) X.A X.env X.xe) (hc : PT X c tc) (hb : PSs X body tb) : PS X (.While c body [] pos) (tWhile tc tb) := by
  intro pins s σ H D I h
  obtain ⟨W, ⟨m0, w0⟩, turn⟩ := h
  refine wpAny_While (codeAny_whileLoop (fun n s' => ∃ σ' H', Inv X pins σ' H' s' ∧ W n σ' H') ?_ m0 ⟨σ, H, I, w0⟩)
  rintro n s1 ⟨σ1, H1, I1, w1⟩
  refine wpAny_passesOwn hp (thn (hc pins s1 σ1 H1 _ I1 (turn n σ1 H1 w1)) fun b s2 ⟨H2, I2, q2⟩ => ?_)
  cases b with
  | true =>
    obtain ⟨N, hN, q2⟩ := q2
    rw [if_pos rfl]
    refine wpAny_passesOwn hp (thn (hb pins s2 σ1 H2 _ I2 q2) fun f s3 q3 => ?_)
    cases f with
    | next =>
      obtain ⟨σ3, H3, I3, n3⟩ := q3
      obtain ⟨m', hm, w3⟩ := hN σ3 H3 n3
      exact ⟨m', hm, σ3, H3, I3, w3⟩
    | cont =>
      obtain ⟨σ3, H3, I3, n3⟩ := q3
      obtain ⟨m', hm, w3⟩ := hN σ3 H3 n3
      exact ⟨m', hm, σ3, H3, I3, w3⟩
    | brk => exact q3
    | ret v => exact q3
  | false =>
    rw [if_neg Bool.false_ne_true]
    exact wpAny_execs_nil ⟨σ1, H2, I2, q2⟩
end
/-! ### what a loop or a comprehension walks -/
/-- at turn i: it yields x (the heap may grow), or it stops -/
structure It where
  go : Nat → Hp → Prop
  yld : Nat → Hp → V → Hp → Prop
  stop : Nat → Hp → Prop
/-- the iterator's own objects may turn: they are not the frame's, not pinned, younger than the entry (or a comprehension's own) -/
def FpOk (X : Cx) (pins : List (Addr × Obj)) (H : Hp) (b : Addr) : Prop :=
  H b = none ∧ b ≠ X.env.locals ∧ b ∉ X.fs ∧ (b ∈ X.ex ∨ X.s_0.heap.objs.size ≤ b) ∧ (∀ x c, X.env.cells.lookup x = some c → c ≠ b) ∧ ∀ p ∈ X.pn ++ pins, p.1 ≠ b
theorem Inv.fpOk {X : Cx} {pins : List (Addr × Obj)} {σ : St} {H H' : Hp} {s : Shared} {b : Addr} (I : Inv X pins σ H s) (hb : s.heap.objs.size ≤ b) (hn : H' b = none) : FpOk X pins H' b := by
  refine ⟨hn, Nat.ne_of_gt (Nat.lt_of_lt_of_le I.lt hb), I.nofs hb, .inr (Nat.le_trans I.sz hb), fun x c e z => ?_, fun p hp z => ?_⟩
  · obtain ⟨v, q⟩ := I.cell x c e
    exact absurd (Nat.lt_of_lt_of_le q.lt (by rw [z]; exact hb)) (Nat.lt_irrefl _)
  · exact absurd (Nat.lt_of_lt_of_le (Heap.lt_size (I.pin p hp).1) (by rw [z]; exact hb)) (Nat.lt_irrefl _)
structure Turn (P : Program) (w : World) (K : PySem.W.Frag) (tg : Expr) (J : It) (fp : List Addr) (it : Addr) (tn : Nat → Heap → Prop) : Prop where
  mem : it ∈ fp
  obj : ∀ i h, tn i h → ∀ b ∈ fp, ∃ o, h.get? b = some o ∧ ∀ v, o.data ≠ .cell v
  keep : ∀ i h h', tn i h → (∀ b ∈ fp, ∀ o, h.get? b = some o → h'.get? b = some o) → tn i h'
  item : ∀ (X : Cx), X.prog = P → X.w = w → X.K = K → X.calm = true → ∀ (i : Nat) (pins : List (Addr × Obj)) (s : Shared) (σ : St) (H : Hp) (E : Value → Shared → Prop), Inv X pins σ H s → (∀ b ∈ fp, FpOk X pins H b) → tn i s.heap → J.go i H →
    wpAny (model P w) X.A (pyNext (.ref it)) (fun r s1 => ∃ u, r = some u ∧
      wpAny (model P w) X.A (letOwnedTupleGo tg (.ref it) u) (fun _ s2 => ∃ x H', Inv X pins σ H' s2 ∧ RelV x u ∧ J.yld i H x H' ∧ tn (i + 1) s2.heap ∧ ∀ b ∈ fp, H' b = none) E s1) E s
  done : ∀ (X : Cx), X.prog = P → X.w = w → X.K = K → X.calm = true → ∀ (i : Nat) (pins : List (Addr × Obj)) (s : Shared) (σ : St) (H : Hp) (E : Value → Shared → Prop), Inv X pins σ H s → (∀ b ∈ fp, FpOk X pins H b) → tn i s.heap → J.stop i H →
    wpAny (model P w) X.A (pyNext (.ref it)) (fun r s1 => r = none ∧ Inv X pins σ H s1) E s
  self : ∀ (A : Around) (i : Nat) (s : Shared) (Q : Value → Shared → Prop) (E : Value → Shared → Prop), tn i s.heap → Q (.ref it) s → wpAny (model P w) A (pyIter (.ref it)) Q E s
abbrev TI := St → Hp → (It → Hp → Prop) → Prop
/-- an iterator has come -/
def PIE (X : Cx) (pins : List (Addr × Obj)) (σ : St) (tg : Expr) (R : It → Hp → Prop) (itv : Value) (s2 : Shared) : Prop :=
  ∃ (it : Addr) (fp : List Addr) (tn : Nat → Heap → Prop) (J : It) (H' : Hp), itv = .ref it ∧ Inv X pins σ H' s2 ∧ Turn X.prog X.w X.K tg J fp it tn ∧ tn 0 s2.heap ∧ (∀ b ∈ fp, FpOk X pins H' b) ∧ R J H'
def PI (X : Cx) (tg iter : Expr) (wi : TI) : Prop :=
  ∀ (pins : List (Addr × Obj)) (s : Shared) (σ : St) (H : Hp) (R : It → Hp → Prop), Inv X pins σ H s → wi σ H R →
    wpAny (model X.prog X.w) X.A (eval iter X.env) (fun v s1 => wpAny (model X.prog X.w) X.A (pyIter v) (PIE X pins σ tg R) X.xe s1) X.xe s
/-- the step ahead of the store is nothing for an iterator that keeps no tuple -/
theorem go_of {M : Model} {A : Around} {E : Value → Shared → Prop} {s : Shared} {tg : Expr} {it : Addr} {u : Value} {o : Obj} {n : String} {vs : Array Value} {Q : Unit → Shared → Prop} (ho : s.heap.get? it = some o) (hc : o.cls = .type n) (hd : o.data = .fields vs)
    (hn : ["enumerate", "zip", "dict_itemiterator", "dict_reverseitemiterator", "odict_iterator", "itertools.zip_longest", "itertools.pairwise"].contains n = false) (hQ : Q () s) : wpAny M A (letOwnedTupleGo tg (.ref it) u) Q E s := by
  unfold letOwnedTupleGo
  cases tg <;> first
    | exact wpAny_pure hQ
    | (cases u <;> first
        | exact wpAny_pure hQ
        | (refine wpAny_bind (wpAny_load ho ?_)
           rw [hc, hd]
           show wpAny M A (if (["enumerate", "zip", "dict_itemiterator", "dict_reverseitemiterator", "odict_iterator", "itertools.zip_longest", "itertools.pairwise"].contains n && vs[0]? == some (rawInt _)) = true then _ else _) Q E s
           rw [if_neg (by intro h; rw [hn, Bool.false_and] at h; cases h)]
           exact wpAny_pure hQ))
/-- the list at a, as it stands at each turn (a loop may append to it) -/
def Itl (K : PySem.W.Frag) (a : Addr) : It :=
  ⟨fun i H => ∃ xs x, SqL K H a xs ∧ xs[i]? = some x, fun i H x H' => H' = H ∧ ∀ xs, SqL K H a xs → xs[i]? = some x, fun i H => ∃ xs, SqL K H a xs ∧ xs.length ≤ i⟩
def Itt (K : PySem.W.Frag) (a : Addr) : It :=
  ⟨fun i H => ∃ xs x, SqT K H a xs ∧ xs[i]? = some x, fun i H x H' => H' = H ∧ ∀ xs, SqT K H a xs → xs[i]? = some x, fun i H => ∃ xs, SqT K H a xs ∧ xs.length ≤ i⟩
/-- lo, lo + 1, .. (n of them) -/
def Itr (lo : Int) (n : Nat) : It := ⟨fun i _ => i < n, fun i H x H' => H' = H ∧ x = .int (lo + i), fun i _ => n ≤ i⟩
theorem turn_list {P : Program} {w : World} {K : PySem.W.Frag} {tg : Expr} (a it : Addr) : Turn P w K tg (Itl K a) [it] it (fun i h => h.IsListIter it a i) where
  mem := by simp
  obj := fun i h st b hb => by
    have e : b = it := by simpa using hb
    subst e
    obtain ⟨o, e, c, d⟩ := st
    exact ⟨o, e, fun v z => by rw [d] at z; cases z⟩
  keep := fun i h h' st k => st.at fun o e => k it (by simp) o e
  item := by
    intro X hP hw hK hc i pins s σ H E I hf st hg
    subst hP hw hK
    obtain ⟨xs, x, hq, hx⟩ := hg
    obtain ⟨its, rv, p, hz⟩ := I.list hq
    obtain ⟨u, hu, ru⟩ := rv.get hx
    obtain ⟨f0, f1, f2, f3, f4, f5⟩ := hf it (by simp)
    refine wpAny_pyNext_list_item st p.isList (x := u) (by simpa using hu) fun h' st' sb => ?_
    have I1 : Inv X pins σ H { s with heap := h' } := I.turned (t' := s.toks) (fun b o hb e => (sb.2 b hb).trans e) f0 f1 f3 f4 f5
    obtain ⟨o, e, c, d⟩ := id st'
    exact ⟨u, rfl, go_of (s := { s with heap := h' }) e c d (by decide) ⟨x, H, I1, ru, ⟨rfl, fun ys hy => by rw [I.list_inj hy hq]; exact hx⟩, st', fun b hb => (hf b hb).1⟩⟩
  done := by
    intro X hP hw hK hc i pins s σ H E I hf st hg
    subst hP hw hK
    obtain ⟨xs, hq, hx⟩ := hg
    obtain ⟨its, rv, p, hz⟩ := I.list hq
    obtain ⟨f0, f1, f2, f3, f4, f5⟩ := hf it (by simp)
    have hl := rv.length
    exact wpAny_pyNext_list_end (I.ok.hd hc) st p.isList (by simp; omega) fun h' eb => ⟨rfl, I.turned (t' := s.toks) (fun b o hb e => eb b o hb e) f0 f1 f3 f4 f5⟩
  self := fun _ _ _ _ _ st h => wpAny_pyIter_listiter st h
theorem turn_tuple {P : Program} {w : World} {K : PySem.W.Frag} {tg : Expr} (a it : Addr) : Turn P w K tg (Itt K a) [it] it (fun i h => h.IsTupleIter it a i) where
  mem := by simp
  obj := fun i h st b hb => by
    have e : b = it := by simpa using hb
    subst e
    obtain ⟨o, e, c, d⟩ := st
    exact ⟨o, e, fun v z => by rw [d] at z; cases z⟩
  keep := fun i h h' st k => st.at fun o e => k it (by simp) o e
  item := by
    intro X hP hw hK hc i pins s σ H E I hf st hg
    subst hP hw hK
    obtain ⟨xs, x, hq, hx⟩ := hg
    obtain ⟨its, rv, p, hz⟩ := I.tuple hq
    obtain ⟨u, hu, ru⟩ := rv.get hx
    obtain ⟨f0, f1, f2, f3, f4, f5⟩ := hf it (by simp)
    refine wpAny_pyNext_tuple_item st (show s.heap.IsTuple a its.toArray from p) (x := u) (by simpa using hu) fun h' st' sb => ?_
    have I1 : Inv X pins σ H { s with heap := h' } := I.turned (t' := s.toks) (fun b o hb e => (sb.2 b hb).trans e) f0 f1 f3 f4 f5
    obtain ⟨o, e, c, d⟩ := id st'
    exact ⟨u, rfl, go_of (s := { s with heap := h' }) e c d (by decide) ⟨x, H, I1, ru, ⟨rfl, fun ys hy => by rw [I.tuple_inj hy hq]; exact hx⟩, st', fun b hb => (hf b hb).1⟩⟩
  done := by
    intro X hP hw hK hc i pins s σ H E I hf st hg
    subst hP hw hK
    obtain ⟨xs, hq, hx⟩ := hg
    obtain ⟨its, rv, p, hz⟩ := I.tuple hq
    obtain ⟨f0, f1, f2, f3, f4, f5⟩ := hf it (by simp)
    have hl := rv.length
    exact wpAny_pyNext_tuple_end (I.ok.hd hc) st (show s.heap.IsTuple a its.toArray from p) (by simp; omega) fun h' eb => ⟨rfl, I.turned (t' := s.toks) (fun b o hb e => eb b o hb e) f0 f1 f3 f4 f5⟩
  self := fun _ _ _ _ _ st h => wpAny_pyIter_tupleiter st h
theorem turn_range {P : Program} {w : World} {K : PySem.W.Frag} {tg : Expr} (it : Addr) (lo : Int) (n : Nat) : Turn P w K tg (Itr lo n) [it] it (fun i h => IsRangeIter h it (lo + (i : Nat) * 1) ((n : Int) - (i : Nat)) 1) where
  mem := by simp
  obj := fun i h st b hb => by
    have e : b = it := by simpa using hb
    subst e
    exact ⟨_, st, fun v z => by
      have z' : Data.fields _ = Data.cell v := z
      cases z'⟩
  keep := fun i h h' st k => k it (by simp) _ st
  item := by
    intro X hP hw hK hc i pins s σ H E I hf st hg
    subst hP hw hK
    obtain ⟨f0, f1, f2, f3, f4, f5⟩ := hf it (by simp)
    have W := Walks.range (prog := X.prog) (w := X.w) (I.ok.hd hc) it lo 1 n
    refine W.item i s _ _ hg st fun v h' tk hv st' kk => ?_
    obtain ⟨t, rfl⟩ := hv
    have I1 : Inv X pins σ H { s with heap := h', toks := tk } := I.turned (fun b o hb e => kk b o (by simpa using hb) e) f0 f1 f3 f4 f5
    refine ⟨_, rfl, go_of (s := { s with heap := h', toks := tk }) (n := "range_iterator") st' rfl rfl (by decide) ⟨.int (lo + i), H, I1, ⟨t, ?_⟩, ⟨rfl, rfl⟩, st', fun b hb => (hf b hb).1⟩⟩
    rw [Int.mul_one]
  done := by
    intro X hP hw hK hc i pins s σ H E I hf st hg
    subst hP hw hK
    obtain ⟨f0, f1, f2, f3, f4, f5⟩ := hf it (by simp)
    exact wpAny_pyNext_range_end (I.ok.hd hc) st (by have : n ≤ i := hg; omega) fun h' eb => ⟨rfl, I.turned (t' := s.toks) (fun b o hb e => eb b o hb e) f0 f1 f3 f4 f5⟩
  self := fun _ _ _ _ _ st h => wpAny_pyIter_rangeiter st h
end L2
namespace L2
open PySem PySem.Spec PyProof.Rows
section
variable {X : Cx} {tg : Expr}
def iList (K : PySem.W.Frag) (tl : TE) : TI := fun σ H R => tl σ H fun x H1 => ∃ a, x = .ref a ∧ (∃ xs, SqL K H1 a xs) ∧ R (Itl K a) H1
def iTup (K : PySem.W.Frag) (tl : TE) : TI := fun σ H R => tl σ H fun x H1 => ∃ a, x = .ref a ∧ (∃ xs, SqT K H1 a xs) ∧ R (Itt K a) H1
theorem pi_list {l : Expr} {tl : TE} (hl : PE X l tl) : PI X tg l (iList X.K tl) := by
  intro pins s σ H R I h
  refine thn (hl pins s σ H _ I h) fun v s1 ⟨x, H1, I1, r1, q1⟩ => ?_
  obtain ⟨a, e, ⟨xs, hq⟩, q⟩ := q1
  subst e
  cases r1
  obtain ⟨its, rv, p, hz⟩ := I1.list hq
  refine wpAny_pyIter_list p.isList ?_
  refine ⟨s1.heap.objs.size, [s1.heap.objs.size], _, _, H1, rfl, I1.kept (t' := s1.toks) fun b o e => Heap.get?_push_of_some _ e, turn_list a _, ⟨_, Heap.get?_push_size _ rfl, rfl, rfl⟩, fun b hb => ?_, q⟩
  have e : b = s1.heap.objs.size := by simpa using hb
  subst e
  exact I1.fpOk (Nat.le_refl _) (I1.hok.fresh (Nat.le_refl _))
theorem pi_tup {l : Expr} {tl : TE} (hl : PE X l tl) : PI X tg l (iTup X.K tl) := by
  intro pins s σ H R I h
  refine thn (hl pins s σ H _ I h) fun v s1 ⟨x, H1, I1, r1, q1⟩ => ?_
  obtain ⟨a, e, ⟨xs, hq⟩, q⟩ := q1
  subst e
  cases r1
  obtain ⟨its, rv, p, hz⟩ := I1.tuple hq
  refine wpAny_pyIter_tuple (show s1.heap.IsTuple a its.toArray from p) ?_
  refine ⟨s1.heap.objs.size, [s1.heap.objs.size], _, _, H1, rfl, I1.kept (t' := s1.toks) fun b o e => Heap.get?_push_of_some _ e, turn_tuple a _, ⟨_, Heap.get?_push_size _ rfl, rfl, rfl⟩, fun b hb => ?_, q⟩
  have e : b = s1.heap.objs.size := by simpa using hb
  subst e
  exact I1.fpOk (Nat.le_refl _) (I1.hok.fresh (Nat.le_refl _))
/-- a range object just made, walked -/
theorem range_it {pins : List (Addr × Obj)} {σ : St} {H : Hp} {s : Shared} {R : It → Hp → Prop} {E : Value → Shared → Prop} {lo hi : Int} {t u v : Tok} {tk : Nat} (I : Inv X pins σ H s) (h1 : -(2 ^ 62) ≤ lo) (h2 : lo < 2 ^ 62) (h3 : -(2 ^ 62) ≤ hi) (h4 : hi < 2 ^ 62)
    (q : R (Itr lo (hi - lo).toNat) H) : wpAny (model X.prog X.w) X.A (pyIter (.ref s.heap.objs.size)) (PIE X pins σ tg R) E { s with heap := s.heap.push { cls := .type "range", data := .fields #[.int lo t, .int hi u, .int 1 v] }, toks := tk } := by
  refine wpAny_pyIter_range (IsRange.new ..) (small_one h1 h2 h3 h4) ?_
  have I1 : Inv X pins σ H { s with heap := s.heap.push { cls := .type "range", data := .fields #[.int lo t, .int hi u, .int 1 v] }, toks := tk } := I.kept fun b o e => Heap.get?_push_of_some _ e
  refine ⟨(s.heap.push { cls := .type "range", data := .fields #[.int lo t, .int hi u, .int 1 v] }).objs.size, [(s.heap.push { cls := .type "range", data := .fields #[.int lo t, .int hi u, .int 1 v] }).objs.size], _, _, H, rfl,
    I1.kept (t' := tk) fun b o e => Heap.get?_push_of_some _ e, turn_range _ lo (hi - lo).toNat, ?_, fun b hb => ?_, q⟩
  · have e1 : lo + ((0 : Nat) : Int) * 1 = lo := by simp
    have e2 : (((hi - lo).toNat : Nat) : Int) - ((0 : Nat) : Int) = Builtin.Range.rangeSize lo hi 1 := by rw [rangeSize_one]; split <;> omega
    show IsRangeIter _ _ (lo + ((0 : Nat) : Int) * 1) ((((hi - lo).toNat : Nat) : Int) - ((0 : Nat) : Int)) 1
    rw [e1, e2]
    exact Heap.get?_push_size _ rfl
  · have e : b = (s.heap.push { cls := .type "range", data := .fields #[.int lo t, .int hi u, .int 1 v] }).objs.size := by simpa using hb
    subst e
    exact I1.fpOk (Nat.le_refl _) (I1.hok.fresh (Nat.le_refl _))
def iRng1 (ta : TA) : TI := fun σ H R => ta σ H fun vs H1 => ∃ j : Int, vs = [.int j] ∧ -(2 ^ 62) ≤ j ∧ j < 2 ^ 62 ∧ R (Itr 0 j.toNat) H1
def iRng2 (ta : TA) : TI := fun σ H R => ta σ H fun vs H1 => ∃ i j : Int, vs = [.int i, .int j] ∧ (-(2 ^ 62) ≤ i ∧ i < 2 ^ 62 ∧ -(2 ^ 62) ≤ j ∧ j < 2 ^ 62) ∧ R (Itr i (j - i).toNat) H1
theorem pi_range1 {a : Expr} {ta : TA} {p pos : Pos} (hg : Gl X "range") (hm : X.mg "range" = none) (ha : PA X [a] ta) (hs : starEach [a] X.env = [(false, eval a X.env)] := by rfl) : PI X tg (.Call (.Name "range" p) [a] [] pos) (iRng1 ta) := by
  intro pins s σ H R I h
  refine Call_ (ld_blt I hg hm boot_range (PyProof.Rows.callWith_type1 (thn (ha pos pins s σ H _ I h) fun us s1 ⟨vs, H1, I1, r1, q1⟩ => ?_) hs rfl))
  obtain ⟨j, e, q1, q2, q⟩ := q1
  subst e
  cases r1 with
  | cons r rr =>
    cases rr
    obtain ⟨t, rfl⟩ := r
    exact call_range_1 (range_it I1 (by omega) (by omega) q1 q2 (by simpa using q))
theorem pi_range2 {a b : Expr} {ta : TA} {p pos : Pos} (hg : Gl X "range") (hm : X.mg "range" = none) (ha : PA X [a, b] ta) (hs : starEach [a, b] X.env = [(false, eval a X.env), (false, eval b X.env)] := by rfl) (hs2 : starEach [b] X.env = [(false, eval b X.env)] := by rfl) :
    PI X tg (.Call (.Name "range" p) [a, b] [] pos) (iRng2 ta) := by
  intro pins s σ H R I h
  refine Call_ (ld_blt I hg hm boot_range (PyProof.Rows.callWith_type1 (thn (ha pos pins s σ H _ I h) fun us s1 ⟨vs, H1, I1, r1, q1⟩ => ?_) (by rw [hs, hs2]) (by rw [hs2]; rfl)))
  obtain ⟨i, j, e, ⟨q1, q2, q3, q4⟩, q⟩ := q1
  subst e
  cases r1 with
  | cons r rr =>
    cases rr with
    | cons r' rr =>
      cases rr
      obtain ⟨t, rfl⟩ := r
      obtain ⟨t', rfl⟩ := r'
      exact call_range_2 (range_it I1 q1 q2 q3 q4 q)
/-! ### for -/
/-- W: the invariant by the turn and a measure; N: what the body is to reach -/
def tFor (wi : TI) (g : TG) (tb : TS) : TS := fun D σ H => wi σ H fun J H1 => ∃ W : Nat → Nat → St → Hp → Prop, (∃ m, W 0 m σ H1) ∧ ∀ i m σ H, W i m σ H →
  (J.stop i H ∧ D.nx σ H) ∨ (J.go i H ∧ ∃ N : St → Hp → Prop, (∀ σ' H', N σ' H' → ∃ m', m' < m ∧ W (i + 1) m' σ' H') ∧ ∀ x H', J.yld i H x H' → g x σ H' fun σ2 H2 => tb { D with nx := N, ct := N, bk := D.nx } σ2 H2)
/-- the records at fp as they stand -/
def pinsAt (fp : List Addr) (h : Heap) : List (Addr × Obj) := fp.filterMap fun b => (h.get? b).map fun o => (b, o)
theorem mem_pinsAt {fp : List Addr} {h : Heap} {b : Addr} {o : Obj} (hb : b ∈ fp) (e : h.get? b = some o) : (b, o) ∈ pinsAt fp h := List.mem_filterMap.mpr ⟨b, hb, by rw [e]; rfl⟩
theorem of_pinsAt {fp : List Addr} {h : Heap} {p : Addr × Obj} (hp : p ∈ pinsAt fp h) : p.1 ∈ fp ∧ h.get? p.1 = some p.2 := by
  obtain ⟨b, hb, e⟩ := List.mem_filterMap.mp hp
  cases q : h.get? b with
  | none => rw [q] at e; cases e
  | some o =>
    rw [q] at e
    have e' : (b, o) = p := Option.some.inj e
    subst e'
    exact ⟨hb, q⟩
theorem Inv.pinned {pins : List (Addr × Obj)} {σ : St} {H : Hp} {s : Shared} {fp : List Addr} (I : Inv X pins σ H s) (hf : ∀ b ∈ fp, FpOk X pins H b) (ho : ∀ b ∈ fp, ∃ o, s.heap.get? b = some o ∧ ∀ v, o.data ≠ .cell v) : Inv X (pins ++ pinsAt fp s.heap) σ H s :=
  I.pins_of fun p hp => (List.mem_append.mp hp).elim (fun z => I.pin p (List.mem_append_right _ z)) fun z => by
    obtain ⟨hb, e⟩ := of_pinsAt z
    obtain ⟨f0, f1, f2, _⟩ := hf p.1 hb
    obtain ⟨o, e', d⟩ := ho p.1 hb
    rw [e] at e'; cases e'
    exact ⟨e, f0, f1, f2, d⟩
theorem Inv.unpinned {pins pl : List (Addr × Obj)} {σ : St} {H : Hp} {s : Shared} (I : Inv X (pins ++ pl) σ H s) : Inv X pins σ H s := I.pins_of fun p hp => I.pin p (List.mem_append_right _ (List.mem_append_left _ hp))
theorem ps_for {iter : Expr} {body : List Stmt} {wi : TI} {g : TG} {tb : TS} {pos : Pos} (hp : PassesOwn (model X.prog X.w) X.A X.env X.xe) (hc : X.calm = true) (hi : PI X tg iter wi) (hg : PG X tg g) (hb : PSs X body tb)
    (hs : ∀ x, foldedSetIterable iter X.env x = pure x := by intro _; rfl) : PS X (.For tg iter body [] pos) (tFor wi g tb) := by
  intro pins s σ H D I h
  refine wpAny_For (thn (hi pins s σ H _ I h) fun v s1 h1 => thn h1 fun itv s2 h2 => ?_) hs
  obtain ⟨it, fp, tn, J, H2, e, I2, T, st2, f2, W, ⟨m0, w0⟩, turn⟩ := h2
  subst e
  -- what stays true of the iterator's objects through the loop
  have stat : ∀ {H' : Hp}, (∀ b ∈ fp, H' b = none) → ∀ b ∈ fp, FpOk X pins H' b := fun hn b hb => ⟨hn b hb, (f2 b hb).2⟩
  refine codeAny_forLoop_any (fun n s' => ∃ i σ' H', Inv X pins σ' H' s' ∧ tn i s'.heap ∧ (∀ b ∈ fp, H' b = none) ∧ W i n σ' H') ?_ m0 ⟨0, σ, H2, I2, st2, fun b hb => (f2 b hb).1, w0⟩
  rintro n s3 ⟨i, σ3, H3, I3, st3, fr3, w3⟩
  rcases turn i n σ3 H3 w3 with ⟨stop, qn⟩ | ⟨go, N, hN, step⟩
  · refine wpAny_passesOwn hp (thn (T.done X rfl rfl rfl hc i pins s3 σ3 H3 X.xe I3 (stat fr3) st3 stop) fun r s4 ⟨hr, I4⟩ => ?_)
    subst hr
    exact wpAny_execs_nil ⟨σ3, H3, I4, qn⟩
  · refine wpAny_passesOwn hp (thn (T.item X rfl rfl rfl hc i pins s3 σ3 H3 X.xe I3 (stat fr3) st3 go) fun r s4 ⟨u, hr, h4⟩ => ?_)
    subst hr
    refine wpAny_passesOwn hp (thn h4 fun _ s5 ⟨x, H5, I5, r5, y5, st5, fr5⟩ => ?_)
    have I5' := I5.pinned (stat fr5) (T.obj _ _ st5)
    refine wpAny_passesOwn hp (thn (hg _ s5 σ3 H5 x u _ I5' r5 (step x H5 y5)) fun _ s6 ⟨σ6, H6, I6, q6⟩ => ?_)
    refine wpAny_passesOwn hp (thn (hb _ s6 σ6 H6 _ I6 q6) fun f s7 q7 => ?_)
    have again : ∀ {σ7 : St} {H7 : Hp}, Inv X (pins ++ pinsAt fp s5.heap) σ7 H7 s7 → N σ7 H7 → ∃ m, m < n ∧ ∃ i σ' H', Inv X pins σ' H' s7 ∧ tn i s7.heap ∧ (∀ b ∈ fp, H' b = none) ∧ W i m σ' H' := fun {σ7 H7} I7 n7 => by
      obtain ⟨m', hm, w7⟩ := hN σ7 H7 n7
      refine ⟨m', hm, i + 1, σ7, H7, I7.unpinned, T.keep _ _ _ st5 fun b hb o e => (I7.pin (b, o) (List.mem_append_right _ (List.mem_append_right _ (mem_pinsAt hb e)))).1, fun b hb => ?_, w7⟩
      obtain ⟨o, e, d⟩ := T.obj _ _ st5 b hb
      exact (I7.pin (b, o) (List.mem_append_right _ (List.mem_append_right _ (mem_pinsAt hb e)))).2.1
    cases f with
    | next => obtain ⟨σ7, H7, I7, n7⟩ := q7; exact again I7 n7
    | cont => obtain ⟨σ7, H7, I7, n7⟩ := q7; exact again I7 n7
    | brk => obtain ⟨σ7, H7, I7, q7⟩ := q7; exact ⟨σ7, H7, I7.unpinned, q7⟩
    | ret v => obtain ⟨x7, σ7, H7, I7, r7, q7⟩ := q7; exact ⟨x7, σ7, H7, I7.unpinned, r7, q7⟩
end
/-! ### the forms one uses -/
/-- over a list that the body leaves as it is -/
theorem for_list {K : PySem.W.Frag} {a : Addr} {xs : List V} {g : TG} {tb : TS} {D : Ends} {σ : St} {H : Hp} (Pv : Nat → St → Hp → Prop) (h0 : Pv 0 σ H) (hl : ∀ i σ H, i ≤ xs.length → Pv i σ H → SqL K H a xs)
    (hs : ∀ i x σ H, xs[i]? = some x → Pv i σ H → g x σ H fun σ2 H2 => tb { D with nx := Pv (i + 1), ct := Pv (i + 1), bk := D.nx } σ2 H2) (hd : ∀ σ H, Pv xs.length σ H → D.nx σ H) :
    ∃ W : Nat → Nat → St → Hp → Prop, (∃ m, W 0 m σ H) ∧ ∀ i m σ H, W i m σ H →
      ((Itl K a).stop i H ∧ D.nx σ H) ∨ ((Itl K a).go i H ∧ ∃ N : St → Hp → Prop, (∀ σ' H', N σ' H' → ∃ m', m' < m ∧ W (i + 1) m' σ' H') ∧ ∀ x H', (Itl K a).yld i H x H' → g x σ H' fun σ2 H2 => tb { D with nx := N, ct := N, bk := D.nx } σ2 H2) := by
  refine ⟨fun i m σ H => m = xs.length - i ∧ i ≤ xs.length ∧ Pv i σ H, ⟨xs.length, by simp, Nat.zero_le _, h0⟩, ?_⟩
  rintro i m σ H ⟨rfl, hi, p⟩
  have q := hl i σ H hi p
  by_cases hlt : i < xs.length
  · refine .inr ⟨⟨xs, xs[i], q, by simp [hlt]⟩, Pv (i + 1), fun σ' H' p' => ⟨xs.length - (i + 1), by omega, rfl, hlt, p'⟩, fun x H' y => ?_⟩
    obtain ⟨e, y⟩ := y
    subst e
    exact hs i x σ _ (y xs q) p
  · have e : i = xs.length := by omega
    subst e
    exact .inl ⟨⟨xs, q, Nat.le_refl _⟩, hd σ H p⟩
theorem for_tup {K : PySem.W.Frag} {a : Addr} {xs : List V} {g : TG} {tb : TS} {D : Ends} {σ : St} {H : Hp} (Pv : Nat → St → Hp → Prop) (h0 : Pv 0 σ H) (hl : ∀ i σ H, i ≤ xs.length → Pv i σ H → SqT K H a xs)
    (hs : ∀ i x σ H, xs[i]? = some x → Pv i σ H → g x σ H fun σ2 H2 => tb { D with nx := Pv (i + 1), ct := Pv (i + 1), bk := D.nx } σ2 H2) (hd : ∀ σ H, Pv xs.length σ H → D.nx σ H) :
    ∃ W : Nat → Nat → St → Hp → Prop, (∃ m, W 0 m σ H) ∧ ∀ i m σ H, W i m σ H →
      ((Itt K a).stop i H ∧ D.nx σ H) ∨ ((Itt K a).go i H ∧ ∃ N : St → Hp → Prop, (∀ σ' H', N σ' H' → ∃ m', m' < m ∧ W (i + 1) m' σ' H') ∧ ∀ x H', (Itt K a).yld i H x H' → g x σ H' fun σ2 H2 => tb { D with nx := N, ct := N, bk := D.nx } σ2 H2) := by
  refine ⟨fun i m σ H => m = xs.length - i ∧ i ≤ xs.length ∧ Pv i σ H, ⟨xs.length, by simp, Nat.zero_le _, h0⟩, ?_⟩
  rintro i m σ H ⟨rfl, hi, p⟩
  have q := hl i σ H hi p
  by_cases hlt : i < xs.length
  · refine .inr ⟨⟨xs, xs[i], q, by simp [hlt]⟩, Pv (i + 1), fun σ' H' p' => ⟨xs.length - (i + 1), by omega, rfl, hlt, p'⟩, fun x H' y => ?_⟩
    obtain ⟨e, y⟩ := y
    subst e
    exact hs i x σ _ (y xs q) p
  · have e : i = xs.length := by omega
    subst e
    exact .inl ⟨⟨xs, q, Nat.le_refl _⟩, hd σ H p⟩
theorem for_range {lo : Int} {n : Nat} {g : TG} {tb : TS} {D : Ends} {σ : St} {H : Hp} (Pv : Nat → St → Hp → Prop) (h0 : Pv 0 σ H)
    (hs : ∀ i σ H, i < n → Pv i σ H → g (.int (lo + i)) σ H fun σ2 H2 => tb { D with nx := Pv (i + 1), ct := Pv (i + 1), bk := D.nx } σ2 H2) (hd : ∀ σ H, Pv n σ H → D.nx σ H) :
    ∃ W : Nat → Nat → St → Hp → Prop, (∃ m, W 0 m σ H) ∧ ∀ i m σ H, W i m σ H →
      ((Itr lo n).stop i H ∧ D.nx σ H) ∨ ((Itr lo n).go i H ∧ ∃ N : St → Hp → Prop, (∀ σ' H', N σ' H' → ∃ m', m' < m ∧ W (i + 1) m' σ' H') ∧ ∀ x H', (Itr lo n).yld i H x H' → g x σ H' fun σ2 H2 => tb { D with nx := N, ct := N, bk := D.nx } σ2 H2) := by
  refine ⟨fun i m σ H => m = n - i ∧ i ≤ n ∧ Pv i σ H, ⟨n, by simp, Nat.zero_le _, h0⟩, ?_⟩
  rintro i m σ H ⟨rfl, hi, p⟩
  by_cases hlt : i < n
  · refine .inr ⟨hlt, Pv (i + 1), fun σ' H' p' => ⟨n - (i + 1), by omega, rfl, hlt, p'⟩, fun x H' y => ?_⟩
    obtain ⟨e, y⟩ := y
    subst e y
    exact hs i σ _ hlt p
  · have e : i = n := by omega
    subst e
    exact .inl ⟨Nat.le_refl _, hd σ H p⟩
end L2
namespace L2
open PySem PySem.Spec PyProof.Rows
abbrev R2 := V → V → Hp → VK → Prop
/-- a two-place operation on values: f is binaryOp op, inplaceOp op or compareOp op -/
def OpR (X : Cx) (f : Value → Value → Sem Value) (r : R2) : Prop :=
  ∀ (pins : List (Addr × Obj)) (s : Shared) (σ : St) (H : Hp) (x y : V) (v u : Value) (Q : VK), Inv X pins σ H s → RelV x v → RelV y u → r x y H Q →
    wpAny (model X.prog X.w) X.A (f v u) (EP X pins σ Q) X.xe s
/-- a call of a value that is known (a builtin, a type) with values -/
def CallR (X : Cx) (f : Value) (r : List V → Hp → VK → Prop) : Prop :=
  ∀ (pins : List (Addr × Obj)) (s : Shared) (σ : St) (H : Hp) (xs : List V) (us : List Value) (Q : VK), Inv X pins σ H s → Vals xs us → r xs H Q →
    wpAny (model X.prog X.w) X.A (call f us) (EP X pins σ Q) X.xe s
def tOp (r : R2) (ta tb : TE) : TE := fun σ H Q => ta σ H fun x H1 => tb σ H1 fun y H2 => r x y H2 Q
/-- ints in, under C, and a value out -/
def rI (C : Int → Int → Prop) (g : Int → Int → V) : R2 := fun x y H Q => ∃ i j, x = .int i ∧ y = .int j ∧ C i j ∧ Q (g i j) H
def rI0 (g : Int → Int → V) : R2 := fun x y H Q => ∃ i j, x = .int i ∧ y = .int j ∧ Q (g i j) H
section
variable {X : Cx} {a b c : Expr} {ta tb tc : TE} {pos : Pos}
theorem binT (ha : PE X a ta) (hb : PE X b tb) {pins : List (Addr × Obj)} {s : Shared} {σ : St} {H : Hp} {R : V → V → Hp → Prop} (I : Inv X pins σ H s)
    (h : ta σ H fun x H1 => tb σ H1 fun y H2 => R x y H2) {Q : Value → Shared → Prop} {f : Value → Value → Sem Value}
    (hf : ∀ v u s2 x y H2, Inv X pins σ H2 s2 → RelV x v → RelV y u → R x y H2 → wpAny (model X.prog X.w) X.A (f v u) Q X.xe s2) :
    wpAny (model X.prog X.w) X.A (eval a X.env) (fun v s₁ => wpAny (model X.prog X.w) X.A (eval b X.env) (fun u s₂ => wpAny (model X.prog X.w) X.A (f v u) Q X.xe s₂) X.xe s₁) X.xe s := by
  refine thn (ha pins s σ H _ I h) fun v s1 ⟨x, H1, I1, r1, q1⟩ => ?_
  refine thn (hb pins s1 σ H1 _ I1 q1) fun u s2 ⟨y, H2, I2, r2, q2⟩ => ?_
  exact hf v u s2 x y H2 I2 r1 r2 q2
theorem pe_op {op : Operator} {r : R2} (ho : OpR X (binaryOp op) r) (ha : PE X a ta) (hb : PE X b tb) : PE X (.BinOp a op b pos) (tOp r ta tb) := by
  intro pins s σ H Q I h
  exact wpAny_BinOp (binT ha hb I h fun v u s2 x y H2 I2 rx ry q => ho pins s2 σ H2 x y v u Q I2 rx ry q)
/-! ### ints -/
theorem opI {f : Value → Value → Sem Value} {C : Int → Int → Prop} {g : Int → Int → Int}
    (rule : ∀ (i j : Int) (t u : Tok) (s : Shared) (Q : Value → Shared → Prop) (E : Value → Shared → Prop), C i j → Q (.int (g i j) s.toks) { s with toks := s.toks + 1 } → wpAny (model X.prog X.w) X.A (f (.int i t) (.int j u)) Q E s) :
    OpR X f (rI C fun i j => .int (g i j)) := by
  intro pins s σ H x y v u Q I rx ry h
  obtain ⟨i, j, rfl, rfl, hc, q⟩ := h
  obtain ⟨t, rfl⟩ := rx
  obtain ⟨t', rfl⟩ := ry
  exact rule i j t t' s _ _ hc ⟨.int (g i j), H, I.tok _, ⟨_, rfl⟩, q⟩
theorem opI0 {f : Value → Value → Sem Value} {g : Int → Int → Int}
    (rule : ∀ (i j : Int) (t u : Tok) (s : Shared) (Q : Value → Shared → Prop) (E : Value → Shared → Prop), Q (.int (g i j) s.toks) { s with toks := s.toks + 1 } → wpAny (model X.prog X.w) X.A (f (.int i t) (.int j u)) Q E s) :
    OpR X f (rI0 fun i j => .int (g i j)) := by
  intro pins s σ H x y v u Q I rx ry h
  obtain ⟨i, j, rfl, rfl, q⟩ := h
  obtain ⟨t, rfl⟩ := rx
  obtain ⟨t', rfl⟩ := ry
  exact rule i j t t' s _ _ ⟨.int (g i j), H, I.tok _, ⟨_, rfl⟩, q⟩
theorem opB0 {f : Value → Value → Sem Value} {g : Int → Int → Bool}
    (rule : ∀ (i j : Int) (t u : Tok) (s : Shared) (Q : Value → Shared → Prop) (E : Value → Shared → Prop), Q (.bool (g i j)) s → wpAny (model X.prog X.w) X.A (f (.int i t) (.int j u)) Q E s) :
    OpR X f (rI0 fun i j => .bl (g i j)) := by
  intro pins s σ H x y v u Q I rx ry h
  obtain ⟨i, j, rfl, rfl, q⟩ := h
  obtain ⟨t, rfl⟩ := rx
  obtain ⟨t', rfl⟩ := ry
  exact rule i j t t' s _ _ ⟨.bl (g i j), H, I, rfl, q⟩
def CDiv (i j : Int) : Prop := 0 < j ∧ j < 1073741824
def CPow (i j : Int) : Prop := 0 ≤ j ∧ j ≤ 1000000 ∧ i.natAbs < 2 ^ 64
def CMul (i j : Int) : Prop := (-(2 ^ 64) < i ∧ i < 2 ^ 64) ∨ (-(2 ^ 64) < j ∧ j < 2 ^ 64)
theorem CMul.ok {i j : Int} (h : CMul i j) : IntMulOk i j := by
  rcases h with ⟨h1, h2⟩ | ⟨h1, h2⟩
  · exact .of_left (intBits_le_64 h1 h2)
  · exact .of_right (intBits_le_64 h1 h2)
theorem two_pow_nn (k : Nat) : (0 : Int) ≤ 2 ^ k := by
  rw [two_pow_cast]
  exact Int.natCast_nonneg _
theorem op_add : OpR X (binaryOp .Add) (rI0 fun i j => .int (i + j)) := opI0 fun _ _ _ _ _ _ _ q => add_int q
theorem op_sub : OpR X (binaryOp .Sub) (rI0 fun i j => .int (i - j)) := opI0 fun _ _ _ _ _ _ _ q => sub_int q
theorem op_mul : OpR X (binaryOp .Mult) (rI CMul fun i j => .int (i * j)) := opI fun _ _ _ _ _ _ _ hc q => mul_int q hc.ok
/-- // by a positive divisor -/
theorem op_fdiv : OpR X (binaryOp .FloorDiv) (rI CDiv fun i j => .int (i / j)) := opI fun i j _ _ _ _ _ hc q => by
  have h1 : (0 : Int) < j := hc.1
  have h2 : j < 1073741824 := hc.2
  exact floordiv_int (by omega) (by rw [Int.fdiv_eq_ediv_of_nonneg i (by omega)]; exact q) (.inl (PyProof.noPylong_small (by omega)))
/-- % by a positive divisor of any size -/
theorem op_mod : OpR X (binaryOp .Mod) (rI (fun _ j => 0 < j) fun i j => .int (i % j)) := opI fun i j _ _ _ _ _ hc q => by
  have h1 : (0 : Int) < j := hc
  exact mod_int' (by omega) (by rw [Int.fmod_eq_emod_of_nonneg i (by omega)]; exact q)
theorem op_shl : OpR X (binaryOp .LShift) (rI CPow fun i j => .int (i * 2 ^ j.toNat)) := opI fun _ _ _ _ _ _ _ hc q => lshift_int_small hc.1 hc.2.1 hc.2.2 q
theorem op_shr : OpR X (binaryOp .RShift) (rI (fun _ j => 0 ≤ j) fun i j => .int (i / 2 ^ j.toNat)) := opI fun i j _ _ _ _ _ hc q =>
  rshift_int hc (by rw [Int.fdiv_eq_ediv_of_nonneg i (two_pow_nn _)]; exact q)
theorem op_and : OpR X (binaryOp .BitAnd) (rI0 fun i j => .int (Builtin.bitAnd i j)) := opI0 fun _ _ _ _ _ _ _ q => and_int q
theorem op_or : OpR X (binaryOp .BitOr) (rI0 fun i j => .int (Builtin.bitOr i j)) := opI0 fun _ _ _ _ _ _ _ q => or_int q
theorem iop_or : OpR X (inplaceOp .BitOr) (rI0 fun i j => .int (Builtin.bitOr i j)) := opI0 fun _ _ _ _ _ _ _ q => ior_int q
/-! ### bools among ints: n += (a < b) -/
end
/-! ### comparisons -/
/-- the scalars that == tells apart as data does -/
def scal : V → V → Bool
  | .non, .non => true | .non, .int _ => true | .int _, .non => true | .non, .bl _ => true | .bl _, .non => true | .non, .str _ => true | .str _, .non => true
  | .int _, .int _ => true | .bl _, .bl _ => true | .str _, .str _ => true | .byt _, .byt _ => true
  | .int _, .str _ => true | .str _, .int _ => true | .bl _, .str _ => true | .str _, .bl _ => true
  | _, _ => false
def rEq : R2 := fun x y H Q => scal x y = true ∧ Q (.bl (decide (x = y))) H
def rNe : R2 := fun x y H Q => scal x y = true ∧ Q (.bl (!decide (x = y))) H
theorem dec_int {i j : Int} : decide (V.int i = V.int j) = (i == j) := by
  rw [Bool.eq_iff_iff]
  simp
theorem dec_bl {i j : Bool} : decide (V.bl i = V.bl j) = (i == j) := by
  rw [Bool.eq_iff_iff]
  simp
theorem dec_str {i j : Str} : decide (V.str i = V.str j) = (i == j) := by
  rw [Bool.eq_iff_iff]
  simp
theorem dec_byt {i j : Array UInt8} : decide (V.byt i = V.byt j) = (i.toList == j.toList) := by
  rw [Bool.eq_iff_iff]
  cases i
  cases j
  simp
section
variable {X : Cx} {a b c : Expr} {ta tb tc : TE} {pos : Pos}
theorem fin_bl {pins : List (Addr × Obj)} {σ : St} {H : Hp} {s : Shared} {Q : VK} {k k' : Bool} (I : Inv X pins σ H s) (q : Q (.bl k) H) (e : k = k') : EP X pins σ Q (.bool k') s := by
  subst e
  exact ⟨.bl k, H, I, rfl, q⟩
theorem op_eq : OpR X (compareOp .Eq) rEq := by
  intro pins s σ H x y v u Q I rx ry h
  obtain ⟨hs, q⟩ := h
  cases x with
  | non =>
    cases rx
    cases y with
    | non => cases ry; exact PySem.EqNone.eq_none_none (fin_bl I q (by simp))
    | bl j => cases ry; exact PySem.EqNone.eq_none_bool (fin_bl I q (by simp))
    | int j => obtain ⟨t', rfl⟩ := ry; exact PySem.EqNone.eq_none_int (fin_bl I q (by simp))
    | str j => obtain ⟨t', rfl⟩ := ry; exact PySem.EqNone.eq_none_str (fin_bl I q (by simp))
    | _ => exact absurd (show false = true from hs) Bool.false_ne_true
  | bl i =>
    cases rx
    cases y with
    | non => cases ry; exact PySem.EqNone.eq_bool_none (fin_bl I q (by simp))
    | bl j => cases ry; exact eq_bool (fin_bl I q dec_bl)
    | str j => obtain ⟨t', rfl⟩ := ry; exact PySem.EqMixed.eq_bool_str (fin_bl I q (by simp))
    | _ => exact absurd (show false = true from hs) Bool.false_ne_true
  | int i =>
    obtain ⟨t, rfl⟩ := rx
    cases y with
    | non => cases ry; exact PySem.EqNone.eq_int_none (fin_bl I q (by simp))
    | int j => obtain ⟨t', rfl⟩ := ry; exact eq_int (fin_bl I q dec_int)
    | str j => obtain ⟨t', rfl⟩ := ry; exact PySem.EqMixed.eq_int_str (fin_bl I q (by simp))
    | _ => exact absurd (show false = true from hs) Bool.false_ne_true
  | str i =>
    obtain ⟨t, rfl⟩ := rx
    cases y with
    | non => cases ry; exact PySem.EqNone.eq_str_none (fin_bl I q (by simp))
    | bl j => cases ry; exact PySem.EqMixed.eq_str_bool (fin_bl I q (by simp))
    | int j => obtain ⟨t', rfl⟩ := ry; exact PySem.EqMixed.eq_str_int (fin_bl I q (by simp))
    | str j => obtain ⟨t', rfl⟩ := ry; exact eq_str (fin_bl I q dec_str)
    | _ => exact absurd (show false = true from hs) Bool.false_ne_true
  | byt i =>
    obtain ⟨t, rfl⟩ := rx
    cases y with
    | byt j => obtain ⟨t', rfl⟩ := ry; exact PySem.W.eq_bytes (fin_bl I q dec_byt)
    | _ => exact absurd (show false = true from hs) Bool.false_ne_true
  | _ => cases y <;> exact absurd (show false = true from hs) Bool.false_ne_true
theorem op_ne : OpR X (compareOp .NotEq) rNe := by
  intro pins s σ H x y v u Q I rx ry h
  obtain ⟨hs, q⟩ := h
  cases x with
  | non =>
    cases rx
    cases y with
    | non => cases ry; exact PySem.EqNone.ne_none_none (fin_bl I q (by simp))
    | bl j => cases ry; exact PySem.EqNone.ne_none_bool (fin_bl I q (by simp))
    | int j => obtain ⟨t', rfl⟩ := ry; exact PySem.EqNone.ne_none_int (fin_bl I q (by simp))
    | str j => obtain ⟨t', rfl⟩ := ry; exact PySem.EqNone.ne_none_str (fin_bl I q (by simp))
    | _ => exact absurd (show false = true from hs) Bool.false_ne_true
  | bl i =>
    cases rx
    cases y with
    | non => cases ry; exact PySem.EqNone.ne_bool_none (fin_bl I q (by simp))
    | bl j => cases ry; exact ne_bool (fin_bl I q (congrArg not dec_bl))
    | str j => obtain ⟨t', rfl⟩ := ry; exact PySem.EqMixed.ne_bool_str (fin_bl I q (by simp))
    | _ => exact absurd (show false = true from hs) Bool.false_ne_true
  | int i =>
    obtain ⟨t, rfl⟩ := rx
    cases y with
    | non => cases ry; exact PySem.EqNone.ne_int_none (fin_bl I q (by simp))
    | int j => obtain ⟨t', rfl⟩ := ry; exact ne_int (fin_bl I q (congrArg not dec_int))
    | str j => obtain ⟨t', rfl⟩ := ry; exact PySem.EqMixed.ne_int_str (fin_bl I q (by simp))
    | _ => exact absurd (show false = true from hs) Bool.false_ne_true
  | str i =>
    obtain ⟨t, rfl⟩ := rx
    cases y with
    | non => cases ry; exact PySem.EqNone.ne_str_none (fin_bl I q (by simp))
    | bl j => cases ry; exact PySem.EqMixed.ne_str_bool (fin_bl I q (by simp))
    | int j => obtain ⟨t', rfl⟩ := ry; exact PySem.EqMixed.ne_str_int (fin_bl I q (by simp))
    | str j => obtain ⟨t', rfl⟩ := ry; exact ne_str (fin_bl I q (congrArg not dec_str))
    | _ => exact absurd (show false = true from hs) Bool.false_ne_true
  | byt i =>
    obtain ⟨t, rfl⟩ := rx
    cases y with
    | byt j => obtain ⟨t', rfl⟩ := ry; exact PySem.W.ne_bytes (fin_bl I q (congrArg not dec_byt))
    | _ => exact absurd (show false = true from hs) Bool.false_ne_true
  | _ => cases y <;> exact absurd (show false = true from hs) Bool.false_ne_true
theorem op_lt : OpR X (compareOp .Lt) (rI0 fun i j => .bl (decide (i < j))) := opB0 fun _ _ _ _ _ _ _ q => lt_int q
theorem op_le : OpR X (compareOp .LtE) (rI0 fun i j => .bl (decide (i ≤ j))) := opB0 fun _ _ _ _ _ _ _ q => le_int q
theorem op_gt : OpR X (compareOp .Gt) (rI0 fun i j => .bl (decide (j < i))) := opB0 fun _ _ _ _ _ _ _ q => gt_int q
theorem op_ge : OpR X (compareOp .GtE) (rI0 fun i j => .bl (decide (j ≤ i))) := opB0 fun _ _ _ _ _ _ _ q => ge_int q
/-- two rules for one operation: by cases -/
theorem OpR.or {f : Value → Value → Sem Value} {r r' : R2} (h : OpR X f r) (h' : OpR X f r') : OpR X f (fun x y H Q => r x y H Q ∨ r' x y H Q) := by
  intro pins s σ H x y v u Q I rx ry q
  rcases q with q | q
  · exact h pins s σ H x y v u Q I rx ry q
  · exact h' pins s σ H x y v u Q I rx ry q
theorem nomark (b : Expr) {op : CmpOp} (h : op ≠ .In := by decide) (h2 : op ≠ .NotIn := by decide) : behindInMarks op b = false := by
  have e1 : (op == CmpOp.In) = false := by cases op <;> first | rfl | exact absurd rfl h
  have e2 : (op == CmpOp.NotIn) = false := by cases op <;> first | rfl | exact absurd rfl h2
  cases b <;> simp [behindInMarks, e1, e2]
/-- a comparison as a value; hm: nomark b, or (for in, not in) by with_unfolding_all rfl -/
theorem pe_cmpR {op : CmpOp} {r : R2} (ho : OpR X (compareOp op) r) (ha : PE X a ta) (hb : PE X b tb) (hm : behindInMarks op b = false) : PE X (.Compare a [op] [b] pos) (tOp r ta tb) := by
  intro pins s σ H Q I h
  exact wpAny_Compare1 (binT ha hb I h fun v u s2 x y H2 I2 rx ry q => ho pins s2 σ H2 x y v u Q I2 rx ry q) hm
/-- a reading of a value as a test -/
def tTest (t : TE) : TT := fun σ H Q => t σ H fun x H' => ∃ k, x = .bl k ∧ Q k H'
theorem pt_cmpR {op : CmpOp} {r : R2} (ho : OpR X (compareOp op) r) (ha : PE X a ta) (hb : PE X b tb) (hm : behindInMarks op b = false) : PT X (.Compare a [op] [b] pos) (tTest (tOp r ta tb)) := by
  intro pins s σ H Q I h
  refine wpAny_isTrue_Compare1 (thn (ha pins s σ H _ I h) fun v s1 ⟨x, H1, I1, r1, q1⟩ => thn (hb pins s1 σ H1 _ I1 q1) fun u s2 ⟨y, H2, I2, r2, q2⟩ =>
    thn (ho pins s2 σ H2 x y v u _ I2 r1 r2 q2) fun c s3 ⟨z, H3, I3, r3, k, e, q3⟩ => ?_) hm
  subst e
  cases r3
  exact wpAny_truthy_bool ⟨H3, I3, q3⟩
/-! ### truth -/
theorem line63 : (sizeLine : Nat) < 2 ^ 63 := by rw [sizeLine_eq]; decide
/-! ### strs and bytes -/
/-! ### scalar builtins, by CallR -/
theorem vals1 {x : V} {us : List Value} (r : Vals [x] us) : ∃ u, us = [u] ∧ RelV x u := by
  cases r with
  | cons r1 r2 => cases r2; exact ⟨_, rfl, r1⟩
theorem vals2 {x y : V} {us : List Value} (r : Vals [x, y] us) : ∃ u w', us = [u, w'] ∧ RelV x u ∧ RelV y w' := by
  cases r with
  | cons r1 r2 =>
    cases r2 with
    | cons r3 r4 => cases r4; exact ⟨_, _, rfl, r1, r3⟩
theorem call_max2 (hc : X.calm = true) : CallR X (.builtin "max") (fun xs H Q => ∃ i j, xs = [.int i, .int j] ∧ Q (.int (if j > i then j else i)) H) := by
  intro pins s σ H xs us Q I r h
  obtain ⟨i, j, rfl, q⟩ := h
  obtain ⟨u, w', rfl, ⟨t, rfl⟩, ⟨t', rfl⟩⟩ := vals2 r
  refine max_two_ints (I.ok.hd hc) fun h' tk k => ⟨_, H, I.kept k, ?_, q⟩
  by_cases hj : j > i
  · rw [if_pos hj, if_pos hj]; exact ⟨_, rfl⟩
  · rw [if_neg hj, if_neg hj]; exact ⟨_, rfl⟩
theorem call_min2 (hc : X.calm = true) : CallR X (.builtin "min") (fun xs H Q => ∃ i j, xs = [.int i, .int j] ∧ Q (.int (if j < i then j else i)) H) := by
  intro pins s σ H xs us Q I r h
  obtain ⟨i, j, rfl, q⟩ := h
  obtain ⟨u, w', rfl, ⟨t, rfl⟩, ⟨t', rfl⟩⟩ := vals2 r
  refine min_two_ints (I.ok.hd hc) fun h' tk k => ⟨_, H, I.kept k, ?_, q⟩
  by_cases hj : j < i
  · rw [if_pos hj, if_pos hj]; exact ⟨_, rfl⟩
  · rw [if_neg hj, if_neg hj]; exact ⟨_, rfl⟩
theorem call_ord : CallR X (.builtin "ord") (fun xs H Q => ∃ x, xs = [.str x] ∧ x.length = 1 ∧ Q (.int (x.cps.getD 0 0 : Nat)) H) := by
  intro pins s σ H xs us Q I r h
  obtain ⟨x, rfl, hz, q⟩ := h
  obtain ⟨u, rfl, t, rfl⟩ := vals1 r
  exact ord_of_one hz ⟨.int _, H, I.tok _, ⟨_, rfl⟩, q⟩
end
end L2
namespace L2
open PySem PySem.Spec PyProof.Rows
/-! ### an instance, its attributes a map -/
structure ObjM (h : Heap) (x dx C : Addr) (mA : Str → Option Value) : Prop where
  obj : h.get? x = some (PySem.W.instObj C dx)
  ns : h.Ns1 dx mA
  ne : dx ≠ x
theorem lookIn_ns {h : Heap} {dx : Addr} {mA : Str → Option Value} (n : h.Ns1 dx mA) : ∃ od, h.get? dx = some od ∧ ∀ name, PySem.W.lookIn name od = some (mA name) := by
  obtain ⟨o, es, ep, ho, hd, hk, _, hm⟩ := n
  refine ⟨o, ho, fun name => ?_⟩
  have e := hm name
  unfold nsFind findBy at e
  rw [← Array.find?_toList] at e
  unfold PySem.W.lookIn
  rw [hd]
  dsimp only
  split
  · rename_i y q
    rw [q] at e
    exact congrArg some e
  · rename_i q
    rw [q] at e
    have a : es.toList.any (·.refKey) = false := by
      rw [List.any_eq_false]
      intro y hy
      obtain ⟨z, t, hkey⟩ := hk y (Array.mem_toList_iff.mp hy)
      simp [DictEntry.refKey, hkey]
    have a' : ¬ es.toList.any (·.refKey) = true := by rw [a]; exact Bool.false_ne_true
    rw [if_neg a']
    exact congrArg some e
theorem ObjM.look {h : Heap} {x dx C : Addr} {mA : Str → Option Value} (I : ObjM h x dx C mA) : ∃ od, PySem.W.InstAt h x (PySem.W.instObj C dx) C (some od) ∧ ∀ name, PySem.W.lookIn name od = some (mA name) :=
  let ⟨od, ho, hl⟩ := lookIn_ns I.ns
  ⟨od, ⟨I.obj, rfl, rfl, ho⟩, hl⟩
section
variable {prog : Program} {w : World} {A : Around} {E : Value → Shared → Prop} {s : Shared} {K : PySem.W.Frag} {x dx C f : Addr} {mA : Str → Option Value} {name : Str} {v : Value}
theorem get_map {expr : Bool} {Q : Value → Shared → Prop} (X : K.In s.heap) (I : ObjM s.heap x dx C mA) (hg : PySem.W.plainGet K C name = true) (hh : PySem.W.hasDictIn K C = true)
    (ha : PySem.W.findIn K (.ref C) name = some none) (hv : mA name = some v) (hv' : PySem.W.handedIn v = true) (h : Q v { s with toks := s.toks + 1 }) :
    wpAny (model prog w) A (getAttr (.ref x) name expr) Q E s := by
  obtain ⟨od, J, hl⟩ := I.look
  exact PySem.W.get_value X J (PySem.W.plainGet_of hg).1 (PySem.W.findObj_own hh ha rfl (by rw [hl, hv])) hv' h
theorem get_meth {pl : Sem Bool} {Q : Value × List Value → Shared → Prop} (X : K.In s.heap) (I : ObjM s.heap x dx C mA) (hg : PySem.W.plainGet K C name = true)
    (hf : PySem.W.findIn K (.ref C) name = some (some (.ref f))) (ht : PySem.W.isFn K (.ref f) = true) (hv : mA name = none) (h : Q (.ref f, [.ref x]) s) :
    wpAny (model prog w) A (getMethod (.ref x) name pl) Q E s := by
  obtain ⟨od, J, hl⟩ := I.look
  exact PySem.W.method_fn X J (PySem.W.plainGet_of hg).1 (PySem.W.plainGet_of hg).2 hf (beq_iff_eq.mp ht) (by show (PySem.W.lookIn name od).map (·.isSome) = some false; rw [hl, hv]; rfl) h
theorem set_map {ns : List Str} {Q : Unit → Shared → Prop} (X : K.In s.heap) (I : ObjM s.heap x dx C mA)
    (hs : PySem.W.findIn K (.ref C) "__setattr__" = some (some (.builtin "object.__setattr__"))) (hp : PySem.W.plainOver K C = true) (ht : PySem.W.takerIn K C name = some none) (hh : PySem.W.hasDictIn K C = true)
    (hw : PySem.Within mA ns) (hsz : ns.length ≤ sizeLine)
    (h : ∀ h', ObjM h' x dx C (fun y => if y = name then some v else mA y) → Heap.SameBut dx s.heap h' → Q () { s with heap := h', toks := s.toks + 2 }) :
    wpAny (model prog w) A (setAttr (.ref x) name v) Q E s := by
  obtain ⟨od, J, hl⟩ := I.look
  refine PySem.W.set_plain X J hs (PySem.W.osa_open (s := { s with toks := s.toks + 1 }) (r := none) X J hp ht fun b => ?_)
  obtain ⟨cd, hc, hd'⟩ := PySem.W.any_some hh
  have hx : s.heap.get? x = some ⟨.ref C, some dx, .plain, #[]⟩ := I.obj
  refine wpAny_bind (wpAny_pure (wpAny_bind (wpAny_bind (wpAny_loadPart hx (wpAny_bind (PySem.W.Looks.here (s := { s with toks := s.toks + 1 }) (PySem.W.looks_clsIn X hc) ?_))))))
  rw [hd']
  refine wpAny_pure (a := some dx) (wpAny_bind (wpAny_pure (wpAny_bind ?_)))
  refine wpAny_nsSet1 (s := { s with toks := s.toks + 1 }) I.ns fun h' hn2 hs2 => ?_
  obtain ⟨oD, esD, epD, hoD, hdD, hcD⟩ := hn2.count (PySem.Within.cons name v hw)
  refine wpAny_bind (wpAny_lookBehind hoD (by rw [hdD]; exact pastItsLine_dict (Nat.le_trans hcD (by rw [List.length_cons]; omega))) ?_)
  exact wpAny_pure (h _ ⟨(hs2.2 _ (Ne.symm I.ne)).trans I.obj, hn2, I.ne⟩ hs2)
/-- C(..): the dict at the heap's end, the instance behind it; then its __init__ -/
theorem make_map {R : Result → Shared → Prop} {vs : List Value} {kw : List (Str × Value)} (X : K.In s.heap) (hm : PySem.W.makesIn K C = true)
    (hi : PySem.W.findIn K (.ref C) "__init__" = some (some (.ref f))) (hf : PySem.W.typeIn K (.ref f) = some (.type "function"))
    (h : codeAny (model prog w) (A.under (.builtin "type.__call__" ⟨.ref C :: vs, kw⟩)) (.call (.ref f) ⟨.ref (s.heap.objs.size + 1) :: vs, kw⟩) (PySem.W.InitBack (s.heap.objs.size + 1) R)
      { s with heap := (s.heap.push PySem.W.emptyDict).push (PySem.W.instObj C s.heap.objs.size) }) :
    codeAny (model prog w) A (.call (.ref C) ⟨vs, kw⟩) R s := by
  obtain ⟨hh, g, d, t, os⟩ := s
  exact PySem.W.make_core (PySem.W.makes_of X hm) (PySem.W.looks_findIn X hi) (fun self => PySem.W.bind_fn X self hf) (.inl rfl) h
end
/-! ### the attributes as a list of pairs -/
def putF (f : Str) (v : V) : List (Str × V) → List (Str × V)
  | [] => [(f, v)]
  | (g, x) :: r => if g = f then (g, v) :: r else (g, x) :: putF f v r
theorem lookup_putF (f g : Str) (v : V) : ∀ fs : List (Str × V), (putF f v fs).lookup g = if g = f then some v else fs.lookup g
  | [] => by
    show List.lookup g [(f, v)] = _
    by_cases h : g = f
    · have hb : (g == f) = true := beq_iff_eq.mpr h
      simp only [List.lookup, hb, if_pos h]
    · have hb : (g == f) = false := beq_eq_false_iff_ne.mpr h
      simp only [List.lookup, hb, if_neg h]
  | (k, x) :: r => by
    have ih := lookup_putF f g v r
    rw [show putF f v ((k, x) :: r) = (if k = f then (k, v) :: r else (k, x) :: putF f v r) from rfl]
    by_cases hk : k = f
    · rw [if_pos hk]
      by_cases h : g = k
      · have hb : (g == k) = true := beq_iff_eq.mpr h
        simp only [List.lookup, hb, if_pos (h.trans hk)]
      · have hb : (g == k) = false := beq_eq_false_iff_ne.mpr h
        simp only [List.lookup, hb, if_neg (fun e : g = f => h (e.trans hk.symm))]
    · rw [if_neg hk]
      by_cases h : g = k
      · have hb : (g == k) = true := beq_iff_eq.mpr h
        simp only [List.lookup, hb, if_neg (fun e : g = f => hk (h.symm.trans e))]
      · have hb : (g == k) = false := beq_eq_false_iff_ne.mpr h
        simp only [List.lookup, hb]
        exact ih
theorem keys_putF (f : Str) (v : V) : ∀ fs : List (Str × V), f ∈ (putF f v fs).map (·.1) ∧ ∀ g, g ∈ fs.map (·.1) → g ∈ (putF f v fs).map (·.1)
  | [] => ⟨by simp [putF], fun g h => by simp at h⟩
  | (k, x) :: r => by
    obtain ⟨i1, i2⟩ := keys_putF f v r
    rw [show putF f v ((k, x) :: r) = (if k = f then (k, v) :: r else (k, x) :: putF f v r) from rfl]
    by_cases hk : k = f
    · rw [if_pos hk]
      subst hk
      exact ⟨by simp, fun g h => by simpa using h⟩
    · rw [if_neg hk]
      refine ⟨?_, fun g h => ?_⟩
      · rw [List.map_cons]
        exact List.mem_cons_of_mem _ i1
      · rw [List.map_cons] at h ⊢
        rcases List.mem_cons.mp h with e | e
        · exact List.mem_cons.mpr (.inl e)
        · exact List.mem_cons_of_mem _ (i2 g e)
theorem length_putF (f : Str) (v : V) : ∀ fs : List (Str × V), (putF f v fs).length ≤ fs.length + 1
  | [] => by simp [putF]
  | (k, x) :: r => by
    have ih := length_putF f v r
    rw [show putF f v ((k, x) :: r) = (if k = f then (k, v) :: r else (k, x) :: putF f v r) from rfl]
    by_cases hk : k = f
    · rw [if_pos hk, List.length_cons, List.length_cons]; omega
    · rw [if_neg hk, List.length_cons, List.length_cons]; omega
theorem RelO.some_of {v : V} {o : Option Value} (r : RelO (some v) o) : ∃ u, o = some u ∧ RelV v u := by
  cases o with
  | none => exact (show False from r).elim
  | some u => exact ⟨u, rfl, r⟩
theorem RelO.none_of {o : Option Value} (r : RelO none o) : o = none := by
  cases o with
  | none => rfl
  | some u => exact (show False from r).elim
theorem handed_of {v : V} {u : Value} (r : RelV v u) : PySem.W.handedIn u = true := by
  cases v with
  | non => cases (show u = Value.none from r); rfl
  | bl b => cases (show u = Value.bool b from r); rfl
  | int i => obtain ⟨t, e⟩ := (show ∃ t, u = Value.int i t from r); cases e; rfl
  | str x => obtain ⟨t, e⟩ := (show ∃ t, u = Value.str x t from r); cases e; rfl
  | byt b => obtain ⟨t, e⟩ := (show ∃ t, u = Value.bytes b t from r); cases e; rfl
  | flt b => obtain ⟨t, e⟩ := (show ∃ t, u = Value.float b t from r); cases e; rfl
  | ref a => cases (show u = Value.ref a from r); rfl
  | ty n => cases (show u = Value.type n from r); rfl
section
variable {P : Program} {w : World} {H H' : Hp} {h h' : Heap} {a C dx : Addr} {fs fs' : List (Str × V)}
theorem ins_get (hok : HOk P w H h) (e : H a = some (.ins C dx fs)) : ∃ mA, ObjM h a dx C mA ∧ (∀ f, RelO (fs.lookup f) (mA f)) ∧ PySem.Within mA (fs.map (·.1)) ∧ fs.length ≤ 1000 ∧ H dx = some (.own a) := by
  obtain ⟨d, z, ne, ob, mA, n, r, q⟩ := (show ObjOk P w H h a (.ins C dx fs) from hok a _ e)
  exact ⟨mA, ⟨ob, n, ne⟩, r, q, z, d⟩
end
/-! ### what of the text a class must have -/
structure Cls (K : PySem.W.Frag) (C : Addr) : Prop where
  pg : PySem.W.plainGet K C Str.empty = true
  hd : PySem.W.hasDictIn K C = true
  po : PySem.W.plainOver K C = true
  sa : PySem.W.findIn K (.ref C) "__setattr__" = some (some (.builtin "object.__setattr__"))
theorem Cls.get {K : PySem.W.Frag} {C : Addr} (c : Cls K C) (f : Str) : PySem.W.plainGet K C f = true := c.pg
/-- no class of it has the name -/
def NoAttr (K : PySem.W.Frag) (C : Addr) (f : Str) : Prop := PySem.W.findIn K (.ref C) f = some none
theorem NoAttr.taker {K : PySem.W.Frag} {C : Addr} {f : Str} (n : NoAttr K C f) : PySem.W.takerIn K C f = some none := by
  unfold PySem.W.takerIn
  rw [show PySem.W.findIn K (.ref C) f = some none from n]
  rfl
/-- a method: a plain def of the class or of one above it -/
structure Meth (K : PySem.W.Frag) (C : Addr) (m : Str) (f : Addr) : Prop where
  at_ : PySem.W.findIn K (.ref C) m = some (some (.ref f))
  fn : PySem.W.isFn K (.ref f) = true
  kp : PySem.W.keepIn K (.ref f) = true
section
variable {X : Cx} {pins : List (Addr × Obj)} {σ : St} {H : Hp} {s : Shared} {a C dx : Addr} {fs : List (Str × V)} {f : Str} {v : V} {A : Around} {E : Value → Shared → Prop}
theorem getattr_ok {b : Bool} {Q : Value → Shared → Prop} (I : Inv X pins σ H s) (e : H a = some (.ins C dx fs)) (c : Cls X.K C) (n : NoAttr X.K C f) (l : fs.lookup f = some v)
    (h : ∀ u s', Inv X pins σ H s' → RelV v u → Q u s') : wpAny (model X.prog X.w) A (getAttr (.ref a) f b) Q E s := by
  obtain ⟨mA, O, r, _, _, _⟩ := ins_get I.hok e
  obtain ⟨u, hu, ru⟩ := RelO.some_of (v := v) (o := mA f) (by rw [← l]; exact r f)
  exact get_map I.kIn O (c.get f) c.hd n hu (handed_of ru) (h u _ (I.tok _) ru)
theorem getmeth_ok {m : Str} {g : Addr} {pl : Sem Bool} {Q : Value × List Value → Shared → Prop} (I : Inv X pins σ H s) (e : H a = some (.ins C dx fs)) (c : Cls X.K C) (k : Meth X.K C m g) (l : fs.lookup m = none)
    (h : Q (.ref g, [.ref a]) s) : wpAny (model X.prog X.w) A (getMethod (.ref a) m pl) Q E s := by
  obtain ⟨mA, O, r, _, _, _⟩ := ins_get I.hok e
  have hn : mA m = none := RelO.none_of (by rw [← l]; exact r m)
  exact get_meth I.kIn O (c.get m) k.at_ k.fn hn h
theorem setattr_ok {y : V} {u : Value} {Q : Unit → Shared → Prop} (I : Inv X pins σ H s) (e : H a = some (.ins C dx fs)) (c : Cls X.K C) (n : NoAttr X.K C f) (hl : fs.length < 1000) (ry : RelV y u)
    (h : ∀ s', Inv X pins σ (upd H a (.ins C dx (putF f y fs))) s' → Q () s') : wpAny (model X.prog X.w) A (setAttr (.ref a) f u) Q E s := by
  obtain ⟨mA, O, r, wi, _, ho⟩ := ins_get I.hok e
  have hz : (fs.map (·.1)).length ≤ sizeLine := by rw [List.length_map, sizeLine_eq]; omega
  refine set_map I.kIn O c.sa c.po n.taker c.hd wi hz fun h' O' sb => h _ ?_
  have hd : ∃ o, h'.get? dx = some o := let ⟨o, _, _, e', _⟩ := O'.ns; ⟨o, e'⟩
  refine I.write (x := a) (e := dx) (by rw [e]; exact True.intro) (.inr ho) (fun b q hb z => (sb.2 b hb).trans z) hd ?_
  refine ⟨by rw [upd_ne O.ne]; exact ho, ?_, O.ne, O'.obj, _, O'.ns, fun g => ?_, fun g hg => ?_⟩
  · have := length_putF f y fs; omega
  · show RelO ((putF f y fs).lookup g) (if g = f then some u else mA g)
    rw [lookup_putF]
    by_cases q : g = f
    · rw [if_pos q, if_pos q]; exact ry
    · rw [if_neg q, if_neg q]; exact r g
  · by_cases q : g = f
    · rw [q]; exact (keys_putF f y fs).1
    · refine (keys_putF f y fs).2 g (wi g fun z => hg ?_)
      show (if g = f then some u else mA g) = none
      rw [if_neg q]; exact z
/-- a new instance, tracked, without attributes -/
theorem Inv.made (I : Inv X pins σ H s) : Inv X pins σ (upd (upd H s.heap.objs.size (.own (s.heap.objs.size + 1))) (s.heap.objs.size + 1) (.ins C s.heap.objs.size []))
    { s with heap := (s.heap.push PySem.W.emptyDict).push (PySem.W.instObj C s.heap.objs.size) } := by
  have e1 : (s.heap.push PySem.W.emptyDict).get? s.heap.objs.size = some PySem.W.emptyDict := Heap.get?_push_size s.heap rfl
  have e2 : ((s.heap.push PySem.W.emptyDict).push (PySem.W.instObj C s.heap.objs.size)).get? (s.heap.objs.size + 1) = some (PySem.W.instObj C s.heap.objs.size) := by
    have := Heap.get?_push_size (s.heap.push PySem.W.emptyDict) (o := PySem.W.instObj C s.heap.objs.size) rfl
    rwa [Heap.size_push] at this
  have e3 : (s.heap.push PySem.W.emptyDict).Ns s.heap.objs.size (fun _ => none) := ⟨PySem.W.emptyDict, #[], _, e1, rfl, (fun e he => absurd he (by simp)), fun _ => rfl⟩
  have I1 := I.laid (a := s.heap.objs.size) (o := .own (s.heap.objs.size + 1)) (h' := s.heap.push PySem.W.emptyDict) (t' := s.toks) (fun b u q => Heap.get?_push_of_some _ q) (Nat.le_refl _) ⟨_, e1⟩
  refine I1.laid (a := s.heap.objs.size + 1) (o := .ins C s.heap.objs.size []) (t' := s.toks) (fun b u q => Heap.get?_push_of_some _ q) (Nat.le_of_eq (Heap.size_push _ _)) ?_
  have ne : s.heap.objs.size ≠ s.heap.objs.size + 1 := Nat.ne_of_lt (Nat.lt_succ_self _)
  refine ⟨by rw [upd_ne ne, upd_same], Nat.zero_le _, ne, e2, fun _ => none, (Heap.Ns1.of_empty e3).at fun o q => Heap.get?_push_of_some _ q, fun _ => True.intro, fun y hy => absurd rfl hy⟩
/-- e.f where nothing but the object is asked: through attributeBase (super) and the last hold -/
theorem attr_of {prog : Program} {w : World} {env : Env} {e : Expr} {f : Str} {pos : Pos} {s : Shared} {Q : Value → Shared → Prop} (hb : attributeBase e f env (eval e env) = eval e env)
    (h : wpAny (model prog w) A (eval e env) (fun o s₁ => wpAny (model prog w) A (getAttr o f true) Q E s₁) E s) : wpAny (model prog w) A (eval (.Attribute e f pos) env) Q E s :=
  Attribute_any_ h (by rw [arm_eval_Attribute, hb])
end
/-! ### readings and rules -/
/-- e.f, an attribute of the instance -/
def tFld (K : PySem.W.Frag) (ta : TE) (f : Str) : TE := fun σ H Q => ta σ H fun x H1 => ∃ a C dx fs v, x = .ref a ∧ H1 a = some (.ins C dx fs) ∧ Cls K C ∧ NoAttr K C f ∧ fs.lookup f = some v ∧ Q v H1
/-- e.f = value -/
def sFld (K : PySem.W.Frag) (ta tv : TE) (f : Str) : TS := fun D σ H => tv σ H fun y H1 => ta σ H1 fun x H2 => ∃ a C dx fs, x = .ref a ∧ H2 a = some (.ins C dx fs) ∧ Cls K C ∧ NoAttr K C f ∧ fs.length < 1000 ∧
  D.nx σ (upd H2 a (.ins C dx (putF f y fs)))
section
variable {X : Cx} {o e value : Expr} {f : Str} {pos pos' tpos : Pos} {ta tv : TE}
theorem pe_fld (he : PE X e ta) (hb : attributeBase e f X.env (eval e X.env) = eval e X.env) : PE X (.Attribute e f pos) (tFld X.K ta f) := by
  intro pins s σ H Q I h
  refine attr_of hb (thn (he pins s σ H _ I h) fun u s1 ⟨x, H1, I1, rx, a, C, dx, fs, v, ex, ea, c, n, l, q⟩ => ?_)
  subst ex
  obtain rfl : u = Value.ref a := rx
  exact getattr_ok I1 ea c n l fun u' s2 I2 ru => ⟨v, H1, I2, ru, q⟩
theorem ps_fld (ha : PE X o ta) (hv : PE X value tv) (hs : swapsWith value (some (.Attribute o f pos')) pos.line X.env = pure false) : PS X (.Assign [.Attribute o f pos'] value pos) (sFld X.K ta tv f) := by
  intro pins s σ H D I h
  refine plainObj_wpAny_Assign_Attribute (thn (hv pins s σ H _ I h) fun u s1 ⟨y, H1, I1, ry, q⟩ => thn (ha pins s1 σ H1 _ I1 q) fun ov s2 ⟨x, H2, I2, rx, a, C, dx, fs, ex, ea, c, n, l, q2⟩ => ?_) hs
  subst ex
  obtain rfl : ov = Value.ref a := rx
  exact setattr_ok I2 ea c n l ry fun s3 I3 => ⟨σ, _, I3, q2⟩
end
/-! ### isinstance -/
section
variable {X : Cx} {pins : List (Addr × Obj)} {σ : St} {H : Hp} {s : Shared} {A : Around} {E : Value → Shared → Prop} {Q : Value → Shared → Prop} {c : Value} {b : Bool}
end
end L2
namespace L2
open PySem PySem.Spec PyProof.Rows
/-! ### room -/
structure Room (k : Nat) (A : Around) : Prop where
  hd : A.handled = none
  dp : A.depth + 3 * k + 5 < recursionLimit
  un : A.units + 16 * k + 200 < cLine
theorem Room.mono {j k : Nat} {A : Around} (r : Room k A) (h : j ≤ k) : Room j A := ⟨r.hd, by have := r.dp; omega, by have := r.un; omega⟩
theorem Room.deeper {k : Nat} {A : Around} (r : Room (k + 1) A) (env : Env) : Room k (A.deeper env) :=
  ⟨r.hd, by have := r.dp; show A.depth + 1 + 3 * k + 5 < _; omega, by have := r.un; show A.units + 3 + 16 * k + 200 < _; omega⟩
theorem make_depth {A : Around} {C : Addr} {us : List Value} {kw : List (Str × Value)} : (A.under (.builtin "type.__call__" ⟨.ref C :: us, kw⟩)).depth = A.depth + 1 := by
  first | rfl | simp [Around.under, Code.weight, Code.isCreation, Code.isGuard, Code.isCaller, Code.frames, Code.isFrame, guardIds]
theorem make_units {A : Around} {C : Addr} {us : List Value} {kw : List (Str × Value)} : (A.under (.builtin "type.__call__" ⟨.ref C :: us, kw⟩)).units = A.units + 1 := by
  first | rfl | simp [Around.under, Code.cUnits, Code.frames, Code.isFrame]
theorem Room.make {k : Nat} {A : Around} (r : Room (k + 1) A) (C : Addr) (us : List Value) (kw : List (Str × Value)) : Room k (A.under (.builtin "type.__call__" ⟨.ref C :: us, kw⟩)) :=
  ⟨r.hd, by have := r.dp; rw [make_depth]; omega, by have := r.un; rw [make_units]; omega⟩
theorem Room.depth {k : Nat} {A : Around} (r : Room k A) : A.depth < recursionLimit := by have := r.dp; omega
theorem Room.units {k : Nat} {A : Around} (r : Room k A) : A.units + 64 < cLine := by have := r.un; omega
/-! ### argument lists and displays -/
def tNil : TA := fun _ H Q => Q [] H
def tCons (ta : TE) (tr : TA) : TA := fun σ H Q => ta σ H fun x H1 => tr σ H1 fun xs H2 => Q (x :: xs) H2
section
variable {X : Cx} {e : Expr} {es : List Expr} {te : TE} {t : TA} {pos : Pos}
theorem pa_nil : PA X [] tNil := fun _ _ _ _ H Q I h => Calls.spliced_nil ⟨[], H, I, .nil, h⟩
theorem pa_cons (ha : PE X e te) (hr : PA X es t) (hs : starEach (e :: es) X.env = (false, eval e X.env) :: starEach es X.env := by rfl) : PA X (e :: es) (tCons te t) := by
  intro pos pins s σ H Q I h
  rw [hs]
  show wpAny _ _ (spliced ((false, eval e X.env) :: backTo pos (starEach es X.env))) _ _ s
  refine Calls.spliced_cons (thn (ha pins s σ H _ I h) fun u s1 ⟨x, H1, I1, r1, q1⟩ => ?_)
  exact thn (hr pos pins s1 σ H1 _ I1 q1) fun us s2 ⟨xs, H2, I2, r2, q2⟩ => ⟨x :: xs, H2, I2, .cons r1 r2, q2⟩
/-- a tuple, a list of written items -/
def tTup (t : TA) : TE := fun σ H Q => t σ H fun xs H1 => xs.length ≤ sizeLine ∧ ∀ p, H1 p = none → Q (.ref p) (upd H1 p (.tup xs))
def tLst (t : TA) : TE := fun σ H Q => t σ H fun xs H1 => xs.length ≤ sizeLine ∧ ∀ p, H1 p = none → Q (.ref p) (upd H1 p (.lst xs))
theorem pe_tup {x1} (h : PA X es t) : PE X (.Tuple es x1 pos) (tTup t) := by
  intro pins s σ H Q I hq
  refine wpAny_Tuple_spliced (thn (h pos pins s σ H _ I hq) fun us s1 ⟨xs, H1, I1, r, z, q⟩ => ⟨by rw [← r.length]; exact z, ?_⟩)
  have hf : H1 s1.heap.objs.size = none := I1.hok.fresh (Nat.le_refl _)
  refine ⟨.ref s1.heap.objs.size, upd H1 s1.heap.objs.size (.tup xs), I1.laid (t' := s1.toks) (fun b u e => Heap.get?_push_of_some _ e) (Nat.le_refl _) ?_, rfl, q _ hf⟩
  exact ⟨z, us, r, ⟨_, Heap.get?_push_size _ rfl, rfl, _, rfl⟩⟩
theorem pe_lst (h : PA X es t) : PE X (.List es pos) (tLst t) := by
  intro pins s σ H Q I hq
  refine wpAny_List_spliced (thn (h pos pins s σ H _ I hq) fun us s1 ⟨xs, H1, I1, r, z, q⟩ => ⟨by rw [← r.length]; exact z, ?_⟩)
  have hf : H1 s1.heap.objs.size = none := I1.hok.fresh (Nat.le_refl _)
  refine ⟨.ref s1.heap.objs.size, upd H1 s1.heap.objs.size (.lst xs), I1.laid (t' := s1.toks) (fun b u e => Heap.get?_push_of_some _ e) (Nat.le_refl _) ?_, rfl, q _ hf⟩
  exact ⟨z, us, 0, r, Heap.get?_push_size _ rfl⟩
end
/-! ### what a def promises -/
/-- a def's promise: the bound arguments in the parameters' order, the heap, the wanted end, the wanted exception -/
abbrev Sp := List V → Hp → VK → XK → Prop
/-- how an exception lies behind a call (file 08 gives it): the callers' frames, abstract heap and state ahead of the call, the wish, the exception, the state -/
abbrev CXT := List Env → Hp → Shared → XK → Value → Shared → Prop
/-- the state at a call -/
structure Env0 (P : Program) (w : World) (K : PySem.W.Frag) (mg : Str → Option Value) (base : Heap) (A : Around) (outer : List Env) (s : Shared) (H : Hp) : Prop where
  frames : A.frames = some outer
  mod : Mod K mg base
  bs : ∀ b o, base.get? b = some o → s.heap.get? b = some o ∧ H b = none
  bsz : base.objs.size ≤ s.heap.objs.size
  funs : s.heap.FunFrames base outer
  frf : ∀ b ∈ frs outer, H b = none
  hok : HOk P w H s.heap
  bare : AllBare s.gens
/-- a call's end -/
def CE (outer : List Env) (P : Program) (w : World) (H : Hp) (s : Shared) (Q : VK) (u : Value) (s' : Shared) : Prop :=
  ∃ v H', s'.os = s.os ∧ AllBare s'.gens ∧ Un (frs outer) [] H H' s.heap s'.heap ∧ HOk P w H' s'.heap ∧ RelV v u ∧ Q v H'
def CR (CX : CXT) (outer : List Env) (P : Program) (w : World) (H : Hp) (s : Shared) (Q : VK) (E : XK) (r : Result) (s' : Shared) : Prop :=
  match r with
  | .ok (.ret u) => CE outer P w H s Q u s'
  | .ok _ => False
  | .error e => CX outer H s E e s'
structure FnOk (P : Program) (w : World) (K : PySem.W.Frag) (mg : Str → Option Value) (base : Heap) (CX : CXT) (k : Nat) (f : Addr) (fd : FuncData) (ps : List Str) (sp : Sp) : Prop where
  len : ∀ vs H Q E, sp vs H Q E → vs.length = ps.length
  run : ∀ (A : Around) (outer : List Env) (s : Shared) (H : Hp) (args : Args) (us : List Value) (vs : List V) (Q : VK) (E : XK), Room k A → Env0 P w K mg base A outer s H → BindsTo s fd args (ps.zip us) → Vals vs us → sp vs H Q E →
    codeAny (model P w) A (.call (.ref f) args) (CR CX outer P w H s Q E) s
theorem FnOk.mono {P : Program} {w : World} {K : PySem.W.Frag} {mg : Str → Option Value} {base : Heap} {CX : CXT} {j k : Nat} {f : Addr} {fd : FuncData} {ps : List Str} {sp : Sp} (F : FnOk P w K mg base CX j f fd ps sp) (h : j ≤ k) :
    FnOk P w K mg base CX k f fd ps sp := ⟨F.len, fun A outer s H args us vs Q E hr => F.run A outer s H args us vs Q E (hr.mono h)⟩
/-- a weaker promise -/
theorem FnOk.imp {P : Program} {w : World} {K : PySem.W.Frag} {mg : Str → Option Value} {base : Heap} {CX : CXT} {k : Nat} {f : Addr} {fd : FuncData} {ps : List Str} {sp sp' : Sp} (F : FnOk P w K mg base CX k f fd ps sp)
    (h : ∀ vs H Q E, sp' vs H Q E → sp vs H Q E) : FnOk P w K mg base CX k f fd ps sp' :=
  ⟨fun vs H Q E q => F.len vs H Q E (h _ _ _ _ q), fun A outer s H args us vs Q E hr he hb hv hs => F.run A outer s H args us vs Q E hr he hb hv (h _ _ _ _ hs)⟩
theorem Env0.make {P : Program} {w : World} {K : PySem.W.Frag} {mg : Str → Option Value} {base : Heap} {A : Around} {outer : List Env} {s : Shared} {H : Hp} (e : Env0 P w K mg base A outer s H) (C : Addr) (us : List Value) (kw : List (Str × Value)) :
    Env0 P w K mg base (A.under (.builtin "type.__call__" ⟨.ref C :: us, kw⟩)) outer s H := ⟨by first | exact e.frames | (simpa [Around.under, Code.envs, Code.isFrame, pushEnvs] using e.frames), e.mod, e.bs, e.bsz, e.funs, e.frf, e.hok, e.bare⟩
section
variable {X : Cx} {pins : List (Addr × Obj)} {σ : St} {H : Hp} {s s' : Shared}
/-- from a body: what a callee wants -/
theorem Inv.env0 (I : Inv X pins σ H s) : Env0 X.prog X.w X.K X.mg X.base X.A X.stack s H :=
  ⟨I.ok.frames, I.ok.mod, I.bs, Nat.le_trans I.ok.bsz I.sz, I.stack, I.stkFree, I.hok, I.bare⟩
/-- behind a call -/
theorem Inv.after {Q : VK} {u : Value} (I : Inv X pins σ H s) (h : CE X.stack X.prog X.w H s Q u s') : EP X pins σ Q u s' := by
  obtain ⟨v, H', os, bare, un, hok, r, q⟩ := h
  obtain ⟨hh, g, d, t, os'⟩ := s'
  obtain rfl : os' = s.os := os
  exact ⟨v, H', I.call (h' := hh) (g' := g) (d' := d) (t' := t) (ch := []) un hok bare (fun b z => absurd z (by simp)), r, q⟩
end
/-! ### calls -/
/-- f(..): the written arguments, then the defaults dvs; E: what is wanted of an exception -/
def tCall (sp : Sp) (dvs : List V) (E : XK) (t : TA) : TE := fun σ H Q => t σ H fun vs H1 => sp (vs ++ dvs) H1 Q E
/-- o.m(..) of an instance of the class at C -/
def tMeth (C : Addr) (m : Str) (sp : Sp) (dvs : List V) (E : XK) (ta : TE) (t : TA) : TE := fun σ H Q => ta σ H fun x H1 => ∃ a dx fs, x = .ref a ∧ H1 a = some (.ins C dx fs) ∧ fs.lookup m = none ∧
  t σ H1 fun vs H2 => sp (x :: (vs ++ dvs)) H2 Q E
/-- C(..): a new instance and its dict, then __init__ -/
def tMake (C : Addr) (sp : Sp) (dvs : List V) (E : XK) (t : TA) : TE := fun σ H Q => t σ H fun vs H1 => ∀ x dx, H1 x = none → H1 dx = none → dx ≠ x →
  sp (.ref x :: (vs ++ dvs)) (upd (upd H1 dx (.own x)) x (.ins C dx [])) (fun v H2 => v = .non ∧ Q (.ref x) H2) E
/-- how the parameters are bound: us the positional arguments, kw the keywords' values by name, ds the defaults that fill up -/
def Binds (K : PySem.W.Frag) (fd : FuncData) (ps : List Str) (ds : List Value) : Prop :=
  ∀ (s : Shared) (us : List Value), K.In s.heap → (us ++ ds).length = ps.length → BindsTo s fd ⟨us, []⟩ (ps.zip (us ++ ds))
/-- every parameter is given -/
theorem Binds.all {K : PySem.W.Frag} {fd : FuncData} {ps : List Str} (h : ∀ us : List Value, us.length = ps.length → bindArgs fd ⟨us, []⟩ = pure (ps.zip us)) : Binds K fd ps [] := fun s us _ hl => by
  rw [List.append_nil] at hl ⊢
  exact .of_eq (h us hl)
/-- an exception of a callee reaches what this body wants of exceptions -/
def Passes (CX : CXT) (X : Cx) (E : XK) : Prop := ∀ (pins : List (Addr × Obj)) (σ : St) (H : Hp) (s : Shared) (e : Value) (s' : Shared), Inv X pins σ H s → CX X.stack H s E e s' → X.xe e s'
section
variable {X : Cx} {CX : CXT} {k : Nat} {f C : Addr} {fd : FuncData} {ps : List Str} {sp : Sp} {dvs : List V} {ds : List Value} {E : XK} {x m : Str} {p pos apos : Pos} {e o : Expr} {es : List Expr} {ta : TE} {t : TA}
/-- the callee runs -/
theorem run_fn {pins : List (Addr × Obj)} {σ : St} {H : Hp} {s : Shared} {Q : VK} {us : List Value} {vs : List V} (F : FnOk X.prog X.w X.K X.mg X.base CX k f fd ps sp) (hr : Room k X.A) (hb : Binds X.K fd ps ds) (hd : Vals dvs ds) (hx : Passes CX X E)
    (I : Inv X pins σ H s) (r : Vals vs us) (h : sp (vs ++ dvs) H Q E) : wpAny (model X.prog X.w) X.A (call (.ref f) us) (EP X pins σ Q) X.xe s := by
  have r2 : Vals (vs ++ dvs) (us ++ ds) := r.append hd
  have hl : (us ++ ds).length = ps.length := by rw [← r2.length]; exact F.len _ _ _ _ h
  refine wpAny_call (codeAny_mono (F.run X.A X.stack s H ⟨us, []⟩ (us ++ ds) (vs ++ dvs) Q E hr I.env0 (hb s us I.kIn hl) r2 h) fun r s' hq => ?_)
  cases r with
  | error e => exact hx pins σ H s e s' I hq
  | ok fl =>
    cases fl with
    | ret u => exact I.after hq
    | next => exact False.elim hq
    | brk => exact False.elim hq
    | cont => exact False.elim hq
theorem pe_call (F : FnOk X.prog X.w X.K X.mg X.base CX k f fd ps sp) (hr : Room k X.A) (hg : Gl X x) (hm : X.mg x = some (.ref f)) (hk : PySem.W.keepIn X.K (.ref f) = true) (hb : Binds X.K fd ps ds) (hd : Vals dvs ds) (hx : Passes CX X E)
    (ha : PA X (e :: es) t) (hdb : (x == ("__debug__" : Str)) = false := by decide) (he : starEach (e :: es) X.env = (false, eval e X.env) :: starEach es X.env := by rfl) (hpl : (backTo pos (starEach es X.env)).any (·.1) = false := by rfl) :
    PE X (.Call (.Name x p) (e :: es) [] pos) (tCall sp dvs E t) := by
  intro pins s σ H Q I h
  refine wpAny_Call_Name_kw (ld_glob I hg hm ?_ hdb)
  refine PySem.W.callWith_K (h₀ := X.base) I.ok.mod.kin hk (thn (ha pos pins s σ H _ I h) fun us s1 ⟨vs, H1, I1, r, q⟩ => ⟨I1.kIn, ?_⟩) he hpl
  exact run_fn F hr hb hd hx I1 r q
/-- o.m(e, ..) -/
theorem pe_meth {pl : Sem Bool} (he : PE X o ta) (c : Cls X.K C) (hm : Meth X.K C m f) (F : FnOk X.prog X.w X.K X.mg X.base CX k f fd ps sp) (hr : Room k X.A) (hb : Binds X.K fd ps ds) (hd : Vals dvs ds) (hx : Passes CX X E) (ha : PA X (e :: es) t)
    (hst : starEach (e :: es) X.env = (false, eval e X.env) :: starEach es X.env := by rfl) (hpl : (backTo pos (starEach es X.env)).any (·.1) = false := by rfl)
    (ht : eval (.Call (.Attribute o m apos) (e :: es) [] pos) X.env = (do
      let ov ← eval o X.env
      standAt apos.atName
      let (f, first) ← holding [ov] (getMethod ov m pl)
      callWith pos f first (backTo pos (starEach (e :: es) X.env)) (backToKw pos (keywordEach [] X.env))) := by rfl) :
    PE X (.Call (.Attribute o m apos) (e :: es) [] pos) (tMeth C m sp dvs E ta t) := by
  intro pins s σ H Q I h
  refine PySem.W.methodCall_KW (pl := pl) (thn (he pins s σ H _ I h) fun u s1 ⟨x, H1, I1, rx, a, dx, fs, ex, ea, l, q⟩ => ?_) ht
  subst ex
  obtain rfl : u = Value.ref a := rx
  refine getmeth_ok I1 ea c hm l ?_
  refine PySem.W.callWith_K (first := [.ref a]) (h₀ := X.base) I.ok.mod.kin hm.kp (thn (ha pos pins s1 σ H1 _ I1 q) fun us s2 ⟨vs, H2, I2, r, q2⟩ => ⟨I2.kIn, ?_⟩) hst hpl
  exact run_fn (us := .ref a :: us) (vs := .ref a :: vs) F hr hb hd hx I2 (.cons rfl r) q2
/-- o.m() -/
theorem pe_meth0 {pl : Sem Bool} (he : PE X o ta) (c : Cls X.K C) (hm : Meth X.K C m f) (F : FnOk X.prog X.w X.K X.mg X.base CX k f fd ps sp) (hr : Room k X.A) (hb : Binds X.K fd ps ds) (hd : Vals dvs ds) (hx : Passes CX X E)
    (ht : eval (.Call (.Attribute o m apos) [] [] pos) X.env = (do
      let ov ← eval o X.env
      standAt apos.atName
      let (f, first) ← holding [ov] (getMethod ov m pl)
      callWith pos f first (backTo pos (starEach [] X.env)) (backToKw pos (keywordEach [] X.env))) := by rfl) :
    PE X (.Call (.Attribute o m apos) [] [] pos) (tMeth C m sp dvs E ta tNil) := by
  intro pins s σ H Q I h
  refine PySem.W.methodCall_KW (pl := pl) (thn (he pins s σ H _ I h) fun u s1 ⟨x, H1, I1, rx, a, dx, fs, ex, ea, l, q⟩ => ?_) ht
  subst ex
  obtain rfl : u = Value.ref a := rx
  refine getmeth_ok I1 ea c hm l ?_
  exact PySem.W.callWith_K0 (first := [.ref a]) I1.kIn hm.kp (run_fn (us := [.ref a]) (vs := [.ref a]) F hr hb hd hx I1 (.cons rfl .nil) q)
/-- what a class must have to be made -/
structure Mk (K : PySem.W.Frag) (C f : Addr) : Prop where
  makes : PySem.W.makesIn K C = true
  init : PySem.W.findIn K (.ref C) "__init__" = some (some (.ref f))
  fn : PySem.W.isFn K (.ref f) = true
  kp : PySem.W.keepIn K (.ref C) = true
theorem run_make {pins : List (Addr × Obj)} {σ : St} {H : Hp} {s : Shared} {Q : VK} {us : List Value} {vs : List V} (M : Mk X.K C f) (F : FnOk X.prog X.w X.K X.mg X.base CX k f fd ps sp) (hr : Room (k + 1) X.A) (hb : Binds X.K fd ps ds) (hd : Vals dvs ds)
    (hx : Passes CX X E) (I : Inv X pins σ H s) (r : Vals vs us)
    (h : ∀ x dx, H x = none → H dx = none → dx ≠ x → sp (.ref x :: (vs ++ dvs)) (upd (upd H dx (.own x)) x (.ins C dx [])) (fun v H2 => v = .non ∧ Q (.ref x) H2) E) :
    wpAny (model X.prog X.w) X.A (call (.ref C) us) (EP X pins σ Q) X.xe s := by
  have hq := h (s.heap.objs.size + 1) s.heap.objs.size (I.hok.fresh (Nat.le_succ _)) (I.hok.fresh (Nat.le_refl _)) (Nat.ne_of_lt (Nat.lt_succ_self _))
  have I2 := Inv.made (C := C) I
  have r2 : Vals (V.ref (s.heap.objs.size + 1) :: (vs ++ dvs)) (Value.ref (s.heap.objs.size + 1) :: (us ++ ds)) := .cons rfl (r.append hd)
  have hl : (Value.ref (s.heap.objs.size + 1) :: us ++ ds).length = ps.length := by
    have e := r2.length
    rw [F.len _ _ _ _ hq] at e
    exact e.symm
  refine wpAny_call (make_map (f := f) I.kIn M.makes M.init (beq_iff_eq.mp M.fn) (codeAny_mono (F.run _ X.stack _ _ ⟨Value.ref (s.heap.objs.size + 1) :: us, []⟩ (Value.ref (s.heap.objs.size + 1) :: (us ++ ds)) _ _ E (hr.make C us [])
    (I2.env0.make C us []) (hb _ (Value.ref (s.heap.objs.size + 1) :: us) I2.kIn hl) r2 hq) fun r s' hq' => ?_))
  cases r with
  | error e => exact hx pins σ _ _ e s' I2 hq'
  | ok fl =>
    cases fl with
    | ret u =>
      obtain ⟨v, H', I3, rv, ev, q3⟩ := I2.after hq'
      subst ev
      exact ⟨rv, ⟨V.ref (s.heap.objs.size + 1), H', I3, rfl, q3⟩⟩
    | next => exact False.elim hq'
    | brk => exact False.elim hq'
    | cont => exact False.elim hq'
theorem pe_make (M : Mk X.K C f) (F : FnOk X.prog X.w X.K X.mg X.base CX k f fd ps sp) (hr : Room (k + 1) X.A) (hg : Gl X x) (hm : X.mg x = some (.ref C)) (hb : Binds X.K fd ps ds) (hd : Vals dvs ds) (hx : Passes CX X E)
    (ha : PA X (e :: es) t) (hdb : (x == ("__debug__" : Str)) = false := by decide) (he : starEach (e :: es) X.env = (false, eval e X.env) :: starEach es X.env := by rfl) (hpl : (backTo pos (starEach es X.env)).any (·.1) = false := by rfl) :
    PE X (.Call (.Name x p) (e :: es) [] pos) (tMake C sp dvs E t) := by
  intro pins s σ H Q I h
  refine wpAny_Call_Name_kw (ld_glob I hg hm ?_ hdb)
  refine PySem.W.callWith_K (h₀ := X.base) I.ok.mod.kin M.kp (thn (ha pos pins s σ H _ I h) fun us s1 ⟨vs, H1, I1, r, q⟩ => ⟨I1.kIn, ?_⟩) he hpl
  exact run_make M F hr hb hd hx I1 r q
end
/-! ### keywords -/
section
variable {X : Cx} {CX : CXT} {k : Nat} {f C : Addr} {fd : FuncData} {ps ks : List Str} {sp : Sp} {E : XK} {x m : Str} {p pos apos kpos : Pos} {e o : Expr} {es : List Expr} {kws : List Keyword} {te ta : TE} {t tk : TA} {nm : Option Str}
variable {g : List Value → List Value → List Value} {gV : List V → List V → List V}
end
/-! ### a def's body keeps its promise -/
/-- names: the parameters first -/
structure FnScope (N P : List Str) (sc : Scope) : Prop where
  kind : sc.kind = .function
  co : sc.isCoroutine = false
  gen : sc.isGenerator = false
  nd : N.Nodup
  pre : N.take P.length = P
  par : ∀ x ∈ P, sc.names.lookup x = some .local ∨ sc.names.lookup x = some .cell
  nofree : ∀ y ∈ sc.names, y.2 ≠ .free
theorem bindL_out {kindOf : Str → Option NameKind} {x : Str} : ∀ {binds : List (Str × Value)} {m : Str → Option Value}, (∀ v, (x, v) ∉ binds) → bindL kindOf binds m x = m x
  | [], _, _ => rfl
  | (n, v) :: r, m, h => by
    unfold bindL
    rw [bindL_out fun w hw => h w (List.mem_cons_of_mem _ hw)]
    split
    · have : x ≠ n := by rintro rfl; exact h v List.mem_cons_self
      simp [this]
    · rfl
theorem bindC_out {kindOf : Str → Option NameKind} {x : Str} : ∀ {binds : List (Str × Value)} {m : Str → Option Value}, (∀ v, (x, v) ∉ binds) → bindC kindOf binds m x = m x
  | [], _, _ => rfl
  | (n, v) :: r, m, h => by
    unfold bindC
    rw [bindC_out fun w hw => h w (List.mem_cons_of_mem _ hw)]
    split
    · rfl
    · have : x ≠ n := by rintro rfl; exact h v List.mem_cons_self
      simp [this]
theorem bindL_get {kindOf : Str → Option NameKind} {x : Str} {v : Value} : ∀ {P : List Str} {vs : List Value} {i : Nat} {m : Str → Option Value}, P.Nodup → P[i]? = some x → vs[i]? = some v → kindOf x = some .local →
    bindL kindOf (P.zip vs) m x = some v
  | [], _, _, _, _, h, _, _ => by simp at h
  | _ :: _, [], _, _, _, _, h, _ => by simp at h
  | p :: P, w :: vs, 0, m, nd, h1, h2, hk => by
    simp at h1 h2; subst h1; subst h2
    show bindL kindOf ((p, w) :: P.zip vs) m p = _
    unfold bindL
    rw [bindL_out fun v hv => (List.nodup_cons.mp nd).1 (List.of_mem_zip hv).1, if_pos hk]
    simp
  | p :: P, w :: vs, i + 1, m, nd, h1, h2, hk => by
    show bindL kindOf ((p, w) :: P.zip vs) m x = _
    unfold bindL
    exact bindL_get (i := i) (List.nodup_cons.mp nd).2 (by simpa using h1) (by simpa using h2) hk
theorem bindC_get {kindOf : Str → Option NameKind} {x : Str} {v : Value} : ∀ {P : List Str} {vs : List Value} {i : Nat} {m : Str → Option Value}, P.Nodup → P[i]? = some x → vs[i]? = some v → kindOf x ≠ some .local →
    bindC kindOf (P.zip vs) m x = some v
  | [], _, _, _, _, h, _, _ => by simp at h
  | _ :: _, [], _, _, _, _, h, _ => by simp at h
  | p :: P, w :: vs, 0, m, nd, h1, h2, hk => by
    simp at h1 h2; subst h1; subst h2
    show bindC kindOf ((p, w) :: P.zip vs) m p = _
    unfold bindC
    rw [bindC_out fun v hv => (List.nodup_cons.mp nd).1 (List.of_mem_zip hv).1, if_neg hk]
    simp
  | p :: P, w :: vs, i + 1, m, nd, h1, h2, hk => by
    show bindC kindOf ((p, w) :: P.zip vs) m x = _
    unfold bindC
    exact bindC_get (i := i) (List.nodup_cons.mp nd).2 (by simpa using h1) (by simpa using h2) hk
/-- the names' values at the entry -/
def start (N : List Str) (vs : List V) : St := vs.map some ++ List.replicate (N.length - vs.length) none
/-- the context of a def's body, at its entry; an exception leaves the frame, then lies as CX says -/
def cxOf (CX : CXT) (P : Program) (w : World) (K : PySem.W.Frag) (mg : Str → Option Value) (base : Heap) (N : List Str) (qual : Str) (scope : Scope) (f : Addr) (cd : Value) (A : Around) (outer : List Env) (s : Shared) (H : Hp) (E : XK) : Cx where
  prog := P
  w := w
  K := K
  mg := mg
  base := base
  A := A.deeper (envOfC qual scope s.heap.objs.size f cd)
  N := N
  s_0 := s
  H_0 := H
  env := envOfC qual scope s.heap.objs.size f cd
  outer := outer
  stack := envOfC qual scope s.heap.objs.size f cd :: outer
  ex := []
  calm := true
  fn := fun _ => true
  pn := []
  xe := fun e s' => wpAny (model P w) (A.deeper (envOfC qual scope s.heap.objs.size f cd)) (leaving (envOfC qual scope s.heap.objs.size f cd) e) (fun _ s'' => CX outer H s E e s'') (fun e' s'' => CX outer H s E e' s'') s'
theorem cell_has {sc : Scope} {n : Nat} {x : Str} (h : sc.names.lookup x = some .cell) : ∃ c, (cellsFrom n sc.names []).lookup x = some c := by
  have q := PySem.W.cellsFrom_some sc.names n [] (.inl h)
  exact Option.isSome_iff_exists.mp q
theorem inv_start {CX : CXT} {P : Program} {w : World} {K : PySem.W.Frag} {mg : Str → Option Value} {base : Heap} {N ps : List Str} {qual : Str} {scope : Scope} {f : Addr} {cd : Value} {A : Around} {outer : List Env} {s s1 : Shared} {H : Hp} {E : XK} {us : List Value} {vs : List V}
    (S : FnScope N ps scope) (hd : A.handled = none) (e0 : Env0 P w K mg base A outer s H) (hl : vs.length = ps.length) (r : Vals vs us)
    (x : InCallC s s.heap.objs.size (bindL (envOfC qual scope s.heap.objs.size f cd).kindOf (ps.zip us) fun _ => none) (cellsFrom (s.heap.objs.size + 1) scope.names []) (bindC (envOfC qual scope s.heap.objs.size f cd).kindOf (ps.zip us) fun _ => none) s1) :
    Inv (cxOf CX P w K mg base N qual scope f cd A outer s H E) [] (start N vs) H s1 := by
  have hpl : ps.length ≤ N.length := by have := congrArg List.length S.pre; rw [List.length_take] at this; omega
  obtain ⟨h1, tk, rfl, hk⟩ := x.done
  have noA : ∀ b : Addr, b ∉ (cxOf CX P w K mg base N qual scope f cd A outer s H E).ex := fun b z => absurd (show b ∈ ([] : List Addr) from z) (by simp)
  refine ⟨⟨e0.mod, S.kind, rfl, rfl, Nat.le_refl _, fun y z c h1 h2 => ?_, fun y hy => ?_, fun y c _ h => ?_, fun _ => hd, Around.frames_deeper e0.frames, .inr ⟨rfl, rfl⟩, fun b z => absurd z (noA b), e0.bs, e0.bsz, fun b _ _ => noA b, fun b z => absurd z (noA b), e0.funs, e0.frf⟩,
    rfl, e0.bare, Un.kept hk, ⟨_, x.toInCall.ns, fun i y v h1 h2 h3 => ?_⟩, fun y c h => ⟨_, x.cell y c h⟩, e0.hok.fresh (Nat.le_refl _), fun y c h => ?_, fun p hp => absurd (show p ∈ ([] : List (Addr × Obj)) from hp) (by simp), e0.hok.kept hk, ?_⟩
  · exact name_of_addr x.apart (PySem.mem_of_lookup h1) (PySem.mem_of_lookup h2)
  · have hy : scope.names.lookup y = some .cell ∨ scope.names.lookup y = some .free := hy
    rcases hy with hy | hy
    · exact cell_has hy
    · exact absurd rfl (S.nofree _ (PySem.mem_of_lookup hy))
  · exact Nat.le_of_lt (x.above y c (PySem.mem_of_lookup h))
  · have hi : i < vs.length := by
      unfold start at h2
      by_cases hi : i < vs.length
      · exact hi
      · rw [List.getElem?_append_right (by simpa using hi)] at h2
        rw [List.getElem?_replicate] at h2
        split at h2 <;> cases h2
    have ha : vs[i]? = some v := by
      unfold start at h2
      rw [List.getElem?_append_left (by simpa using hi), List.getElem?_map] at h2
      cases e : vs[i]? with
      | none => rw [e] at h2; cases h2
      | some a => rw [e] at h2; cases h2; rfl
    obtain ⟨u, hu, rv⟩ := r.get ha
    have hp : ps[i]? = some y := by
      rw [← S.pre, List.getElem?_take_of_lt (by omega)]; exact h1
    have ndP : ps.Nodup := by rw [← S.pre]; exact S.nd.sublist (List.take_sublist _ _)
    refine ⟨u, rv, ?_⟩
    rcases S.par y (List.mem_of_getElem? hp) with k | k
    · exact .inl ⟨k, bindL_get ndP hp hu k⟩
    · obtain ⟨c, e⟩ := cell_has (n := s.heap.objs.size + 1) k
      refine .inr ⟨.inl k, c, e, ?_⟩
      have q := x.cell y c e
      rw [bindC_get ndP hp hu (by show scope.names.lookup y ≠ _; rw [k]; decide)] at q
      exact q
  · exact e0.hok.fresh (Nat.le_of_lt (x.above y c (PySem.mem_of_lookup h)))
  · unfold start
    show _ = N.length
    rw [List.length_append, List.length_map, List.length_replicate]
    omega
/-- THE RULE: a def (or a method) of the text, by its body. The body's reading t is chosen for each entry; it is run at the parameters' values -/
theorem fn_of {CX : CXT} {P : Program} {w : World} {K : PySem.W.Frag} {mg : Str → Option Value} {base : Heap} {k : Nat} {f : Addr} {name qual : Str} {params : Arguments} {body : List Stmt} {scope : Scope} {dV kV doc pm cdv ct oc : Value} {an od : Option Addr}
    {osl : Array (Option Value)} {N ps : List Str} {sp : Sp} (lk : K.lookup f = some ⟨oc, od, .func (PySem.W.fnOf name qual params body scope dV kV doc pm an cdv ct), osl⟩) (hcd : PySem.W.codeIn K cdv qual = true) (S : FnScope N ps scope)
    (len : ∀ vs H Q E, sp vs H Q E → vs.length = ps.length)
    (hbody : ∀ (A : Around) (outer : List Env) (s : Shared) (H : Hp) (vs : List V) (Q : VK) (E : XK), Room k (A.deeper (envOfC qual scope s.heap.objs.size f cdv)) → sp vs H Q E →
      ∃ t, PSs (cxOf CX P w K mg base N qual scope f cdv A outer s H E) body t ∧ t { nx := fun _ H' => Q .non H', rt := Q } (start N vs) H) :
    FnOk P w K mg base CX (k + 1) f (PySem.W.fnOf name qual params body scope dV kV doc pm an cdv ct) ps sp := by
  refine ⟨len, fun A outer s H args us vs Q E hr e0 hb r hsp => ?_⟩
  have hl := len _ _ _ _ hsp
  have KX : K.In s.heap := e0.mod.kin.keeps fun b o e => (e0.bs b o e).1
  have lim : s.heap.NoLimit := e0.mod.nolimit.keeps fun b o e => (e0.bs b o e).1
  have hkind : ∀ y ∈ ps.zip us, scope.names.lookup y.1 = some .local ∨ (scope.names.lookup y.1 = some .cell ∧ ((cellsFrom (s.heap.objs.size + 1) scope.names []).lookup y.1).isSome = true) := fun ⟨n, v⟩ hy => by
    rcases S.par n (List.of_mem_zip hy).1 with q | q
    · exact .inl q
    · exact .inr ⟨q, PySem.W.cellsFrom_some _ _ _ (.inl q)⟩
  refine codeAny_call_function hr.depth (KX _ _ lk) rfl S.co S.gen rfl (PySem.W.codeRec_of KX hcd) (hb _ _ _ _ ?_)
  refine wpAny_newFunctionEnv_cells S.kind hkind fun env he s1 x => ?_
  subst he
  refine ⟨lim.keeps x.toInCall.keep, codeAny_func ?_⟩
  obtain ⟨t, ht, hq⟩ := hbody A outer s H vs Q E (hr.deeper _) hsp
  have I : Inv (cxOf CX P w K mg base N qual scope f cdv A outer s H E) [] (start N vs) H s1 := inv_start S hr.hd e0 hl r x
  refine wpAny_mono (ht [] s1 (start N vs) H _ I hq) (fun fl s' hs => ?_) fun e s' hs => hs
  have fin : ∀ {σ' : St} {H' : Hp} {v : V} {u : Value}, Inv (cxOf CX P w K mg base N qual scope f cdv A outer s H E) [] σ' H' s' → RelV v u → Q v H' → CE outer P w H s Q u s' :=
    fun {σ' H' v u} J rv q => ⟨v, H', J.os, J.bare, J.base, J.hok, rv, q⟩
  cases fl with
  | ret u =>
    obtain ⟨v, σ', H', J, rv, q⟩ := hs
    exact fin J rv q
  | next =>
    obtain ⟨σ', H', J, q⟩ := hs
    exact fin (v := V.non) (u := Value.none) J rfl q
  | brk =>
    obtain ⟨_, _, _, q⟩ := hs
    exact False.elim q
  | cont =>
    obtain ⟨_, _, _, q⟩ := hs
    exact False.elim q
end L2
namespace L2
open PySem PySem.Spec PyProof.Rows
section
variable {X : Cx} {x : Str} {p pos : Pos} {e : Expr} {es : List Expr} {t : TA} {id T : String} {r : List V → Hp → VK → Prop}
def tCB (r : List V → Hp → VK → Prop) (t : TA) : TE := fun σ H Q => t σ H fun vs H1 => r vs H1 Q
/-- f(e, ..), f a built-in function -/
theorem pe_callB (hc : CallR X (.builtin id) r) (hg : Gl X x) (hm : X.mg x = none) (hv : bootBuiltins x = some (.builtin id)) (ha : PA X (e :: es) t) (hn : x ≠ "__name__" := by decide) (hdb : (x == ("__debug__" : Str)) = false := by decide)
    (he : starEach (e :: es) X.env = (false, eval e X.env) :: starEach es X.env := by rfl) (hpl : (backTo pos (starEach es X.env)).any (·.1) = false := by rfl) : PE X (.Call (.Name x p) (e :: es) [] pos) (tCB r t) := by
  intro pins s σ H Q I h
  refine wpAny_Call_Name_kw (ld_blt I hg hm hv ?_ hn hdb)
  exact PyProof.Rows.callWith_builtin1 (thn (ha pos pins s σ H _ I h) fun us s1 ⟨vs, H1, I1, r1, q1⟩ => hc pins s1 σ H1 vs us Q I1 r1 q1) he hpl
end
end L2
namespace HT
open PySem PyProof.Rows
section
open PySem.SeqAt
open PySem.AutoSeq1 (wpAny_loadPart')
open PySem.MeetsSeq PySem.MeetsSeq2 PySem.MeetsSeq3
end
section
variable {prog : Program} {w : World} {A : Around} {E : Value → Shared → Prop} {s : Shared}
/-! ### t[a:b], not the whole -/
/-- a slice's bound as a place among n (d where it is left out) -/
def sIx (n d : Nat) : Option Int → Nat
  | none => d
  | some v => if v < 0 then (v + (n : Int)).toNat else min v.toNat n
theorem sIx_nat (n d k : Nat) : sIx n d (some (k : Int)) = min k n := by
  show (if (k : Int) < 0 then ((k : Int) + (n : Int)).toNat else min (k : Int).toNat n) = min k n
  rw [if_neg (by omega), Int.toNat_natCast]
theorem sIx_le (n d : Nat) (hd : d ≤ n) (o : Option Int) : sIx n d o ≤ n := by
  cases o with
  | none => exact hd
  | some v =>
    show (if v < 0 then (v + (n : Int)).toNat else min v.toNat n) ≤ n
    by_cases hv : v < 0
    · rw [if_pos hv]; omega
    · rw [if_neg hv]; exact Nat.min_le_right _ _
theorem clip_eq (v : Int) (n d : Nat) : (if v < 0 then max (v + (n : Int)) 0 else min v (n : Int)) = ((sIx n d (some v) : Nat) : Int) := by
  show (if v < 0 then max (v + (n : Int)) 0 else min v (n : Int)) = (((if v < 0 then (v + (n : Int)).toNat else min v.toNat n) : Nat) : Int)
  by_cases hv : v < 0
  · simp only [if_pos hv]; omega
  · simp only [if_neg hv]; omega
theorem adjust_gen (lo hi : Option Int) (n : Nat) : Builtin.Slice.sliceAdjust lo hi 1 (n : Int) = (((sIx n 0 lo : Nat) : Int), ((sIx n n hi : Nat) : Int)) := by
  have h1 : ¬ ((1 : Int) < 0) := by omega
  unfold Builtin.Slice.sliceAdjust
  simp only [h1, if_false]
  refine Prod.ext ?_ ?_
  · cases lo with
    | none => rfl
    | some v => exact clip_eq v n 0
  · cases hi with
    | none => rfl
    | some v => exact clip_eq v n n
theorem places_gen (i j : Nat) : Builtin.Slice.slicePlaces (i : Int) (j : Int) 1 = j - i := by
  unfold Builtin.Slice.slicePlaces
  have h1 : (1 : Int) > 0 := by omega
  simp only [h1, if_true, Int.ediv_one]
  split <;> omega
theorem slicePart_ {v : Value} {o : Option Int} {Q : Option Int → Shared → Prop} (p : IsPart v o) (h : Q o s) : wpAny (model prog w) A (Builtin.Slice.slicePartIndex v) Q E s := by
  cases p with
  | none => exact slicePart_none h
  | int i t => exact slicePart_int h
theorem sliceApplied_gen {sl : Addr} {vl vu : Value} {lo hi : Option Int} {n : Nat} {Q : Int × Int × Nat → Shared → Prop} (hs : s.heap.IsSliceOf sl vl vu .none) (pl : IsPart vl lo) (pu : IsPart vu hi)
    (h : Q (((sIx n 0 lo : Nat) : Int), 1, sIx n n hi - sIx n 0 lo) s) : wpAny (model prog w) A (Builtin.Slice.sliceApplied (.ref sl) (pure (n : Int))) Q E s := by
  obtain ⟨os, hos, hcs, hds⟩ := id hs
  unfold Builtin.Slice.sliceApplied Builtin.Slice.sliceFields
  refine wpAny_bind (wpAny_bind (wpAny_field hos hds (x := vl) rfl (wpAny_bind (wpAny_field hos hds (x := vu) rfl (wpAny_bind (wpAny_field hos hds (x := .none) rfl (wpAny_pure ?_)))))))
  refine wpAny_bind (slicePart_none ?_)
  show wpAny _ _ (if ((1 : Int) == 0) = true then _ else _) _ _ s
  rw [if_neg (by decide)]
  refine wpAny_bind (slicePart_ pl (wpAny_bind (slicePart_ pu (wpAny_bind (wpAny_pure ?_)))))
  show wpAny _ _ (match Builtin.Slice.sliceAdjust lo hi 1 (n : Int) with | (lo, hi) => pure (lo, (1 : Int), Builtin.Slice.slicePlaces lo hi 1)) _ _ s
  rw [adjust_gen lo hi n]
  show wpAny _ _ (pure (((sIx n 0 lo : Nat) : Int), (1 : Int), Builtin.Slice.slicePlaces ((sIx n 0 lo : Nat) : Int) ((sIx n n hi : Nat) : Int) 1)) _ _ s
  rw [places_gen]
  exact wpAny_pure h
theorem pick_gen (xs : Array Value) (i k : Nat) : ((List.range k).filterMap fun (m : Nat) => xs[((i : Int) + (m : Int) * 1).toNat]?).toArray = ((xs.toList.drop i).take k).toArray := by
  have e : (fun (m : Nat) => xs[((i : Int) + (m : Int) * 1).toNat]?) = fun m => xs[i + m]? := by
    funext m
    have : ((i : Int) + (m : Int) * 1).toNat = i + m := by omega
    rw [this]
  rw [e]
  have := pick_run xs i k
  rw [List.filterMap_map] at this
  have e2 : ((fun x => xs[x]?) ∘ fun x => i + x) = fun m => xs[i + m]? := rfl
  rw [e2] at this
  rw [this]
theorem getItem_tuple_cut {t sl : Addr} {items : Array Value} {vl vu : Value} {lo hi : Option Int} {Q : Value → Shared → Prop} (ht : IsTup s.heap t items) (hs : s.heap.IsSliceOf sl vl vu .none) (pl : IsPart vl lo) (pu : IsPart vu hi)
    (hw : ¬ (sIx items.size 0 lo = 0 ∧ sIx items.size items.size hi = items.size))
    (h : Q (.ref s.heap.objs.size) { s with heap := s.heap.push { cls := .type "tuple", data := .seq ((items.toList.drop (sIx items.size 0 lo)).take (sIx items.size items.size hi - sIx items.size 0 lo)).toArray } })
    (hsz : items.size ≤ sizeLine) : wpAny (model prog w) A (getItem (.ref t) (.ref sl)) Q E s := by
  have htake : sizeOk (.seq ((items.toList.drop (sIx items.size 0 lo)).take (sIx items.size items.size hi - sIx items.size 0 lo)).toArray) := by
    show ((items.toList.drop (sIx items.size 0 lo)).take (sIx items.size items.size hi - sIx items.size 0 lo)).toArray.size ≤ sizeLine
    rw [List.size_toArray, List.length_take, List.length_drop, Array.length_toList]
    omega
  have hj : sIx items.size items.size hi ≤ items.size := sIx_le _ _ (Nat.le_refl _) hi
  obtain ⟨os, hos, hcs, hds⟩ := id hs
  have hTs : s.TypeIs (.ref sl) "slice" := ⟨os, hos, hcs⟩
  unfold getItem
  try with_reducible refine wpAny_holding ?_
  first | refine wpAny_bind (wpAny_pure ?_) | skip
  refine wpAny_bind (wpAny_sequenceKey ht.typeIs (by decide) ?_)
  refine wpAny_bind (wpAny_callSpecial?_slot (name := Str.ofString "__getitem__") ht.typeIs PyProof.Rows.slot_tuple_getitem
    (wpAny_call_entry PyProof.Rows.slot_tuple_getitem ht.typeIs entry_tuple_getitem ?_ (args_tuple_getitem _ _)))
  show wpAny _ _ (Builtin.Tuple.tupleItemsOf (.ref t) >>= _) _ _ s
  refine wpAny_bind (tupleItemsOf_ ht ?_)
  refine wpAny_bind (wpAny_typeOf hTs ?_)
  rw [if_pos (by decide)]
  refine wpAny_bind (sliceApplied_gen hs pl pu ?_)
  have hno : ¬ ((((sIx items.size 0 lo : Nat) : Int) == 0 && (1 : Int) == 1 && (sIx items.size items.size hi - sIx items.size 0 lo) == items.size) = true) := by
    intro q
    rw [Bool.and_eq_true, Bool.and_eq_true] at q
    have q1 : ((sIx items.size 0 lo : Nat) : Int) = 0 := eq_of_beq q.1.1
    have q2 : sIx items.size items.size hi - sIx items.size 0 lo = items.size := eq_of_beq q.2
    exact hw ⟨by omega, by omega⟩
  show wpAny _ _ (if (((sIx items.size 0 lo : Nat) : Int) == 0 && (1 : Int) == 1 && (sIx items.size items.size hi - sIx items.size 0 lo) == items.size) = true then _ else _) _ _ s
  rw [if_neg hno, pick_gen]
  first
    | exact wpAny_bind (m := Builtin.Tuple.tupleExact _) (wpAny_newObj_type (wpAny_pure ⟨_, rfl, wpAny_pure h⟩) htake)
    | exact wpAny_bind (m := Builtin.Tuple.tupleExact _) (wpAny_newObj_type (wpAny_bind (wpAny_pure (wpAny_pure ⟨_, rfl, wpAny_pure h⟩))) htake)
    | exact wpAny_bind (wpAny_bind (m := Builtin.Tuple.tupleExact _) (wpAny_newObj_type (wpAny_pure (wpAny_pure ⟨_, rfl, wpAny_pure h⟩)) htake))
    | exact wpAny_bind (wpAny_bind (m := Builtin.Tuple.tupleExact _) (wpAny_newObj_type (wpAny_pure ⟨_, rfl, wpAny_pure h⟩) htake))
end
end HT
namespace L2
open PySem PySem.Spec PyProof.Rows
/-! ### the parts of a slice -/
abbrev TO := St → Hp → (Option Int → Hp → Prop) → Prop
/-- a slice's part (left out, or an int) -/
def PO (X : Cx) (e : Option Expr) (t : TO) : Prop :=
  ∀ (pins : List (Addr × Obj)) (s : Shared) (σ : St) (H : Hp) (Q : Option Int → Hp → Prop), Inv X pins σ H s → t σ H Q →
    wpAny (model X.prog X.w) X.A (evalPart e X.env) (fun u s' => ∃ o H', Inv X pins σ H' s' ∧ IsPart u o ∧ Q o H') X.xe s
def tNoPart : TO := fun _ H Q => Q none H
def tPart (t : TE) : TO := fun σ H Q => t σ H fun x H1 => ∃ i, x = .int i ∧ Q (some i) H1
section
variable {X : Cx} {e : Expr} {te : TE} {lo hi : Option Expr} {tl th : TO} {pos p2 : Pos}
theorem po_none : PO X none tNoPart := by
  intro pins s σ H Q I h
  rw [evalPart_none]
  exact wpAny_pure ⟨none, H, I, .none, h⟩
theorem po_some (h : PE X e te) : PO X (some e) (tPart te) := by
  intro pins s σ H Q I hw
  rw [evalPart_some]
  refine thn (h pins s σ H _ I hw) fun u s1 ⟨x, H1, I1, r1, q1⟩ => ?_
  obtain ⟨i, rfl, q⟩ := q1
  obtain ⟨t, rfl⟩ := r1
  exact ⟨some i, H1, I1, .int i t, q⟩
/-- what a slice of a value is, by values: the slice object stands at sl -/
def SlR (X : Cx) (r : V → Option Int → Option Int → Hp → VK → Prop) : Prop :=
  ∀ (pins : List (Addr × Obj)) (s : Shared) (σ : St) (H : Hp) (x : V) (v vl vu : Value) (lo hi : Option Int) (sl : Addr) (Q : VK), Inv X pins σ H s → RelV x v → s.heap.IsSliceOf sl vl vu .none → IsPart vl lo → IsPart vu hi → r x lo hi H Q →
    ∃ T id, typeLookup (.type T) "__getitem__" = pure (some (.builtin id)) ∧ s.TypeIs v T ∧ wpAny (model X.prog X.w) X.A (getItem v (.ref sl)) (EP X pins σ Q) X.xe s
theorem SlR.or {r r' : V → Option Int → Option Int → Hp → VK → Prop} (h : SlR X r) (h' : SlR X r') : SlR X (fun x lo hi H Q => r x lo hi H Q ∨ r' x lo hi H Q) := by
  intro pins s σ H x v vl vu lo hi sl Q I rx hs pl pu q
  rcases q with q | q
  · exact h pins s σ H x v vl vu lo hi sl Q I rx hs pl pu q
  · exact h' pins s σ H x v vl vu lo hi sl Q I rx hs pl pu q
def tSl (r : V → Option Int → Option Int → Hp → VK → Prop) (te : TE) (tl th : TO) : TE := fun σ H Q => te σ H fun x H1 => tl σ H1 fun l H2 => th σ H2 fun u H3 => r x l u H3 Q
/-- a[lo:hi], any a -/
theorem pe_slice {r : V → Option Int → Option Int → Hp → VK → Prop} (hr : SlR X r) (he : PE X e te) (hl : PO X lo tl) (hu : PO X hi th) : PE X (.Subscript e (.Slice lo hi none p2) pos) (tSl r te tl th) := by
  intro pins s σ H Q I h
  refine Subscript_ (thn (he pins s σ H _ I h) fun v s1 ⟨x, H1, I1, r1, q1⟩ => ?_)
  refine wpAny_Slice (thn (hl pins s1 σ H1 _ I1 q1) fun vl s2 ⟨l, H2, I2, pl, q2⟩ => thn (hu pins s2 σ H2 _ I2 q2) fun vu s3 ⟨u, H3, I3, pu, q3⟩ => ?_)
  rw [evalPart_none]
  refine wpAny_pure ?_
  have I4 : Inv X pins σ H3 { s3 with heap := s3.heap.push { cls := .type "slice", data := .fields #[vl, vu, .none] } } := I3.kept (t' := s3.toks) fun b ob q => Heap.get?_push_of_some _ q
  obtain ⟨T, id, hT, ht, hg⟩ := hr pins { s3 with heap := s3.heap.push { cls := .type "slice", data := .fields #[vl, vu, .none] } } σ H3 x v vl vu l u s3.heap.objs.size Q I4 r1 (Heap.IsSliceOf.new ..) pl pu q3
  show wpAny (model X.prog X.w) X.A (subscriptTail e (.Slice lo hi none p2) v (.ref s3.heap.objs.size)) (EP X pins σ Q) X.xe { s3 with heap := s3.heap.push { cls := .type "slice", data := .fields #[vl, vu, .none] } }
  exact tail_any (ops := [.ref s3.heap.objs.size, v]) ht hT hg (by with_unfolding_all rfl)
/-- the items of xs[lo:hi] -/
def cutV (xs : List V) (lo hi : Option Int) : List V := (xs.drop (HT.sIx xs.length 0 lo)).take (HT.sIx xs.length xs.length hi - HT.sIx xs.length 0 lo)
theorem cutV_length (xs : List V) (lo hi : Option Int) : (cutV xs lo hi).length ≤ xs.length := by
  unfold cutV
  rw [List.length_take, List.length_drop]
  omega
/-- t[lo:hi], not the whole of it (the whole would be t itself) -/
def rSlT (K : PySem.W.Frag) : V → Option Int → Option Int → Hp → VK → Prop := fun x lo hi H Q => ∃ a xs, x = .ref a ∧ SqT K H a xs ∧
  ¬ (HT.sIx xs.length 0 lo = 0 ∧ HT.sIx xs.length xs.length hi = xs.length) ∧ ∀ p, H p = none → Q (.ref p) (upd H p (.tup (cutV xs lo hi)))
theorem sl_tup : SlR X (rSlT X.K) := by
  intro pins s σ H x v vl vu lo hi sl Q I rx hs pl pu h
  obtain ⟨a, xs, rfl, hx, hw, q⟩ := h
  cases rx
  obtain ⟨its, r, ht, hz⟩ := I.tuple hx
  have hlen : its.toArray.size = xs.length := by rw [List.size_toArray]; exact r.length.symm
  refine ⟨"tuple", _, PyProof.Rows.slot_tuple_getitem.lookup, ht.typeIs, ?_⟩
  refine HT.getItem_tuple_cut ht hs pl pu (by rw [hlen]; exact hw) ?_ (by rw [hlen]; exact hz)
  rw [hlen]
  refine ⟨.ref s.heap.objs.size, _, I.laid (t' := s.toks) (o := .tup (cutV xs lo hi)) (fun b ob q => Heap.get?_push_of_some _ q) (Nat.le_refl _) ?_, rfl, q _ (I.hok.fresh (Nat.le_refl _))⟩
  exact ⟨Nat.le_trans (cutV_length xs lo hi) hz, _, (r.drop (HT.sIx xs.length 0 lo)).take (HT.sIx xs.length xs.length hi - HT.sIx xs.length 0 lo), IsTup.new _ _⟩
/-! ### t < u, t + u -/
end
end L2
namespace L2
open PySem PySem.Spec PyProof.Rows
/-! ### places -/
/-- the place that an index of any sign means -/
def ixN (n : Nat) (i : Int) : Option Nat := if 0 ≤ i then (if i < n then some i.toNat else none) else if -(n : Int) ≤ i then some (i + n).toNat else none
def atI {α : Type} (xs : List α) (i : Int) : Option α := (ixN xs.length i).bind fun j => xs[j]?
theorem ixN_seq {n : Nat} {i : Int} {j : Nat} (h : ixN n i = some j) : seqIndex? i n = some j ∧ j < n ∧ -(n : Int) ≤ i ∧ i < n := by
  unfold ixN at h
  by_cases h0 : 0 ≤ i
  · rw [if_pos h0] at h
    by_cases h1 : i < n
    · rw [if_pos h1] at h
      have e : i.toNat = j := Option.some.inj h
      exact ⟨by rw [seqIndex_of h0 h1, e], by omega, by omega, h1⟩
    · rw [if_neg h1] at h; cases h
  · rw [if_neg h0] at h
    by_cases h1 : -(n : Int) ≤ i
    · rw [if_pos h1] at h
      have e : (i + n).toNat = j := Option.some.inj h
      exact ⟨by rw [seqIndex_neg (by omega) h1, e], by omega, h1, by omega⟩
    · rw [if_neg h1] at h; cases h
theorem atI_get {α : Type} {xs : List α} {i : Int} {v : α} (h : atI xs i = some v) : ∃ j, seqIndex? i xs.length = some j ∧ xs[j]? = some v ∧ j < xs.length ∧ -(xs.length : Int) ≤ i ∧ i < xs.length := by
  unfold atI at h
  cases e : ixN xs.length i with
  | none => rw [e] at h; cases h
  | some j =>
    rw [e] at h
    obtain ⟨h1, h2, h3, h4⟩ := ixN_seq e
    exact ⟨j, h1, h, h2, h3, h4⟩
theorem atI_nat {α : Type} {xs : List α} {j : Nat} {v : α} (h : xs[j]? = some v) : atI xs (j : Int) = some v := by
  have hj : j < xs.length := (List.getElem?_eq_some_iff.mp h).1
  have e : ixN xs.length (j : Int) = some j := by
    unfold ixN
    rw [if_pos (by omega), if_pos (by omega)]; simp
  unfold atI; rw [e]; exact h
/-! ### what may be subscripted -/
/-- what stands as an index of a plain subscript -/
def PlainIx (b : Expr) : Prop := ∀ o i, subscripted b false o i = operate [o, i] (getItem o i)
/-- a subscript by values -/
def IxR (X : Cx) (r : R2) : Prop :=
  ∀ (value slice : Expr) (pins : List (Addr × Obj)) (s : Shared) (σ : St) (H : Hp) (x y : V) (v u : Value) (Q : VK), Inv X pins σ H s → RelV x v → RelV y u → r x y H Q →
    subscripted slice false v u = operate [v, u] (getItem v u) → wpAny (model X.prog X.w) X.A (subscriptTail value slice v u) (EP X pins σ Q) X.xe s
/-- a call of a builtin's method by values: the receiver, the arguments -/
def MtR (X : Cx) (id : String) (r : V → List V → Hp → VK → Prop) : Prop :=
  ∀ (pins : List (Addr × Obj)) (s : Shared) (σ : St) (H : Hp) (x : V) (xs : List V) (v : Value) (us : List Value) (Q : VK), Inv X pins σ H s → RelV x v → Vals xs us → r x xs H Q →
    wpAny (model X.prog X.w) X.A (call (.builtin id) (v :: us)) (EP X pins σ Q) X.xe s
section
variable {X : Cx} {a b : Expr} {ta tb : TE} {pos : Pos}
theorem IxR.or {r r' : R2} (h : IxR X r) (h' : IxR X r') : IxR X (fun x y H Q => r x y H Q ∨ r' x y H Q) := by
  intro value slice pins s σ H x y v u Q I rx ry q hs
  rcases q with q | q
  · exact h value slice pins s σ H x y v u Q I rx ry q hs
  · exact h' value slice pins s σ H x y v u Q I rx ry q hs
theorem MtR.or {id : String} {r r' : V → List V → Hp → VK → Prop} (h : MtR X id r) (h' : MtR X id r') : MtR X id (fun x xs H Q => r x xs H Q ∨ r' x xs H Q) := by
  intro pins s σ H x xs v us Q I rx rs q
  rcases q with q | q
  · exact h pins s σ H x xs v us Q I rx rs q
  · exact h' pins s σ H x xs v us Q I rx rs q
/-- a[b] -/
theorem pe_ix {r : R2} (hr : IxR X r) (ha : PE X a ta) (hb : PE X b tb) (hs : PlainIx b) : PE X (.Subscript a b pos) (tOp r ta tb) := by
  intro pins s σ H Q I h
  exact Subscript_ (binT ha hb I h fun v u s2 x y H2 I2 rx ry q => hr a b pins s2 σ H2 x y v u Q I2 rx ry q (hs _ _))
def rIxL (K : PySem.W.Frag) : R2 := fun x y H Q => ∃ p xs i v, x = .ref p ∧ y = .int i ∧ SqL K H p xs ∧ atI xs i = some v ∧ Q v H
def rIxT (K : PySem.W.Frag) : R2 := fun x y H Q => ∃ p xs i v, x = .ref p ∧ y = .int i ∧ SqT K H p xs ∧ atI xs i = some v ∧ Q v H
theorem ix_list : IxR X (rIxL X.K) := by
  intro value slice pins s σ H x y v u Q I rx ry h hs
  obtain ⟨p, xs, i, z, rfl, rfl, hq, he, q⟩ := h
  cases rx
  obtain ⟨t, rfl⟩ := ry
  obtain ⟨its, r, pl, hz⟩ := I.list hq
  obtain ⟨j, h1, h2, h3, h4, h5⟩ := atI_get he
  obtain ⟨w, ew, rw'⟩ := r.get h2
  have hl := r.length
  have hn := line63
  have fin : EP X pins σ Q w s := ⟨z, H, I, rw', q⟩
  by_cases h0 : 0 ≤ i
  · have hj : i.toNat = j := by
      rw [seqIndex_of h0 h5] at h1
      exact Option.some.inj h1
    exact item_listR pl.isList h0 (by omega) (by rw [hj]; simpa using ew) fin hs
  · have hj : (i + (its.toArray.size : Int)).toNat = j := by
      rw [seqIndex_neg (by omega) h4] at h1
      rw [List.size_toArray, ← hl]
      exact Option.some.inj h1
    exact subscriptTail_builtinR (x := w) pl.isList.typeIs slot_list_getitem.lookup
      (wpAny_getItem_list_neg (Q := fun r s' => r = w ∧ EP X pins σ Q r s') pl.isList (by omega) (by rw [List.size_toArray] <;> omega) (by omega) (by rw [hj]; simpa using ew) ⟨rfl, fin⟩) hs
theorem ix_tup : IxR X (rIxT X.K) := by
  intro value slice pins s σ H x y v u Q I rx ry h hs
  obtain ⟨p, xs, i, z, rfl, rfl, hq, he, q⟩ := h
  cases rx
  obtain ⟨t, rfl⟩ := ry
  obtain ⟨its, r, pl, hz⟩ := I.tuple hq
  obtain ⟨j, h1, h2, h3, h4, h5⟩ := atI_get he
  obtain ⟨w, ew, rw'⟩ := r.get h2
  have hl := r.length
  have hn := line63
  have fin : EP X pins σ Q w s := ⟨z, H, I, rw', q⟩
  exact subscriptTail_builtinR (x := w) pl.typeIs slot_tuple_getitem.lookup
    (getItem_tuple (j := j) (Q := fun r s' => r = w ∧ EP X pins σ Q r s') pl (by omega) (by omega) (by rw [List.size_toArray, ← hl]; exact h1) (by simpa using ew) ⟨rfl, fin⟩) hs
/-! ### xs[i] = v, any sign -/
/-- the list's object behind a store -/
theorem mapSeq_set (its : List Value) (n j : Nat) (u : Value) : Obj.mapSeq (·.setIfInBounds j u) { cls := .type "list", data := .seq its.toArray n } = { cls := .type "list", data := .seq (its.set j u).toArray n } := by
  simp [Obj.mapSeq]
theorem Inv.lst {pins : List (Addr × Obj)} {σ : St} {H : Hp} {s : Shared} {p : Addr} {xs : List V} (I : Inv X pins σ H s) (h : H p = some (.lst xs)) :
    ∃ (its : List Value) (n : Nat), Vals xs its ∧ s.heap.get? p = some { cls := .type "list", data := .seq its.toArray n } ∧ xs.length ≤ sizeLine := by
  obtain ⟨z, its, n, r, e⟩ := I.hok p _ h
  exact ⟨its, n, r, e, z⟩
/-- the list at p is written by an update of its object -/
theorem Inv.lstUpd {pins : List (Addr × Obj)} {σ : St} {H : Hp} {s : Shared} {p : Addr} {xs ys : List V} {its its' : List Value} {n n' : Nat} {f : Obj → Obj} (I : Inv X pins σ H s) (h : H p = some (.lst xs))
    (ho : s.heap.get? p = some { cls := .type "list", data := .seq its.toArray n }) (hf : f { cls := .type "list", data := .seq its.toArray n } = { cls := .type "list", data := .seq its'.toArray n' }) (r : Vals ys its') (hz : ys.length ≤ sizeLine) (t : Nat) :
    Inv X pins σ (upd H p (.lst ys)) { s with heap := s.heap.update p f, toks := t } := by
  have e : (s.heap.update p f).get? p = some { cls := .type "list", data := .seq its'.toArray n' } := by
    rw [Heap.get?_update_self f ho (by rw [hf] <;> rfl), hf]
  refine I.write (x := p) (e := p) (by rw [h]; trivial) (.inl rfl) (fun b u hb q => (Heap.get?_update_other _ _ (Ne.symm hb)).trans q) ⟨_, e⟩ ?_
  exact ⟨hz, its', n', r, e⟩
def rSetL : V → V → V → Hp → (Hp → Prop) → Prop := fun o i v H Q => ∃ p xs k j, o = .ref p ∧ i = .int k ∧ H p = some (.lst xs) ∧ ixN xs.length k = some j ∧ Q (upd H p (.lst (xs.set j v)))
theorem set_list : PSet X rSetL := by
  intro pins s σ H o i v ov iv u Q I ro ri rv h
  obtain ⟨p, xs, k, j, rfl, rfl, hp, hj, q⟩ := h
  cases ro
  obtain ⟨t, rfl⟩ := ri
  obtain ⟨its, n, r, ho, hz⟩ := I.lst hp
  obtain ⟨h1, h2, h3, h4⟩ := ixN_seq hj
  have hl := r.length
  have hn := line63
  have I' : Inv X pins σ (upd H p (.lst (xs.set j v))) { s with heap := s.heap.update p (Obj.mapSeq (·.setIfInBounds j u)) } :=
    I.lstUpd hp ho (mapSeq_set its n j u) (r.set rv j) (by rw [List.length_set]; exact hz) s.toks
  by_cases h0 : 0 ≤ k
  · have hk : k.toNat = j := by
      rw [seqIndex_of h0 h4] at h1
      exact Option.some.inj h1
    exact PySem.W.ki_setAt ho h0 (by omega) (by rw [List.size_toArray, ← hl]; exact h4) (by rw [hk]; exact ⟨_, I', q⟩)
  · have hk : (k + (its.toArray.size : Int)).toNat = j := by
      rw [seqIndex_neg (by omega) h3] at h1
      rw [List.size_toArray, ← hl]
      exact Option.some.inj h1
    exact PySem.W.ki_setBack ho (by omega) (by rw [List.size_toArray, ← hl]; exact h3) (by omega) (by rw [hk]; exact ⟨_, I', q⟩)
/-! ### slices -/
theorem slice_bounds (lo hi : Option Int) (n : Nat) : (sliceBounds lo hi none n).1 = ((HT.sIx n 0 lo : Nat) : Int) ∧ (sliceBounds lo hi none n).2.1 = ((HT.sIx n n hi : Nat) : Int) ∧ (sliceBounds lo hi none n).2.2 = 1 := by
  refine ⟨?_, ?_, rfl⟩
  · cases lo with
    | none => simp [sliceBounds, HT.sIx]
    | some i =>
      simp only [sliceBounds, HT.sIx, Option.getD_none, show (1 : Int) > 0 by decide, if_true]
      by_cases h : i < 0
      · simp only [h, if_true] <;> omega
      · simp only [h, if_false] <;> omega
  · cases hi with
    | none => simp [sliceBounds, HT.sIx]
    | some i =>
      simp only [sliceBounds, HT.sIx, Option.getD_none, show (1 : Int) > 0 by decide, if_true]
      by_cases h : i < 0
      · simp only [h, if_true] <;> omega
      · simp only [h, if_false] <;> omega
theorem slicePick_cut (its : List Value) (lo hi : Option Int) : slicePick its.toArray lo hi none = ((its.drop (HT.sIx its.length 0 lo)).take (HT.sIx its.length its.length hi - HT.sIx its.length 0 lo)).toArray := by
  obtain ⟨h1, h2, h3⟩ := slice_bounds lo hi its.toArray.size
  unfold slicePick
  rw [h1, h2, h3]
  simp only [sliceRange_one, pick_run, List.size_toArray] <;> rfl
/-- xs[lo:hi] of a list: a new list -/
def rSlL (K : PySem.W.Frag) : V → Option Int → Option Int → Hp → VK → Prop := fun x lo hi H Q => ∃ a xs, x = .ref a ∧ SqL K H a xs ∧ ∀ p, H p = none → Q (.ref p) (upd H p (.lst (cutV xs lo hi)))
theorem sl_list : SlR X (rSlL X.K) := by
  intro pins s σ H x v vl vu lo hi sl Q I rx hs pl pu h
  obtain ⟨a, xs, rfl, hx, q⟩ := h
  cases rx
  obtain ⟨its, r, ht, hz⟩ := I.list hx
  have hlen := r.length
  refine ⟨"list", _, slot_list_getitem.lookup, ht.isList.typeIs, ?_⟩
  refine wpAny_getItem_list_slice ht.isList hs pl pu .none (by simp) ?_ (by rw [List.size_toArray] <;> omega)
  rw [slicePick_cut, ← hlen]
  refine ⟨.ref s.heap.objs.size, _, I.laid (t' := s.toks) (o := .lst (cutV xs lo hi)) (fun b ob q => Heap.get?_push_of_some _ q) (Nat.le_refl _) ?_, rfl, q _ (I.hok.fresh (Nat.le_refl _))⟩
  exact ⟨Nat.le_trans (cutV_length xs lo hi) hz, _, 0, (r.drop (HT.sIx xs.length 0 lo)).take (HT.sIx xs.length xs.length hi - HT.sIx xs.length 0 lo), Heap.get?_push_size _ rfl⟩
/-! ### in, not in: flat items -/
def flatV : V → Bool
  | .non => true
  | .bl _ => true
  | .int _ => true
  | .str _ => true
  | _ => false
/-- == of flat values -/
def eqV : V → V → Bool
  | .non, .non => true
  | .bl a, .bl b => a == b
  | .bl a, .int b => (if a then 1 else 0) == b
  | .int a, .bl b => a == (if b then 1 else 0)
  | .int a, .int b => a == b
  | .str a, .str b => a == b
  | _, _ => false
theorem eqAt_V {A : Around} {s : Shared} {y x : V} {u v : Value} (ry : RelV y u) (rx : RelV x v) (fy : flatV y = true) (fx : flatV x = true) : SeqAt.EqAt A s u v (eqV y x) := by
  cases y with
  | non =>
    cases ry
    cases x with
    | non => cases rx; exact SeqAt.EqAt.same _
    | bl b => cases rx; exact SeqAt.EqAt.none_bool b
    | int b => obtain ⟨t, rfl⟩ := rx; exact SeqAt.EqAt.none_int b t
    | str b => obtain ⟨t, rfl⟩ := rx; exact SeqAt.EqAt.none_str b t
    | _ => exact absurd (show false = true from fx) Bool.false_ne_true
  | bl a =>
    cases ry
    cases x with
    | non => cases rx; exact SeqAt.EqAt.bool_none a
    | bl b => cases rx; exact SeqAt.EqAt.bool_bool a b
    | int b => obtain ⟨t, rfl⟩ := rx; exact SeqAt.EqAt.bool_int a b t
    | str b => obtain ⟨t, rfl⟩ := rx; exact SeqAt.EqAt.bool_str a b t
    | _ => exact absurd (show false = true from fx) Bool.false_ne_true
  | int a =>
    obtain ⟨t', rfl⟩ := ry
    cases x with
    | non => cases rx; exact SeqAt.EqAt.int_none a t'
    | bl b => cases rx; exact SeqAt.EqAt.int_bool a t' b
    | int b => obtain ⟨t, rfl⟩ := rx; exact SeqAt.EqAt.int_int a t' b t
    | str b => obtain ⟨t, rfl⟩ := rx; exact SeqAt.EqAt.int_str a t' b t
    | _ => exact absurd (show false = true from fx) Bool.false_ne_true
  | str a =>
    obtain ⟨t', rfl⟩ := ry
    cases x with
    | non => cases rx; exact SeqAt.EqAt.str_none a t'
    | bl b => cases rx; exact SeqAt.EqAt.str_bool a t' b
    | int b => obtain ⟨t, rfl⟩ := rx; exact SeqAt.EqAt.str_int a t' b t
    | str b => obtain ⟨t, rfl⟩ := rx; exact SeqAt.EqAt.str_str a t' b t
    | _ => exact absurd (show false = true from fx) Bool.false_ne_true
  | _ => exact absurd (show false = true from fy) Bool.false_ne_true
/-- the items' answers, read off the values (a value's own answer does not lean on its token) -/
def eqU (x : V) (u : Value) : Bool := match u with
  | .none => eqV .non x
  | .bool b => eqV (.bl b) x
  | .int i _ => eqV (.int i) x
  | .str z _ => eqV (.str z) x
  | _ => false
theorem eqU_of {x y : V} {u : Value} (r : RelV y u) (f : flatV y = true) : eqU x u = eqV y x := by
  cases y with
  | non => cases r; rfl
  | bl b => cases r; rfl
  | int i => obtain ⟨t, rfl⟩ := r; rfl
  | str z => obtain ⟨t, rfl⟩ := r; rfl
  | _ => exact absurd (show false = true from f) Bool.false_ne_true
theorem any_eqU {x : V} : ∀ {xs : List V} {us : List Value}, Vals xs us → xs.all flatV = true → us.any (eqU x) = xs.any fun y => eqV y x
  | _, _, .nil, _ => rfl
  | y :: xs, u :: us, .cons r t, f => by
    rw [List.all_cons, Bool.and_eq_true] at f
    rw [List.any_cons, List.any_cons, eqU_of r f.1, any_eqU t f.2]
theorem mem_eqAt {A : Around} {s : Shared} {x : V} {v : Value} (rx : RelV x v) (fx : flatV x = true) : ∀ {xs : List V} {us : List Value}, Vals xs us → xs.all flatV = true → ∀ u ∈ us, SeqAt.EqAt A s u v (eqU x u)
  | _, _, .nil, _ => fun u hu => by cases hu
  | y :: xs, u :: us, .cons r t, f => fun u' hu => by
    rw [List.all_cons, Bool.and_eq_true] at f
    rcases List.mem_cons.mp hu with rfl | hu
    · rw [eqU_of r f.1]; exact eqAt_V r rx f.1 fx
    · exact mem_eqAt rx fx t f.2 u' hu
def inV (x : V) (xs : List V) : Bool := xs.any fun y => eqV y x
/-- x in a list or tuple of flat items -/
def rIn (K : PySem.W.Frag) (neg : Bool) : R2 := fun x y H Q => ∃ p xs, y = .ref p ∧ (SqL K H p xs ∨ SqT K H p xs) ∧ flatV x = true ∧ xs.all flatV = true ∧ Q (.bl (if neg then !inV x xs else inV x xs)) H
theorem op_in_seq : OpR X (compareOp .In) (rIn X.K false) := by
  intro pins s σ H x y v u Q I rx ry h
  obtain ⟨p, xs, rfl, hq, fx, fs, q⟩ := h
  cases ry
  rcases hq with hq | hq
  · obtain ⟨its, r, pl, hz⟩ := I.list hq
    refine SeqAt.in_listAt (eqU x) pl.isList (fun w hw => mem_eqAt rx fx r fs w (by simpa using hw)) ⟨.bl _, H, I, rfl, ?_⟩
    rw [show its.toArray.any (eqU x) = its.any (eqU x) by simp, any_eqU r fs]
    exact q
  · obtain ⟨its, r, pl, hz⟩ := I.tuple hq
    refine SeqAt.in_tupleAt (eqU x) pl (fun w hw => mem_eqAt rx fx r fs w (by simpa using hw)) ⟨.bl _, H, I, rfl, ?_⟩
    rw [show its.toArray.any (eqU x) = its.any (eqU x) by simp, any_eqU r fs]
    exact q
/-! ### len, list(x), tuple(x) of any list or tuple that is read -/
theorem call_len_seq : CallR X (.builtin "len") (fun xs H Q => ∃ p ys, xs = [.ref p] ∧ (SqL X.K H p ys ∨ SqT X.K H p ys) ∧ Q (.int ys.length) H) := by
  intro pins s σ H xs us Q I r h
  obtain ⟨p, ys, rfl, hq, q⟩ := h
  obtain ⟨u, rfl, rx⟩ := vals1 r
  cases rx
  have hn := line63
  rcases hq with hq | hq
  · obtain ⟨its, r', pl, hz⟩ := I.list hq
    have hlen := r'.length
    exact Calls.call_len_list pl.isList (by simp only [List.size_toArray] <;> omega) ⟨.int ys.length, H, I.tok _, ⟨s.toks + 1, by rw [List.size_toArray, hlen]⟩, q⟩
  · obtain ⟨its, r', pl, hz⟩ := I.tuple hq
    have hlen := r'.length
    exact len_tuple pl (by simp only [List.size_toArray] <;> omega) ⟨.int ys.length, H, I.tok _, ⟨s.toks + 1, by rw [List.size_toArray, hlen]⟩, q⟩
theorem call_len_str : CallR X (.builtin "len") (fun xs H Q => ∃ z, xs = [.str z] ∧ z.length ≤ sizeLine ∧ Q (.int z.length) H) := by
  intro pins s σ H xs us Q I r h
  obtain ⟨z, rfl, hz, q⟩ := h
  obtain ⟨u, rfl, t, rfl⟩ := vals1 r
  have hn := line63
  exact len_str (by omega) ⟨.int z.length, H, I.tok _, ⟨_, rfl⟩, q⟩
theorem CallR.or {f : Value} {r r' : List V → Hp → VK → Prop} (h : CallR X f r) (h' : CallR X f r') : CallR X f (fun xs H Q => r xs H Q ∨ r' xs H Q) := by
  intro pins s σ H xs us Q I rs q
  rcases q with q | q
  · exact h pins s σ H xs us Q I rs q
  · exact h' pins s σ H xs us Q I rs q
/-! ### the call of a builtin's method: o.m(..) -/
/-- the value is of that builtin type -/
def tyV (K : PySem.W.Frag) (T : String) (x : V) (H : Hp) : Prop := match x with
  | .str _ => T = "str"
  | .int _ => T = "int"
  | .ref p => (T = "list" ∧ ∃ xs, SqL K H p xs) ∨ (T = "tuple" ∧ ∃ o, K.lookup p = some o ∧ o.cls = .type "tuple" ∧ o.dict = none) ∨
      (T = "dict" ∧ ((∃ kvs, H p = some (.dK kvs)) ∨ ∃ kvs, H p = some (.dT kvs))) ∨ (T = "set" ∧ ∃ S n, H p = some (.set S n))
  | _ => False
theorem tyV_is {pins : List (Addr × Obj)} {σ : St} {H : Hp} {s : Shared} {T : String} {x : V} {v : Value} (I : Inv X pins σ H s) (r : RelV x v) (ty : tyV X.K T x H) :
    s.TypeIs v T ∧ ∀ a, v = .ref a → ∃ ob, s.heap.get? a = some ob ∧ ob.dict = none := by
  cases x with
  | str z =>
    obtain ⟨t, rfl⟩ := r
    cases (show T = "str" from ty)
    exact ⟨typeIs_str s z t, fun _ e => nomatch e⟩
  | int i =>
    obtain ⟨t, rfl⟩ := r
    cases (show T = "int" from ty)
    exact ⟨typeIs_int s i t, fun _ e => nomatch e⟩
  | ref p =>
    cases r
    rcases ty with ⟨rfl, xs, hq⟩ | ⟨rfl, o, hk, hc, hd⟩ | ⟨rfl, hk⟩ | ⟨rfl, S, n, hk⟩
    · obtain ⟨its, _, pl, _⟩ := I.list hq
      refine ⟨pl.isList.typeIs, fun a e => ?_⟩
      cases e
      obtain ⟨o, n, e, c, hd, _⟩ := pl
      exact ⟨o, e, hd⟩
    · refine ⟨⟨o, I.kIn p o hk, hc⟩, fun a e => ?_⟩
      cases e
      exact ⟨o, I.kIn _ o hk, hd⟩
    · have z : ∃ o, s.heap.get? p = some o ∧ o.ExactDict := by
        rcases hk with ⟨kvs, hk⟩ | ⟨kvs, hk⟩
        · obtain ⟨_, _, _, _, o, _, _, e, ex, _⟩ := I.hok p _ hk
          exact ⟨o, e, ex⟩
        · obtain ⟨_, _, _, _, o, _, _, e, ex, _⟩ := I.hok p _ hk
          exact ⟨o, e, ex⟩
      obtain ⟨o, e, ex⟩ := z
      refine ⟨⟨o, e, ex.1⟩, fun a e2 => ?_⟩
      cases e2
      exact ⟨o, e, ex.2.1⟩
    · obtain ⟨o, _, _, _, e, ex, _⟩ := I.hok p _ hk
      refine ⟨⟨o, e, ex.1⟩, fun a e2 => ?_⟩
      cases e2
      exact ⟨o, e, ex.2.1⟩
  | _ => exact False.elim ty
def tBM (K : PySem.W.Frag) (T : String) (r : V → List V → Hp → VK → Prop) (to : TE) (t : TA) : TE := fun σ H Q => to σ H fun x H1 => tyV K T x H1 ∧ t σ H1 fun xs H2 => r x xs H2 Q
variable {o e : Expr} {es : List Expr} {to : TE} {t : TA} {name : Str} {apos cpos : Pos} {T id : String} {r : V → List V → Hp → VK → Prop}
theorem pe_bm (pa : PlainAttrs T) (slot : Slot T name id) (hty : typeOf (.builtin id) = pure (.type "method_descriptor")) (hm : MtR X id r) (ho : PE X o to) (ha : PA X (e :: es) t)
    (hbase : attributeBase o name X.env (eval o X.env) = eval o X.env := by rfl)
    (hfew : ((backTo cpos (starEach (e :: es) X.env)).all (fun x => !x.1) && (backToKw cpos (keywordEach [] X.env)).all (fun x => x.1.isSome)
      && decide ((e :: es).length + ([] : List Keyword).length + (if ([] : List Keyword).isEmpty then 0 else 1) < 30)) = true := by rfl)
    (hline : (apos.endLine == cpos.line) = true := by rfl) (hs : starEach (e :: es) X.env = (false, eval e X.env) :: starEach es X.env := by rfl) (hplain : (backTo cpos (starEach es X.env)).any (·.1) = false := by rfl) :
    PE X (.Call (.Attribute o name apos) (e :: es) [] cpos) (tBM X.K T r to t) := by
  intro pins s σ H Q I h
  refine wpAny_Call_method_late hbase hfew hline rfl (thn (ho pins s σ H _ I h) fun v s1 ⟨x, H1, I1, r1, ty, q1⟩ => ?_)
  obtain ⟨h1, h2⟩ := tyV_is I1 r1 ty
  refine ⟨T, id, pa, slot, hty, h1, h2, ?_⟩
  have hA := ha cpos pins s1 σ H1 _ I1 q1
  rw [hs] at hA ⊢
  refine Calls.callWith_builtin (by show (false || (backTo cpos (starEach es X.env)).any (·.1)) = false; rw [hplain] <;> rfl) (Calls.evalArgs_plain ?_)
  exact thn hA fun us s2 ⟨vs, H2, I2, r2, q2⟩ => hm pins s2 σ H2 x vs v us Q I2 r1 r2 q2
/- xs.append(e), list.index on a module's tuple .. are MtR facts of 06m -/
end
end L2
namespace L2
open PySem PySem.Spec PyProof.Rows
def MtM (X : Cx) (id : String) (r : V → List V → Hp → VK → Prop) : Prop :=
  ∀ (pins : List (Addr × Obj)) (s : Shared) (σ : St) (H : Hp) (x : V) (xs : List V) (v : Value) (us : List Value) (Q : VK), Inv X pins σ H s → RelV x v → Vals xs us → r x xs H Q →
    wpAny (model X.prog X.w) X.A (call (.builtin id) (v :: us)) (EP X pins σ Q) X.xe s
/-! ### lists of values -/
theorem Vals.one : ∀ {x : V} {us : List Value}, Vals [x] us → ∃ u, us = [u] ∧ RelV x u
  | _, _, .cons r .nil => ⟨_, rfl, r⟩
theorem Vals.two : ∀ {x y : V} {us : List Value}, Vals [x, y] us → ∃ u v, us = [u, v] ∧ RelV x u ∧ RelV y v
  | _, _, _, .cons r (.cons q .nil) => ⟨_, _, rfl, r, q⟩
theorem Vals.zero : ∀ {us : List Value}, Vals [] us → us = []
  | _, .nil => rfl
theorem Vals.reverse {xs : List V} {us : List Value} (h : Vals xs us) : Vals xs.reverse us.reverse := by
  induction h with
  | nil => exact .nil
  | cons r t ih => rw [List.reverse_cons, List.reverse_cons]; exact Vals.append ih (.cons r .nil)
theorem Vals.rep {xs : List V} {us : List Value} (h : Vals xs us) : ∀ k : Nat, Vals (List.replicate k xs).flatten (List.replicate k us).flatten
  | 0 => .nil
  | k + 1 => by
    rw [List.replicate_succ, List.replicate_succ, List.flatten_cons, List.flatten_cons]
    exact Vals.append h (Vals.rep h k)
theorem foldl_rep (its : List Value) : ∀ (k : Nat) (acc : List Value),
    List.foldl (fun x1 x2 => x1 ++ x2) acc.toArray (List.replicate k its.toArray) = (acc ++ (List.replicate k its).flatten).toArray
  | 0, acc => by simp
  | k + 1, acc => by
    have e : acc.toArray ++ its.toArray = (acc ++ its).toArray := by simp
    have e2 : (acc ++ its) ++ (List.replicate k its).flatten = acc ++ (List.replicate (k + 1) its).flatten := by
      rw [List.replicate_succ, List.flatten_cons, List.append_assoc]
    rw [← e2, ← foldl_rep its k (acc ++ its), ← e, List.replicate_succ, List.foldl_cons]
section
variable {X : Cx} {pins : List (Addr × Obj)} {σ : St} {H : Hp} {s : Shared} {l b : Addr} {xs ys zs : List V}
/-! ### the two steps: a tracked list is rewritten, a new list is laid -/
theorem Inv.lset {its its' : List Value} {n : Nat} {f : Array Value → Array Value} {t' : Nat} (I : Inv X pins σ H s) (hH : H l = some (.lst xs))
    (e : s.heap.get? l = some { cls := .type "list", data := .seq its.toArray n }) (hf : f its.toArray = its'.toArray) (hv : Vals ys its') (hz : ys.length ≤ sizeLine) :
    Inv X pins σ (upd H l (.lst ys)) { s with heap := s.heap.update l (Obj.mapSeq f), toks := t' } := by
  have q := PySem.IsL.update e f
  rw [hf] at q
  refine I.write (x := l) (e := l) (by rw [hH]; exact trivial) (.inl rfl) (fun b' u hb hu => (Heap.get?_update_other s.heap (Obj.mapSeq f) (Ne.symm hb)).trans hu) ⟨_, q⟩ ?_
  exact ⟨hz, its', _, hv, q⟩
theorem Inv.lnew {its : List Value} {t' : Nat} (I : Inv X pins σ H s) (hv : Vals ys its) (hz : ys.length ≤ sizeLine) :
    Inv X pins σ (upd H s.heap.objs.size (.lst ys)) { s with heap := s.heap.push { cls := .type "list", data := .seq its.toArray }, toks := t' } :=
  I.laid (fun _ _ q => Heap.get?_push_of_some _ q) (Nat.le_refl _) ⟨hz, its, 0, hv, Heap.get?_push_size _ rfl⟩
theorem Inv.fresh (I : Inv X pins σ H s) : H s.heap.objs.size = none := I.hok.fresh (Nat.le_refl _)
theorem Inv.lstM (I : Inv X pins σ H s) (hH : H l = some (.lst xs)) : xs.length ≤ sizeLine ∧ ∃ (its : List Value) (n : Nat), Vals xs its ∧ xs.length = its.length ∧ s.heap.get? l = some { cls := .type "list", data := .seq its.toArray n } := by
  obtain ⟨z, its, n, r, e⟩ := I.hok l _ hH
  exact ⟨z, its, n, r, r.length, e⟩
theorem notLongL {n : Nat} (h : n ≤ sizeLine) : Builtin.List.listTooLong n = false := by
  unfold Builtin.List.listTooLong
  exact decide_eq_false (by omega)
end
section
variable {X : Cx}
/-! ### methods -/
def rAppend : V → List V → Hp → VK → Prop := fun x vs H Q => ∃ l xs y, x = .ref l ∧ vs = [y] ∧ H l = some (.lst xs) ∧ xs.length < sizeLine ∧ Q .non (upd H l (.lst (xs ++ [y])))
theorem mt_append : MtM X "list.append" rAppend := by
  intro pins s σ H x vs v us Q I rx rv h
  obtain ⟨l, xs, y, rfl, rfl, hH, hz, q⟩ := h
  cases rx
  obtain ⟨u, rfl, ru⟩ := rv.one
  obtain ⟨z, its, n, r, hl, e⟩ := I.lstM hH
  refine call_meets F.slot_list_append ⟨_, e, rfl⟩ F.entry_list_append (F.args_list_append_2 _ _) (PySem.list_append l its.toArray n u (by rw [List.size_toArray]; omega)) ⟨e, ?_⟩
  refine ⟨.non, _, I.lset (its' := its ++ [u]) hH e (by simp) (r.append (.cons ru .nil)) ?_, rfl, q⟩
  rw [List.length_append, List.length_singleton]
  omega
def rExtend : V → List V → Hp → VK → Prop := fun x vs H Q => ∃ l b xs zs, x = .ref l ∧ vs = [.ref b] ∧ H l = some (.lst xs) ∧ H b = some (.lst zs) ∧ xs.length + zs.length ≤ sizeLine ∧ Q .non (upd H l (.lst (xs ++ zs)))
theorem mt_extend : MtM X "list.extend" rExtend := by
  intro pins s σ H x vs v us Q I rx rv h
  obtain ⟨l, b, xs, zs, rfl, rfl, hH, hB, hz, q⟩ := h
  cases rx
  obtain ⟨u, rfl, ru⟩ := rv.one
  cases ru
  obtain ⟨z, its, n, r, hl, e⟩ := I.lstM hH
  obtain ⟨z2, its2, n2, r2, hl2, e2⟩ := I.lstM hB
  have hsz : its.toArray.size + its2.toArray.size ≤ sizeLine := by rw [List.size_toArray, List.size_toArray]; omega
  have hlong : ¬ (!its.toArray.isEmpty && Builtin.List.listTooLong (its.toArray.size + its2.toArray.size)) = true := by
    rw [notLongL hsz, Bool.and_false]
    exact Bool.false_ne_true
  refine call_meets F.slot_list_extend ⟨_, e, rfl⟩ F.entry_list_extend (F.args_list_extend_2 _ _)
    (AutoSeq1.list_extend_list_list_0 l its.toArray n b its2.toArray n2 hlong (by rw [List.size_toArray]; omega) (by omega)) ⟨e, e2, ?_⟩
  refine ⟨.non, _, I.lset (its' := its ++ its2) hH e (by simp) (r.append r2) ?_, rfl, q⟩
  rw [List.length_append]
  omega
/-! ### list + list, list += list, list * int -/
def rCat : R2 := fun x y H Q => ∃ l b xs zs, x = .ref l ∧ y = .ref b ∧ H l = some (.lst xs) ∧ H b = some (.lst zs) ∧ xs.length + zs.length ≤ sizeLine ∧ ∀ p, H p = none → Q (.ref p) (upd H p (.lst (xs ++ zs)))
theorem op_cat : OpR X (binaryOp .Add) rCat := by
  intro pins s σ H x y v u Q I rx ry h
  obtain ⟨l, b, xs, zs, rfl, rfl, hH, hB, hz, q⟩ := h
  cases rx
  cases ry
  obtain ⟨z, its, n, r, hl, e⟩ := I.lstM hH
  obtain ⟨z2, its2, n2, r2, hl2, e2⟩ := I.lstM hB
  refine PySem.P.add_list e e2 ?_ (by rw [List.size_toArray, List.size_toArray]; omega)
  have ea : its.toArray ++ its2.toArray = (its ++ its2).toArray := by simp
  rw [ea]
  exact ⟨.ref _, _, I.lnew (t' := s.toks) (r.append r2) (by rw [List.length_append]; omega), rfl, q _ I.fresh⟩
/-- a list times an int (a negative one is nothing) -/
def rRep : R2 := fun x y H Q => ∃ l k xs, x = .ref l ∧ y = .int k ∧ H l = some (.lst xs) ∧ -(2 ^ 63) ≤ k ∧ k < 2 ^ 63 ∧ xs.length * k.toNat ≤ sizeLine ∧
  ∀ p, H p = none → Q (.ref p) (upd H p (.lst (List.replicate k.toNat xs).flatten))
theorem len_rep {α : Type} (xs : List α) (k : Nat) : (List.replicate k xs).flatten.length = k * xs.length := by
  induction k with
  | zero => simp
  | succ k ih => rw [List.replicate_succ, List.flatten_cons, List.length_append, ih, Nat.succ_mul, Nat.add_comm]
theorem op_rep : OpR X (binaryOp .Mult) rRep := by
  intro pins s σ H x y v u Q I rx ry h
  obtain ⟨l, k, xs, rfl, rfl, hH, h1, h2, hz, q⟩ := h
  cases rx
  obtain ⟨t, rfl⟩ := ry
  obtain ⟨z, its, n, r, hl, e⟩ := I.lstM hH
  have hlen : its.toArray.size * k.toNat ≤ sizeLine := by rw [List.size_toArray, ← hl]; exact hz
  have hcap : ¬ its.toArray.size * k.toNat > (2 ^ 63 - 1) / 8 := by
    have : (sizeLine : Nat) ≤ (2 ^ 63 - 1) / 8 := by decide
    omega
  have hfit : ¬ (!Builtin.List.listFitsIndex k) = true := by
    rw [fitsIndex_both h1 h2]
    exact Bool.false_ne_true
  have hlong : ¬ Builtin.List.listTooLong (its.toArray.size * k.toNat) = true := by
    rw [notLongL hlen]
    exact Bool.false_ne_true
  have hnew : List.foldl (fun x1 x2 => x1 ++ x2) #[] (List.replicate (if its.toArray.isEmpty = true then 0 else k.toNat) its.toArray) = (List.replicate k.toNat its).flatten.toArray := by
    have f0 : ∀ m : Nat, List.foldl (fun x1 x2 => x1 ++ x2) #[] (List.replicate m its.toArray) = (List.replicate m its).flatten.toArray := fun m => by
      have := foldl_rep its m []
      rw [List.nil_append] at this
      exact this
    rw [f0]
    cases its with
    | nil => simp
    | cons a r' => rw [if_neg (by simp)]
  refine wpAny_binaryOp_repeat_ref (T := "list") (U := "int") (by decide) ⟨_, e, rfl⟩ (fun s' => typeIs_int s' k t) noFill_list_mul F.fills_int_mul F.slot_int_rmul repeat_list F.slot_int_index.lookup
    (call_meets F.slot_int_rmul (typeIs_int s k t) F.entry_int_rmul (F.args_int_rmul_2 _ _) (int___rmul___int_list k t l its.toArray n)
      ⟨e, rfl, ⟨_, e, rfl⟩, call_meets F.slot_list_mul ⟨_, e, rfl⟩ F.entry_list_mul (F.args_list_mul_2 _ _) (AutoListH.list___mul___list_int_3 l its.toArray n k t hfit hcap hlong) ⟨e, ?_⟩⟩)
  rw [hnew]
  exact ⟨.ref _, _, I.lnew (t' := s.toks) (r.rep k.toNat) (by rw [len_rep, Nat.mul_comm]; exact hz), rfl, q _ I.fresh⟩
/-! ### del xs[i] -/
end
/-! ### xs[a:b] = ys -/
section
variable {prog : Program} {w : World} {A : Around} {E : Value → Shared → Prop} {s : Shared}
end
section
variable {X : Cx}
end
end L2
namespace L2
open PySem PySem.Spec PyProof.Rows
theorem Vals.ints : ∀ {ns : List Int} {us : List Value}, Vals (ns.map V.int) us → IntsAre us ns
  | [], us, h => by
    rw [List.map_nil] at h
    cases h
    exact IntsAre.nil
  | n :: ns, us, h => by
    rw [List.map_cons] at h
    cases h with
    | cons r t =>
      obtain ⟨k, rfl⟩ := r
      exact IntsAre.cons n k (Vals.ints t)
theorem Vals.strs : ∀ {xs : List Str} {us : List Value}, Vals (xs.map V.str) us → StrsAre us xs
  | [], us, h => by
    rw [List.map_nil] at h
    cases h
    exact StrsAre.nil
  | x :: xs, us, h => by
    rw [List.map_cons] at h
    cases h with
    | cons r t =>
      obtain ⟨k, rfl⟩ := r
      exact StrsAre.cons x k (Vals.strs t)
/-! ### the library's walks over a list of ints, kept objects alone -/
section
variable {prog : Program} {w : World} {A : Around} {E : Value → Shared → Prop} {s : Shared} {l : Addr} {its : List Value} {ns : List Int} {Q : Value → Shared → Prop}
end
/-! ### the calls, by values (CallR of 03t; MtR of 06l) -/
section
variable {X : Cx}
/-! sorted, sort (fewer than 64 items: the library's own bound) -/
end
/-! ### list.index, flat items -/
section
variable {X : Cx}
def rIndex (K : PySem.W.Frag) : V → List V → Hp → VK → Prop := fun x xs H Q => ∃ (a : Addr) (ys : List V) (y : V) (j : Nat) (z : V), x = V.ref a ∧ xs = [y] ∧ SqL K H a ys ∧ flatV y = true ∧ ys.all flatV = true ∧ ys[j]? = some z ∧ eqV z y = true ∧
  (∀ (m : Nat) (z' : V), m < j → ys[m]? = some z' → eqV z' y = false) ∧ Q (.int (j : Nat)) H
theorem flat_at {ys : List V} (f : ys.all flatV = true) {j : Nat} {z : V} (h : ys[j]? = some z) : flatV z = true := List.all_eq_true.mp f z (List.mem_of_getElem? h)
theorem mt_index : MtR X "list.index" (rIndex X.K) := by
  intro pins s σ H x xs v us Q I rx rxs h
  obtain ⟨a, ys, y, j, z, rfl, rfl, hs, fy, fys, hz, hzj, hno, q⟩ := h
  cases rx
  cases rxs with
  | cons ry rt =>
    rename_i uy ut
    cases rt
    obtain ⟨its, rv, ⟨⟨cls, dd, data, sl⟩, n, ho, hc, hdn, hd⟩, hlen⟩ := I.list hs
    simp only at hc hd
    subst hc hd
    obtain ⟨u, hu, ru⟩ := rv.get hz
    obtain ⟨hjl, hje⟩ := List.getElem?_eq_some_iff.mp hu
    have hvl := rv.length
    have hj : j < its.toArray.size := by simpa using hjl
    have hsl := sizeLine_eq
    refine call_meets PySem.F.slot_list_index ⟨_, ho, rfl⟩ PySem.F.entry_list_index (PySem.F.args_list_index_2 _ _)
      (SeqAt.list_indexAt a its.toArray n dd sl uy (eqU y) j hj (by omega) ?_ ?_) ⟨ho, fun u' hu' => mem_eqAt ry fy rv fys u' (by simpa using hu'), ?_⟩
    · have e1 : its.toArray[j] = u := by simpa using hje
      rw [e1, eqU_of ru (flat_at fys hz)]
      exact hzj
    · intro m hm hmj
      have hml : m < its.length := by simpa using hm
      have hmy : m < ys.length := by omega
      have hy' : ys[m]? = some ys[m] := List.getElem?_eq_getElem hmy
      obtain ⟨u2, hu2, ru2⟩ := rv.get hy'
      obtain ⟨_, hme⟩ := List.getElem?_eq_some_iff.mp hu2
      have e1 : its.toArray[m] = u2 := by simpa using hme
      rw [e1, eqU_of ru2 (flat_at fys hy')]
      exact hno m _ hmj hy'
    · exact ⟨.int (j : Nat), H, I.tok _, ⟨_, rfl⟩, q⟩
end
/-! ### type(x) of an own instance; is, is not of a module's class -/
section
variable {X : Cx}
end
/-! ### any(xs), all(xs) of a list of bools -/
section
variable {X : Cx}
end
/-! ### == and != of data at any depth: none, bools, ints, texts, lists, tuples -/
mutual
inductive Dp (K : PySem.W.Frag) (H : Hp) : V → PyData → Prop
  | non : Dp K H .non .none
  | bl (b : Bool) : Dp K H (.bl b) (.bool b)
  | int (i : Int) : Dp K H (.int i) (.int i)
  | str (x : Str) : Dp K H (.str x) (.str x)
  | lst {a : Addr} {xs : List V} {ds : List PyData} : SqL K H a xs → DpAll K H xs ds → Dp K H (.ref a) (.list ds)
  | tup {a : Addr} {xs : List V} {ds : List PyData} : SqT K H a xs → DpAll K H xs ds → Dp K H (.ref a) (.tuple ds)
inductive DpAll (K : PySem.W.Frag) (H : Hp) : List V → List PyData → Prop
  | nil : DpAll K H [] []
  | cons {v : V} {vs : List V} {d : PyData} {ds : List PyData} : Dp K H v d → DpAll K H vs ds → DpAll K H (v :: vs) (d :: ds)
end
section
variable {X : Cx} {pins : List (Addr × Obj)} {σ : St} {H : Hp} {s : Shared}
mutual
theorem Dp.reads (I : Inv X pins σ H s) : ∀ (d : PyData) (v : V) (u : Value), Dp X.K H v d → RelV v u → ∃ as, Reads s.heap u d as
  | .none, _, _, h, r => by
    cases h
    cases r
    exact ⟨_, Reads.none⟩
  | .bool b, _, _, h, r => by
    cases h
    cases r
    exact ⟨_, Reads.bool b⟩
  | .int i, _, _, h, r => by
    cases h
    obtain ⟨t, rfl⟩ := r
    exact ⟨_, Reads.int i t⟩
  | .str x, _, _, h, r => by
    cases h
    obtain ⟨t, rfl⟩ := r
    exact ⟨_, Reads.str x t⟩
  | .list ds, _, _, h, r => by
    cases h with
    | lst hs ha =>
      cases r
      obtain ⟨its, rv, ⟨o, n, ho, hc, _, hd⟩, _⟩ := I.list hs
      obtain ⟨as, hr⟩ := Dp.readsAll I ds _ its ha rv
      exact ⟨_, Reads.list ho hc hd hr⟩
  | .tuple ds, _, _, h, r => by
    cases h with
    | tup hs ha =>
      cases r
      obtain ⟨its, rv, ⟨o, ho, hc, n, hd⟩, _⟩ := I.tuple hs
      obtain ⟨as, hr⟩ := Dp.readsAll I ds _ its ha rv
      exact ⟨_, Reads.tuple ho hc hd hr⟩
  | .dict _, _, _, h, _ => by cases h
theorem Dp.readsAll (I : Inv X pins σ H s) : ∀ (ds : List PyData) (vs : List V) (us : List Value), DpAll X.K H vs ds → Vals vs us → ∃ as, ReadsAll s.heap us ds as
  | [], _, _, h, r => by
    cases h
    cases r
    exact ⟨_, ReadsAll.nil⟩
  | d :: ds, _, _, h, r => by
    cases h with
    | cons h1 h2 =>
      cases r with
      | cons r1 r2 =>
        obtain ⟨as, q1⟩ := Dp.reads I d _ _ h1 r1
        obtain ⟨bs, q2⟩ := Dp.readsAll I ds _ _ h2 r2
        exact ⟨_, ReadsAll.cons q1 q2⟩
end
end
section
variable {X : Cx}
def rEqD (K : PySem.W.Frag) : R2 := fun x y H Q => ∃ d e, Dp K H x d ∧ Dp K H y e ∧ SeqAt.shaped d = true ∧ SeqAt.shaped e = true ∧ Q (.bl (PyData.eqv d e)) H
theorem op_eqD (hu : X.A.units + 64 < cLine) : OpR X (compareOp .Eq) (rEqD X.K) := by
  intro pins s σ H x y v u Q I rx ry h
  obtain ⟨d, e, hd, he, sd, se, q⟩ := h
  obtain ⟨as, r1⟩ := Dp.reads I d x v hd rx
  obtain ⟨bs, r2⟩ := Dp.reads I e y u he ry
  exact SeqAt.compareEq_shaped r1 r2 sd se hu ⟨.bl _, H, I, rfl, q⟩
end
end L2
namespace L2
open PySem PySem.Spec PyProof.Rows
abbrev CellAt (h : Heap) (c : Addr) (v : Option Value) : Prop := h.IsCell c v
def relS (scope sc : Scope) : Scope :=
  { scope with names := scope.names.map fun (n, k) => if (k == .free && sc.kind == .function && sc.names.lookup n == some .cell) then (n, .cell) else (n, k) }
def cloFrom (cells : List (Str × Addr)) : List (Str × NameKind) → List (Str × Addr) → List (Str × Addr)
  | [], acc => acc
  | (n, k) :: r, acc => if k == .free then cloFrom cells r ((n, (cells.lookup n).getD 0) :: acc) else cloFrom cells r acc
theorem closure_loop (env : Env) (f : Str × NameKind → List (Str × Addr) → Sem (ForInStep (List (Str × Addr))))
    (hf : ∀ n k c, f (n, k) c = if k == .free then (do let a ← cellOf env n; pure (.yield ((n, a) :: c))) else pure (.yield c)) :
    ∀ (names : List (Str × NameKind)) (acc : List (Str × Addr)), (∀ y ∈ names, y.2 = .free → ∃ c, env.cells.lookup y.1 = some c) → forIn names acc f = pure (cloFrom env.cells names acc)
  | [], acc, _ => by rw [List.forIn_nil]; rfl
  | (n, k) :: r, acc, h => by
    rw [List.forIn_cons, hf]
    have ih := fun acc => closure_loop env f hf r acc fun y hy => h y (List.mem_cons_of_mem _ hy)
    unfold cloFrom
    by_cases hk : (k == NameKind.free) = true
    · rw [if_pos hk, if_pos hk]
      obtain ⟨c, hc⟩ := h (n, k) List.mem_cons_self (by simpa using hk)
      have e : cellOf env n = pure c := by unfold cellOf; rw [hc]
      rw [e]
      have e2 : (env.cells.lookup n).getD 0 = c := by rw [hc]; rfl
      rw [e2]
      exact ih _
    · rw [if_neg hk, if_neg hk]
      exact ih _
theorem closure_ok {scope : Scope} {env : Env} (h : ∀ y ∈ scope.names, y.2 = .free → ∃ c, env.cells.lookup y.1 = some c) : closureFor scope env = pure (cloFrom env.cells scope.names []) := by
  simp only [closureFor]
  rw [closure_loop env _ (fun n k c => rfl) scope.names [] h]
  rfl
theorem mem_lookup {α : Type} : ∀ {l : List (Str × α)} {n : Str} {c : α}, (n, c) ∈ l → ∃ c', l.lookup n = some c'
  | (k, v) :: r, n, c, h => by
    rw [List.lookup_cons]
    cases hb : n == k with
    | true => exact ⟨_, rfl⟩
    | false =>
      rcases List.mem_cons.mp h with e | h
      · cases e; simp at hb
      · exact mem_lookup h
theorem cloFrom_mem {cells : List (Str × Addr)} : ∀ {names : List (Str × NameKind)} {acc : List (Str × Addr)} {n : Str} {c : Addr}, (n, c) ∈ cloFrom cells names acc → (n, c) ∈ acc ∨ ((n, .free) ∈ names ∧ c = (cells.lookup n).getD 0)
  | [], _, _, _, h => .inl h
  | (m, k) :: r, acc, n, c, h => by
    unfold cloFrom at h
    split at h
    · rename_i hk
      have hk : k = .free := by simpa using hk
      rcases cloFrom_mem h with h | ⟨h1, h2⟩
      · rcases List.mem_cons.mp h with e | h
        · cases e; exact .inr ⟨hk ▸ List.mem_cons_self, rfl⟩
        · exact .inl h
      · exact .inr ⟨List.mem_cons_of_mem _ h1, h2⟩
    · rcases cloFrom_mem h with h | ⟨h1, h2⟩
      · exact .inl h
      · exact .inr ⟨List.mem_cons_of_mem _ h1, h2⟩
theorem cloFrom_acc {cells : List (Str × Addr)} : ∀ {names : List (Str × NameKind)} {acc : List (Str × Addr)} {p : Str × Addr}, p ∈ acc → p ∈ cloFrom cells names acc
  | [], _, _, h => h
  | (m, k) :: r, acc, p, h => by
    unfold cloFrom
    split
    · exact cloFrom_acc (List.mem_cons_of_mem _ h)
    · exact cloFrom_acc h
theorem cloFrom_has {cells : List (Str × Addr)} : ∀ {names : List (Str × NameKind)} {acc : List (Str × Addr)} {n : Str}, (n, .free) ∈ names → (n, (cells.lookup n).getD 0) ∈ cloFrom cells names acc
  | (m, k) :: r, acc, n, h => by
    unfold cloFrom
    rcases List.mem_cons.mp h with e | h
    · cases e
      exact cloFrom_acc List.mem_cons_self
    · split
      · exact cloFrom_has h
      · exact cloFrom_has h
theorem cells_mem : ∀ {names : List (Str × NameKind)} {h : Heap} {acc : List (Str × Addr)} {x : Str} {c : Addr}, (x, c) ∈ cellsFrom h.objs.size names acc →
    (x, c) ∈ acc ∨ ((x, .cell) ∈ names ∧ h.objs.size ≤ c ∧ CellAt (pushCells h names) c none)
  | [], _, _, _, _, h => .inl h
  | (n, k) :: r, h, acc, x, c, hm => by
    unfold cellsFrom at hm
    unfold pushCells
    split at hm
    · rename_i hk
      rw [if_pos hk]
      have hk : k = .cell := by simpa using hk
      rw [← Heap.size_push h { cls := .type "cell", data := .cell none }] at hm
      rcases cells_mem hm with hm | ⟨h1, h2, h3⟩
      · rcases List.mem_cons.mp hm with e | hm
        · cases e
          exact .inr ⟨hk ▸ List.mem_cons_self, Nat.le_refl _, _, pushCells_keeps r _ _ _ (Heap.get?_push_size _ rfl), rfl⟩
        · exact .inl hm
      · rw [Heap.size_push] at h2
        exact .inr ⟨List.mem_cons_of_mem _ h1, Nat.le_of_succ_le h2, h3⟩
    · rename_i hk
      rw [if_neg hk]
      rcases cells_mem hm with hm | ⟨h1, h2, h3⟩
      · exact .inl hm
      · exact .inr ⟨List.mem_cons_of_mem _ h1, h2, h3⟩
theorem cells_acc : ∀ {names : List (Str × NameKind)} {n : Nat} {acc : List (Str × Addr)} {p : Str × Addr}, p ∈ acc → p ∈ cellsFrom n names acc
  | [], _, _, _, h => h
  | (m, k) :: r, n, acc, p, h => by
    unfold cellsFrom
    split
    · exact cells_acc (List.mem_cons_of_mem _ h)
    · exact cells_acc h
theorem cells_has : ∀ {names : List (Str × NameKind)} {n : Nat} {acc : List (Str × Addr)} {x : Str}, (x, .cell) ∈ names → ∃ c, (x, c) ∈ cellsFrom n names acc
  | (m, k) :: r, n, acc, x, h => by
    unfold cellsFrom
    rcases List.mem_cons.mp h with e | h
    · cases e
      exact ⟨n, cells_acc List.mem_cons_self⟩
    · split
      · exact cells_has h
      · exact cells_has h
theorem cells_inj : ∀ {names : List (Str × NameKind)} {h : Heap} {acc : List (Str × Addr)} {x y : Str} {c : Addr}, (∀ p ∈ acc, p.2 < h.objs.size) → (∀ x y c, (x, c) ∈ acc → (y, c) ∈ acc → x = y) →
    (x, c) ∈ cellsFrom h.objs.size names acc → (y, c) ∈ cellsFrom h.objs.size names acc → x = y
  | [], _, _, _, _, _, _, hi, h1, h2 => hi _ _ _ h1 h2
  | (n, k) :: r, h, acc, x, y, c, hl, hi, h1, h2 => by
    unfold cellsFrom at h1 h2
    split at h1
    · rename_i hk
      rw [if_pos hk] at h2
      rw [← Heap.size_push h { cls := .type "cell", data := .cell none }] at h1 h2
      refine cells_inj (h := h.push _) (fun p hp => ?_) (fun x y c a b => ?_) h1 h2
      · rw [Heap.size_push]
        rcases List.mem_cons.mp hp with rfl | hp
        · exact Nat.lt_succ_self _
        · exact Nat.lt_succ_of_lt (hl p hp)
      · rcases List.mem_cons.mp a with e | a <;> rcases List.mem_cons.mp b with e' | b
        · cases e; cases e'; rfl
        · cases e; exact absurd (hl _ b) (Nat.lt_irrefl _)
        · cases e'; exact absurd (hl _ a) (Nat.lt_irrefl _)
        · exact hi _ _ _ a b
    · rename_i hk
      rw [if_neg hk] at h2
      exact cells_inj hl hi h1 h2
theorem newEnv_comp {M : Model} {A : Around} {E : Value → Shared → Prop} {s : Shared} {scope : Scope} {globals : Addr} {closure : List (Str × Addr)} {qual : Str} {func : Option Addr} {code : Value} {around : Env} {builtins : Addr} {Q : Env → Shared → Prop}
    (h : Q (newEnv scope s.heap.objs.size globals (cellsFrom (s.heap.objs.size + 1) scope.names closure) qual func code (some around) builtins)
      { s with heap := pushCells (s.heap.push { cls := .type "dict", data := .dict #[] }) scope.names }) :
    wpAny M A (newFunctionEnv scope globals closure [] qual func code (some around) builtins) Q E s := by
  simp only [newFunctionEnv, Option.isSome_some, if_true]
  refine wpAny_bind (wpAny_alloc ?_)
  refine wpAny_bind (wpAny_layCells _ (fun n k c => rfl) scope.names closure _ _ ?_)
  rw [show ({ s with heap := s.heap.push { cls := .type "dict", data := .dict #[] } } : Shared).heap.objs.size = s.heap.objs.size + 1 from Heap.size_push ..]
  rw [List.forIn_nil]
  exact wpAny_bind (wpAny_pure (wpAny_pure h))
/-- every name of the written scope, in the scope that runs -/
theorem lookup_relS {sc : Scope} : ∀ {names : List (Str × NameKind)} {x : Str} {k : NameKind},
    (names.map fun (n, k) => if (k == NameKind.free && sc.kind == .function && sc.names.lookup n == some .cell) then (n, NameKind.cell) else (n, k)).lookup x = some k →
    ∃ k', names.lookup x = some k' ∧ (k = k' ∨ (k' = .free ∧ k = .cell))
  | [], _, _, h => by simp at h
  | (n, k₀) :: r, x, k, h => by
    have ih := @lookup_relS sc r x k
    have h' : List.lookup x ((if (k₀ == NameKind.free && sc.kind == .function && sc.names.lookup n == some .cell) = true then (n, NameKind.cell) else (n, k₀)) :: (r.map _)) = some k := h
    cases hx : x == n with
    | true =>
      simp only [List.lookup_cons, hx]
      by_cases hc : (k₀ == NameKind.free && sc.kind == .function && sc.names.lookup n == some .cell) = true
      · rw [if_pos hc] at h'
        simp only [List.lookup_cons, hx] at h'
        cases h'
        simp only [Bool.and_eq_true, beq_iff_eq] at hc
        exact ⟨k₀, rfl, .inr ⟨hc.1.1, rfl⟩⟩
      · rw [if_neg hc] at h'
        simp only [List.lookup_cons, hx] at h'
        cases h'
        exact ⟨_, rfl, .inl rfl⟩
    | false =>
      simp only [List.lookup_cons, hx]
      by_cases hc : (k₀ == NameKind.free && sc.kind == .function && sc.names.lookup n == some .cell) = true
      · rw [if_pos hc] at h'
        simp only [List.lookup_cons, hx] at h'
        exact ih h'
      · rw [if_neg hc] at h'
        simp only [List.lookup_cons, hx] at h'
        exact ih h'
/-- the names of a comprehension's block: its own (with their places in N), or captured -/
structure BlkOk (N : List Str) (sc scope : Scope) (own : List (Str × Nat)) : Prop where
  kind : scope.kind = .function
  uniq : ∀ y ∈ scope.names, scope.names.lookup y.1 = some y.2
  ix : ∀ p ∈ own, N[p.2]? = some p.1
  free : ∀ y ∈ scope.names, y.2 = .free → sc.names.lookup y.1 = some .cell ∨ sc.names.lookup y.1 = some .free
  own : ∀ y ∈ scope.names, y.2 = .local ∨ y.2 = .cell → y.1 ∈ own.map (·.1) ∨ y.1 ∉ N
/-- the slots of the block's own names forgotten -/
def wipe (σ : St) : List Nat → St
  | [] => σ
  | v :: vs => (wipe σ vs).set v none
theorem wipe_length (σ : St) : ∀ vs : List Nat, (wipe σ vs).length = σ.length
  | [] => rfl
  | v :: vs => by unfold wipe; rw [List.length_set, wipe_length σ vs]
theorem wipe_some {σ : St} {i : Nat} {x : V} : ∀ {vs : List Nat}, (wipe σ vs)[i]? = some (some x) → σ[i]? = some (some x) ∧ i ∉ vs
  | [], h => ⟨h, by simp⟩
  | v :: vs, h => by
    unfold wipe at h
    by_cases hi : v = i
    · subst hi
      by_cases hv : v < (wipe σ vs).length
      · rw [List.getElem?_set_self hv] at h; cases h
      · rw [List.getElem?_eq_none (by simpa using hv)] at h; cases h
    · rw [List.getElem?_set_ne hi] at h
      obtain ⟨h1, h2⟩ := wipe_some h
      exact ⟨h1, by simp only [List.mem_cons, not_or]; exact ⟨fun e => hi e.symm, h2⟩⟩
/-- the context of a block that starts at s, its iterator's objects at fp -/
abbrev Cx.blk (X : Cx) (s : Shared) (H : Hp) (scope : Scope) (cenv : Env) (fp : List Addr) : Cx := { X with s_0 := s, H_0 := H, env := cenv, outer := X.stack, ex := fp, fn := fun x => scope.names.lookup x == some .cell, pn := [], xe := fun _ _ => False }
section
variable {X : Cx} {pins : List (Addr × Obj)} {σ : St} {H : Hp} {s : Shared}
theorem block_start {scope : Scope} {own : List (Str × Nat)} {fp : List Addr} (I : Inv X pins σ H s) (ok : BlkOk X.N X.env.scope scope own) (hN : X.N.Nodup) (hfp : ∀ b ∈ fp, FpOk X pins H b ∧ b < s.heap.objs.size) :
    Inv (X.blk s H scope (compEnvC scope (cellsFrom (s.heap.objs.size + 1) scope.names (cloFrom X.env.cells scope.names [])) s.heap.objs.size X.env) fp) [] (wipe σ (own.map (·.2))) H { s with heap := pushCells (s.heap.push { cls := .type "dict", data := .dict #[] }) scope.names } := by
  have hfree : ∀ y ∈ scope.names, y.2 = .free → ∃ c, X.env.cells.lookup y.1 = some c := fun y hy e => by
    rcases ok.free y hy e with k | k
    · exact I.ok.has _ (.inl k)
    · exact I.ok.has _ (.inr k)
  generalize hcenv : compEnvC scope (cellsFrom (s.heap.objs.size + 1) scope.names (cloFrom X.env.cells scope.names [])) s.heap.objs.size X.env = cenv
  have kp : ∀ b o, s.heap.get? b = some o → (pushCells (s.heap.push { cls := .type "dict", data := .dict #[] }) scope.names).get? b = some o := fun b o e => pushCells_keeps _ _ _ _ (Heap.get?_push_of_some _ e)
  have hL : cenv.locals = s.heap.objs.size := by rw [← hcenv]; rfl
  have hcl : cenv.cells = cellsFrom (s.heap.objs.size + 1) scope.names (cloFrom X.env.cells scope.names []) := by rw [← hcenv]; rfl
  have hsc : cenv.scope = relS scope X.env.scope := by rw [← hcenv]; rfl
  rw [← Heap.size_push s.heap { cls := .type "dict", data := .dict #[] }] at hcl
  have cm : ∀ {y c}, (y, c) ∈ cloFrom X.env.cells scope.names [] → X.env.cells.lookup y = some c ∧ c < s.heap.objs.size := fun {y c} hm => by
    rcases cloFrom_mem hm with hm | ⟨h1, rfl⟩
    · cases hm
    · obtain ⟨c, hc⟩ := hfree _ h1 rfl
      rw [hc]
      obtain ⟨w, z⟩ := I.cell _ _ hc
      exact ⟨rfl, z.lt⟩
  have mem : ∀ {y c}, cenv.cells.lookup y = some c → (X.env.cells.lookup y = some c ∧ c < s.heap.objs.size) ∨ (s.heap.objs.size + 1 ≤ c ∧ CellAt (pushCells (s.heap.push { cls := .type "dict", data := .dict #[] }) scope.names) c none) := fun {y c} e => by
    rw [hcl] at e
    rcases cells_mem (PySem.mem_of_lookup e) with hm | ⟨_, h2, h3⟩
    · exact .inl (cm hm)
    · rw [Heap.size_push] at h2; exact .inr ⟨h2, h3⟩
  have look : ∀ {y}, scope.names.lookup y = some .free → ∃ c, cenv.cells.lookup y = some c ∧ X.env.cells.lookup y = some c := fun {y} hl => by
    have hy : (y, NameKind.free) ∈ scope.names := PySem.mem_of_lookup hl
    obtain ⟨c', e'⟩ := mem_lookup (cells_acc (names := scope.names) (n := (s.heap.push { cls := .type "dict", data := .dict #[] }).objs.size) (cloFrom_has (cells := X.env.cells) (acc := []) hy))
    rw [← hcl] at e'
    refine ⟨c', e', ?_⟩
    rw [hcl] at e'
    rcases cells_mem (PySem.mem_of_lookup e') with hm | ⟨h1, _, _⟩
    · exact (cm hm).1
    · have := ok.uniq _ h1
      rw [hl] at this; cases this
  have okB : (X.blk s H scope cenv fp).Ok := by
    refine ⟨I.ok.mod, by show cenv.scope.kind = _; rw [hsc]; exact ok.kind, by show cenv.globals = _; rw [← hcenv]; exact I.ok.glob, by show cenv.builtins = _; rw [← hcenv]; exact I.ok.blt, by show s.heap.objs.size ≤ cenv.locals; rw [hL]; exact Nat.le_refl _,
      fun y z c e1 e2 => ?_, fun y hy => ?_, fun y c z e => ?_, I.ok.hd, I.ok.frames, .inl rfl, fun b hb => ⟨?_, fun y c e z => ?_⟩, I.bs, Nat.le_trans I.ok.bsz I.sz, fun b o e hb => ?_, fun b hb z => ?_, I.stack, I.stkFree⟩
    · have e1 : cenv.cells.lookup y = some c := e1
      have e2 : cenv.cells.lookup z = some c := e2
      rw [hcl] at e1 e2
      refine cells_inj (fun p hp => ?_) (fun y z c a b => I.ok.inj y z c (cm a).1 (cm b).1) (PySem.mem_of_lookup e1) (PySem.mem_of_lookup e2)
      rw [Heap.size_push]
      exact Nat.lt_succ_of_lt (cm (y := p.1) (c := p.2) hp).2
    · show ∃ c, cenv.cells.lookup y = some c
      have key : ∀ k, cenv.kindOf y = some k → (k = .cell ∨ k = .free) → ∃ c, cenv.cells.lookup y = some c := fun k hk hk' => by
        unfold Env.kindOf at hk
        rw [hsc] at hk
        obtain ⟨k', e, r⟩ := lookup_relS hk
        have : k' = .cell ∨ k' = .free := by
          rcases r with rfl | ⟨rfl, _⟩
          · exact hk'
          · exact .inr rfl
        rcases this with rfl | rfl
        · obtain ⟨c, hm⟩ := cells_has (n := (s.heap.push { cls := .type "dict", data := .dict #[] }).objs.size) (acc := cloFrom X.env.cells scope.names []) (PySem.mem_of_lookup e)
          obtain ⟨c', e'⟩ := mem_lookup hm
          exact ⟨c', by rw [hcl]; exact e'⟩
        · obtain ⟨c, h1, _⟩ := look e
          exact ⟨c, h1⟩
      rcases hy with hy | hy
      · exact key _ hy (.inl rfl)
      · exact key _ hy (.inr rfl)
    · have z : (scope.names.lookup y == some NameKind.cell) = true := z
      have z : scope.names.lookup y = some .cell := by simpa using z
      have e : cenv.cells.lookup y = some c := e
      rw [hcl] at e
      rcases cells_mem (PySem.mem_of_lookup e) with hm | ⟨_, h2, _⟩
      · rcases cloFrom_mem hm with hm | ⟨h1, _⟩
        · cases hm
        · have q := ok.uniq _ h1
          rw [z] at q; cases q
      · rw [Heap.size_push] at h2
        exact Nat.le_of_succ_le h2
    · show b ≠ cenv.locals
      rw [hL]; exact Nat.ne_of_lt (hfp b hb).2
    · have e : cenv.cells.lookup y = some c := e
      rcases mem e with ⟨h1, _⟩ | ⟨h1, _⟩
      · exact (hfp b hb).1.2.2.2.2.1 y c h1 z
      · have h2 : s.heap.objs.size + 1 ≤ b := by rw [← z]; exact h1
        exact absurd (Nat.lt_of_lt_of_le (hfp b hb).2 (Nat.le_of_succ_le h2)) (Nat.lt_irrefl _)
    · rcases (hfp b hb).1.2.2.2.1 with z | z
      · exact I.ok.noex b o e z
      · exact absurd (Nat.lt_of_lt_of_le (Heap.lt_size e) (Nat.le_trans I.ok.bsz z)) (Nat.lt_irrefl _)
    · rcases List.mem_cons.mp (I.stkSub b z) with z | z
      · exact (hfp b hb).1.2.1 z
      · exact (hfp b hb).1.2.2.1 z
  refine ⟨okB, rfl, I.bare, Un.kept kp, ⟨fun _ => none, ?_, fun i y av e1 e2 e3 => ?_⟩, fun y c e => ?_, ?_, fun y c e => ?_, fun p hp => ?_, I.hok.kept kp, by rw [wipe_length]; exact I.len⟩
  · show Heap.Ns _ cenv.locals _
    rw [hL]
    exact Heap.Ns.keeps (Heap.Ns.new ..) fun b o e => pushCells_keeps _ _ _ _ e
  · obtain ⟨e2, hne⟩ := wipe_some e2
    have hfr : scope.names.lookup y = some .free ∧ (cenv.kindOf y = some .cell ∨ cenv.kindOf y = some .free) := by
      have key : ∀ k, cenv.scope.names.lookup y = some k → k = .local ∨ k = .cell ∨ k = .free → scope.names.lookup y = some .free ∧ (cenv.kindOf y = some .cell ∨ cenv.kindOf y = some .free) := fun k hk hk' => by
        have hk0 := hk
        rw [hsc] at hk
        obtain ⟨k', e, r⟩ := lookup_relS hk
        have no : ¬ (k' = .local ∨ k' = .cell) := fun hh => by
          rcases ok.own _ (PySem.mem_of_lookup e) hh with e' | e'
          · obtain ⟨p, hp, hpy⟩ := List.mem_map.mp e'
            have e3 := ok.ix p hp
            have : p.1 = y := hpy
            rw [this] at e3
            exact hne (List.mem_map.mpr ⟨p, hp, nodup_ix hN e3 e1⟩)
          · exact e' (List.mem_of_getElem? e1)
        rcases r with rfl | ⟨rfl, rfl⟩
        · rcases hk' with rfl | rfl | rfl
          · exact absurd (.inl rfl) no
          · exact absurd (.inr rfl) no
          · exact ⟨e, .inr hk0⟩
        · exact ⟨e, .inl hk0⟩
      have e3 : Vis cenv.scope y := e3
      rcases e3 with e3 | e3 | e3
      · exact key _ e3 (.inl rfl)
      · exact key _ e3 (.inr (.inl rfl))
      · exact key _ e3 (.inr (.inr rfl))
    obtain ⟨m, hn, hl⟩ := I.loc
    have hvis : Vis X.env.scope y := (ok.free _ (PySem.mem_of_lookup hfr.1) rfl).elim (fun k => .inr (.inl k)) (fun k => .inr (.inr k))
    obtain ⟨w, r, q⟩ := hl i y av e1 e2 hvis
    refine ⟨w, r, .inr ⟨hfr.2, ?_⟩⟩
    obtain ⟨c, h1, h2⟩ := look hfr.1
    rcases q with ⟨k, _⟩ | ⟨_, c', e', z⟩
    · have k : X.env.scope.names.lookup y = some .local := k
      rcases ok.free _ (PySem.mem_of_lookup hfr.1) rfl with k' | k' <;> rw [show X.env.scope.names.lookup y = _ from k'] at k <;> cases k
    · rw [h2] at e'; cases e'
      exact ⟨c, h1, z.keeps kp⟩
  · have e : cenv.cells.lookup y = some c := e
    rcases mem e with ⟨h1, _⟩ | ⟨_, z⟩
    · obtain ⟨w, z⟩ := I.cell y c h1
      exact ⟨w, z.keeps kp⟩
    · exact ⟨_, z⟩
  · show H cenv.locals = none
    rw [hL]; exact I.hok.fresh (Nat.le_refl _)
  · have e : cenv.cells.lookup y = some c := e
    rcases mem e with ⟨h1, _⟩ | ⟨h1, _⟩
    · exact I.freeC y c h1
    · exact I.hok.fresh (Nat.le_of_succ_le h1)
  · exact absurd (show p ∈ ([] : List (Addr × Obj)) ++ [] from hp) (by simp)
/-- an item appended to a tracked list -/
theorem app_ok {E : Value → Shared → Prop} {D : Addr} {xs : List V} {y : V} {v : Value} {Q : Value → Shared → Prop} (I : Inv X pins σ H s) (hD : H D = some (.lst xs)) (hz : xs.length < sizeLine) (r : RelV y v)
    (h : ∀ s', Inv X pins σ (upd H D (.lst (xs ++ [y]))) s' → Q .none s') : wpAny (model X.prog X.w) X.A (call (.builtin "list.append") [.ref D, v]) Q E s := by
  obtain ⟨hz', its, n, ri, e⟩ := I.hok D _ hD
  have hl := ri.length
  refine append_at (hsz := by rw [List.size_toArray]; omega) e fun h' sb ho' => ?_
  refine h { s with heap := h' } (I.write (t' := s.toks) (by rw [hD]; trivial) (.inl rfl) (fun b u hb q => (sb.2 b hb).trans q) ⟨_, ho'⟩ ⟨by rw [List.length_append]; exact hz, its ++ [v], n + 1, ri.append (.cons r .nil), ?_⟩)
  rw [ho']
  simp
/-- a clause's tests -/
def PTs (X : Cx) (ifs : List Expr) (t : TT) : Prop :=
  ∀ (pins : List (Addr × Obj)) (s : Shared) (σ : St) (H : Hp) (Q : Bool → Hp → Prop), Inv X pins σ H s → t σ H Q →
    wpAny (model X.prog X.w) X.A (forIn ifs true fun c r => if r = true then do let ok ← isTrue c X.env (eval c X.env); pure (ForInStep.yield ok) else pure (ForInStep.yield r)) (TP X pins σ Q) X.xe s
def tYes : TT := fun _ H Q => Q true H
theorem pts_nil : PTs X [] tYes := fun _ _ _ H _ I h => wpAny_tests_nil ⟨H, I, h⟩
end
theorem thnF {α : Type} {t : Sem α} {Q Q' : α → Shared → Prop} {M : Model} {A : Around} {E : Value → Shared → Prop} {s : Shared} (h : wpAny M A t Q (fun _ _ => False) s) (hQ : ∀ a s, Q a s → Q' a s) : wpAny M A t Q' E s := wpAny_mono h hQ fun _ _ z => False.elim z
/-- the loop of a list comprehension's block, the target of any form (codeAny_compLoop_tests asks a target that no tuple goes to; statement and proof follow it, PyProof/CompMap.lean:41-61, with the step letOwnedTupleGo kept) -/
theorem compLoop_any {prog : Program} {w : World} {A : Around} {R : Result → Shared → Prop} {s : Shared} {elt target iter : Expr} {ifs : List Expr} {scope : Scope} {pos : Pos} {it acc : Value} {env : Env} (I : Nat → Shared → Prop)
    (turn : ∀ n s, I n s → wpAny (model prog w) A (pyNext it) (fun r s₁ => match r with
      | none => R (.ok .next) s₁
      | some v => wpAny (model prog w) A (letOwnedTupleGo target it v) (fun _ s₁' => wpAny (model prog w) A (assign target env v) (fun _ s₂ =>
          wpAny (model prog w) A (forIn ifs true fun c r => if r = true then do let ok ← isTrue c env (eval c env); pure (ForInStep.yield ok) else pure (ForInStep.yield r)) (fun ok s₃ =>
            if ok = true then wpAny (model prog w) A (eval elt env) (fun x s₄ =>
              wpAny (model prog w) A (call (.builtin "list.append") [acc, x]) (fun _ s₅ => ∃ m, m < n ∧ I m s₅) (notedBy (model prog w) A env fun e s' => R (.error e) s') s₄) (notedBy (model prog w) A env fun e s' => R (.error e) s') s₃
            else ∃ m, m < n ∧ I m s₃) (notedBy (model prog w) A env fun e s' => R (.error e) s') s₂) (notedBy (model prog w) A env fun e s' => R (.error e) s') s₁') (notedBy (model prog w) A env fun e s' => R (.error e) s') s₁) (notedBy (model prog w) A env fun e s' => R (.error e) s') s)
    (n : Nat) (h : I n s) :
    codeAny (model prog w) A (.compLoop (.ListComp elt [⟨target, iter, ifs, 0⟩] scope pos) 0 it acc env) R s := by
  refine codeAny_loop rfl I (fun n s hI => ?_) n h
  show wpAny _ A ((compTurn (.ListComp elt [⟨target, iter, ifs, 0⟩] scope pos) 0 it acc env).onRaise (fun x => do noteFrame x env; theTreesLotGoes x)) _ _ s
  refine wpAny_noted ?_
  rw [compTurn_list]
  refine wpAny_bind (wpAny_standAt (wpAny_bind (wpAny_mono (turn n s hI) (fun r s₁ h₁ => ?_) fun _ _ h' => h')))
  cases r with
  | none => exact wpAny_pure h₁
  | some v =>
    refine wpAny_bind (wpAny_mono h₁ (fun _ s₁' h₁' => ?_) fun _ _ h' => h')
    refine wpAny_bind (wpAny_mono h₁' (fun _ s₂ h₂ => wpAny_bind (wpAny_mono h₂ (fun ok s₃ h₃ => ?_) fun _ _ h' => h')) fun _ _ h' => h')
    cases ok with
    | false => exact wpAny_pure ⟨rfl, h₃⟩
    | true =>
      exact wpAny_bind (wpAny_bind (wpAny_mono h₃ (fun x s₄ h₄ => wpAny_bind (wpAny_mono h₄ (fun _ s₅ h₅ => wpAny_pure (wpAny_pure ⟨rfl, h₅⟩)) fun _ _ h' => h')) fun _ _ h' => h'))
section
variable {X : Cx}
/-- [elt for target in iter if ..]: D the new list; W by the turn and a measure, Nx what a turn is to reach -/
def tLc (wi : TI) (g : TG) (tt : TT) (te : TE) (vs : List Nat) : TE := fun σ H Q => wi σ H fun J H1 => ∀ D, H1 D = none → ∃ W : Nat → Nat → Hp → Prop, (∃ m, W 0 m (upd H1 D (.lst []))) ∧ ∀ i m H, W i m H →
  (J.stop i H ∧ Q (.ref D) H) ∨ (J.go i H ∧ ∃ Nx : Hp → Prop, (∀ H', Nx H' → ∃ m', m' < m ∧ W (i + 1) m' H') ∧ ∀ x H', J.yld i H x H' → g x (wipe σ vs) H' fun σ2 H2 => wipe σ2 vs = wipe σ vs ∧ tt σ2 H2 fun b H3 =>
    if b = true then te σ2 H3 fun y H4 => ∃ acc, H4 D = some (.lst acc) ∧ acc.length < sizeLine ∧ Nx (upd H4 D (.lst (acc ++ [y]))) else Nx H3)
theorem lc_core {pins : List (Addr × Obj)} {s : Shared} {σ : St} {H : Hp} {Q : VK} {elt tg iter : Expr} {ifs : List Expr} {scope : Scope} {own : List (Str × Nat)} {pos pos' : Pos} {wi : TI} {g : TG} {tt : TT} {te : TE} {use : Option (Value → Sem Unit)} {Qf : Value → Shared → Prop}
    (hc : X.calm = true) (hN : X.N.Nodup) (I : Inv X pins σ H s) (hi : PI X tg iter wi) (ok : BlkOk X.N X.env.scope scope own)
    (hg : ∀ (s : Shared) (H : Hp) (C : Addr) (cl : List (Str × Addr)) (fp : List Addr), PG (X.blk s H scope (compEnvC scope cl C X.env) fp) tg g) (ht : ∀ (s : Shared) (H : Hp) (C : Addr) (cl : List (Str × Addr)) (fp : List Addr), PTs (X.blk s H scope (compEnvC scope cl C X.env) fp) ifs tt)
    (he : ∀ (s : Shared) (H : Hp) (C : Addr) (cl : List (Str × Addr)) (fp : List Addr), PE (X.blk s H scope (compEnvC scope cl C X.env) fp) elt te) (hs : ∀ x, foldedSetIterable iter X.env x = pure x)
    (h : tLc wi g tt te (own.map (·.2)) σ H Q)
    (hRR : ∀ D C s' m H', Inv X pins σ H' s' → Q (.ref D) H' → s'.heap.Ns C m → FpOk X pins H' C → compPost (model X.prog X.w) X.A X.xe use Qf (.ref D) C (.ok .next) s') :
    wpAny (model X.prog X.w) X.A (comprehension (.ListComp elt [⟨tg, iter, ifs, 0⟩] scope pos) scope X.env pos' (newList []) false (eval iter X.env) use) Qf X.xe s := by
  have hfree : ∀ y ∈ scope.names, y.2 = .free → ∃ c, X.env.cells.lookup y.1 = some c := fun y hy e => by
    rcases ok.free y hy e with k | k
    · exact I.ok.has _ (.inl k)
    · exact I.ok.has _ (.inr k)
  refine wpAny_comprehension_free (use := use) rfl hs (closure_ok hfree) ok.kind (fun y hy e => by rw [ok.uniq y hy, e])
    (thn (hi pins s σ H _ I h) fun xv s1 hx => thn hx fun itv s2 h2 => ?_)
  obtain ⟨it, fp, tn, J, H2, e, I2, T, st2, f2, q⟩ := h2
  subst e
  refine wpAny_newObj_type (newEnv_comp ?_) (by show 0 ≤ sizeLine; decide)
  generalize hD : s2.heap.objs.size = D
  have hDn : H2 D = none := I2.hok.fresh (Nat.le_of_eq hD)
  obtain ⟨W, ⟨m0, w0⟩, turn⟩ := q D hDn
  -- the new list
  generalize hs3 : ({ s2 with heap := s2.heap.push { cls := .type "list", data := .seq ([] : List Value).toArray } } : Shared) = s3
  have I3 : Inv X pins σ (upd H2 D (.lst [])) s3 := by
    rw [← hs3]
    refine I2.laid (t' := s2.toks) (fun b o e => Heap.get?_push_of_some _ e) (Nat.le_of_eq hD) ⟨Nat.zero_le _, [], 0, .nil, ?_⟩
    rw [← hD]
    exact Heap.get?_push_size _ rfl
  have h3 : s3.heap = s2.heap.push { cls := .type "list", data := .seq ([] : List Value).toArray } := by rw [← hs3]
  have sz : ∀ b ∈ fp, b < s2.heap.objs.size := fun b hb => by
    obtain ⟨o, e, _⟩ := T.obj _ _ st2 b hb
    exact Heap.lt_size e
  have f3 : ∀ b ∈ fp, FpOk X pins (upd H2 D (.lst [])) b ∧ b < s3.heap.objs.size := fun b hb => by
    have hlt := sz b hb
    refine ⟨⟨?_, (f2 b hb).2⟩, by rw [h3, Heap.size_push]; exact Nat.lt_succ_of_lt hlt⟩
    rw [upd_ne (by rw [← hD]; exact Nat.ne_of_lt hlt)]
    exact (f2 b hb).1
  have st3 : tn 0 s3.heap := T.keep _ _ _ st2 fun b _ o e => by rw [h3]; exact Heap.get?_push_of_some _ e
  have I4 := block_start I3 ok hN f3
  have pg := hg s3 (upd H2 D (.lst [])) s3.heap.objs.size (cellsFrom (s3.heap.objs.size + 1) scope.names (cloFrom X.env.cells scope.names [])) fp
  have pt := ht s3 (upd H2 D (.lst [])) s3.heap.objs.size (cellsFrom (s3.heap.objs.size + 1) scope.names (cloFrom X.env.cells scope.names [])) fp
  have pe := he s3 (upd H2 D (.lst [])) s3.heap.objs.size (cellsFrom (s3.heap.objs.size + 1) scope.names (cloFrom X.env.cells scope.names [])) fp
  show codeAny _ _ (.compStart (.ListComp elt [⟨tg, iter, ifs, 0⟩] scope pos) 0 (.ref it) (.ref D) (compEnvC scope (cellsFrom (s3.heap.objs.size + 1) scope.names (cloFrom X.env.cells scope.names [])) s3.heap.objs.size X.env)) (compPost (model X.prog X.w) X.A X.xe use Qf (.ref D) s3.heap.objs.size) { s3 with heap := pushCells (s3.heap.push { cls := .type "dict", data := .dict #[] }) scope.names }
  have nfp : ∀ b ∈ fp, (upd H2 D (.lst [])) b = none := fun b hb => (f3 b hb).1.1
  generalize hce : compEnvC scope (cellsFrom (s3.heap.objs.size + 1) scope.names (cloFrom X.env.cells scope.names [])) s3.heap.objs.size X.env = ce at I4 pg pt pe ⊢
  have cL : ce.locals = s3.heap.objs.size := by subst hce; rfl
  generalize hH3 : upd H2 D (.lst []) = H3 at I3 I4 pg pt pe w0 nfp f3
  generalize hs4 : ({ s3 with heap := pushCells (s3.heap.push { cls := .type "dict", data := .dict #[] }) scope.names } : Shared) = s4 at I4 ⊢
  have st4 : tn 0 s4.heap := T.keep _ _ _ st3 fun b _ o e => by rw [← hs4]; exact pushCells_keeps _ _ _ _ (Heap.get?_push_of_some _ e)
  have stat : ∀ {σ' : St} {H' : Hp} {s' : Shared}, Inv (X.blk s3 H3 scope ce fp) [] σ' H' s' → (∀ b ∈ fp, H' b = none) → ∀ b ∈ fp, FpOk (X.blk s3 H3 scope ce fp) [] H' b := fun {σ' H' s'} I' hn b hb =>
    ⟨hn b hb, (I'.ok.exf b hb).1, I'.ok.exfs b hb, .inl hb, fun x c e => (I'.ok.exf b hb).2 x c e, fun p hp => absurd (show p ∈ ([] : List (Addr × Obj)) ++ [] from hp) (by simp)⟩
  have loop : codeAny (model X.prog X.w) X.A (.compLoop (.ListComp elt [⟨tg, iter, ifs, 0⟩] scope pos) 0 (.ref it) (.ref D) ce) (compPost (model X.prog X.w) X.A X.xe use Qf (.ref D) s3.heap.objs.size) s4 := by
    refine compLoop_any (fun n s' => ∃ i H', Inv (X.blk s3 H3 scope ce fp) [] (wipe σ (own.map (·.2))) H' s' ∧ tn i s'.heap ∧ (∀ b ∈ fp, H' b = none) ∧ W i n H') ?_ m0 ⟨0, H3, I4, st4, nfp, w0⟩
    rintro n s5 ⟨i, H5, I5, st5, n5, w5⟩
    rcases turn i n H5 w5 with ⟨stop, qq⟩ | ⟨go, Nx, hNx, step⟩
    · have td := T.done (X.blk s3 H3 scope ce fp) rfl rfl rfl hc i [] s5 _ H5 (fun _ _ => False) I5 (stat I5 n5) st5 stop
      refine thnF td fun r s6 ⟨hr, I6⟩ => ?_
      subst hr
      -- back in the def's context
      have I7 : Inv X pins σ H5 s6 := I3.call' (ch := fp) I6.os I6.base I6.hok I6.bare fun b hb => ⟨(f3 b hb).1.2.2.2.1, (f3 b hb).1.2.1, (f3 b hb).1.2.2.2.2.1, (f3 b hb).1.2.2.2.2.2⟩
      have nC : H5 s3.heap.objs.size = none := by
        have z : H5 ce.locals = none := I6.free
        rw [cL] at z
        exact z
      obtain ⟨m, hn, _⟩ := I6.loc
      have hn : s6.heap.Ns ce.locals m := hn
      rw [cL] at hn
      exact hRR D s3.heap.objs.size s6 m H5 I7 qq hn (I3.fpOk (Nat.le_refl _) nC)
    · have ti := T.item (X.blk s3 H3 scope ce fp) rfl rfl rfl hc i [] s5 _ H5 (fun _ _ => False) I5 (stat I5 n5) st5 go
      refine thnF ti fun r s6 ⟨u, hr, h6⟩ => ?_
      subst hr
      refine thnF h6 fun _ s7 ⟨x, H7, I7, r7, y7, st7, n7⟩ => ?_
      have I7' := I7.pinned (stat I7 n7) (T.obj _ _ st7)
      refine thnF (pg _ s7 _ H7 x u _ I7' r7 (step x H7 y7)) fun _ s8 ⟨σ8, H8, I8, hw8, q8⟩ => ?_
      refine thnF (pt _ s8 σ8 H8 _ I8 q8) fun b s9 ⟨H9, I9, q9⟩ => ?_
      -- the turn's end
      have fin : ∀ {s' : Shared} {H' : Hp}, Inv (X.blk s3 H3 scope ce fp) ([] ++ pinsAt fp s7.heap) σ8 H' s' → Nx H' → ∃ m, m < n ∧ ∃ i H', Inv (X.blk s3 H3 scope ce fp) [] (wipe σ (own.map (·.2))) H' s' ∧ tn i s'.heap ∧ (∀ b ∈ fp, H' b = none) ∧ W i m H' := fun {s' H'} I' nx => by
        obtain ⟨m', hm, w'⟩ := hNx H' nx
        have pin' : ∀ b ∈ fp, ∀ o, s7.heap.get? b = some o → s'.heap.get? b = some o ∧ H' b = none := fun b hb o e =>
          let z := I'.pin (b, o) (List.mem_append_right _ (List.mem_append_right _ (mem_pinsAt hb e)))
          ⟨z.1, z.2.1⟩
        have hl : (wipe σ (own.map (·.2))).length = σ8.length := by rw [← hw8, wipe_length]
        refine ⟨m', hm, i + 1, H', (I'.unpinned (pins := [])).weak hl (fun j v e => ?_), T.keep _ _ _ st7 fun b hb o e => (pin' b hb o e).1, fun b hb => ?_, w'⟩
        · rw [← hw8] at e
          exact (wipe_some e).1
        · obtain ⟨o, e, _⟩ := T.obj _ _ st7 b hb
          exact (pin' b hb o e).2
      cases b with
      | false =>
        simp only [Bool.false_eq_true, if_false] at q9 ⊢
        exact fin I9 q9
      | true =>
        simp only [if_true] at q9 ⊢
        refine thnF (pe _ s9 σ8 H9 _ I9 q9) fun z s10 ⟨yv, H10, I10, r10, acc, hD10, hz10, nx⟩ => ?_
        exact app_ok (X := X.blk s3 H3 scope ce fp) I10 hD10 hz10 r10 fun s11 I11 => fin I11 nx
  exact codeAny_compStart_list loop (T.self X.A 0 _ _ _ st4 loop)
/-- as a value -/
theorem pe_lc {elt tg iter : Expr} {ifs : List Expr} {scope : Scope} {own : List (Str × Nat)} {pos : Pos} {wi : TI} {g : TG} {tt : TT} {te : TE} (hc : X.calm = true) (hN : X.N.Nodup) (hi : PI X tg iter wi) (ok : BlkOk X.N X.env.scope scope own)
    (hg : ∀ (s : Shared) (H : Hp) (C : Addr) (cl : List (Str × Addr)) (fp : List Addr), PG (X.blk s H scope (compEnvC scope cl C X.env) fp) tg g) (ht : ∀ (s : Shared) (H : Hp) (C : Addr) (cl : List (Str × Addr)) (fp : List Addr), PTs (X.blk s H scope (compEnvC scope cl C X.env) fp) ifs tt)
    (he : ∀ (s : Shared) (H : Hp) (C : Addr) (cl : List (Str × Addr)) (fp : List Addr), PE (X.blk s H scope (compEnvC scope cl C X.env) fp) elt te) (hs : ∀ x, foldedSetIterable iter X.env x = pure x := by intro _; rfl) :
    PE X (.ListComp elt [⟨tg, iter, ifs, 0⟩] scope pos) (tLc wi g tt te (own.map (·.2))) := by
  intro pins s σ H Q I h
  rw [eval_ListComp]
  refine lc_core hc hN I hi ok hg ht he hs h fun D C s' m H' I' q hn f => ⟨m, hn, fun h'' sb => ?_⟩
  obtain ⟨f0, f1, f2, f3, f4, f5⟩ := f
  exact ⟨.ref D, H', I'.turned (t' := s'.toks) (fun b o hb e => (sb.2 b hb).trans e) f0 f1 f3 f4 f5, rfl, q⟩
/-- name = [..] on one line, the name a local -/
theorem ps_setLc {i : Nat} {y : Str} {py : Pos} {elt tg iter : Expr} {ifs : List Expr} {scope : Scope} {own : List (Str × Nat)} {pos spos : Pos} {wi : TI} {g : TG} {tt : TT} {te : TE} (hc : X.calm = true) (hN : X.N.Nodup) (hy : X.N[i]? = some y) (hyl : X.env.scope.names.lookup y = some .local)
    (hsw : swapsWith (.ListComp elt [⟨tg, iter, ifs, 0⟩] scope pos) (some (.Name y py)) spos.line X.env = pure true) (hi : PI X tg iter wi) (ok : BlkOk X.N X.env.scope scope own)
    (hg : ∀ (s : Shared) (H : Hp) (C : Addr) (cl : List (Str × Addr)) (fp : List Addr), PG (X.blk s H scope (compEnvC scope cl C X.env) fp) tg g) (ht : ∀ (s : Shared) (H : Hp) (C : Addr) (cl : List (Str × Addr)) (fp : List Addr), PTs (X.blk s H scope (compEnvC scope cl C X.env) fp) ifs tt)
    (he : ∀ (s : Shared) (H : Hp) (C : Addr) (cl : List (Str × Addr)) (fp : List Addr), PE (X.blk s H scope (compEnvC scope cl C X.env) fp) elt te) (hs : ∀ x, foldedSetIterable iter X.env x = pure x := by intro _; rfl) :
    PS X (.Assign [.Name y py] (.ListComp elt [⟨tg, iter, ifs, 0⟩] scope pos) spos) (tAsg (tLc wi g tt te (own.map (·.2))) (gName i)) := by
  intro pins s σ H D I h
  rw [exec_Assign_Name_used _ _ _ _ hsw]
  refine wpAny_bind (wpAny_standAt (wpAny_bind ?_))
  show wpAny _ X.A (do let _ ← comprehension (.ListComp elt [⟨tg, iter, ifs, 0⟩] scope pos) scope X.env (firstIterPos [⟨tg, iter, ifs, 0⟩] pos) (newList []) false (eval iter X.env) (some (assign (.Name y py) X.env))) _ _ s
  have h : tLc wi g tt te (own.map (·.2)) σ H (fun x H1 => gName i x σ H1 D.nx) := h
  refine wpAny_bind (thn (lc_core (Qf := fun _ s' => SP X pins D .next s') hc hN I hi ok hg ht he hs h fun L C s' m H' I' q hn f => ?_) fun _ s' hq => wpAny_pure (wpAny_pure hq))
  show wpAny _ _ (assign (.Name y py) X.env (.ref L)) _ _ _
  refine wpAny_assign_Name (store_ok2 (v := V.ref L) I' hN hy (.inl hyl) rfl (fun s2 I2 ⟨a, sb, ha⟩ => ?_) (.inr hyl))
  obtain ⟨f0, f1, f2, f3, f4, f5⟩ := f
  have haC : C ≠ a := by
    rcases ha with z | z
    · rw [z]; exact f1
    · exact fun e => f4 y a z e.symm
  refine ⟨m, hn.sameBut sb haC, fun h3 sb3 => ?_⟩
  exact ⟨_, H', I2.turned (t' := s2.toks) (fun b o hb e => (sb3.2 b hb).trans e) f0 f1 f3 f4 f5, q⟩
theorem sw_true {elt : Expr} {gs : List Comprehension} {scope : Scope} {pos py : Pos} {y : Str} {l : Nat} {env : Env} (hk : env.scope.kind = .function) (hy : env.scope.names.lookup y = some .local) (hl : (py.line == pos.line) = true)
    (ha : (scope.names.any fun (n, k) => n == y && (k == .local || k == .cell)) = false) : swapsWith (.ListComp elt gs scope pos) (some (.Name y py)) l env = pure true := by
  have ky : env.kindOf y = some .local := hy
  have hb : env.blockKind = .function := by unfold Env.blockKind; rw [hk]; rfl
  unfold swapsWith
  simp only [hb, ky, ha, Expr.pos, hl]
  rfl
end
/-! ### the forms one uses -/
/-- over a range: Pv by the turn and the heap (the new list at D within) -/
theorem lc_range {lo : Int} {n : Nat} {g : TG} {tt : TT} {te : TE} {vs : List Nat} {σ : St} {H1 : Hp} {D : Addr} {Qd : Hp → Prop} (Pv : Nat → Hp → Prop) (h0 : Pv 0 (upd H1 D (.lst [])))
    (hs : ∀ i H, i < n → Pv i H → g (.int (lo + i)) (wipe σ vs) H fun σ2 H2 => wipe σ2 vs = wipe σ vs ∧ tt σ2 H2 fun b H3 =>
      if b = true then te σ2 H3 fun y H4 => ∃ acc, H4 D = some (.lst acc) ∧ acc.length < sizeLine ∧ Pv (i + 1) (upd H4 D (.lst (acc ++ [y]))) else Pv (i + 1) H3) (hd : ∀ H, Pv n H → Qd H) :
    ∃ W : Nat → Nat → Hp → Prop, (∃ m, W 0 m (upd H1 D (.lst []))) ∧ ∀ i m H, W i m H →
      ((Itr lo n).stop i H ∧ Qd H) ∨ ((Itr lo n).go i H ∧ ∃ Nx : Hp → Prop, (∀ H', Nx H' → ∃ m', m' < m ∧ W (i + 1) m' H') ∧ ∀ x H', (Itr lo n).yld i H x H' → g x (wipe σ vs) H' fun σ2 H2 => wipe σ2 vs = wipe σ vs ∧ tt σ2 H2 fun b H3 =>
        if b = true then te σ2 H3 fun y H4 => ∃ acc, H4 D = some (.lst acc) ∧ acc.length < sizeLine ∧ Nx (upd H4 D (.lst (acc ++ [y]))) else Nx H3) := by
  refine ⟨fun i m H => m = n - i ∧ i ≤ n ∧ Pv i H, ⟨n, by simp, Nat.zero_le _, h0⟩, ?_⟩
  rintro i m H ⟨rfl, hi, p⟩
  by_cases hlt : i < n
  · refine .inr ⟨hlt, Pv (i + 1), fun H' p' => ⟨n - (i + 1), by omega, rfl, hlt, p'⟩, fun x H' y => ?_⟩
    obtain ⟨e, y⟩ := y
    subst e y
    exact hs i _ hlt p
  · have e : i = n := by omega
    subst e
    exact .inl ⟨Nat.le_refl _, hd H p⟩
/-- over a list that the block leaves as it is -/
theorem lc_list {K : PySem.W.Frag} {a : Addr} {xs : List V} {g : TG} {tt : TT} {te : TE} {vs : List Nat} {σ : St} {H1 : Hp} {D : Addr} {Qd : Hp → Prop} (Pv : Nat → Hp → Prop) (h0 : Pv 0 (upd H1 D (.lst []))) (hl : ∀ i H, i ≤ xs.length → Pv i H → SqL K H a xs)
    (hs : ∀ i x H, xs[i]? = some x → Pv i H → g x (wipe σ vs) H fun σ2 H2 => wipe σ2 vs = wipe σ vs ∧ tt σ2 H2 fun b H3 =>
      if b = true then te σ2 H3 fun y H4 => ∃ acc, H4 D = some (.lst acc) ∧ acc.length < sizeLine ∧ Pv (i + 1) (upd H4 D (.lst (acc ++ [y]))) else Pv (i + 1) H3) (hd : ∀ H, Pv xs.length H → Qd H) :
    ∃ W : Nat → Nat → Hp → Prop, (∃ m, W 0 m (upd H1 D (.lst []))) ∧ ∀ i m H, W i m H →
      ((Itl K a).stop i H ∧ Qd H) ∨ ((Itl K a).go i H ∧ ∃ Nx : Hp → Prop, (∀ H', Nx H' → ∃ m', m' < m ∧ W (i + 1) m' H') ∧ ∀ x H', (Itl K a).yld i H x H' → g x (wipe σ vs) H' fun σ2 H2 => wipe σ2 vs = wipe σ vs ∧ tt σ2 H2 fun b H3 =>
        if b = true then te σ2 H3 fun y H4 => ∃ acc, H4 D = some (.lst acc) ∧ acc.length < sizeLine ∧ Nx (upd H4 D (.lst (acc ++ [y]))) else Nx H3) := by
  refine ⟨fun i m H => m = xs.length - i ∧ i ≤ xs.length ∧ Pv i H, ⟨xs.length, by simp, Nat.zero_le _, h0⟩, ?_⟩
  rintro i m H ⟨rfl, hi, p⟩
  have q := hl i H hi p
  by_cases hlt : i < xs.length
  · refine .inr ⟨⟨xs, xs[i], q, by simp [hlt]⟩, Pv (i + 1), fun H' p' => ⟨xs.length - (i + 1), by omega, rfl, hlt, p'⟩, fun x H' y => ?_⟩
    obtain ⟨e, y⟩ := y
    subst e
    exact hs i x _ (y xs q) p
  · have e : i = xs.length := by omega
    subst e
    exact .inl ⟨⟨xs, q, Nat.le_refl _⟩, hd H p⟩
/-- over a tuple -/
theorem lc_tup {K : PySem.W.Frag} {a : Addr} {xs : List V} {g : TG} {tt : TT} {te : TE} {vs : List Nat} {σ : St} {H1 : Hp} {D : Addr} {Qd : Hp → Prop} (Pv : Nat → Hp → Prop) (h0 : Pv 0 (upd H1 D (.lst []))) (hl : ∀ i H, i ≤ xs.length → Pv i H → SqT K H a xs)
    (hs : ∀ i x H, xs[i]? = some x → Pv i H → g x (wipe σ vs) H fun σ2 H2 => wipe σ2 vs = wipe σ vs ∧ tt σ2 H2 fun b H3 =>
      if b = true then te σ2 H3 fun y H4 => ∃ acc, H4 D = some (.lst acc) ∧ acc.length < sizeLine ∧ Pv (i + 1) (upd H4 D (.lst (acc ++ [y]))) else Pv (i + 1) H3) (hd : ∀ H, Pv xs.length H → Qd H) :
    ∃ W : Nat → Nat → Hp → Prop, (∃ m, W 0 m (upd H1 D (.lst []))) ∧ ∀ i m H, W i m H →
      ((Itt K a).stop i H ∧ Qd H) ∨ ((Itt K a).go i H ∧ ∃ Nx : Hp → Prop, (∀ H', Nx H' → ∃ m', m' < m ∧ W (i + 1) m' H') ∧ ∀ x H', (Itt K a).yld i H x H' → g x (wipe σ vs) H' fun σ2 H2 => wipe σ2 vs = wipe σ vs ∧ tt σ2 H2 fun b H3 =>
        if b = true then te σ2 H3 fun y H4 => ∃ acc, H4 D = some (.lst acc) ∧ acc.length < sizeLine ∧ Nx (upd H4 D (.lst (acc ++ [y]))) else Nx H3) := by
  refine ⟨fun i m H => m = xs.length - i ∧ i ≤ xs.length ∧ Pv i H, ⟨xs.length, by simp, Nat.zero_le _, h0⟩, ?_⟩
  rintro i m H ⟨rfl, hi, p⟩
  have q := hl i H hi p
  by_cases hlt : i < xs.length
  · refine .inr ⟨⟨xs, xs[i], q, by simp [hlt]⟩, Pv (i + 1), fun H' p' => ⟨xs.length - (i + 1), by omega, rfl, hlt, p'⟩, fun x H' y => ?_⟩
    obtain ⟨e, y⟩ := y
    subst e
    exact hs i x _ (y xs q) p
  · have e : i = xs.length := by omega
    subst e
    exact .inl ⟨⟨xs, q, Nat.le_refl _⟩, hd H p⟩
def blkC (N : List Str) (sc scope : Scope) (own : List (Str × Nat)) : Bool :=
  (match scope.kind with | .function => true | _ => false) && (scope.names.all fun y => decide (scope.names.lookup y.1 = some y.2)) && (own.all fun p => decide (N[p.2]? = some p.1)) &&
    (scope.names.all fun y => match y.2 with
      | .free => (match sc.names.lookup y.1 with | some .cell => true | some .free => true | _ => false)
      | .local => decide (y.1 ∈ own.map (·.1)) || decide (y.1 ∉ N)
      | .cell => decide (y.1 ∈ own.map (·.1)) || decide (y.1 ∉ N)
      | _ => true)
theorem blkOk_by {N : List Str} {sc scope : Scope} {own : List (Str × Nat)} (h : blkC N sc scope own = true) : BlkOk N sc scope own := by
  unfold blkC at h
  simp only [Bool.and_eq_true, List.all_eq_true, decide_eq_true_eq] at h
  obtain ⟨⟨⟨h1, h2⟩, h3⟩, h4⟩ := h
  refine ⟨?_, h2, h3, fun y hy e => ?_, fun y hy e => ?_⟩
  · split at h1
    · assumption
    · cases h1
  · have q := h4 y hy
    simp only [e] at q
    split at q <;> first | exact .inl (by assumption) | exact .inr (by assumption) | cases q
  · have q := h4 y hy
    rcases e with e | e <;> (simp only [e, Bool.or_eq_true, decide_eq_true_eq] at q; exact q)
end L2
namespace L2
open PySem PySem.Spec PyProof.Rows
section
variable {prog : Program} {w : World} {A : Around} {R : Result → Shared → Prop} {s : Shared} {elt t0 i0 t1 i1 : Expr} {ifs0 ifs1 : List Expr} {scope : Scope} {pos : Pos} {it acc : Value} {env : Env}
end
section
variable {X : Cx}
end
end L2
namespace L2
open PySem PySem.Spec PyProof.Rows
/-! ### lists of pairs as tables -/
section
variable {κ : Type} [DecidableEq κ]
def valV (kvs : List (κ × V)) (k : κ) : Option V := (kvs.find? fun kv => decide (kv.1 = k)).map (·.2)
/-- in its place, or at the end -/
def putK (kvs : List (κ × V)) (k : κ) (v : V) : List (κ × V) :=
  if (kvs.any fun kv => decide (kv.1 = k)) = true then kvs.map (fun kv => if kv.1 = k then (kv.1, v) else kv) else kvs ++ [(k, v)]
def dropK (kvs : List (κ × V)) (k : κ) : List (κ × V) := kvs.filter fun kv => decide (kv.1 ≠ k)
theorem valV_pos {p : κ × V} {r : List (κ × V)} {k : κ} (e : p.1 = k) : valV (p :: r) k = some p.2 := by simp [valV, List.find?_cons, e]
theorem valV_neg {p : κ × V} {r : List (κ × V)} {k : κ} (e : ¬ p.1 = k) : valV (p :: r) k = valV r k := by simp [valV, List.find?_cons, e]
theorem valV_any (k : κ) : ∀ kvs : List (κ × V), (kvs.any fun kv => decide (kv.1 = k)) = (valV kvs k).isSome
  | [] => rfl
  | p :: r => by
    rw [List.any_cons]
    by_cases e : p.1 = k
    · simp only [valV_pos e, decide_eq_true e, Bool.true_or, Option.isSome_some]
    · rw [valV_neg e, decide_eq_false e, Bool.false_or]; exact valV_any k r
theorem RelO.isSome_eq {o : Option V} {u : Option Value} (r : RelO o u) : o.isSome = u.isSome := by
  cases o with
  | none => cases u with
    | none => rfl
    | some _ => exact (show False from r).elim
  | some _ => cases u with
    | none => exact (show False from r).elim
    | some _ => rfl
theorem RelO.getD {o : Option V} {u : Option Value} {d : V} {d' : Value} (r : RelO o u) (rd : RelV d d') : RelV (o.getD d) (u.getD d') := by
  cases o with
  | none => cases u with
    | none => exact rd
    | some _ => exact (show False from r).elim
  | some _ => cases u with
    | none => exact (show False from r).elim
    | some _ => exact r
/-- raw tables of the same keys -/
theorem KV.val {kvs : List (κ × V)} {vs : List (κ × Value)} (r : KV kvs vs) (k : κ) : RelO (valV kvs k) (valueAt vs k) := by
  unfold KV at r
  induction r with
  | nil => exact True.intro
  | @cons p q ps qs h t ih =>
    obtain ⟨h1, h2⟩ := h
    by_cases e : p.1 = k
    · have e' : q.1 = k := h1.symm.trans e
      have b : valueAt (q :: qs) k = some q.2 := by simp [valueAt, List.find?_cons, e']
      rw [valV_pos e, b]; exact h2
    · have e' : ¬ q.1 = k := fun z => e (h1.trans z)
      have b : valueAt (q :: qs) k = valueAt qs k := by simp [valueAt, List.find?_cons, e']
      rw [valV_neg e, b]; exact ih
theorem KV.any {kvs : List (κ × V)} {vs : List (κ × Value)} (r : KV kvs vs) (k : κ) : (kvs.any fun kv => decide (kv.1 = k)) = vs.any fun kv => decide (kv.1 = k) := by
  unfold KV at r
  induction r with
  | nil => rfl
  | cons h t ih => rw [List.any_cons, List.any_cons, ih, h.1]
theorem KV.repl {kvs : List (κ × V)} {vs : List (κ × Value)} (r : KV kvs vs) (k : κ) {y : V} {u : Value} (ry : RelV y u) :
    KV (kvs.map fun kv => if kv.1 = k then (kv.1, y) else kv) (vs.map fun kv => if kv.1 = k then (kv.1, u) else kv) := by
  unfold KV at r ⊢
  induction r with
  | nil => exact .nil
  | @cons p q ps qs h t ih =>
    rw [List.map_cons, List.map_cons]
    refine .cons ?_ ih
    obtain ⟨h1, h2⟩ := h
    by_cases e : p.1 = k
    · rw [if_pos e, if_pos (h1.symm.trans e)]; exact ⟨h1, ry⟩
    · rw [if_neg e, if_neg (fun z => e (h1.trans z))]; exact ⟨h1, h2⟩
theorem KV.put {kvs : List (κ × V)} {vs : List (κ × Value)} (r : KV kvs vs) (k : κ) {y : V} {u : Value} (ry : RelV y u) : KV (putK kvs k y) (stored vs k u) := by
  unfold putK stored
  rw [r.any k]
  by_cases e : (vs.any fun kv => decide (kv.1 = k)) = true
  · rw [if_pos e, if_pos e]; exact r.repl k ry
  · rw [if_neg e, if_neg e]; exact Paired.snoc r ⟨rfl, ry⟩
theorem KV.drop {kvs : List (κ × V)} {vs : List (κ × Value)} (r : KV kvs vs) (k : κ) : KV (dropK kvs k) (without vs k) := by
  unfold KV at r ⊢
  unfold dropK without
  induction r with
  | nil => exact .nil
  | @cons p q ps qs h t ih =>
    obtain ⟨h1, h2⟩ := h
    rw [List.filter_cons, List.filter_cons]
    by_cases e : p.1 = k
    · have a : ¬ decide (p.1 ≠ k) = true := by simp [e]
      have b : ¬ decide (q.1 ≠ k) = true := by simp [h1.symm.trans e]
      rw [if_neg a, if_neg b]; exact ih
    · have e' : ¬ q.1 = k := fun z => e (h1.trans z)
      have a : decide (p.1 ≠ k) = true := by simp [e]
      have b : decide (q.1 ≠ k) = true := by simp [e']
      rw [if_pos a, if_pos b]; exact .cons ⟨h1, h2⟩ ih
theorem KV.length {kvs : List (κ × V)} {vs : List (κ × Value)} (r : KV kvs vs) : kvs.length = vs.length := Paired.length r
end
/-! ### a tracked dict, its keys ints and texts or tuples of these -/
/-- raw entries of a dict with tuple keys -/
abbrev KT (H : Hp) : List (List Key × V) → List (List Key × Addr × Value) → Prop := Paired fun p q => p.1 = q.1 ∧ H q.2.1 = some (.tup (p.1.map kV)) ∧ RelV p.2 q.2.2
theorem KT.val {H : Hp} {kvs : List (List Key × V)} {xs : List (List Key × Addr × Value)} (r : KT H kvs xs) (k : List Key) : RelO (valV kvs k) ((atKey xs k).map (·.2)) := by
  induction r with
  | nil => exact True.intro
  | @cons p q ps qs h t ih =>
    obtain ⟨h1, _, h2⟩ := h
    by_cases e : p.1 = k
    · have e' : q.1 = k := h1.symm.trans e
      have b : atKey (q :: qs) k = some q.2 := by simp [atKey, List.find?_cons, e']
      rw [valV_pos e, b]; exact h2
    · have e' : ¬ q.1 = k := fun z => e (h1.trans z)
      have b : atKey (q :: qs) k = atKey qs k := by simp [atKey, List.find?_cons, e']
      rw [valV_neg e, b]; exact ih
theorem KT.repl {H : Hp} {kvs : List (List Key × V)} {xs : List (List Key × Addr × Value)} (r : KT H kvs xs) (k : List Key) {y : V} {u : Value} (ry : RelV y u) :
    KT H (kvs.map fun kv => if kv.1 = k then (kv.1, y) else kv) (xs.map (putAt k u)) := by
  induction r with
  | nil => exact .nil
  | @cons p q ps qs h t ih =>
    rw [List.map_cons, List.map_cons]
    refine .cons ?_ ih
    obtain ⟨h1, h2, h3⟩ := h
    unfold putAt
    by_cases e : p.1 = k
    · rw [if_pos e, if_pos (h1.symm.trans e)]; exact ⟨h1, h2, ry⟩
    · rw [if_neg e, if_neg (fun z => e (h1.trans z))]; exact ⟨h1, h2, h3⟩
theorem KT.put {H : Hp} {kvs : List (List Key × V)} {xs : List (List Key × Addr × Value)} (r : KT H kvs xs) (k : List Key) {b : Addr} {y : V} {u : Value} (hb : H b = some (.tup (k.map kV))) (ry : RelV y u) :
    KT H (putK kvs k y) (storedH xs k b u) := by
  have e : (kvs.any fun kv => decide (kv.1 = k)) = (atKey xs k).isSome := by
    rw [valV_any, (r.val k).isSome_eq, Option.isSome_map]
  unfold putK storedH
  rw [e]
  by_cases q : (atKey xs k).isSome = true
  · rw [if_pos q, if_pos q]; exact r.repl k ry
  · rw [if_neg q, if_neg q]; exact Paired.snoc r ⟨rfl, hb, ry⟩
theorem KT.keeps {H H' : Hp} {kvs : List (List Key × V)} {xs : List (List Key × Addr × Value)} (r : KT H kvs xs) (ht : ∀ b ys, H b = some (.tup ys) → H' b = some (.tup ys)) : KT H' kvs xs :=
  Paired.mapP r fun _ _ z => ⟨z.1, ht _ _ z.2.1, z.2.2⟩
section
variable {P : Program} {w : World} {H : Hp} {h : Heap} {a : Addr}
end
/-- what the dict at a holds at the key y -/
def DGet (H : Hp) (a : Addr) (y : V) (r : Option V) : Prop :=
  (∃ kvs k, Rd H a (.dK kvs) ∧ y = kV k ∧ r = valV kvs k) ∨ ∃ kvs k b, Rd H a (.dT kvs) ∧ y = .ref b ∧ H b = some (.tup (k.map kV)) ∧ r = valV kvs k
/-- the heap behind a[y] = v -/
def DPut (H : Hp) (a : Addr) (y v : V) (H' : Hp) : Prop :=
  (∃ kvs k, H a = some (.dK kvs) ∧ y = kV k ∧ kvs.length < sizeLine ∧ H' = upd H a (.dK (putK kvs k v))) ∨
  ∃ kvs k b, H a = some (.dT kvs) ∧ y = .ref b ∧ H b = some (.tup (k.map kV)) ∧ kvs.length < sizeLine ∧ H' = upd H a (.dT (putK kvs k v))
theorem DGet.k {H : Hp} {a : Addr} {kvs : List (Key × V)} {k : Key} (e : H a = some (.dK kvs)) : DGet H a (kV k) (valV kvs k) := .inl ⟨kvs, k, .inl e, rfl, rfl⟩
theorem DGet.t {H : Hp} {a b : Addr} {kvs : List (List Key × V)} {k : List Key} (e : H a = some (.dT kvs)) (eb : H b = some (.tup (k.map kV))) : DGet H a (.ref b) (valV kvs k) := .inr ⟨kvs, k, b, .inl e, rfl, eb, rfl⟩
theorem DPut.k {H : Hp} {a : Addr} {kvs : List (Key × V)} {k : Key} {v : V} (e : H a = some (.dK kvs)) (hl : kvs.length < sizeLine) : DPut H a (kV k) v (upd H a (.dK (putK kvs k v))) := .inl ⟨kvs, k, e, rfl, hl, rfl⟩
theorem DPut.t {H : Hp} {a b : Addr} {kvs : List (List Key × V)} {k : List Key} {v : V} (e : H a = some (.dT kvs)) (eb : H b = some (.tup (k.map kV))) (hl : kvs.length < sizeLine) :
    DPut H a (.ref b) v (upd H a (.dT (putK kvs k v))) := .inr ⟨kvs, k, b, e, rfl, eb, hl, rfl⟩
section
variable {X : Cx} {pins : List (Addr × Obj)} {σ : St} {H : Hp} {s : Shared} {a : Addr} {y v : V} {u r : Value} {o : Option V} {A : Around} {E : Value → Shared → Prop}
theorem Inv.big (I : Inv X pins σ H s) : sysModules < s.heap.objs.size := by
  have h : mainGlobals < s.heap.objs.size := (I.mod.glob.keeps I.bk).lt
  exact Nat.lt_trans (by decide) h
end
section
variable {X : Cx} {pins : List (Addr × Obj)} {σ : St} {H : Hp} {s : Shared} {a : Addr} {kvs : List (Key × V)} {k : Key} {u : Value} {A : Around} {E : Value → Shared → Prop}
end
/-! ### readings and rules -/
section
variable {X : Cx} {o i e value : Expr} {pos pos' tpos : Pos} {td ty tv : TE}
end
/-! ### displays -/
section
variable {X : Cx} {pos : Pos}
end
/-! ### methods -/
section
variable {X : Cx} {pins : List (Addr × Obj)} {σ : St} {H : Hp} {s : Shared} {a : Addr} {y d : V} {u r : Value} {o : Option V} {A : Around} {E : Value → Shared → Prop}
end
section
variable {X : Cx} {o e f : Expr} {apos cpos : Pos} {td ty tx : TE}
end
/-! ### dict(d): a copy -/
section
variable {X : Cx} {pins : List (Addr × Obj)} {σ : St} {H : Hp} {s : Shared} {a : Addr} {kvs : List (Key × V)} {A : Around} {E : Value → Shared → Prop}
end
section
variable {X : Cx} {pins : List (Addr × Obj)} {σ : St} {H : Hp} {s : Shared} {a : Addr} {y : V} {u : Value} {A : Around} {E : Value → Shared → Prop}
end
end L2
namespace L2
open PySem PySem.Spec PyProof.Rows
section
variable {prog : Program} {w : World} {A : Around} {E : Value → Shared → Prop}
end
section
variable {X : Cx}
end
end L2
namespace L2
open PySem PySem.Spec PyProof.Rows
section
variable {X : Cx} {pins : List (Addr × Obj)} {σ : St} {H : Hp} {s : Shared} {h' : Heap}
/-- .. and one new object is laid -/
theorem Inv.turnedNew {t' : Nat} {ch : List Addr} {T : Addr} {ob : HO} (I : Inv X pins σ H s) (k : ∀ b o, b ∉ ch → s.heap.get? b = some o → h'.get? b = some o) (hf : ∀ b ∈ ch, FpOk X pins H b) (hT : s.heap.objs.size ≤ T)
    (new : ObjOk X.prog X.w (upd H T ob) h' T ob) : Inv X pins σ (upd H T ob) { s with heap := h', toks := t' } := by
  have hn : H T = none := I.hok.fresh hT
  have nit : ∀ b u, H b = some u → b ∉ ch := fun b u e z => by
    have q := (hf b z).1
    rw [q] at e; cases e
  refine I.step (g' := s.gens) (d' := s.drawn) (ch := ch) (fun b hb => ⟨(hf b hb).2.2.2.1, (hf b hb).2.1, (hf b hb).2.2.2.2.1, (hf b hb).2.2.2.2.2⟩) (fun b o _ _ hc e _ => k b o hc e) (fun b o _ _ hc e _ => ⟨o.slots, k b o hc e⟩)
    (fun b o _ e n => ?_) (fun b o hc e => ⟨o, k b o hc e⟩) (fun b xs e => ?_) (fun b o u e => ?_) (fun b ps e => ⟨#[], ?_⟩) (fun m hm => ?_) (fun b u e => ?_) I.bare
  · rw [upd_ne (Nat.ne_of_lt (Nat.lt_of_lt_of_le (Heap.lt_size e) hT))]; exact n
  · rw [upd_ne (ne_of_none e hn)]; exact e
  · rw [upd_ne (ne_of_none e hn)]; exact e
  · rw [upd_ne (ne_of_none e hn), e]; simp
  · obtain ⟨o, es, ep, ho, r⟩ := hm
    exact ⟨o, es, ep, k _ o (fun z => (hf _ z).2.1 rfl) ho, r⟩
  · by_cases hb : b = T
    · subst hb
      rw [upd_same] at e
      cases e
      exact new
    · rw [upd_ne hb] at e
      refine (I.hok b u e).stay (fun c v hc q => k c v ?_ q) (fun c q => by rw [upd_ne (ne_of_none q hn)]; exact q) fun c xs q => by rw [upd_ne (ne_of_none q hn)]; exact q
      rcases hc with z | z
      · rw [z]; exact nit b u e
      · exact nit c _ z
/-! ### locking a thing while a statement runs -/
end
section
variable {X : Cx}
/-! ### one iterator just laid -/
theorem pi_one {tg : Expr} {pins : List (Addr × Obj)} {σ : St} {H : Hp} {s : Shared} {R : It → Hp → Prop} {J : It} {tn : Nat → Heap → Prop} {tk : Nat} (I : Inv X pins σ H s) (o : Obj)
    (T : Turn X.prog X.w X.K tg J [s.heap.objs.size] s.heap.objs.size tn) (st : tn 0 (s.heap.push o)) (q : R J H) : PIE X pins σ tg R (.ref s.heap.objs.size) { s with heap := s.heap.push o, toks := tk } := by
  refine ⟨s.heap.objs.size, [s.heap.objs.size], tn, J, H, rfl, I.kept fun b ob e => Heap.get?_push_of_some _ e, T, st, fun b hb => ?_, q⟩
  have e : b = s.heap.objs.size := by simpa using hb
  subst e
  exact I.fpOk (Nat.le_refl _) (I.hok.fresh (Nat.le_refl _))
end
/-! ### range with a step -/
/-- range(i, j, c): small bounds, n items -/
def RgC (i j c : Int) (n : Nat) : Prop := c ≠ 0 ∧ c.natAbs < 1073741824 ∧ Builtin.Range.small i j c = true ∧ Builtin.Range.rangeSize i j c = n
theorem RgC.neg {i j : Int} (ha : -(2 ^ 62) ≤ i) (ha' : i < 2 ^ 62) (hb : -(2 ^ 62) ≤ j) (hb' : j < 2 ^ 62) : RgC i j (-1) (i - j).toNat :=
  ⟨by decide, by decide, PySem.W.small_down ha ha' hb hb', PySem.W.rangeSize_downNat i j⟩
section
variable {X : Cx} {tg : Expr}
end
/-! ### reversed(list) -/
section
variable {X : Cx} {tg : Expr}
end
/-! ### a str -/
def Its (x : Str) : It := ⟨fun i _ => i < x.cps.size, fun i H v H' => H' = H ∧ ∃ c, x.cps[i]? = some c ∧ v = .str ⟨#[c]⟩, fun i _ => x.cps.size ≤ i⟩
theorem turn_str {P : Program} {w : World} {K : PySem.W.Frag} {tg : Expr} (it : Addr) (x : Str) (t : Tok) (ty : String) (hty : ty = "str_ascii_iterator" ∨ ty = "str_iterator") :
    Turn P w K tg (Its x) [it] it (fun i h => h.IsStrIter it ty x t i) where
  mem := by simp
  obj := fun i h st b hb => by
    have e : b = it := by simpa using hb
    subst e
    obtain ⟨o, e, c, d⟩ := st
    exact ⟨o, e, fun v z => by rw [d] at z; cases z⟩
  keep := fun i h h' st k => let ⟨o, ho, r⟩ := st; ⟨o, k it (by simp) o ho, r⟩
  item := by
    intro X hP hw hK hc i pins s σ H E I hf st hg
    subst hP hw hK
    obtain ⟨f0, f1, f2, f3, f4, f5⟩ := hf it (by simp)
    have W : Walks X.prog X.w X.A it [it] [it] x.cps.size (SignAt x) (fun i h => h.IsStrIter it ty x t i) := by
      rcases hty with e | e
      · rw [e]; exact Walks.strAscii (I.ok.hd hc) it x t
      · rw [e]; exact Walks.strWide (I.ok.hd hc) it x t
    have hno : ["enumerate", "zip", "dict_itemiterator", "dict_reverseitemiterator", "odict_iterator", "itertools.zip_longest", "itertools.pairwise"].contains ty = false := by
      rcases hty with e | e
      · rw [e]; decide
      · rw [e]; decide
    refine W.item i s _ _ hg st fun v h' tk hv st' kk => ?_
    obtain ⟨c, u, hcx, rfl⟩ := hv
    have I1 : Inv X pins σ H { s with heap := h', toks := tk } := I.turned (fun b o hb e => kk b o (by simpa using hb) e) f0 f1 f3 f4 f5
    obtain ⟨oi, e, cc, dd⟩ := id st'
    exact ⟨_, rfl, go_of (s := { s with heap := h', toks := tk }) e cc dd hno ⟨.str ⟨#[c]⟩, H, I1, ⟨u, rfl⟩, ⟨rfl, c, hcx, rfl⟩, st', fun b hb => (hf b hb).1⟩⟩
  done := by
    intro X hP hw hK hc i pins s σ H E I hf st hg
    subst hP hw hK
    obtain ⟨f0, f1, f2, f3, f4, f5⟩ := hf it (by simp)
    have hx : x.cps[i]? = none := Array.getElem?_eq_none hg
    rcases hty with e | e
    · rw [e] at st
      exact wpAny_pyNext_ascii_end (I.ok.hd hc) st hx fun h' eb => ⟨rfl, I.turned (t' := s.toks) (fun b o hb e => eb b o hb e) f0 f1 f3 f4 f5⟩
    · rw [e] at st
      exact wpAny_pyNext_wide_end (I.ok.hd hc) st hx fun h' eb => ⟨rfl, I.turned (t' := s.toks) (fun b o hb e => eb b o hb e) f0 f1 f3 f4 f5⟩
  self := fun A i s Q E st h => by
    rcases hty with e | e
    · rw [e] at st; exact wpAny_pyIter_striter_ascii st h
    · rw [e] at st; exact wpAny_pyIter_striter_wide st h
def iStr (te : TE) : TI := fun σ H R => te σ H fun v H1 => ∃ x, v = .str x ∧ R (Its x) H1
theorem pi_str {X : Cx} {tg e : Expr} {te : TE} (he : PE X e te) : PI X tg e (iStr te) := by
  intro pins s σ H R I h
  refine thn (he pins s σ H _ I h) fun v s1 ⟨y, H1, I1, r1, x, ex, q⟩ => ?_
  subst ex
  obtain ⟨t, rfl⟩ := r1
  cases ha : x.cps.all (· < 128)
  · exact wpAny_pyIter_wide ha (pi_one (tk := s1.toks) I1 _ (turn_str _ x t "str_iterator" (.inr rfl)) ⟨_, Heap.get?_push_size _ rfl, rfl, rfl⟩ q)
  · exact wpAny_pyIter_ascii ha (pi_one (tk := s1.toks) I1 _ (turn_str _ x t "str_ascii_iterator" (.inl rfl)) ⟨_, Heap.get?_push_size _ rfl, rfl, rfl⟩ q)
/-! ### a dict's keys: any dict's entries -/
section
variable {prog : Program} {w : World} {A : Around} {E : Value → Shared → Prop} {s : Shared}
end
/-! ### a locked dict -/
section
variable {X : Cx} {pins : List (Addr × Obj)} {σ : St} {H : Hp} {s : Shared} {d : Addr} {o : Obj}
end
section
variable {P : Program} {w : World} {K : PySem.W.Frag} {tg : Expr} {d : Addr} {o : Obj} {es : Array DictEntry} {ep : Nat}
end
/-! ### for k in d, d.keys(), d.values(), d.items() -/
section
variable {X : Cx} {tg e : Expr} {td : TE} {apos cpos : Pos}
end
/-! ### enumerate(list) -/
/-- the list at a as it stands at each turn, each item in a new pair -/
def Ite (K : PySem.W.Frag) (a : Addr) : It :=
  ⟨fun i H => ∃ (xs : List V) (x : V), SqL K H a xs ∧ xs[i]? = some x, fun i H v H' => ∃ T x, v = .ref T ∧ H T = none ∧ H' = upd H T (.tup [.int (i : Nat), x]) ∧ ∀ xs, SqL K H a xs → xs[i]? = some x, fun i H => ∃ xs : List V, SqL K H a xs ∧ xs.length ≤ i⟩
theorem turn_enum {P : Program} {w : World} {K : PySem.W.Frag} {elts : List Expr} {kk : Nat} {tpos : Pos} (a e it : Addr) :
    Turn P w K (.Tuple elts kk tpos) (Ite K a) [e, it] e (fun i h => (∃ old, IsEnum h e it ((i : Nat) : Int) old) ∧ h.IsListIter it a i ∧ e ≠ it) where
  mem := by simp
  obj := fun i h st b hb => by
    obtain ⟨⟨old, he⟩, ⟨o, ho, hc, hd⟩, _⟩ := st
    have e' : b = e ∨ b = it := by simpa using hb
    rcases e' with z | z
    · rw [z]; exact ⟨_, he, fun v q => nomatch q⟩
    · rw [z]; exact ⟨o, ho, fun v q => by rw [hd] at q; cases q⟩
  keep := fun i h h' st k => let ⟨⟨old, he⟩, hi, hne⟩ := st; ⟨⟨old, k e (by simp) _ he⟩, hi.at fun o q => k it (by simp) o q, hne⟩
  item := by
    intro X hP hw hK hc i pins s σ H E I hf st hg
    subst hP hw hK
    obtain ⟨⟨old, he⟩, hit, hne⟩ := st
    obtain ⟨xs, x, hq, hx⟩ := hg
    obtain ⟨its, rv, p, hz⟩ := I.list hq
    obtain ⟨u, hu, ru⟩ := rv.get hx
    have hel : e < s.heap.objs.size := Heap.lt_size he
    have hil : it < s.heap.objs.size := by obtain ⟨_, q, _⟩ := hit; exact Heap.lt_size q
    refine wpAny_pyNext_enum_item he hit p.isList (x := u) (by simpa using hu) hne fun h' ho hit' hT hsz hk => ?_
    refine ⟨_, rfl, wpAny_letOwnedTupleGo_enum (s := { s with heap := h', toks := s.toks + 1 }) ho fun h'' he' sb => ?_⟩
    have hT2 : h''.get? s.heap.objs.size = some { cls := .type "tuple", data := .seq #[.int i s.toks, u] } := (sb.2 _ (Nat.ne_of_gt hel)).trans hT
    have new : ObjOk X.prog X.w (upd H s.heap.objs.size (.tup [.int (i : Nat), x])) h'' s.heap.objs.size (.tup [.int (i : Nat), x]) :=
      ⟨by show 2 ≤ sizeLine; decide, [.int i s.toks, u], .cons ⟨_, rfl⟩ (.cons ru .nil), ⟨_, hT2, rfl, _, rfl⟩⟩
    have I1 : Inv X pins σ (upd H s.heap.objs.size (.tup [.int (i : Nat), x])) { s with heap := h'', toks := s.toks + 1 } :=
      I.turnedNew (ch := [e, it]) (fun b ob hb q => (sb.2 b (fun z => hb (by simp [z]))).trans (hk b ob (fun z => hb (by simp [z])) (fun z => hb (by simp [z])) q)) hf (Nat.le_refl _) new
    refine ⟨.ref s.heap.objs.size, _, I1, rfl, ⟨_, x, rfl, I.hok.fresh (Nat.le_refl _), rfl, fun ys hy => by rw [I.list_inj hy hq]; exact hx⟩, ⟨⟨u, ?_⟩, hit'.at fun o q => (sb.2 it (Ne.symm hne)).trans q, hne⟩, fun b hb => ?_⟩
    · have e1 : ((i + 1 : Nat) : Int) = (i : Int) + 1 := by omega
      rw [e1]; exact he'
    · have hb' : b < s.heap.objs.size := by
        have e' : b = e ∨ b = it := by simpa using hb
        rcases e' with z | z
        · rw [z]; exact hel
        · rw [z]; exact hil
      rw [upd_ne (Nat.ne_of_lt hb')]
      exact (hf b hb).1
  done := by
    intro X hP hw hK hc i pins s σ H E I hf st hg
    subst hP hw hK
    obtain ⟨⟨old, he⟩, hit, hne⟩ := st
    obtain ⟨xs, hq, hx⟩ := hg
    obtain ⟨its, rv, p, hz⟩ := I.list hq
    obtain ⟨f0, f1, f2, f3, f4, f5⟩ := hf it (by simp)
    have hl := rv.length
    exact wpAny_pyNext_enum_end (I.ok.hd hc) he hit p.isList (by simp; omega) fun h' eb => ⟨rfl, I.turned (t' := s.toks) (fun b o hb q => eb b o hb q) f0 f1 f3 f4 f5⟩
  self := fun A i s Q E st h => let ⟨⟨_, he⟩, _⟩ := st; wpAny_pyIter_enum he h
def iEnum (K : PySem.W.Frag) (ta : TA) : TI := fun σ H R => ta σ H fun vs H1 => ∃ a xs, vs = [.ref a] ∧ SqL K H1 a xs ∧ R (Ite K a) H1
theorem pi_enum {X : Cx} {e : Expr} {ta : TA} {p pos tpos : Pos} {elts : List Expr} {kk : Nat} (hg : Gl X "enumerate") (hm : X.mg "enumerate" = none) (ha : PA X [e] ta) (hs : starEach [e] X.env = [(false, eval e X.env)] := by rfl) :
    PI X (.Tuple elts kk tpos) (.Call (.Name "enumerate" p) [e] [] pos) (iEnum X.K ta) := by
  intro pins s σ H R I h
  refine Call_ (ld_blt I hg hm boot_enumerate (PyProof.Rows.callWith_type1 (thn (ha pos pins s σ H _ I h) fun us s1 ⟨vs, H1, I1, r1, q1⟩ => ?_) hs rfl))
  obtain ⟨a, xs, ex, hq, q⟩ := q1
  subst ex
  cases r1 with
  | cons r rr =>
    cases rr
    cases r
    obtain ⟨its, rv, p', hz⟩ := I1.list hq
    refine call_enumerate_list p'.isList fun h' he hit hsz hk => wpAny_pyIter_enum he ?_
    have I2 : Inv X pins σ H1 { s1 with heap := h' } := I1.kept (t' := s1.toks) hk
    refine ⟨s1.heap.objs.size + 1, [s1.heap.objs.size + 1, s1.heap.objs.size], _, _, H1, rfl, I2, turn_enum a (s1.heap.objs.size + 1) s1.heap.objs.size, ⟨⟨.none, he⟩, hit, Nat.succ_ne_self _⟩, fun b hb => ?_, q⟩
    have e' : b = s1.heap.objs.size + 1 ∨ b = s1.heap.objs.size := by simpa using hb
    have hle : s1.heap.objs.size ≤ b := by
      rcases e' with z | z
      · rw [z]; exact Nat.le_add_right _ _
      · rw [z]; exact Nat.le_refl _
    exact I1.fpOk hle (I1.hok.fresh hle)
/-! ### zip(list, list) -/
end L2
section 
namespace Bits
open PySem PyProof.Rows
end Bits
end 
section 
namespace TL
open PySem PySem.Builtin PySem.Builtin.Str PySem.StrLaws
abbrev tl (x : Str) : List Nat := x.cps.toList
/-! ### the list functions -/
/-- S stands at the head of l -/
def pre (S l : List Nat) : Bool := l.take S.length == S
/-- what stands before the first S, and behind it -/
def par (S : List Nat) : List Nat → List Nat → Option (List Nat × List Nat)
  | _, [] => none
  | acc, c :: r => if pre S (c :: r) = true then some (acc, (c :: r).drop S.length) else par S (acc ++ [c]) r
/-! ### the model's split and partition are these -/
/-! ### computing spl and par -/
/-! ### digits -/
/-! ### words: x.split() -/
end TL
end 
namespace L2
open PySem PySem.Spec PyProof.Rows
section
variable {X : Cx} {pins : List (Addr × Obj)} {σ : St} {H : Hp} {s : Shared} {Q : VK}
end
section
variable {X : Cx}
/-! ### of a text alone -/
/-! ### of a text and a text -/
end
section
variable {X : Cx} {o e : Expr} {to te : TE}
end
end L2
namespace L2
open PySem PySem.Spec PyProof.Rows
section
variable {X : Cx}
end
/-! ### slices of a text -/
end L2
namespace Att
open PySem PySem.W PySem.Calls PyProof.Rows
/-! ### the script -/
/-! ### the attachment: holds_open's last premise (the goal 'hc' behind k_head) from a wpAny of the law's body -/
/-! ### rules over ANY heap (no ledger) from facts about the written part K: the library's own take a ledger (News) for what they write -/
section
variable {prog : Program} {w : World} {A : Around} {E : Value → Shared → Prop} {s : Shared} {K : Frag}
/-! the whole heap as the ledger: makes every rule that writes through a ledger a rule over any heap -/
end
end Att
namespace L2
open PySem PySem.Spec PyProof.Rows
end L2
namespace L2
open PySem PySem.Spec PyProof.Rows
end L2
/-! SHORT WORDS over the layer: a def of the text, its body, what a loop and a test want. -/
namespace L2
open PySem PySem.Spec PyProof.Rows
/-! ### the text by places -/
/-- the j-th statement of a class's body -/
def inClass (s : Stmt) (j : Nat) : Stmt := match s with
  | .ClassDef _ _ _ body _ _ _ _ _ _ _ => body.getD j (.Pass ⟨0, 0, 0, 0⟩)
  | _ => .Pass ⟨0, 0, 0, 0⟩
def defArgs (s : Stmt) : Arguments := match s with
  | .FunctionDef _ a _ _ _ _ _ _ _ _ => a
  | _ => { posonlyargs := [], args := [], vararg := none, kwonlyargs := [], kw_defaults := [], kwarg := none, defaults := [] }
def defBody (s : Stmt) : List Stmt := match s with
  | .FunctionDef _ _ b _ _ _ _ _ _ _ => b
  | _ => []
def defScope (s : Stmt) : Scope := match s with
  | .FunctionDef _ _ _ _ _ _ sc _ _ _ => sc
  | _ => { kind := .function, names := [], isGenerator := false, isCoroutine := false }
/-! ### no exception leaves a def -/
abbrev CX0 : CXT := fun _ _ _ _ _ _ => False
/-! ### a def (or method) of the text as it stands behind the top -/
structure Fun (K : PySem.W.Frag) (x qual : Str) (st : Stmt) (f : Addr) (fd : FuncData) : Prop where
  ex : ∃ (oc : Value) (od : Option Addr) (kV doc pm : Value) (an : Option Addr) (cdv ct : Value) (osl : Array (Option Value)),
    fd = PySem.W.fnOf x qual (defArgs st) (defBody st) (defScope st) .none kV doc pm an cdv ct ∧ K.lookup f = some ⟨oc, od, .func fd, osl⟩ ∧ PySem.W.codeIn K cdv qual = true
  kp : PySem.W.keepIn K (.ref f) = true
section
variable {P : Program} {w : World} {K : PySem.W.Frag} {mg : Str → Option Value} {base : Heap}
/-- THE RULE for a def: its body as a term of rules, and the reading of that term -/
theorem Fun.ok {x qual : Str} {st : Stmt} {f : Addr} {fd : FuncData} {N ps : List Str} {k : Nat} {sp : Sp} (F : Fun K x qual st f fd) (S : FnScope N ps (defScope st)) (len : ∀ vs H Q E, sp vs H Q E → vs.length = ps.length)
    (hbody : ∀ (cdv : Value) (A : Around) (outer : List Env) (s : Shared) (H : Hp) (vs : List V) (Q : VK) (E : XK), Room k (A.deeper (envOfC qual (defScope st) s.heap.objs.size f cdv)) → sp vs H Q E →
      ∃ t, PSs (cxOf CX0 P w K mg base N qual (defScope st) f cdv A outer s H E).nox (defBody st) t ∧ t { nx := fun _ H' => Q .non H', rt := Q } (start N vs) H) : FnOk P w K mg base CX0 (k + 1) f fd ps sp := by
  obtain ⟨oc, od, kV, doc, pm, an, cdv, ct, osl, rfl, lk, hcd⟩ := F.ex
  refine fn_of lk hcd S len fun A outer s H vs Q E hr hsp => ?_
  obtain ⟨t, h, q⟩ := hbody cdv A outer s H vs Q E hr hsp
  exact ⟨t, h.nox, q⟩
/-- how its arguments bind (no defaults): h is «fun _ _ _ _ _ _ us hl => match us, hl with | [_, _], _ => rfl», one _ a parameter -/
theorem Fun.binds {x qual : Str} {st : Stmt} {f : Addr} {fd : FuncData} {ps : List Str} (F : Fun K x qual st f fd)
    (h : ∀ (kV doc pm : Value) (an : Option Addr) (cdv ct : Value) (us : List Value), us.length = ps.length → bindArgs (PySem.W.fnOf x qual (defArgs st) (defBody st) (defScope st) .none kV doc pm an cdv ct) ⟨us, []⟩ = pure (ps.zip us)) : Binds K fd ps [] := by
  obtain ⟨oc, od, kV, doc, pm, an, cdv, ct, osl, rfl, lk, hcd⟩ := F.ex
  exact .all (h kV doc pm an cdv ct)
end
/-! ### expressions in short: the name that stands in the i-th slot -/
section
variable {X : Cx}
theorem pv (i : Nat) {x : Str} {pos : Pos} (hN : X.N[i]? = some x := by rfl) (hv : Vis X.env.scope x := by first | exact Or.inl rfl | exact Or.inr (Or.inl rfl) | exact Or.inr (Or.inr rfl)) (hd : (x == ("__debug__" : Str)) = false := by decide)
    (hcd : (x == ("__classdict__" : Str)) = false := by decide) : PE X (.Name x pos) (tVar i) := pe_var hN hv hd hcd
end
/-! ### tests -/
theorem iteF {A B : Prop} (h : B) : if false = true then A else B := by
  rw [if_neg Bool.false_ne_true]
  exact h
theorem iteT {A B : Prop} (h : A) : if true = true then A else B := by
  rw [if_pos rfl]
  exact h
theorem ite2 {c A B : Prop} [Decidable c] (h1 : c → A) (h2 : ¬ c → B) : if c then A else B := by
  by_cases h : c
  · rw [if_pos h]
    exact h1 h
  · rw [if_neg h]
    exact h2 h
/-! ### heaps -/
/-- all that was tracked is as it was -/
def Same (H H' : Hp) : Prop := ∀ b o, H b = some o → H' b = some o
theorem Same.refl (H : Hp) : Same H H := fun _ _ h => h
theorem Same.trans {H H1 H2 : Hp} (a : Same H H1) (b : Same H1 H2) : Same H H2 := fun c o h => b c o (a c o h)
theorem Same.free {H H' : Hp} (e : Same H H') {l : Addr} (h : H' l = Option.none) : H l = Option.none := by
  cases q : H l with
  | none => rfl
  | some o =>
    rw [e l o q] at h
    cases h
theorem Same.seq {K : PySem.W.Frag} {H H' : Hp} {a : Addr} {xs : List V} (e : Same H H') (h : SqL K H a xs) : SqL K H' a xs := by
  rcases h with (h | ⟨o, h⟩) | h
  · exact .inl (.inl (e _ _ h))
  · exact .inl (.inr ⟨o, e _ _ h⟩)
  · exact .inr h
/-! ### a dict's pairs: keys that differ -/
section
variable {κ : Type} [DecidableEq κ]
end
/-! ### lists -/
theorem at_of {xs : List V} {z : Int} {j : Nat} {v : V} (e : z = (j : Int)) (h : xs[j]? = some v) : atI xs z = some v := by
  rw [e]
  exact atI_nat h
/-- a new instance and its __init__ leave all that was tracked as it was -/
theorem Same.made {H H1 : Hp} {x dx C : Addr} (nx : H x = Option.none) (nd : H dx = Option.none) (k : ∀ b o, (upd (upd H dx (.own x)) x (.ins C dx [])) b = some o → b ≠ x → H1 b = some o) : Same H H1 := fun b o e =>
  k b o (by rw [upd_ne (ne_of_none e nx), upd_ne (ne_of_none e nd)]; exact e) (ne_of_none e nx)
end L2
end
section
set_option Elab.async false
set_option linter.all false
set_option maxRecDepth 100000
/-! EXCEPTIONS over the hand layer: raise C(), a callee's exception handed on, try with two handlers. -/
namespace L2
open PySem PySem.Spec PyProof.Rows

/-- an exception in flight behind a call: B is what it leaves as it is -/
def CXe (P : Program) (w : World) : CXT := fun outer H s E e s' => ∃ (ea C : Addr) (a0 : Value) (B : Heap) (H' : Hp),
  e = .ref ea ∧ E (.ref C) none H' ∧ s'.os = s.os ∧ AllBare s'.gens ∧ Un (frs outer) [] H H' s.heap s'.heap ∧ HOk P w H' B ∧
  Heap.FlyingW B outer ea (.ref C) a0 s'.heap ∧ (∀ b o, s.heap.get? b = some o → H b = none → b ∉ frs outer → B.get? b = some o) ∧
  (∀ b o, s.heap.get? b = some o → b ∉ frs outer → ∃ o', B.get? b = some o')

/-- the context's exceptions leave the frame and lie then as CXe says -/
structure Lv (X : Cx) (E : XK) : Prop where
  xe : X.xe = fun e s' => wpAny (model X.prog X.w) X.A (leaving X.env e) (fun _ s'' => CXe X.prog X.w X.outer X.H_0 X.s_0 E e s'') (fun e' s'' => CXe X.prog X.w X.outer X.H_0 X.s_0 E e' s'') s'
  stk : X.stack = X.env :: X.outer
  fr : X.env.frame = some X.env.locals
  ex : X.ex = []
  calm : X.calm = true
theorem Lv.of {P : Program} {w : World} {K : PySem.W.Frag} {mg : Str → Option Value} {base : Heap} {N : List Str} {qual : Str} {scope : Scope} {f : Addr} {cd : Value} {A : Around} {outer : List Env} {s : Shared} {H : Hp} {E : XK} :
    Lv (cxOf (CXe P w) P w K mg base N qual scope f cd A outer s H E) E := ⟨rfl, rfl, rfl, rfl, rfl⟩

section
variable {X : Cx} {E : XK} {pins : List (Addr × Obj)} {σ : St} {H : Hp} {s : Shared}
theorem Inv.nost (I : Inv X pins σ H s) {b : Addr} {o : Obj} (e : X.s_0.heap.get? b = some o) (hb : b ∉ X.fs) : b ∉ frs X.stack := fun z => by
  rcases List.mem_cons.mp (I.stkSub b z) with q | q
  · have h1 := Nat.lt_of_lt_of_le (Heap.lt_size e) I.ok.above
    rw [q] at h1
    exact Nat.lt_irrefl _ h1
  · exact hb q
/-- from the entry to behind the exception -/
theorem Inv.flown (I : Inv X pins σ H s) (hx : X.ex = []) {H' : Hp} {B h1 h2 : Heap} (un : Un (frs X.stack) [] H H' s.heap h1)
    (hB : ∀ b o, s.heap.get? b = some o → H b = none → b ∉ frs X.stack → B.get? b = some o) (hT : ∀ b o, s.heap.get? b = some o → b ∉ frs X.stack → ∃ o', B.get? b = some o')
    (st : B.StaysIn h2) (us : h1.UpToSlots h2) : Un X.fs [] X.H_0 H' X.s_0.heap h2 := by
  have noex : ∀ b : Addr, b ∉ X.ex := fun b z => by rw [hx] at z; cases z
  have slot : ∀ b o, X.s_0.heap.get? b = some o → X.H_0 b = none → b ∈ X.fs → ∃ sl, h2.get? b = some { o with slots := sl } := fun b o e n hb => by
    obtain ⟨sl, e1⟩ := I.base.slot b o e n hb (noex b)
    obtain ⟨sl2, e2⟩ := un.any e1 (I.base.free b o e n (noex b)) (by simp)
    obtain ⟨_, o', ho', hnf⟩ := I.ok.funs.mem hb
    rw [e] at ho'
    cases ho'
    obtain ⟨sl3, e3⟩ := us b _ e2 hnf
    exact ⟨sl3, e3⟩
  refine ⟨fun b o e n hb _ => ?_, fun b o e n hb _ => slot b o e n hb, fun b o e n _ => ?_, fun b o e _ => ?_, fun b xs e => un.tups b xs (I.base.tups b xs e), fun b o u e => un.frzs b o u (I.base.frzs b o u e), fun b ps e => ?_⟩
  · exact st b o (hB b o (I.base.keep b o e n hb (noex b)) (I.base.free b o e n (noex b)) (I.nost e hb))
  · obtain ⟨o1, e1⟩ := I.base.there b o e (noex b)
    exact un.free b o1 e1 (I.base.free b o e n (noex b)) (by simp)
  · by_cases hb : b ∈ X.fs
    · obtain ⟨sl, q⟩ := slot b o e (I.ok.frf b hb) hb
      exact ⟨_, q⟩
    · obtain ⟨o1, e1⟩ := I.base.there b o e (noex b)
      obtain ⟨o2, e2⟩ := hT b o1 e1 (I.nost e hb)
      exact ⟨o2, st b o2 e2⟩
  · obtain ⟨m1, e1⟩ := I.base.tbls b ps e
    obtain ⟨m2, e2⟩ := un.tbls b _ e1
    exact ⟨m1 ++ m2, by rw [e2, Array.append_assoc]⟩
/-- a new exception of an own class leaves this frame -/
theorem Lv.raised (L : Lv X E) (I : Inv X pins σ H s) {C e : Addr} {h' : Heap} {vs : List Value} (hE : E (.ref C) none H) (hm : Heap.MadeExcOf s.heap h' e (.ref C) vs) : X.xe (.ref e) { s with heap := h' } := by
  rw [L.xe]
  have hfr : X.A.frames = some (X.env :: X.outer) := by rw [← L.stk]; exact I.ok.frames
  have hin : ∀ env ∈ X.stack, ∀ a, env.frame = some a → a ∈ frs X.stack := fun env he a ha => List.mem_filterMap.mpr ⟨env, he, ha⟩
  have ff := PySem.W.funFrames_hide I.stack hin
  rw [L.stk] at ff
  refine wpAny_leaves_madeW (base := PySem.W.hideAll s.heap (frs (X.env :: X.outer))) (h := s.heap) hfr L.fr (fun b o q => PySem.W.of_hideAll _ q) ff hm fun h2 t f1 _ _ us => ?_
  rw [← L.stk] at f1
  have hB : ∀ b o, s.heap.get? b = some o → b ∉ frs X.stack → (PySem.W.hideAll s.heap (frs X.stack)).get? b = some o := fun b o e hb => PySem.W.hideAll_get _ e hb
  have un : Un (frs X.stack) [] H H s.heap h' := Un.kept fun b u q => hm.keeps b u q
  have noex : ∀ b : Addr, b ∉ X.ex := fun b z => by rw [L.ex] at z; cases z
  refine ⟨e, C, .ref t, _, H, rfl, hE, I.os, I.bare, I.flown L.ex un (fun b o q _ hb => hB b o q hb) (fun b o q hb => ⟨o, hB b o q hb⟩) f1.1 us, fun a o q => ?_, f1, fun b o q n hb => ?_, fun b o q hb => ?_⟩
  · refine (I.hok a o q).stay (fun b u hb r => hB b u r fun z => ?_) (fun _ r => r) (fun _ _ r => r)
    have n := I.stkFree b z
    rcases hb with rfl | hb
    · rw [q] at n; cases n
    · rw [hb] at n; cases n
  · exact hB b o (I.base.keep b o q n hb (noex b)) (I.nost q hb)
  · obtain ⟨o1, e1⟩ := I.base.there b o q (noex b)
    exact ⟨o1, hB b o1 e1 (I.nost q hb)⟩
/-- a callee's exception leaves this frame -/
theorem Lv.pass (L : Lv X E) : Passes (CXe X.prog X.w) X E := by
  intro pins σ H s e s' I h
  obtain ⟨ea, C, a0, B, H', rfl, hE, os, bare, un, hok, fl, hB, hT⟩ := h
  rw [L.xe]
  have hfr : X.A.frames = some (X.env :: X.outer) := by rw [← L.stk]; exact I.ok.frames
  have noex : ∀ b : Addr, b ∉ X.ex := fun b z => by rw [L.ex] at z; cases z
  have fl' := fl
  rw [L.stk] at fl'
  refine wpAny_leaves_onW hfr L.fr fl' fun h2 fl2 us => ?_
  refine ⟨ea, C, a0, B, H', rfl, hE, os.trans I.os, bare, I.flown L.ex un hB hT fl2.1 us, hok, fl2, fun b o q n hb => ?_, fun b o q hb => ?_⟩
  · exact hB b o (I.base.keep b o q n hb (noex b)) (I.base.free b o q n (noex b)) (I.nost q hb)
  · obtain ⟨o1, e1⟩ := I.base.there b o q (noex b)
    exact hT b o1 e1 (I.nost q hb)
theorem Lv.own (L : Lv X E) : PassesOwn (model X.prog X.w) X.A X.env X.xe := by
  rw [L.xe]
  exact PassesOwn.leaving
end

/-! ### raise C(), C of the text, straight under Exception -/
abbrev bmEx : List Value := [.type "Exception", .type "BaseException", .type "object"]
theorem exc_is {K : PySem.W.Frag} {h : Heap} {C : Addr} {newId : String} (X : K.In h) (q : PySem.W.excIn K C bmEx newId = true) :
    ∃ bm N nm qn bs hdct sn sub ab col dd k0 k1 k2 k3 k5 mN, h.get? C = some (excClassObj nm qn C N bs bm hdct sn sub ab col dd k0 k1 k2 k3 k5 newId) ∧ h.Ns N mN ∧ mN "__init__" = none ∧ OwnTail h bmEx bm := by
  unfold PySem.W.excIn at q
  split at q
  case h_2 => cases q
  case h_1 dd cd sl ho =>
    split at q
    case h_2 => cases q
    case h_1 C' bm k0 k1 k2 k3 n k5 hm hs =>
      simp only [Bool.and_eq_true, beq_iff_eq, Bool.not_eq_true'] at q
      obtain ⟨⟨⟨⟨⟨e1, e2⟩, hdel⟩, ht⟩, hok⟩, hni⟩ := q
      subst e1
      subst e2
      have ho' := X _ _ ho
      cases cd with
      | mk nm bs mro ns qn hd sn sub ab col del =>
        cases hm
        cases hdel
        have hsl : sl = #[k0, k1, k2, k3, some (.builtin n), k5] := by
          cases sl
          exact congrArg _ hs
        rw [hsl] at ho'
        exact ⟨bm, ns, nm, qn, bs, hd, sn, sub, ab, col, dd, k0, k1, k2, k3, k5, _, ho', .of_isNs (PySem.W.isNs_of_in X hok), PySem.W.nsMap_none_of_in X hok hni, PySem.W.tail_of_in X ht⟩
def tRaise (C : Addr) (E : XK) : TS := fun _ _ H => E (.ref C) none H
theorem ps_raise {X : Cx} {E : XK} {x : Str} {C : Addr} {np cpos pos : Pos} (L : Lv X E) (hg : Gl X x) (hm : X.mg x = some (.ref C)) (hx : PySem.W.excIn X.K C bmEx "Exception.__new__" = true) (hd : (x == ("__debug__" : Str)) = false := by decide) :
    PS X (.Raise (some (.Call (.Name x np) [] [] cpos)) none pos) (tRaise C E) := by
  intro pins s σ H D I h
  obtain ⟨tl, N, nm, qn, bs, hdct, sn, sub, ab, col, dd, k0, k1, k2, k3, k5, mN, hC, hN, hni, T⟩ := exc_is I.kIn hx
  refine wpAny_Raise_call_subT (C := C) (nm := nm) (q := qn) (N := N) (bs := bs) (bm := tl) (hdct := hdct) (sn := sn) (sub := sub) (ab := ab) (col := col) (dd := dd) (k0 := k0) (k1 := k1) (k2 := k2) (k3 := k3) (k5 := k5)
    PySem.F.excBase_Exception (mN := mN) (T.hasType PySem.F.excBase_Exception.hasBase) (I.ok.hd L.calm) rfl hni (ld_glob I hg hm ⟨rfl, ?_⟩ hd)
  exact evalArgs_empty ⟨rfl, Nat.zero_le _, hC, hN, T, fun h' e hm' => L.raised I h hm'⟩

/-! ### a def whose exceptions may leave it -/
section
variable {P : Program} {w : World} {K : PySem.W.Frag} {mg : Str → Option Value} {base : Heap}
theorem Fun.okE {x qual : Str} {st : Stmt} {f : Addr} {fd : FuncData} {N ps : List Str} {k : Nat} {sp : Sp} (F : Fun K x qual st f fd) (S : FnScope N ps (defScope st)) (len : ∀ vs H Q E, sp vs H Q E → vs.length = ps.length)
    (hbody : ∀ (cdv : Value) (A : Around) (outer : List Env) (s : Shared) (H : Hp) (vs : List V) (Q : VK) (E : XK), Room k (A.deeper (envOfC qual (defScope st) s.heap.objs.size f cdv)) → sp vs H Q E →
      ∃ t, PSs (cxOf (CXe P w) P w K mg base N qual (defScope st) f cdv A outer s H E) (defBody st) t ∧ t { nx := fun _ H' => Q .non H', rt := Q } (start N vs) H) : FnOk P w K mg base (CXe P w) (k + 1) f fd ps sp := by
  obtain ⟨oc, od, kV, doc, pm, an, cdv, ct, osl, rfl, lk, hcd⟩ := F.ex
  exact fn_of lk hcd S len fun A outer s H vs Q E hr hsp => hbody cdv A outer s H vs Q E hr hsp
end
end L2
end
section
set_option Elab.async false
set_option linter.all false
set_option maxRecDepth 100000
/-! MORE RULES over the hand layer: sum and max of a list of ints, loops and comprehensions over enumerate. -/
namespace L2
open PySem PySem.Spec PyProof.Rows
section
variable {X : Cx}
theorem plain_ints {pins : List (Addr × Obj)} {σ : St} {H : Hp} {s : Shared} {a : Addr} {ns : List Int} (I : Inv X pins σ H s) (hq : SqL X.K H a (ns.map V.int)) :
    ∃ xs : Array (Int × Tok), s.heap.IsList a (intItems xs) ∧ ns = xs.toList.map (·.1) := by
  obtain ⟨its, r, p, hz⟩ := I.list hq
  have hi : IntsAre its ns := Vals.ints r
  obtain ⟨xs, e⟩ := hi.allInts.items
  refine ⟨xs, ?_, ?_⟩
  · rw [← e]; exact p.isList
  · rw [← hi.numsOf, ← nums_intItems, ← e]
theorem call_sumL (hc : X.calm = true) : CallR X (.builtin "sum") (fun xs H Q => ∃ (a : Addr) (ns : List Int), xs = [.ref a] ∧ SqL X.K H a (ns.map V.int) ∧ Q (.int ns.sum) H) := by
  intro pins s σ H xs us Q I r h
  obtain ⟨a, ns, rfl, hq, q⟩ := h
  obtain ⟨u, rfl, ru⟩ := vals1 r
  cases ru
  obtain ⟨ys, hl, hn⟩ := plain_ints I hq
  refine sum_intListG (I.ok.hd hc) hl fun h' tk t' hk => ⟨.int ns.sum, H, I.kept (t' := tk) hk, ⟨t', ?_⟩, q⟩
  rw [preSum_eq, List.take_of_length_le (by simp), ← hn]
theorem call_maxL (hc : X.calm = true) : CallR X (.builtin "max") (fun xs H Q => ∃ (a : Addr) (ns : List Int), xs = [.ref a] ∧ SqL X.K H a (ns.map V.int) ∧ 0 < ns.length ∧ ∀ M, M ∈ ns → (∀ x ∈ ns, x ≤ M) → Q (.int M) H) := by
  intro pins s σ H xs us Q I r h
  obtain ⟨a, ns, rfl, hq, hne, q⟩ := h
  obtain ⟨u, rfl, ru⟩ := vals1 r
  cases ru
  obtain ⟨ys, hl, hn⟩ := plain_ints I hq
  have hsz : 0 < ys.size := by rw [hn, List.length_map, Array.length_toList] at hne; exact hne
  refine max_intList (I.ok.hd hc) hl hsz fun v h' tk hv hk => ?_
  obtain ⟨t, rfl⟩ := intItems_at hv
  obtain ⟨h1, h2⟩ := argBest_gt (numAt ys) (ys.size - 1)
  refine ⟨.int _, H, I.kept (t' := tk) hk, ⟨t, rfl⟩, q _ ?_ fun x hx => ?_⟩
  · rw [hn, numAt_eq]
    exact PySem.getD_mem (by rw [List.length_map, Array.length_toList]; omega)
  · rw [hn] at hx
    obtain ⟨j, hj, rfl⟩ := PySem.mem_getD hx
    rw [List.length_map, Array.length_toList] at hj
    rw [← numAt_eq]
    exact h2 j (by omega)
end
section
variable {prog : Program} {w : World} {A : Around} {E : Value → Shared → Prop} {s : Shared}
theorem getItem_tuple_all {t sl : Addr} {items : Array Value} {vl vu : Value} {lo hi : Option Int} {Q : Value → Shared → Prop} (ht : IsTup s.heap t items) (hs : s.heap.IsSliceOf sl vl vu .none) (pl : IsPart vl lo) (pu : IsPart vu hi)
    (hw : HT.sIx items.size 0 lo = 0 ∧ HT.sIx items.size items.size hi = items.size) (h : Q (.ref t) s) : wpAny (model prog w) A (getItem (.ref t) (.ref sl)) Q E s := by
  obtain ⟨os, hos, hcs, hds⟩ := id hs
  have hTs : s.TypeIs (.ref sl) "slice" := ⟨os, hos, hcs⟩
  unfold getItem
  try with_reducible refine wpAny_holding ?_
  first | refine wpAny_bind (wpAny_pure ?_) | skip
  refine wpAny_bind (wpAny_sequenceKey ht.typeIs (by decide) ?_)
  refine wpAny_bind (wpAny_callSpecial?_slot (name := Str.ofString "__getitem__") ht.typeIs PyProof.Rows.slot_tuple_getitem
    (wpAny_call_entry PyProof.Rows.slot_tuple_getitem ht.typeIs entry_tuple_getitem ?_ (args_tuple_getitem _ _)))
  show wpAny _ _ (Builtin.Tuple.tupleItemsOf (.ref t) >>= _) _ _ s
  refine wpAny_bind (tupleItemsOf_ ht ?_)
  refine wpAny_bind (wpAny_typeOf hTs ?_)
  rw [if_pos (by decide)]
  refine wpAny_bind (HT.sliceApplied_gen hs pl pu ?_)
  have hyes : (((HT.sIx items.size 0 lo : Nat) : Int) == 0 && (1 : Int) == 1 && (HT.sIx items.size items.size hi - HT.sIx items.size 0 lo) == items.size) = true := by
    rw [hw.1, hw.2]; simp
  show wpAny _ _ (if (((HT.sIx items.size 0 lo : Nat) : Int) == 0 && (1 : Int) == 1 && (HT.sIx items.size items.size hi - HT.sIx items.size 0 lo) == items.size) = true then _ else _) _ _ s
  rw [if_pos hyes]
  unfold Builtin.Tuple.tupleIsExact
  refine wpAny_bind (wpAny_bind (wpAny_typeOf ht.typeIs (wpAny_pure ?_)))
  rw [if_pos (show (Value.type "tuple" == Value.type "tuple") = true from beq_self_eq_true _)]
  refine wpAny_bind (wpAny_rule ?_)
  first
    | exact wpAny_pure ⟨_, rfl, wpAny_pure h⟩
    | exact wpAny_bind (wpAny_pure (wpAny_pure ⟨_, rfl, wpAny_pure h⟩))
    | exact wpAny_bind (wpAny_pure ⟨_, rfl, wpAny_pure h⟩)
end
/-- t[lo:hi], the whole of it: t itself -/
def rSlTW (K : PySem.W.Frag) : V → Option Int → Option Int → Hp → VK → Prop := fun x lo hi H Q => ∃ a xs, x = .ref a ∧ SqT K H a xs ∧ (HT.sIx xs.length 0 lo = 0 ∧ HT.sIx xs.length xs.length hi = xs.length) ∧ Q (.ref a) H
theorem sl_tupW {X : Cx} : SlR X (rSlTW X.K) := by
  intro pins s σ H x v vl vu lo hi sl Q I rx hs pl pu h
  obtain ⟨a, xs, rfl, hx, hw, q⟩ := h
  cases rx
  obtain ⟨its, r, ht, hz⟩ := I.tuple hx
  have hlen : its.toArray.size = xs.length := by rw [List.size_toArray]; exact r.length.symm
  refine ⟨"tuple", _, PyProof.Rows.slot_tuple_getitem.lookup, ht.typeIs, ?_⟩
  exact getItem_tuple_all ht hs pl pu (by rw [hlen]; exact hw) ⟨.ref a, H, I, rfl, q⟩
/-- for a, b in enumerate(list): the list stays as it is -/
theorem for_enum {K : PySem.W.Frag} {a : Addr} {xs : List V} {g : TG} {tb : TS} {D : Ends} {σ : St} {H : Hp} (Pv : Nat → St → Hp → Prop) (h0 : Pv 0 σ H) (hl : ∀ i σ H, i ≤ xs.length → Pv i σ H → SqL K H a xs)
    (hs : ∀ i x σ H T, xs[i]? = some x → Pv i σ H → H T = none → g (.ref T) σ (upd H T (.tup [.int (i : Nat), x])) fun σ2 H2 => tb { D with nx := Pv (i + 1), ct := Pv (i + 1), bk := D.nx } σ2 H2) (hd : ∀ σ H, Pv xs.length σ H → D.nx σ H) :
    ∃ W : Nat → Nat → St → Hp → Prop, (∃ m, W 0 m σ H) ∧ ∀ i m σ H, W i m σ H →
      ((Ite K a).stop i H ∧ D.nx σ H) ∨ ((Ite K a).go i H ∧ ∃ N : St → Hp → Prop, (∀ σ' H', N σ' H' → ∃ m', m' < m ∧ W (i + 1) m' σ' H') ∧ ∀ x H', (Ite K a).yld i H x H' → g x σ H' fun σ2 H2 => tb { D with nx := N, ct := N, bk := D.nx } σ2 H2) := by
  refine ⟨fun i m σ H => m = xs.length - i ∧ i ≤ xs.length ∧ Pv i σ H, ⟨xs.length, by simp, Nat.zero_le _, h0⟩, ?_⟩
  rintro i m σ H ⟨rfl, hi, p⟩
  have q := hl i σ H hi p
  by_cases hlt : i < xs.length
  · refine .inr ⟨⟨xs, xs[i], q, by simp [hlt]⟩, Pv (i + 1), fun σ' H' p' => ⟨xs.length - (i + 1), by omega, rfl, hlt, p'⟩, fun v H' y => ?_⟩
    obtain ⟨T, x, e1, e2, e3, y⟩ := y
    subst e1 e3
    exact hs i x σ H T (y xs q) p e2
  · have e : i = xs.length := by omega
    subst e
    exact .inl ⟨⟨xs, q, Nat.le_refl _⟩, hd σ H p⟩
/-- [.. for a, b in enumerate(list)] -/
theorem lc_enum {K : PySem.W.Frag} {a : Addr} {xs : List V} {g : TG} {tt : TT} {te : TE} {vs : List Nat} {σ : St} {H1 : Hp} {D : Addr} {Qd : Hp → Prop} (Pv : Nat → Hp → Prop) (h0 : Pv 0 (upd H1 D (.lst []))) (hl : ∀ i H, i ≤ xs.length → Pv i H → SqL K H a xs)
    (hs : ∀ i x H T, xs[i]? = some x → Pv i H → H T = none → g (.ref T) (wipe σ vs) (upd H T (.tup [.int (i : Nat), x])) fun σ2 H2 => wipe σ2 vs = wipe σ vs ∧ tt σ2 H2 fun b H3 =>
      if b = true then te σ2 H3 fun y H4 => ∃ acc, H4 D = some (.lst acc) ∧ acc.length < sizeLine ∧ Pv (i + 1) (upd H4 D (.lst (acc ++ [y]))) else Pv (i + 1) H3) (hd : ∀ H, Pv xs.length H → Qd H) :
    ∃ W : Nat → Nat → Hp → Prop, (∃ m, W 0 m (upd H1 D (.lst []))) ∧ ∀ i m H, W i m H →
      ((Ite K a).stop i H ∧ Qd H) ∨ ((Ite K a).go i H ∧ ∃ Nx : Hp → Prop, (∀ H', Nx H' → ∃ m', m' < m ∧ W (i + 1) m' H') ∧ ∀ x H', (Ite K a).yld i H x H' → g x (wipe σ vs) H' fun σ2 H2 => wipe σ2 vs = wipe σ vs ∧ tt σ2 H2 fun b H3 =>
        if b = true then te σ2 H3 fun y H4 => ∃ acc, H4 D = some (.lst acc) ∧ acc.length < sizeLine ∧ Nx (upd H4 D (.lst (acc ++ [y]))) else Nx H3) := by
  refine ⟨fun i m H => m = xs.length - i ∧ i ≤ xs.length ∧ Pv i H, ⟨xs.length, by simp, Nat.zero_le _, h0⟩, ?_⟩
  rintro i m H ⟨rfl, hi, p⟩
  have q := hl i H hi p
  by_cases hlt : i < xs.length
  · refine .inr ⟨⟨xs, xs[i], q, by simp [hlt]⟩, Pv (i + 1), fun H' p' => ⟨xs.length - (i + 1), by omega, rfl, hlt, p'⟩, fun v H' y => ?_⟩
    obtain ⟨T, x, e1, e2, e3, y⟩ := y
    subst e1 e3
    exact hs i x H T (y xs q) p e2
  · have e : i = xs.length := by omega
    subst e
    exact .inl ⟨⟨xs, q, Nat.le_refl _⟩, hd H p⟩
end L2
end
section
set_option Elab.async false
set_option linter.all false
set_option maxRecDepth 100000
/-! try with two handlers of own classes, over the hand layer -/
namespace L2
open PySem PySem.Spec PyProof.Rows

abbrev Cx.pinned (X : Cx) (pn : List (Addr × Obj)) : Cx := { X with pn := pn }
def Landed (X : Cx) (E : XK) : Value → Shared → Prop := fun e s' => ∃ (pins : List (Addr × Obj)) (σ : St) (H : Hp) (s : Shared), Inv X pins σ H s ∧ CXe X.prog X.w X.stack H s E e s'
/-- the context of a try's body -/
abbrev Cx.tryB (X : Cx) (pn : List (Addr × Obj)) (E : XK) : Cx := (X.pinned pn).wish (Landed (X.pinned pn) E)
/-- the context of a handler's suite, from which no exception leaves -/
abbrev Cx.hand (X : Cx) (pn : List (Addr × Obj)) (e : Addr) : Cx := { X with pn := pn, A := X.A.mark (some (.ref e)), calm := false, xe := fun _ _ => False }
theorem pass_try {X : Cx} {pn : List (Addr × Obj)} {E : XK} : Passes (CXe X.prog X.w) (X.tryB pn E) E := fun pins σ H s e s' I h => ⟨pins, σ, H, s, I.unwish, h⟩
section
variable {X : Cx} {pins pins' pn : List (Addr × Obj)} {σ : St} {H : Hp} {s : Shared}
theorem Cx.Ok.pinned (ok : X.Ok) : (X.pinned pn).Ok := ⟨ok.mod, ok.kind, ok.glob, ok.blt, ok.above, ok.inj, ok.has, ok.cab, ok.hd, ok.frames, ok.stk, ok.exf, ok.bs, ok.bsz, ok.noex, ok.exfs, ok.funs, ok.frf⟩
theorem Cx.Ok.unpinned (ok : (X.pinned pn).Ok) : X.Ok := ⟨ok.mod, ok.kind, ok.glob, ok.blt, ok.above, ok.inj, ok.has, ok.cab, ok.hd, ok.frames, ok.stk, ok.exf, ok.bs, ok.bsz, ok.noex, ok.exfs, ok.funs, ok.frf⟩
theorem Cx.Ok.hand (ok : X.Ok) {e : Addr} : (X.hand pn e).Ok := ⟨ok.mod, ok.kind, ok.glob, ok.blt, ok.above, ok.inj, ok.has, ok.cab, fun z => Bool.noConfusion z, ok.frames, ok.stk, ok.exf, ok.bs, ok.bsz, ok.noex, ok.exfs, ok.funs, ok.frf⟩
theorem Inv.pinTo (I : Inv X pins σ H s) : Inv (X.pinned (X.pn ++ pins)) [] σ H s :=
  ⟨I.ok.pinned, I.os, I.bare, I.base, I.loc, I.cell, I.free, I.freeC, fun p hp => I.pin p (by rw [List.append_nil] at hp; exact hp), I.hok, I.len⟩
theorem Inv.pinFrom (I : Inv (X.pinned (X.pn ++ pins)) pins' σ H s) : Inv X pins σ H s :=
  ⟨I.ok.unpinned, I.os, I.bare, I.base, I.loc, I.cell, I.free, I.freeC, fun p hp => I.pin p (List.mem_append_left _ hp), I.hok, I.len⟩
theorem Inv.hand (I : Inv (X.pinned pn) pins' σ H s) (e : Addr) : Inv (X.hand pn e) [] σ H s :=
  ⟨I.ok.unpinned.hand, I.os, I.bare, I.base, I.loc, I.cell, I.free, I.freeC, fun p hp => I.pin p (by rw [List.append_nil] at hp; exact List.mem_append_left _ hp), I.hok, I.len⟩
theorem Inv.unhand {e : Addr} (ok : X.Ok) (I : Inv (X.hand (X.pn ++ pins) e) [] σ H s) : Inv X pins σ H s :=
  ⟨ok, I.os, I.bare, I.base, I.loc, I.cell, I.free, I.freeC, fun p hp => I.pin p (List.mem_append_left _ hp), I.hok, I.len⟩
theorem SP.conv {Y : Cx} {D : Ends} {f : Flow} (k : ∀ σ H s, Inv X pins σ H s → Inv Y pins' σ H s) (h : SP X pins D f s) : SP Y pins' D f s := by
  cases f with
  | next => obtain ⟨σ', H', I, q⟩ := h; exact ⟨σ', H', k _ _ _ I, q⟩
  | brk => obtain ⟨σ', H', I, q⟩ := h; exact ⟨σ', H', k _ _ _ I, q⟩
  | cont => obtain ⟨σ', H', I, q⟩ := h; exact ⟨σ', H', k _ _ _ I, q⟩
  | ret u => obtain ⟨v, σ', H', I, r, q⟩ := h; exact ⟨v, σ', H', k _ _ _ I, r, q⟩
/-- where an exception has landed -/
theorem Inv.landed (I : Inv X pins σ H s) {H' : Hp} {B h4 : Heap} {s' : Shared} (os : s'.os = s.os) (bare : AllBare s'.gens) (un : Un (frs X.stack) [] H H' s.heap s'.heap) (hok : HOk X.prog X.w H' B)
    (hB : ∀ b o, s.heap.get? b = some o → H b = none → b ∉ frs X.stack → B.get? b = some o) (hT : ∀ b o, s.heap.get? b = some o → b ∉ frs X.stack → ∃ o', B.get? b = some o')
    (st : B.StaysIn h4) (us : s'.heap.UpToSlots h4) : Inv X pins σ H' { s' with heap := h4 } := by
  have slot : ∀ b o, s.heap.get? b = some o → H b = none → b ∈ frs X.stack → ∃ sl, h4.get? b = some { o with slots := sl } := fun b o e n hb => by
    obtain ⟨sl, e1⟩ := un.slot b o e n hb (by simp)
    obtain ⟨_, o', ho', hnf⟩ := I.stack.mem hb
    rw [e] at ho'
    cases ho'
    obtain ⟨sl2, e2⟩ := us b _ e1 hnf
    exact ⟨sl2, e2⟩
  have u4 : Un (frs X.stack) [] H H' s.heap h4 := by
    refine ⟨fun b o e n hb _ => st b o (hB b o e n hb), fun b o e n hb _ => slot b o e n hb, un.free, fun b o e _ => ?_, un.tups, un.frzs, un.tbls⟩
    by_cases hb : b ∈ frs X.stack
    · obtain ⟨sl, q⟩ := slot b o e (I.stkFree b hb) hb
      exact ⟨_, q⟩
    · obtain ⟨o2, e2⟩ := hT b o e hb
      exact ⟨o2, st b o2 e2⟩
  obtain ⟨hh, g, d, tk, o⟩ := s'
  have e : o = s.os := os
  subst e
  exact I.call (g' := g) (t' := tk) (d' := d) u4 (hok.kept st) bare (fun b z => absurd z (by simp))
end
def tTry (tb : TS) (E : XK) (C1 C2 : Addr) (t1 t2 : TS) : TS := fun D σ H => tb D σ H ∧ ∀ C H' σ', E C none H' → (C = .ref C1 ∧ t1 D σ' H') ∨ (C = .ref C2 ∧ t2 D σ' H')
theorem ps_try2 {X : Cx} {E : XK} {body s1 s2 : List Stmt} {a1 a2 : Stmt} {n1 n2 : Str} {C1 C2 : Addr} {p1 p2 q1 q2 pos : Pos} {tb t1 t2 : TS} (hstk : X.stack = X.env :: X.outer) (hfr : X.env.frame = some X.env.locals)
    (g1 : Gl X n1) (m1 : X.mg n1 = some (.ref C1)) (g2 : Gl X n2) (m2 : X.mg n2 = some (.ref C2))
    (x11 : PySem.W.exmOne X.K (.ref C1) (.ref C1) = some true) (x21 : PySem.W.exmOne X.K (.ref C2) (.ref C1) = some false) (x22 : PySem.W.exmOne X.K (.ref C2) (.ref C2) = some true)
    (hb : ∀ pn, PSs (X.tryB pn E) body tb) (h1 : ∀ pn e, PSs (X.hand pn e) (a1 :: s1) t1) (h2 : ∀ pn e, PSs (X.hand pn e) (a2 :: s2) t2) (d1 : (n1 == ("__debug__" : Str)) = false := by decide) (d2 : (n2 == ("__debug__" : Str)) = false := by decide) :
    PS X (.Try body [.ExceptHandler (some (.Name n1 p1)) none (a1 :: s1) q1, .ExceptHandler (some (.Name n2 p2)) none (a2 :: s2) q2] [] [] pos) (tTry tb E C1 C2 t1 t2) := by
  intro pins s σ H D I hw
  obtain ⟨hw, hx⟩ := hw
  refine wpAny_Try_except (wpAny_mono (hb (X.pn ++ pins) [] s σ H D (I.pinTo.wish _) hw) (fun f s1 q => ?_) (fun e s1 q => ?_))
  · have q' : SP X pins D f s1 := q.unwish.conv fun _ _ _ J => J.pinFrom
    cases f with
    | next => exact wpAny_execs_nil q'
    | brk => exact q'
    | cont => exact q'
    | ret u => exact q'
  · obtain ⟨pins', σ', H0, s0, I0, ea, C, a0, B, H1, rfl, hE, os, bare, un, hok, fl, hB, hT⟩ := q
    have fr : X.A.frames = some (X.env :: X.outer) := by rw [← hstk]; exact I.ok.frames
    have fl' : Heap.FlyingW B (X.env :: X.outer) ea (.ref C) a0 s1.heap := by rw [← hstk]; exact fl
    refine wpAny_looks_onW fr hfr fl' fun h2' hd2 us2 => wpAny_landsW hd2 fun h3 fl3 us3 => ?_
    have land : ∀ h4, Heap.FlyingW B (X.env :: X.outer) ea (.ref C) a0 h4 → h3.UpToSlots h4 → Inv (X.pinned (X.pn ++ pins)) pins' σ' H1 { s1 with heap := h4 } := fun h4 f4 us4 =>
      I0.landed os bare un hok hB hT f4.1 ((us2.trans us3).trans us4)
    have IH := (land h3 fl3 (Heap.UpToSlots.refl _)).hand ea
    have LT : PySem.W.Looks (model X.prog X.w) h3 (typeOf (.ref ea)) (.ref C) := by
      obtain ⟨ob, ho, hc⟩ := fl3.there
      rw [← hc]
      exact (PySem.W.Looks.ld ho).andThen .now
    rcases hx (.ref C) H1 σ' hE with ⟨hC, ht⟩ | ⟨hC, ht⟩
    · cases hC
      refine wpAny_handleBy_cons (codeAny_handlers_test (ld_glob (X := X.hand (X.pn ++ pins) ea) IH g1 m1 ?_ d1)) (by intro q; cases q)
      refine (PySem.W.exm_one IH.kIn LT x11).here ?_
      refine codeAny_handlers_suite (lands_againW fl3 fun h4 fl4 us4 => ?_)
      refine wpAny_mono (h1 (X.pn ++ pins) ea [] _ σ' H1 D ((land h4 fl4 us4).hand ea) ht) (fun f s5 q => ?_) (fun _ _ z => z.elim)
      exact q.conv fun _ _ _ J => J.unhand I.ok
    · cases hC
      refine wpAny_handleBy_cons (codeAny_handlers_test (ld_glob (X := X.hand (X.pn ++ pins) ea) IH g1 m1 ?_ d1)) (by intro q; cases q)
      refine (PySem.W.exm_one IH.kIn LT x21).here ?_
      refine wpAny_handleBy_cons (codeAny_handlers_test (ld_glob (X := X.hand (X.pn ++ pins) ea) IH g2 m2 ?_ d2)) (by intro q; cases q)
      refine (PySem.W.exm_one IH.kIn LT x22).here ?_
      refine codeAny_handlers_suite (lands_againW fl3 fun h4 fl4 us4 => ?_)
      refine wpAny_mono (h2 (X.pn ++ pins) ea [] _ σ' H1 D ((land h4 fl4 us4).hand ea) ht) (fun f s5 q => ?_) (fun _ _ z => z.elim)
      exact q.conv fun _ _ _ J => J.unhand I.ok
/-- [.. for c in a text] -/
theorem lc_str {z : Str} {g : TG} {tt : TT} {te : TE} {vs : List Nat} {σ : St} {H1 : Hp} {D : Addr} {Qd : Hp → Prop} (Pv : Nat → Hp → Prop) (h0 : Pv 0 (upd H1 D (.lst [])))
    (hs : ∀ i c H, z.cps[i]? = some c → Pv i H → g (.str ⟨#[c]⟩) (wipe σ vs) H fun σ2 H2 => wipe σ2 vs = wipe σ vs ∧ tt σ2 H2 fun b H3 =>
      if b = true then te σ2 H3 fun y H4 => ∃ acc, H4 D = some (.lst acc) ∧ acc.length < sizeLine ∧ Pv (i + 1) (upd H4 D (.lst (acc ++ [y]))) else Pv (i + 1) H3) (hd : ∀ H, Pv z.cps.size H → Qd H) :
    ∃ W : Nat → Nat → Hp → Prop, (∃ m, W 0 m (upd H1 D (.lst []))) ∧ ∀ i m H, W i m H →
      ((Its z).stop i H ∧ Qd H) ∨ ((Its z).go i H ∧ ∃ Nx : Hp → Prop, (∀ H', Nx H' → ∃ m', m' < m ∧ W (i + 1) m' H') ∧ ∀ x H', (Its z).yld i H x H' → g x (wipe σ vs) H' fun σ2 H2 => wipe σ2 vs = wipe σ vs ∧ tt σ2 H2 fun b H3 =>
        if b = true then te σ2 H3 fun y H4 => ∃ acc, H4 D = some (.lst acc) ∧ acc.length < sizeLine ∧ Nx (upd H4 D (.lst (acc ++ [y]))) else Nx H3) := by
  refine ⟨fun i m H => m = z.cps.size - i ∧ i ≤ z.cps.size ∧ Pv i H, ⟨z.cps.size, by simp, Nat.zero_le _, h0⟩, ?_⟩
  rintro i m H ⟨rfl, hi, p⟩
  by_cases hlt : i < z.cps.size
  · refine .inr ⟨hlt, Pv (i + 1), fun H' p' => ⟨z.cps.size - (i + 1), by omega, rfl, hlt, p'⟩, fun x H' y => ?_⟩
    obtain ⟨e, c, hc, rfl⟩ := y
    subst e
    exact hs i c _ hc p
  · have e : i = z.cps.size := by omega
    subst e
    exact .inl ⟨Nat.le_refl _, hd H p⟩
end L2
end
section
set_option Elab.async false
set_option linter.all false
set_option maxRecDepth 100000
set_option maxHeartbeats 2000000
namespace L2
open PySem PySem.Spec PyProof.Rows
open PySem.W (WData Codec OpenSpec Well WellAll ReadsW ReadsAllW)
/-! ### an answer as data -/
mutual
/-- x stands for the datum d, lists and tuples all the way -/
inductive Dw (K : PySem.W.Frag) (H : Hp) : V → WData → Prop
  | non : Dw K H .non .none
  | bl (b : Bool) : Dw K H (.bl b) (.bool b)
  | int (i : Int) : Dw K H (.int i) (.int i)
  | str (x : Str) : Dw K H (.str x) (.str x)
  | byt (b : Array UInt8) : Dw K H (.byt b) (.bytes b.toList)
  | lst {a : Addr} {xs : List V} {ds : List WData} : SqL K H a xs → DwAll K H xs ds → Dw K H (.ref a) (.list ds)
  | tup {a : Addr} {xs : List V} {ds : List WData} : SqT K H a xs → DwAll K H xs ds → Dw K H (.ref a) (.tuple ds)
inductive DwAll (K : PySem.W.Frag) (H : Hp) : List V → List WData → Prop
  | nil : DwAll K H [] []
  | cons {v : V} {vs : List V} {d : WData} {ds : List WData} : Dw K H v d → DwAll K H vs ds → DwAll K H (v :: vs) (d :: ds)
end
theorem dw_ints {K : PySem.W.Frag} {H : Hp} : ∀ ns : List Int, DwAll K H (ns.map V.int) (ns.map WData.int)
  | [] => .nil
  | n :: r => .cons (.int n) (dw_ints r)
theorem ints_dw {K : PySem.W.Frag} {H : Hp} : ∀ (ns : List Int) (xs : List V), DwAll K H xs (ns.map WData.int) → xs = ns.map V.int
  | [], xs, h => by
    cases h
    rfl
  | n :: r, xs, h => by
    cases h with
    | cons h1 h2 =>
      cases h1
      rw [ints_dw r _ h2] <;> rfl
section
variable {P : Program} {w : World} {K : PySem.W.Frag} {H : Hp} {h : Heap} {R : PySem.W.WRecords} {cl : Str → Option Addr}
theorem sqL_at {a : Addr} {xs : List V} (hok : HOk P w H h) (KX : K.In h) (q : SqL K H a xs) : ∃ (its : List Value) (o : Obj) (n : Nat), Vals xs its ∧ h.get? a = some o ∧ o.cls = .type "list" ∧ o.data = .seq its.toArray n := by
  rcases q with q | ⟨o, its, n, e, hc, _, hd, _, hv⟩
  · obtain ⟨_, its, n, hv, e⟩ := (show ObjOk P w H h a (.lst xs) from q.ok hok)
    exact ⟨its, _, n, hv, e, rfl, rfl⟩
  · exact ⟨its.toList, o, n, hv, KX _ _ e, hc, by simp [hd]⟩
theorem sqT_at {a : Addr} {xs : List V} (hok : HOk P w H h) (KX : K.In h) (q : SqT K H a xs) : ∃ (its : List Value) (o : Obj) (n : Nat), Vals xs its ∧ h.get? a = some o ∧ o.cls = .type "tuple" ∧ o.data = .seq its.toArray n := by
  rcases q with q | ⟨o, its, n, e, hc, hd, _, hv⟩
  · obtain ⟨_, its, hv, o, e, hc, n, hd⟩ := (show ObjOk P w H h a (.tup xs) from q.ok hok)
    exact ⟨its, o, n, hv, e, hc, hd⟩
  · exact ⟨its.toList, o, n, hv, KX _ _ e, hc, by simp [hd]⟩
mutual
theorem Dw.reads (hok : HOk P w H h) (KX : K.In h) : ∀ (d : WData) (v : V) (u : Value), Dw K H v d → RelV v u → ∃ as, ReadsW R cl h u d as
  | .none, _, _, x, r => by
    cases x
    cases r
    exact ⟨_, ReadsW.none⟩
  | .bool b, _, _, x, r => by
    cases x
    cases r
    exact ⟨_, ReadsW.bool b⟩
  | .int i, _, _, x, r => by
    cases x
    obtain ⟨t, rfl⟩ := r
    exact ⟨_, ReadsW.int i t⟩
  | .str s, _, _, x, r => by
    cases x
    obtain ⟨t, rfl⟩ := r
    exact ⟨_, ReadsW.str s t⟩
  | .bytes b, _, _, x, r => by
    cases x
    obtain ⟨t, rfl⟩ := r
    exact ⟨_, ReadsW.bytes _ t⟩
  | .list ds, _, _, x, r => by
    cases x with
    | lst hs ha =>
      cases r
      obtain ⟨its, o, n, rv, ho, hc, hd⟩ := sqL_at hok KX hs
      obtain ⟨as, hr⟩ := Dw.readsAll hok KX ds _ its ha rv
      exact ⟨_, ReadsW.list ho hc hd hr⟩
  | .tuple ds, _, _, x, r => by
    cases x with
    | tup hs ha =>
      cases r
      obtain ⟨its, o, n, rv, ho, hc, hd⟩ := sqT_at hok KX hs
      obtain ⟨as, hr⟩ := Dw.readsAll hok KX ds _ its ha rv
      exact ⟨_, ReadsW.tuple ho hc hd hr⟩
  | .float _, _, _, x, _ => by cases x
  | .dict _, _, _, x, _ => by cases x
  | .bytearray _, _, _, x, _ => by cases x
  | .set _, _, _, x, _ => by cases x
  | .frozenset _, _, _, x, _ => by cases x
  | .obj _ _, _, _, x, _ => by cases x
theorem Dw.readsAll (hok : HOk P w H h) (KX : K.In h) : ∀ (ds : List WData) (vs : List V) (us : List Value), DwAll K H vs ds → Vals vs us → ∃ as, ReadsAllW R cl h us ds as
  | [], _, _, x, r => by
    cases x
    cases r
    exact ⟨_, ReadsAllW.nil⟩
  | d :: ds, _, _, x, r => by
    cases x with
    | cons h1 h2 =>
      cases r with
      | cons r1 r2 =>
        obtain ⟨as, q1⟩ := Dw.reads hok KX d _ _ h1 r1
        obtain ⟨bs, q2⟩ := Dw.readsAll hok KX ds _ _ h2 r2
        exact ⟨_, ReadsAllW.cons q1 q2⟩
end
end
/-! ### the arguments -/
mutual
/-- data that a codec tells -/
def plW : WData → Bool
  | .none => true
  | .bool _ => true
  | .int _ => true
  | .str _ => true
  | .bytes _ => true
  | .list xs => plWs xs
  | .tuple xs => plWs xs
  | _ => false
def plWs : List WData → Bool
  | [] => true
  | x :: r => plW x && plWs r
end
theorem plWs_map {α : Type} {f : α → WData} (h : ∀ a, plW (f a) = true) : ∀ l : List α, plWs (l.map f) = true
  | [] => rfl
  | x :: r => by
    show (plW (f x) && plWs (r.map f)) = true
    rw [h x, plWs_map h r] <;> rfl
theorem pl_enc : ∀ (c : Codec) (a : c.denote), plW (c.enc a) = true
  | .unit, _ => rfl
  | .bool, _ => rfl
  | .int _ _, _ => rfl
  | .nat _ _, _ => rfl
  | .u8, _ => rfl
  | .bytes _ _, _ => rfl
  | .text _ _ _ _, _ => rfl
  | .list _ _ c, a => plWs_map (fun x => pl_enc c x) a
  | .pair c d, a => by
    show (plW (c.enc a.1) && (plW (d.enc a.2) && true)) = true
    rw [pl_enc c a.1, pl_enc d a.2] <;> rfl
  | .triple c d e, a => by
    show (plW (c.enc a.1) && (plW (d.enc a.2.1) && (plW (e.enc a.2.2) && true))) = true
    rw [pl_enc c a.1, pl_enc d a.2.1, pl_enc e a.2.2] <;> rfl
  | .option c, none => rfl
  | .option c, some x => pl_enc c x
theorem pl_encAll : ∀ (cs : List Codec) (a : Codec.denoteAll cs), plWs (Codec.encAll cs a) = true
  | [], _ => rfl
  | c :: cs, a => by
    show (plW (c.enc a.1) && plWs (Codec.encAll cs a.2)) = true
    rw [pl_enc c a.1, pl_encAll cs a.2] <;> rfl
theorem weight_mem : ∀ {xs : List WData} {d : WData}, d ∈ xs → d.weight ≤ WData.weightAll xs
  | [], d, h => absurd h (by simp)
  | x :: r, d, h => by
    show d.weight ≤ x.weight + 1 + WData.weightAll r
    rcases List.mem_cons.mp h with e | m
    · rw [e]
      omega
    · have z := weight_mem m
      omega
def toV : Value → V
  | .none => .non
  | .bool b => .bl b
  | .int i _ => .int i
  | .str x _ => .str x
  | .bytes b _ => .byt b
  | .ref a => .ref a
  | _ => .non
/-- a value of the arguments, its objects among A -/
def OkU (A : List Addr) : Value → Prop
  | .none => True
  | .bool _ => True
  | .int _ _ => True
  | .str _ _ => True
  | .bytes _ _ => True
  | .ref a => a ∈ A
  | _ => False
theorem OkU.mono {A B : List Addr} (h : ∀ a ∈ A, a ∈ B) : ∀ {u : Value}, OkU A u → OkU B u := fun {u} x => by
  cases u with
  | ref a => exact h a x
  | none => trivial
  | bool b => trivial
  | int i t => trivial
  | str s t => trivial
  | bytes b t => trivial
  | _ => exact False.elim x
theorem relV_toV {A : List Addr} {u : Value} (x : OkU A u) : RelV (toV u) u := by
  cases u with
  | ref a => rfl
  | none => rfl
  | bool b => rfl
  | int i t => exact ⟨t, rfl⟩
  | str s t => exact ⟨t, rfl⟩
  | bytes b t => exact ⟨t, rfl⟩
  | _ => exact False.elim x
theorem vals_toV {A : List Addr} : ∀ {vs : List Value}, (∀ u ∈ vs, OkU A u) → Vals (vs.map toV) vs
  | [], _ => .nil
  | u :: r, h => .cons (relV_toV (h u (List.mem_cons_self ..))) (vals_toV fun x hx => h x (List.mem_cons_of_mem _ hx))
/-- an object of the arguments -/
def ArgOb (h : Heap) (A : List Addr) (a : Addr) : Prop := ∃ vs : List Value, vs.length ≤ sizeLine ∧ (∀ u ∈ vs, OkU A u) ∧
  (h.get? a = some { cls := .type "list", data := .seq vs.toArray } ∨ h.get? a = some { cls := .type "tuple", data := .seq vs.toArray })
theorem ArgOb.mono {h : Heap} {A B : List Addr} {a : Addr} (k : ∀ a ∈ A, a ∈ B) (x : ArgOb h A a) : ArgOb h B a := by
  obtain ⟨vs, h1, h2, h3⟩ := x
  exact ⟨vs, h1, fun u hu => (h2 u hu).mono k, h3⟩
theorem wellAll_len {P : Params} {h : Heap} : ∀ {vs : List Value} {ds : List WData}, WellAll P h vs ds → vs.length = ds.length
  | _, _, .nil => rfl
  | _, _, .cons _ b => by
    show _ + 1 = _ + 1
    rw [wellAll_len b]
theorem well_list {P : Params} {h : Heap} {v : Value} {ds : List WData} (x : Well P h v (.list ds)) : ∃ (a : Addr) (vs : List Value), v = .ref a ∧ h.get? a = some { cls := .type "list", data := .seq vs.toArray } ∧ WellAll P h vs ds := by
  cases x with
  | list ho hall => exact ⟨_, _, rfl, ho, hall⟩
theorem well_tuple {P : Params} {h : Heap} {v : Value} {ds : List WData} (x : Well P h v (.tuple ds)) : ∃ (a : Addr) (vs : List Value), v = .ref a ∧ h.get? a = some { cls := .type "tuple", data := .seq vs.toArray } ∧ WellAll P h vs ds := by
  cases x with
  | tuple ho hall => exact ⟨_, _, rfl, ho, hall⟩
theorem well_cons {P : Params} {h : Heap} {us : List Value} {d : WData} {ds : List WData} (x : WellAll P h us (d :: ds)) : ∃ (v : Value) (vs : List Value), us = v :: vs ∧ Well P h v d ∧ WellAll P h vs ds := by
  cases x with
  | cons a b => exact ⟨_, _, rfl, a, b⟩
theorem line_of {n : Nat} (h : n ≤ 1048576) : n ≤ sizeLine := Nat.le_trans h (by decide)
section
variable {P : Params} {h : Heap}
mutual
theorem area_one : ∀ (d : WData) (v : Value), Well P h v d → plW d = true → d.weight ≤ 1048576 → ∃ A : List Addr, OkU A v ∧ ∀ a ∈ A, ArgOb h A a
  | .none, _, x, _, _ => by
    cases x
    exact ⟨[], trivial, fun a m => absurd m (by simp)⟩
  | .bool b, _, x, _, _ => by
    cases x
    exact ⟨[], trivial, fun a m => absurd m (by simp)⟩
  | .int i, _, x, _, _ => by
    cases x
    exact ⟨[], trivial, fun a m => absurd m (by simp)⟩
  | .str s, _, x, _, _ => by
    cases x
    exact ⟨[], trivial, fun a m => absurd m (by simp)⟩
  | .bytes b, _, x, _, _ => by
    cases x
    exact ⟨[], trivial, fun a m => absurd m (by simp)⟩
  | .list ds, _, x, p, z => by
    obtain ⟨a, vs, rfl, ho, hall⟩ := well_list x
    have z2 : WData.weightAll ds ≤ 1048576 := z
    obtain ⟨A, h1, h2⟩ := area_all ds _ hall p fun d hd => Nat.le_trans (weight_mem hd) z2
    have k : ∀ b ∈ A, b ∈ a :: A := fun b hb => List.mem_cons_of_mem _ hb
    refine ⟨a :: A, List.mem_cons_self .., fun b hb => ?_⟩
    rcases List.mem_cons.mp hb with e | m
    · rw [e]
      exact ⟨vs, line_of (by rw [wellAll_len hall]; exact Nat.le_trans (PySem.W.length_le_weightAllW ds) z2), fun u hu => (h1 u hu).mono k, .inl ho⟩
    · exact (h2 b m).mono k
  | .tuple ds, _, x, p, z => by
    obtain ⟨a, vs, rfl, ho, hall⟩ := well_tuple x
    have z2 : WData.weightAll ds ≤ 1048576 := z
    obtain ⟨A, h1, h2⟩ := area_all ds _ hall p fun d hd => Nat.le_trans (weight_mem hd) z2
    have k : ∀ b ∈ A, b ∈ a :: A := fun b hb => List.mem_cons_of_mem _ hb
    refine ⟨a :: A, List.mem_cons_self .., fun b hb => ?_⟩
    rcases List.mem_cons.mp hb with e | m
    · rw [e]
      exact ⟨vs, line_of (by rw [wellAll_len hall]; exact Nat.le_trans (PySem.W.length_le_weightAllW ds) z2), fun u hu => (h1 u hu).mono k, .inr ho⟩
    · exact (h2 b m).mono k
  | .float _, _, _, p, _ => Bool.noConfusion (show false = true from p)
  | .dict _, _, _, p, _ => Bool.noConfusion (show false = true from p)
  | .bytearray _, _, _, p, _ => Bool.noConfusion (show false = true from p)
  | .set _, _, _, p, _ => Bool.noConfusion (show false = true from p)
  | .frozenset _, _, _, p, _ => Bool.noConfusion (show false = true from p)
  | .obj _ _, _, _, p, _ => Bool.noConfusion (show false = true from p)
theorem area_all : ∀ (ds : List WData) (vs : List Value), WellAll P h vs ds → plWs ds = true → (∀ d ∈ ds, d.weight ≤ 1048576) → ∃ A : List Addr, (∀ u ∈ vs, OkU A u) ∧ ∀ a ∈ A, ArgOb h A a
  | [], _, x, _, _ => by
    cases x
    exact ⟨[], fun u m => absurd m (by simp), fun a m => absurd m (by simp)⟩
  | d :: ds, _, x, p, z => by
    obtain ⟨v, vs, rfl, x1, x2⟩ := well_cons x
    have q : plW d = true ∧ plWs ds = true := Bool.and_eq_true_iff.mp p
    obtain ⟨A, a1, a2⟩ := area_one d v x1 q.1 (z d (List.mem_cons_self ..))
    obtain ⟨B, b1, b2⟩ := area_all ds vs x2 q.2 fun e he => z e (List.mem_cons_of_mem _ he)
    have kA : ∀ b ∈ A, b ∈ A ++ B := fun b hb => List.mem_append.mpr (.inl hb)
    have kB : ∀ b ∈ B, b ∈ A ++ B := fun b hb => List.mem_append.mpr (.inr hb)
    refine ⟨A ++ B, fun u hu => ?_, fun b hb => ?_⟩
    · rcases List.mem_cons.mp hu with e | m
      · rw [e]
        exact a1.mono kA
      · exact (b1 u m).mono kB
    · rcases List.mem_append.mp hb with m | m
      · exact (a2 b m).mono kA
      · exact (b2 b m).mono kB
end
end
/-- what is tracked of an argument's object -/
def hoOf (o : Obj) : Option HO := match o.data with
  | .seq vs _ => if (o.cls == Value.type "list") = true then some (.frz o (.lst (vs.toList.map toV))) else some (.frz o (.tup (vs.toList.map toV)))
  | _ => none
def argH (K : PySem.W.Frag) (h : Heap) (A : List Addr) : Hp := fun b => if b ∈ A then (if (K.lookup b).isNone = true then (h.get? b).bind hoOf else none) else none
/-- nothing is tracked but what is known to the object -/
def OnlyF (H : Hp) : Prop := ∀ b, H b = none ∨ ∃ o u, H b = some (.frz o u)
theorem hoOf_lst (vs : List Value) : hoOf { cls := .type "list", data := .seq vs.toArray } = some (.frz { cls := .type "list", data := .seq vs.toArray } (.lst (vs.map toV))) := by
  show (if (Value.type "list" == Value.type "list") = true then some (HO.frz { cls := .type "list", data := .seq vs.toArray } (.lst (vs.toArray.toList.map toV))) else some (HO.frz { cls := .type "list", data := .seq vs.toArray } (.tup (vs.toArray.toList.map toV)))) = _
  rw [if_pos (beq_self_eq_true _)]
theorem hoOf_tup (vs : List Value) : hoOf { cls := .type "tuple", data := .seq vs.toArray } = some (.frz { cls := .type "tuple", data := .seq vs.toArray } (.tup (vs.map toV))) := by
  show (if (Value.type "tuple" == Value.type "list") = true then some (HO.frz { cls := .type "tuple", data := .seq vs.toArray } (.lst (vs.toArray.toList.map toV))) else some (HO.frz { cls := .type "tuple", data := .seq vs.toArray } (.tup (vs.toArray.toList.map toV)))) = _
  rw [if_neg (by decide)]
section
variable {P : Program} {w : World} {K : PySem.W.Frag} {h : Heap} {A : List Addr}
theorem argH_at {b : Addr} {o : Obj} (hb : b ∈ A) (hk : K.lookup b = none) (e : h.get? b = some o) : argH K h A b = hoOf o := by
  unfold argH
  rw [if_pos hb, hk, if_pos (show (none : Option Obj).isNone = true from rfl), e] <;> rfl
theorem of_argH {b : Addr} {u : HO} (q : argH K h A b = some u) : b ∈ A ∧ K.lookup b = none := by
  unfold argH at q
  by_cases hb : b ∈ A
  · rw [if_pos hb] at q
    cases hk : K.lookup b with
    | none => exact ⟨hb, rfl⟩
    | some o =>
      rw [hk, if_neg (by simp)] at q
      cases q
  · rw [if_neg hb] at q
    cases q
/-- what stands tracked -/
theorem argH_is (ar : ∀ a ∈ A, ArgOb h A a) {b : Addr} {u : HO} (q : argH K h A b = some u) : K.lookup b = none ∧ ∃ vs : List Value, vs.length ≤ sizeLine ∧ (∀ u ∈ vs, OkU A u) ∧
    ((h.get? b = some { cls := .type "list", data := .seq vs.toArray } ∧ u = .frz { cls := .type "list", data := .seq vs.toArray } (.lst (vs.map toV))) ∨
     (h.get? b = some { cls := .type "tuple", data := .seq vs.toArray } ∧ u = .frz { cls := .type "tuple", data := .seq vs.toArray } (.tup (vs.map toV)))) := by
  obtain ⟨hb, hk⟩ := of_argH q
  obtain ⟨vs, h1, h2, h3⟩ := ar b hb
  refine ⟨hk, vs, h1, h2, ?_⟩
  rcases h3 with e | e
  · rw [argH_at hb hk e, hoOf_lst] at q
    exact .inl ⟨e, (Option.some.inj q).symm⟩
  · rw [argH_at hb hk e, hoOf_tup] at q
    exact .inr ⟨e, (Option.some.inj q).symm⟩
theorem argH_only (ar : ∀ a ∈ A, ArgOb h A a) : OnlyF (argH K h A) := fun b => by
  cases q : argH K h A b with
  | none => exact .inl rfl
  | some u =>
    obtain ⟨_, vs, _, _, ⟨_, e⟩ | ⟨_, e⟩⟩ := argH_is ar q
    · exact .inr ⟨_, _, by rw [e]⟩
    · exact .inr ⟨_, _, by rw [e]⟩
theorem argH_ok (ar : ∀ a ∈ A, ArgOb h A a) : HOk P w (argH K h A) h := fun b u q => by
  obtain ⟨_, vs, h1, h2, ⟨e, rfl⟩ | ⟨e, rfl⟩⟩ := argH_is ar q
  · exact ⟨e, by rw [List.length_map]; exact h1, vs, _, vals_toV h2, e⟩
  · exact ⟨e, by rw [List.length_map]; exact h1, vs, vals_toV h2, _, e, rfl, _, rfl⟩
theorem seq_inj {c c' : Value} {vs us : List Value} (e : (some { cls := c, data := .seq vs.toArray } : Option Obj) = some { cls := c', data := .seq us.toArray }) : c = c' ∧ vs = us := by
  have e1 := Option.some.inj e
  have e2 : c = c' := congrArg Obj.cls e1
  have e3 : Data.seq vs.toArray = Data.seq us.toArray := congrArg Obj.data e1
  injection e3 with e4
  refine ⟨e2, ?_⟩
  have e5 := congrArg Array.toList e4
  simpa using e5
/-- a list argument -/
theorem argL (KX : K.In h) (ar : ∀ a ∈ A, ArgOb h A a) {a : Addr} {vs : List Value} (ha : a ∈ A) (e : h.get? a = some { cls := .type "list", data := .seq vs.toArray }) : (∀ u ∈ vs, OkU A u) ∧ SqL K (argH K h A) a (vs.map toV) := by
  obtain ⟨us, h1, h2, h3⟩ := ar a ha
  have hu : us = vs := by
    rcases h3 with q | q
    · rw [e] at q
      exact (seq_inj q).2.symm
    · rw [e] at q
      exact absurd (Value.type.inj (seq_inj q).1) (by decide)
  subst hu
  refine ⟨h2, ?_⟩
  cases hk : K.lookup a with
  | none => exact .inl (.inr ⟨_, by rw [argH_at ha hk e, hoOf_lst]⟩)
  | some o =>
    have e2 := KX a o hk
    rw [e] at e2
    obtain rfl := Option.some.inj e2
    exact .inr ⟨_, us.toArray, _, hk, rfl, rfl, rfl, by rw [List.size_toArray]; exact h1, by simpa using vals_toV h2⟩
theorem argT (KX : K.In h) (ar : ∀ a ∈ A, ArgOb h A a) {a : Addr} {vs : List Value} (ha : a ∈ A) (e : h.get? a = some { cls := .type "tuple", data := .seq vs.toArray }) : (∀ u ∈ vs, OkU A u) ∧ SqT K (argH K h A) a (vs.map toV) := by
  obtain ⟨us, h1, h2, h3⟩ := ar a ha
  have hu : us = vs := by
    rcases h3 with q | q
    · rw [e] at q
      exact absurd (Value.type.inj (seq_inj q).1) (by decide)
    · rw [e] at q
      exact (seq_inj q).2.symm
  subst hu
  refine ⟨h2, ?_⟩
  cases hk : K.lookup a with
  | none => exact .inl (.inr ⟨_, by rw [argH_at ha hk e, hoOf_tup]⟩)
  | some o =>
    have e2 := KX a o hk
    rw [e] at e2
    obtain rfl := Option.some.inj e2
    exact .inr ⟨_, us.toArray, _, hk, rfl, rfl, by rw [List.size_toArray]; exact h1, by simpa using vals_toV h2⟩
mutual
theorem dw_one {Pm : Params} (KX : K.In h) (ar : ∀ a ∈ A, ArgOb h A a) : ∀ (d : WData) (v : Value), Well Pm h v d → plW d = true → OkU A v → Dw K (argH K h A) (toV v) d
  | .none, _, x, _, _ => by
    cases x
    exact .non
  | .bool b, _, x, _, _ => by
    cases x
    exact .bl b
  | .int i, _, x, _, _ => by
    cases x
    exact .int i
  | .str s, _, x, _, _ => by
    cases x
    exact .str s
  | .bytes b, _, x, _, _ => by
    cases x
    have z := Dw.byt (K := K) (H := argH K h A) b.toArray
    exact z
  | .list ds, _, x, p, hu => by
    obtain ⟨a, vs, rfl, ho, hall⟩ := well_list x
    obtain ⟨h2, hs⟩ := argL KX ar hu ho
    exact .lst hs (dw_all KX ar ds _ hall p h2)
  | .tuple ds, _, x, p, hu => by
    obtain ⟨a, vs, rfl, ho, hall⟩ := well_tuple x
    obtain ⟨h2, hs⟩ := argT KX ar hu ho
    exact .tup hs (dw_all KX ar ds _ hall p h2)
  | .float _, _, _, p, _ => Bool.noConfusion (show false = true from p)
  | .dict _, _, _, p, _ => Bool.noConfusion (show false = true from p)
  | .bytearray _, _, _, p, _ => Bool.noConfusion (show false = true from p)
  | .set _, _, _, p, _ => Bool.noConfusion (show false = true from p)
  | .frozenset _, _, _, p, _ => Bool.noConfusion (show false = true from p)
  | .obj _ _, _, _, p, _ => Bool.noConfusion (show false = true from p)
theorem dw_all {Pm : Params} (KX : K.In h) (ar : ∀ a ∈ A, ArgOb h A a) : ∀ (ds : List WData) (vs : List Value), WellAll Pm h vs ds → plWs ds = true → (∀ u ∈ vs, OkU A u) → DwAll K (argH K h A) (vs.map toV) ds
  | [], _, x, _, _ => by
    cases x
    exact .nil
  | d :: ds, _, x, p, hu => by
    obtain ⟨v, vs, rfl, x1, x2⟩ := well_cons x
    have q : plW d = true ∧ plWs ds = true := Bool.and_eq_true_iff.mp p
    exact .cons (dw_one KX ar d v x1 q.1 (hu _ (List.mem_cons_self ..))) (dw_all KX ar ds vs x2 q.2 fun u m => hu u (List.mem_cons_of_mem _ m))
end
end
/-! ### the call -/
theorem spec_call {P : Program} {w : World} {K : PySem.W.Frag} {mg mb : Str → Option Value} {CX : CXT} {k : Nat} {fa : Addr} {fd : FuncData} {ps : List Str} {sp : Sp} {s₁ : Shared} {vals : List Value} {ds : List WData} {R : PySem.W.WRecords} {cl : Str → Option Addr} {d0 : WData}
    (KX : K.In s₁.heap) (hns : s₁.heap.Ns mainGlobals mg) (hb : s₁.heap.Ns builtinsNs mb) (hbb : ∀ x : Str, x ≠ "__name__" → mb x = bootBuiltins x) (hlim : s₁.heap.NoLimit) (hg : s₁.gens = #[])
    (hwl : WellAll w.params s₁.heap vals ds) (hpl : plWs ds = true) (hwt : ∀ d ∈ ds, d.weight ≤ 1048576) (hr : Room k callerA)
    (F : ∀ base : Heap, K.In base → base.Ns mainGlobals mg → FnOk P w K mg base CX k fa fd ps sp) (hbind : ∀ (s : Shared) (us : List Value), us.length = ps.length → BindsTo s fd ⟨us, []⟩ (ps.zip us)) (hlen : ds.length = ps.length)
    (hsp : ∀ (H : Hp) (xs : List V), OnlyF H → DwAll K H xs ds → sp xs H (fun v H' => Dw K H' v d0) fun _ _ _ => False)
    (hCX : ∀ H e s', CX [] H s₁ (fun _ _ _ => False) e s' → False) :
    codeAny (model P w) callerA (.call (.ref fa) ⟨vals, []⟩) (fun r s' => ∃ u as, r = .ok (.ret u) ∧ ReadsW R cl s'.heap u d0 as ∧ OldK s₁.heap s'.heap ∧ s'.os = s₁.os ∧ AllBare s'.gens) s₁ := by
  obtain ⟨A, ho, ar⟩ := area_all ds vals hwl hpl hwt
  have hO : OnlyF (argH K s₁.heap A) := argH_only ar
  have hok : HOk P w (argH K s₁.heap A) s₁.heap := argH_ok ar
  have hS := dw_all KX ar ds vals hwl hpl ho
  have hV := vals_toV ho
  have hK : ∀ b u, argH K s₁.heap A b = some u → K.lookup b = none := fun b u q => (argH_is ar q).1
  have noA : ∀ {b : Addr} {o : Obj} {es : Array DictEntry} {ep : Nat}, s₁.heap.get? b = some o → o.data = .dict es ep → argH K s₁.heap A b = none := fun {b o es ep} e d => by
    cases q : argH K s₁.heap A b with
    | none => rfl
    | some u =>
      obtain ⟨_, vs, _, _, ⟨e2, _⟩ | ⟨e2, _⟩⟩ := argH_is ar q
      · rw [e2] at e
        cases e
        have d' : Data.seq vs.toArray _ = Data.dict es ep := d
        cases d'
      · rw [e2] at e
        cases e
        have d' : Data.seq vs.toArray _ = Data.dict es ep := d
        cases d'
  generalize argH K s₁.heap A = H at hO hok hS hK noA
  have base_of : ∀ {b : Addr} {o : Obj}, s₁.heap.get? b = some o → H b = none → (hidT s₁.heap H).get? b = some o := fun e n => hidT_get e n
  have nsK : ∀ {b : Addr} {m : Str → Option Value}, s₁.heap.Ns b m → (hidT s₁.heap H).Ns b m := fun {b m} ⟨o, es, ep, e, d, r⟩ => ⟨o, es, ep, base_of e (noA e d), d, r⟩
  have nK : ∀ b o, K.lookup b = some o → H b = none := fun b o e => by
    cases q : H b with
    | none => rfl
    | some u =>
      rw [hK b u q] at e
      cases e
  have hKb : K.In (hidT s₁.heap H) := fun b o e => base_of (KX b o e) (nK b o e)
  have hM : Mod K mg (hidT s₁.heap H) := ⟨hKb, nsK hns, ⟨mb, nsK hb, hbb⟩, let ⟨mc, h1, h2⟩ := hlim; ⟨mc, nsK h1, h2⟩⟩
  have e0 : Env0 P w K mg (hidT s₁.heap H) callerA [] s₁ H := ⟨rfl, hM, fun b o e => of_hidT e, Nat.le_of_eq (hidT_size _ _), trivial, fun b hb => absurd (show b ∈ ([] : List Addr) from hb) (by simp), hok, .of_eq hg⟩
  have hl : vals.length = ps.length := by rw [wellAll_len hwl]; exact hlen
  refine codeAny_mono ((F _ hKb (nsK hns)).run callerA [] s₁ H ⟨vals, []⟩ vals (vals.map toV) _ _ hr e0 (hbind s₁ vals hl) hV (hsp H _ hO hS)) fun r s' x => ?_
  cases r with
  | error e => exact (hCX H e s' x).elim
  | ok fl =>
    cases fl with
    | next => exact False.elim x
    | brk => exact False.elim x
    | cont => exact False.elim x
    | ret u =>
      obtain ⟨v, H', os, bare, un, hok', r', q⟩ := x
      have kept : ∀ b o, s₁.heap.get? b = some o → s'.heap.get? b = some o := fun b o e => by
        cases q2 : H b with
        | none => exact un.keep b o e q2 (by intro z; exact absurd (show b ∈ ([] : List Addr) from z) (by simp)) (by simp)
        | some u2 =>
          rcases hO b with z | ⟨ob, u3, z⟩
          · rw [q2] at z
            cases z
          · have z2 := un.frzs b ob _ z
            obtain ⟨e1, _⟩ := hok b _ z
            obtain ⟨e2, _⟩ := hok' b _ z2
            rw [e] at e1
            cases e1
            exact e2
      have KX' : K.In s'.heap := fun b o e => kept b o (KX b o e)
      obtain ⟨as, hrd⟩ := Dw.reads (R := R) (cl := cl) hok' KX' d0 v u q r'
      exact ⟨u, as, rfl, hrd, OldK.of_keep kept, os, bare⟩
/-! ### the row -/
theorem layable_weight {ds : List WData} (h : WData.layableAll ds = true) : ∀ d ∈ ds, d.weight ≤ 1048576 := fun d hd =>
  (PySem.W.layableW_iff.mp (List.all_eq_true.mp h d hd)).2.2
theorem encAll_len : ∀ (cs : List Codec) (a : Codec.denoteAll cs), (Codec.encAll cs a).length = cs.length
  | [], _ => rfl
  | c :: cs, a => by
    show (Codec.encAll cs a.2).length + 1 = cs.length + 1
    rw [encAll_len cs a.2]
/-- the goal that k_headS leaves (case hc), from the promise of the row's def: whatever the arguments that the codecs let and the row asks for, the def gives what stands for enc (f ..) -/
theorem walk_spec {r : OpenSpec} {k : Nat} {q : Program} {loose : List Str} {XP : (Str → Option Value) → Heap → Prop} {YP : World → Heap → Prop} {d : DefRec} {K : Params → PySem.W.Frag} {CX : World → CXT} {ps : List Str} {sp : World → Sp}
    (hwell : r.wellSaid = true) (hdf : d.params.defaults = []) (hlen : r.args.length = ps.length) (hr : Room k callerA)
    (hY : ∀ (w : World) (h : Heap), YP w h → (K w.params).In h)
    (F : ∀ (w : World) (mg : Str → Option Value) (fa : Addr) (h : Heap), YP w h → (K w.params).In h → h.Ns mainGlobals mg → mg d.name = some (.ref fa) →
      ∃ fd : FuncData, (∀ (s : Shared) (us : List Value), us.length = ps.length → BindsTo s fd ⟨us, []⟩ (ps.zip us)) ∧
        ∀ base : Heap, (K w.params).In base → base.Ns mainGlobals mg → FnOk r.prog w (K w.params) mg base (CX w) k fa fd ps (sp w))
    (hsp : ∀ (w : World) (H : Hp) (xs : List V) (a : Codec.denoteAll r.args), OnlyF H → Codec.withinAll r.args a = true → Codec.app r.args r.asked a = true → DwAll (K w.params) H xs (Codec.encAll r.args a) →
      sp w xs H (fun v H' => Dw (K w.params) H' v (r.ret.enc (Codec.app r.args r.f a))) fun _ _ _ => False)
    (hCX : ∀ (w : World) (H : Hp) (s : Shared) (e : Value) (s' : Shared), CX w [] H s (fun _ _ _ => False) e s' → False) :
    PySem.W.WalkOS q loose XP YP r d [] (fun f vs => PySem.call f vs) := by
  intro w s_0 s₁ mg mb G Y fa o pm cd doc dV kV ho hd hcd hD hmg hg args vals as hpre hlay hrd hwl hlo
  obtain ⟨a, e1, e2⟩ := PySem.W.os_pre_some hpre
  obtain ⟨e3, hwi⟩ := Codec.encAll_of_decAll r.args args a e1
  subst e3
  have KX := hY w _ Y
  obtain ⟨fd, hb, hF⟩ := F w mg fa _ Y KX G.T.g hmg
  refine PySem.W.enter_call (codeAny_mono (spec_call (R := []) (cl := classAt s_0.heap) (d0 := r.ret.enc (Codec.app r.args r.f a)) KX G.T.g G.T.b G.T.builtins G.T.nolimit hg hwl (pl_encAll _ _) (layable_weight hlay) hr hF hb (by rw [encAll_len]; exact hlen)
    (fun H xs hO hS => hsp w H xs a hO hwi e2 hS) fun H e s' => hCX w H s₁ e s') fun r' s' hq => ?_)
  obtain ⟨u, as', rfl, h1, h2, h3, h4⟩ := hq
  exact ⟨.inl ⟨u, _, as', rfl, fun _ => rfl, h1, (OpenSpec.post_iff hwell hwi _ _).mpr rfl, fun z => Bool.noConfusion (show false = true from z)⟩, h2, h3, h4⟩
/-- the same where the promise hangs on the written part alone -/
theorem walk_specK {r : OpenSpec} {k : Nat} {q : Program} {loose : List Str} {XP : (Str → Option Value) → Heap → Prop} {YP : World → Heap → Prop} {d : DefRec} {K : Params → PySem.W.Frag} {CX : CXT} {ps : List Str} {sp : PySem.W.Frag → Sp}
    (hwell : r.wellSaid = true) (hdf : d.params.defaults = []) (hlen : r.args.length = ps.length) (hr : Room k callerA)
    (hY : ∀ (w : World) (h : Heap), YP w h → (K w.params).In h)
    (F : ∀ (w : World) (mg : Str → Option Value) (fa : Addr) (h : Heap), YP w h → (K w.params).In h → h.Ns mainGlobals mg → mg d.name = some (.ref fa) →
      ∃ fd : FuncData, (∀ (s : Shared) (us : List Value), us.length = ps.length → BindsTo s fd ⟨us, []⟩ (ps.zip us)) ∧
        ∀ base : Heap, (K w.params).In base → base.Ns mainGlobals mg → FnOk r.prog w (K w.params) mg base CX k fa fd ps (sp (K w.params)))
    (hsp : ∀ (K : PySem.W.Frag) (H : Hp) (xs : List V) (a : Codec.denoteAll r.args), OnlyF H → Codec.withinAll r.args a = true → Codec.app r.args r.asked a = true → DwAll K H xs (Codec.encAll r.args a) →
      sp K xs H (fun v H' => Dw K H' v (r.ret.enc (Codec.app r.args r.f a))) fun _ _ _ => False)
    (hCX : ∀ (H : Hp) (s : Shared) (e : Value) (s' : Shared), CX [] H s (fun _ _ _ => False) e s' → False) :
    PySem.W.WalkOS q loose XP YP r d [] (fun f vs => PySem.call f vs) :=
  walk_spec (K := K) (CX := fun _ => CX) (sp := fun w => sp (K w.params)) hwell hdf hlen hr hY F (fun w H xs a h1 h2 h3 h4 => hsp (K w.params) H xs a h1 h2 h3 h4) fun _ H s e s' => hCX H s e s'
end L2
-- rests on (row put in by the clerk, for the bench that shows a file only what it spells): KE.SpHead KE.OsShapes
end
section
set_option Elab.async false
set_option linter.all false
set_option maxRecDepth 100000
set_option maxHeartbeats 2000000
/-! The program's objects on the abstract heap, and what a reading def promises. -/
namespace Lk
open PySem PySem.Spec PyProof.Rows L2
open Sn15 (D bits bitsOf symbol Code Px)

/-- the addresses of the text's classes -/
structure Ad where
  CN : Addr
  CT : Addr
  CB : Addr
  CV : Addr
  CC : Addr
  CS : Addr
  CG : Addr

abbrev nat (n : Nat) : V := V.int (n : Int)
def natsV (l : List Nat) : List V := l.map nat
theorem natsV_len (l : List Nat) : (natsV l).length = l.length := by unfold natsV; simp
theorem natsV_get {l : List Nat} {i n : Nat} (h : l[i]? = some n) : (natsV l)[i]? = some (nat n) := by
  unfold natsV
  rw [List.getElem?_map, h]
  rfl
theorem natsV_app (l m : List Nat) : natsV (l ++ m) = natsV l ++ natsV m := by unfold natsV; simp
theorem natsV_set (l : List Nat) (i n : Nat) : natsV (l.set i n) = (natsV l).set i (nat n) := by unfold natsV; simp [List.map_set]

/-! ### fields -/
theorem lk_here {f : Str} {v : V} {r : List (Str × V)} : ((f, v) :: r).lookup f = some v := by simp [List.lookup]
theorem lk_next {f g : Str} {v : V} {r : List (Str × V)} (h : (f == g) = false) : ((g, v) :: r).lookup f = r.lookup f := by simp [List.lookup, h]
theorem pf_here {f : Str} {v x : V} {r : List (Str × V)} : putF f v ((f, x) :: r) = (f, v) :: r := by simp [putF]
theorem pf_next {f g : Str} {v x : V} {r : List (Str × V)} (h : ¬ g = f) : putF f v ((g, x) :: r) = (g, x) :: putF f v r := by simp [putF, h]

/-! ### what stays -/
def Kept (ps : List Addr) (H H' : Hp) : Prop := ∀ b o, H b = some o → b ∉ ps → H' b = some o
theorem Kept.refl (ps : List Addr) (H : Hp) : Kept ps H H := fun _ _ h _ => h
theorem Kept.trans {ps : List Addr} {H H1 H2 : Hp} (a : Kept ps H H1) (b : Kept ps H1 H2) : Kept ps H H2 := fun c o h n => b c o (a c o h n) n
theorem Kept.mono {ps qs : List Addr} {H H1 : Hp} (a : Kept ps H H1) (h : ∀ x ∈ ps, x ∈ qs) : Kept qs H H1 := fun c o e n => a c o e fun z => n (h c z)
theorem Kept.new {ps : List Addr} {H : Hp} {a : Addr} {o : HO} (h : H a = none) : Kept ps H (upd H a o) := fun b u e _ => by rw [upd_ne (ne_of_none e h)]; exact e
theorem Kept.put {ps : List Addr} {H : Hp} {a : Addr} {o : HO} (h : a ∈ ps) : Kept ps H (upd H a o) := fun b u e n => by
  have ne : b ≠ a := fun z => n (by rw [z]; exact h)
  rw [upd_ne ne]; exact e
theorem Kept.same {H H1 : Hp} (h : Same H H1) (ps : List Addr) : Kept ps H H1 := fun b o e _ => h b o e
theorem Kept.free {ps : List Addr} {H H1 : Hp} (h : Kept ps H H1) {a : Addr} (n : H1 a = none) (hp : a ∉ ps) : H a = none := by
  cases q : H a with
  | none => rfl
  | some o => rw [h a o q hp] at n; cases n

/-! ### the bits -/
/-- the Bits object, its list, the bytes in it -/
structure Bi where
  p : Addr
  o : Addr
  oct : List Nat
def bitsF (o : Addr) (i e : Nat) : List (Str × V) := [("octets", .ref o), ("place", nat i), ("end", nat e)]
def BitsAt (t : Ad) (H : Hp) (B : Bi) (bs : List Bool) : Prop := ∃ (dx : Addr) (i : Nat), H B.p = some (.ins t.CB dx (bitsF B.o i (8 * B.oct.length))) ∧ H B.o = some (.lst (natsV B.oct)) ∧
  (∀ c ∈ B.oct, c < 256) ∧ i ≤ 8 * B.oct.length ∧ B.oct.length ≤ 100000 ∧ bs = (bitsOf B.oct).drop i
theorem bitsF_o (o : Addr) (i e : Nat) : (bitsF o i e).lookup ("octets" : Str) = some (.ref o) := lk_here
theorem bitsF_p (o : Addr) (i e : Nat) : (bitsF o i e).lookup ("place" : Str) = some (nat i) := (lk_next (by decide +kernel)).trans lk_here
theorem bitsF_e (o : Addr) (i e : Nat) : (bitsF o i e).lookup ("end" : Str) = some (nat e) := (lk_next (by decide +kernel)).trans ((lk_next (by decide +kernel)).trans lk_here)
theorem bitsF_no (o : Addr) (i e : Nat) {m : Str} (h1 : (m == ("octets" : Str)) = false) (h2 : (m == ("place" : Str)) = false) (h3 : (m == ("end" : Str)) = false) : (bitsF o i e).lookup m = none :=
  (lk_next h1).trans ((lk_next h2).trans ((lk_next h3).trans rfl))
theorem bitsF_put (o : Addr) (i j e : Nat) : putF "place" (nat j) (bitsF o i e) = bitsF o j e := by
  unfold bitsF
  rw [pf_next (by decide +kernel), pf_here]
theorem BitsAt.ne {t : Ad} {H : Hp} {B : Bi} {bs : List Bool} (h : BitsAt t H B bs) : B.o ≠ B.p := by
  obtain ⟨dx, i, h1, h2, _⟩ := h
  exact ne_of h2 h1 (by intro z; cases z)
theorem BitsAt.kept {t : Ad} {H H' : Hp} {B : Bi} {bs : List Bool} {ps : List Addr} (h : BitsAt t H B bs) (k : Kept ps H H') (h1 : B.p ∉ ps) (h2 : B.o ∉ ps) : BitsAt t H' B bs := by
  obtain ⟨dx, i, e1, e2, r⟩ := h
  exact ⟨dx, i, k _ _ e1 h1, k _ _ e2 h2, r⟩

/-! ### what a reading def promises: R says how the answer lies on the heap -/
def Out {α : Type} (t : Ad) (E : XK) (B : Bi) (ps : List Addr) (H : Hp) (R : α → V → Hp → Prop) (Q : VK) : Option (α × List Bool) → Prop
  | none => ∀ H', E (.ref t.CN) none H'
  | some (a, bs') => ∀ v H', BitsAt t H' B bs' → Kept (B.p :: ps) H H' → R a v H' → Q v H'
section
variable {α β : Type} {t : Ad} {E : XK} {B : Bi} {ps qs : List Addr} {H H' : Hp} {R : β → V → Hp → Prop} {R1 : α → V → Hp → Prop} {Q Q1 : VK} {bs bs' : List Bool}
theorem Out.shift {r : Option (β × List Bool)} (h : Out t E B ps H R Q r) (k : Kept (B.p :: ps) H H') : Out t E B ps H' R Q r := by
  cases r with
  | none => exact h
  | some x => exact fun v H2 b k2 r => h v H2 b (k.trans k2) r
theorem cons_mono {a : Addr} {ps qs : List Addr} (h : ∀ x ∈ qs, x ∈ ps) : ∀ x ∈ a :: qs, x ∈ a :: ps := fun x hx => by
  rcases List.mem_cons.mp hx with e | e
  · rw [e]; exact List.mem_cons_self
  · exact List.mem_cons_of_mem _ (h x e)
/-- a part is read, then the rest -/
theorem Out.bind' {m : D α} {f : α → D β} (h : Out t E B ps H R Q ((m >>= f) bs)) (hq : ∀ x ∈ qs, x ∈ ps)
    (k : ∀ a bs' v H', m bs = some (a, bs') → BitsAt t H' B bs' → Kept (B.p :: qs) H H' → R1 a v H' → Out t E B ps H' R Q (f a bs') → Q1 v H') : Out t E B qs H R1 Q1 (m bs) := by
  rw [d_bind] at h
  cases hm : m bs with
  | none => rw [hm] at h; exact h
  | some x =>
    rw [hm] at h
    obtain ⟨a, bs'⟩ := x
    exact fun v H' b kp r => k a bs' v H' hm b kp r (Out.shift h (kp.mono (cons_mono hq)))
theorem Out.bind {m : D α} {f : α → D β} (h : Out t E B ps H R Q ((m >>= f) bs))
    (k : ∀ a bs' v H', m bs = some (a, bs') → BitsAt t H' B bs' → Kept (B.p :: []) H H' → R1 a v H' → Out t E B ps H' R Q (f a bs') → Q1 v H') : Out t E B [] H R1 Q1 (m bs) :=
  Out.bind' h (fun x hx => by cases hx) k
theorem Out.need {c : Bool} {f : Unit → D β} (h : Out t E B ps H R Q ((Sn15.need c >>= f) bs)) : (c = true → Out t E B ps H R Q (f () bs)) ∧ (c = false → ∀ H', E (.ref t.CN) none H') := by
  refine ⟨fun e => ?_, fun e => ?_⟩
  · subst e; rw [d_need_true] at h; exact h
  · subst e; rw [d_need_false] at h; exact h
theorem Out.pure {a : β} (h : Out t E B ps H R Q ((Pure.pure a : D β) bs)) (b : BitsAt t H B bs) {v : V} (r : R a v H) : Q v H := h v H b (Kept.refl _ _) r
theorem Out.pure' {a : β} (h : Out t E B ps H R Q ((Pure.pure a : D β) bs)) (b : BitsAt t H' B bs) (k : Kept (B.p :: ps) H H') {v : V} (r : R a v H') : Q v H' := h v H' b k r
theorem Out.imp {r : Option (α × List Bool)} (h : Out t E B ps H R1 Q r) {R2 : α → V → Hp → Prop} (hr : ∀ a v H', R2 a v H' → R1 a v H') : Out t E B ps H R2 Q r := by
  cases r with
  | none => exact h
  | some x => exact fun v H2 b k2 r => h v H2 b k2 (hr _ _ _ r)
end
def isNat : Nat → V → Hp → Prop := fun n v _ => v = nat n

/-! ### defs and methods of the text, ready to be called -/
structure DefOk (P : Program) (w : World) (K : PySem.W.Frag) (mg : Str → Option Value) (base : Heap) (k : Nat) (x : Str) (ps : List Str) (sp : Sp) : Prop where
  ex : ∃ f fd, FnOk P w K mg base (CXe P w) k f fd ps sp ∧ mg x = some (.ref f) ∧ PySem.W.keepIn K (.ref f) = true ∧ Binds K fd ps []
structure MethOk (P : Program) (w : World) (K : PySem.W.Frag) (mg : Str → Option Value) (base : Heap) (k : Nat) (C : Addr) (m : Str) (ps : List Str) (sp : Sp) : Prop where
  ex : ∃ f fd, FnOk P w K mg base (CXe P w) k f fd ps sp ∧ Meth K C m f ∧ Binds K fd ps []
structure MakeOk (P : Program) (w : World) (K : PySem.W.Frag) (mg : Str → Option Value) (base : Heap) (k : Nat) (C : Addr) (x : Str) (ps : List Str) (sp : Sp) : Prop where
  ex : ∃ f fd, FnOk P w K mg base (CXe P w) k f fd ps sp ∧ Mk K C f ∧ Binds K fd ps []
  nm : mg x = some (.ref C)
section
variable {X : Cx} {E : XK} {k : Nat} {x m : Str} {C : Addr} {ps : List Str} {sp : Sp} {p pos apos : Pos} {e o : Expr} {es : List Expr} {ta : TE} {ts : TA}
theorem pd (G : DefOk X.prog X.w X.K X.mg X.base k x ps sp) (L : Lv X E) (hr : Room k X.A) (ha : PA X (e :: es) ts) (hg : Gl X x := by rfl) (hdb : (x == ("__debug__" : Str)) = false := by decide)
    (he : starEach (e :: es) X.env = (false, eval e X.env) :: starEach es X.env := by rfl) (hpl : (backTo pos (starEach es X.env)).any (·.1) = false := by rfl) : PE X (.Call (.Name x p) (e :: es) [] pos) (tCall sp [] E ts) := by
  obtain ⟨f, fd, F, hm, hk, hb⟩ := G.ex
  exact pe_call F hr hg hm hk hb .nil L.pass ha hdb he hpl
theorem pm (G : MethOk X.prog X.w X.K X.mg X.base k C m ps sp) (L : Lv X E) (c : Cls X.K C) (hr : Room k X.A) (ho : PE X o ta) (ha : PA X (e :: es) ts) {pl : Sem Bool}
    (hst : starEach (e :: es) X.env = (false, eval e X.env) :: starEach es X.env := by rfl) (hpl : (backTo pos (starEach es X.env)).any (·.1) = false := by rfl)
    (ht : eval (.Call (.Attribute o m apos) (e :: es) [] pos) X.env = (do
      let ov ← eval o X.env
      standAt apos.atName
      let (f, first) ← holding [ov] (getMethod ov m pl)
      callWith pos f first (backTo pos (starEach (e :: es) X.env)) (backToKw pos (keywordEach [] X.env))) := by rfl) : PE X (.Call (.Attribute o m apos) (e :: es) [] pos) (tMeth C m sp [] E ta ts) := by
  obtain ⟨f, fd, F, hm, hb⟩ := G.ex
  exact pe_meth ho c hm F hr hb .nil L.pass ha hst hpl ht
theorem pm0 (G : MethOk X.prog X.w X.K X.mg X.base k C m ps sp) (L : Lv X E) (c : Cls X.K C) (hr : Room k X.A) (ho : PE X o ta) {pl : Sem Bool}
    (ht : eval (.Call (.Attribute o m apos) [] [] pos) X.env = (do
      let ov ← eval o X.env
      standAt apos.atName
      let (f, first) ← holding [ov] (getMethod ov m pl)
      callWith pos f first (backTo pos (starEach [] X.env)) (backToKw pos (keywordEach [] X.env))) := by rfl) : PE X (.Call (.Attribute o m apos) [] [] pos) (tMeth C m sp [] E ta tNil) := by
  obtain ⟨f, fd, F, hm, hb⟩ := G.ex
  exact pe_meth0 ho c hm F hr hb .nil L.pass ht
theorem pmk (G : MakeOk X.prog X.w X.K X.mg X.base k C x ps sp) (L : Lv X E) (hr : Room (k + 1) X.A) (ha : PA X (e :: es) ts) (hg : Gl X x := by rfl) (hdb : (x == ("__debug__" : Str)) = false := by decide)
    (he : starEach (e :: es) X.env = (false, eval e X.env) :: starEach es X.env := by rfl) (hpl : (backTo pos (starEach es X.env)).any (·.1) = false := by rfl) : PE X (.Call (.Name x p) (e :: es) [] pos) (tMake C sp [] E ts) := by
  obtain ⟨f, fd, F, M, hb⟩ := G.ex
  exact pe_make M F hr hg G.nm hb .nil L.pass ha hdb he hpl
end
end Lk
end
section
set_option Elab.async false
set_option linter.all false
set_option maxRecDepth 100000
set_option maxHeartbeats 2000000
namespace Lk
open PySem PySem.Spec PyProof.Rows L2
open Sn15 (D bits bitsOf symbol Code Px)

/-! ### the text by places -/
def top (i : Nat) : Stmt := PySem.Challenge.pw_losslook_s01_look.main.body.getD i (.Pass ⟨0, 0, 0, 0⟩)
abbrev sBInit : Stmt := inClass (top 4) 0
abbrev sLeft : Stmt := inClass (top 4) 1
abbrev sBit : Stmt := inClass (top 4) 2
abbrev sNumber : Stmt := inClass (top 4) 3

/-! ### what the top has written -/
structure Tx (K : PySem.W.Frag) (mg : Str → Option Value) (t : Ad) : Prop where
  xN : PySem.W.excIn K t.CN bmEx "Exception.__new__" = true
  gN : mg "NoSuchFile" = some (.ref t.CN)
  xT : PySem.W.excIn K t.CT bmEx "Exception.__new__" = true
  gT : mg "TooLarge" = some (.ref t.CT)
  cB : Cls K t.CB
  nO : NoAttr K t.CB "octets"
  nP : NoAttr K t.CB "place"
  nE : NoAttr K t.CB "end"
  cV : Cls K t.CV
  vW : NoAttr K t.CV "width"
  vS : NoAttr K t.CV "size"
  vC : NoAttr K t.CV "colours"
  vD : NoAttr K t.CV "depth"
  vH : NoAttr K t.CV "cache"
  cC : Cls K t.CC
  nW : NoAttr K t.CC "words"
  nS : NoAttr K t.CC "sole"
  cS : Cls K t.CS
  sS : NoAttr K t.CS "shift"
  sA : NoAttr K t.CS "across"
  sC : NoAttr K t.CS "colours"
  cG : Cls K t.CG
  gS : NoAttr K t.CG "squares"
  gG : NoAttr K t.CG "groups"
  len : mg "len" = none
  range : mg "range" = none
  max : mg "max" = none
  min : mg "min" = none
  sum : mg "sum" = none
  enum : mg "enumerate" = none
  ord : mg "ord" = none
  kSPREAD : ∃ u, mg "SPREAD" = some u ∧ RelV (.int 506832829) u
  kLOW : ∃ u, mg "LOW_32" = some u ∧ RelV (.int 4294967295) u
  kLONGEST : ∃ u, mg "LONGEST" = some u ∧ RelV (.int 15) u
  kFIRST : ∃ u, mg "FIRST" = some u ∧ RelV (.int 0) u
  kRED : ∃ u, mg "RED" = some u ∧ RelV (.int 1) u
  kBLUE : ∃ u, mg "BLUE" = some u ∧ RelV (.int 2) u
  kALPHA : ∃ u, mg "ALPHA" = some u ∧ RelV (.int 3) u
  kDISTANCE : ∃ u, mg "DISTANCE" = some u ∧ RelV (.int 4) u
  kORDER : ∃ a, mg "LENGTH_SYMBOLS" = some (.ref a) ∧ ∀ H, SqT K H a (natsV Sn15.ORDER)
  kNEAR : ∃ (a : Addr) (as : List Addr), mg "NEAR" = some (.ref a) ∧ (∀ H, SqT K H a (as.map V.ref)) ∧ as.length = 120 ∧
    ∀ (i : Nat) (b : Addr), as[i]? = some b → ∃ x y : Int, Sn15.NEAR[i]? = some (x, y) ∧ ∀ H, SqT K H b [.int x, .int y]

/-! ### ints -/
theorem bor_nat (a b : Nat) : Builtin.bitOr (a : Int) (b : Int) = ((a ||| b : Nat) : Int) := by
  have h1 : ¬ (0 : Int) ≤ Builtin.bitNot (a : Int) := by unfold Builtin.bitNot; omega
  have h2 : ¬ (0 : Int) ≤ Builtin.bitNot (b : Int) := by unfold Builtin.bitNot; omega
  have e : ∀ z : Int, Builtin.bitNot (Builtin.bitNot z) = z := fun z => by unfold Builtin.bitNot; omega
  unfold Builtin.bitOr Builtin.bitAnd
  rw [decide_eq_false h1, decide_eq_false h2]
  simp only [e]
  rfl
theorem bor_low {x y k : Nat} (h : x < 2 ^ k) : Builtin.bitOr (x : Int) ((y * 2 ^ k : Nat) : Int) = ((x + y * 2 ^ k : Nat) : Int) := by
  rw [bor_nat, Nat.or_comm, Nat.mul_comm y, ← Nat.two_pow_add_eq_or_of_lt h, Nat.add_comm]
theorem bor_high {x y k : Nat} (h : x < 2 ^ k) : Builtin.bitOr ((y * 2 ^ k : Nat) : Int) (x : Int) = ((y * 2 ^ k + x : Nat) : Int) := by
  rw [bor_nat, Nat.mul_comm y, ← Nat.two_pow_add_eq_or_of_lt h]

theorem two_pow_int (k : Nat) : (2 : Int) ^ k = ((2 ^ k : Nat) : Int) := by simp
theorem bit_val (c i : Nat) : Builtin.bitAnd ((c : Int) / 2 ^ (Builtin.bitAnd (i : Int) 7).toNat) 1 = ((b2n (c.testBit (i % 8)) : Nat) : Int) := by
  have e : (Builtin.bitAnd (i : Int) 7).toNat = i % 8 := by rw [bitAnd_m3]; omega
  rw [e, bitAnd_m1, b2n_test, two_pow_int, ← Int.natCast_ediv]
  omega
theorem bitsF_put' {o : Addr} {e : Nat} (i : Nat) : putF "place" (.int ((i : Int) + 1)) (bitsF o i e) = bitsF o (i + 1) e := by
  have h := bitsF_put o i (i + 1) e
  rw [← h]
  rfl
section
variable {P : Program} {w : World} {K : PySem.W.Frag} {mg : Str → Option Value} {base : Heap} {t : Ad}
/-! ### Bits.__init__ -/
def spBInit (t : Ad) : Sp := fun vs H Q _ => ∃ (p o dx : Addr) (oct : List Nat), vs = [.ref p, .ref o] ∧ H p = some (.ins t.CB dx []) ∧ H o = some (.lst (natsV oct)) ∧ (∀ c ∈ oct, c < 256) ∧ oct.length ≤ 100000 ∧
  ∀ H', BitsAt t H' ⟨p, o, oct⟩ (bitsOf oct) → Kept [p] H H' → Q .non H'
theorem scBInit : FnScope ["self", "octets"] ["self", "octets"] (defScope sBInit) := ⟨rfl, rfl, rfl, by decide +kernel, rfl, by decide +kernel, by decide +kernel⟩
theorem ok_BInit {f : Addr} {fd : FuncData} (F : Fun K "__init__" "Bits.__init__" sBInit f fd) (T : Tx K mg t) : FnOk P w K mg base (CXe P w) 1 f fd ["self", "octets"] (spBInit t) := by
  refine F.okE scBInit (fun vs H Q E h => ?_) (fun cdv A outer s H vs Q E hr h => ?_)
  · obtain ⟨p, o, dx, oct, rfl, _⟩ := h
    rfl
  · obtain ⟨p, o, dx, oct, rfl, hp, ho, hb, hl, k⟩ := h
    have ne : o ≠ p := ne_of ho hp (by intro z; cases z)
    refine ⟨_, pss_cons (ps_fld (pv 0) (pv 1) rfl) (pss_cons (ps_fld (pv 0) pe_int rfl) (pss_one (ps_fld (pv 0) (pe_op op_mul pe_int (pe_callB call_len_seq (by rfl) T.len PySem.boot_len (pa_cons (pv 1) pa_nil))) rfl))), ?_⟩
    refine ⟨_, rfl, _, rfl, p, t.CB, dx, _, rfl, hp, T.cB, T.nO, (by show 0 < 1000; decide), ?_⟩
    refine ⟨_, rfl, p, t.CB, dx, _, rfl, upd_same, T.cB, T.nP, (by show 1 < 1000; decide), ?_⟩
    refine ⟨_, rfl, o, _, rfl, .inl (SqL.of (by rw [upd_ne ne, upd_ne ne]; exact ho)), _, _, rfl, rfl, .inl ⟨by decide, by decide⟩, _, rfl, p, t.CB, dx, _, rfl, upd_same, T.cB, T.nE, (by show 2 < 1000; decide), ?_⟩
    refine k _ ⟨dx, 0, ?_, ?_, hb, Nat.zero_le _, hl, rfl⟩ ?_
    · rw [upd_same, natsV_len]
      rfl
    · rw [upd_ne ne, upd_ne ne, upd_ne ne]; exact ho
    · exact ((Kept.put (by simp)).trans (Kept.put (by simp))).trans (Kept.put (by simp))

/-! ### Bits.left -/
def spLeft (t : Ad) : Sp := fun vs H Q _ => ∃ (B : Bi) (bs : List Bool), vs = [.ref B.p] ∧ BitsAt t H B bs ∧ Q (nat bs.length) H
theorem scLeft : FnScope ["self"] ["self"] (defScope sLeft) := ⟨rfl, rfl, rfl, by decide +kernel, rfl, by decide +kernel, by decide +kernel⟩
theorem ok_Left {f : Addr} {fd : FuncData} (F : Fun K "left" "Bits.left" sLeft f fd) (T : Tx K mg t) : FnOk P w K mg base (CXe P w) 1 f fd ["self"] (spLeft t) := by
  refine F.okE scLeft (fun vs H Q E h => ?_) (fun cdv A outer s H vs Q E hr h => ?_)
  · obtain ⟨B, bs, rfl, _⟩ := h
    rfl
  · obtain ⟨B, bs, rfl, ⟨dx, i, h1, h2, h3, h4, h5, rfl⟩, k⟩ := h
    refine ⟨_, pss_one (ps_ret (pe_op op_sub (pe_fld (pv 0) rfl) (pe_fld (pv 0) rfl))), ?_⟩
    refine ⟨_, rfl, B.p, t.CB, dx, _, _, rfl, h1, T.cB, T.nE, bitsF_e _ _ _, _, rfl, B.p, t.CB, dx, _, _, rfl, h1, T.cB, T.nP, bitsF_p _ _ _, _, _, rfl, rfl, ?_⟩
    rw [List.length_drop, bitsOf_len] at k
    show Q (.int (((8 * B.oct.length : Nat) : Int) - ((i : Nat) : Int))) H
    rw [← Int.ofNat_sub h4]
    exact k

/-! ### Bits.bit -/
def spBit (t : Ad) : Sp := fun vs H Q E => ∃ (B : Bi) (bs : List Bool), vs = [.ref B.p] ∧ BitsAt t H B bs ∧ Out t E B [] H isNat Q (bits 1 bs)
theorem scBit : FnScope ["self", "place"] ["self"] (defScope sBit) := ⟨rfl, rfl, rfl, by decide +kernel, rfl, by decide +kernel, by decide +kernel⟩
theorem ok_Bit {f : Addr} {fd : FuncData} (F : Fun K "bit" "Bits.bit" sBit f fd) (T : Tx K mg t) : FnOk P w K mg base (CXe P w) 1 f fd ["self"] (spBit t) := by
  refine F.okE scBit (fun vs H Q E h => ?_) (fun cdv A outer s H vs Q E hr h => ?_)
  · obtain ⟨B, bs, rfl, _⟩ := h
    rfl
  · obtain ⟨B, bs, rfl, ⟨dx, i, h1, h2, h3, h4, h5, rfl⟩, k⟩ := h
    have ne : B.o ≠ B.p := ne_of h2 h1 (by intro z; cases z)
    refine ⟨_, pss_cons (ps_set (i := 1) scBit.nd rfl (Or.inl rfl) (pe_fld (pv 0) rfl))
      (pss_cons (ps_if (pt_cmpR op_eq (pv 1) (pe_fld (pv 0) rfl) (nomark _)) (pss_one (ps_raise Lv.of (by rfl) T.gN T.xN)) pss_nil)
      (pss_cons (ps_fld (pv 0) (pe_op op_add (pv 1) pe_int) rfl)
      (pss_one (ps_ret (pe_op op_and (pe_op op_shr (pe_ix ix_list (pe_fld (pv 0) rfl) (pe_op op_shr (pv 1) pe_int) (fun _ _ => rfl)) (pe_op op_and (pv 1) pe_int)) pe_int))))), ?_⟩
    refine ⟨_, rfl, B.p, t.CB, dx, _, _, rfl, h1, T.cB, T.nP, bitsF_p _ _ _, ?_⟩
    refine ⟨_, rfl, _, rfl, B.p, t.CB, dx, _, _, rfl, h1, T.cB, T.nE, bitsF_e _ _ _, rfl, _, rfl, ite2 (fun e => ?_) (fun e => ?_)⟩
    · have e' : (i : Int) = ((8 * B.oct.length : Nat) : Int) := V.int.inj (of_decide_eq_true e)
      have hi : i = 8 * B.oct.length := by omega
      rw [List.drop_eq_nil_of_le (by rw [bitsOf_len]; omega), bit_nil] at k
      exact k H
    · have e' : ¬ (nat i = nat (8 * B.oct.length)) := fun z => e (decide_eq_true z)
      have hi : i < 8 * B.oct.length := by
        rcases Nat.lt_or_eq_of_le h4 with z | z
        · exact z
        · exact absurd (by rw [z]) e'
      obtain ⟨c, hc, hd⟩ := drop_bits hi
      rw [hd, bit_cons] at k
      refine ⟨_, rfl, _, _, rfl, rfl, _, rfl, B.p, t.CB, dx, _, rfl, h1, T.cB, T.nP, (by show 3 < 1000; decide), ?_⟩
      refine ⟨_, rfl, B.p, t.CB, dx, _, _, rfl, upd_same, T.cB, T.nO, ?_, _, rfl, _, _, rfl, rfl, (by show (0 : Int) ≤ 3; decide), B.o, _, _, nat c, rfl, rfl, SqL.of (by rw [upd_ne ne]; exact h2), at_of (j := i / 8) ?_ (natsV_get hc),
        _, rfl, _, _, rfl, rfl, _, _, rfl, rfl, ?_, _, _, rfl, rfl, ?_⟩
      · rw [bitsF_put' i]; exact bitsF_o _ _ _
      · show (i : Int) / 2 ^ 3 = ((i / 8 : Nat) : Int)
        omega
      · show (0 : Int) ≤ Builtin.bitAnd (i : Int) 7
        rw [bitAnd_m3]; omega
      · show Q (.int (Builtin.bitAnd ((c : Int) / 2 ^ (Builtin.bitAnd (i : Int) 7).toNat) 1)) _
        rw [bit_val]
        refine k _ _ ⟨dx, i + 1, ?_, by rw [upd_ne ne]; exact h2, h3, hi, h5, rfl⟩ (Kept.put (by simp)) rfl
        rw [upd_same, bitsF_put' i]

/-! ### Bits.number -/
theorem bits_some {n : Nat} {bs : List Bool} (h : n ≤ bs.length) : bits n bs = some (val (bs.take n), bs.drop n) := by rw [bits_val, if_pos h]
theorem bits_none {n : Nat} {bs : List Bool} (h : bs.length < n) : bits n bs = none := by rw [bits_val, if_neg (by omega)]
theorem BitsAt.meth {H : Hp} {B : Bi} {bs : List Bool} (h : BitsAt t H B bs) {m : Str} (h1 : (m == ("octets" : Str)) = false := by decide +kernel) (h2 : (m == ("place" : Str)) = false := by decide +kernel) (h3 : (m == ("end" : Str)) = false := by decide +kernel) :
    ∃ dx fs, H B.p = some (.ins t.CB dx fs) ∧ fs.lookup m = none := by
  obtain ⟨dx, i, e, _⟩ := h
  exact ⟨dx, _, e, bitsF_no _ _ _ h1 h2 h3⟩
def spNumber (t : Ad) : Sp := fun vs H Q E => ∃ (B : Bi) (bs : List Bool) (n : Nat), vs = [.ref B.p, nat n] ∧ n ≤ 1000 ∧ BitsAt t H B bs ∧ Out t E B [] H isNat Q (bits n bs)
theorem scNumber : FnScope ["self", "width", "answer", "k"] ["self", "width"] (defScope sNumber) := ⟨rfl, rfl, rfl, by decide +kernel, rfl, by decide +kernel, by decide +kernel⟩
theorem ok_Number {f : Addr} {fd : FuncData} (F : Fun K "number" "Bits.number" sNumber f fd) (T : Tx K mg t) (G : MethOk P w K mg base 1 t.CB "bit" ["self"] (spBit t)) : FnOk P w K mg base (CXe P w) 2 f fd ["self", "width"] (spNumber t) := by
  refine F.okE scNumber (fun vs H Q E h => ?_) (fun cdv A outer s H vs Q E hr h => ?_)
  · obtain ⟨B, bs, n, rfl, _⟩ := h
    rfl
  · obtain ⟨B, bs, n, rfl, hn, hb, k⟩ := h
    refine ⟨_, pss_cons (ps_set (i := 2) scNumber.nd rfl (Or.inl rfl) pe_int)
      (pss_cons (ps_for Lv.of.own rfl (pi_range1 rfl T.range (pa_cons (pv 1) pa_nil)) (pg_name (i := 3) scNumber.nd rfl (Or.inl rfl))
        (pss_one (ps_aug (i := 2) scNumber.nd rfl (Or.inl rfl) (pe_op op_shl (pm0 G Lv.of T.cB hr (pv 0)) (pv 3)) iop_or)))
      (pss_one (ps_ret (pv 2)))), ?_⟩
    refine ⟨_, rfl, (n : Int), rfl, by omega, by omega, for_range (n := n) (lo := 0) (fun i σ H' => ∃ v3 : Option V, σ = [some (.ref B.p), some (nat n), some (nat (val (bs.take i))), v3] ∧ i ≤ bs.length ∧ BitsAt t H' B (bs.drop i) ∧ Kept [B.p] H H')
      ⟨none, rfl, Nat.zero_le _, hb, Kept.refl _ _⟩ ?_ ?_⟩
    · rintro i σ H' hi ⟨v3, rfl, hl, hb', kp⟩
      obtain ⟨dx, fs, e1, e2⟩ := hb'.meth (m := "bit")
      refine ⟨_, rfl, _, rfl, B.p, dx, fs, rfl, e1, e2, B, bs.drop i, rfl, hb', ?_⟩
      by_cases hlt : i < bs.length
      · have e : bits 1 (bs.drop i) = some (b2n bs[i], bs.drop (i + 1)) := by rw [List.drop_eq_getElem_cons hlt, bit_cons]
        rw [e]
        intro v H2 hb2 kp2 hv
        cases hv
        refine ⟨_, rfl, _, _, rfl, rfl, ⟨by omega, by omega, ?_⟩, _, _, rfl, rfl, ?_⟩
        · have := b2n_lt bs[i]
          omega
        · refine ⟨some (.int (0 + (i : Int))), ?_, hlt, hb2, kp.trans kp2⟩
          have e : Builtin.bitOr ((val (bs.take i) : Nat) : Int) (((b2n bs[i] : Nat) : Int) * 2 ^ (0 + (i : Int)).toNat) = ((val (bs.take (i + 1)) : Nat) : Int) := by
            have e1 : (0 + (i : Int)).toNat = i := by omega
            have hv : val (bs.take i) < 2 ^ i := by
              have := val_lt (bs.take i)
              rwa [List.length_take, Nat.min_eq_left (by omega)] at this
            rw [e1, List.take_succ_eq_append_getElem hlt, val_snoc, List.length_take, Nat.min_eq_left (by omega), ← bor_low hv]
            simp
          show [some (V.ref B.p), some (nat n), some (V.int _), some (V.int (0 + (i : Int)))] = _
          rw [e]
      · have e : bits 1 (bs.drop i) = none := bits_none (by rw [List.length_drop]; omega)
        rw [e]
        rw [bits_none (by omega)] at k
        exact k
    · rintro σ H' ⟨v3, rfl, hl, hb', kp⟩
      rw [bits_some hl] at k
      exact ⟨_, rfl, k _ _ hb' kp rfl⟩
end
end Lk
end
section
set_option Elab.async false
set_option linter.all false
set_option maxRecDepth 100000
set_option maxHeartbeats 2000000
namespace Lk
open PySem PySem.Spec PyProof.Rows L2
open Sn15 (D bits bitsOf symbol Px)

abbrev sCInit : Stmt := inClass (top 12) 0
abbrev sNext : Stmt := inClass (top 12) 1

/-! ### codes on the heap -/
def soleV : Option Nat → V
  | some s => nat s
  | none => .non
def codeF (wa : Addr) (sole : Option Nat) : List (Str × V) := [("words", .ref wa), ("sole", soleV sole)]
theorem codeF_w (wa : Addr) (sole : Option Nat) : (codeF wa sole).lookup ("words" : Str) = some (.ref wa) := lk_here
theorem codeF_s (wa : Addr) (sole : Option Nat) : (codeF wa sole).lookup ("sole" : Str) = some (soleV sole) := (lk_next (by decide +kernel)).trans lk_here
theorem codeF_no (wa : Addr) (sole : Option Nat) {m : Str} (h1 : (m == ("words" : Str)) = false) (h2 : (m == ("sole" : Str)) = false) : (codeF wa sole).lookup m = none := (lk_next h1).trans ((lk_next h2).trans rfl)
/-- lists of numbers at the places was -/
structure ListsAt (H : Hp) (was : List Addr) (ws : List (List Nat)) : Prop where
  len : was.length = ws.length
  at_ : ∀ (j : Nat) (x : Addr), was[j]? = some x → ∃ w, ws[j]? = some w ∧ H x = some (.lst (natsV w))
theorem ListsAt.get {H : Hp} {was : List Addr} {ws : List (List Nat)} (h : ListsAt H was ws) {j : Nat} {w : List Nat} (e : ws[j]? = some w) : ∃ x, was[j]? = some x ∧ H x = some (.lst (natsV w)) := by
  have hj : j < was.length := by rw [h.len]; exact (List.getElem?_eq_some_iff.mp e).1
  obtain ⟨w', e', hx⟩ := h.at_ j was[j] (List.getElem?_eq_getElem hj)
  rw [e] at e'
  cases e'
  exact ⟨_, List.getElem?_eq_getElem hj, hx⟩
def CodeOk (c : Sn15.Code) (words : List (List Nat)) : Option Nat → Prop
  | some s => symbol c = pure s ∧ s < c.length
  | none => ∃ ws, words = [] :: ws ∧ fitsW 2 ws ∧ symbol c = (bits 1 >>= symT ws)
def CodeAt (t : Ad) (H : Hp) (a : Addr) (c : Sn15.Code) : Prop := ∃ (dx wa : Addr) (was : List Addr) (words : List (List Nat)) (sole : Option Nat), H a = some (.ins t.CC dx (codeF wa sole)) ∧ H wa = some (.lst (was.map V.ref)) ∧ ListsAt H was words ∧ CodeOk c words sole
theorem ListsAt.kept {H H' : Hp} {was : List Addr} {ws : List (List Nat)} (h : ListsAt H was ws) (k : ∀ x l, H x = some (.lst l) → H' x = some (.lst l)) : ListsAt H' was ws :=
  ⟨h.len, fun j x e => let ⟨w, e1, e2⟩ := h.at_ j x e; ⟨w, e1, k _ _ e2⟩⟩
/-- what stays but for the Bits object: lists, and instances with other fields -/
theorem Kept.lst {t : Ad} {H H' : Hp} {B : Bi} {bs : List Bool} (k : Kept [B.p] H H') (b : BitsAt t H B bs) {x : Addr} {l : List V} (h : H x = some (.lst l)) : H' x = some (.lst l) := by
  obtain ⟨dx, i, h1, _⟩ := b
  exact k x _ h fun z => ne_of h h1 (by intro q; cases q) (List.mem_singleton.mp z)
theorem Kept.ins {t : Ad} {H H' : Hp} {B : Bi} {bs : List Bool} (k : Kept [B.p] H H') (b : BitsAt t H B bs) {x C dx : Addr} {f : Str} {v : V} {r : List (Str × V)} (h : H x = some (.ins C dx ((f, v) :: r))) (hf : ¬ f = "octets") : H' x = some (.ins C dx ((f, v) :: r)) := by
  obtain ⟨dx', i, h1, _⟩ := b
  refine k x _ h fun z => ne_of h h1 (fun q => ?_) (List.mem_singleton.mp z)
  injection q with _ _ q
  injection q with q _
  exact hf (congrArg Prod.fst q)
theorem CodeAt.kept {t : Ad} {H H' : Hp} {B : Bi} {bs : List Bool} {a : Addr} {c : Sn15.Code} (h : CodeAt t H a c) (b : BitsAt t H B bs) (k : Kept [B.p] H H') : CodeAt t H' a c := by
  obtain ⟨dx, wa, was, words, sole, h1, h2, h3, h4⟩ := h
  exact ⟨dx, wa, was, words, sole, k.ins b h1 (by decide +kernel), k.lst b h2, h3.kept fun x l e => k.lst b e, h4⟩
theorem CodeAt.same {t : Ad} {H H' : Hp} {a : Addr} {c : Sn15.Code} (h : CodeAt t H a c) (k : Same H H') : CodeAt t H' a c := by
  obtain ⟨dx, wa, was, words, sole, h1, h2, h3, h4⟩ := h
  exact ⟨dx, wa, was, words, sole, k _ _ h1, k _ _ h2, h3.kept fun x l e => k _ _ e, h4⟩
def isCode (t : Ad) : Sn15.Code → V → Hp → Prop := fun c v H => ∃ a, v = .ref a ∧ CodeAt t H a c

theorem symT_here {w : List Nat} {ws : List (List Nat)} {r s : Nat} (h : w[r]? = some s) : symT (w :: ws) r = pure s := by
  unfold symT; rw [h]
theorem symT_next {w : List Nat} {ws : List (List Nat)} {r : Nat} (h : w.length ≤ r) : symT (w :: ws) r = (bits 1 >>= fun b => symT ws (2 * (r - w.length) + b)) := by
  conv => lhs; unfold symT
  rw [List.getElem?_eq_none h]
section
variable {P : Program} {w : World} {K : PySem.W.Frag} {mg : Str → Option Value} {base : Heap} {t : Ad}
/-! ### Code.__init__ -/
def spCInit (t : Ad) : Sp := fun vs H Q _ => ∃ (p wa dx : Addr) (sole : Option Nat), vs = [.ref p, .ref wa, soleV sole] ∧ H p = some (.ins t.CC dx []) ∧
  ∀ H', H' p = some (.ins t.CC dx (codeF wa sole)) → Kept [p] H H' → Q .non H'
theorem scCInit : FnScope ["self", "words", "sole"] ["self", "words", "sole"] (defScope sCInit) := ⟨rfl, rfl, rfl, by decide +kernel, rfl, by decide +kernel, by decide +kernel⟩
theorem ok_CInit {f : Addr} {fd : FuncData} (F : Fun K "__init__" "Code.__init__" sCInit f fd) (T : Tx K mg t) : FnOk P w K mg base (CXe P w) 1 f fd ["self", "words", "sole"] (spCInit t) := by
  refine F.okE scCInit (fun vs H Q E h => ?_) (fun cdv A outer s H vs Q E hr h => ?_)
  · obtain ⟨p, wa, dx, sole, rfl, _⟩ := h
    rfl
  · obtain ⟨p, wa, dx, sole, rfl, hp, k⟩ := h
    refine ⟨_, pss_cons (ps_fld (pv 0) (pv 1) rfl) (pss_one (ps_fld (pv 0) (pv 2) rfl)), ?_⟩
    refine ⟨_, rfl, _, rfl, p, t.CC, dx, _, rfl, hp, T.cC, T.nW, (by show 0 < 1000; decide), ?_⟩
    refine ⟨_, rfl, _, rfl, p, t.CC, dx, _, rfl, upd_same, T.cC, T.nS, (by show 1 < 1000; decide), ?_⟩
    refine k _ ?_ ((Kept.put (by simp)).trans (Kept.put (by simp)))
    rw [upd_same]
    rfl

/-! ### Code.next_symbol -/
def spNext (t : Ad) : Sp := fun vs H Q E => ∃ (B : Bi) (bs : List Bool) (a : Addr) (c : Sn15.Code), vs = [.ref a, .ref B.p] ∧ CodeAt t H a c ∧ BitsAt t H B bs ∧ Out t E B [] H isNat Q (symbol c bs)
/-- between two turns: n the length, r the rank -/
def NextW (t : Ad) (E : XK) (B : Bi) (H : Hp) (Q : VK) (a : Addr) (words : List (List Nat)) (m : Nat) (σ : L2.St) (H2 : Hp) : Prop := ∃ (n r cap : Nat) (w : List Nat) (ws : List (List Nat)) (bs : List Bool), m = ws.length ∧
  σ = [some (.ref a), some (.ref B.p), some (nat n), some (nat r)] ∧ words.drop n = w :: ws ∧ fitsW cap (w :: ws) ∧ r < cap ∧ BitsAt t H2 B bs ∧ Kept [B.p] H H2 ∧ Out t E B [] H2 isNat Q (symT (w :: ws) r bs)
theorem scNext : FnScope ["self", "bits", "length", "rank"] ["self", "bits"] (defScope sNext) := ⟨rfl, rfl, rfl, by decide +kernel, rfl, by decide +kernel, by decide +kernel⟩
theorem ok_Next {f : Addr} {fd : FuncData} (F : Fun K "next_symbol" "Code.next_symbol" sNext f fd) (T : Tx K mg t) (G : MethOk P w K mg base 1 t.CB "bit" ["self"] (spBit t)) : FnOk P w K mg base (CXe P w) 2 f fd ["self", "bits"] (spNext t) := by
  refine F.okE scNext (fun vs H Q E h => ?_) (fun cdv A outer s H vs Q E hr h => ?_)
  · obtain ⟨B, bs, a, c, rfl, _⟩ := h
    rfl
  · obtain ⟨B, bs, a, c, rfl, ⟨dx, wa, was, words, sole, h1, h2, h3, h4⟩, hb, k⟩ := h
    refine ⟨_, pss_cons (ps_if (pt_cmp (pc_notN (pe_fld (pv 0) rfl))) (pss_one (ps_ret (pe_fld (pv 0) rfl))) pss_nil)
      (pss_cons (ps_set (i := 2) scNext.nd rfl (Or.inl rfl) pe_int)
      (pss_cons (ps_set (i := 3) scNext.nd rfl (Or.inl rfl) (pm0 G Lv.of T.cB hr (pv 1)))
      (pss_cons (ps_while Lv.of.own (pt_cmpR op_ge (pv 3) (pe_callB call_len_seq (by rfl) T.len PySem.boot_len (pa_cons (pe_ix ix_list (pe_fld (pv 0) rfl) (pv 2) (fun _ _ => rfl)) pa_nil)) (nomark _))
        (pss_cons (ps_set (i := 3) scNext.nd rfl (Or.inl rfl) (pe_op op_add (pe_op op_mul pe_int (pe_op op_sub (pv 3) (pe_callB call_len_seq (by rfl) T.len PySem.boot_len (pa_cons (pe_ix ix_list (pe_fld (pv 0) rfl) (pv 2) (fun _ _ => rfl)) pa_nil)))) (pm0 G Lv.of T.cB hr (pv 1))))
        (pss_one (ps_aug (i := 2) scNext.nd rfl (Or.inl rfl) pe_int ip_add))))
      (pss_one (ps_ret (pe_ix ix_list (pe_ix ix_list (pe_fld (pv 0) rfl) (pv 2) (fun _ _ => rfl)) (pv 3) (fun _ _ => rfl))))))), ?_⟩
    cases sole with
    | some s =>
      obtain ⟨hs, _⟩ := h4
      rw [hs] at k
      refine ⟨_, rfl, a, t.CC, dx, _, _, rfl, h1, T.cC, T.nS, codeF_s _ _, _, rfl, iteT ?_⟩
      refine ⟨_, rfl, a, t.CC, dx, _, _, rfl, h1, T.cC, T.nS, codeF_s _ _, ?_⟩
      exact k.pure hb rfl
    | none =>
      obtain ⟨ws, hw, hf, hs⟩ := h4
      rw [hs] at k
      refine ⟨_, rfl, a, t.CC, dx, _, _, rfl, h1, T.cC, T.nS, codeF_s _ _, _, rfl, iteF ?_⟩
      obtain ⟨dxb, fs, e1, e2⟩ := hb.meth (m := "bit")
      refine ⟨_, rfl, B.p, dxb, fs, rfl, e1, e2, B, bs, rfl, hb, k.bind fun b bs' v H' hm hb' kp hv k' => ?_⟩
      cases hv
      have hb2 : b < 2 := bits1_lt hm
      obtain ⟨w0, ws0, rfl⟩ : ∃ w0 ws0, ws = w0 :: ws0 := by
        cases ws with
        | nil => have : (2 : Nat) = 0 := hf; omega
        | cons w0 ws0 => exact ⟨w0, ws0, rfl⟩
      refine ⟨NextW t E B H Q a words, ⟨ws0.length, 1, b, 2, w0, ws0, bs', rfl, rfl, by rw [hw]; rfl, hf, hb2, hb', kp, k'⟩, ?_⟩
      rintro m σ H2 ⟨n, r, cap, w1, ws1, bs2, rfl, rfl, hd, hfit, hr2, hbb, kp2, k2⟩
      have hn : words[n]? = some w1 := by
        have := congrArg List.head? hd
        rw [List.head?_drop] at this
        exact this
      obtain ⟨x, hx1, hx2⟩ := h3.get hn
      have g1 := kp2.ins hb h1 (by decide +kernel)
      have g2 := kp2.lst hb h2
      have g3 := kp2.lst hb hx2
      have hx1' : (was.map V.ref)[n]? = some (.ref x) := by rw [List.getElem?_map, hx1]; rfl
      refine ⟨_, rfl, _, rfl, a, t.CC, dx, _, _, rfl, g1, T.cC, T.nW, codeF_w _ _, _, rfl, wa, _, _, .ref x, rfl, rfl, SqL.of g2, at_of rfl hx1', x, _, rfl, .inl (SqL.of g3), _, _, rfl, rfl, _, rfl, ite2 (fun e => ?_) (fun e => ?_)⟩
      · have hle : w1.length ≤ r := by
          have := of_decide_eq_true e
          rw [natsV_len] at this
          omega
        rw [symT_next hle] at k2
        obtain ⟨hwl, hfit'⟩ := hfit
        obtain ⟨dxb2, fs2, e3, e4⟩ := hbb.meth (m := "bit")
        refine ⟨fun σ' H' => ∃ m', m' < ws1.length ∧ NextW t E B H Q a words m' σ' H', fun _ _ h => h, ?_⟩
        refine ⟨_, rfl, _, rfl, a, t.CC, dx, _, _, rfl, g1, T.cC, T.nW, codeF_w _ _, _, rfl, wa, _, _, .ref x, rfl, rfl, SqL.of g2, at_of rfl hx1', x, _, rfl, .inl (SqL.of g3), _, _, rfl, rfl, _, _, rfl, rfl, .inl ⟨by decide, by decide⟩,
          _, rfl, B.p, dxb2, fs2, rfl, e3, e4, B, bs2, rfl, hbb, k2.bind fun b3 bs3 v3 H3 hm3 hb3 kp3 hv3 k3 => ?_⟩
        cases hv3
        have hb32 : b3 < 2 := bits1_lt hm3
        obtain ⟨w4, ws4, rfl⟩ : ∃ w4 ws4, ws1 = w4 :: ws4 := by
          cases ws1 with
          | nil => have : 2 * (cap - w1.length) = 0 := hfit'; omega
          | cons w4 ws4 => exact ⟨w4, ws4, rfl⟩
        refine ⟨_, _, rfl, rfl, _, rfl, _, _, rfl, rfl, ws4.length, Nat.lt_succ_self _, n + 1, 2 * (r - w1.length) + b3, _, w4, ws4, bs3, rfl, ?_, ?_, hfit', by omega, hb3, kp2.trans kp3, k3⟩
        · show [some (V.ref a), some (V.ref B.p), some (V.int ((n : Int) + 1)), some (V.int (2 * ((r : Int) - ((natsV w1).length : Nat)) + (b3 : Int)))] = _
          rw [natsV_len]
          have q1 : ((n : Int) + 1) = ((n + 1 : Nat) : Int) := by omega
          have q2 : (2 * ((r : Int) - (w1.length : Int)) + (b3 : Int)) = ((2 * (r - w1.length) + b3 : Nat) : Int) := by omega
          rw [q1, q2]
        · rw [← List.tail_drop, hd]
          rfl
      · have hlt : r < w1.length := by
          have : ¬ ((natsV w1).length : Int) ≤ (r : Int) := fun z => e (decide_eq_true z)
          rw [natsV_len] at this
          omega
        have hs1 : w1[r]? = some w1[r] := List.getElem?_eq_getElem hlt
        rw [symT_here hs1] at k2
        refine ⟨_, rfl, a, t.CC, dx, _, _, rfl, g1, T.cC, T.nW, codeF_w _ _, _, rfl, wa, _, _, .ref x, rfl, rfl, SqL.of g2, at_of rfl hx1', _, rfl, x, _, _, nat w1[r], rfl, rfl, SqL.of g3, at_of rfl (natsV_get hs1), ?_⟩
        exact k2.pure hbb rfl
end
end Lk
end
section
set_option Elab.async false
set_option linter.all false
set_option maxRecDepth 100000
set_option maxHeartbeats 2000000
namespace Lk
open PySem PySem.Spec PyProof.Rows L2
open Sn15 (D bits bitsOf symbol Px)

abbrev sCol : Stmt := top 13

/-! ### rules for a comprehension's block, the written part named -/
theorem call_len_seqK {X : Cx} {K : PySem.W.Frag} (h : X.K = K) : CallR X (.builtin "len") (fun xs H Q => ∃ p ys, xs = [.ref p] ∧ (SqL K H p ys ∨ SqT K H p ys) ∧ Q (.int ys.length) H) := by
  subst h
  exact call_len_seq
theorem pg_tupK {X : Cx} {K : PySem.W.Frag} (hK : X.K = K) {es : List Expr} {k : Nat} {t : TGs} {n : Nat} {pos : Pos} (hc : X.calm = true) (h : PGs X es t)
    (hn : (assignEach es X.env).length = n := by rfl) (hst : (assignEach es X.env).findIdx? (·.1) = none := by rfl) : PG X (.Tuple es k pos) (gTup K n t) := by
  subst hK
  exact pg_tup hc h hn hst
theorem ixN_nat {n j : Nat} (h : j < n) : ixN n (j : Int) = some j := by
  unfold ixN
  rw [if_pos (by omega), if_pos (by omega)]
  simp
theorem nd_at {α : Type} {l : List α} (hN : l.Nodup) {i j : Nat} {x : α} (a : l[i]? = some x) (b : l[j]? = some x) : i = j := by
  obtain ⟨h1, e1⟩ := List.getElem?_eq_some_iff.mp a
  obtain ⟨h2, e2⟩ := List.getElem?_eq_some_iff.mp b
  exact (List.getElem_inj hN).mp (e1.trans e2.symm)
theorem yes_if {σ : L2.St} {H : Hp} {A B : Hp → Prop} (h : A H) : tYes σ H (fun b H3 => if b = true then A H3 else B H3) := by
  show if true = true then A H else B H
  exact iteT h
/-! ### the lists of symbols, as they grow -/
theorem symsOf_snoc (c : Sn15.Code) (n j : Nat) : symsOf (c ++ [n]) j = if n = j then symsOf c j ++ [c.length] else symsOf c j := by
  unfold symsOf
  rw [List.length_append, List.length_singleton, List.range_succ, List.filter_append]
  have e1 : List.filter (fun s => (c ++ [n]).getD s 0 == j) (List.range c.length) = List.filter (fun s => c.getD s 0 == j) (List.range c.length) := by
    apply List.filter_congr
    intro i hi
    have := List.mem_range.mp hi
    rw [List.getD_eq_getElem?_getD, List.getD_eq_getElem?_getD, List.getElem?_append_left this]
  rw [e1]
  have e2 : (c ++ [n]).getD c.length 0 = n := by rw [List.getD_eq_getElem?_getD, List.getElem?_append_right (Nat.le_refl _)]; simp
  by_cases h : n = j
  · rw [if_pos h, List.filter_cons, if_pos (by rw [e2]; simpa using h)]; rfl
  · rw [if_neg h, List.filter_cons, if_neg (by rw [e2]; simpa using h)]; simp
theorem symsOf_nil (j : Nat) : symsOf [] j = [] := rfl
theorem symsOf_len (c : Sn15.Code) (j : Nat) : (symsOf c j).length ≤ c.length := by
  unfold symsOf
  exact Nat.le_trans (List.length_filter_le _ _) (by simp)
theorem wordsFrom_len (c : Sn15.Code) : ∀ (k n : Nat), (wordsFrom c n k).length = k
  | 0, _ => rfl
  | k + 1, n => by show (wordsFrom c (n + 1) k).length + 1 = k + 1; rw [wordsFrom_len c k]
theorem wordsFrom_get (c : Sn15.Code) : ∀ (k n j : Nat), j < k → (wordsFrom c n k)[j]? = some (symsOf c (n + j))
  | k + 1, n, 0, _ => rfl
  | k + 1, n, j + 1, h => by
    show (wordsFrom c (n + 1) k)[j]? = _
    rw [wordsFrom_get c k (n + 1) j (by omega)]
    congr 2; omega
/-- what the words take, length by length -/
def fillI (words : List (List Nat)) (i : Nat) : List Int := (List.range i).map fun j => ((words.getD j []).length : Int) * 2 ^ (15 - j)
theorem fillI_sum (c : Sn15.Code) : (fillI ([] :: wordsFrom c 1 15) 16).sum = ((taken c 15 : Nat) : Int) := by
  have g : ∀ j, j < 15 → (([] :: wordsFrom c 1 15).getD (j + 1) []) = symsOf c (1 + j) := fun j hj => by
    rw [List.getD_cons_succ, List.getD_eq_getElem?_getD, wordsFrom_get c 15 1 j hj]; rfl
  have key : ∀ i, i ≤ 15 → ((List.range (i + 1)).map fun j => ((([] :: wordsFrom c 1 15).getD j []).length : Int) * 2 ^ (15 - j)).sum = ((taken c i : Nat) : Int) := by
    intro i
    induction i with
    | zero => intro _; rfl
    | succ i ih =>
      intro hi
      rw [List.range_succ, List.map_append, List.sum_append, ih (by omega)]
      simp only [List.map_cons, List.map_nil, List.sum_cons, List.sum_nil]
      rw [g i (by omega), taken]
      have e1 : 15 - (i + 1) = 14 - i := by omega
      have e2 : 1 + i = i + 1 := by omega
      rw [e1, e2]
      simp
  exact key 15 (Nat.le_refl _)

/-- a code whose objects are new since H0 -/
def CodeNew (H0 : Hp) (t : Ad) (H : Hp) (a : Addr) (c : Sn15.Code) : Prop := ∃ (dx wa : Addr) (was : List Addr) (words : List (List Nat)) (sole : Option Nat), (H a = some (.ins t.CC dx (codeF wa sole)) ∧ H wa = some (.lst (was.map V.ref)) ∧ ListsAt H was words ∧ CodeOk c words sole) ∧ H0 a = none ∧ H0 wa = none ∧ ∀ x ∈ was, H0 x = none
theorem CodeNew.toAt {H0 : Hp} {t : Ad} {H : Hp} {a : Addr} {c : Sn15.Code} (h : CodeNew H0 t H a c) : CodeAt t H a c := by
  obtain ⟨dx, wa, was, words, sole, h1, _⟩ := h
  exact ⟨dx, wa, was, words, sole, h1⟩
theorem CodeNew.rebase {H0 H1 : Hp} {t : Ad} {H : Hp} {a : Addr} {c : Sn15.Code} (h : CodeNew H1 t H a c) (d : ∀ x, H1 x = none → H0 x = none) : CodeNew H0 t H a c := by
  obtain ⟨dx, wa, was, words, sole, h1, n1, n2, n3⟩ := h
  exact ⟨dx, wa, was, words, sole, h1, d _ n1, d _ n2, fun x hx => d _ (n3 x hx)⟩
theorem CodeNew.made {H0 : Hp} {t : Ad} {H H' : Hp} {p dx wa : Addr} {was : List Addr} {words : List (List Nat)} {sole : Option Nat} {c : Sn15.Code} (nx : H p = none) (nd : H dx = none) (k : Kept [p] (upd (upd H dx (.own p)) p (.ins t.CC dx [])) H')
    (hp : H' p = some (.ins t.CC dx (codeF wa sole))) (h2 : H wa = some (.lst (was.map V.ref))) (h3 : ListsAt H was words) (h4 : CodeOk c words sole) (dom : ∀ x, H x = none → H0 x = none) (nwa : H0 wa = none) (nwas : ∀ x ∈ was, H0 x = none) : CodeNew H0 t H' p c ∧ Same H H' := by
  have s : Same H H' := Same.made nx nd fun b o e ne => k b o e (by simpa using ne)
  exact ⟨⟨dx, wa, was, words, sole, ⟨hp, s _ _ h2, h3.kept fun x l e => s _ _ e, h4⟩, dom _ nx, nwa, nwas⟩, s⟩
section
variable {P : Program} {w : World} {K : PySem.W.Frag} {mg : Str → Option Value} {base : Heap} {t : Ad}
/-! ### code_of_lengths -/
def spCol (t : Ad) : Sp := fun vs H Q E => ∃ (la : Addr) (l : List Nat), vs = [.ref la] ∧ H la = some (.lst (natsV l)) ∧ (∀ n ∈ l, n ≤ 15) ∧ l.length ≤ 4000 ∧
  (Sn15.good l = true → ∀ a H', CodeNew H t H' a l → Same H H' → Q (.ref a) H') ∧ (Sn15.good l = false → ∀ H', E (.ref t.CN) none H')
abbrev nCol : List Str := ["lengths", "words", "symbol", "length", "used", "filled", "symbols"]
theorem scCol : FnScope nCol ["lengths"] (defScope sCol) := ⟨rfl, rfl, rfl, by decide +kernel, rfl, by decide +kernel, by decide +kernel⟩
/-- the 16 new lists -/
structure NewLists (H Hx : Hp) (D : Addr) (was : List Addr) : Prop where
  lst : Hx D = some (.lst (was.map V.ref))
  nd : was.Nodup
  ne : ∀ x ∈ was, x ≠ D ∧ H x = none
  same : Same H Hx
theorem same_new {H Hx : Hp} {a : Addr} {o : HO} (h : Same H Hx) (n : Hx a = none) : Same H (upd Hx a o) := fun b u e => by rw [upd_ne (ne_of_none (h b u e) n)]; exact h b u e
theorem same_over {H Hx : Hp} {a : Addr} {o : HO} (h : Same H Hx) (n : H a = none) : Same H (upd Hx a o) := fun b u e => by rw [upd_ne (ne_of_none e n)]; exact h b u e
theorem natsV_ints (l : List Nat) : natsV l = (l.map fun (n : Nat) => (n : Int)).map V.int := by unfold natsV; rw [List.map_map]; rfl
theorem natsV_flat (l : List Nat) : (natsV l).all flatV = true := by
  rw [List.all_eq_true]
  intro x hx
  obtain ⟨n, _, rfl⟩ := List.mem_map.mp hx
  rfl
theorem get_natsV {l : List Nat} {i : Nat} {x : V} (h : (natsV l)[i]? = some x) : ∃ n, l[i]? = some n ∧ x = nat n := by
  unfold natsV at h
  rw [List.getElem?_map] at h
  cases e : l[i]? with
  | none => rw [e] at h; cases h
  | some n => rw [e] at h; exact ⟨n, rfl, (Option.some.inj h).symm⟩
theorem get_refs {l : List Addr} {i : Nat} {x : V} (h : (l.map V.ref)[i]? = some x) : ∃ a, l[i]? = some a ∧ x = .ref a := by
  rw [List.getElem?_map] at h
  cases e : l[i]? with
  | none => rw [e] at h; cases h
  | some n => rw [e] at h; exact ⟨n, rfl, (Option.some.inj h).symm⟩
theorem refs_get {l : List Addr} {i : Nat} {a : Addr} (h : l[i]? = some a) : (l.map V.ref)[i]? = some (.ref a) := by rw [List.getElem?_map, h]; rfl
theorem fillI_succ (words : List (List Nat)) (i : Nat) : fillI words (i + 1) = fillI words i ++ [((words.getD i []).length : Int) * 2 ^ (15 - i)] := by
  unfold fillI; rw [List.range_succ, List.map_append]; rfl
theorem same_dom {H H' : Hp} (s : Same H H') : ∀ x, H' x = none → H x = none := fun x h => s.free h
/-- between two symbols of the first loop -/
def ColW (H : Hp) (la wa : Addr) (was : List Addr) (l : List Nat) (i : Nat) (σ : L2.St) (Hy : Hp) : Prop := ∃ v2 v3 : Option V, σ = [some (.ref la), some (.ref wa), v2, v3, none, none, none] ∧ NewLists H Hy wa was ∧
  ∀ (j : Nat) (x : Addr), was[j]? = some x → Hy x = some (.lst (natsV (symsOf (l.take i) j)))
theorem ok_Col {f : Addr} {fd : FuncData} (F : Fun K "code_of_lengths" "code_of_lengths" sCol f fd) (T : Tx K mg t) (G : MakeOk P w K mg base 1 t.CC "Code" ["self", "words", "sole"] (spCInit t)) : FnOk P w K mg base (CXe P w) 3 f fd ["lengths"] (spCol t) := by
  obtain ⟨uL, hL, rL⟩ := T.kLONGEST
  refine F.okE scCol (fun vs H Q E h => ?_) (fun cdv A outer s H vs Q E hr h => ?_)
  · obtain ⟨la, l, rfl, _⟩ := h
    rfl
  · obtain ⟨la, l, rfl, hla, h15, hlen, kg, kb⟩ := h
    refine ⟨_, pss_cons (ps_setLc (i := 1) (own := [("length", 3)]) rfl scCol.nd rfl rfl (sw_true rfl rfl rfl rfl) (pi_range1 (by rfl) T.range (pa_cons (pe_op op_add (pe_glob (by rfl) hL rL) pe_int) pa_nil)) (by show BlkOk nCol (defScope sCol) _ _; exact blkOk_by (by decide +kernel))
        (fun _ _ _ _ _ => pg_name (i := 3) scCol.nd rfl (Or.inl rfl)) (fun _ _ _ _ _ => pts_nil) (fun _ _ _ _ _ => pe_lst pa_nil))
      (pss_cons (ps_for Lv.of.own rfl (pi_enum (by rfl) T.enum (pa_cons (pv 0) pa_nil)) (pg_tup rfl (pgs_cons (pg_name (i := 2) scCol.nd rfl (Or.inl rfl)) (pgs_cons (pg_name (i := 3) scCol.nd rfl (Or.inl rfl)) pgs_nil)))
        (pss_one (ps_expr (pe_bm PySem.F.plainAttrs_list PySem.F.slot_list_append PySem.F.type_list_append mt_append (pe_ix ix_list (pv 1) (pv 3) (fun _ _ => rfl)) (pa_cons (pv 2) pa_nil)))))
      (pss_cons (ps_set (i := 4) scCol.nd rfl (Or.inl rfl) (pe_op op_sub (pe_callB call_len_seq (by rfl) T.len PySem.boot_len (pa_cons (pv 0) pa_nil)) (pe_callB call_len_seq (by rfl) T.len PySem.boot_len (pa_cons (pe_ix ix_list (pv 1) pe_int (fun _ _ => rfl)) pa_nil))))
      (pss_cons (ps_asg (pe_lst pa_nil) (pg_sub (pv 1) pe_int set_list))
      (pss_cons (ps_if (pt_cmpR op_eq (pv 4) pe_int (nomark _)) (pss_one (ps_ret (pmk G Lv.of hr (pa_cons (pv 1) (pa_cons (pe_bm PySem.F.plainAttrs_list PySem.F.slot_list_index PySem.F.type_list_index mt_index (pv 0)
          (pa_cons (pe_callB (call_maxL rfl) (by rfl) T.max PyProof.Rows.boot_max (pa_cons (pv 0) pa_nil)) pa_nil)) pa_nil))))) pss_nil)
      (pss_cons (ps_set (i := 5) scCol.nd rfl (Or.inl rfl) (pe_callB (call_sumL rfl) (by rfl) T.sum PyProof.Rows.boot_sum (pa_cons (pe_lc (own := [("length", 3), ("symbols", 6)]) rfl scCol.nd (pi_enum (by rfl) T.enum (pa_cons (pv 1) pa_nil)) (by show BlkOk nCol (defScope sCol) _ _; exact blkOk_by (by decide +kernel))
          (fun _ _ _ _ _ => by exact pg_tupK (K := K) (n := 2) rfl rfl (pgs_cons (pg_name (i := 3) scCol.nd (by rfl) (Or.inl (by rfl)) (Or.inr (by rfl))) (pgs_cons (pg_name (i := 6) scCol.nd (by rfl) (Or.inl (by rfl)) (Or.inr (by rfl))) pgs_nil))) (fun _ _ _ _ _ => pts_nil)
          (fun _ _ _ _ _ => by exact pe_op op_shl (pe_callB (call_len_seqK (K := K) rfl) (by rfl) T.len PySem.boot_len (pa_cons (pv 6) pa_nil)) (pe_op op_sub (pe_glob (by rfl) hL rL) (pv 3)))) pa_nil)))
      (pss_cons (ps_if (pt_cmpR op_ne (pv 5) (pe_op op_shl pe_int (pe_glob (by rfl) hL rL)) (nomark _)) (pss_one (ps_raise Lv.of (by rfl) T.gN T.xN)) pss_nil)
      (pss_one (ps_ret (pmk G Lv.of hr (pa_cons (pv 1) (pa_cons pe_non pa_nil))))))))))), ?_⟩
    -- words = [[] for length in range(LONGEST + 1)]
    refine ⟨_, _, rfl, rfl, _, rfl, by decide, by decide, fun wa hwa => lc_range (lo := 0) (n := 16) (fun i Hx => ∃ was : List Addr, was.length = i ∧ NewLists H Hx wa was ∧ ∀ x ∈ was, Hx x = some (.lst [])) ?_ ?_ ?_⟩
    · exact ⟨[], rfl, ⟨upd_same, List.nodup_nil, fun x hx => absurd hx (by simp), same_new (Same.refl H) hwa⟩, fun x hx => absurd hx (by simp)⟩
    · rintro i Hx hi ⟨was, hwl, NL, hem⟩
      refine ⟨rfl, yes_if ⟨Nat.zero_le _, fun x hx => ⟨was.map V.ref, ?_, ?_, was ++ [x], ?_, ⟨?_, ?_, ?_, ?_⟩, ?_⟩⟩⟩
      · rw [upd_ne (ne_of_none NL.lst hx)]; exact NL.lst
      · rw [List.length_map, hwl]; exact Nat.lt_trans hi (by decide)
      · rw [List.length_append, hwl]; rfl
      · rw [upd_same, List.map_append]; rfl
      · refine List.nodup_append.mpr ⟨NL.nd, by simp, fun a ha b hb => ?_⟩
        rw [List.mem_singleton.mp hb]
        exact ne_of_none (hem a ha) hx
      · intro y hy
        rcases List.mem_append.mp hy with z | z
        · exact NL.ne y z
        · rw [List.mem_singleton.mp z]; exact ⟨(ne_of_none NL.lst hx).symm, NL.same.free hx⟩
      · exact same_over (same_new NL.same hx) hwa
      · intro y hy
        rcases List.mem_append.mp hy with z | z
        · rw [upd_ne (NL.ne y z).1, upd_ne (ne_of_none (hem y z) hx)]; exact hem y z
        · rw [List.mem_singleton.mp z, upd_ne (ne_of_none NL.lst hx).symm]; exact upd_same
    · rintro Hx ⟨was, hwl, NL, hem⟩
      -- for symbol, length in enumerate(lengths): words[length].append(symbol)
      refine ⟨_, rfl, la, natsV l, rfl, SqL.of (NL.same _ _ hla), for_enum (K := K) (a := la) (xs := natsV l) (ColW H la wa was l) ⟨none, none, rfl, NL, fun j x hx => ?_⟩ (fun i σ Hy _ ⟨_, _, _, N2, _⟩ => SqL.of (N2.same _ _ hla)) ?_ ?_⟩
      · rw [hem x (List.mem_of_getElem? hx)]; rfl
      · rintro i x σ Hy Tt hx ⟨v2, v3, rfl, N2, hw2⟩ hTt
        obtain ⟨n, hn, rfl⟩ := get_natsV hx
        have hn15 := h15 n (List.mem_of_getElem? hn)
        have hil : i < l.length := (List.getElem?_eq_some_iff.mp hn).1
        have htl : (l.take i).length = i := by rw [List.length_take]; omega
        have htk : l.take (i + 1) = l.take i ++ [n] := by
          rw [List.take_succ_eq_append_getElem hil]
          rw [List.getElem?_eq_getElem hil] at hn
          rw [Option.some.inj hn]
        obtain ⟨xw, hxw⟩ : ∃ xw, was[n]? = some xw := ⟨_, List.getElem?_eq_getElem (by omega)⟩
        have hcw := hw2 n xw hxw
        have m1 := List.mem_of_getElem? hxw
        refine ⟨Tt, _, rfl, SqT.of upd_same, rfl, _, _, rfl, _, _, rfl, rfl, _, rfl, _, rfl, wa, _, _, .ref xw, rfl, rfl, SqL.of (by rw [upd_ne (ne_of_none N2.lst hTt)]; exact N2.lst), at_of rfl (refs_get hxw),
          .inl ⟨rfl, _, SqL.of (by rw [upd_ne (ne_of_none hcw hTt)]; exact hcw)⟩, _, rfl, xw, _, _, rfl, rfl, (by rw [upd_ne (ne_of_none hcw hTt)]; exact hcw), ?_, ?_⟩
        · rw [natsV_len]
          have := symsOf_len (l.take i) n
          exact Nat.lt_of_le_of_lt this (Nat.lt_of_le_of_lt (by omega : _ ≤ 4000) (by decide))
        · refine ⟨_, _, rfl, ⟨?_, N2.nd, N2.ne, same_over (same_new N2.same hTt) (N2.ne xw m1).2⟩, fun j y hy => ?_⟩
          · rw [upd_ne (N2.ne xw m1).1.symm, upd_ne (ne_of_none N2.lst hTt)]; exact N2.lst
          · rw [htk, symsOf_snoc, htl]
            by_cases hjn : n = j
            · subst hjn
              have : y = xw := Option.some.inj (hy.symm.trans hxw)
              subst this
              rw [upd_same, if_pos rfl, natsV_app]; rfl
            · have hne : y ≠ xw := fun z => hjn (nd_at N2.nd hxw (by rw [← z]; exact hy))
              rw [upd_ne hne, upd_ne (ne_of_none (hw2 j y hy) hTt), if_neg hjn]
              exact hw2 j y hy
      · rintro σ Hy ⟨v2, v3, rfl, N2, hw2⟩
        rw [natsV_len, List.take_length] at hw2
        obtain ⟨x0, rest, rfl⟩ : ∃ x0 rest, was = x0 :: rest := by
          cases was with
          | nil => simp at hwl
          | cons x0 rest => exact ⟨x0, rest, rfl⟩
        have hx0 := hw2 0 x0 rfl
        have hla2 := N2.same _ _ hla
        -- used = len(lengths) - len(words[0]); words[0] = []
        refine ⟨_, rfl, la, _, rfl, .inl (SqL.of hla2), _, rfl, wa, _, _, .ref x0, rfl, rfl, SqL.of N2.lst, at_of (j := 0) rfl rfl, x0, _, rfl, .inl (SqL.of hx0), _, _, rfl, rfl, ?_⟩
        refine ⟨Nat.zero_le _, fun e he => ⟨_, rfl, wa, _, _, 0, rfl, rfl, (by rw [upd_ne (ne_of_none N2.lst he)]; exact N2.lst), ixN_nat (j := 0) (by simp), ?_⟩⟩
        rw [natsV_len, natsV_len]
        have nwe : wa ≠ e := ne_of_none N2.lst he
        generalize hH6 : upd (upd Hy e (.lst [])) wa (.lst ((List.map V.ref (x0 :: rest)).set 0 (.ref e))) = H6
        have l6 : H6 wa = some (.lst ((e :: rest).map V.ref)) := by rw [← hH6, upd_same]; rfl
        have s6 : Same H H6 := by rw [← hH6]; exact same_over (same_new N2.same he) hwa
        have w6 : ListsAt H6 (e :: rest) ([] :: wordsFrom l 1 15) := by
          refine ⟨by simp [wordsFrom_len]; simpa using hwl, fun j x hx => ?_⟩
          cases j with
          | zero =>
            have : e = x := Option.some.inj hx
            subst this
            exact ⟨[], rfl, by rw [← hH6, upd_ne nwe.symm, upd_same]; rfl⟩
          | succ j =>
            have hx' : rest[j]? = some x := hx
            have hj : j < rest.length := (List.getElem?_eq_some_iff.mp hx').1
            have hj15 : j < 15 := by have : rest.length + 1 = 16 := hwl; omega
            have hm : x ∈ x0 :: rest := List.mem_of_getElem? (i := j + 1) hx'
            have := hw2 (j + 1) x hx'
            refine ⟨_, wordsFrom_get l 15 1 j hj15, ?_⟩
            rw [← hH6, upd_ne (N2.ne x hm).1, upd_ne (ne_of_none this he), this, Nat.add_comm 1 j]
        have la6 := s6 _ _ hla
        have nwas : ∀ x ∈ e :: rest, H x = none := fun x hx => by
          rcases List.mem_cons.mp hx with z | z
          · rw [z]; exact N2.same.free he
          · exact (N2.ne x (List.mem_cons_of_mem _ z)).2
        have hsl := symsOf_len l 0
        -- if used == 1
        refine ⟨_, rfl, rfl, _, rfl, ite2 (fun eu => ?_) (fun eu => ?_)⟩
        · have hu : l.length - (symsOf l 0).length = 1 := by have := V.int.inj (of_decide_eq_true eu); omega
          have hgood : Sn15.good l = true := (good_iff h15).mpr (.inl hu)
          obtain ⟨sy, hs1, hs2, hs3, hs4⟩ := sole_of hu
          have hgs : l[sy]? = some (l.getD sy 0) := by rw [List.getD_eq_getElem?_getD, List.getElem?_eq_getElem hs2]; rfl
          refine ⟨_, rfl, _, rfl, .inl ⟨rfl, _, SqL.of la6⟩, _, rfl, la, l.map fun (n : Nat) => (n : Int), rfl, SqL.of (by rw [← natsV_ints]; exact la6), by rw [List.length_map]; omega, fun M hM hMx => ?_⟩
          have hMs : M = ((l.getD sy 0 : Nat) : Int) := by
            obtain ⟨m, hm, rfl⟩ := List.mem_map.mp hM
            have h1 := hMx ((l.getD sy 0 : Nat) : Int) (List.mem_map.mpr ⟨_, List.mem_of_getElem? hgs, rfl⟩)
            obtain ⟨j, hj⟩ := List.getElem?_of_mem hm
            have hjl : j < l.length := (List.getElem?_eq_some_iff.mp hj).1
            by_cases hjs : j = sy
            · subst hjs
              rw [hj] at hgs
              rw [← Option.some.inj hgs]
            · have := hs4 j hjl hjs
              rw [List.getD_eq_getElem?_getD, hj] at this
              have h0 : m = 0 := this
              rw [h0] at h1
              omega
          subst hMs
          refine ⟨la, natsV l, _, sy, _, rfl, rfl, SqL.of la6, rfl, natsV_flat l, natsV_get hgs, beq_self_eq_true _, fun m z hm hz => ?_, ?_⟩
          · obtain ⟨n, hn, rfl⟩ := get_natsV hz
            have hml : m < l.length := (List.getElem?_eq_some_iff.mp hn).1
            have := hs4 m hml (by omega)
            rw [List.getD_eq_getElem?_getD, hn] at this
            have h0 : n = 0 := this
            subst h0
            show ((0 : Int) == ((l.getD sy 0 : Nat) : Int)) = false
            rw [beq_eq_false_iff_ne]
            omega
          · intro p dx hp hdx hne
            refine ⟨p, wa, dx, some sy, rfl, upd_same, fun H' e1 kp => ⟨rfl, ?_⟩⟩
            obtain ⟨c1, c2⟩ := CodeNew.made (H0 := H) (c := l) hp hdx kp e1 l6 w6 ⟨symbol_sole hs1, hs2⟩ (same_dom s6) hwa nwas
            exact kg hgood p H' c1 (s6.trans c2)
        · have hu : ¬ l.length - (symsOf l 0).length = 1 := fun z => eu (decide_eq_true (by
            have : (l.length : Int) - ((symsOf l 0).length : Int) = 1 := by omega
            show V.int ((l.length : Int) - ((symsOf l 0).length : Int)) = V.int 1
            rw [this]))
          -- filled = sum([..])
          refine ⟨_, rfl, wa, _, rfl, SqL.of l6, fun D2 hD2 => lc_enum (K := K) (a := wa) (xs := (e :: rest).map V.ref) (fun i Hz => Same H6 Hz ∧ Hz D2 = some (.lst ((fillI ([] :: wordsFrom l 1 15) i).map V.int))) ⟨same_new (Same.refl _) hD2, upd_same⟩ (fun i Hz _ h => SqL.of (h.1 _ _ l6)) ?_ ?_⟩
          · rintro i x Hz Tt hx ⟨sz, dz⟩ hTt
            obtain ⟨y, hy, rfl⟩ := get_refs hx
            obtain ⟨w1, hw1, hy1⟩ := w6.at_ i y hy
            have hi16 : i < 16 := by have := (List.getElem?_eq_some_iff.mp hy).1; simp at this hwl; omega
            have hy2 := sz _ _ hy1
            refine ⟨Tt, _, rfl, SqT.of upd_same, rfl, _, _, rfl, _, _, rfl, rfl, rfl, yes_if ⟨_, rfl, y, _, rfl, .inl (SqL.of (by rw [upd_ne (ne_of_none hy2 hTt)]; exact hy2)), _, rfl, _, _, rfl, rfl, _, _, rfl, rfl, ⟨?_, ?_, ?_⟩, _, (by rw [upd_ne (ne_of_none dz hTt)]; exact dz), ?_, ?_, ?_⟩⟩
            · show (0 : Int) ≤ 15 - (i : Int)
              omega
            · show (15 : Int) - (i : Int) ≤ 1000000
              omega
            · have h1 : w1.length ≤ 4000 := by
                cases i with
                | zero => have : [] = w1 := Option.some.inj hw1
                          subst this; exact Nat.zero_le _
                | succ i =>
                  have : (wordsFrom l 1 15)[i]? = some w1 := hw1
                  rw [wordsFrom_get l 15 1 i (by omega)] at this
                  have e5 := Option.some.inj this
                  rw [← e5]
                  exact Nat.le_trans (symsOf_len _ _) hlen
              rw [natsV_len]
              omega
            · rw [List.length_map]
              unfold fillI
              rw [List.length_map, List.length_range]
              exact Nat.lt_trans hi16 (by decide)
            · exact same_over (same_new sz hTt) hD2
            · rw [upd_same, fillI_succ, List.map_append]
              have e5 : ([] :: wordsFrom l 1 15).getD i [] = w1 := by rw [List.getD_eq_getElem?_getD, hw1]; rfl
              have e6 : ((15 : Int) - (i : Int)).toNat = 15 - i := by omega
              show some (HO.lst (_ ++ [V.int (((natsV w1).length : Nat) * 2 ^ ((15 : Int) - (i : Int)).toNat)])) = _
              rw [e5, e6, natsV_len]
              rfl
          · rintro Hz ⟨sz, dz⟩
            have hlen16 : ((e :: rest).map V.ref).length = 16 := by rw [List.length_map]; exact hwl
            rw [hlen16] at dz
            refine ⟨D2, _, rfl, SqL.of dz, ?_⟩
            rw [fillI_sum]
            refine ⟨_, rfl, _, _, rfl, rfl, ⟨by decide, by decide, by decide⟩, rfl, _, rfl, ite2 (fun ef => ?_) (fun ef => ?_)⟩
            · have hne : ¬ taken l 15 = 2 ^ 15 := fun z => by
                rw [z] at ef
                exact absurd ef (by decide)
              refine kb ?_ Hz
              cases hg : Sn15.good l with
              | false => rfl
              | true =>
                rcases (good_iff h15).mp hg with z | z
                · exact absurd z hu
                · exact absurd z hne
            · have hft : taken l 15 = 2 ^ 15 := by
                have : decide (V.int ((taken l 15 : Nat) : Int) = V.int (1 * 2 ^ (15 : Int).toNat)) = true := by
                  cases q : decide (V.int ((taken l 15 : Nat) : Int) = V.int (1 * 2 ^ (15 : Int).toNat)) with
                  | true => rfl
                  | false => rw [q] at ef; exact absurd rfl ef
                have := V.int.inj (of_decide_eq_true this)
                have e7 : (1 : Int) * 2 ^ (15 : Int).toNat = 32768 := by decide
                rw [e7] at this
                show taken l 15 = 32768
                omega
              have hgood : Sn15.good l = true := (good_iff h15).mpr (.inr hft)
              refine ⟨_, rfl, ?_⟩
              intro p dx hp hdx hne
              refine ⟨p, wa, dx, none, rfl, upd_same, fun H' e1 kp => ⟨rfl, ?_⟩⟩
              have hns : ∀ s, ((List.range l.length).filter fun s => l.getD s 0 != 0) ≠ [s] := fun s z => by
                have q := used_count l
                rw [z] at q
                have : ([s] : List Nat).length = 1 := rfl
                omega
              obtain ⟨c1, c2⟩ := CodeNew.made (H0 := H) (c := l) hp hdx kp e1 (sz _ _ l6) (w6.kept fun x l e => sz _ _ e) (show CodeOk l ([] :: wordsFrom l 1 15) none from ⟨_, rfl, fits_full hft, symbol_eq l hns⟩) (same_dom (s6.trans sz)) hwa nwas
              exact kg hgood p H' c1 ((s6.trans sz).trans c2)
end
end Lk
end
section
set_option Elab.async false
set_option linter.all false
set_option maxRecDepth 100000
set_option maxHeartbeats 2000000
namespace Lk
open PySem PySem.Spec PyProof.Rows L2
open Sn15 (D bits bitsOf symbol Px value back again cached)

abbrev sVInit : Stmt := inClass (top 8) 0
abbrev sPut : Stmt := inClass (top 8) 1
abbrev sPutC : Stmt := inClass (top 8) 2
abbrev sRepeat : Stmt := inClass (top 8) 3
abbrev sValue : Stmt := top 22
abbrev sDist : Stmt := top 23

/-! ### a canvas on the heap -/
/-- the Canvas object, its list of colours, its cache -/
structure Ca where
  p : Addr
  l : Addr
  c : Addr
def canvasF (w s k : Nat) (l c : Addr) : List (Str × V) := [("width", nat w), ("size", nat s), ("colours", .ref l), ("depth", nat k), ("cache", .ref c)]
theorem canvasF_w (w s k : Nat) (l c : Addr) : (canvasF w s k l c).lookup ("width" : Str) = some (nat w) := lk_here
theorem canvasF_s (w s k : Nat) (l c : Addr) : (canvasF w s k l c).lookup ("size" : Str) = some (nat s) := (lk_next (by decide +kernel)).trans lk_here
theorem canvasF_l (w s k : Nat) (l c : Addr) : (canvasF w s k l c).lookup ("colours" : Str) = some (.ref l) := (lk_next (by decide +kernel)).trans ((lk_next (by decide +kernel)).trans lk_here)
theorem canvasF_d (w s k : Nat) (l c : Addr) : (canvasF w s k l c).lookup ("depth" : Str) = some (nat k) := (lk_next (by decide +kernel)).trans ((lk_next (by decide +kernel)).trans ((lk_next (by decide +kernel)).trans lk_here))
theorem canvasF_c (w s k : Nat) (l c : Addr) : (canvasF w s k l c).lookup ("cache" : Str) = some (.ref c) :=
  (lk_next (by decide +kernel)).trans ((lk_next (by decide +kernel)).trans ((lk_next (by decide +kernel)).trans ((lk_next (by decide +kernel)).trans lk_here)))
theorem canvasF_no (w s k : Nat) (l c : Addr) {m : Str} (h1 : (m == ("width" : Str)) = false) (h2 : (m == ("size" : Str)) = false) (h3 : (m == ("colours" : Str)) = false) (h4 : (m == ("depth" : Str)) = false) (h5 : (m == ("cache" : Str)) = false) : (canvasF w s k l c).lookup m = none :=
  (lk_next h1).trans ((lk_next h2).trans ((lk_next h3).trans ((lk_next h4).trans ((lk_next h5).trans rfl))))
def wordsOfPx (l : List Px) : List Nat := l.map Px.word
structure CanvasAt (t : Ad) (H : Hp) (C : Ca) (w s k : Nat) (l : List Px) : Prop where
  ins : ∃ dx, H C.p = some (.ins t.CV dx (canvasF w s k C.l C.c))
  lst : H C.l = some (.lst (natsV (wordsOfPx l)))
  cch : H C.c = some (.lst (natsV (cacheL k l)))
  ne : C.l ≠ C.c
  ok : ∀ p ∈ l, PxOk p
  k11 : k ≤ 11
theorem CanvasAt.neL {t : Ad} {H : Hp} {C : Ca} {w s k : Nat} {l : List Px} (h : CanvasAt t H C w s k l) : C.p ≠ C.l := by
  obtain ⟨dx, e⟩ := h.ins
  exact ne_of e h.lst (by intro z; cases z)
theorem CanvasAt.neC {t : Ad} {H : Hp} {C : Ca} {w s k : Nat} {l : List Px} (h : CanvasAt t H C w s k l) : C.p ≠ C.c := by
  obtain ⟨dx, e⟩ := h.ins
  exact ne_of e h.cch (by intro z; cases z)
theorem CanvasAt.kept {t : Ad} {H H' : Hp} {C : Ca} {w s k : Nat} {l : List Px} {B : Bi} {bs : List Bool} (h : CanvasAt t H C w s k l) (b : BitsAt t H B bs) (kp : Kept [B.p] H H') : CanvasAt t H' C w s k l := by
  obtain ⟨dx, e⟩ := h.ins
  exact ⟨⟨dx, kp.ins b e (by decide +kernel)⟩, kp.lst b h.lst, kp.lst b h.cch, h.ne, h.ok, h.k11⟩
theorem CanvasAt.meth {t : Ad} {H : Hp} {C : Ca} {w s k : Nat} {l : List Px} (h : CanvasAt t H C w s k l) {m : Str} (h1 : (m == ("width" : Str)) = false := by decide +kernel) (h2 : (m == ("size" : Str)) = false := by decide +kernel) (h3 : (m == ("colours" : Str)) = false := by decide +kernel)
    (h4 : (m == ("depth" : Str)) = false := by decide +kernel) (h5 : (m == ("cache" : Str)) = false := by decide +kernel) : ∃ dx fs, H C.p = some (.ins t.CV dx fs) ∧ fs.lookup m = none := by
  obtain ⟨dx, e⟩ := h.ins
  exact ⟨dx, _, e, canvasF_no _ _ _ _ _ h1 h2 h3 h4 h5⟩

section
variable {P : Program} {w : World} {K : PySem.W.Frag} {mg : Str → Option Value} {base : Heap} {t : Ad}
/-! ### Canvas.__init__ -/
def spVInit (t : Ad) : Sp := fun vs H Q _ => ∃ (p dx : Addr) (w h k : Nat), vs = [.ref p, nat w, nat h, nat k] ∧ H p = some (.ins t.CV dx []) ∧ w ≤ 2 ^ 20 ∧ k ≤ 11 ∧
  ∀ H' C, C.p = p → CanvasAt t H' C w (w * h) k [] → Kept [p] H H' → H C.l = none → H C.c = none → Q .non H'
theorem scVInit : FnScope ["self", "width", "height", "depth"] ["self", "width", "height", "depth"] (defScope sVInit) := ⟨rfl, rfl, rfl, by decide +kernel, rfl, by decide +kernel, by decide +kernel⟩
theorem rep_zero (n : Nat) : (List.replicate n ([V.int 0] : List V)).flatten = natsV (List.replicate n 0) := by
  induction n with
  | zero => rfl
  | succ n ih => rw [List.replicate_succ, List.flatten_cons, ih]; rfl
theorem ok_VInit {f : Addr} {fd : FuncData} (F : Fun K "__init__" "Canvas.__init__" sVInit f fd) (T : Tx K mg t) : FnOk P w K mg base (CXe P w) 1 f fd ["self", "width", "height", "depth"] (spVInit t) := by
  refine F.okE scVInit (fun vs H Q E h => ?_) (fun cdv A outer s H vs Q E hr h => ?_)
  · obtain ⟨p, dx, w, h, k, rfl, _⟩ := h
    rfl
  · obtain ⟨p, dx, w, h, k, rfl, hp, hw, hk, kk⟩ := h
    refine ⟨_, pss_cons (ps_fld (pv 0) (pv 1) rfl) (pss_cons (ps_fld (pv 0) (pe_op op_mul (pv 1) (pv 2)) rfl) (pss_cons (ps_fld (pv 0) (pe_lst pa_nil) rfl) (pss_cons (ps_fld (pv 0) (pv 3) rfl)
      (pss_one (ps_fld (pv 0) (pe_op op_rep (pe_lst (pa_cons pe_int pa_nil)) (pe_op op_shl pe_int (pv 3))) rfl))))), ?_⟩
    refine ⟨_, rfl, _, rfl, p, t.CV, dx, _, rfl, hp, T.cV, T.vW, (by show 0 < 1000; decide), ?_⟩
    refine ⟨_, rfl, _, rfl, _, _, rfl, rfl, .inl ⟨by omega, by omega⟩, _, rfl, p, t.CV, dx, _, rfl, upd_same, T.cV, T.vS, (by show 1 < 1000; decide), ?_⟩
    generalize hH2 : upd (upd H p _) p _ = H2
    have p2 : H2 p = some (.ins t.CV dx [("width", nat w), ("size", nat (w * h))]) := by
      rw [← hH2, upd_same]
      show some (HO.ins t.CV dx [("width", nat w), ("size", V.int ((w : Int) * (h : Int)))]) = _
      rw [← Int.natCast_mul]
    have k2 : Kept [p] H H2 := by rw [← hH2]; exact (Kept.put (by simp)).trans (Kept.put (by simp))
    refine ⟨Nat.zero_le _, fun l hl => ⟨_, rfl, p, t.CV, dx, _, rfl, (by rw [upd_ne (ne_of_none p2 hl)]; exact p2), T.cV, T.vC, (by show 2 < 1000; decide), ?_⟩⟩
    have npl : p ≠ l := ne_of_none p2 hl
    have nHl : H l = none := k2.free hl (by simp; exact npl.symm)
    generalize hH3 : upd (upd H2 l _) p _ = H3
    have p3 : H3 p = some (.ins t.CV dx [("width", nat w), ("size", nat (w * h)), ("colours", .ref l)]) := by rw [← hH3, upd_same]; rfl
    have l3 : H3 l = some (.lst []) := by rw [← hH3, upd_ne npl.symm]; exact upd_same
    have k3 : Kept [p] H H3 := by rw [← hH3]; exact (k2.trans (Kept.new hl)).trans (Kept.put (by simp))
    refine ⟨_, rfl, _, rfl, p, t.CV, dx, _, rfl, p3, T.cV, T.vD, (by show 3 < 1000; decide), ?_⟩
    generalize hH4 : upd H3 p _ = H4
    have p4 : H4 p = some (.ins t.CV dx [("width", nat w), ("size", nat (w * h)), ("colours", .ref l), ("depth", nat k)]) := by rw [← hH4, upd_same]; rfl
    have l4 : H4 l = some (.lst []) := by rw [← hH4, upd_ne npl.symm]; exact l3
    have k4 : Kept [p] H H4 := by rw [← hH4]; exact k3.trans (Kept.put (by simp))
    have hpow : (2 : Nat) ^ k ≤ 2 ^ 11 := Nat.pow_le_pow_right (by decide) hk
    have h2 : (1 : Int) * 2 ^ ((k : Nat) : Int).toNat = ((2 ^ k : Nat) : Int) := by rw [Int.toNat_natCast, two_pow_int]; omega
    refine ⟨(by show 1 ≤ sizeLine; decide), fun x hx => ⟨_, rfl, _, _, rfl, rfl, ⟨by omega, by omega, by decide⟩, x, _, _, rfl, rfl, upd_same, ?_, ?_, ?_, fun c hc => ⟨_, rfl, p, t.CV, dx, [("width", nat w), ("size", nat (w * h)), ("colours", .ref l), ("depth", nat k)], rfl, ?_, T.cV, T.vH, (by show 4 < 1000; decide), ?_⟩⟩⟩
    · rw [h2]
      generalize (2 : Nat) ^ k = m at hpow
      omega
    · rw [h2]
      generalize (2 : Nat) ^ k = m at hpow
      omega
    · rw [h2, Int.toNat_natCast]
      show 1 * 2 ^ k ≤ 2 ^ 24
      generalize (2 : Nat) ^ k = m at hpow
      omega
    · rw [upd_ne (ne_of_none (o := _) (by rw [upd_ne (ne_of_none p4 hx)]; exact p4) hc), upd_ne (ne_of_none p4 hx)]; exact p4
    · have p5 : upd H4 x (.lst [V.int 0]) p = some (.ins t.CV dx [("width", nat w), ("size", nat (w * h)), ("colours", .ref l), ("depth", nat k)]) := by rw [upd_ne (ne_of_none p4 hx)]; exact p4
      have l5 : upd H4 x (.lst [V.int 0]) l = some (.lst []) := by rw [upd_ne (ne_of_none l4 hx)]; exact l4
      have npc : p ≠ c := ne_of_none p5 hc
      have nlc : l ≠ c := ne_of_none l5 hc
      have k5 : Kept [p] H (upd H4 x (.lst [V.int 0])) := k4.trans (Kept.new hx)
      refine kk _ ⟨p, l, c⟩ rfl ⟨⟨dx, ?_⟩, ?_, ?_, nlc, fun q hq => absurd hq (by simp), hk⟩ ((k5.trans (Kept.new hc)).trans (Kept.put (by simp))) nHl (k5.free hc (by simp; exact npc.symm))
      · rw [upd_same]; rfl
      · rw [upd_ne npl.symm, upd_ne nlc]; exact l5
      · rw [upd_ne npc.symm, upd_same, h2, Int.toNat_natCast, rep_zero, cacheL_nil]
/-! ### Canvas.put -/
def spPut (t : Ad) : Sp := fun vs H Q _ => ∃ (C : Ca) (w s k : Nat) (l : List Px) (p : Px), vs = [.ref C.p, nat p.word] ∧ CanvasAt t H C w s k l ∧ PxOk p ∧ l.length < sizeLine ∧
  ∀ H', CanvasAt t H' C w s k (l ++ [p]) → Kept [C.l, C.c] H H' → Q .non H'
theorem scPut : FnScope ["self", "colour"] ["self", "colour"] (defScope sPut) := ⟨rfl, rfl, rfl, by decide +kernel, rfl, by decide +kernel, by decide +kernel⟩
theorem hash_int {p : Px} {k : Nat} (hk : k ≤ 32) : Builtin.bitAnd (506832829 * ((p.word : Nat) : Int)) 4294967295 / 2 ^ ((32 : Int) - ((k : Nat) : Int)).toNat = ((Sn15.hash k p : Nat) : Int) := by
  have e : ((32 : Int) - ((k : Nat) : Int)).toNat = 32 - k := by omega
  rw [bitAnd_m32, e, two_pow_int]
  unfold Sn15.hash
  have e2 : (506832829 * ((p.word : Nat) : Int)) % 4294967296 = ((0x1E35A7BD * p.word % 2 ^ 32 : Nat) : Int) := by omega
  rw [e2, ← Int.natCast_ediv]
theorem ok_Put {f : Addr} {fd : FuncData} (F : Fun K "put" "Canvas.put" sPut f fd) (T : Tx K mg t) : FnOk P w K mg base (CXe P w) 1 f fd ["self", "colour"] (spPut t) := by
  obtain ⟨uS, hS, rS⟩ := T.kSPREAD
  obtain ⟨uL, hL, rL⟩ := T.kLOW
  refine F.okE scPut (fun vs H Q E h => ?_) (fun cdv A outer s H vs Q E hr h => ?_)
  · obtain ⟨C, w, s, k, l, p, rfl, _⟩ := h
    rfl
  · obtain ⟨C, w, s, k, l, p, rfl, hC, hp, hl, kk⟩ := h
    obtain ⟨dx, hi⟩ := hC.ins
    refine ⟨_, pss_cons (ps_expr (pe_bm PySem.F.plainAttrs_list PySem.F.slot_list_append PySem.F.type_list_append mt_append (pe_fld (pv 0) rfl) (pa_cons (pv 1) pa_nil)))
      (pss_one (ps_if (pt_cmpR op_gt (pe_fld (pv 0) rfl) pe_int (nomark _)) (pss_one (ps_asg (pv 1) (pg_sub (pe_fld (pv 0) rfl) (pe_op op_shr (pe_op op_and (pe_op op_mul (pe_glob rfl hS rS) (pv 1)) (pe_glob rfl hL rL)) (pe_op op_sub pe_int (pe_fld (pv 0) rfl))) set_list))) pss_nil)), ?_⟩
    have hlen : (natsV (wordsOfPx l)).length < sizeLine := by rw [natsV_len]; unfold wordsOfPx; rw [List.length_map]; exact hl
    have e1 : natsV (wordsOfPx l) ++ [nat p.word] = natsV (wordsOfPx (l ++ [p])) := by unfold wordsOfPx; rw [List.map_append, natsV_app]; rfl
    have hi1 : upd H C.l (.lst (natsV (wordsOfPx (l ++ [p])))) C.p = some (.ins t.CV dx (canvasF w s k C.l C.c)) := by rw [upd_ne hC.neL]; exact hi
    have okp : ∀ q ∈ l ++ [p], PxOk q := fun q hq => by
      rcases List.mem_append.mp hq with z | z
      · exact hC.ok q z
      · rw [List.mem_singleton.mp z]; exact hp
    refine ⟨_, rfl, C.p, t.CV, dx, _, _, rfl, hi, T.cV, T.vC, canvasF_l _ _ _ _ _, .inl ⟨rfl, _, SqL.of hC.lst⟩, _, rfl, C.l, _, _, rfl, rfl, hC.lst, hlen, ?_⟩
    rw [e1]
    refine ⟨_, rfl, C.p, t.CV, dx, _, _, rfl, hi1, T.cV, T.vD, canvasF_d _ _ _ _ _, _, _, rfl, rfl, _, rfl, ite2 (fun e => ?_) (fun e => ?_)⟩
    · have hk0 : 0 < k := by have := of_decide_eq_true e; omega
      have hk := hC.k11
      have hh := hash_lt k p (by omega)
      refine ⟨_, rfl, _, rfl, C.p, t.CV, dx, _, _, rfl, hi1, T.cV, T.vH, canvasF_c _ _ _ _ _, _, rfl, _, _, rfl, rfl, .inl ⟨by decide, by decide⟩, _, _, rfl, rfl, _, rfl, C.p, t.CV, dx, _, _, rfl, hi1, T.cV, T.vD, canvasF_d _ _ _ _ _, _, _, rfl, rfl, _, _, rfl, rfl, ?_,
        C.c, _, _, Sn15.hash k p, rfl, rfl, (by rw [upd_ne hC.ne.symm]; exact hC.cch), ?_, ?_⟩
      · show (0 : Int) ≤ 32 - (k : Int)
        omega
      · rw [hash_int (by omega), natsV_len, cacheL_len]
        exact ixN_nat hh
      · refine kk _ ⟨⟨dx, ?_⟩, ?_, ?_, hC.ne, okp, hC.k11⟩ ((Kept.put (by simp)).trans (Kept.put (by simp)))
        · rw [upd_ne hC.neC]; exact hi1
        · rw [upd_ne hC.ne]; exact upd_same
        · rw [upd_same, cacheL_snoc k l p hk0 (by omega), natsV_set]
    · have hk0 : k = 0 := by
        have : ¬ (0 : Int) < (k : Int) := fun z => e (decide_eq_true z)
        omega
      subst hk0
      refine kk _ ⟨⟨dx, hi1⟩, upd_same, ?_, hC.ne, okp, hC.k11⟩ (Kept.put (by simp))
      rw [upd_ne hC.ne.symm, hC.cch, cacheL_zero, cacheL_zero]
/-! ### Canvas.put_cached -/
def spPutC (t : Ad) : Sp := fun vs H Q _ => ∃ (C : Ca) (w s k i : Nat) (l : List Px), vs = [.ref C.p, nat i] ∧ CanvasAt t H C w s k l ∧ 0 < k ∧ i < 2 ^ k ∧ l.length < sizeLine ∧
  ∀ H', CanvasAt t H' C w s k (l ++ [cached k l i]) → Kept [C.l, C.c] H H' → Q .non H'
theorem scPutC : FnScope ["self", "slot"] ["self", "slot"] (defScope sPutC) := ⟨rfl, rfl, rfl, by decide +kernel, rfl, by decide +kernel, by decide +kernel⟩
theorem ok_PutC {f : Addr} {fd : FuncData} (F : Fun K "put_cached" "Canvas.put_cached" sPutC f fd) (T : Tx K mg t) (G : MethOk P w K mg base 1 t.CV "put" ["self", "colour"] (spPut t)) : FnOk P w K mg base (CXe P w) 2 f fd ["self", "slot"] (spPutC t) := by
  refine F.okE scPutC (fun vs H Q E h => ?_) (fun cdv A outer s H vs Q E hr h => ?_)
  · obtain ⟨C, w, s, k, i, l, rfl, _⟩ := h
    rfl
  · obtain ⟨C, w, s, k, i, l, rfl, hC, hk, hi, hl, kk⟩ := h
    obtain ⟨dx, hin⟩ := hC.ins
    obtain ⟨dx2, fs, e1, e2⟩ := hC.meth (m := "put")
    refine ⟨_, pss_one (ps_expr (pm G Lv.of T.cV hr (pv 0) (pa_cons (pe_ix ix_list (pe_fld (pv 0) rfl) (pv 1) (fun _ _ => rfl)) pa_nil))), ?_⟩
    refine ⟨_, rfl, C.p, dx2, fs, rfl, e1, e2, _, rfl, C.p, t.CV, dx, _, _, rfl, hin, T.cV, T.vH, canvasF_c _ _ _ _ _, _, rfl, C.c, _, _, _, rfl, rfl, SqL.of hC.cch, at_of rfl (natsV_get (cacheL_get k l i hk hi)),
      C, w, s, k, l, cached k l i, rfl, hC, cached_ok hC.ok, hl, ?_⟩
    exact fun H' c kp => kk H' c kp
/-! ### Canvas.repeat -/
def spRepeat (t : Ad) : Sp := fun vs H Q E => ∃ (C : Ca) (w s k n d : Nat) (l : List Px), vs = [.ref C.p, nat n, nat d] ∧ CanvasAt t H C w s k l ∧ 0 < d ∧ s ≤ 2 ^ 23 ∧ n ≤ 2 ^ 50 ∧ d ≤ 2 ^ 50 ∧ l.length ≤ s ∧
  (d ≤ l.length ∧ l.length + n ≤ s → ∀ H', CanvasAt t H' C w s k (again n d l) → Kept [C.l, C.c] H H' → Q .non H') ∧ (¬ (d ≤ l.length ∧ l.length + n ≤ s) → ∀ H', E (.ref t.CN) none H')
theorem scRepeat : FnScope ["self", "length", "distance", "begin", "place"] ["self", "length", "distance"] (defScope sRepeat) := ⟨rfl, rfl, rfl, by decide +kernel, rfl, by decide +kernel, by decide +kernel⟩
theorem again_add : ∀ (i d : Nat) (l : List Px), again (i + 1) d l = again i d l ++ [(again i d l).getD ((again i d l).length - d) Sn15.black]
  | 0, d, l => rfl
  | i + 1, d, l => by rw [again_succ, again_add i, ← again_succ]
theorem ok_Repeat {f : Addr} {fd : FuncData} (F : Fun K "repeat" "Canvas.repeat" sRepeat f fd) (T : Tx K mg t) (G : MethOk P w K mg base 1 t.CV "put" ["self", "colour"] (spPut t)) : FnOk P w K mg base (CXe P w) 2 f fd ["self", "length", "distance"] (spRepeat t) := by
  refine F.okE scRepeat (fun vs H Q E h => ?_) (fun cdv A outer s H vs Q E hr h => ?_)
  · obtain ⟨C, w, s, k, n, d, l, rfl, _⟩ := h
    rfl
  · obtain ⟨C, w, s, k, n, d, l, rfl, hC, hd0, hs, hn, hd, hl, kg, kb⟩ := h
    obtain ⟨dx, hin⟩ := hC.ins
    have hwl : (natsV (wordsOfPx l)).length = l.length := by rw [natsV_len]; unfold wordsOfPx; rw [List.length_map]
    refine ⟨_, pss_cons (ps_set (i := 3) scRepeat.nd rfl (Or.inl rfl) (pe_op op_sub (pe_callB call_len_seq (by rfl) T.len PySem.boot_len (pa_cons (pe_fld (pv 0) rfl) pa_nil)) (pv 2)))
      (pss_cons (ps_if (PW.pt (pw_or (pt_cmpR op_lt (pv 3) pe_int (nomark _)) (pw_or1 (pt_cmpR op_gt (pe_op op_add (pe_callB call_len_seq (by rfl) T.len PySem.boot_len (pa_cons (pe_fld (pv 0) rfl) pa_nil)) (pv 1)) (pe_fld (pv 0) rfl) (nomark _)))))
        (pss_one (ps_raise Lv.of (by rfl) T.gN T.xN)) pss_nil)
      (pss_one (ps_for Lv.of.own rfl (pi_range2 rfl T.range (pa_cons (pv 3) (pa_cons (pe_op op_add (pv 3) (pv 1)) pa_nil))) (pg_name (i := 4) scRepeat.nd rfl (Or.inl rfl))
        (pss_one (ps_expr (pm G Lv.of T.cV hr (pv 0) (pa_cons (pe_ix ix_list (pe_fld (pv 0) rfl) (pv 4) (fun _ _ => rfl)) pa_nil))))))), ?_⟩
    refine ⟨_, rfl, C.p, t.CV, dx, _, _, rfl, hin, T.cV, T.vC, canvasF_l _ _ _ _ _, C.l, _, rfl, .inl (SqL.of hC.lst), _, rfl, _, _, rfl, rfl, ?_⟩
    rw [hwl]
    refine ⟨_, rfl, _, _, rfl, rfl, _, rfl, ite2 (fun e => ?_) (fun e => ?_)⟩
    · have hlt : ¬ d ≤ l.length := by have := of_decide_eq_true e; omega
      exact iteT (kb (fun z => hlt z.1) _)
    · have hle : d ≤ l.length := by
        have : ¬ ((l.length : Int) - (d : Int)) < 0 := fun z => e (decide_eq_true z)
        omega
      refine ⟨_, rfl, C.p, t.CV, dx, _, _, rfl, hin, T.cV, T.vC, canvasF_l _ _ _ _ _, C.l, _, rfl, .inl (SqL.of hC.lst), _, rfl, _, _, rfl, rfl, _, rfl, C.p, t.CV, dx, _, _, rfl, hin, T.cV, T.vS, canvasF_s _ _ _ _ _, _, _, rfl, rfl, _, rfl, ite2 (fun e2 => ?_) (fun e2 => ?_)⟩
      · have hgt : ¬ l.length + n ≤ s := by have := of_decide_eq_true e2; rw [hwl] at this; omega
        exact kb (fun z => hgt z.2) _
      · have hle2 : l.length + n ≤ s := by
          have : ¬ (s : Int) < ((natsV (wordsOfPx l)).length : Int) + (n : Int) := fun z => e2 (decide_eq_true z)
          rw [hwl] at this
          omega
        refine ⟨_, rfl, _, rfl, _, rfl, _, _, rfl, rfl, _, _, rfl, ⟨by omega, by omega, by omega, by omega⟩, ?_⟩
        have en : ((l.length : Int) - (d : Int) + (n : Int) - ((l.length : Int) - (d : Int))).toNat = n := by omega
        rw [en]
        refine for_range (n := n) (fun i σ H' => ∃ v4 : Option V, σ = [some (.ref C.p), some (nat n), some (nat d), some (.int ((l.length : Int) - (d : Int))), v4] ∧ CanvasAt t H' C w s k (again i d l) ∧ Kept [C.l, C.c] H H')
          ⟨none, rfl, hC, Kept.refl _ _⟩ ?_ ?_
        · rintro i σ H' hi ⟨v4, rfl, hC', kp⟩
          obtain ⟨dx2, hin2⟩ := hC'.ins
          obtain ⟨dx3, fs, e1, e3⟩ := hC'.meth (m := "put")
          have hal := again_len i d l
          have hix : (again i d l).length - d < (again i d l).length := by rw [hal]; omega
          have hg : (wordsOfPx (again i d l))[(again i d l).length - d]? = some ((again i d l).getD ((again i d l).length - d) Sn15.black).word := by
            unfold wordsOfPx
            rw [List.getElem?_map, List.getElem?_eq_getElem hix, List.getD_eq_getElem?_getD, List.getElem?_eq_getElem hix]; rfl
          refine ⟨_, rfl, C.p, dx3, fs, rfl, e1, e3, _, rfl, C.p, t.CV, dx2, _, _, rfl, hin2, T.cV, T.vC, canvasF_l _ _ _ _ _, _, rfl, C.l, _, _, _, rfl, rfl, SqL.of hC'.lst, at_of (by rw [hal]; omega) (natsV_get hg),
            C, w, s, k, again i d l, _, rfl, hC', hC'.ok _ (getD_mem hix), ?_, ?_⟩
          · rw [hal]
            have : sizeLine = 2 ^ 24 := rfl
            omega
          · intro H2 c2 kp2
            rw [← again_add] at c2
            exact ⟨_, rfl, c2, kp.trans kp2⟩
        · rintro σ H' ⟨v4, rfl, hC', kp⟩
          exact kg ⟨hle, hle2⟩ H' hC' kp
/-! ### read_value, distance_of -/
def spValue (t : Ad) : Sp := fun vs H Q E => ∃ (B : Bi) (bs : List Bool) (s : Nat), vs = [.ref B.p, nat s] ∧ s < 100 ∧ BitsAt t H B bs ∧ Out t E B [] H isNat Q (value s bs)
theorem scValue : FnScope ["bits", "symbol", "extra"] ["bits", "symbol"] (defScope sValue) := ⟨rfl, rfl, rfl, by decide +kernel, rfl, by decide +kernel, by decide +kernel⟩
theorem ok_Value {f : Addr} {fd : FuncData} (F : Fun K "read_value" "read_value" sValue f fd) (T : Tx K mg t) (G : MethOk P w K mg base 2 t.CB "number" ["self", "width"] (spNumber t)) : FnOk P w K mg base (CXe P w) 3 f fd ["bits", "symbol"] (spValue t) := by
  refine F.okE scValue (fun vs H Q E h => ?_) (fun cdv A outer s H vs Q E hr h => ?_)
  · obtain ⟨B, bs, s, rfl, _⟩ := h
    rfl
  · obtain ⟨B, bs, sy, rfl, hs, hb, k⟩ := h
    refine ⟨_, pss_cons (ps_if (pt_cmpR op_lt (pv 1) pe_int (nomark _)) (pss_one (ps_ret (pe_op op_add (pv 1) pe_int))) pss_nil)
      (pss_cons (ps_set (i := 2) scValue.nd rfl (Or.inl rfl) (pe_op op_fdiv (pe_op op_sub (pv 1) pe_int) pe_int))
      (pss_one (ps_ret (pe_op op_add (pe_op op_add (pe_op op_shl (pe_op op_add pe_int (pe_op op_mod (pv 1) pe_int)) (pv 2)) (pm G Lv.of T.cB hr (pv 0) (pa_cons (pv 2) pa_nil))) pe_int)))), ?_⟩
    refine ⟨_, rfl, _, _, rfl, rfl, _, rfl, ite2 (fun e => ?_) (fun e => ?_)⟩
    · have h4 : sy < 4 := by have := of_decide_eq_true e; omega
      refine ⟨_, rfl, _, _, rfl, rfl, ?_⟩
      unfold value at k
      rw [if_pos h4] at k
      exact k.pure hb rfl
    · have h4 : 4 ≤ sy := by
        have : ¬ (sy : Int) < 4 := fun z => e (decide_eq_true z)
        omega
      unfold value at k
      rw [if_neg (by omega)] at k
      obtain ⟨dx, fs, e1, e2⟩ := hb.meth (m := "number")
      have ex : ((sy : Int) - 2) / 2 = (((sy - 2) / 2 : Nat) : Int) := by omega
      refine ⟨_, rfl, _, _, rfl, rfl, _, _, rfl, rfl, ⟨by decide, by decide⟩, ?_⟩
      dsimp only
      rw [ex]
      refine ⟨_, rfl, _, _, rfl, rfl, (by show (0 : Int) < 2; decide), _, _, rfl, rfl, _, rfl, _, _, rfl, rfl, ⟨by omega, by omega, by omega⟩, _, rfl, B.p, dx, fs, rfl, e1, e2, _, rfl, B, bs, (sy - 2) / 2, rfl, by omega, hb, k.bind fun b bs' v H' hm hb' kp hv k' => ?_⟩
      cases hv
      refine ⟨_, _, rfl, rfl, _, _, rfl, rfl, ?_⟩
      have ev : (2 + (sy : Int) % 2) * 2 ^ (((sy - 2) / 2 : Nat) : Int).toNat + (b : Int) + 1 = (((2 + sy % 2) * 2 ^ ((sy - 2) / 2) + b + 1 : Nat) : Int) := by
        rw [Int.toNat_natCast, two_pow_int]
        simp
      dsimp only
      rw [ev]
      exact k'.pure hb' rfl
def spDist : Sp := fun vs H Q _ => ∃ (v w : Nat), vs = [nat v, nat w] ∧ 0 < v ∧ w ≤ 2 ^ 20 ∧ Q (nat (back w v)) H
theorem scDist : FnScope ["value", "width", "pair"] ["value", "width"] (defScope sDist) := ⟨rfl, rfl, rfl, by decide +kernel, rfl, by decide +kernel, by decide +kernel⟩
theorem near_small : ∀ p ∈ Sn15.NEAR, -8 ≤ p.1 ∧ p.1 ≤ 8 ∧ 0 ≤ p.2 ∧ p.2 ≤ 8 := by decide
theorem ok_Dist {f : Addr} {fd : FuncData} (F : Fun K "distance_of" "distance_of" sDist f fd) (T : Tx K mg t) : FnOk P w K mg base (CXe P w) 1 f fd ["value", "width"] spDist := by
  obtain ⟨na, nas, hN, hNs, hNl, hNp⟩ := T.kNEAR
  refine F.okE scDist (fun vs H Q E h => ?_) (fun cdv A outer s H vs Q E hr h => ?_)
  · obtain ⟨v, w, rfl, _⟩ := h
    rfl
  · obtain ⟨v, w, rfl, hv, hw, k⟩ := h
    have hl : ((nas.map V.ref).length : Int) = 120 := by rw [List.length_map, hNl]; rfl
    refine ⟨_, pss_cons (ps_if (pt_cmpR op_gt (pv 0) (pe_callB call_len_seq (by rfl) T.len PySem.boot_len (pa_cons (pe_glob (v := .ref na) (by rfl) hN rfl) pa_nil)) (nomark _))
        (pss_one (ps_ret (pe_op op_sub (pv 0) (pe_callB call_len_seq (by rfl) T.len PySem.boot_len (pa_cons (pe_glob (v := .ref na) (by rfl) hN rfl) pa_nil))))) pss_nil)
      (pss_cons (ps_set (i := 2) scDist.nd rfl (Or.inl rfl) (pe_ix ix_tup (pe_glob (v := .ref na) (by rfl) hN rfl) (pe_op op_sub (pv 0) pe_int) (fun _ _ => rfl)))
      (pss_one (ps_ret (pe_callB (call_max2 rfl) (by rfl) T.max PyProof.Rows.boot_max (pa_cons pe_int (pa_cons (pe_op op_add (pe_ix ix_tup (pv 2) pe_int (fun _ _ => rfl)) (pe_op op_mul (pe_ix ix_tup (pv 2) pe_int (fun _ _ => rfl)) (pv 1))) pa_nil)))))), ?_⟩
    refine ⟨_, rfl, na, _, rfl, .inr (hNs _), _, _, rfl, rfl, _, rfl, ite2 (fun e => ?_) (fun e => ?_)⟩
    · have e' : 120 < v := by have := of_decide_eq_true e; rw [hl] at this; omega
      refine ⟨_, rfl, na, _, rfl, .inr (hNs _), _, _, rfl, rfl, ?_⟩
      dsimp only
      rw [hl]
      have q : (v : Int) - 120 = ((v - 120 : Nat) : Int) := by omega
      have qb : back w v = v - 120 := by unfold back; rw [if_pos e']
      rw [q, ← qb]
      exact k
    · have e' : v ≤ 120 := by
        have : ¬ ((nas.map V.ref).length : Int) < (v : Int) := fun z => e (decide_eq_true z)
        rw [hl] at this
        omega
      obtain ⟨b, hb⟩ : ∃ b, nas[v - 1]? = some b := ⟨_, List.getElem?_eq_getElem (by omega)⟩
      obtain ⟨x, y, hxy, hs⟩ := hNp (v - 1) b hb
      obtain ⟨h1, h2, h3, h4⟩ := near_small _ (List.mem_of_getElem? hxy)
      refine ⟨_, rfl, _, _, rfl, rfl, na, _, _, .ref b, rfl, rfl, hNs _, at_of (j := v - 1) (by omega) (refs_get hb), ?_⟩
      refine ⟨_, rfl, b, _, _, .int x, rfl, rfl, hs _, rfl, _, rfl, b, _, _, .int y, rfl, rfl, hs _, rfl, _, rfl, _, _, rfl, rfl, .inl ⟨by omega, by omega⟩, _, _, rfl, rfl, _, _, rfl, ?_⟩
      have qb : (if x + y * (w : Int) > 1 then x + y * (w : Int) else 1) = ((back w v : Nat) : Int) := by
        unfold back
        rw [if_neg (show ¬ 120 < v by omega)]
        have eg : Sn15.NEAR.getD (v - 1) (0, 0) = (x, y) := by rw [List.getD_eq_getElem?_getD, hxy]; rfl
        simp only [eg]
        by_cases hz : x + y * (w : Int) < 1
        · rw [if_pos hz, if_neg (by omega)]; rfl
        · rw [if_neg hz]
          by_cases h1 : x + y * (w : Int) > 1
          · rw [if_pos h1]; omega
          · rw [if_neg h1]; omega
      dsimp only
      rw [qb]
      exact k
end
end Lk
end
section
set_option Elab.async false
set_option linter.all false
set_option maxRecDepth 100000
set_option maxHeartbeats 2000000
namespace Lk
open PySem PySem.Spec PyProof.Rows L2
open Sn15 (D bits bitsOf symbol Px)

abbrev sCode : Stmt := top 14
abbrev sShort : Stmt := top 15
abbrev sLens : Stmt := top 16
abbrev sCofL : Stmt := top 17
abbrev sMost : Stmt := top 18
abbrev sRun : Stmt := top 19

theorem Out.next {α β : Type} {t : Ad} {E : XK} {B : Bi} {ps : List Addr} {H : Hp} {R : β → V → Hp → Prop} {Q : VK} {bs bs' : List Bool} {m : D α} {f : α → D β} {a : α} (h : Out t E B ps H R Q ((m >>= f) bs)) (hm : m bs = some (a, bs')) : Out t E B ps H R Q (f a bs') := by
  rw [d_bind, hm] at h
  exact h
theorem BitsAt.same {t : Ad} {H H' : Hp} {B : Bi} {bs : List Bool} (h : BitsAt t H B bs) (k : Same H H') : BitsAt t H' B bs := h.kept (k := Kept.same k []) (by simp) (by simp)
/-- a new instance with its __init__ behind it -/
theorem Same.init {H H' : Hp} {x dx C : Addr} (nx : H x = none) (nd : H dx = none) (k : Kept [x] (upd (upd H dx (.own x)) x (.ins C dx [])) H') : Same H H' :=
  Same.made nx nd fun b o e ne => k b o e (by simpa using ne)
section
variable {P : Program} {w : World} {K : PySem.W.Frag} {mg : Str → Option Value} {base : Heap} {t : Ad}
/-! ### read_most_symbols -/
def spMost (t : Ad) : Sp := fun vs H Q E => ∃ (B : Bi) (bs : List Bool) (size : Nat), vs = [.ref B.p, nat size] ∧ BitsAt t H B bs ∧ Out t E B [] H isNat Q (mMost size bs)
theorem scMost : FnScope ["bits", "size", "number_width", "most"] ["bits", "size"] (defScope sMost) := ⟨rfl, rfl, rfl, by decide +kernel, rfl, by decide +kernel, by decide +kernel⟩
theorem ok_Most {f : Addr} {fd : FuncData} (F : Fun K "read_most_symbols" "read_most_symbols" sMost f fd) (T : Tx K mg t) (Gb : MethOk P w K mg base 1 t.CB "bit" ["self"] (spBit t)) (Gn : MethOk P w K mg base 2 t.CB "number" ["self", "width"] (spNumber t)) :
    FnOk P w K mg base (CXe P w) 3 f fd ["bits", "size"] (spMost t) := by
  refine F.okE scMost (fun vs H Q E h => ?_) (fun cdv A outer s H vs Q E hr h => ?_)
  · obtain ⟨B, bs, size, rfl, _⟩ := h
    rfl
  · obtain ⟨B, bs, size, rfl, hb, k⟩ := h
    have hr1 : Room 1 _ := hr.mono (by decide)
    refine ⟨_, pss_cons (ps_if (pt_cmpR op_eq (pm0 Gb Lv.of T.cB hr1 (pv 0)) pe_int (nomark _)) (pss_one (ps_ret (pv 1))) pss_nil)
      (pss_cons (ps_set (i := 2) scMost.nd rfl (Or.inl rfl) (pe_op op_add pe_int (pe_op op_mul pe_int (pm Gn Lv.of T.cB hr (pv 0) (pa_cons pe_int pa_nil)))))
      (pss_cons (ps_set (i := 3) scMost.nd rfl (Or.inl rfl) (pe_op op_add (pm Gn Lv.of T.cB hr (pv 0) (pa_cons (pv 2) pa_nil)) pe_int))
      (pss_cons (ps_if (pt_cmpR op_gt (pv 3) (pv 1) (nomark _)) (pss_one (ps_raise Lv.of (by rfl) T.gN T.xN)) pss_nil)
      (pss_one (ps_ret (pv 3)))))), ?_⟩
    unfold mMost at k
    obtain ⟨dx, fs, e1, e2⟩ := hb.meth (m := "bit")
    refine ⟨_, rfl, B.p, dx, fs, rfl, e1, e2, B, bs, rfl, hb, k.bind fun u bs1 v H1 hm hb1 kp1 hv k1 => ?_⟩
    cases hv
    refine ⟨rfl, _, rfl, ite2 (fun e => ?_) (fun e => ?_)⟩
    · have e' : u = 0 := by have := V.int.inj (of_decide_eq_true e); omega
      rw [if_pos e'] at k1
      exact ⟨_, rfl, k1.pure hb1 rfl⟩
    · have e' : ¬ u = 0 := fun z => e (by rw [z]; exact decide_eq_true rfl)
      rw [if_neg e'] at k1
      obtain ⟨dx2, fs2, e3, e4⟩ := hb1.meth (m := "number")
      refine ⟨_, rfl, B.p, dx2, fs2, rfl, e3, e4, B, bs1, 3, rfl, by decide, hb1, k1.bind fun n bs2 v2 H2 hm2 hb2 kp2 hv2 k2 => ?_⟩
      cases hv2
      have hn : n < 8 := bits_lt hm2
      obtain ⟨dx3, fs3, e5, e6⟩ := hb2.meth (m := "number")
      have q : (2 : Int) + 2 * (n : Int) = ((2 + 2 * n : Nat) : Int) := by omega
      refine ⟨_, _, rfl, rfl, .inl ⟨by decide, by decide⟩, _, _, rfl, rfl, ?_⟩
      dsimp only
      rw [q]
      refine ⟨_, rfl, B.p, dx3, fs3, rfl, e5, e6, _, rfl, B, bs2, 2 + 2 * n, rfl, by omega, hb2, k2.bind fun m bs3 v3 H3 hm3 hb3 kp3 hv3 k3 => ?_⟩
      cases hv3
      have q2 : (m : Int) + 2 = ((m + 2 : Nat) : Int) := by omega
      refine ⟨_, _, rfl, rfl, ?_⟩
      dsimp only
      rw [q2]
      obtain ⟨kt, kf⟩ := k3.need
      refine ⟨_, rfl, _, rfl, _, _, rfl, rfl, _, rfl, ite2 (fun e => ?_) (fun e => ?_)⟩
      · exact kf (decide_eq_false (by have := of_decide_eq_true e; omega)) _
      · have hle : m + 2 ≤ size := by
          have : ¬ (size : Int) < ((m + 2 : Nat) : Int) := fun z => e (decide_eq_true z)
          omega
        exact ⟨_, rfl, (kt (decide_eq_true hle)).pure hb3 rfl⟩
/-! ### read_run -/
def isNats : List Nat → V → Hp → Prop := fun l v H => ∃ a, v = .ref a ∧ H a = some (.lst (natsV l))
def mRun (s last : Nat) : D (List Nat) :=
  (if s = 16 then bits 2 else if s = 17 then bits 3 else bits 7) >>= fun k => pure (List.replicate (if s = 18 then k + 11 else k + 3) (if s = 16 then last else 0))
def spRun (t : Ad) : Sp := fun vs H Q E => ∃ (B : Bi) (bs : List Bool) (s last : Nat), vs = [.ref B.p, nat s, nat last] ∧ 15 < s ∧ s < 19 ∧ BitsAt t H B bs ∧ Out t E B [] H isNats Q (mRun s last bs)
theorem scRun : FnScope ["bits", "symbol", "last"] ["bits", "symbol", "last"] (defScope sRun) := ⟨rfl, rfl, rfl, by decide +kernel, rfl, by decide +kernel, by decide +kernel⟩
theorem rep_one (n m : Nat) : (List.replicate n ([nat m] : List V)).flatten = natsV (List.replicate n m) := by
  induction n with
  | zero => rfl
  | succ n ih => rw [List.replicate_succ, List.flatten_cons, ih]; rfl
/-- [x] * (c + number): the end of each way -/
theorem run_end {H H' : Hp} {B : Bi} {bs : List Bool} {x p : Addr} {l : List Nat} {E : XK} {Q : VK} (hb : BitsAt t H' B bs) (hp : H' p = none) (k : Out t E B [] H' isNats Q ((pure l : D (List Nat)) bs)) : Q (.ref p) (upd H' p (.lst (natsV l))) :=
  k.pure' (hb.kept (Kept.new (ps := []) hp) (by simp) (by simp)) (Kept.new hp) ⟨p, rfl, upd_same⟩
theorem ok_Run {f : Addr} {fd : FuncData} (F : Fun K "read_run" "read_run" sRun f fd) (T : Tx K mg t) (Gn : MethOk P w K mg base 2 t.CB "number" ["self", "width"] (spNumber t)) :
    FnOk P w K mg base (CXe P w) 3 f fd ["bits", "symbol", "last"] (spRun t) := by
  refine F.okE scRun (fun vs H Q E h => ?_) (fun cdv A outer s H vs Q E hr h => ?_)
  · obtain ⟨B, bs, s, last, rfl, _⟩ := h
    rfl
  · obtain ⟨B, bs, sy, last, rfl, hs1, hs2, hb, k⟩ := h
    refine ⟨_, pss_cons (ps_if (pt_cmpR op_eq (pv 1) pe_int (nomark _)) (pss_one (ps_ret (pe_op op_rep (pe_lst (pa_cons (pv 2) pa_nil)) (pe_op op_add pe_int (pm Gn Lv.of T.cB hr (pv 0) (pa_cons pe_int pa_nil)))))) pss_nil)
      (pss_cons (ps_if (pt_cmpR op_eq (pv 1) pe_int (nomark _)) (pss_one (ps_ret (pe_op op_rep (pe_lst (pa_cons pe_int pa_nil)) (pe_op op_add pe_int (pm Gn Lv.of T.cB hr (pv 0) (pa_cons pe_int pa_nil)))))) pss_nil)
      (pss_one (ps_ret (pe_op op_rep (pe_lst (pa_cons pe_int pa_nil)) (pe_op op_add pe_int (pm Gn Lv.of T.cB hr (pv 0) (pa_cons pe_int pa_nil))))))), ?_⟩
    unfold mRun at k
    refine ⟨_, rfl, rfl, _, rfl, ite2 (fun e => ?_) (fun e => ?_)⟩
    · have e16 : sy = 16 := by have := V.int.inj (of_decide_eq_true e); omega
      subst e16
      simp only [if_true] at k
      refine ⟨_, rfl, (by show 1 ≤ sizeLine; decide), fun x hx => ?_⟩
      have hb0 : BitsAt t (upd H x (.lst [nat last])) B bs := hb.kept (Kept.new (ps := []) hx) (by simp) (by simp)
      have k0 := k.shift (Kept.new (o := .lst [nat last]) hx)
      obtain ⟨dx, fs, e1, e2⟩ := hb0.meth (m := "number")
      refine ⟨_, rfl, B.p, dx, fs, rfl, e1, e2, B, bs, 2, rfl, by decide, hb0, k0.bind fun n bs1 v H1 hm hb1 kp1 hv k1 => ?_⟩
      cases hv
      have hn : n < 4 := bits_lt hm
      have hx1 : H1 x = some (.lst [nat last]) := kp1.lst hb0 upd_same
      have q : ((3 : Int) + (n : Int)).toNat = n + 3 := by omega
      refine ⟨_, _, rfl, rfl, x, _, _, rfl, rfl, hx1, by omega, by omega, ?_, fun p hp => ?_⟩
      · rw [q]; show 1 * (n + 3) ≤ 2 ^ 24; omega
      · rw [q, rep_one]
        exact run_end (x := x) (H := H) hb1 hp k1
    · have e16 : ¬ sy = 16 := fun z => e (by rw [z]; exact decide_eq_true rfl)
      simp only [e16, if_false] at k
      refine ⟨_, rfl, rfl, _, rfl, ite2 (fun e => ?_) (fun e => ?_)⟩
      · have e17 : sy = 17 := by have := V.int.inj (of_decide_eq_true e); omega
        subst e17
        simp only [if_true] at k
        refine ⟨(by show 1 ≤ sizeLine; decide), fun x hx => ?_⟩
        have hb0 : BitsAt t (upd H x (.lst [nat 0])) B bs := hb.kept (Kept.new (ps := []) hx) (by simp) (by simp)
        have k0 := k.shift (Kept.new (o := .lst [nat 0]) hx)
        obtain ⟨dx, fs, e1, e2⟩ := hb0.meth (m := "number")
        refine ⟨_, rfl, B.p, dx, fs, rfl, e1, e2, B, bs, 3, rfl, by decide, hb0, k0.bind fun n bs1 v H1 hm hb1 kp1 hv k1 => ?_⟩
        cases hv
        have hn : n < 8 := bits_lt hm
        have hx1 : H1 x = some (.lst [nat 0]) := kp1.lst hb0 upd_same
        have q : ((3 : Int) + (n : Int)).toNat = n + 3 := by omega
        refine ⟨_, _, rfl, rfl, x, _, _, rfl, rfl, hx1, by omega, by omega, ?_, fun p hp => ?_⟩
        · rw [q]; show 1 * (n + 3) ≤ 2 ^ 24; omega
        · rw [q, rep_one]
          exact run_end (x := x) (H := H) hb1 hp k1
      · have e17 : ¬ sy = 17 := fun z => e (by rw [z]; exact decide_eq_true rfl)
        have e18 : sy = 18 := by omega
        subst e18
        simp only [if_true] at k
        refine ⟨(by show 1 ≤ sizeLine; decide), fun x hx => ?_⟩
        have hb0 : BitsAt t (upd H x (.lst [nat 0])) B bs := hb.kept (Kept.new (ps := []) hx) (by simp) (by simp)
        have k0 := k.shift (Kept.new (o := .lst [nat 0]) hx)
        obtain ⟨dx, fs, e1, e2⟩ := hb0.meth (m := "number")
        refine ⟨_, rfl, B.p, dx, fs, rfl, e1, e2, B, bs, 7, rfl, by decide, hb0, k0.bind fun n bs1 v H1 hm hb1 kp1 hv k1 => ?_⟩
        cases hv
        have hn : n < 128 := bits_lt hm
        have hx1 : H1 x = some (.lst [nat 0]) := kp1.lst hb0 upd_same
        have q : ((11 : Int) + (n : Int)).toNat = n + 11 := by omega
        refine ⟨_, _, rfl, rfl, x, _, _, rfl, rfl, hx1, by omega, by omega, ?_, fun p hp => ?_⟩
        · rw [q]; show 1 * (n + 11) ≤ 2 ^ 24; omega
        · rw [q, rep_one]
          exact run_end (x := x) (H := H) hb1 hp k1
/-! ### read_code_of_lengths -/
def spCofL (t : Ad) : Sp := fun vs H Q E => ∃ (B : Bi) (bs : List Bool), vs = [.ref B.p] ∧ BitsAt t H B bs ∧ Out t E B [] H (isCode t) Q (mCol' bs)
abbrev nCofL : List Str := ["bits", "told", "lengths", "symbol"]
theorem scCofL : FnScope nCofL ["bits"] (defScope sCofL) := ⟨rfl, rfl, rfl, by decide +kernel, rfl, by decide +kernel, by decide +kernel⟩
theorem sIx_take {n m : Nat} (h : m ≤ n) (d : Nat) : HT.sIx n d (some (m : Int)) = m := by
  show (if (m : Int) < 0 then ((m : Int) + (n : Int)).toNat else min (m : Int).toNat n) = m
  rw [if_neg (by omega), Int.toNat_natCast, Nat.min_eq_left h]
theorem cut_take (l : List Nat) (m : Nat) (h : m ≤ l.length) : cutV (natsV l) none (some (m : Int)) = natsV (l.take m) := by
  unfold cutV
  rw [natsV_len, sIx_take h]
  show ((natsV l).drop 0).take (m - 0) = _
  unfold natsV
  rw [List.drop_zero, Nat.sub_zero, List.map_take]
theorem order_lt : ∀ s ∈ Sn15.ORDER, s < 19 := by decide
/-- between two of the lengths' lengths -/
theorem sqT_or {K : PySem.W.Frag} {H : Hp} {a : Addr} {xs : List V} (h : (∀ H', SqT K H' a xs) ∨ H a = some (.tup xs)) : SqT K H a xs := by
  rcases h with h | h
  · exact h H
  · exact SqT.of h
def CofW (K : PySem.W.Frag) (t : Ad) (E : XK) (B : Bi) (H1 : Hp) (Q : VK) (la ta : Addr) (ord : List Nat) (v1 : Option V) (i : Nat) (σ : L2.St) (Hx : Hp) : Prop := ∃ (v3 : Option V) (l : List Nat) (bs : List Bool), σ = [some (.ref B.p), v1, some (.ref la), v3] ∧ Hx la = some (.lst (natsV l)) ∧ l.length = 19 ∧ (∀ n ∈ l, n ≤ 15) ∧
  BitsAt t Hx B bs ∧ Kept [B.p] H1 Hx ∧ H1 la = none ∧ ((∀ H', SqT K H' ta (natsV ord)) ∨ Hx ta = some (.tup (natsV ord))) ∧ Out t E B [] H1 (isCode t) Q ((setL (ord.drop i) l >>= fun c => Sn15.need (Sn15.good c) >>= fun _ => pure c) bs)
theorem ok_CofL {f : Addr} {fd : FuncData} (F : Fun K "read_code_of_lengths" "read_code_of_lengths" sCofL f fd) (T : Tx K mg t) (Gn : MethOk P w K mg base 2 t.CB "number" ["self", "width"] (spNumber t)) (Gc : DefOk P w K mg base 3 "code_of_lengths" ["lengths"] (spCol t)) :
    FnOk P w K mg base (CXe P w) 4 f fd ["bits"] (spCofL t) := by
  obtain ⟨oa, hO, hOs⟩ := T.kORDER
  refine F.okE scCofL (fun vs H Q E h => ?_) (fun cdv A outer s H vs Q E hr h => ?_)
  · obtain ⟨B, bs, rfl, _⟩ := h
    rfl
  · obtain ⟨B, bs, rfl, hb, k⟩ := h
    have hr2 : Room 2 _ := hr.mono (by decide)
    refine ⟨_, pss_cons (ps_set (i := 1) scCofL.nd rfl (Or.inl rfl) (pe_op op_add (pm Gn Lv.of T.cB hr2 (pv 0) (pa_cons pe_int pa_nil)) pe_int))
      (pss_cons (ps_setLc (i := 2) (own := [("symbol", 3)]) rfl scCofL.nd rfl rfl (sw_true rfl rfl rfl rfl) (pi_tup (pe_glob (v := .ref oa) (by rfl) hO rfl)) (by show BlkOk nCofL (defScope sCofL) _ _; exact blkOk_by (by decide +kernel))
        (fun _ _ _ _ _ => pg_name (i := 3) scCofL.nd rfl (Or.inl rfl)) (fun _ _ _ _ _ => pts_nil) (fun _ _ _ _ _ => pe_int))
      (pss_cons (ps_for Lv.of.own rfl (pi_tup (pe_slice (sl_tup.or sl_tupW) (pe_glob (v := .ref oa) (by rfl) hO rfl) po_none (po_some (pv 1)))) (pg_name (i := 3) scCofL.nd rfl (Or.inl rfl))
        (pss_one (ps_asg (pm Gn Lv.of T.cB hr2 (pv 0) (pa_cons pe_int pa_nil)) (pg_sub (pv 2) (pv 3) set_list))))
      (pss_one (ps_ret (pd Gc Lv.of hr (pa_cons (pv 2) pa_nil)))))), ?_⟩
    unfold mCol' at k
    obtain ⟨dx, fs, e1, e2⟩ := hb.meth (m := "number")
    refine ⟨_, rfl, B.p, dx, fs, rfl, e1, e2, B, bs, 4, rfl, by decide, hb, k.bind fun n bs1 v H1 hm hb1 kp1 hv k1 => ?_⟩
    cases hv
    have hn : n < 16 := bits_lt hm
    have q4 : (n : Int) + 4 = ((n + 4 : Nat) : Int) := by omega
    refine ⟨_, _, rfl, rfl, ?_⟩
    dsimp only
    rw [q4]
    have hol : Sn15.ORDER.length = 19 := rfl
    refine ⟨oa, rfl, ⟨_, hOs _⟩, fun la hla => lc_tup (K := K) (a := oa) (xs := natsV Sn15.ORDER) (fun i Hx => Hx la = some (.lst (natsV (List.replicate i 0))) ∧ Same H1 Hx) ⟨upd_same, same_new (Same.refl _) hla⟩ (fun i Hx _ _ => hOs _) ?_ ?_⟩
    · rintro i x Hx hx ⟨h1, h2⟩
      have hi : i < 19 := by have := (List.getElem?_eq_some_iff.mp hx).1; rw [natsV_len] at this; exact this
      refine ⟨rfl, yes_if ⟨_, h1, ?_, ?_, same_over h2 hla⟩⟩
      · rw [natsV_len, List.length_replicate]; exact Nat.lt_trans hi (by decide)
      · rw [upd_same, List.replicate_succ', natsV_app]; rfl
    · rintro Hx ⟨h1, h2⟩
      rw [natsV_len, hol] at h1
      have hbx := hb1.same h2
      have kx : Kept [B.p] H1 Hx := Kept.same h2 _
      have hlt : (Sn15.ORDER.take (n + 4)).length = n + 4 := by rw [List.length_take, hol]; omega
      by_cases hw : n + 4 = 19
      · refine ⟨_, rfl, _, rfl, .inr ⟨oa, _, rfl, hOs _, ⟨rfl, by rw [natsV_len, hol]; exact (sIx_take (by omega) _).trans hw⟩, oa, rfl, ⟨_, hOs _⟩, for_tup (K := K) (a := oa) (xs := natsV (Sn15.ORDER.take (n + 4))) (CofW K t E B H1 Q la oa (Sn15.ORDER.take (n + 4)) (some (nat (n + 4)))) ⟨none, List.replicate 19 0, bs1, rfl, h1, by simp, by simp, hbx, kx, hla, (.inl (by rw [hw]; exact hOs)), k1⟩ (fun i σ Hz _ ⟨_, _, _, _, _, _, _, _, kz, _, hS, _⟩ => sqT_or hS) ?_ ?_⟩⟩
        · rintro i x σ Hz hx ⟨v3, l, bs2, rfl, hl2, hlen2, h15, hb2, kz, nla, hS, k2⟩
          obtain ⟨sym, hsym, rfl⟩ := get_natsV hx
          have hil : i < (Sn15.ORDER.take (n + 4)).length := (List.getElem?_eq_some_iff.mp hsym).1
          have hs19 : sym < 19 := order_lt sym (List.mem_of_mem_take (List.mem_of_getElem? hsym))
          rw [List.drop_eq_getElem_cons hil] at k2
          have hsy : (Sn15.ORDER.take (n + 4))[i] = sym := by rw [List.getElem?_eq_getElem hil] at hsym; exact Option.some.inj hsym
          rw [hsy] at k2
          have k3 : Out t E B [] H1 (isCode t) Q ((bits 3 >>= fun q => setL ((Sn15.ORDER.take (n + 4)).drop (i + 1)) (l.set sym q) >>= fun c => Sn15.need (Sn15.good c) >>= fun _ => pure c) bs2) := by
            have e : (setL (sym :: (Sn15.ORDER.take (n + 4)).drop (i + 1)) l >>= fun c => Sn15.need (Sn15.good c) >>= fun _ => (pure c : D Sn15.Code)) = (bits 3 >>= fun q => setL ((Sn15.ORDER.take (n + 4)).drop (i + 1)) (l.set sym q) >>= fun c => Sn15.need (Sn15.good c) >>= fun _ => pure c) := by
              show ((bits 3 >>= fun q => setL _ (l.set sym q)) >>= _) = _
              rw [d_assoc]
            rw [← e]; exact k2
          obtain ⟨dx2, fs2, e3, e4⟩ := hb2.meth (m := "number")
          refine ⟨_, rfl, B.p, dx2, fs2, rfl, e3, e4, B, bs2, 3, rfl, by decide, hb2, (k3.shift kz).bind fun q bs3 v H3 hm hb3 kp3 hv _ => ?_⟩
          cases hv
          have hq : q < 8 := bits_lt hm
          have hl3 := kp3.lst hb2 hl2
          have nlp : B.p ≠ la := by
            obtain ⟨dz, iz, z1, _⟩ := hb3
            exact ne_of z1 hl3 (by intro z; cases z)
          have nlo : B.o ≠ la := by
            obtain ⟨dz, iz, _, z2, _⟩ := hb1
            exact ne_of_none z2 nla
          refine ⟨_, rfl, _, rfl, la, _, _, sym, rfl, rfl, hl3, ixN_nat (by rw [natsV_len, hlen2]; exact hs19), some (nat sym), l.set sym q, bs3, rfl, ?_, by rw [List.length_set]; exact hlen2, fun m hm => ?_, ?_, ?_, nla, ?_, k3.next hm⟩
          · rw [upd_same, natsV_set]
          · rcases List.mem_or_eq_of_mem_set hm with z | z
            · exact h15 m z
            · omega
          · exact hb3.kept (ps := [la]) (Kept.put (by simp)) (by simpa using nlp) (by simpa using nlo)
          · intro b o e nb
            have := kp3 b o (kz b o e nb) nb
            rw [upd_ne (ne_of_none e nla)]
            exact this
          · rcases hS with hS | hS
            · exact .inl hS
            · refine .inr ?_
              have nT : oa ≠ B.p := by
                obtain ⟨dz, iz, z1, _⟩ := hb2
                exact ne_of hS z1 (by intro z; cases z)
              rw [upd_ne (ne_of hS hl2 (by intro z; cases z))]
              exact kp3 _ _ hS (by simpa using nT)
        · rintro σ Hz ⟨v3, l, bs2, rfl, hl2, hlen2, h15, hb2, kz, nla, hS, k2⟩
          rw [natsV_len, List.drop_length] at k2
          have k3 : Out t E B [] H1 (isCode t) Q ((Sn15.need (Sn15.good l) >>= fun _ => (pure l : D Sn15.Code)) bs2) := k2
          obtain ⟨kt, kf⟩ := k3.need
          refine ⟨_, rfl, la, l, rfl, hl2, h15, by omega, fun hg a H4 hc sm => ?_, fun hg => kf hg⟩
          exact (kt hg).pure' (hb2.same sm) (kz.trans (Kept.same sm _)) ⟨a, rfl, hc.toAt⟩
      · refine ⟨_, rfl, _, rfl, .inl ⟨oa, _, rfl, hOs _, fun z => hw ?_, fun p hp => ⟨p, rfl, ⟨_, SqT.of upd_same⟩, for_tup (K := K) (a := p) (xs := natsV (Sn15.ORDER.take (n + 4))) (CofW K t E B H1 Q la p (Sn15.ORDER.take (n + 4)) (some (nat (n + 4)))) ⟨none, List.replicate 19 0, bs1, rfl, (by rw [upd_ne (ne_of_none h1 hp)]; exact h1), by simp, by simp, (hbx.kept (Kept.new (ps := []) hp) (by simp) (by simp)), (kx.trans (Kept.new hp)), hla, (.inr (by rw [upd_same, cut_take _ _ (by rw [hol]; omega)])), k1⟩ (fun i σ Hz _ ⟨_, _, _, _, _, _, _, _, kz, _, hS, _⟩ => sqT_or hS) ?_ ?_⟩⟩⟩
        · have := z.2
          rw [natsV_len, hol] at this
          exact (sIx_take (n := 19) (m := n + 4) (by omega) 19).symm.trans this
        · rintro i x σ Hz hx ⟨v3, l, bs2, rfl, hl2, hlen2, h15, hb2, kz, nla, hS, k2⟩
          obtain ⟨sym, hsym, rfl⟩ := get_natsV hx
          have hil : i < (Sn15.ORDER.take (n + 4)).length := (List.getElem?_eq_some_iff.mp hsym).1
          have hs19 : sym < 19 := order_lt sym (List.mem_of_mem_take (List.mem_of_getElem? hsym))
          rw [List.drop_eq_getElem_cons hil] at k2
          have hsy : (Sn15.ORDER.take (n + 4))[i] = sym := by rw [List.getElem?_eq_getElem hil] at hsym; exact Option.some.inj hsym
          rw [hsy] at k2
          have k3 : Out t E B [] H1 (isCode t) Q ((bits 3 >>= fun q => setL ((Sn15.ORDER.take (n + 4)).drop (i + 1)) (l.set sym q) >>= fun c => Sn15.need (Sn15.good c) >>= fun _ => pure c) bs2) := by
            have e : (setL (sym :: (Sn15.ORDER.take (n + 4)).drop (i + 1)) l >>= fun c => Sn15.need (Sn15.good c) >>= fun _ => (pure c : D Sn15.Code)) = (bits 3 >>= fun q => setL ((Sn15.ORDER.take (n + 4)).drop (i + 1)) (l.set sym q) >>= fun c => Sn15.need (Sn15.good c) >>= fun _ => pure c) := by
              show ((bits 3 >>= fun q => setL _ (l.set sym q)) >>= _) = _
              rw [d_assoc]
            rw [← e]; exact k2
          obtain ⟨dx2, fs2, e3, e4⟩ := hb2.meth (m := "number")
          refine ⟨_, rfl, B.p, dx2, fs2, rfl, e3, e4, B, bs2, 3, rfl, by decide, hb2, (k3.shift kz).bind fun q bs3 v H3 hm hb3 kp3 hv _ => ?_⟩
          cases hv
          have hq : q < 8 := bits_lt hm
          have hl3 := kp3.lst hb2 hl2
          have nlp : B.p ≠ la := by
            obtain ⟨dz, iz, z1, _⟩ := hb3
            exact ne_of z1 hl3 (by intro z; cases z)
          have nlo : B.o ≠ la := by
            obtain ⟨dz, iz, _, z2, _⟩ := hb1
            exact ne_of_none z2 nla
          refine ⟨_, rfl, _, rfl, la, _, _, sym, rfl, rfl, hl3, ixN_nat (by rw [natsV_len, hlen2]; exact hs19), some (nat sym), l.set sym q, bs3, rfl, ?_, by rw [List.length_set]; exact hlen2, fun m hm => ?_, ?_, ?_, nla, ?_, k3.next hm⟩
          · rw [upd_same, natsV_set]
          · rcases List.mem_or_eq_of_mem_set hm with z | z
            · exact h15 m z
            · omega
          · exact hb3.kept (ps := [la]) (Kept.put (by simp)) (by simpa using nlp) (by simpa using nlo)
          · intro b o e nb
            have := kp3 b o (kz b o e nb) nb
            rw [upd_ne (ne_of_none e nla)]
            exact this
          · rcases hS with hS | hS
            · exact .inl hS
            · refine .inr ?_
              have nT : p ≠ B.p := by
                obtain ⟨dz, iz, z1, _⟩ := hb2
                exact ne_of hS z1 (by intro z; cases z)
              rw [upd_ne (ne_of hS hl2 (by intro z; cases z))]
              exact kp3 _ _ hS (by simpa using nT)
        · rintro σ Hz ⟨v3, l, bs2, rfl, hl2, hlen2, h15, hb2, kz, nla, hS, k2⟩
          rw [natsV_len, List.drop_length] at k2
          have k3 : Out t E B [] H1 (isCode t) Q ((Sn15.need (Sn15.good l) >>= fun _ => (pure l : D Sn15.Code)) bs2) := k2
          obtain ⟨kt, kf⟩ := k3.need
          refine ⟨_, rfl, la, l, rfl, hl2, h15, by omega, fun hg a H4 hc sm => ?_, fun hg => kf hg⟩
          exact (kt hg).pure' (hb2.same sm) (kz.trans (Kept.same sm _)) ⟨a, rfl, hc.toAt⟩
end
end Lk
end
section
set_option Elab.async false
set_option linter.all false
set_option maxRecDepth 100000
set_option maxHeartbeats 2000000
namespace Lk
open PySem PySem.Spec PyProof.Rows L2
open Sn15 (D bits bitsOf symbol Px)

/-! ### read_lengths: the mathematics -/
theorem lengths_run (c : Sn15.Code) (size n most last : Nat) (l : List Nat) (h : l.length < size) (hm : 0 < most) : Sn15.lengths c size (n + 1) most last l = (symbol c >>= fun s => if s < 16 then Sn15.lengths c size n (most - 1) (if s = 0 then last else s) (l ++ [s]) else
    (mRun s last >>= fun r => Sn15.need (decide (l.length + r.length ≤ size)) >>= fun _ => Sn15.lengths c size n (most - 1) last (l ++ r))) := by
  rw [lengths_step c size n most last l h hm]
  congr 1
  funext s
  by_cases h16 : s < 16
  · rw [if_pos h16, if_pos h16]
  · rw [if_neg h16, if_neg h16]
    unfold mRun
    rw [d_assoc]
    simp only [d_pure_bind, List.length_replicate]
theorem mRun_ok {s last : Nat} {r : List Nat} {bs bs' : List Bool} (hl : last ≤ 15) (h : mRun s last bs = some (r, bs')) : (∀ n ∈ r, n ≤ 15) ∧ r.length ≤ 140 := by
  unfold mRun at h
  obtain ⟨k, bs1, hk, h⟩ := bind_some h
  cases h
  have hk2 : k < 128 := by
    split at hk
    · have := bits_lt hk; omega
    · split at hk
      · have := bits_lt hk; omega
      · have := bits_lt hk; omega
  refine ⟨fun n hn => ?_, ?_⟩
  · rw [List.eq_of_mem_replicate hn]
    split <;> omega
  · rw [List.length_replicate]
    split <;> omega
theorem mCol'_len {c : Sn15.Code} {bs bs' : List Bool} (h : mCol' bs = some (c, bs')) : c.length = 19 := by
  unfold mCol' at h
  obtain ⟨n, bs1, _, h⟩ := bind_some h
  obtain ⟨d, bs2, hd, h⟩ := bind_some h
  obtain ⟨_, bs3, _, h⟩ := bind_some h
  cases h
  exact (setL_ok _ _ _ _ _ (by simp) hd).1.trans (by simp)
theorem mMost_le {size m : Nat} {bs bs' : List Bool} (h : mMost size bs = some (m, bs')) : m ≤ size := by
  unfold mMost at h
  obtain ⟨u, bs1, _, h⟩ := bind_some h
  split at h
  · cases h; exact Nat.le_refl _
  · obtain ⟨k, bs2, _, h⟩ := bind_some h
    obtain ⟨q, bs3, _, h⟩ := bind_some h
    obtain ⟨_, bs4, hn, h⟩ := bind_some h
    cases h
    exact of_decide_eq_true (need_some hn).1
def mLens (size : Nat) : D Sn15.Code := do
  let c ← mCol'
  let most ← mMost size
  Sn15.lengths c size (size + 1) most 8 []
theorem mLens_eq (size : Nat) : mLengths size = mLens size := by unfold mLengths mLens; rw [mCol_eq]
def isLens (size : Nat) : Sn15.Code → V → Hp → Prop := fun l v H => ∃ (a : Addr) (l0 : List Nat), v = .ref a ∧ H a = some (.lst (natsV l0)) ∧ l0.length ≤ size ∧ l = l0 ++ List.replicate (size - l0.length) 0 ∧ ∀ n ∈ l0, n ≤ 15
/-- between two symbols -/
def LensW (t : Ad) (E : XK) (B : Bi) (H2 : Hp) (Q : VK) (size : Nat) (c : Sn15.Code) (ca la : Addr) (m : Nat) (σ : L2.St) (Hx : Hp) : Prop := ∃ (last : Nat) (l : List Nat) (bs : List Bool) (v6 : Option V),
  σ = [some (.ref B.p), some (nat size), some (.ref ca), some (nat m), some (.ref la), some (nat last), v6] ∧ Hx la = some (.lst (natsV l)) ∧ (∀ n ∈ l, n ≤ 15) ∧ last ≤ 15 ∧ BitsAt t Hx B bs ∧ Kept [B.p] H2 Hx ∧ l.length ≤ size + 200 ∧
  (l.length ≤ size → ∃ n, m < n ∧ Out t E B [] H2 (isLens size) Q (Sn15.lengths c size n m last l bs)) ∧ (size < l.length → ∀ H', E (.ref t.CN) none H')
/-- a new list at la is written: the bits stay -/
theorem bits_put {t : Ad} {H2 Hx : Hp} {B : Bi} {bs bs2 : List Bool} {la : Addr} {o : HO} (hb : BitsAt t Hx B bs) (hb2 : BitsAt t H2 B bs2) (nla : H2 la = none) : BitsAt t (upd Hx la o) B bs := by
  obtain ⟨dz, iz, z1, z2, _⟩ := hb2
  exact hb.kept (ps := [la]) (Kept.put (by simp)) (by simpa using ne_of_none z1 nla) (by simpa using ne_of_none z2 nla)
theorem kept_put {H2 Hx : Hp} {ps : List Addr} {la : Addr} {o : HO} (k : Kept ps H2 Hx) (nla : H2 la = none) : Kept ps H2 (upd Hx la o) := fun b u e n => by
  rw [upd_ne (ne_of_none e nla)]; exact k b u e n

section
variable {P : Program} {w : World} {K : PySem.W.Frag} {mg : Str → Option Value} {base : Heap} {t : Ad}
def spLens (t : Ad) : Sp := fun vs H Q E => ∃ (B : Bi) (bs : List Bool) (size : Nat), vs = [.ref B.p, nat size] ∧ size ≤ 3000 ∧ BitsAt t H B bs ∧ Out t E B [] H (isLens size) Q (mLens size bs)
theorem scLens : FnScope ["bits", "size", "code", "left", "lengths", "last", "symbol"] ["bits", "size"] (defScope sLens) := ⟨rfl, rfl, rfl, by decide +kernel, rfl, by decide +kernel, by decide +kernel⟩
theorem ok_Lens {f : Addr} {fd : FuncData} (F : Fun K "read_lengths" "read_lengths" sLens f fd) (T : Tx K mg t) (Gx : MethOk P w K mg base 2 t.CC "next_symbol" ["self", "bits"] (spNext t)) (Gc : DefOk P w K mg base 4 "read_code_of_lengths" ["bits"] (spCofL t))
    (Gm : DefOk P w K mg base 3 "read_most_symbols" ["bits", "size"] (spMost t)) (Gr : DefOk P w K mg base 3 "read_run" ["bits", "symbol", "last"] (spRun t)) : FnOk P w K mg base (CXe P w) 5 f fd ["bits", "size"] (spLens t) := by
  obtain ⟨uL, hL, rL⟩ := T.kLONGEST
  refine F.okE scLens (fun vs H Q E h => ?_) (fun cdv A outer s H vs Q E hr h => ?_)
  · obtain ⟨B, bs, size, rfl, _⟩ := h
    rfl
  · obtain ⟨B, bs, size, rfl, hsz, hb, k⟩ := h
    have hr3 : Room 3 _ := hr.mono (by decide)
    have hr2 : Room 2 _ := hr.mono (by decide)
    refine ⟨_, pss_cons (ps_set (i := 2) scLens.nd rfl (Or.inl rfl) (pd Gc Lv.of hr (pa_cons (pv 0) pa_nil)))
      (pss_cons (ps_set (i := 3) scLens.nd rfl (Or.inl rfl) (pd Gm Lv.of hr3 (pa_cons (pv 0) (pa_cons (pv 1) pa_nil))))
      (pss_cons (ps_if (PW.pt (pw_and (pt_cmp (pc_notN (pe_fld (pv 2) rfl))) (pw_and1 (pt_cmpR op_le (pe_fld (pv 2) rfl) (pe_glob (by rfl) hL rL) (nomark _))))) (pss_one (ps_ret (pe_op op_rep (pe_lst (pa_cons (pe_fld (pv 2) rfl) pa_nil)) (pv 3)))) pss_nil)
      (pss_cons (ps_set (i := 4) scLens.nd rfl (Or.inl rfl) (pe_lst pa_nil))
      (pss_cons (ps_set (i := 5) scLens.nd rfl (Or.inl rfl) pe_int)
      (pss_cons (ps_while Lv.of.own (PW.pt (pw_and (pt_cmpR op_gt (pv 3) pe_int (nomark _)) (pw_and1 (pt_cmpR op_lt (pe_callB call_len_seq (by rfl) T.len PySem.boot_len (pa_cons (pv 4) pa_nil)) (pv 1) (nomark _)))))
        (pss_cons (ps_aug (i := 3) scLens.nd rfl (Or.inl rfl) pe_int ip_sub)
        (pss_cons (ps_set (i := 6) scLens.nd rfl (Or.inl rfl) (pm Gx Lv.of T.cC hr2 (pv 2) (pa_cons (pv 0) pa_nil)))
        (pss_one (ps_if (pt_cmpR op_gt (pv 6) (pe_glob (by rfl) hL rL) (nomark _))
          (pss_one (ps_expr (pe_bm PySem.F.plainAttrs_list PySem.F.slot_list_extend PySem.F.type_list_extend mt_extend (pv 4) (pa_cons (pd Gr Lv.of hr3 (pa_cons (pv 0) (pa_cons (pv 6) (pa_cons (pv 5) pa_nil)))) pa_nil))))
          (pss_cons (ps_expr (pe_bm PySem.F.plainAttrs_list PySem.F.slot_list_append PySem.F.type_list_append mt_append (pv 4) (pa_cons (pv 6) pa_nil)))
            (pss_one (ps_set (i := 5) scLens.nd rfl (Or.inl rfl) (pe_ifExp (pt_cmpR op_gt (pv 6) pe_int (nomark _)) (pv 6) (pv 5))))))))))
      (pss_cons (ps_if (pt_cmpR op_gt (pe_callB call_len_seq (by rfl) T.len PySem.boot_len (pa_cons (pv 4) pa_nil)) (pv 1) (nomark _)) (pss_one (ps_raise Lv.of (by rfl) T.gN T.xN)) pss_nil)
      (pss_one (ps_ret (pv 4))))))))), ?_⟩
    unfold mLens at k
    refine ⟨_, rfl, B, bs, rfl, hb, k.bind fun c bs1 v H1 hm hb1 kp1 hv k1 => ?_⟩
    obtain ⟨ca, rfl, hc1⟩ := hv
    have hc19 := mCol'_len hm
    refine ⟨_, rfl, _, rfl, B, bs1, size, rfl, hb1, k1.bind fun most bs2 v2 H2 hm2 hb2 kp2 hv2 k2 => ?_⟩
    cases hv2
    have hms := mMost_le hm2
    have hc2 := hc1.kept hb1 kp2
    obtain ⟨cdx, wa, was, words, sole, c1, c2, c3, c4⟩ := id hc2
    by_cases hq : ∃ sy, sole = some sy ∧ sy ≤ 15
    · obtain ⟨sy, rfl, hsy⟩ := hq
      refine ⟨_, rfl, ca, t.CC, cdx, _, _, rfl, c1, T.cC, T.nS, codeF_s _ _, _, rfl, iteT ?_⟩
      refine ⟨_, rfl, ca, t.CC, cdx, _, _, rfl, c1, T.cC, T.nS, codeF_s _ _, _, _, rfl, rfl, _, rfl, ?_⟩
      have e1 : decide (((sy : Nat) : Int) ≤ 15) = true := decide_eq_true (by omega)
      rw [e1]
      refine iteT ?_
      refine ⟨_, rfl, ca, t.CC, cdx, _, _, rfl, c1, T.cC, T.nS, codeF_s _ _, (by show 1 ≤ sizeLine; decide), fun x hx => ⟨_, rfl, x, _, _, rfl, rfl, upd_same, by omega, by omega, ?_, fun p hp => ?_⟩⟩
      · rw [Int.toNat_natCast]
        show 1 * most ≤ 2 ^ 24
        omega
      · rw [Int.toNat_natCast]
        show Q (.ref p) (upd (upd H2 x (.lst [nat sy])) p (.lst (List.replicate most [nat sy]).flatten))
        rw [rep_one]
        have kk := lengths_sole c4.1 (by omega : sy < 16) size (size + 1) most 8 [] (by omega) (by simpa using hms)
        rw [kk] at k2
        have sm : Same H2 (upd (upd H2 x (.lst [nat sy])) p (.lst (natsV (List.replicate most sy)))) := same_new (same_new (Same.refl _) hx) hp
        refine k2.pure' (hb2.same sm) (Kept.same sm _) ⟨p, List.replicate most sy, rfl, upd_same, by rw [List.length_replicate]; exact hms, ?_, fun n hn => by rw [List.eq_of_mem_replicate hn]; exact hsy⟩
        simp
    · have tst : ∀ (R : Bool → Hp → Prop), R false H2 → (tAnd (tB (tNotN (tFld K (tVar 2) "sole"))) (tTest (tOp (rI0 fun i j => .bl (decide (i ≤ j))) (tFld K (tVar 2) "sole") (tC (.int 15))))) [some (.ref B.p), some (nat size), some (.ref ca), some (nat most), none, none, none] H2 R := fun R hR => by
        cases sole with
        | none => exact ⟨_, rfl, ca, t.CC, cdx, _, _, rfl, c1, T.cC, T.nS, codeF_s _ _, _, rfl, iteF hR⟩
        | some sy =>
          have h15 : ¬ sy ≤ 15 := fun z => hq ⟨sy, rfl, z⟩
          refine ⟨_, rfl, ca, t.CC, cdx, _, _, rfl, c1, T.cC, T.nS, codeF_s _ _, _, rfl, iteT ?_⟩
          refine ⟨_, rfl, ca, t.CC, cdx, _, _, rfl, c1, T.cC, T.nS, codeF_s _ _, _, _, rfl, rfl, _, rfl, ?_⟩
          have e1 : decide (((sy : Nat) : Int) ≤ 15) = false := decide_eq_false (by omega)
          rw [e1]
          exact hR
      refine tst _ (iteF ?_)
      refine ⟨Nat.zero_le _, fun la hla => ?_⟩
      have sm0 : Same H2 (upd H2 la (.lst [])) := same_new (Same.refl _) hla
      refine ⟨LensW t E B H2 Q size c ca la, ⟨most, 8, [], bs2, none, rfl, upd_same, fun n hn => absurd hn (by simp), by decide, hb2.same sm0, Kept.same sm0 _, Nat.zero_le _, fun _ => ⟨size + 1, by omega, k2⟩, fun z => absurd z (by simp)⟩, ?_⟩
      rintro m σ Hx ⟨last, l, bs3, v6, rfl, hl3, h15, hlast, hb3, kp3, hlen, kl, kb⟩
      refine ⟨_, rfl, _, _, rfl, rfl, _, rfl, ite2 (fun e1 => ?_) (fun e1 => ?_)⟩
      · have hm0 : 0 < m := by have := of_decide_eq_true e1; omega
        refine ⟨_, rfl, la, _, rfl, .inl (SqL.of hl3), _, rfl, _, _, rfl, rfl, _, rfl, ite2 (fun e2 => ?_) (fun e2 => ?_)⟩
        · have hls : l.length < size := by have := of_decide_eq_true e2; rw [natsV_len] at this; omega
          obtain ⟨n, hn, kn⟩ := kl (by omega)
          obtain ⟨n', rfl⟩ : ∃ n', n = n' + 1 := ⟨n - 1, by omega⟩
          rw [lengths_run c size n' m last l hls hm0] at kn
          refine ⟨fun σ' H' => ∃ m', m' < m ∧ LensW t E B H2 Q size c ca la m' σ' H', fun _ _ h => h, ?_⟩
          have qm : (m : Int) - 1 = ((m - 1 : Nat) : Int) := by omega
          refine ⟨_, rfl, _, _, rfl, rfl, ?_⟩
          dsimp only
          rw [qm]
          have hc3 := hc2.kept hb2 kp3
          obtain ⟨ddx, wa', was', words', sole', d1, _⟩ := id hc3
          refine ⟨_, rfl, ca, ddx, _, rfl, d1, codeF_no _ _ (by decide +kernel) (by decide +kernel), _, rfl, B, bs3, ca, c, rfl, hc3, hb3, (kn.shift kp3).bind fun sy bs4 v4 H4 hm4 hb4 kp4 hv4 _ => ?_⟩
          cases hv4
          have k4 := kn.next hm4
          have hs19 : sy < 19 := by rw [← hc19]; exact symbol_lt hm4
          have hl4 := kp4.lst hb3 hl3
          have kp34 := kp3.trans kp4
          refine ⟨_, rfl, _, _, rfl, rfl, _, rfl, ite2 (fun e5 => ?_) (fun e5 => ?_)⟩
          · have h16 : 15 < sy := by have := of_decide_eq_true e5; omega
            rw [if_neg (by omega)] at k4
            refine ⟨_, rfl, .inl ⟨rfl, _, SqL.of hl4⟩, _, rfl, _, rfl, _, rfl, B, bs4, sy, last, rfl, h16, hs19, hb4, (k4.shift kp34).bind fun r bs5 v5 H5 hm5 hb5 kp5 hv5 _ => ?_⟩
            obtain ⟨ra, rfl, hra⟩ := hv5
            have k5 := k4.next hm5
            obtain ⟨hr15, hrl⟩ := mRun_ok hlast hm5
            have hl5 := kp5.lst hb4 hl4
            refine ⟨la, ra, _, _, rfl, rfl, hl5, hra, ?_, m - 1, by omega, last, l ++ r, bs5, some (nat sy), rfl, by rw [upd_same, natsV_app], fun n hn => ?_, hlast, bits_put hb5 hb2 hla, kept_put (kp34.trans kp5) hla, by rw [List.length_append]; omega, fun hle => ?_, fun hgt => ?_⟩
            · rw [natsV_len, natsV_len]
              show l.length + r.length ≤ 2 ^ 24
              omega
            · rcases List.mem_append.mp hn with z | z
              · exact h15 n z
              · exact hr15 n z
            · exact ⟨n', by omega, k5.need.1 (decide_eq_true (by rw [← List.length_append]; exact hle))⟩
            · exact k5.need.2 (decide_eq_false (by rw [← List.length_append]; omega))
          · have h16 : sy < 16 := by
              have : ¬ (15 : Int) < (sy : Int) := fun z => e5 (decide_eq_true z)
              omega
            rw [if_pos h16] at k4
            have go : ∀ lst : Nat, lst = (if sy = 0 then last else sy) → ∃ m', m' < m ∧ LensW t E B H2 Q size c ca la m' [some (.ref B.p), some (nat size), some (.ref ca), some (nat (m - 1)), some (.ref la), some (nat lst), some (nat sy)] (upd H4 la (.lst (natsV l ++ [nat sy]))) := by
              intro lst hlst
              refine ⟨m - 1, by omega, lst, l ++ [sy], bs4, some (nat sy), rfl, by rw [upd_same, natsV_app]; rfl, fun n hn => ?_, ?_, bits_put hb4 hb2 hla, kept_put kp34 hla, by simp; omega, fun hle => ⟨n', by omega, ?_⟩, fun hgt => ?_⟩
              · rcases List.mem_append.mp hn with z | z
                · exact h15 n z
                · rw [List.mem_singleton.mp z]; omega
              · rw [hlst]; split <;> omega
              · rw [hlst]; exact k4
              · rw [List.length_append] at hgt
                simp at hgt
                omega
            refine ⟨_, rfl, .inl ⟨rfl, _, SqL.of hl4⟩, _, rfl, la, _, _, rfl, rfl, hl4, ?_, ?_⟩
            · rw [natsV_len]
              exact Nat.lt_of_le_of_lt (by omega : l.length ≤ 3000) (by decide)
            · refine ⟨_, rfl, _, _, rfl, rfl, _, rfl, ite2 (fun e6 => ?_) (fun e6 => ?_)⟩
              · have : 0 < sy := by have := of_decide_eq_true e6; omega
                exact ⟨_, rfl, go sy (by rw [if_neg (by omega)])⟩
              · have : sy = 0 := by
                  have : ¬ (0 : Int) < (sy : Int) := fun z => e6 (decide_eq_true z)
                  omega
                exact ⟨_, rfl, go last (by rw [if_pos this])⟩
        · have hge : size ≤ l.length := by
            have : ¬ ((natsV l).length : Int) < (size : Int) := fun z => e2 (decide_eq_true z)
            rw [natsV_len] at this
            omega
          have hend : l.length ≤ size → ∃ q, Sn15.lengths c size q m last l bs3 = some (l ++ List.replicate (size - l.length) 0, bs3) ∧ Out t E B [] H2 (isLens size) Q (Sn15.lengths c size q m last l bs3) := fun hle => by
            obtain ⟨n, hn, kn⟩ := kl hle
            obtain ⟨n', rfl⟩ : ∃ n', n = n' + 1 := ⟨n - 1, by omega⟩
            exact ⟨n' + 1, by rw [lengths_end c size n' m last l (.inl hge)]; rfl, kn⟩
          refine ⟨_, rfl, la, _, rfl, .inl (SqL.of hl3), _, rfl, _, _, rfl, rfl, _, rfl, ite2 (fun e3 => ?_) (fun e3 => ?_)⟩
          · exact kb (by have := of_decide_eq_true e3; rw [natsV_len] at this; omega) _
          · have hle : l.length ≤ size := by
              have : ¬ (size : Int) < ((natsV l).length : Int) := fun z => e3 (decide_eq_true z)
              rw [natsV_len] at this
              omega
            obtain ⟨q, hq, kq⟩ := hend hle
            rw [hq] at kq
            exact ⟨_, rfl, kq _ _ hb3 kp3 ⟨la, l, rfl, hl3, hle, rfl, h15⟩⟩
      · have hm0 : m = 0 := by
          have : ¬ (0 : Int) < (m : Int) := fun z => e1 (decide_eq_true z)
          omega
        refine iteF ?_
        have hend : l.length ≤ size → ∃ q, Sn15.lengths c size q m last l bs3 = some (l ++ List.replicate (size - l.length) 0, bs3) ∧ Out t E B [] H2 (isLens size) Q (Sn15.lengths c size q m last l bs3) := fun hle => by
          obtain ⟨n, hn, kn⟩ := kl hle
          obtain ⟨n', rfl⟩ : ∃ n', n = n' + 1 := ⟨n - 1, by omega⟩
          exact ⟨n' + 1, by rw [lengths_end c size n' m last l (.inr hm0)]; rfl, kn⟩
        refine ⟨_, rfl, la, _, rfl, .inl (SqL.of hl3), _, rfl, _, _, rfl, rfl, _, rfl, ite2 (fun e3 => ?_) (fun e3 => ?_)⟩
        · exact kb (by have := of_decide_eq_true e3; rw [natsV_len] at this; omega) _
        · have hle : l.length ≤ size := by
            have : ¬ (size : Int) < ((natsV l).length : Int) := fun z => e3 (decide_eq_true z)
            rw [natsV_len] at this
            omega
          obtain ⟨q, hq, kq⟩ := hend hle
          rw [hq] at kq
          exact ⟨_, rfl, kq _ _ hb3 kp3 ⟨la, l, rfl, hl3, hle, rfl, h15⟩⟩
/-! ### read_short_code -/
def isCodeF (t : Ad) (H0 : Hp) : Sn15.Code → V → Hp → Prop := fun c v H => ∃ a, v = .ref a ∧ CodeNew H0 t H a c
theorem dom_of {t : Ad} {H H' : Hp} {B : Bi} {bs : List Bool} (k : Kept [B.p] H H') (hb : BitsAt t H' B bs) : ∀ x, H' x = none → H x = none := fun x hx => by
  obtain ⟨dx, i, z, _⟩ := hb
  exact k.free hx (by simpa using (ne_of_none z hx).symm)
def spShort (t : Ad) : Sp := fun vs H Q E => ∃ (B : Bi) (bs : List Bool) (size : Nat), vs = [.ref B.p, nat size] ∧ BitsAt t H B bs ∧ Out t E B [] H (isCodeF t H) Q (mShort size bs)
theorem scShort : FnScope ["bits", "size", "two", "first_width", "first", "second"] ["bits", "size"] (defScope sShort) := ⟨rfl, rfl, rfl, by decide +kernel, rfl, by decide +kernel, by decide +kernel⟩
theorem ok_Short {f : Addr} {fd : FuncData} (F : Fun K "read_short_code" "read_short_code" sShort f fd) (T : Tx K mg t) (Gb : MethOk P w K mg base 1 t.CB "bit" ["self"] (spBit t)) (Gn : MethOk P w K mg base 2 t.CB "number" ["self", "width"] (spNumber t))
    (G : MakeOk P w K mg base 1 t.CC "Code" ["self", "words", "sole"] (spCInit t)) : FnOk P w K mg base (CXe P w) 3 f fd ["bits", "size"] (spShort t) := by
  refine F.okE scShort (fun vs H Q E h => ?_) (fun cdv A outer s H vs Q E hr h => ?_)
  · obtain ⟨B, bs, size, rfl, _⟩ := h
    rfl
  · obtain ⟨B, bs, size, rfl, hb, k⟩ := h
    have hr1 : Room 1 _ := hr.mono (by decide)
    refine ⟨_, pss_cons (ps_set (i := 2) scShort.nd rfl (Or.inl rfl) (pm0 Gb Lv.of T.cB hr1 (pv 0)))
      (pss_cons (ps_set (i := 3) scShort.nd rfl (Or.inl rfl) (pe_ifExp (pt_cmpR op_eq (pm0 Gb Lv.of T.cB hr1 (pv 0)) pe_int (nomark _)) pe_int pe_int))
      (pss_cons (ps_set (i := 4) scShort.nd rfl (Or.inl rfl) (pm Gn Lv.of T.cB hr (pv 0) (pa_cons (pv 3) pa_nil)))
      (pss_cons (ps_if (pt_cmpR op_ge (pv 4) (pv 1) (nomark _)) (pss_one (ps_raise Lv.of (by rfl) T.gN T.xN)) pss_nil)
      (pss_cons (ps_if (pt_cmpR op_eq (pv 2) pe_int (nomark _)) (pss_one (ps_ret (pmk G Lv.of hr (pa_cons (pe_lst (pa_cons (pe_lst pa_nil) (pa_cons (pe_lst (pa_cons (pv 4) pa_nil)) pa_nil))) (pa_cons (pv 4) pa_nil))))) pss_nil)
      (pss_cons (ps_set (i := 5) scShort.nd rfl (Or.inl rfl) (pm Gn Lv.of T.cB hr (pv 0) (pa_cons pe_int pa_nil)))
      (pss_cons (ps_if (PW.pt (pw_or (pt_cmpR op_ge (pv 5) (pv 1) (nomark _)) (pw_or1 (pt_cmpR op_eq (pv 5) (pv 4) (nomark _))))) (pss_one (ps_raise Lv.of (by rfl) T.gN T.xN)) pss_nil)
      (pss_one (ps_ret (pmk G Lv.of hr (pa_cons (pe_lst (pa_cons (pe_lst pa_nil) (pa_cons (pe_lst (pa_cons (pe_callB (call_min2 rfl) (by rfl) T.min PyProof.Rows.boot_min (pa_cons (pv 4) (pa_cons (pv 5) pa_nil))) (pa_cons (pe_callB (call_max2 rfl) (by rfl) T.max PyProof.Rows.boot_max (pa_cons (pv 4) (pa_cons (pv 5) pa_nil))) pa_nil))) pa_nil))) (pa_cons pe_non pa_nil))))))))))), ?_⟩
    unfold mShort at k
    obtain ⟨dx, fs, e1, e2⟩ := hb.meth (m := "bit")
    refine ⟨_, rfl, B.p, dx, fs, rfl, e1, e2, B, bs, rfl, hb, k.bind fun two bs1 v1 H1 hm1 hb1 kp1 hv1 k1 => ?_⟩
    cases hv1
    have htwo : two < 2 := bits1_lt hm1
    obtain ⟨dx1, fs1, e3, e4⟩ := hb1.meth (m := "bit")
    refine ⟨_, rfl, B.p, dx1, fs1, rfl, e3, e4, B, bs1, rfl, hb1, k1.bind fun long bs2 v2 H2 hm2 hb2 kp2 hv2 k2 => ?_⟩
    cases hv2
    obtain ⟨dx2, fs2, e5, e6⟩ := hb2.meth (m := "number")
    have hfw : ∀ fw : Nat, fw = (if long = 1 then 8 else 1) → fw ≤ 1000 := fun fw h => by rw [h]; split <;> decide
    refine ⟨rfl, _, rfl, ite2 (fun e => ?_) (fun e => ?_)⟩
    · have hl : long = 1 := by have := V.int.inj (of_decide_eq_true e); omega
      rw [if_pos hl] at k2
      refine ⟨_, rfl, B.p, dx2, fs2, rfl, e5, e6, _, rfl, B, bs2, 8, rfl, by decide, hb2, k2.bind fun a bs3 v3 H3 hm3 hb3 kp3 hv3 k3 => ?_⟩
      cases hv3
      obtain ⟨kt, kf⟩ := k3.need
      refine ⟨_, rfl, _, rfl, _, _, rfl, rfl, _, rfl, ite2 (fun e7 => ?_) (fun e7 => ?_)⟩
      · exact kf (decide_eq_false (by have := of_decide_eq_true e7; omega)) _
      · have ha : a < size := by
          have : ¬ (size : Int) ≤ (a : Int) := fun z => e7 (decide_eq_true z)
          omega
        have k4 := kt (decide_eq_true ha)
        refine ⟨_, rfl, rfl, _, rfl, ite2 (fun e8 => ?_) (fun e8 => ?_)⟩
        · have h0 : ¬ two = 1 := by have := V.int.inj (of_decide_eq_true e8); omega
          rw [if_neg h0] at k4
          refine ⟨Nat.zero_le _, fun x0 hx0 => ⟨_, rfl, (by show 1 ≤ sizeLine; decide), fun x1 hx1 => ⟨(by show 2 ≤ sizeLine; decide), fun wa hwa => ⟨_, rfl, ?_⟩⟩⟩⟩
          intro p dxp hp hdxp hne
          refine ⟨p, wa, dxp, some a, rfl, upd_same, fun H' e9 kp => ⟨rfl, ?_⟩⟩
          have f0 : upd (upd (upd H3 x0 (.lst [])) x1 (.lst [nat a])) wa (.lst [.ref x0, .ref x1]) x0 = some (.lst (natsV [])) := by
            rw [upd_ne (ne_of_none (o := .lst []) (by rw [upd_ne (ne_of_none upd_same hx1)]; exact upd_same) hwa), upd_ne (ne_of_none upd_same hx1)]; exact upd_same
          have f1 : upd (upd (upd H3 x0 (.lst [])) x1 (.lst [nat a])) wa (.lst [.ref x0, .ref x1]) x1 = some (.lst (natsV [a])) := by
            rw [upd_ne (ne_of_none upd_same hwa)]; exact upd_same
          have sm : Same H3 (upd (upd (upd H3 x0 (.lst [])) x1 (.lst [nat a])) wa (.lst [.ref x0, .ref x1])) := same_new (same_new (same_new (Same.refl _) hx0) hx1) hwa
          have d3 := dom_of ((kp1.trans kp2).trans kp3) hb3
          obtain ⟨g1, g2⟩ := CodeNew.made (H0 := H) (c := short1 size a) (was := [x0, x1]) (words := [[], [a]]) hp hdxp kp e9 upd_same ⟨rfl, fun j x hx => match j, hx with
            | 0, hx => ⟨[], rfl, by rw [← Option.some.inj hx]; exact f0⟩
            | 1, hx => ⟨[a], rfl, by rw [← Option.some.inj hx]; exact f1⟩
            | j + 2, hx => by simp at hx⟩ ⟨short1_sole ha, by rw [short1_len]; exact ha⟩ (fun x hx => d3 x (sm.free hx)) (d3 _ ((same_new (same_new (Same.refl _) hx0) hx1).free hwa)) (fun x hx => by
            simp only [List.mem_cons, List.not_mem_nil, or_false] at hx
            rcases hx with z | z
            · rw [z]; exact d3 _ hx0
            · rw [z]; exact d3 _ ((same_new (Same.refl _) hx0).free hx1))
          exact k4.pure' (hb3.same (sm.trans g2)) (Kept.same (sm.trans g2) _) ⟨p, rfl, g1⟩
        · have h1 : two = 1 := by
            have : ¬ two = 0 := fun z => e8 (by rw [z]; exact decide_eq_true rfl)
            omega
          rw [if_pos h1] at k4
          obtain ⟨dx3, fs3, e9, e10⟩ := hb3.meth (m := "number")
          refine ⟨_, rfl, B.p, dx3, fs3, rfl, e9, e10, B, bs3, 8, rfl, by decide, hb3, k4.bind fun b bs5 v5 H5 hm5 hb5 kp5 hv5 k5 => ?_⟩
          cases hv5
          obtain ⟨kt5, kf5⟩ := k5.need
          refine ⟨_, rfl, _, rfl, _, _, rfl, rfl, _, rfl, ite2 (fun e11 => ?_) (fun e11 => ?_)⟩
          · have hbs : ¬ b < size := by have := of_decide_eq_true e11; omega
            exact iteT (kf5 (by rw [decide_eq_false hbs]; rfl) _)
          · have hbs : b < size := by
              have : ¬ (size : Int) ≤ (b : Int) := fun z => e11 (decide_eq_true z)
              omega
            refine ⟨_, rfl, _, rfl, rfl, _, rfl, ite2 (fun e12 => ?_) (fun e12 => ?_)⟩
            · have hab : b = a := by have := V.int.inj (of_decide_eq_true e12); omega
              exact kf5 (by rw [hab, decide_eq_true ha]; simp) _
            · have hab : a ≠ b := fun z => e12 (by rw [z]; exact decide_eq_true rfl)
              have k6 := kt5 (by rw [decide_eq_true hbs, Bool.true_and, bne_iff_ne]; exact fun z => hab z.symm)
              have qmin : (if (b : Int) < (a : Int) then (b : Int) else (a : Int)) = ((min a b : Nat) : Int) := by split <;> omega
              have qmax : (if (b : Int) > (a : Int) then (b : Int) else (a : Int)) = ((max a b : Nat) : Int) := by split <;> omega
              refine ⟨Nat.zero_le _, fun x0 hx0 => ⟨_, rfl, _, rfl, _, _, rfl, _, rfl, _, rfl, _, _, rfl, (by show 2 ≤ sizeLine; decide), fun x1 hx1 => ⟨(by show 2 ≤ sizeLine; decide), fun wa hwa => ?_⟩⟩⟩
              rw [qmin, qmax]
              intro p dxp hp hdxp hne
              refine ⟨p, wa, dxp, none, rfl, upd_same, fun H' e9 kp => ⟨rfl, ?_⟩⟩
              rw [qmin, qmax] at hwa
              generalize hW : upd (upd (upd H5 x0 (.lst [])) x1 (.lst [nat (min a b), nat (max a b)])) wa (.lst [.ref x0, .ref x1]) = HW at hp hdxp kp
              have f0 : HW x0 = some (.lst (natsV [])) := by
                rw [← hW, upd_ne (ne_of_none (o := .lst []) (by rw [upd_ne (ne_of_none upd_same hx1)]; exact upd_same) hwa), upd_ne (ne_of_none upd_same hx1)]; exact upd_same
              have f1 : HW x1 = some (.lst (natsV [min a b, max a b])) := by
                rw [← hW, upd_ne (ne_of_none upd_same hwa)]; exact upd_same
              have f2 : HW wa = some (.lst [.ref x0, .ref x1]) := by rw [← hW]; exact upd_same
              have sm : Same H5 HW := by rw [← hW]; exact same_new (same_new (same_new (Same.refl _) hx0) hx1) hwa
              have d5 := dom_of (((kp1.trans kp2).trans kp3).trans kp5) hb5
              obtain ⟨g1, g2⟩ := CodeNew.made (H0 := H) (c := short2 size a b) (was := [x0, x1]) (words := [[], [min a b, max a b]]) hp hdxp kp e9 f2 ⟨rfl, fun j x hx => match j, hx with
                | 0, hx => ⟨[], rfl, by rw [← Option.some.inj hx]; exact f0⟩
                | 1, hx => ⟨_, rfl, by rw [← Option.some.inj hx]; exact f1⟩
                | j + 2, hx => by simp at hx⟩ ⟨_, rfl, ⟨by simp, by simp [fitsW]⟩, short2_symbol ha hbs hab⟩ (fun x hx => d5 x (sm.free hx)) (d5 _ ((same_new (same_new (Same.refl _) hx0) hx1).free hwa)) (fun x hx => by
                simp only [List.mem_cons, List.not_mem_nil, or_false] at hx
                rcases hx with z | z
                · rw [z]; exact d5 _ hx0
                · rw [z]; exact d5 _ ((same_new (Same.refl _) hx0).free hx1))
              exact k6.pure' (hb5.same (sm.trans g2)) (Kept.same (sm.trans g2) _) ⟨p, rfl, g1⟩
    · have hl : ¬ long = 1 := fun z => e (by rw [z]; exact decide_eq_true rfl)
      rw [if_neg hl] at k2
      refine ⟨_, rfl, B.p, dx2, fs2, rfl, e5, e6, _, rfl, B, bs2, 1, rfl, by decide, hb2, k2.bind fun a bs3 v3 H3 hm3 hb3 kp3 hv3 k3 => ?_⟩
      cases hv3
      obtain ⟨kt, kf⟩ := k3.need
      refine ⟨_, rfl, _, rfl, _, _, rfl, rfl, _, rfl, ite2 (fun e7 => ?_) (fun e7 => ?_)⟩
      · exact kf (decide_eq_false (by have := of_decide_eq_true e7; omega)) _
      · have ha : a < size := by
          have : ¬ (size : Int) ≤ (a : Int) := fun z => e7 (decide_eq_true z)
          omega
        have k4 := kt (decide_eq_true ha)
        refine ⟨_, rfl, rfl, _, rfl, ite2 (fun e8 => ?_) (fun e8 => ?_)⟩
        · have h0 : ¬ two = 1 := by have := V.int.inj (of_decide_eq_true e8); omega
          rw [if_neg h0] at k4
          refine ⟨Nat.zero_le _, fun x0 hx0 => ⟨_, rfl, (by show 1 ≤ sizeLine; decide), fun x1 hx1 => ⟨(by show 2 ≤ sizeLine; decide), fun wa hwa => ⟨_, rfl, ?_⟩⟩⟩⟩
          intro p dxp hp hdxp hne
          refine ⟨p, wa, dxp, some a, rfl, upd_same, fun H' e9 kp => ⟨rfl, ?_⟩⟩
          have f0 : upd (upd (upd H3 x0 (.lst [])) x1 (.lst [nat a])) wa (.lst [.ref x0, .ref x1]) x0 = some (.lst (natsV [])) := by
            rw [upd_ne (ne_of_none (o := .lst []) (by rw [upd_ne (ne_of_none upd_same hx1)]; exact upd_same) hwa), upd_ne (ne_of_none upd_same hx1)]; exact upd_same
          have f1 : upd (upd (upd H3 x0 (.lst [])) x1 (.lst [nat a])) wa (.lst [.ref x0, .ref x1]) x1 = some (.lst (natsV [a])) := by
            rw [upd_ne (ne_of_none upd_same hwa)]; exact upd_same
          have sm : Same H3 (upd (upd (upd H3 x0 (.lst [])) x1 (.lst [nat a])) wa (.lst [.ref x0, .ref x1])) := same_new (same_new (same_new (Same.refl _) hx0) hx1) hwa
          have d3 := dom_of ((kp1.trans kp2).trans kp3) hb3
          obtain ⟨g1, g2⟩ := CodeNew.made (H0 := H) (c := short1 size a) (was := [x0, x1]) (words := [[], [a]]) hp hdxp kp e9 upd_same ⟨rfl, fun j x hx => match j, hx with
            | 0, hx => ⟨[], rfl, by rw [← Option.some.inj hx]; exact f0⟩
            | 1, hx => ⟨[a], rfl, by rw [← Option.some.inj hx]; exact f1⟩
            | j + 2, hx => by simp at hx⟩ ⟨short1_sole ha, by rw [short1_len]; exact ha⟩ (fun x hx => d3 x (sm.free hx)) (d3 _ ((same_new (same_new (Same.refl _) hx0) hx1).free hwa)) (fun x hx => by
            simp only [List.mem_cons, List.not_mem_nil, or_false] at hx
            rcases hx with z | z
            · rw [z]; exact d3 _ hx0
            · rw [z]; exact d3 _ ((same_new (Same.refl _) hx0).free hx1))
          exact k4.pure' (hb3.same (sm.trans g2)) (Kept.same (sm.trans g2) _) ⟨p, rfl, g1⟩
        · have h1 : two = 1 := by
            have : ¬ two = 0 := fun z => e8 (by rw [z]; exact decide_eq_true rfl)
            omega
          rw [if_pos h1] at k4
          obtain ⟨dx3, fs3, e9, e10⟩ := hb3.meth (m := "number")
          refine ⟨_, rfl, B.p, dx3, fs3, rfl, e9, e10, B, bs3, 8, rfl, by decide, hb3, k4.bind fun b bs5 v5 H5 hm5 hb5 kp5 hv5 k5 => ?_⟩
          cases hv5
          obtain ⟨kt5, kf5⟩ := k5.need
          refine ⟨_, rfl, _, rfl, _, _, rfl, rfl, _, rfl, ite2 (fun e11 => ?_) (fun e11 => ?_)⟩
          · have hbs : ¬ b < size := by have := of_decide_eq_true e11; omega
            exact iteT (kf5 (by rw [decide_eq_false hbs]; rfl) _)
          · have hbs : b < size := by
              have : ¬ (size : Int) ≤ (b : Int) := fun z => e11 (decide_eq_true z)
              omega
            refine ⟨_, rfl, _, rfl, rfl, _, rfl, ite2 (fun e12 => ?_) (fun e12 => ?_)⟩
            · have hab : b = a := by have := V.int.inj (of_decide_eq_true e12); omega
              exact kf5 (by rw [hab, decide_eq_true ha]; simp) _
            · have hab : a ≠ b := fun z => e12 (by rw [z]; exact decide_eq_true rfl)
              have k6 := kt5 (by rw [decide_eq_true hbs, Bool.true_and, bne_iff_ne]; exact fun z => hab z.symm)
              have qmin : (if (b : Int) < (a : Int) then (b : Int) else (a : Int)) = ((min a b : Nat) : Int) := by split <;> omega
              have qmax : (if (b : Int) > (a : Int) then (b : Int) else (a : Int)) = ((max a b : Nat) : Int) := by split <;> omega
              refine ⟨Nat.zero_le _, fun x0 hx0 => ⟨_, rfl, _, rfl, _, _, rfl, _, rfl, _, rfl, _, _, rfl, (by show 2 ≤ sizeLine; decide), fun x1 hx1 => ⟨(by show 2 ≤ sizeLine; decide), fun wa hwa => ?_⟩⟩⟩
              rw [qmin, qmax]
              intro p dxp hp hdxp hne
              refine ⟨p, wa, dxp, none, rfl, upd_same, fun H' e9 kp => ⟨rfl, ?_⟩⟩
              rw [qmin, qmax] at hwa
              generalize hW : upd (upd (upd H5 x0 (.lst [])) x1 (.lst [nat (min a b), nat (max a b)])) wa (.lst [.ref x0, .ref x1]) = HW at hp hdxp kp
              have f0 : HW x0 = some (.lst (natsV [])) := by
                rw [← hW, upd_ne (ne_of_none (o := .lst []) (by rw [upd_ne (ne_of_none upd_same hx1)]; exact upd_same) hwa), upd_ne (ne_of_none upd_same hx1)]; exact upd_same
              have f1 : HW x1 = some (.lst (natsV [min a b, max a b])) := by
                rw [← hW, upd_ne (ne_of_none upd_same hwa)]; exact upd_same
              have f2 : HW wa = some (.lst [.ref x0, .ref x1]) := by rw [← hW]; exact upd_same
              have sm : Same H5 HW := by rw [← hW]; exact same_new (same_new (same_new (Same.refl _) hx0) hx1) hwa
              have d5 := dom_of (((kp1.trans kp2).trans kp3).trans kp5) hb5
              obtain ⟨g1, g2⟩ := CodeNew.made (H0 := H) (c := short2 size a b) (was := [x0, x1]) (words := [[], [min a b, max a b]]) hp hdxp kp e9 f2 ⟨rfl, fun j x hx => match j, hx with
                | 0, hx => ⟨[], rfl, by rw [← Option.some.inj hx]; exact f0⟩
                | 1, hx => ⟨_, rfl, by rw [← Option.some.inj hx]; exact f1⟩
                | j + 2, hx => by simp at hx⟩ ⟨_, rfl, ⟨by simp, by simp [fitsW]⟩, short2_symbol ha hbs hab⟩ (fun x hx => d5 x (sm.free hx)) (d5 _ ((same_new (same_new (Same.refl _) hx0) hx1).free hwa)) (fun x hx => by
                simp only [List.mem_cons, List.not_mem_nil, or_false] at hx
                rcases hx with z | z
                · rw [z]; exact d5 _ hx0
                · rw [z]; exact d5 _ ((same_new (Same.refl _) hx0).free hx1))
              exact k6.pure' (hb5.same (sm.trans g2)) (Kept.same (sm.trans g2) _) ⟨p, rfl, g1⟩
/-! ### read_code -/
def isCodeN (t : Ad) (H0 : Hp) (size : Nat) : Sn15.Code → V → Hp → Prop := fun c v H => isCodeF t H0 c v H ∧ c.length = size
def spCode (t : Ad) : Sp := fun vs H Q E => ∃ (B : Bi) (bs : List Bool) (size : Nat), vs = [.ref B.p, nat size] ∧ size ≤ 3000 ∧ BitsAt t H B bs ∧ Out t E B [] H (isCodeN t H size) Q (Sn15.code size bs)
theorem scCode : FnScope ["bits", "size"] ["bits", "size"] (defScope sCode) := ⟨rfl, rfl, rfl, by decide +kernel, rfl, by decide +kernel, by decide +kernel⟩
theorem CodeNew.pad {H0 : Hp} {t : Ad} {H : Hp} {a : Addr} {l : List Nat} (h : CodeNew H0 t H a l) (k : Nat) : CodeNew H0 t H a (l ++ List.replicate k 0) := by
  obtain ⟨dx, wa, was, words, sole, ⟨h1, h2, h3, h4⟩, n⟩ := h
  refine ⟨dx, wa, was, words, sole, ⟨h1, h2, h3, ?_⟩, n⟩
  cases sole with
  | some s => exact ⟨by rw [symbol_pad]; exact h4.1, by rw [List.length_append]; exact Nat.lt_of_lt_of_le h4.2 (Nat.le_add_right _ _)⟩
  | none =>
    obtain ⟨ws, hw, hf, hs⟩ := h4
    exact ⟨ws, hw, hf, by rw [symbol_pad]; exact hs⟩
theorem ok_Code {f : Addr} {fd : FuncData} (F : Fun K "read_code" "read_code" sCode f fd) (T : Tx K mg t) (Gb : MethOk P w K mg base 1 t.CB "bit" ["self"] (spBit t)) (Gs : DefOk P w K mg base 3 "read_short_code" ["bits", "size"] (spShort t))
    (Gl : DefOk P w K mg base 5 "read_lengths" ["bits", "size"] (spLens t)) (Gc : DefOk P w K mg base 3 "code_of_lengths" ["lengths"] (spCol t)) : FnOk P w K mg base (CXe P w) 6 f fd ["bits", "size"] (spCode t) := by
  refine F.okE scCode (fun vs H Q E h => ?_) (fun cdv A outer s H vs Q E hr h => ?_)
  · obtain ⟨B, bs, size, rfl, _⟩ := h
    rfl
  · obtain ⟨B, bs, size, rfl, hsz, hb, k⟩ := h
    have hr1 : Room 1 _ := hr.mono (by decide)
    have hr3 : Room 3 _ := hr.mono (by decide)
    refine ⟨_, pss_cons (ps_if (pt_cmpR op_eq (pm0 Gb Lv.of T.cB hr1 (pv 0)) pe_int (nomark _)) (pss_one (ps_ret (pd Gs Lv.of hr3 (pa_cons (pv 0) (pa_cons (pv 1) pa_nil))))) pss_nil)
      (pss_one (ps_ret (pd Gc Lv.of hr3 (pa_cons (pd Gl Lv.of hr (pa_cons (pv 0) (pa_cons (pv 1) pa_nil))) pa_nil)))), ?_⟩
    rw [code_eq] at k
    have hlen : ∀ c bs', mCode size bs = some (c, bs') → c.length = size := fun c bs' h => mCode_len h
    have k0 : Out t E B [] H (isCodeF t H) Q (mCode size bs) := by
      cases hm : mCode size bs with
      | none => rw [hm] at k; exact k
      | some x => rw [hm] at k; exact fun v H2 b k2 r => k v H2 b k2 ⟨r, hlen x.1 x.2 hm⟩
    unfold mCode at k0
    rw [mLens_eq] at k0
    obtain ⟨dx, fs, e1, e2⟩ := hb.meth (m := "bit")
    refine ⟨_, rfl, B.p, dx, fs, rfl, e1, e2, B, bs, rfl, hb, k0.bind fun u bs1 v1 H1 hm1 hb1 kp1 hv1 k1 => ?_⟩
    cases hv1
    refine ⟨rfl, _, rfl, ite2 (fun e => ?_) (fun e => ?_)⟩
    · have e' : u = 1 := by have := V.int.inj (of_decide_eq_true e); omega
      rw [if_pos e'] at k1
      exact ⟨_, rfl, _, rfl, B, bs1, size, rfl, hb1, k1.imp fun c v H' ⟨a, e, h⟩ => ⟨a, e, h.rebase (dom_of kp1 hb1)⟩⟩
    · have e' : ¬ u = 1 := fun z => e (by rw [z]; exact decide_eq_true rfl)
      rw [if_neg e'] at k1
      refine ⟨_, rfl, _, rfl, B, bs1, size, rfl, hsz, hb1, k1.bind fun l bs2 v2 H2 hm2 hb2 kp2 hv2 k2 => ?_⟩
      obtain ⟨la, l0, rfl, hla, hl0, rfl, h15⟩ := hv2
      rw [good_pad] at k2
      obtain ⟨kt, kf⟩ := k2.need
      refine ⟨la, l0, rfl, hla, h15, by omega, fun hg a H4 hc sm => ?_, fun hg => kf hg⟩
      exact (kt hg).pure' (hb2.same sm) (Kept.same sm _) ⟨a, rfl, (hc.rebase (dom_of (kp1.trans kp2) hb2)).pad _⟩
end
end Lk
end
section
set_option Elab.async false
set_option linter.all false
set_option maxRecDepth 100000
set_option maxHeartbeats 2000000
namespace Lk
open PySem PySem.Spec PyProof.Rows L2
open Sn15 (D bits bitsOf symbol Px Group up)

abbrev sSInit : Stmt := inClass (top 30) 0
abbrev sColAt : Stmt := inClass (top 30) 1
abbrev sGInit : Stmt := inClass (top 31) 0
abbrev sGrpAt : Stmt := inClass (top 31) 1
abbrev sGrpNo : Stmt := top 32
abbrev sDivUp : Stmt := top 33
abbrev sDepth : Stmt := top 37
abbrev sColours : Stmt := top 40
abbrev sStep : Stmt := top 41
abbrev sColour : Stmt := top 42

/-! ### squares and groups on the heap -/
def sqF (z ac : Nat) (cl : Addr) : List (Str × V) := [("shift", nat z), ("across", nat ac), ("colours", .ref cl)]
theorem sqF_s (z ac : Nat) (cl : Addr) : (sqF z ac cl).lookup ("shift" : Str) = some (nat z) := lk_here
theorem sqF_a (z ac : Nat) (cl : Addr) : (sqF z ac cl).lookup ("across" : Str) = some (nat ac) := (lk_next (by decide +kernel)).trans lk_here
theorem sqF_c (z ac : Nat) (cl : Addr) : (sqF z ac cl).lookup ("colours" : Str) = some (.ref cl) := (lk_next (by decide +kernel)).trans ((lk_next (by decide +kernel)).trans lk_here)
theorem sqF_no (z ac : Nat) (cl : Addr) {m : Str} (h1 : (m == ("shift" : Str)) = false) (h2 : (m == ("across" : Str)) = false) (h3 : (m == ("colours" : Str)) = false) : (sqF z ac cl).lookup m = none := (lk_next h1).trans ((lk_next h2).trans ((lk_next h3).trans rfl))
structure SqAt (t : Ad) (H : Hp) (a cl : Addr) (z ac : Nat) (l : List Px) : Prop where
  ins : ∃ dx, H a = some (.ins t.CS dx (sqF z ac cl))
  lst : H cl = some (.lst (natsV (wordsOfPx l)))
  ok : ∀ p ∈ l, PxOk p
theorem SqAt.kept {t : Ad} {H H' : Hp} {a cl : Addr} {z ac : Nat} {l : List Px} {B : Bi} {bs : List Bool} (h : SqAt t H a cl z ac l) (b : BitsAt t H B bs) (k : Kept [B.p] H H') : SqAt t H' a cl z ac l := by
  obtain ⟨dx, e⟩ := h.ins
  exact ⟨⟨dx, k.ins b e (by decide +kernel)⟩, k.lst b h.lst, h.ok⟩
theorem SqAt.same {t : Ad} {H H' : Hp} {a cl : Addr} {z ac : Nat} {l : List Px} (h : SqAt t H a cl z ac l) (k : Same H H') : SqAt t H' a cl z ac l := by
  obtain ⟨dx, e⟩ := h.ins
  exact ⟨⟨dx, k _ _ e⟩, k _ _ h.lst, h.ok⟩
structure GroupOk (k : Nat) (g : Group) : Prop where
  g1 : g.green.length = 280 + csize k
  r1 : g.red.length = 256
  b1 : g.blue.length = 256
  a1 : g.alpha.length = 256
  d1 : g.distance.length = 40
def GroupAt (t : Ad) (H : Hp) (k : Nat) (ga : Addr) (g : Group) : Prop := ∃ a0 a1 a2 a3 a4 : Addr, H ga = some (.lst [.ref a0, .ref a1, .ref a2, .ref a3, .ref a4]) ∧ CodeAt t H a0 g.green ∧ CodeAt t H a1 g.red ∧ CodeAt t H a2 g.blue ∧ CodeAt t H a3 g.alpha ∧ CodeAt t H a4 g.distance ∧ GroupOk k g
theorem GroupAt.kept {t : Ad} {H H' : Hp} {k : Nat} {ga : Addr} {g : Group} {B : Bi} {bs : List Bool} (h : GroupAt t H k ga g) (b : BitsAt t H B bs) (kp : Kept [B.p] H H') : GroupAt t H' k ga g := by
  obtain ⟨a0, a1, a2, a3, a4, h0, h1, h2, h3, h4, h5, h6⟩ := h
  exact ⟨a0, a1, a2, a3, a4, kp.lst b h0, h1.kept b kp, h2.kept b kp, h3.kept b kp, h4.kept b kp, h5.kept b kp, h6⟩
theorem GroupAt.same {t : Ad} {H H' : Hp} {k : Nat} {ga : Addr} {g : Group} (h : GroupAt t H k ga g) (s : Same H H') : GroupAt t H' k ga g := by
  obtain ⟨a0, a1, a2, a3, a4, h0, h1, h2, h3, h4, h5, h6⟩ := h
  exact ⟨a0, a1, a2, a3, a4, s _ _ h0, h1.same s, h2.same s, h3.same s, h4.same s, h5.same s, h6⟩
def grF (sv : V) (la : Addr) : List (Str × V) := [("squares", sv), ("groups", .ref la)]
theorem grF_s (sv : V) (la : Addr) : (grF sv la).lookup ("squares" : Str) = some sv := lk_here
theorem grF_g (sv : V) (la : Addr) : (grF sv la).lookup ("groups" : Str) = some (.ref la) := (lk_next (by decide +kernel)).trans lk_here
theorem grF_no (sv : V) (la : Addr) {m : Str} (h1 : (m == ("squares" : Str)) = false) (h2 : (m == ("groups" : Str)) = false) : (grF sv la).lookup m = none := (lk_next h1).trans ((lk_next h2).trans rfl)
/-- how a group is chosen -/
def Chosen (t : Ad) (H : Hp) (w h : Nat) (gs : List Group) (wh : Nat → Nat → Nat) (sv : V) : Prop := (sv = .non ∧ (wh = fun _ _ => 0) ∧ 0 < gs.length) ∨
  ∃ (sa cl : Addr) (z : Nat) (l : List Px), sv = .ref sa ∧ SqAt t H sa cl z (up w (2 ^ z)) l ∧ wh = whichOf w z l ∧ z ≤ 20 ∧ l.length = up w (2 ^ z) * up h (2 ^ z) ∧ ∀ p ∈ l, number p < gs.length
structure GrsAt (t : Ad) (H : Hp) (k : Nat) (G : Addr) (w h : Nat) (gs : List Group) (wh : Nat → Nat → Nat) : Prop where
  ex : ∃ (dx la : Addr) (sv : V) (gas : List Addr), H G = some (.ins t.CG dx (grF sv la)) ∧ H la = some (.lst (gas.map V.ref)) ∧ gas.length = gs.length ∧ (∀ (j : Nat) (ga : Addr), gas[j]? = some ga → ∃ g, gs[j]? = some g ∧ GroupAt t H k ga g) ∧ Chosen t H w h gs wh sv
theorem GrsAt.kept {t : Ad} {H H' : Hp} {k : Nat} {G : Addr} {w h : Nat} {gs : List Group} {wh : Nat → Nat → Nat} {B : Bi} {bs : List Bool} (g : GrsAt t H k G w h gs wh) (b : BitsAt t H B bs) (kp : Kept [B.p] H H') : GrsAt t H' k G w h gs wh := by
  obtain ⟨dx, la, sv, gas, h1, h2, h3, h4, h5⟩ := g.ex
  refine ⟨dx, la, sv, gas, kp.ins b h1 (by decide +kernel), kp.lst b h2, h3, fun j ga e => ?_, ?_⟩
  · obtain ⟨g, e1, e2⟩ := h4 j ga e
    exact ⟨g, e1, e2.kept b kp⟩
  · rcases h5 with h5 | ⟨sa, cl, z, l, e1, e2, r⟩
    · exact .inl h5
    · exact .inr ⟨sa, cl, z, l, e1, e2.kept b kp, r⟩
theorem GrsAt.same {t : Ad} {H H' : Hp} {k : Nat} {G : Addr} {w h : Nat} {gs : List Group} {wh : Nat → Nat → Nat} (g : GrsAt t H k G w h gs wh) (s : Same H H') : GrsAt t H' k G w h gs wh := by
  obtain ⟨dx, la, sv, gas, h1, h2, h3, h4, h5⟩ := g.ex
  refine ⟨dx, la, sv, gas, s _ _ h1, s _ _ h2, h3, fun j ga e => ?_, ?_⟩
  · obtain ⟨g, e1, e2⟩ := h4 j ga e
    exact ⟨g, e1, e2.same s⟩
  · rcases h5 with h5 | ⟨sa, cl, z, l, e1, e2, r⟩
    · exact .inl h5
    · exact .inr ⟨sa, cl, z, l, e1, e2.same s, r⟩

section
variable {P : Program} {w : World} {K : PySem.W.Frag} {mg : Str → Option Value} {base : Heap} {t : Ad}
/-! ### Squares.__init__, Groups.__init__ -/
def spSInit (t : Ad) : Sp := fun vs H Q _ => ∃ (p dx cl : Addr) (z ac : Nat), vs = [.ref p, nat z, nat ac, .ref cl] ∧ H p = some (.ins t.CS dx []) ∧ ∀ H', H' p = some (.ins t.CS dx (sqF z ac cl)) → Kept [p] H H' → Q .non H'
theorem scSInit : FnScope ["self", "shift", "across", "colours"] ["self", "shift", "across", "colours"] (defScope sSInit) := ⟨rfl, rfl, rfl, by decide +kernel, rfl, by decide +kernel, by decide +kernel⟩
theorem ok_SInit {f : Addr} {fd : FuncData} (F : Fun K "__init__" "Squares.__init__" sSInit f fd) (T : Tx K mg t) : FnOk P w K mg base (CXe P w) 1 f fd ["self", "shift", "across", "colours"] (spSInit t) := by
  refine F.okE scSInit (fun vs H Q E h => ?_) (fun cdv A outer s H vs Q E hr h => ?_)
  · obtain ⟨p, dx, cl, z, ac, rfl, _⟩ := h
    rfl
  · obtain ⟨p, dx, cl, z, ac, rfl, hp, k⟩ := h
    refine ⟨_, pss_cons (ps_fld (pv 0) (pv 1) rfl) (pss_cons (ps_fld (pv 0) (pv 2) rfl) (pss_one (ps_fld (pv 0) (pv 3) rfl))), ?_⟩
    refine ⟨_, rfl, _, rfl, p, t.CS, dx, _, rfl, hp, T.cS, T.sS, (by show 0 < 1000; decide), ?_⟩
    refine ⟨_, rfl, _, rfl, p, t.CS, dx, _, rfl, upd_same, T.cS, T.sA, (by show 1 < 1000; decide), ?_⟩
    refine ⟨_, rfl, _, rfl, p, t.CS, dx, _, rfl, upd_same, T.cS, T.sC, (by show 2 < 1000; decide), ?_⟩
    refine k _ ?_ (((Kept.put (by simp)).trans (Kept.put (by simp))).trans (Kept.put (by simp)))
    rw [upd_same]
    rfl
def spGInit (t : Ad) : Sp := fun vs H Q _ => ∃ (p dx la : Addr) (sv : V), vs = [.ref p, sv, .ref la] ∧ H p = some (.ins t.CG dx []) ∧ ∀ H', H' p = some (.ins t.CG dx (grF sv la)) → Kept [p] H H' → Q .non H'
theorem scGInit : FnScope ["self", "squares", "groups"] ["self", "squares", "groups"] (defScope sGInit) := ⟨rfl, rfl, rfl, by decide +kernel, rfl, by decide +kernel, by decide +kernel⟩
theorem ok_GInit {f : Addr} {fd : FuncData} (F : Fun K "__init__" "Groups.__init__" sGInit f fd) (T : Tx K mg t) : FnOk P w K mg base (CXe P w) 1 f fd ["self", "squares", "groups"] (spGInit t) := by
  refine F.okE scGInit (fun vs H Q E h => ?_) (fun cdv A outer s H vs Q E hr h => ?_)
  · obtain ⟨p, dx, la, sv, rfl, _⟩ := h
    rfl
  · obtain ⟨p, dx, la, sv, rfl, hp, k⟩ := h
    refine ⟨_, pss_cons (ps_fld (pv 0) (pv 1) rfl) (pss_one (ps_fld (pv 0) (pv 2) rfl)), ?_⟩
    refine ⟨_, rfl, _, rfl, p, t.CG, dx, _, rfl, hp, T.cG, T.gS, (by show 0 < 1000; decide), ?_⟩
    refine ⟨_, rfl, _, rfl, p, t.CG, dx, _, rfl, upd_same, T.cG, T.gG, (by show 1 < 1000; decide), ?_⟩
    refine k _ ?_ ((Kept.put (by simp)).trans (Kept.put (by simp)))
    rw [upd_same]
    rfl
/-! ### group_number, divided_up, colour_at, group_at -/
theorem number_int {p : Px} (h : PxOk p) : Builtin.bitAnd (((p.word : Nat) : Int) / 2 ^ (8 : Int).toNat) 65535 = ((number p : Nat) : Int) := by
  obtain ⟨h1, h2, h3, h4⟩ := h
  have e : (2 : Int) ^ (8 : Int).toNat = 256 := by decide
  rw [bitAnd_m16, e]
  unfold number Px.word
  omega
def spGrpNo : Sp := fun vs H Q _ => ∃ p : Px, vs = [nat p.word] ∧ PxOk p ∧ Q (nat (number p)) H
theorem scGrpNo : FnScope ["colour"] ["colour"] (defScope sGrpNo) := ⟨rfl, rfl, rfl, by decide +kernel, rfl, by decide +kernel, by decide +kernel⟩
theorem ok_GrpNo {f : Addr} {fd : FuncData} (F : Fun K "group_number" "group_number" sGrpNo f fd) : FnOk P w K mg base (CXe P w) 1 f fd ["colour"] spGrpNo := by
  refine F.okE scGrpNo (fun vs H Q E h => ?_) (fun cdv A outer s H vs Q E hr h => ?_)
  · obtain ⟨p, rfl, _⟩ := h
    rfl
  · obtain ⟨p, rfl, hp, k⟩ := h
    refine ⟨_, pss_one (ps_ret (pe_op op_and (pe_op op_shr (pv 0) pe_int) pe_int)), ?_⟩
    refine ⟨_, rfl, _, _, rfl, rfl, (by show (0 : Int) ≤ 8; decide), _, _, rfl, rfl, ?_⟩
    show Q (.int (Builtin.bitAnd (((p.word : Nat) : Int) / 2 ^ (8 : Int).toNat) 65535)) H
    rw [number_int hp]
    exact k
def spDivUp : Sp := fun vs H Q _ => ∃ n z : Nat, vs = [nat n, nat z] ∧ z ≤ 100 ∧ Q (nat (up n (2 ^ z))) H
theorem scDivUp : FnScope ["number", "shift"] ["number", "shift"] (defScope sDivUp) := ⟨rfl, rfl, rfl, by decide +kernel, rfl, by decide +kernel, by decide +kernel⟩
theorem ok_DivUp {f : Addr} {fd : FuncData} (F : Fun K "divided_up" "divided_up" sDivUp f fd) : FnOk P w K mg base (CXe P w) 1 f fd ["number", "shift"] spDivUp := by
  refine F.okE scDivUp (fun vs H Q E h => ?_) (fun cdv A outer s H vs Q E hr h => ?_)
  · obtain ⟨n, z, rfl, _⟩ := h
    rfl
  · obtain ⟨n, z, rfl, hz, k⟩ := h
    refine ⟨_, pss_one (ps_ret (pe_op op_shr (pe_op op_sub (pe_op op_add (pv 0) (pe_op op_shl pe_int (pv 1))) pe_int) (pv 1))), ?_⟩
    refine ⟨_, rfl, _, rfl, _, _, rfl, rfl, ⟨by omega, by omega, by decide⟩, _, _, rfl, rfl, _, _, rfl, rfl, _, rfl, _, _, rfl, rfl, (by show (0 : Int) ≤ (z : Int); omega), ?_⟩
    show Q (.int (((n : Int) + 1 * 2 ^ ((z : Nat) : Int).toNat - 1) / 2 ^ ((z : Nat) : Int).toNat)) H
    have e : ((n : Int) + 1 * 2 ^ ((z : Nat) : Int).toNat - 1) / 2 ^ ((z : Nat) : Int).toNat = ((up n (2 ^ z) : Nat) : Int) := by
      have hp : 0 < (2 : Nat) ^ z := Nat.pow_pos (by decide)
      unfold up
      rw [Int.toNat_natCast, two_pow_int, Int.natCast_ediv]
      congr 1
      omega
    rw [e]
    exact k
def spColAt (t : Ad) : Sp := fun vs H Q _ => ∃ (a cl : Addr) (z ac x y : Nat) (l : List Px), vs = [.ref a, nat x, nat y] ∧ SqAt t H a cl z ac l ∧ ac ≤ 2 ^ 20 ∧ y / 2 ^ z * ac + x / 2 ^ z < l.length ∧ Q (nat (l.getD (y / 2 ^ z * ac + x / 2 ^ z) Sn15.black).word) H
theorem scColAt : FnScope ["self", "x", "y"] ["self", "x", "y"] (defScope sColAt) := ⟨rfl, rfl, rfl, by decide +kernel, rfl, by decide +kernel, by decide +kernel⟩
theorem ok_ColAt {f : Addr} {fd : FuncData} (F : Fun K "colour_at" "Squares.colour_at" sColAt f fd) (T : Tx K mg t) : FnOk P w K mg base (CXe P w) 1 f fd ["self", "x", "y"] (spColAt t) := by
  refine F.okE scColAt (fun vs H Q E h => ?_) (fun cdv A outer s H vs Q E hr h => ?_)
  · obtain ⟨a, cl, z, ac, x, y, l, rfl, _⟩ := h
    rfl
  · obtain ⟨a, cl, z, ac, x, y, l, rfl, hS, hac, hix, k⟩ := h
    obtain ⟨dx, e⟩ := hS.ins
    refine ⟨_, pss_one (ps_ret (pe_ix ix_list (pe_fld (pv 0) rfl) (pe_op op_add (pe_op op_mul (pe_op op_shr (pv 2) (pe_fld (pv 0) rfl)) (pe_fld (pv 0) rfl)) (pe_op op_shr (pv 1) (pe_fld (pv 0) rfl))) (fun _ _ => rfl))), ?_⟩
    have hg : (wordsOfPx l)[y / 2 ^ z * ac + x / 2 ^ z]? = some (l.getD (y / 2 ^ z * ac + x / 2 ^ z) Sn15.black).word := by
      unfold wordsOfPx
      rw [List.getElem?_map, List.getD_eq_getElem?_getD, List.getElem?_eq_getElem hix]; rfl
    refine ⟨_, rfl, a, t.CS, dx, _, _, rfl, e, T.cS, T.sC, sqF_c _ _ _, _, rfl, _, rfl, a, t.CS, dx, _, _, rfl, e, T.cS, T.sS, sqF_s _ _ _, _, _, rfl, rfl, (by show (0 : Int) ≤ (z : Int); omega), _, rfl, a, t.CS, dx, _, _, rfl, e, T.cS, T.sA, sqF_a _ _ _, _, _, rfl, rfl, .inr ⟨by omega, by omega⟩,
      _, rfl, _, rfl, a, t.CS, dx, _, _, rfl, e, T.cS, T.sS, sqF_s _ _ _, _, _, rfl, rfl, (by show (0 : Int) ≤ (z : Int); omega), _, _, rfl, rfl, cl, _, _, _, rfl, rfl, SqL.of hS.lst, at_of (j := y / 2 ^ z * ac + x / 2 ^ z) ?_ (natsV_get hg), k⟩
    show (y : Int) / 2 ^ ((z : Nat) : Int).toNat * (ac : Int) + (x : Int) / 2 ^ ((z : Nat) : Int).toNat = _
    rw [Int.toNat_natCast, two_pow_int]
    simp
def spGrpAt (t : Ad) : Sp := fun vs H Q _ => ∃ (G : Addr) (k w h x y : Nat) (gs : List Group) (wh : Nat → Nat → Nat), vs = [.ref G, nat x, nat y] ∧ GrsAt t H k G w h gs wh ∧ x < w ∧ y < h ∧ w ≤ 2 ^ 20 ∧ h ≤ 2 ^ 20 ∧
  ∀ ga g, gs[wh x y]? = some g → GroupAt t H k ga g → Q (.ref ga) H
theorem scGrpAt : FnScope ["self", "x", "y"] ["self", "x", "y"] (defScope sGrpAt) := ⟨rfl, rfl, rfl, by decide +kernel, rfl, by decide +kernel, by decide +kernel⟩
theorem up_le {n z : Nat} (h : 0 < z) : up n z ≤ n := by
  unfold up
  rw [Nat.div_le_iff_le_mul_add_pred h]
  have : n ≤ z * n := Nat.le_mul_of_pos_left n h
  omega
theorem div_lt_up {x n z : Nat} (h : 0 < z) (hx : x < n) : x / z < up n z := by
  unfold up
  rw [Nat.div_lt_iff_lt_mul h]
  have h1 : n + z - 1 < ((n + z - 1) / z + 1) * z := by
    have := Nat.lt_div_mul_add (a := n + z - 1) h
    rw [Nat.add_mul, Nat.one_mul]; exact this
  rw [Nat.add_mul, Nat.one_mul] at h1
  omega
theorem sq_index {w h x y a b : Nat} (hx : a < w) (hy : b < h) : b * w + a < w * h := by
  calc b * w + a < b * w + w := by omega
    _ = (b + 1) * w := by rw [Nat.add_mul, Nat.one_mul]
    _ ≤ h * w := Nat.mul_le_mul_right _ hy
    _ = w * h := Nat.mul_comm _ _
theorem ok_GrpAt {f : Addr} {fd : FuncData} (F : Fun K "group_at" "Groups.group_at" sGrpAt f fd) (T : Tx K mg t) (Gn : DefOk P w K mg base 1 "group_number" ["colour"] spGrpNo) (Gc : MethOk P w K mg base 1 t.CS "colour_at" ["self", "x", "y"] (spColAt t)) :
    FnOk P w K mg base (CXe P w) 2 f fd ["self", "x", "y"] (spGrpAt t) := by
  refine F.okE scGrpAt (fun vs H Q E h => ?_) (fun cdv A outer s H vs Q E hr h => ?_)
  · obtain ⟨G, k, w, h, x, y, gs, wh, rfl, _⟩ := h
    rfl
  · obtain ⟨G, k, w, h, x, y, gs, wh, rfl, hG, hx, hy, hw, hh, kk⟩ := h
    obtain ⟨dx, la, sv, gas, h1, h2, h3, h4, h5⟩ := hG.ex
    refine ⟨_, pss_cons (ps_if (pt_cmp (pc_isN (pe_fld (pv 0) rfl))) (pss_one (ps_ret (pe_ix ix_list (pe_fld (pv 0) rfl) pe_int (fun _ _ => rfl)))) pss_nil)
      (pss_one (ps_ret (pe_ix ix_list (pe_fld (pv 0) rfl) (pd Gn Lv.of hr (pa_cons (pm Gc Lv.of T.cS hr (pe_fld (pv 0) rfl) (pa_cons (pv 1) (pa_cons (pv 2) pa_nil))) pa_nil)) (fun _ _ => rfl)))), ?_⟩
    rcases h5 with ⟨rfl, rfl, hpos⟩ | ⟨sa, cl, z, l, rfl, hS, rfl, hz, hl, hnum⟩
    · obtain ⟨ga, hga⟩ : ∃ ga, gas[0]? = some ga := ⟨_, List.getElem?_eq_getElem (by omega)⟩
      obtain ⟨g, hg1, hg2⟩ := h4 0 ga hga
      refine ⟨_, rfl, G, t.CG, dx, _, _, rfl, h1, T.cG, T.gS, grF_s _ _, _, rfl, iteT ?_⟩
      exact ⟨_, rfl, G, t.CG, dx, _, _, rfl, h1, T.cG, T.gG, grF_g _ _, la, _, _, .ref ga, rfl, rfl, SqL.of h2, at_of (j := 0) rfl (refs_get hga), kk ga g hg1 hg2⟩
    · have hzp : 0 < (2 : Nat) ^ z := Nat.pow_pos (by decide)
      have hix : y / 2 ^ z * up w (2 ^ z) + x / 2 ^ z < l.length := by rw [hl]; exact sq_index (x := x) (y := y) (div_lt_up hzp hx) (div_lt_up hzp hy)
      have hmem := getD_mem (d := Sn15.black) hix
      have hnl := hnum _ hmem
      obtain ⟨ga, hga⟩ : ∃ ga, gas[whichOf w z l x y]? = some ga := ⟨_, List.getElem?_eq_getElem (by rw [h3]; exact hnl)⟩
      obtain ⟨g, hg1, hg2⟩ := h4 _ ga hga
      obtain ⟨dxs, eS⟩ := hS.ins
      refine ⟨_, rfl, G, t.CG, dx, _, _, rfl, h1, T.cG, T.gS, grF_s _ _, _, rfl, iteF ?_⟩
      refine ⟨_, rfl, G, t.CG, dx, _, _, rfl, h1, T.cG, T.gG, grF_g _ _, _, rfl, G, t.CG, dx, _, _, rfl, h1, T.cG, T.gS, grF_s _ _, sa, dxs, _, rfl, eS, sqF_no _ _ _ (by decide +kernel) (by decide +kernel) (by decide +kernel), _, rfl, _, rfl,
        sa, cl, z, up w (2 ^ z), x, y, l, rfl, hS, Nat.le_trans (up_le hzp) hw, hix, _, rfl, hS.ok _ hmem, la, _, _, .ref ga, rfl, rfl, SqL.of h2, at_of rfl (refs_get hga), kk ga g hg1 hg2⟩
/-! ### read_cache_depth -/
def spDepth (t : Ad) : Sp := fun vs H Q E => ∃ (B : Bi) (bs : List Bool), vs = [.ref B.p] ∧ BitsAt t H B bs ∧ Out t E B [] H isNat Q (mCache bs)
theorem scDepth : FnScope ["bits", "depth"] ["bits"] (defScope sDepth) := ⟨rfl, rfl, rfl, by decide +kernel, rfl, by decide +kernel, by decide +kernel⟩
theorem ok_Depth {f : Addr} {fd : FuncData} (F : Fun K "read_cache_depth" "read_cache_depth" sDepth f fd) (T : Tx K mg t) (Gb : MethOk P w K mg base 1 t.CB "bit" ["self"] (spBit t)) (Gn : MethOk P w K mg base 2 t.CB "number" ["self", "width"] (spNumber t)) :
    FnOk P w K mg base (CXe P w) 3 f fd ["bits"] (spDepth t) := by
  refine F.okE scDepth (fun vs H Q E h => ?_) (fun cdv A outer s H vs Q E hr h => ?_)
  · obtain ⟨B, bs, rfl, _⟩ := h
    rfl
  · obtain ⟨B, bs, rfl, hb, k⟩ := h
    have hr1 : Room 1 _ := hr.mono (by decide)
    refine ⟨_, pss_cons (ps_if (pt_cmpR op_eq (pm0 Gb Lv.of T.cB hr1 (pv 0)) pe_int (nomark _)) (pss_one (ps_ret pe_int)) pss_nil)
      (pss_cons (ps_set (i := 1) scDepth.nd rfl (Or.inl rfl) (pm Gn Lv.of T.cB hr (pv 0) (pa_cons pe_int pa_nil)))
      (pss_cons (ps_if (PW.pt (pw_or (pt_cmpR op_lt (pv 1) pe_int (nomark _)) (pw_or1 (pt_cmpR op_gt (pv 1) pe_int (nomark _))))) (pss_one (ps_raise Lv.of (by rfl) T.gN T.xN)) pss_nil)
      (pss_one (ps_ret (pv 1))))), ?_⟩
    unfold mCache at k
    obtain ⟨dx, fs, e1, e2⟩ := hb.meth (m := "bit")
    refine ⟨_, rfl, B.p, dx, fs, rfl, e1, e2, B, bs, rfl, hb, k.bind fun u bs1 v1 H1 hm1 hb1 kp1 hv1 k1 => ?_⟩
    cases hv1
    have hu : u < 2 := bits1_lt hm1
    refine ⟨rfl, _, rfl, ite2 (fun e => ?_) (fun e => ?_)⟩
    · have e' : ¬ u = 1 := by have := V.int.inj (of_decide_eq_true e); omega
      rw [if_neg e'] at k1
      exact k1.pure hb1 rfl
    · have e' : u = 1 := by
        have : ¬ u = 0 := fun z => e (by rw [z]; exact decide_eq_true rfl)
        omega
      rw [if_pos e'] at k1
      obtain ⟨dx2, fs2, e3, e4⟩ := hb1.meth (m := "number")
      refine ⟨_, rfl, B.p, dx2, fs2, rfl, e3, e4, B, bs1, 4, rfl, by decide, hb1, k1.bind fun n bs2 v2 H2 hm2 hb2 kp2 hv2 k2 => ?_⟩
      cases hv2
      obtain ⟨kt, kf⟩ := k2.need
      refine ⟨_, rfl, _, _, rfl, rfl, _, rfl, ite2 (fun e5 => ?_) (fun e5 => ?_)⟩
      · exact iteT (kf (decide_eq_false (by have := of_decide_eq_true e5; omega)) _)
      · have h1 : 1 ≤ n := by
          have : ¬ (n : Int) < 1 := fun z => e5 (decide_eq_true z)
          omega
        refine ⟨_, rfl, _, _, rfl, rfl, _, rfl, ite2 (fun e6 => ?_) (fun e6 => ?_)⟩
        · exact kf (decide_eq_false (by have := of_decide_eq_true e6; omega)) _
        · have h2 : n ≤ 11 := by
            have : ¬ (11 : Int) < (n : Int) := fun z => e6 (decide_eq_true z)
            omega
          exact ⟨_, rfl, (kt (decide_eq_true ⟨h1, h2⟩)).pure hb2 rfl⟩
end
end Lk
end
section
set_option Elab.async false
set_option linter.all false
set_option maxRecDepth 100000
set_option maxHeartbeats 2000000
namespace Lk
open PySem PySem.Spec PyProof.Rows L2
open Sn15 (D bits bitsOf symbol Px Group up value back again cached)

/-! ### one step: the mathematics -/
def mColour (g : Group) (s : Nat) : D Px := do
  let r ← symbol g.red
  let b ← symbol g.blue
  let a ← symbol g.alpha
  return ⟨a, r, s, b⟩
theorem stepE_eq (w t k : Nat) (g : Group) (l : List Px) : stepE w t k g l = (symbol g.green >>= fun s => if s < 256 then mColour g s >>= fun p => pure (l ++ [p]) else
    if s < 280 then value (s - 256) >>= fun n => symbol g.distance >>= fun ds => value ds >>= fun dv => Sn15.need (decide (back w dv ≤ l.length) && decide (l.length + n ≤ t)) >>= fun _ => pure (again n (back w dv) l)
    else pure (l ++ [cached k l (s - 280)])) := by
  unfold stepE mColour
  congr 1
  funext s
  by_cases h1 : s < 256
  · simp only [h1, if_true, d_assoc, d_pure_bind]
  · simp only [h1, if_false]
theorem mColour_ok {g : Group} {k s : Nat} {p : Px} {bs bs' : List Bool} (hg : GroupOk k g) (hs : s < 256) (h : mColour g s bs = some (p, bs')) : PxOk p := by
  unfold mColour at h
  obtain ⟨r, bs1, hr, h⟩ := bind_some h
  obtain ⟨b, bs2, hb, h⟩ := bind_some h
  obtain ⟨a, bs3, ha, h⟩ := bind_some h
  cases h
  have h1 := symbol_lt hr
  have h2 := symbol_lt hb
  have h3 := symbol_lt ha
  rw [hg.r1] at h1
  rw [hg.b1] at h2
  rw [hg.a1] at h3
  exact ⟨h3, h1, hs, h2⟩
theorem value_le {s v : Nat} {bs bs' : List Bool} (hs : s < 40) (h : value s bs = some (v, bs')) : v ≤ 2 ^ 30 := by
  unfold value at h
  split at h
  · cases h; omega
  · obtain ⟨e, bs1, he, h⟩ := bind_some h
    cases h
    have h1 := bits_lt he
    have h2 : (2 : Nat) ^ ((s - 2) / 2) ≤ 2 ^ 18 := Nat.pow_le_pow_right (by decide) (by omega)
    have h3 : 2 + s % 2 ≤ 3 := by omega
    have h4 : (2 + s % 2) * 2 ^ ((s - 2) / 2) ≤ 3 * 2 ^ 18 := Nat.mul_le_mul h3 h2
    generalize (2 : Nat) ^ ((s - 2) / 2) = m at *
    omega
theorem back_le {w d : Nat} (hw : w ≤ 2 ^ 20) (hd : d ≤ 2 ^ 30) (h0 : 0 < d) : back w d ≤ 2 ^ 50 := by
  unfold back
  split
  · omega
  · rename_i hd2
    simp only []
    have hlt : d - 1 < Sn15.NEAR.length := by show d - 1 < 120; omega
    have hm : Sn15.NEAR.getD (d - 1) (0, 0) ∈ Sn15.NEAR := by rw [List.getD_eq_getElem?_getD, List.getElem?_eq_getElem hlt]; exact List.getElem_mem _
    obtain ⟨h1, h2, h3, h4⟩ := near_small _ hm
    have h5 : (Sn15.NEAR.getD (d - 1) (0, 0)).2 * (w : Int) ≤ 8 * (w : Int) := Int.mul_le_mul_of_nonneg_right h4 (by omega)
    split
    · decide
    · omega
theorem stepE_ok {w t k : Nat} {g : Group} {l l' : List Px} {bs bs' : List Bool} (hl : l.length < t) (h : stepE w t k g l bs = some (l', bs')) : l.length < l'.length ∧ l'.length ≤ t := by
  rw [stepE_eq] at h
  obtain ⟨s, bs1, _, h⟩ := bind_some h
  split at h
  · obtain ⟨p, bs2, _, h⟩ := bind_some h
    cases h
    rw [List.length_append]
    exact ⟨by simp, by simp; omega⟩
  · split at h
    · obtain ⟨n, bs2, hn, h⟩ := bind_some h
      obtain ⟨ds, bs3, _, h⟩ := bind_some h
      obtain ⟨dv, bs4, _, h⟩ := bind_some h
      obtain ⟨_, bs5, hq, h⟩ := bind_some h
      cases h
      have hq := (need_some hq).1
      rw [Bool.and_eq_true] at hq
      have h2 := of_decide_eq_true hq.2
      have h3 := value_pos hn
      rw [again_len]
      omega
    · cases h
      rw [List.length_append]
      exact ⟨by simp, by simp; omega⟩
theorem or4 {a r g b i j k : Nat} (hr : r < 2 ^ i) (hg : g < 2 ^ j) (hb : b < 2 ^ k) : Builtin.bitOr (Builtin.bitOr (Builtin.bitOr ((a * 2 ^ (i + (j + k)) : Nat) : Int) ((r * 2 ^ (j + k) : Nat) : Int)) ((g * 2 ^ k : Nat) : Int)) ((b : Nat) : Int) = ((((a * 2 ^ i + r) * 2 ^ j + g) * 2 ^ k + b : Nat) : Int) := by
  have h1 : r * 2 ^ (j + k) < 2 ^ (i + (j + k)) := by
    rw [Nat.pow_add 2 i]
    exact Nat.mul_lt_mul_of_pos_right hr (Nat.pow_pos (by decide))
  have h2 : g * 2 ^ k < 2 ^ (j + k) := by
    rw [Nat.pow_add 2 j]
    exact Nat.mul_lt_mul_of_pos_right hg (Nat.pow_pos (by decide))
  have e1 : a * 2 ^ (i + (j + k)) + r * 2 ^ (j + k) = (a * 2 ^ i + r) * 2 ^ (j + k) := by rw [Nat.add_mul, Nat.pow_add 2 i, Nat.mul_assoc]
  have e2 : (a * 2 ^ i + r) * 2 ^ (j + k) + g * 2 ^ k = ((a * 2 ^ i + r) * 2 ^ j + g) * 2 ^ k := by rw [Nat.add_mul _ g, Nat.pow_add 2 j, Nat.mul_assoc]
  rw [bor_high h1, e1, bor_high h2, e2, bor_high hb]
theorem word_int {p : Px} (h : PxOk p) : Builtin.bitOr (Builtin.bitOr (Builtin.bitOr ((p.a : Int) * 2 ^ (24 : Int).toNat) ((p.r : Int) * 2 ^ (16 : Int).toNat)) ((p.g : Int) * 2 ^ (8 : Int).toNat)) (p.b : Int) = ((p.word : Nat) : Int) := by
  obtain ⟨h1, h2, h3, h4⟩ := h
  have e1 : (p.a : Int) * 2 ^ (24 : Int).toNat = ((p.a * 2 ^ (8 + (8 + 8)) : Nat) : Int) := by rw [show (24 : Int).toNat = 8 + (8 + 8) from rfl, two_pow_int, ← Int.natCast_mul]
  have e2 : (p.r : Int) * 2 ^ (16 : Int).toNat = ((p.r * 2 ^ (8 + 8) : Nat) : Int) := by rw [show (16 : Int).toNat = 8 + 8 from rfl, two_pow_int, ← Int.natCast_mul]
  have e3 : (p.g : Int) * 2 ^ (8 : Int).toNat = ((p.g * 2 ^ 8 : Nat) : Int) := by rw [show (8 : Int).toNat = 8 from rfl, two_pow_int, ← Int.natCast_mul]
  rw [e1, e2, e3, or4 (show p.r < 2 ^ 8 from h2) (show p.g < 2 ^ 8 from h3) (show p.b < 2 ^ 8 from h4)]
  rfl
def isWord : Px → V → Hp → Prop := fun p v _ => v = nat p.word ∧ PxOk p
theorem CodeAt.meth {t : Ad} {H : Hp} {a : Addr} {c : Sn15.Code} (h : CodeAt t H a c) : ∃ dx fs, H a = some (.ins t.CC dx fs) ∧ fs.lookup ("next_symbol" : Str) = none := by
  obtain ⟨dx, wa, was, words, sole, h1, _⟩ := h
  exact ⟨dx, _, h1, codeF_no _ _ (by decide +kernel) (by decide +kernel)⟩

section
variable {P : Program} {w : World} {K : PySem.W.Frag} {mg : Str → Option Value} {base : Heap} {t : Ad}
/-! ### read_colour -/
def spColour (t : Ad) : Sp := fun vs H Q E => ∃ (B : Bi) (bs : List Bool) (s k : Nat) (ga : Addr) (g : Group), vs = [.ref B.p, nat s, .ref ga] ∧ s < 256 ∧ GroupAt t H k ga g ∧ BitsAt t H B bs ∧ Out t E B [] H isWord Q (mColour g s bs)
theorem scColour : FnScope ["bits", "green", "group", "red", "blue", "alpha"] ["bits", "green", "group"] (defScope sColour) := ⟨rfl, rfl, rfl, by decide +kernel, rfl, by decide +kernel, by decide +kernel⟩
theorem ok_Colour {f : Addr} {fd : FuncData} (F : Fun K "read_colour" "read_colour" sColour f fd) (T : Tx K mg t) (Gx : MethOk P w K mg base 2 t.CC "next_symbol" ["self", "bits"] (spNext t)) : FnOk P w K mg base (CXe P w) 3 f fd ["bits", "green", "group"] (spColour t) := by
  obtain ⟨uR, hR, rR⟩ := T.kRED
  obtain ⟨uB, hB, rB⟩ := T.kBLUE
  obtain ⟨uA, hA, rA⟩ := T.kALPHA
  refine F.okE scColour (fun vs H Q E h => ?_) (fun cdv A outer s H vs Q E hr h => ?_)
  · obtain ⟨B, bs, s, k, ga, g, rfl, _⟩ := h
    rfl
  · obtain ⟨B, bs, sy, kk, ga, g, rfl, hs, hG, hb, k⟩ := h
    refine ⟨_, pss_cons (ps_set (i := 3) scColour.nd rfl (Or.inl rfl) (pm Gx Lv.of T.cC hr (pe_ix ix_list (pv 2) (pe_glob (by rfl) hR rR) (fun _ _ => rfl)) (pa_cons (pv 0) pa_nil)))
      (pss_cons (ps_set (i := 4) scColour.nd rfl (Or.inl rfl) (pm Gx Lv.of T.cC hr (pe_ix ix_list (pv 2) (pe_glob (by rfl) hB rB) (fun _ _ => rfl)) (pa_cons (pv 0) pa_nil)))
      (pss_cons (ps_set (i := 5) scColour.nd rfl (Or.inl rfl) (pm Gx Lv.of T.cC hr (pe_ix ix_list (pv 2) (pe_glob (by rfl) hA rA) (fun _ _ => rfl)) (pa_cons (pv 0) pa_nil)))
      (pss_one (ps_ret (pe_op op_or (pe_op op_or (pe_op op_or (pe_op op_shl (pv 5) pe_int) (pe_op op_shl (pv 3) pe_int)) (pe_op op_shl (pv 1) pe_int)) (pv 4)))))), ?_⟩
    have hok : ∀ p bs', mColour g sy bs = some (p, bs') → PxOk p := fun p bs' h => by
      obtain ⟨_, _, _, _, _, _, _, _, _, _, _, ho⟩ := hG
      exact mColour_ok ho hs h
    have k0 : Out t E B [] H (fun (p : Px) v _ => v = nat p.word) Q (mColour g sy bs) := by
      cases hm : mColour g sy bs with
      | none => rw [hm] at k; exact k
      | some x => rw [hm] at k; exact fun v H2 b k2 r => k v H2 b k2 ⟨r, hok x.1 x.2 hm⟩
    have hoks := hok
    unfold mColour at k0 hoks
    obtain ⟨a0, a1, a2, a3, a4, g0, c0, c1, c2, c3, c4, go⟩ := id hG
    obtain ⟨dx1, fs1, e1, e2⟩ := c1.meth
    refine ⟨_, rfl, ga, _, _, .ref a1, rfl, rfl, SqL.of g0, at_of (j := 1) rfl rfl, a1, dx1, fs1, rfl, e1, e2, _, rfl, B, bs, a1, _, rfl, c1, hb, k0.bind fun r bs1 v1 H1 hm1 hb1 kp1 hv1 k1 => ?_⟩
    cases hv1
    obtain ⟨dx2, fs2, e3, e4⟩ := (c2.kept hb kp1).meth
    refine ⟨_, rfl, ga, _, _, .ref a2, rfl, rfl, SqL.of (kp1.lst hb g0), at_of (j := 2) rfl rfl, a2, dx2, fs2, rfl, e3, e4, _, rfl, B, bs1, a2, _, rfl, c2.kept hb kp1, hb1, k1.bind fun b bs2 v2 H2 hm2 hb2 kp2 hv2 k2 => ?_⟩
    cases hv2
    have kp12 := kp1.trans kp2
    obtain ⟨dx3, fs3, e5, e6⟩ := (c3.kept hb kp12).meth
    refine ⟨_, rfl, ga, _, _, .ref a3, rfl, rfl, SqL.of (kp12.lst hb g0), at_of (j := 3) rfl rfl, a3, dx3, fs3, rfl, e5, e6, _, rfl, B, bs2, a3, _, rfl, c3.kept hb kp12, hb2, k2.bind fun a bs3 v3 H3 hm3 hb3 kp3 hv3 k3 => ?_⟩
    cases hv3
    have hp : PxOk ⟨a, r, sy, b⟩ := hok _ bs3 (by
      unfold mColour
      rw [d_bind, hm1]
      simp only [Option.bind_some]
      rw [d_bind, hm2]
      simp only [Option.bind_some]
      rw [d_bind, hm3]
      rfl)
    obtain ⟨q1, q2, q3, q4⟩ := id hp
    refine ⟨_, rfl, _, _, rfl, rfl, ⟨by decide, by decide, ?_⟩, _, rfl, _, _, rfl, rfl, ⟨by decide, by decide, ?_⟩, _, _, rfl, rfl, _, rfl, _, _, rfl, rfl, ⟨by decide, by decide, ?_⟩, _, _, rfl, rfl, _, rfl, _, _, rfl, rfl, ?_⟩
    · simp only [] at q1; omega
    · simp only [] at q2; omega
    · omega
    · have ew := word_int hp
      dsimp only at ew ⊢
      rw [ew]
      exact k3.pure hb3 rfl
/-! ### read_step -/
def isStep (t : Ad) (C : Ca) (w s k : Nat) : List Px → V → Hp → Prop := fun l v H => v = .non ∧ CanvasAt t H C w s k l
/-- the canvas stands apart from what was there at H0 -/
structure Apart (t : Ad) (H0 H : Hp) (B : Bi) (C : Ca) : Prop where
  kp : Kept [B.p] H0 H
  b0 : ∃ bs0, BitsAt t H0 B bs0
  nl : H0 C.l = none
  nc : H0 C.c = none
theorem Apart.bits {t : Ad} {H0 H Hx Hy : Hp} {B : Bi} {C : Ca} {bs : List Bool} (a : Apart t H0 H B C) (hb : BitsAt t Hx B bs) (k : Kept [C.l, C.c] Hx Hy) : BitsAt t Hy B bs := by
  obtain ⟨bs0, dz, iz, z1, z2, _⟩ := a.b0
  refine hb.kept k ?_ ?_
  · simp only [List.mem_cons, List.not_mem_nil, or_false]
    exact fun z => z.elim (ne_of_none z1 a.nl) (ne_of_none z1 a.nc)
  · simp only [List.mem_cons, List.not_mem_nil, or_false]
    exact fun z => z.elim (ne_of_none z2 a.nl) (ne_of_none z2 a.nc)
theorem Apart.next {t : Ad} {H0 H H' : Hp} {B : Bi} {C : Ca} (a : Apart t H0 H B C) (k : Kept [B.p, C.l, C.c] H H') : Apart t H0 H' B C := by
  refine ⟨fun b o e n => k b o (a.kp b o e n) ?_, a.b0, a.nl, a.nc⟩
  simp only [List.mem_cons, List.not_mem_nil, or_false] at n ⊢
  exact fun z => z.elim n fun z => z.elim (ne_of_none e a.nl) (ne_of_none e a.nc)
def spStep (t : Ad) : Sp := fun vs H Q E => ∃ (B : Bi) (bs : List Bool) (C : Ca) (w s k : Nat) (l : List Px) (ga : Addr) (g : Group) (H0 : Hp), vs = [.ref B.p, .ref C.p, .ref ga] ∧ GroupAt t H k ga g ∧ Apart t H0 H B C ∧ CanvasAt t H C w s k l ∧ BitsAt t H B bs ∧
  l.length < s ∧ s ≤ 2 ^ 23 ∧ w ≤ 2 ^ 20 ∧ Out t E B [C.l, C.c] H (isStep t C w s k) Q (stepE w s k g l bs)
theorem scStep : FnScope ["bits", "canvas", "group", "symbol", "length", "value"] ["bits", "canvas", "group"] (defScope sStep) := ⟨rfl, rfl, rfl, by decide +kernel, rfl, by decide +kernel, by decide +kernel⟩
theorem ok_Step {f : Addr} {fd : FuncData} (F : Fun K "read_step" "read_step" sStep f fd) (T : Tx K mg t) (Gx : MethOk P w K mg base 2 t.CC "next_symbol" ["self", "bits"] (spNext t)) (Gp : MethOk P w K mg base 1 t.CV "put" ["self", "colour"] (spPut t)) (Gc : MethOk P w K mg base 2 t.CV "put_cached" ["self", "slot"] (spPutC t))
    (Gr : MethOk P w K mg base 2 t.CV "repeat" ["self", "length", "distance"] (spRepeat t)) (Gv : DefOk P w K mg base 3 "read_value" ["bits", "symbol"] (spValue t)) (Gd : DefOk P w K mg base 1 "distance_of" ["value", "width"] spDist) (Gk : DefOk P w K mg base 3 "read_colour" ["bits", "green", "group"] (spColour t)) :
    FnOk P w K mg base (CXe P w) 4 f fd ["bits", "canvas", "group"] (spStep t) := by
  obtain ⟨uF, hF, rF⟩ := T.kFIRST
  obtain ⟨uD, hD, rD⟩ := T.kDISTANCE
  refine F.okE scStep (fun vs H Q E h => ?_) (fun cdv A outer s H vs Q E hr h => ?_)
  · obtain ⟨B, bs, C, w, s, k, l, ga, g, H0, rfl, _⟩ := h
    rfl
  · obtain ⟨B, bs, C, w, sz, kc, l, ga, g, H0, rfl, hG, ap, hC, hb, hl, hsz, hw, k⟩ := h
    have hr1 : Room 1 _ := hr.mono (by decide)
    have hr2 : Room 2 _ := hr.mono (by decide)
    refine ⟨_, pss_cons (ps_set (i := 3) scStep.nd rfl (Or.inl rfl) (pm Gx Lv.of T.cC hr2 (pe_ix ix_list (pv 2) (pe_glob (by rfl) hF rF) (fun _ _ => rfl)) (pa_cons (pv 0) pa_nil)))
      (pss_one (ps_if (pt_cmpR op_lt (pv 3) pe_int (nomark _)) (pss_one (ps_expr (pm Gp Lv.of T.cV hr1 (pv 1) (pa_cons (pd Gk Lv.of hr (pa_cons (pv 0) (pa_cons (pv 3) (pa_cons (pv 2) pa_nil)))) pa_nil))))
        (pss_one (ps_if (pt_cmpR op_lt (pv 3) pe_int (nomark _))
          (pss_cons (ps_set (i := 4) scStep.nd rfl (Or.inl rfl) (pd Gv Lv.of hr (pa_cons (pv 0) (pa_cons (pe_op op_sub (pv 3) pe_int) pa_nil))))
          (pss_cons (ps_set (i := 5) scStep.nd rfl (Or.inl rfl) (pd Gv Lv.of hr (pa_cons (pv 0) (pa_cons (pm Gx Lv.of T.cC hr2 (pe_ix ix_list (pv 2) (pe_glob (by rfl) hD rD) (fun _ _ => rfl)) (pa_cons (pv 0) pa_nil)) pa_nil))))
          (pss_one (ps_expr (pm Gr Lv.of T.cV hr2 (pv 1) (pa_cons (pv 4) (pa_cons (pd Gd Lv.of hr1 (pa_cons (pv 5) (pa_cons (pe_fld (pv 1) rfl) pa_nil))) pa_nil)))))))
          (pss_one (ps_expr (pm Gc Lv.of T.cV hr2 (pv 1) (pa_cons (pe_op op_sub (pv 3) pe_int) pa_nil)))))))), ?_⟩
    rw [stepE_eq] at k
    obtain ⟨a0, a1, a2, a3, a4, g0, c0, c1, c2, c3, c4, go⟩ := id hG
    obtain ⟨dx1, fs1, e1, e2⟩ := c0.meth
    refine ⟨_, rfl, ga, _, _, .ref a0, rfl, rfl, SqL.of g0, at_of (j := 0) rfl rfl, a0, dx1, fs1, rfl, e1, e2, _, rfl, B, bs, a0, _, rfl, c0, hb, k.bind fun sy bs1 v1 H1 hm1 hb1 kp1 hv1 k1 => ?_⟩
    cases hv1
    have hsy := symbol_lt hm1
    rw [go.g1] at hsy
    have hC1 := hC.kept hb kp1
    have hsl : l.length < sizeLine := Nat.lt_of_lt_of_le hl (Nat.le_trans hsz (by decide))
    refine ⟨_, rfl, _, _, rfl, rfl, _, rfl, ite2 (fun e => ?_) (fun e => ?_)⟩
    · have h256 : sy < 256 := by have := of_decide_eq_true e; omega
      rw [if_pos h256] at k1
      obtain ⟨dxp, fsp, e3, e4⟩ := hC1.meth (m := "put")
      refine ⟨_, rfl, C.p, dxp, fsp, rfl, e3, e4, _, rfl, _, rfl, _, rfl, B, bs1, sy, kc, ga, g, rfl, h256, hG.kept hb kp1, hb1, k1.bind fun p bs2 v2 H2 hm2 hb2 kp2 hv2 k2 => ?_⟩
      obtain ⟨rfl, hpx⟩ := hv2
      have hC2 := hC1.kept hb1 kp2
      refine ⟨C, w, sz, kc, l, p, rfl, hC2, hpx, hsl, fun H3 hC3 kp3 => ?_⟩
      exact k2.pure' (ap.bits hb2 kp3) (kp3.mono (fun x hx => List.mem_cons_of_mem _ hx)) ⟨rfl, hC3⟩
    · have h256 : ¬ sy < 256 := fun z => e (decide_eq_true (by omega))
      rw [if_neg h256] at k1
      refine ⟨_, rfl, _, _, rfl, rfl, _, rfl, ite2 (fun e5 => ?_) (fun e5 => ?_)⟩
      · have h280 : sy < 280 := by have := of_decide_eq_true e5; omega
        rw [if_pos h280] at k1
        have q1 : (sy : Int) - 256 = ((sy - 256 : Nat) : Int) := by omega
        refine ⟨_, rfl, _, rfl, _, _, rfl, rfl, ?_⟩
        dsimp only
        rw [q1]
        refine ⟨B, bs1, sy - 256, rfl, by omega, hb1, k1.bind fun n bs2 v2 H2 hm2 hb2 kp2 hv2 k2 => ?_⟩
        cases hv2
        have hn := value_le (by omega) hm2
        have kp12 := kp1.trans kp2
        obtain ⟨dx2, fs2, e6, e7⟩ := (c4.kept hb kp12).meth
        refine ⟨_, rfl, _, rfl, ga, _, _, .ref a4, rfl, rfl, SqL.of (kp12.lst hb g0), at_of (j := 4) rfl rfl, a4, dx2, fs2, rfl, e6, e7, _, rfl, B, bs2, a4, _, rfl, c4.kept hb kp12, hb2, k2.bind fun ds bs3 v3 H3 hm3 hb3 kp3 hv3 k3 => ?_⟩
        cases hv3
        have hds := symbol_lt hm3
        rw [go.d1] at hds
        refine ⟨B, bs3, ds, rfl, by omega, hb3, k3.bind fun dv bs4 v4 H4 hm4 hb4 kp4 hv4 k4 => ?_⟩
        cases hv4
        have hdv := value_le hds hm4
        have hdp := value_pos hm4
        have hC4 := ((hC1.kept hb1 kp2).kept hb2 kp3).kept hb3 kp4
        obtain ⟨dxp, fsp, e8, e9⟩ := hC4.meth (m := "repeat")
        obtain ⟨dxi, hin⟩ := hC4.ins
        obtain ⟨kt, kf⟩ := k4.need
        refine ⟨_, rfl, C.p, dxp, fsp, rfl, e8, e9, _, rfl, _, rfl, _, rfl, C.p, t.CV, dxi, _, _, rfl, hin, T.cV, T.vW, canvasF_w _ _ _ _ _, dv, w, rfl, hdp, hw,
          C, w, sz, kc, n, back w dv, l, rfl, hC4, back_pos w dv hdp, hsz, Nat.le_trans hn (by decide), back_le hw hdv hdp, by omega, fun hc H5 hC5 kp5 => ?_, fun hc => ?_⟩
        · have kq := kt (by rw [decide_eq_true hc.1, decide_eq_true hc.2]; rfl)
          exact kq.pure' (ap.bits hb4 kp5) (kp5.mono (fun x hx => List.mem_cons_of_mem _ hx)) ⟨rfl, hC5⟩
        · refine kf ?_
          rw [Bool.and_eq_false_iff]
          by_cases h1 : back w dv ≤ l.length
          · exact .inr (decide_eq_false fun z => hc ⟨h1, z⟩)
          · exact .inl (decide_eq_false h1)
      · have h280 : ¬ sy < 280 := fun z => e5 (decide_eq_true (by omega))
        rw [if_neg h280] at k1
        have q1 : (sy : Int) - 280 = ((sy - 280 : Nat) : Int) := by omega
        have hkc : 0 < kc ∧ sy - 280 < 2 ^ kc := by
          unfold csize at hsy
          by_cases h0 : kc = 0
          · rw [if_pos h0] at hsy; omega
          · rw [if_neg h0] at hsy
            generalize (2 : Nat) ^ kc = m at *
            omega
        obtain ⟨dxp, fsp, e8, e9⟩ := hC1.meth (m := "put_cached")
        refine ⟨_, rfl, C.p, dxp, fsp, rfl, e8, e9, _, rfl, _, _, rfl, rfl, ?_⟩
        dsimp only
        rw [q1]
        refine ⟨C, w, sz, kc, sy - 280, l, rfl, hC1, hkc.1, hkc.2, hsl, fun H3 hC3 kp3 => ?_⟩
        exact k1.pure' (ap.bits hb1 kp3) (kp3.mono (fun x hx => List.mem_cons_of_mem _ hx)) ⟨rfl, hC3⟩
/-! ### read_colours -/
def isPic (n : Nat) : List Px → V → Hp → Prop := fun l v H => ∃ a, v = .ref a ∧ H a = some (.lst (natsV (wordsOfPx l))) ∧ l.length = n ∧ ∀ p ∈ l, PxOk p
def spColours (t : Ad) : Sp := fun vs H Q E => ∃ (B : Bi) (bs : List Bool) (C : Ca) (w h k : Nat) (gs : List Group) (wh : Nat → Nat → Nat) (G : Addr) (H0 : Hp), vs = [.ref B.p, .ref C.p, .ref G] ∧ GrsAt t H0 k G w h gs wh ∧ Apart t H0 H B C ∧ CanvasAt t H C w (w * h) k [] ∧ BitsAt t H B bs ∧
  0 < w ∧ 0 < h ∧ w * h ≤ 2 ^ 20 ∧ Out t E B [C.l, C.c] H (isPic (w * h)) Q (elems w h k gs wh bs)
theorem scColours : FnScope ["bits", "canvas", "groups", "place", "group"] ["bits", "canvas", "groups"] (defScope sColours) := ⟨rfl, rfl, rfl, by decide +kernel, rfl, by decide +kernel, by decide +kernel⟩
def ColoursW (t : Ad) (E : XK) (B : Bi) (C : Ca) (H0 H : Hp) (Q : VK) (w h k : Nat) (gs : List Group) (wh : Nat → Nat → Nat) (G : Addr) (m : Nat) (σ : L2.St) (Hx : Hp) : Prop := ∃ (l : List Px) (bs : List Bool) (v3 v4 : Option V) (n : Nat), m = w * h - l.length ∧ σ = [some (.ref B.p), some (.ref C.p), some (.ref G), v3, v4] ∧
  Apart t H0 Hx B C ∧ CanvasAt t Hx C w (w * h) k l ∧ BitsAt t Hx B bs ∧ l.length ≤ w * h ∧ Kept [B.p, C.l, C.c] H Hx ∧ w * h - l.length < n ∧ Out t E B [C.l, C.c] H (isPic (w * h)) Q (Sn15.elements w (w * h) k gs wh n l bs)
theorem ok_Colours {f : Addr} {fd : FuncData} (F : Fun K "read_colours" "read_colours" sColours f fd) (T : Tx K mg t) (Gg : MethOk P w K mg base 2 t.CG "group_at" ["self", "x", "y"] (spGrpAt t)) (Gs : DefOk P w K mg base 4 "read_step" ["bits", "canvas", "group"] (spStep t)) :
    FnOk P w K mg base (CXe P w) 5 f fd ["bits", "canvas", "groups"] (spColours t) := by
  refine F.okE scColours (fun vs H Q E h => ?_) (fun cdv A outer s H vs Q E hr h => ?_)
  · obtain ⟨B, bs, C, w, h, k, gs, wh, G, H0, rfl, _⟩ := h
    rfl
  · obtain ⟨B, bs, C, w, h, kc, gs, wh, G, H0, rfl, hG0, ap, hC, hb, hw0, hh0, hwh, k⟩ := h
    have hr2 : Room 2 _ := hr.mono (by decide)
    refine ⟨_, pss_cons (ps_while Lv.of.own (pt_cmpR op_lt (pe_callB call_len_seq (by rfl) T.len PySem.boot_len (pa_cons (pe_fld (pv 1) rfl) pa_nil)) (pe_fld (pv 1) rfl) (nomark _))
        (pss_cons (ps_set (i := 3) scColours.nd rfl (Or.inl rfl) (pe_callB call_len_seq (by rfl) T.len PySem.boot_len (pa_cons (pe_fld (pv 1) rfl) pa_nil)))
        (pss_cons (ps_set (i := 4) scColours.nd rfl (Or.inl rfl) (pm Gg Lv.of T.cG hr2 (pv 2) (pa_cons (pe_op op_mod (pv 3) (pe_fld (pv 1) rfl)) (pa_cons (pe_op op_fdiv (pv 3) (pe_fld (pv 1) rfl)) pa_nil))))
        (pss_one (ps_expr (pd Gs Lv.of hr (pa_cons (pv 0) (pa_cons (pv 1) (pa_cons (pv 4) pa_nil)))))))))
      (pss_one (ps_ret (pe_fld (pv 1) rfl))), ?_⟩
    have hwle : w ≤ 2 ^ 20 := Nat.le_trans (Nat.le_mul_of_pos_right w hh0) hwh
    have hhle : h ≤ 2 ^ 20 := Nat.le_trans (Nat.le_mul_of_pos_left h hw0) hwh
    refine ⟨ColoursW t E B C H0 H Q w h kc gs wh G, ⟨_, [], bs, none, none, w * h + 1, rfl, rfl, ap, hC, hb, Nat.zero_le _, Kept.refl _ _, by simp, k⟩, ?_⟩
    rintro m σ Hx ⟨l, bs1, v3, v4, n, rfl, rfl, ap1, hC1, hb1, hl, kp1, hn, k1⟩
    obtain ⟨dx, hin⟩ := hC1.ins
    have hwl : (natsV (wordsOfPx l)).length = l.length := by rw [natsV_len]; unfold wordsOfPx; rw [List.length_map]
    obtain ⟨n', rfl⟩ : ∃ n', n = n' + 1 := ⟨n - 1, by omega⟩
    refine ⟨_, rfl, C.p, t.CV, dx, _, _, rfl, hin, T.cV, T.vC, canvasF_l _ _ _ _ _, C.l, _, rfl, .inl (SqL.of hC1.lst), _, rfl, C.p, t.CV, dx, _, _, rfl, hin, T.cV, T.vS, canvasF_s _ _ _ _ _, _, _, rfl, rfl, _, rfl, ite2 (fun e => ?_) (fun e => ?_)⟩
    · have hlt : l.length < w * h := by have := of_decide_eq_true e; rw [hwl] at this; omega
      refine ⟨fun σ' H' => ∃ m', m' < w * h - l.length ∧ ColoursW t E B C H0 H Q w h kc gs wh G m' σ' H', fun _ _ h => h, ?_⟩
      obtain ⟨bs0, hb0⟩ := ap.b0
      have hG1 := hG0.kept hb0 ap1.kp
      obtain ⟨gdx, gla, gsv, ggas, gh1, _⟩ := hG1.ex
      refine ⟨_, rfl, C.p, t.CV, dx, _, _, rfl, hin, T.cV, T.vC, canvasF_l _ _ _ _ _, C.l, _, rfl, .inl (SqL.of hC1.lst), ?_⟩
      rw [hwl]
      have q1 : (l.length : Int) % (w : Int) = ((l.length % w : Nat) : Int) := by omega
      have q2 : (l.length : Int) / (w : Int) = ((l.length / w : Nat) : Int) := by rw [Int.natCast_ediv]
      refine ⟨_, rfl, G, gdx, _, rfl, gh1, grF_no _ _ (by decide +kernel) (by decide +kernel), _, rfl, _, rfl, C.p, t.CV, dx, _, _, rfl, hin, T.cV, T.vW, canvasF_w _ _ _ _ _, _, _, rfl, rfl, (by show (0 : Int) < (w : Int); omega), _, rfl, _, rfl, C.p, t.CV, dx, _, _, rfl, hin, T.cV, T.vW, canvasF_w _ _ _ _ _, _, _, rfl, rfl, ⟨by show (0 : Int) < (w : Int); omega, by show (w : Int) < 1073741824; omega⟩, ?_⟩
      dsimp only
      rw [q1, q2]
      have hdiv : l.length / w < h := by rw [Nat.div_lt_iff_lt_mul hw0, Nat.mul_comm]; exact hlt
      refine ⟨G, kc, w, h, l.length % w, l.length / w, gs, wh, rfl, hG1, Nat.mod_lt _ hw0, hdiv, hwle, hhle, fun ga g hg hga => ?_⟩
      rw [elements_step w (w * h) kc gs wh n' l g hlt hg] at k1
      refine ⟨_, rfl, _, rfl, _, rfl, B, bs1, C, w, w * h, kc, l, ga, g, H0, rfl, hga, ap1, hC1, hb1, hlt, Nat.le_trans hwh (by decide), hwle, (k1.shift kp1).bind' (fun x hx => hx) fun l' bs2 v H2 hm hb2 kp2 hv k2 => ?_⟩
      obtain ⟨rfl, hC2⟩ := hv
      obtain ⟨h1, h2⟩ := stepE_ok hlt hm
      exact ⟨w * h - l'.length, by omega, l', bs2, _, _, n', rfl, rfl, ap1.next kp2, hC2, hb2, h2, kp1.trans kp2, by omega, k1.next hm⟩
    · have hge : w * h ≤ l.length := by
        have : ¬ ((natsV (wordsOfPx l)).length : Int) < ((w * h : Nat) : Int) := fun z => e (decide_eq_true z)
        rw [hwl] at this
        omega
      rw [elements_end w (w * h) kc gs wh n' l hge] at k1
      refine ⟨_, rfl, C.p, t.CV, dx, _, _, rfl, hin, T.cV, T.vC, canvasF_l _ _ _ _ _, ?_⟩
      exact k1.pure' hb1 kp1 ⟨C.l, rfl, hC1.lst, by omega, hC1.ok⟩
end
end Lk
end
section
set_option Elab.async false
set_option linter.all false
set_option maxRecDepth 100000
set_option maxHeartbeats 2000000
namespace Lk
open PySem PySem.Spec PyProof.Rows L2
open Sn15 (D bits bitsOf symbol Px Group up)

abbrev sSquares : Stmt := top 34
abbrev sPlain : Stmt := top 35
abbrev sGrouped : Stmt := top 36
abbrev sGroups : Stmt := top 38
abbrev sGroup : Stmt := top 39

/-! ### a group: the mathematics -/
def mCodes : List Nat → D (List Sn15.Code)
  | [] => pure []
  | n :: r => Sn15.code n >>= fun c => mCodes r >>= fun cs => pure (c :: cs)
def groupOf (cs : List Sn15.Code) : Group := ⟨cs.getD 0 [], cs.getD 1 [], cs.getD 2 [], cs.getD 3 [], cs.getD 4 []⟩
theorem group_codes (c : Nat) : Sn15.group c = (mCodes [280 + c, 256, 256, 256, 40] >>= fun cs => pure (groupOf cs)) := by
  unfold Sn15.group
  simp only [mCodes, d_assoc, d_pure_bind]
  rfl
def sizesOf (c : Nat) : List Nat := [280 + c, 256, 256, 256, 40]
theorem CodeNew.kept {H0 : Hp} {t : Ad} {H H' : Hp} {B : Bi} {bs : List Bool} {a : Addr} {c : Sn15.Code} (h : CodeNew H0 t H a c) (b : BitsAt t H B bs) (k : Kept [B.p] H H') : CodeNew H0 t H' a c := by
  obtain ⟨dx, wa, was, words, sole, ⟨h1, h2, h3, h4⟩, n⟩ := h
  exact ⟨dx, wa, was, words, sole, ⟨k.ins b h1 (by decide +kernel), k.lst b h2, h3.kept fun x l e => k.lst b e, h4⟩, n⟩
theorem CodeNew.over {H0 : Hp} {t : Ad} {H : Hp} {a la : Addr} {c : Sn15.Code} {o u : HO} (h : CodeNew H0 t H a c) (hl : H0 la = some u) : CodeNew H0 t (upd H la o) a c := by
  obtain ⟨dx, wa, was, words, sole, ⟨h1, h2, h3, h4⟩, n1, n2, n3⟩ := h
  have ne : ∀ x, H0 x = none → x ≠ la := fun x hx => (ne_of_none hl hx).symm
  refine ⟨dx, wa, was, words, sole, ⟨by rw [upd_ne (ne _ n1)]; exact h1, by rw [upd_ne (ne _ n2)]; exact h2, ⟨h3.len, fun j x e => ?_⟩, h4⟩, n1, n2, n3⟩
  obtain ⟨w1, e1, e2⟩ := h3.at_ j x e
  exact ⟨w1, e1, by rw [upd_ne (ne _ (n3 x (List.mem_of_getElem? e)))]; exact e2⟩
theorem five {α : Type} {l : List α} (h : l.length = 5) : ∃ a b c d e, l = [a, b, c, d, e] := by
  match l, h with
  | [a, b, c, d, e], _ => exact ⟨a, b, c, d, e, rfl⟩
/-- codes at the places as, of the sizes ns, new since H0 -/
structure CodesAt (H0 : Hp) (t : Ad) (H : Hp) (as : List Addr) (cs : List Sn15.Code) (ns : List Nat) : Prop where
  l1 : as.length = cs.length
  l2 : cs.map List.length = ns
  at_ : ∀ (j : Nat) (a : Addr), as[j]? = some a → ∃ c, cs[j]? = some c ∧ CodeNew H0 t H a c
/-- a group whose objects are new since H0 -/
def GroupNew (H0 : Hp) (t : Ad) (H : Hp) (k : Nat) (ga : Addr) (g : Group) : Prop := ∃ a0 a1 a2 a3 a4 : Addr, H ga = some (.lst [.ref a0, .ref a1, .ref a2, .ref a3, .ref a4]) ∧ CodeNew H0 t H a0 g.green ∧ CodeNew H0 t H a1 g.red ∧ CodeNew H0 t H a2 g.blue ∧ CodeNew H0 t H a3 g.alpha ∧ CodeNew H0 t H a4 g.distance ∧ GroupOk k g ∧ H0 ga = none
theorem GroupNew.toAt {H0 : Hp} {t : Ad} {H : Hp} {k : Nat} {ga : Addr} {g : Group} (h : GroupNew H0 t H k ga g) : GroupAt t H k ga g := by
  obtain ⟨a0, a1, a2, a3, a4, h0, h1, h2, h3, h4, h5, h6, _⟩ := h
  exact ⟨a0, a1, a2, a3, a4, h0, h1.toAt, h2.toAt, h3.toAt, h4.toAt, h5.toAt, h6⟩
theorem GroupNew.rebase {H0 H1 : Hp} {t : Ad} {H : Hp} {k : Nat} {ga : Addr} {g : Group} (h : GroupNew H1 t H k ga g) (d : ∀ x, H1 x = none → H0 x = none) : GroupNew H0 t H k ga g := by
  obtain ⟨a0, a1, a2, a3, a4, h0, h1, h2, h3, h4, h5, h6, h7⟩ := h
  exact ⟨a0, a1, a2, a3, a4, h0, h1.rebase d, h2.rebase d, h3.rebase d, h4.rebase d, h5.rebase d, h6, d _ h7⟩
theorem GroupNew.kept {H0 : Hp} {t : Ad} {H H' : Hp} {k : Nat} {ga : Addr} {g : Group} {B : Bi} {bs : List Bool} (h : GroupNew H0 t H k ga g) (b : BitsAt t H B bs) (kp : Kept [B.p] H H') : GroupNew H0 t H' k ga g := by
  obtain ⟨a0, a1, a2, a3, a4, h0, h1, h2, h3, h4, h5, h6, h7⟩ := h
  exact ⟨a0, a1, a2, a3, a4, kp.lst b h0, h1.kept b kp, h2.kept b kp, h3.kept b kp, h4.kept b kp, h5.kept b kp, h6, h7⟩
theorem GroupNew.over {H0 : Hp} {t : Ad} {H : Hp} {k : Nat} {ga la : Addr} {g : Group} {o u : HO} (h : GroupNew H0 t H k ga g) (hl : H0 la = some u) : GroupNew H0 t (upd H la o) k ga g := by
  obtain ⟨a0, a1, a2, a3, a4, h0, h1, h2, h3, h4, h5, h6, h7⟩ := h
  exact ⟨a0, a1, a2, a3, a4, by rw [upd_ne (ne_of_none hl h7).symm]; exact h0, h1.over hl, h2.over hl, h3.over hl, h4.over hl, h5.over hl, h6, h7⟩
theorem CodesAt.toGroup {H0 : Hp} {t : Ad} {H : Hp} {ga : Addr} {as : List Addr} {cs : List Sn15.Code} {k : Nat} (h : CodesAt H0 t H as cs (sizesOf (csize k))) (hg : H ga = some (.lst (as.map V.ref))) : GroupAt t H k ga (groupOf cs) ∧ ∀ H1 : Hp, H1 ga = none → (∀ x, H0 x = none → H1 x = none) → GroupNew H1 t H k ga (groupOf cs) := by
  obtain ⟨l1, l2, at_⟩ := h
  have h5 : cs.length = 5 := by have := congrArg List.length l2; simpa [sizesOf] using this
  obtain ⟨c0, c1, c2, c3, c4, rfl⟩ := five h5
  obtain ⟨a0, a1, a2, a3, a4, rfl⟩ := five (l1.trans h5)
  · obtain ⟨_, q0, r0⟩ := at_ 0 a0 rfl
    obtain ⟨_, q1, r1⟩ := at_ 1 a1 rfl
    obtain ⟨_, q2, r2⟩ := at_ 2 a2 rfl
    obtain ⟨_, q3, r3⟩ := at_ 3 a3 rfl
    obtain ⟨_, q4, r4⟩ := at_ 4 a4 rfl
    cases q0; cases q1; cases q2; cases q3; cases q4
    simp only [sizesOf, List.map_cons, List.map_nil, List.cons.injEq, and_true] at l2
    have ok : GroupOk k (groupOf [c0, c1, c2, c3, c4]) := ⟨l2.1, l2.2.1, l2.2.2.1, l2.2.2.2.1, l2.2.2.2.2⟩
    exact ⟨⟨a0, a1, a2, a3, a4, hg, r0.toAt, r1.toAt, r2.toAt, r3.toAt, r4.toAt, ok⟩, fun H1 n d => ⟨a0, a1, a2, a3, a4, hg, r0.rebase d, r1.rebase d, r2.rebase d, r3.rebase d, r4.rebase d, ok, n⟩⟩
def isGroup (t : Ad) (H0 : Hp) (k : Nat) : Group → V → Hp → Prop := fun g v H => ∃ ga, v = .ref ga ∧ GroupNew H0 t H k ga g
theorem csize_le {k : Nat} (h : k ≤ 11) : csize k ≤ 2048 := by
  unfold csize
  split
  · omega
  · exact Nat.le_trans (Nat.pow_le_pow_right (by decide) h) (by decide)

section
variable {P : Program} {w : World} {K : PySem.W.Frag} {mg : Str → Option Value} {base : Heap} {t : Ad}
/-! ### read_group -/
def spGroup (t : Ad) : Sp := fun vs H Q E => ∃ (B : Bi) (bs : List Bool) (k : Nat), vs = [.ref B.p, nat k] ∧ k ≤ 11 ∧ BitsAt t H B bs ∧ Out t E B [] H (isGroup t H k) Q (Sn15.group (csize k) bs)
theorem scGroup : FnScope ["bits", "depth", "cached", "codes", "size"] ["bits", "depth"] (defScope sGroup) := ⟨rfl, rfl, rfl, by decide +kernel, rfl, by decide +kernel, by decide +kernel⟩
/-- between two codes; H: the entry, H1: where the list and the tuple have been made -/
def GroupW (t : Ad) (E : XK) (B : Bi) (H H1 : Hp) (Q : VK) (k : Nat) (la ta : Addr) (i : Nat) (σ : L2.St) (Hx : Hp) : Prop := ∃ (as : List Addr) (cs : List Sn15.Code) (bs : List Bool) (v4 : Option V), σ = [some (.ref B.p), some (nat k), some (nat (csize k)), some (.ref la), v4] ∧
  Hx la = some (.lst (as.map V.ref)) ∧ Hx ta = some (.tup (natsV (sizesOf (csize k)))) ∧ CodesAt H1 t Hx as cs ((sizesOf (csize k)).take i) ∧ BitsAt t Hx B bs ∧ Kept [B.p] H Hx ∧ (∀ x, Hx x = none → H1 x = none) ∧ Out t E B [] H (isGroup t H k) Q ((mCodes ((sizesOf (csize k)).drop i) >>= fun r => pure (groupOf (cs ++ r))) bs)
theorem ok_Group {f : Addr} {fd : FuncData} (F : Fun K "read_group" "read_group" sGroup f fd) (T : Tx K mg t) (Gc : DefOk P w K mg base 6 "read_code" ["bits", "size"] (spCode t)) : FnOk P w K mg base (CXe P w) 7 f fd ["bits", "depth"] (spGroup t) := by
  refine F.okE scGroup (fun vs H Q E h => ?_) (fun cdv A outer s H vs Q E hr h => ?_)
  · obtain ⟨B, bs, k, rfl, _⟩ := h
    rfl
  · obtain ⟨B, bs, kc, rfl, hk, hb, k⟩ := h
    refine ⟨_, pss_cons (ps_set (i := 2) scGroup.nd rfl (Or.inl rfl) (pe_ifExp (pt_cmpR op_gt (pv 1) pe_int (nomark _)) (pe_op op_shl pe_int (pv 1)) pe_int))
      (pss_cons (ps_set (i := 3) scGroup.nd rfl (Or.inl rfl) (pe_lst pa_nil))
      (pss_cons (ps_for Lv.of.own rfl (pi_tup (pe_tup (pa_cons (pe_op op_add pe_int (pv 2)) (pa_cons pe_int (pa_cons pe_int (pa_cons pe_int (pa_cons pe_int pa_nil))))))) (pg_name (i := 4) scGroup.nd rfl (Or.inl rfl))
        (pss_one (ps_expr (pe_bm PySem.F.plainAttrs_list PySem.F.slot_list_append PySem.F.type_list_append mt_append (pv 3) (pa_cons (pd Gc Lv.of hr (pa_cons (pv 0) (pa_cons (pv 4) pa_nil))) pa_nil)))))
      (pss_one (ps_ret (pv 3))))), ?_⟩
    rw [group_codes] at k
    have hcs := csize_le hk
    have q280 : (280 : Int) + ((csize kc : Nat) : Int) = ((280 + csize kc : Nat) : Int) := by omega
    refine ⟨_, rfl, _, _, rfl, rfl, _, rfl, ite2 (fun e => ?_) (fun e => ?_)⟩
    · have h0 : ¬ kc = 0 := by have := of_decide_eq_true e; omega
      have ec : (1 : Int) * 2 ^ ((kc : Nat) : Int).toNat = ((csize kc : Nat) : Int) := by
        unfold csize
        rw [if_neg h0, Int.toNat_natCast, two_pow_int, Int.one_mul]
      refine ⟨_, rfl, _, _, rfl, rfl, ⟨by omega, by omega, by decide⟩, ?_⟩
      dsimp -proj only
      rw [ec]
      refine ⟨Nat.zero_le _, fun la hla => ?_⟩
      refine ⟨_, rfl, _, _, rfl, rfl, ?_⟩
      dsimp -proj only
      rw [q280]
      refine ⟨(by show 5 ≤ sizeLine; decide), fun ta hta => ⟨ta, rfl, ⟨_, SqT.of upd_same⟩, ?_⟩⟩
      generalize hH1 : upd (upd H la (.lst [])) ta _ = H1
      have la1 : H1 la = some (.lst []) := by rw [← hH1, upd_ne (ne_of_none upd_same hta)]; exact upd_same
      have ta1 : H1 ta = some (.tup (natsV (sizesOf (csize kc)))) := by rw [← hH1, upd_same]; rfl
      have sm : Same H H1 := by rw [← hH1]; exact same_new (same_new (Same.refl _) hla) hta
      refine for_tup (K := K) (a := ta) (xs := natsV (sizesOf (csize kc))) (GroupW t E B H H1 Q kc la ta) ⟨[], [], bs, none, rfl, la1, ta1, ⟨rfl, rfl, fun j a e => by simp at e⟩, hb.same sm, Kept.same sm _, fun x h => h, k⟩ (fun i σ Hz _ ⟨_, _, _, _, _, _, ht, _⟩ => SqT.of ht) ?_ ?_
      · rintro i x σ Hz hx ⟨as, cs, bs1, v4, rfl, hla1, hta1, hcs1, hb1, kp1, dm, k1⟩
        obtain ⟨n, hn, rfl⟩ := get_natsV hx
        have hil : i < (sizesOf (csize kc)).length := (List.getElem?_eq_some_iff.mp hn).1
        have hge : (sizesOf (csize kc))[i] = n := by rw [List.getElem?_eq_getElem hil] at hn; exact Option.some.inj hn
        have hn3 : n ≤ 3000 := by
          have hm := List.mem_of_getElem? hn
          simp only [sizesOf, List.mem_cons, List.not_mem_nil, or_false] at hm
          omega
        rw [List.drop_eq_getElem_cons hil, hge] at k1
        have k2 : Out t E B [] H (isGroup t H kc) Q ((Sn15.code n >>= fun c => mCodes ((sizesOf (csize kc)).drop (i + 1)) >>= fun r => pure (groupOf ((cs ++ [c]) ++ r))) bs1) := by
          have e : (mCodes (n :: (sizesOf (csize kc)).drop (i + 1)) >>= fun r => (pure (groupOf (cs ++ r)) : D Group)) = (Sn15.code n >>= fun c => mCodes ((sizesOf (csize kc)).drop (i + 1)) >>= fun r => pure (groupOf ((cs ++ [c]) ++ r))) := by
            simp only [mCodes, d_assoc, d_pure_bind, List.append_assoc, List.singleton_append]
          rw [← e]; exact k1
        refine ⟨_, rfl, .inl ⟨rfl, _, SqL.of hla1⟩, _, rfl, _, rfl, B, bs1, n, rfl, hn3, hb1, (k2.shift kp1).bind fun c bs2 v H2 hm hb2 kp2 hv _ => ?_⟩
        obtain ⟨⟨ca, rfl, hcn⟩, hcl⟩ := hv
        have hla2 := kp2.lst hb1 hla1
        have hasl : as.length ≤ 5 := by
          have h1 := hcs1.l1
          have h2 := congrArg List.length hcs1.l2
          rw [List.length_map, List.length_take] at h2
          have h3 : (sizesOf (csize kc)).length = 5 := rfl
          omega
        have ntp : ta ≠ B.p := by
          obtain ⟨dz, iz, z1, _⟩ := hb1
          exact ne_of hta1 z1 (by intro z; cases z)
        refine ⟨la, _, _, rfl, rfl, hla2, ?_, as ++ [ca], cs ++ [c], bs2, some (nat n), rfl, by rw [upd_same, List.map_append]; rfl, ?_, ⟨?_, ?_, fun j a e => ?_⟩, bits_put hb2 hb hla, kept_put (kp1.trans kp2) hla, fun x hx => ?_, k2.next hm⟩
        · rw [List.length_map]
          exact Nat.lt_of_le_of_lt hasl (by decide)
        · rw [upd_ne (ne_of hta1 hla1 (by intro z; cases z))]
          exact kp2 _ _ hta1 (by simpa using ntp)
        · rw [List.length_append, List.length_append, hcs1.l1]; rfl
        · rw [List.map_append, hcs1.l2, List.take_succ_eq_append_getElem hil, hge, ← hcl]; rfl
        · by_cases hj : j < as.length
          · rw [List.getElem?_append_left hj] at e
            obtain ⟨c', e1, e2⟩ := hcs1.at_ j a e
            refine ⟨c', ?_, (e2.kept hb1 kp2).over la1⟩
            rw [List.getElem?_append_left (by rw [← hcs1.l1]; exact hj)]
            exact e1
          · rw [List.getElem?_append_right (by omega)] at e
            have hj0 : j - as.length = 0 := by
              cases q : j - as.length with
              | zero => rfl
              | succ m => rw [q] at e; simp at e
            rw [hj0] at e
            have ea : ca = a := Option.some.inj e
            subst ea
            refine ⟨c, ?_, (hcn.rebase dm).over la1⟩
            rw [List.getElem?_append_right (by rw [← hcs1.l1]; omega), ← hcs1.l1, hj0]
            rfl
        · by_cases hxl : x = la
          · rw [hxl, upd_same] at hx; cases hx
          · rw [upd_ne hxl] at hx
            exact dm x (dom_of kp2 hb2 x hx)
      · rintro σ Hz ⟨as, cs, bs1, v4, rfl, hla1, hta1, hcs1, hb1, kp1, dm, k1⟩
        rw [natsV_len] at hcs1 k1
        rw [List.take_length] at hcs1
        rw [List.drop_length] at k1
        have k2 : Out t E B [] H (isGroup t H kc) Q ((pure (groupOf (cs ++ [])) : D Group) bs1) := k1
        rw [List.append_nil] at k2
        exact ⟨_, rfl, k2.pure' hb1 kp1 ⟨la, rfl, (hcs1.toGroup hla1).2 H hla (fun x hx => sm.free hx)⟩⟩
    · have h0 : kc = 0 := by
        have : ¬ (0 : Int) < (kc : Int) := fun z => e (decide_eq_true z)
        omega
      have ec : (0 : Int) = ((csize kc : Nat) : Int) := by
        unfold csize
        rw [if_pos h0]; rfl
      show gName 2 (.int 0) _ _ _
      rw [ec]
      refine ⟨Nat.zero_le _, fun la hla => ?_⟩
      refine ⟨_, rfl, _, _, rfl, rfl, ?_⟩
      dsimp -proj only
      rw [q280]
      refine ⟨(by show 5 ≤ sizeLine; decide), fun ta hta => ⟨ta, rfl, ⟨_, SqT.of upd_same⟩, ?_⟩⟩
      generalize hH1 : upd (upd H la (.lst [])) ta _ = H1
      have la1 : H1 la = some (.lst []) := by rw [← hH1, upd_ne (ne_of_none upd_same hta)]; exact upd_same
      have ta1 : H1 ta = some (.tup (natsV (sizesOf (csize kc)))) := by rw [← hH1, upd_same]; rfl
      have sm : Same H H1 := by rw [← hH1]; exact same_new (same_new (Same.refl _) hla) hta
      refine for_tup (K := K) (a := ta) (xs := natsV (sizesOf (csize kc))) (GroupW t E B H H1 Q kc la ta) ⟨[], [], bs, none, rfl, la1, ta1, ⟨rfl, rfl, fun j a e => by simp at e⟩, hb.same sm, Kept.same sm _, fun x h => h, k⟩ (fun i σ Hz _ ⟨_, _, _, _, _, _, ht, _⟩ => SqT.of ht) ?_ ?_
      · rintro i x σ Hz hx ⟨as, cs, bs1, v4, rfl, hla1, hta1, hcs1, hb1, kp1, dm, k1⟩
        obtain ⟨n, hn, rfl⟩ := get_natsV hx
        have hil : i < (sizesOf (csize kc)).length := (List.getElem?_eq_some_iff.mp hn).1
        have hge : (sizesOf (csize kc))[i] = n := by rw [List.getElem?_eq_getElem hil] at hn; exact Option.some.inj hn
        have hn3 : n ≤ 3000 := by
          have hm := List.mem_of_getElem? hn
          simp only [sizesOf, List.mem_cons, List.not_mem_nil, or_false] at hm
          omega
        rw [List.drop_eq_getElem_cons hil, hge] at k1
        have k2 : Out t E B [] H (isGroup t H kc) Q ((Sn15.code n >>= fun c => mCodes ((sizesOf (csize kc)).drop (i + 1)) >>= fun r => pure (groupOf ((cs ++ [c]) ++ r))) bs1) := by
          have e : (mCodes (n :: (sizesOf (csize kc)).drop (i + 1)) >>= fun r => (pure (groupOf (cs ++ r)) : D Group)) = (Sn15.code n >>= fun c => mCodes ((sizesOf (csize kc)).drop (i + 1)) >>= fun r => pure (groupOf ((cs ++ [c]) ++ r))) := by
            simp only [mCodes, d_assoc, d_pure_bind, List.append_assoc, List.singleton_append]
          rw [← e]; exact k1
        refine ⟨_, rfl, .inl ⟨rfl, _, SqL.of hla1⟩, _, rfl, _, rfl, B, bs1, n, rfl, hn3, hb1, (k2.shift kp1).bind fun c bs2 v H2 hm hb2 kp2 hv _ => ?_⟩
        obtain ⟨⟨ca, rfl, hcn⟩, hcl⟩ := hv
        have hla2 := kp2.lst hb1 hla1
        have hasl : as.length ≤ 5 := by
          have h1 := hcs1.l1
          have h2 := congrArg List.length hcs1.l2
          rw [List.length_map, List.length_take] at h2
          have h3 : (sizesOf (csize kc)).length = 5 := rfl
          omega
        have ntp : ta ≠ B.p := by
          obtain ⟨dz, iz, z1, _⟩ := hb1
          exact ne_of hta1 z1 (by intro z; cases z)
        refine ⟨la, _, _, rfl, rfl, hla2, ?_, as ++ [ca], cs ++ [c], bs2, some (nat n), rfl, by rw [upd_same, List.map_append]; rfl, ?_, ⟨?_, ?_, fun j a e => ?_⟩, bits_put hb2 hb hla, kept_put (kp1.trans kp2) hla, fun x hx => ?_, k2.next hm⟩
        · rw [List.length_map]
          exact Nat.lt_of_le_of_lt hasl (by decide)
        · rw [upd_ne (ne_of hta1 hla1 (by intro z; cases z))]
          exact kp2 _ _ hta1 (by simpa using ntp)
        · rw [List.length_append, List.length_append, hcs1.l1]; rfl
        · rw [List.map_append, hcs1.l2, List.take_succ_eq_append_getElem hil, hge, ← hcl]; rfl
        · by_cases hj : j < as.length
          · rw [List.getElem?_append_left hj] at e
            obtain ⟨c', e1, e2⟩ := hcs1.at_ j a e
            refine ⟨c', ?_, (e2.kept hb1 kp2).over la1⟩
            rw [List.getElem?_append_left (by rw [← hcs1.l1]; exact hj)]
            exact e1
          · rw [List.getElem?_append_right (by omega)] at e
            have hj0 : j - as.length = 0 := by
              cases q : j - as.length with
              | zero => rfl
              | succ m => rw [q] at e; simp at e
            rw [hj0] at e
            have ea : ca = a := Option.some.inj e
            subst ea
            refine ⟨c, ?_, (hcn.rebase dm).over la1⟩
            rw [List.getElem?_append_right (by rw [← hcs1.l1]; omega), ← hcs1.l1, hj0]
            rfl
        · by_cases hxl : x = la
          · rw [hxl, upd_same] at hx; cases hx
          · rw [upd_ne hxl] at hx
            exact dm x (dom_of kp2 hb2 x hx)
      · rintro σ Hz ⟨as, cs, bs1, v4, rfl, hla1, hta1, hcs1, hb1, kp1, dm, k1⟩
        rw [natsV_len] at hcs1 k1
        rw [List.take_length] at hcs1
        rw [List.drop_length] at k1
        have k2 : Out t E B [] H (isGroup t H kc) Q ((pure (groupOf (cs ++ [])) : D Group) bs1) := k1
        rw [List.append_nil] at k2
        exact ⟨_, rfl, k2.pure' hb1 kp1 ⟨la, rfl, (hcs1.toGroup hla1).2 H hla (fun x hx => sm.free hx)⟩⟩
/-! ### read_squares, read_plain_picture -/
def isPicN (n : Nat) : List Px → V → Hp → Prop := isPic n
def spPlain (t : Ad) : Sp := fun vs H Q E => ∃ (B : Bi) (bs : List Bool) (w h : Nat), vs = [.ref B.p, nat w, nat h] ∧ 0 < w ∧ 0 < h ∧ w * h ≤ 2 ^ 20 ∧ BitsAt t H B bs ∧ Out t E B [] H (isPic (w * h)) Q (mPlain w h bs)
theorem scPlain : FnScope ["bits", "width", "height", "depth", "groups"] ["bits", "width", "height"] (defScope sPlain) := ⟨rfl, rfl, rfl, by decide +kernel, rfl, by decide +kernel, by decide +kernel⟩
theorem mCache_le {k : Nat} {bs bs' : List Bool} (h : mCache bs = some (k, bs')) : k ≤ 11 := by
  unfold mCache at h
  obtain ⟨u, bs1, _, h⟩ := bind_some h
  split at h
  · obtain ⟨q, bs2, _, h⟩ := bind_some h
    obtain ⟨_, bs3, hn, h⟩ := bind_some h
    cases h
    exact (of_decide_eq_true (need_some hn).1).2
  · cases h; decide
/-- the elements read into a new canvas -/
theorem colours_call {H : Hp} {E : XK} {Q : VK} {B : Bi} {bs : List Bool} {w h k : Nat} {gs : List Group} {wh : Nat → Nat → Nat} {G p dx : Addr} (hG : GrsAt t H k G w h gs wh) (hb : BitsAt t H B bs) (hw : 0 < w) (hh : 0 < h) (hwh : w * h ≤ 2 ^ 20) (hk : k ≤ 11)
    (hp : H p = none) (hdx : H dx = none) (hne : dx ≠ p) (kk : Out t E B [] H (isPic (w * h)) Q (elems w h k gs wh bs)) {H' : Hp} {C : Ca} (eC : C.p = p) (hC : CanvasAt t H' C w (w * h) k []) (kp : Kept [p] (upd (upd H dx (.own p)) p (.ins t.CV dx [])) H') (nl : (upd (upd H dx (.own p)) p (.ins t.CV dx [])) C.l = none) (nc : (upd (upd H dx (.own p)) p (.ins t.CV dx [])) C.c = none) :
    spColours t [.ref B.p, .ref p, .ref G] H' Q E := by
  have sm : Same H H' := Same.made hp hdx fun b o e ne => kp b o e (by simpa using ne)
  have free : ∀ x, (upd (upd H dx (.own p)) p (.ins t.CV dx [])) x = none → H x = none := fun x hx => by
    by_cases h1 : x = p
    · rw [h1]; exact hp
    · rw [upd_ne h1] at hx
      by_cases h2 : x = dx
      · rw [h2]; exact hdx
      · rw [upd_ne h2] at hx; exact hx
  refine ⟨B, bs, C, w, h, k, gs, wh, G, H, by rw [eC], hG, ⟨Kept.same sm _, ⟨bs, hb⟩, free _ nl, free _ nc⟩, hC, hb.same sm, hw, hh, hwh, ?_⟩
  cases hm : elems w h k gs wh bs with
  | none => rw [hm] at kk; exact kk
  | some x =>
    rw [hm] at kk
    refine fun v H2 b2 k2 r => kk v H2 b2 (fun b o e n => k2 b o (sm b o e) ?_) r
    simp only [List.mem_cons, List.not_mem_nil, or_false] at n ⊢
    exact fun z => z.elim n fun z => z.elim (fun z => ne_of_none e (free _ nl) z) (fun z => ne_of_none e (free _ nc) z)
theorem ok_Plain {f : Addr} {fd : FuncData} (F : Fun K "read_plain_picture" "read_plain_picture" sPlain f fd) (T : Tx K mg t) (Gd : DefOk P w K mg base 3 "read_cache_depth" ["bits"] (spDepth t)) (Gg : DefOk P w K mg base 7 "read_group" ["bits", "depth"] (spGroup t))
    (GG : MakeOk P w K mg base 1 t.CG "Groups" ["self", "squares", "groups"] (spGInit t)) (GV : MakeOk P w K mg base 1 t.CV "Canvas" ["self", "width", "height", "depth"] (spVInit t)) (Gc : DefOk P w K mg base 5 "read_colours" ["bits", "canvas", "groups"] (spColours t)) :
    FnOk P w K mg base (CXe P w) 8 f fd ["bits", "width", "height"] (spPlain t) := by
  refine F.okE scPlain (fun vs H Q E h => ?_) (fun cdv A outer s H vs Q E hr h => ?_)
  · obtain ⟨B, bs, w, h, rfl, _⟩ := h
    rfl
  · obtain ⟨B, bs, w, h, rfl, hw, hh, hwh, hb, k⟩ := h
    have hr2 : Room 2 _ := hr.mono (by decide)
    have hr3 : Room 3 _ := hr.mono (by decide)
    have hr5 : Room 5 _ := hr.mono (by decide)
    refine ⟨_, pss_cons (ps_set (i := 3) scPlain.nd rfl (Or.inl rfl) (pd Gd Lv.of hr3 (pa_cons (pv 0) pa_nil)))
      (pss_cons (ps_set (i := 4) scPlain.nd rfl (Or.inl rfl) (pmk GG Lv.of hr2 (pa_cons pe_non (pa_cons (pe_lst (pa_cons (pd Gg Lv.of hr (pa_cons (pv 0) (pa_cons (pv 3) pa_nil))) pa_nil)) pa_nil))))
      (pss_one (ps_ret (pd Gc Lv.of hr5 (pa_cons (pv 0) (pa_cons (pmk GV Lv.of hr2 (pa_cons (pv 1) (pa_cons (pv 2) (pa_cons (pv 3) pa_nil)))) (pa_cons (pv 4) pa_nil))))))), ?_⟩
    unfold mPlain at k
    refine ⟨_, rfl, B, bs, rfl, hb, k.bind fun kc bs1 v1 H1 hm1 hb1 kp1 hv1 k1 => ?_⟩
    cases hv1
    have hk := mCache_le hm1
    refine ⟨_, rfl, _, rfl, B, bs1, kc, rfl, hk, hb1, k1.bind fun g bs2 v2 H2 hm2 hb2 kp2 hv2 k2 => ?_⟩
    obtain ⟨ga, rfl, hg⟩ := hv2
    refine ⟨(by show 1 ≤ sizeLine; decide), fun la hla => ?_⟩
    intro p dx hp hdx hne
    refine ⟨p, dx, la, .non, rfl, upd_same, fun H3 e3 kp3 => ⟨rfl, ?_⟩⟩
    have sm3 : Same H2 H3 := (same_new (Same.refl _) hla).trans (Same.made hp hdx fun b o e ne => kp3 b o e (by simpa using ne))
    have la3 : H3 la = some (.lst [.ref ga]) := (Same.made hp hdx fun b o e ne => kp3 b o e (by simpa using ne)) _ _ upd_same
    have hG : GrsAt t H3 kc p w h [g] (fun _ _ => 0) := ⟨dx, la, .non, [ga], e3, la3, rfl, fun j ga' e => by
      cases j with
      | zero =>
        have : ga = ga' := Option.some.inj e
        subst this
        exact ⟨g, rfl, hg.toAt.same sm3⟩
      | succ j => simp at e, .inl ⟨rfl, rfl, by simp⟩⟩
    have hwle : w ≤ 2 ^ 20 := Nat.le_trans (Nat.le_mul_of_pos_right w hh) hwh
    refine ⟨_, rfl, _, rfl, _, rfl, _, rfl, ?_⟩
    intro p4 dx4 hp4 hdx4 hne4
    refine ⟨p4, dx4, w, h, kc, rfl, upd_same, hwle, hk, fun H5 C eC hC5 kp5 nl5 nc5 => ⟨rfl, _, rfl, ?_⟩⟩
    exact colours_call hG (hb2.same sm3) hw hh hwh hk hp4 hdx4 hne4 (k2.shift (Kept.same sm3 _)) eC hC5 kp5 nl5 nc5
end
end Lk
end
section
set_option Elab.async false
set_option linter.all false
set_option maxRecDepth 100000
set_option maxHeartbeats 2000000
namespace Lk
open PySem PySem.Spec PyProof.Rows L2
open Sn15 (D bits bitsOf symbol Px Group up)

theorem up_pos {n z : Nat} (h : 0 < z) (hn : 0 < n) : 0 < up n z := by
  have := div_lt_up (x := 0) h hn
  rw [Nat.zero_div] at this
  exact this
theorem up_mul_le {w h z : Nat} (hz : 0 < z) {m : Nat} (hm : w * h ≤ m) : up w z * up h z ≤ m := Nat.le_trans (Nat.mul_le_mul (up_le hz) (up_le hz)) hm
def isSq (t : Ad) (w h : Nat) : Nat × List Px → V → Hp → Prop := fun m v H => ∃ sa cl, v = .ref sa ∧ SqAt t H sa cl m.1 (up w (2 ^ m.1)) m.2 ∧ m.1 ≤ 9 ∧ m.2.length = up w (2 ^ m.1) * up h (2 ^ m.1)
/-! ### the greatest number -/
theorem foldl_max_le : ∀ (l : List Nat) (a b : Nat), a ≤ b → (∀ x ∈ l, x ≤ b) → l.foldl max a ≤ b
  | [], a, b, h, _ => h
  | x :: r, a, b, h, hx => foldl_max_le r (max a x) b (by have := hx x List.mem_cons_self; omega) fun y hy => hx y (List.mem_cons_of_mem _ hy)
theorem le_foldl_max : ∀ (l : List Nat) (a : Nat), a ≤ l.foldl max a ∧ ∀ x ∈ l, x ≤ l.foldl max a
  | [], a => ⟨Nat.le_refl _, fun x hx => by cases hx⟩
  | y :: r, a => by
    obtain ⟨h1, h2⟩ := le_foldl_max r (max a y)
    refine ⟨Nat.le_trans (Nat.le_max_left a y) h1, fun x hx => ?_⟩
    rcases List.mem_cons.mp hx with e | e
    · rw [e]; exact Nat.le_trans (Nat.le_max_right a y) h1
    · exact h2 x e
theorem max_is {l : List Nat} {M : Int} (h1 : M ∈ l.map fun (n : Nat) => (n : Int)) (h2 : ∀ x ∈ l.map (fun (n : Nat) => (n : Int)), x ≤ M) : M = ((l.foldl max 0 : Nat) : Int) := by
  obtain ⟨m, hm, rfl⟩ := List.mem_map.mp h1
  have a := (le_foldl_max l 0).2 m hm
  have b := foldl_max_le l 0 m (Nat.zero_le _) fun x hx => by
    have := h2 (x : Int) (List.mem_map.mpr ⟨x, hx, rfl⟩)
    omega
  omega
/-- a call out of a block from which no exception leaves -/
theorem pdn {X : Cx} {k : Nat} {x : Str} {ps : List Str} {sp : Sp} {p pos : Pos} {e : Expr} {es : List Expr} {ts : TA} (G : DefOk X.prog X.w X.K X.mg X.base k x ps sp) (hr : Room k X.A) (ha : PA X (e :: es) ts) (hg : Gl X x := by rfl) (hdb : (x == ("__debug__" : Str)) = false := by decide)
    (he : starEach (e :: es) X.env = (false, eval e X.env) :: starEach es X.env := by rfl) (hpl : (backTo pos (starEach es X.env)).any (·.1) = false := by rfl) : PE X (.Call (.Name x p) (e :: es) [] pos) (tCall sp [] (fun _ _ _ => False) ts) := by
  obtain ⟨f, fd, F, hm, hk, hb⟩ := G.ex
  exact pe_call F hr hg hm hk hb .nil (fun _ _ _ _ _ _ _ h => by obtain ⟨_, _, _, _, _, _, hE, _⟩ := h; exact hE.elim) ha hdb he hpl

section
variable {P : Program} {w : World} {K : PySem.W.Frag} {mg : Str → Option Value} {base : Heap} {t : Ad}
/-! ### read_squares -/
def spSquares (t : Ad) : Sp := fun vs H Q E => ∃ (B : Bi) (bs : List Bool) (w h : Nat), vs = [.ref B.p, nat w, nat h] ∧ 0 < w ∧ 0 < h ∧ w * h ≤ 2 ^ 20 ∧ BitsAt t H B bs ∧ Out t E B [] H (isSq t w h) Q (mSquares w h bs)
theorem scSquares : FnScope ["bits", "width", "height", "shift", "across", "colours"] ["bits", "width", "height"] (defScope sSquares) := ⟨rfl, rfl, rfl, by decide +kernel, rfl, by decide +kernel, by decide +kernel⟩
theorem ok_Squares {f : Addr} {fd : FuncData} (F : Fun K "read_squares" "read_squares" sSquares f fd) (T : Tx K mg t) (Gn : MethOk P w K mg base 2 t.CB "number" ["self", "width"] (spNumber t)) (Gu : DefOk P w K mg base 1 "divided_up" ["number", "shift"] spDivUp) (Gp : DefOk P w K mg base 8 "read_plain_picture" ["bits", "width", "height"] (spPlain t))
    (GS : MakeOk P w K mg base 1 t.CS "Squares" ["self", "shift", "across", "colours"] (spSInit t)) : FnOk P w K mg base (CXe P w) 9 f fd ["bits", "width", "height"] (spSquares t) := by
  refine F.okE scSquares (fun vs H Q E h => ?_) (fun cdv A outer s H vs Q E hr h => ?_)
  · obtain ⟨B, bs, w, h, rfl, _⟩ := h
    rfl
  · obtain ⟨B, bs, w, h, rfl, hw, hh, hwh, hb, k⟩ := h
    have hr1 : Room 1 _ := hr.mono (by decide)
    have hr2 : Room 2 _ := hr.mono (by decide)
    refine ⟨_, pss_cons (ps_set (i := 3) scSquares.nd rfl (Or.inl rfl) (pe_op op_add (pm Gn Lv.of T.cB hr2 (pv 0) (pa_cons pe_int pa_nil)) pe_int))
      (pss_cons (ps_set (i := 4) scSquares.nd rfl (Or.inl rfl) (pd Gu Lv.of hr1 (pa_cons (pv 1) (pa_cons (pv 3) pa_nil))))
      (pss_cons (ps_set (i := 5) scSquares.nd rfl (Or.inl rfl) (pd Gp Lv.of hr (pa_cons (pv 0) (pa_cons (pv 4) (pa_cons (pd Gu Lv.of hr1 (pa_cons (pv 2) (pa_cons (pv 3) pa_nil))) pa_nil)))))
      (pss_one (ps_ret (pmk GS Lv.of hr2 (pa_cons (pv 3) (pa_cons (pv 4) (pa_cons (pv 5) pa_nil)))))))), ?_⟩
    unfold mSquares at k
    obtain ⟨dx, fs, e1, e2⟩ := hb.meth (m := "number")
    refine ⟨_, rfl, B.p, dx, fs, rfl, e1, e2, B, bs, 3, rfl, by decide, hb, k.bind fun q bs1 v1 H1 hm1 hb1 kp1 hv1 k1 => ?_⟩
    cases hv1
    have hq : q < 8 := bits_lt hm1
    have eq2 : (q : Int) + 2 = ((q + 2 : Nat) : Int) := by omega
    refine ⟨_, _, rfl, rfl, ?_⟩
    dsimp -proj only
    rw [eq2]
    have hzp : 0 < (2 : Nat) ^ (q + 2) := Nat.pow_pos (by decide)
    refine ⟨_, rfl, _, rfl, w, q + 2, rfl, by omega, _, rfl, _, rfl, _, rfl, _, rfl, h, q + 2, rfl, by omega, B, bs1, up w (2 ^ (q + 2)), up h (2 ^ (q + 2)), rfl, up_pos hzp hw, up_pos hzp hh, up_mul_le hzp hwh, hb1, k1.bind fun l bs2 v2 H2 hm2 hb2 kp2 hv2 k2 => ?_⟩
    obtain ⟨cl, rfl, hcl, hll, hok⟩ := hv2
    refine ⟨_, rfl, _, rfl, _, rfl, ?_⟩
    intro p dxp hp hdxp hne
    refine ⟨p, dxp, cl, q + 2, up w (2 ^ (q + 2)), rfl, upd_same, fun H3 e3 kp3 => ⟨rfl, ?_⟩⟩
    have sm : Same H2 H3 := Same.made hp hdxp fun b o e ne => kp3 b o e (by simpa using ne)
    exact k2.pure' (hb2.same sm) (Kept.same sm _) ⟨p, cl, rfl, ⟨⟨dxp, e3⟩, sm _ _ hcl, hok⟩, by show q + 2 ≤ 9; omega, hll⟩
/-! ### read_groups -/
def isGrs (t : Ad) (k w h : Nat) : List Group × (Nat → Nat → Nat) → V → Hp → Prop := fun m v H => ∃ G, v = .ref G ∧ GrsAt t H k G w h m.1 m.2
def spGroups (t : Ad) : Sp := fun vs H Q E => ∃ (B : Bi) (bs : List Bool) (w h k : Nat), vs = [.ref B.p, nat w, nat h, nat k] ∧ 0 < w ∧ 0 < h ∧ w * h ≤ 2 ^ 20 ∧ k ≤ 11 ∧ BitsAt t H B bs ∧ Out t E B [] H (isGrs t k w h) Q (mGroups w h k bs)
abbrev nGroups : List Str := ["bits", "width", "height", "depth", "squares", "greatest", "groups", "colour"]
theorem scGroups : FnScope nGroups ["bits", "width", "height", "depth"] (defScope sGroups) := ⟨rfl, rfl, rfl, by decide +kernel, rfl, by decide +kernel, by decide +kernel⟩
theorem groups_succ (c n : Nat) : Sn15.groups c (n + 1) = (Sn15.group c >>= fun g => Sn15.groups c n >>= fun r => pure (g :: r)) := rfl
/-- between two groups; H: where the squares stand, H3: where the list has been made; N groups are due -/
def GroupsW (t : Ad) (E : XK) (B : Bi) (H H3 : Hp) (Q : VK) (kc w h N : Nat) (wh : Nat → Nat → Nat) (sa la : Addr) (m : Nat) (σ : L2.St) (Hx : Hp) : Prop := ∃ (gas : List Addr) (gs : List Group) (bs : List Bool) (v7 : Option V), m = N - gs.length ∧
  σ = [some (.ref B.p), some (nat w), some (nat h), some (nat kc), some (.ref sa), some (.int ((N : Int) - 1)), some (.ref la), v7] ∧ gas.length = gs.length ∧ gs.length ≤ N ∧ Hx la = some (.lst (gas.map V.ref)) ∧ (∀ (j : Nat) (ga : Addr), gas[j]? = some ga → ∃ g, gs[j]? = some g ∧ GroupNew H3 t Hx kc ga g) ∧
  BitsAt t Hx B bs ∧ Kept [B.p] H Hx ∧ (∀ x, Hx x = none → H3 x = none) ∧ Out t E B [] H (isGrs t kc w h) Q ((Sn15.groups (csize kc) (N - gs.length) >>= fun r => pure (gs ++ r, wh)) bs)
theorem ok_Groups {f : Addr} {fd : FuncData} (F : Fun K "read_groups" "read_groups" sGroups f fd) (T : Tx K mg t) (Gb : MethOk P w K mg base 1 t.CB "bit" ["self"] (spBit t)) (Gg : DefOk P w K mg base 7 "read_group" ["bits", "depth"] (spGroup t)) (GG : MakeOk P w K mg base 1 t.CG "Groups" ["self", "squares", "groups"] (spGInit t))
    (Gs : DefOk P w K mg base 9 "read_squares" ["bits", "width", "height"] (spSquares t)) (Gn : DefOk P w K mg base 1 "group_number" ["colour"] spGrpNo) : FnOk P w K mg base (CXe P w) 10 f fd ["bits", "width", "height", "depth"] (spGroups t) := by
  refine F.okE scGroups (fun vs H Q E h => ?_) (fun cdv A outer s H vs Q E hr h => ?_)
  · obtain ⟨B, bs, w, h, k, rfl, _⟩ := h
    rfl
  · obtain ⟨B, bs, w, h, kc, rfl, hw, hh, hwh, hk, hb, k⟩ := h
    have hr1 : Room 1 _ := hr.mono (by decide)
    have hr2 : Room 2 _ := hr.mono (by decide)
    have hr7 : Room 7 _ := hr.mono (by decide)
    refine ⟨_, pss_cons (ps_if (pt_cmpR op_eq (pm0 Gb Lv.of T.cB hr1 (pv 0)) pe_int (nomark _)) (pss_one (ps_ret (pmk GG Lv.of hr2 (pa_cons pe_non (pa_cons (pe_lst (pa_cons (pd Gg Lv.of hr7 (pa_cons (pv 0) (pa_cons (pv 3) pa_nil))) pa_nil)) pa_nil))))) pss_nil)
      (pss_cons (ps_set (i := 4) scGroups.nd rfl (Or.inl rfl) (pd Gs Lv.of hr (pa_cons (pv 0) (pa_cons (pv 1) (pa_cons (pv 2) pa_nil)))))
      (pss_cons (ps_set (i := 5) scGroups.nd rfl (Or.inl rfl) (pe_callB (call_maxL rfl) (by rfl) T.max PyProof.Rows.boot_max (pa_cons (pe_lc (own := [("colour", 7)]) rfl scGroups.nd (pi_list (pe_fld (pv 4) rfl)) (by show BlkOk nGroups (defScope sGroups) _ _; exact blkOk_by (by decide +kernel))
          (fun _ _ _ _ _ => by exact pg_name (i := 7) scGroups.nd (by rfl) (Or.inl (by rfl)) (Or.inr (by rfl))) (fun _ _ _ _ _ => pts_nil) (fun _ _ _ _ _ => by exact pdn Gn hr1 (pa_cons (pv 7) pa_nil))) pa_nil)))
      (pss_cons (ps_set (i := 6) scGroups.nd rfl (Or.inl rfl) (pe_lst pa_nil))
      (pss_cons (ps_while Lv.of.own (pt_cmpR op_le (pe_callB call_len_seq (by rfl) T.len PySem.boot_len (pa_cons (pv 6) pa_nil)) (pv 5) (nomark _))
        (pss_one (ps_expr (pe_bm PySem.F.plainAttrs_list PySem.F.slot_list_append PySem.F.type_list_append mt_append (pv 6) (pa_cons (pd Gg Lv.of hr7 (pa_cons (pv 0) (pa_cons (pv 3) pa_nil))) pa_nil)))))
      (pss_one (ps_ret (pmk GG Lv.of hr2 (pa_cons (pv 4) (pa_cons (pv 6) pa_nil))))))))), ?_⟩
    unfold mGroups at k
    obtain ⟨dx, fs, e1, e2⟩ := hb.meth (m := "bit")
    refine ⟨_, rfl, B.p, dx, fs, rfl, e1, e2, B, bs, rfl, hb, k.bind fun u bs1 v1 H1 hm1 hb1 kp1 hv1 k1 => ?_⟩
    cases hv1
    have hu : u < 2 := bits1_lt hm1
    refine ⟨rfl, _, rfl, ite2 (fun e => ?_) (fun e => ?_)⟩
    · have e' : ¬ u = 1 := by have := V.int.inj (of_decide_eq_true e); omega
      rw [if_neg e'] at k1
      refine ⟨_, rfl, _, rfl, B, bs1, kc, rfl, hk, hb1, k1.bind fun g bs2 v2 H2 hm2 hb2 kp2 hv2 k2 => ?_⟩
      obtain ⟨ga, rfl, hg⟩ := hv2
      refine ⟨(by show 1 ≤ sizeLine; decide), fun la hla => ?_⟩
      intro p dxp hp hdxp hne
      refine ⟨p, dxp, la, .non, rfl, upd_same, fun H3 e3 kp3 => ⟨rfl, ?_⟩⟩
      have smm := Same.made hp hdxp fun b o e ne => kp3 b o e (by simpa using ne)
      have sm3 : Same H2 H3 := (same_new (Same.refl _) hla).trans smm
      have la3 : H3 la = some (.lst [.ref ga]) := smm _ _ upd_same
      refine k2.pure' (hb2.same sm3) (Kept.same sm3 _) ⟨p, rfl, ⟨dxp, la, .non, [ga], e3, la3, rfl, fun j ga' e => ?_, .inl ⟨rfl, rfl, by simp⟩⟩⟩
      cases j with
      | zero =>
        have : ga = ga' := Option.some.inj e
        subst this
        exact ⟨g, rfl, hg.toAt.same sm3⟩
      | succ j => simp at e
    · have e' : u = 1 := by
        have : ¬ u = 0 := fun z => e (by rw [z]; exact decide_eq_true rfl)
        omega
      rw [if_pos e'] at k1
      refine ⟨_, rfl, _, rfl, _, rfl, B, bs1, w, h, rfl, hw, hh, hwh, hb1, k1.bind fun sq bs2 v2 H2 hm2 hb2 kp2 hv2 k2 => ?_⟩
      obtain ⟨z, l⟩ := sq
      obtain ⟨sa, cl, rfl, hS, hz9, hll⟩ := hv2
      dsimp only at hS hz9 hll k2
      obtain ⟨sdx, hsin⟩ := hS.ins
      have hzp : 0 < (2 : Nat) ^ z := Nat.pow_pos (by decide)
      have hlpos : 0 < l.length := by rw [hll]; exact Nat.mul_pos (up_pos hzp hw) (up_pos hzp hh)
      have hlle : l.length ≤ 2 ^ 20 := by rw [hll]; exact up_mul_le hzp hwh
      have hwl : (natsV (wordsOfPx l)).length = l.length := by rw [natsV_len]; unfold wordsOfPx; rw [List.length_map]
      refine ⟨_, rfl, sa, t.CS, sdx, _, _, rfl, hsin, T.cS, T.sC, sqF_c _ _ _, cl, rfl, ⟨_, SqL.of hS.lst⟩, fun Dl hDl => lc_list (K := K) (a := cl) (xs := natsV (wordsOfPx l)) (fun i Hx => Same H2 Hx ∧ Hx Dl = some (.lst (natsV ((l.take i).map number)))) ⟨same_new (Same.refl _) hDl, upd_same⟩ (fun i Hx _ h => SqL.of (h.1 _ _ hS.lst)) ?_ ?_⟩
      · rintro i x Hx hx ⟨sx, dxx⟩
        obtain ⟨n, hn, rfl⟩ := get_natsV hx
        unfold wordsOfPx at hn
        rw [List.getElem?_map] at hn
        cases hp : l[i]? with
        | none => rw [hp] at hn; cases hn
        | some p =>
          rw [hp] at hn
          have en : p.word = n := Option.some.inj hn
          subst en
          have hil : i < l.length := (List.getElem?_eq_some_iff.mp hp).1
          refine ⟨rfl, yes_if ⟨_, rfl, p, rfl, hS.ok p (List.mem_of_getElem? hp), _, dxx, ?_, same_over sx hDl, ?_⟩⟩
          · rw [natsV_len, List.length_map, List.length_take]
            exact Nat.lt_of_le_of_lt (Nat.le_trans (Nat.min_le_right _ _) hlle) (by decide)
          · have hg : l[i] = p := by rw [List.getElem?_eq_getElem hil] at hp; exact Option.some.inj hp
            rw [upd_same, List.take_succ_eq_append_getElem hil, List.map_append, natsV_app, hg]; rfl
      · rintro Hx ⟨sx, dxx⟩
        rw [hwl, List.take_length] at dxx
        refine ⟨Dl, (l.map number).map fun (n : Nat) => (n : Int), rfl, SqL.of (by rw [← natsV_ints]; exact dxx), by rw [List.length_map, List.length_map]; exact hlpos, fun M hM hMx => ?_⟩
        have hMe := max_is hM hMx
        generalize hN : (l.map number).foldl max 0 = N0 at hMe k2
        subst hMe
        refine ⟨Nat.zero_le _, fun la hla => ?_⟩
        have smx : Same H2 (upd Hx la (.lst [])) := same_new sx hla
        have la2 : H2 la = none := sx.free hla
        generalize hH3 : upd Hx la (.lst []) = H3
        rw [hH3] at smx
        have la3 : H3 la = some (.lst []) := by rw [← hH3]; exact upd_same
        have qN : ((N0 : Nat) : Int) = ((N0 + 1 : Nat) : Int) - 1 := by omega
        rw [qN]
        refine ⟨GroupsW t E B H2 H3 Q kc w h (N0 + 1) (whichOf w z l) sa la, ⟨_, [], [], bs2, none, rfl, rfl, rfl, Nat.zero_le _, la3, fun j ga e => by simp at e, hb2.same smx, Kept.same smx _, fun x h => h, ?_⟩, ?_⟩
        · have e5 : (Sn15.groups (csize kc) (N0 + 1) >>= fun r => (pure (([] : List Group) ++ r, whichOf w z l) : D (List Group × (Nat → Nat → Nat)))) = (Sn15.groups (csize kc) (N0 + 1) >>= fun r => pure (r, whichOf w z l)) := rfl
          show Out t E B [] H2 (isGrs t kc w h) Q ((Sn15.groups (csize kc) (N0 + 1) >>= fun r => (pure (([] : List Group) ++ r, whichOf w z l) : D (List Group × (Nat → Nat → Nat)))) bs2)
          rw [e5]
          exact k2
        · rintro m σ Hy ⟨gas, gs, bs3, v7, rfl, rfl, hgl, hgN, hly, hgr, hb3, kp3, dm, k3⟩
          refine ⟨_, rfl, la, _, rfl, .inl (SqL.of hly), _, rfl, _, _, rfl, rfl, _, rfl, ite2 (fun e6 => ?_) (fun e6 => ?_)⟩
          · have hlt : gs.length < N0 + 1 := by have := of_decide_eq_true e6; rw [List.length_map, hgl] at this; omega
            refine ⟨fun σ' H' => ∃ m', m' < N0 + 1 - gs.length ∧ GroupsW t E B H2 H3 Q kc w h (N0 + 1) (whichOf w z l) sa la m' σ' H', fun _ _ h => h, ?_⟩
            have k4 : Out t E B [] H2 (isGrs t kc w h) Q ((Sn15.group (csize kc) >>= fun g => Sn15.groups (csize kc) (N0 + 1 - (gs.length + 1)) >>= fun r => pure ((gs ++ [g]) ++ r, whichOf w z l)) bs3) := by
              have e7 : (Sn15.groups (csize kc) (N0 + 1 - gs.length) >>= fun r => (pure (gs ++ r, whichOf w z l) : D (List Group × (Nat → Nat → Nat)))) = (Sn15.group (csize kc) >>= fun g => Sn15.groups (csize kc) (N0 + 1 - (gs.length + 1)) >>= fun r => pure ((gs ++ [g]) ++ r, whichOf w z l)) := by
                have e8 : N0 + 1 - gs.length = (N0 + 1 - (gs.length + 1)) + 1 := by omega
                rw [e8, groups_succ]
                simp only [d_assoc, d_pure_bind, List.append_assoc, List.singleton_append]
              rw [← e7]; exact k3
            refine ⟨_, rfl, .inl ⟨rfl, _, SqL.of hly⟩, _, rfl, _, rfl, B, bs3, kc, rfl, hk, hb3, (k4.shift kp3).bind fun g bs4 v4 H4 hm4 hb4 kp4 hv4 _ => ?_⟩
            obtain ⟨ga, rfl, hgn⟩ := hv4
            have hly4 := kp4.lst hb3 hly
            refine ⟨la, _, _, rfl, rfl, hly4, ?_, N0 + 1 - (gs ++ [g]).length, ?_, gas ++ [ga], gs ++ [g], bs4, v7, rfl, rfl, by rw [List.length_append, List.length_append, hgl]; rfl, by rw [List.length_append]; simp; omega, by rw [upd_same, List.map_append]; rfl, fun j a ej => ?_, bits_put hb4 hb2 la2, kept_put (kp3.trans kp4) la2, fun x hx => ?_, ?_⟩
            · rw [List.length_map, hgl]
              have hNle : N0 ≤ 65535 := by
                rw [← hN]
                refine foldl_max_le _ 0 _ (Nat.zero_le _) fun x hx => ?_
                obtain ⟨p, hp, rfl⟩ := List.mem_map.mp hx
                obtain ⟨_, q2, q3, _⟩ := hS.ok p hp
                unfold number
                omega
              exact Nat.lt_of_le_of_lt (by omega : gs.length ≤ 65536) (by decide)
            · rw [List.length_append]; simp; omega
            · by_cases hj : j < gas.length
              · rw [List.getElem?_append_left hj] at ej
                obtain ⟨g', e9, e10⟩ := hgr j a ej
                refine ⟨g', ?_, (e10.kept hb3 kp4).over la3⟩
                rw [List.getElem?_append_left (by rw [← hgl]; exact hj)]
                exact e9
              · rw [List.getElem?_append_right (by omega)] at ej
                have hj0 : j - gas.length = 0 := by
                  cases q : j - gas.length with
                  | zero => rfl
                  | succ m => rw [q] at ej; simp at ej
                rw [hj0] at ej
                have ea : ga = a := Option.some.inj ej
                subst ea
                refine ⟨g, ?_, (hgn.rebase dm).over la3⟩
                rw [List.getElem?_append_right (by rw [← hgl]; omega), ← hgl, hj0]
                rfl
            · by_cases hxl : x = la
              · rw [hxl, upd_same] at hx; cases hx
              · rw [upd_ne hxl] at hx
                exact dm x (dom_of kp4 hb4 x hx)
            · rw [List.length_append]
              exact k4.next hm4
          · have hge : gs.length = N0 + 1 := by
              have : ¬ ((gas.map V.ref).length : Int) ≤ ((N0 + 1 : Nat) : Int) - 1 := fun z => e6 (decide_eq_true z)
              rw [List.length_map, hgl] at this
              omega
            have k4 : Out t E B [] H2 (isGrs t kc w h) Q ((pure (gs, whichOf w z l) : D (List Group × (Nat → Nat → Nat))) bs3) := by
              have e7 : (Sn15.groups (csize kc) (N0 + 1 - gs.length) >>= fun r => (pure (gs ++ r, whichOf w z l) : D (List Group × (Nat → Nat → Nat)))) = pure (gs, whichOf w z l) := by
                rw [hge, Nat.sub_self]
                show (pure [] >>= _) = _
                rw [d_pure_bind, List.append_nil]
              rw [← e7]; exact k3
            refine ⟨_, rfl, _, rfl, ?_⟩
            intro p dxp hp hdxp hne
            refine ⟨p, dxp, la, .ref sa, rfl, upd_same, fun H5 e5 kp5 => ⟨rfl, ?_⟩⟩
            have smm := Same.made hp hdxp fun b o e ne => kp5 b o e (by simpa using ne)
            refine k4.pure' (hb3.same smm) (kp3.trans (Kept.same smm _)) ⟨p, rfl, ⟨dxp, la, .ref sa, gas, e5, smm _ _ hly, hgl, fun j ga ej => ?_, .inr ⟨sa, cl, z, l, rfl, (hS.kept hb2 kp3).same smm, rfl, by omega, hll, fun p hp => ?_⟩⟩⟩
            · obtain ⟨g', e9, e10⟩ := hgr j ga ej
              exact ⟨g', e9, e10.toAt.same smm⟩
            · rw [hge, ← hN]
              have := (le_foldl_max (l.map number) 0).2 (number p) (List.mem_map.mpr ⟨p, hp, rfl⟩)
              omega
/-! ### read_grouped_picture -/
def spGrouped (t : Ad) : Sp := fun vs H Q E => ∃ (B : Bi) (bs : List Bool) (w h : Nat), vs = [.ref B.p, nat w, nat h] ∧ 0 < w ∧ 0 < h ∧ w * h ≤ 2 ^ 20 ∧ BitsAt t H B bs ∧ Out t E B [] H (isPic (w * h)) Q (mMain w h bs)
theorem scGrouped : FnScope ["bits", "width", "height", "depth", "groups"] ["bits", "width", "height"] (defScope sGrouped) := ⟨rfl, rfl, rfl, by decide +kernel, rfl, by decide +kernel, by decide +kernel⟩
theorem ok_Grouped {f : Addr} {fd : FuncData} (F : Fun K "read_grouped_picture" "read_grouped_picture" sGrouped f fd) (T : Tx K mg t) (Gd : DefOk P w K mg base 3 "read_cache_depth" ["bits"] (spDepth t)) (Gg : DefOk P w K mg base 10 "read_groups" ["bits", "width", "height", "depth"] (spGroups t))
    (GV : MakeOk P w K mg base 1 t.CV "Canvas" ["self", "width", "height", "depth"] (spVInit t)) (Gc : DefOk P w K mg base 5 "read_colours" ["bits", "canvas", "groups"] (spColours t)) : FnOk P w K mg base (CXe P w) 11 f fd ["bits", "width", "height"] (spGrouped t) := by
  refine F.okE scGrouped (fun vs H Q E h => ?_) (fun cdv A outer s H vs Q E hr h => ?_)
  · obtain ⟨B, bs, w, h, rfl, _⟩ := h
    rfl
  · obtain ⟨B, bs, w, h, rfl, hw, hh, hwh, hb, k⟩ := h
    have hr2 : Room 2 _ := hr.mono (by decide)
    have hr3 : Room 3 _ := hr.mono (by decide)
    have hr5 : Room 5 _ := hr.mono (by decide)
    refine ⟨_, pss_cons (ps_set (i := 3) scGrouped.nd rfl (Or.inl rfl) (pd Gd Lv.of hr3 (pa_cons (pv 0) pa_nil)))
      (pss_cons (ps_set (i := 4) scGrouped.nd rfl (Or.inl rfl) (pd Gg Lv.of hr (pa_cons (pv 0) (pa_cons (pv 1) (pa_cons (pv 2) (pa_cons (pv 3) pa_nil))))))
      (pss_one (ps_ret (pd Gc Lv.of hr5 (pa_cons (pv 0) (pa_cons (pmk GV Lv.of hr2 (pa_cons (pv 1) (pa_cons (pv 2) (pa_cons (pv 3) pa_nil)))) (pa_cons (pv 4) pa_nil))))))), ?_⟩
    unfold mMain at k
    refine ⟨_, rfl, B, bs, rfl, hb, k.bind fun kc bs1 v1 H1 hm1 hb1 kp1 hv1 k1 => ?_⟩
    cases hv1
    have hk := mCache_le hm1
    refine ⟨_, rfl, _, rfl, _, rfl, _, rfl, B, bs1, w, h, kc, rfl, hw, hh, hwh, hk, hb1, k1.bind fun gg bs2 v2 H2 hm2 hb2 kp2 hv2 k2 => ?_⟩
    obtain ⟨G, rfl, hG⟩ := hv2
    have hwle : w ≤ 2 ^ 20 := Nat.le_trans (Nat.le_mul_of_pos_right w hh) hwh
    refine ⟨_, rfl, _, rfl, _, rfl, _, rfl, ?_⟩
    intro p4 dx4 hp4 hdx4 hne4
    refine ⟨p4, dx4, w, h, kc, rfl, upd_same, hwle, hk, fun H5 C eC hC5 kp5 nl5 nc5 => ⟨rfl, _, rfl, ?_⟩⟩
    exact colours_call hG hb2 hw hh hwh hk hp4 hdx4 hne4 k2 eC hC5 kp5 nl5 nc5
end
end Lk
end
section
set_option Elab.async false
set_option linter.all false
set_option maxRecDepth 100000
set_option maxHeartbeats 2000000
namespace Lk
open PySem PySem.Spec PyProof.Rows L2
open Sn15 (D bits bitsOf symbol Px Group up need packedBits)

abbrev sTranss : Stmt := top 54
abbrev sTrans : Stmt := top 55
abbrev sModes : Stmt := top 56
abbrev sPack : Stmt := top 57
/-- more of what the top has written -/
structure Tx2 (mg : Str → Option Value) : Prop where
  kPRED : ∃ u, mg "PREDICTIONS" = some u ∧ RelV (.int 0) u
  kCOL : ∃ u, mg "COLOURS" = some u ∧ RelV (.int 1) u
  kTAB : ∃ u, mg "TABLE" = some u ∧ RelV (.int 3) u
  kMODE : ∃ u, mg "GREATEST_MODE" = some u ∧ RelV (.int 13) u
  kSIG : ∃ u, mg "SIGNATURE" = some u ∧ RelV (.int 47) u
  kNSF : ∃ u, mg "NO_SUCH_FILE" = some u ∧ RelV (.int (-3)) u
  kTOO : ∃ u, mg "TOO_LARGE" = some u ∧ RelV (.int (-4)) u
  kLAR : ∃ u, mg "LARGEST" = some u ∧ RelV (.int 1048576) u

/-! ### what they read -/
def mModes (w h : Nat) : D (Nat × List Px) := mSquares w h >>= fun m => need (modesOk m.2) >>= fun _ => pure m
def mPack : D Nat := bits 8 >>= fun q => mPlain (q + 1) 1 >>= fun _ => pure (packedBits (q + 1))
def mKind (kd w h : Nat) : D Nat := if kd = 0 then mModes w h >>= fun _ => pure w else if kd = 1 then mSquares w h >>= fun _ => pure w else if kd = 2 then pure w else mPack >>= fun z => pure (up w (2 ^ z))
def mWidth (h n : Nat) (had : List Nat) (w : Nat) : D Nat := mTrans h n had w >>= fun r => pure r.2
theorem mWidth_succ (h n : Nat) (had : List Nat) (w : Nat) : mWidth h (n + 1) had w = (bits 1 >>= fun u => if u = 1 then bits 2 >>= fun kd => need (!had.contains kd) >>= fun _ => mKind kd w h >>= fun w' => mWidth h n (kd :: had) w' else pure w) := by
  unfold mWidth
  show ((bits 1 >>= fun u => if u = 0 then pure ([], w) else _) >>= _) = _
  rw [d_assoc]
  apply bind_congr
  intro u bs bs' hu
  have hu2 : u < 2 := bits1_lt hu
  by_cases h0 : u = 0
  · rw [if_pos h0, if_neg (by omega), d_pure_bind]
  · rw [if_neg h0, if_pos (by omega), d_assoc]
    congr 1
    funext kd
    rw [d_assoc]
    congr 1
    funext _
    unfold mKind mModes mPack
    by_cases k0 : kd = 0
    · rw [if_pos k0, if_pos k0]; simp only [d_assoc, d_pure_bind]
    · rw [if_neg k0, if_neg k0]
      by_cases k1 : kd = 1
      · rw [if_pos k1, if_pos k1]; simp only [d_assoc, d_pure_bind]
      · rw [if_neg k1, if_neg k1]
        by_cases k2 : kd = 2
        · rw [if_pos k2, if_pos k2]; simp only [d_assoc, d_pure_bind]
        · rw [if_neg k2, if_neg k2]; simp only [d_assoc, d_pure_bind]
theorem packed_le (n : Nat) : packedBits n ≤ 3 := by unfold packedBits; split <;> (try split) <;> (try split) <;> omega
theorem len_nodup : ∀ (n : Nat) (l : List Nat), l.Nodup → (∀ x ∈ l, x < n) → l.length ≤ n
  | 0, l, _, h => by
    cases l with
    | nil => exact Nat.le_refl _
    | cons a r => have := h a List.mem_cons_self; omega
  | n + 1, l, hn, h => by
    by_cases hm : n ∈ l
    · have h1 := len_nodup n (l.erase n) (hn.erase n) fun x hx => by
        obtain ⟨ne, hx⟩ := (hn.mem_erase_iff).mp hx
        have := h x hx
        omega
      rw [List.length_erase_of_mem hm] at h1
      omega
    · have := len_nodup n l hn fun x hx => by
        have := h x hx
        have : x ≠ n := fun z => hm (z ▸ hx)
        omega
      omega
theorem green_int {p : Px} (h : PxOk p) : Builtin.bitAnd (((p.word : Nat) : Int) / 2 ^ (8 : Int).toNat) 255 = ((p.g : Nat) : Int) := by
  have e : ((p.word : Nat) : Int) / 2 ^ (8 : Int).toNat = ((p.word / 256 : Nat) : Int) := by
    show ((p.word : Nat) : Int) / 256 = _
    omega
  obtain ⟨h1, h2, h3, h4⟩ := h
  rw [e, bitAnd_m8]
  unfold Px.word
  omega
theorem inV_nats (kd : Nat) : ∀ l : List Nat, inV (nat kd) (natsV l) = l.contains kd
  | [] => rfl
  | a :: r => by
    show (((a : Int) == (kd : Int)) || inV (nat kd) (natsV r)) = _
    rw [inV_nats kd r, List.contains_cons]
    congr 1
    by_cases h : a = kd
    · subst h; simp
    · have h2 : ¬ (a : Int) = (kd : Int) := by omega
      have h3 : ¬ kd = a := fun z => h z.symm
      rw [beq_eq_false_iff_ne.mpr h2, beq_eq_false_iff_ne.mpr h3]
theorem contains_reverse (l : List Nat) (k : Nat) : l.reverse.contains k = l.contains k := by
  rw [Bool.eq_iff_iff, List.contains_iff_mem, List.contains_iff_mem, List.mem_reverse]

section
variable {P : Program} {w : World} {K : PySem.W.Frag} {mg : Str → Option Value} {base : Heap} {t : Ad}
/-! ### read_modes -/
def spModes (t : Ad) : Sp := fun vs H Q E => ∃ (B : Bi) (bs : List Bool) (w h : Nat), vs = [.ref B.p, nat w, nat h] ∧ 0 < w ∧ 0 < h ∧ w * h ≤ 2 ^ 20 ∧ BitsAt t H B bs ∧ Out t E B [] H (isSq t w h) Q (mModes w h bs)
theorem scModes : FnScope ["bits", "width", "height", "squares", "colour"] ["bits", "width", "height"] (defScope sModes) := ⟨rfl, rfl, rfl, by decide +kernel, rfl, by decide +kernel, by decide +kernel⟩
theorem ok_Modes {f : Addr} {fd : FuncData} (F : Fun K "read_modes" "read_modes" sModes f fd) (T : Tx K mg t) (T2 : Tx2 mg) (Gs : DefOk P w K mg base 9 "read_squares" ["bits", "width", "height"] (spSquares t)) : FnOk P w K mg base (CXe P w) 10 f fd ["bits", "width", "height"] (spModes t) := by
  obtain ⟨uM, hM, rM⟩ := T2.kMODE
  refine F.okE scModes (fun vs H Q E h => ?_) (fun cdv A outer s H vs Q E hr h => ?_)
  · obtain ⟨B, bs, w, h, rfl, _⟩ := h
    rfl
  · obtain ⟨B, bs, w, h, rfl, hw, hh, hwh, hb, k⟩ := h
    refine ⟨_, pss_cons (ps_set (i := 3) scModes.nd rfl (Or.inl rfl) (pd Gs Lv.of hr (pa_cons (pv 0) (pa_cons (pv 1) (pa_cons (pv 2) pa_nil)))))
      (pss_cons (ps_for Lv.of.own rfl (pi_list (pe_fld (pv 3) rfl)) (pg_name (i := 4) scModes.nd rfl (Or.inl rfl))
        (pss_one (ps_if (pt_cmpR op_gt (pe_op op_and (pe_op op_shr (pv 4) pe_int) pe_int) (pe_glob (by rfl) hM rM) (nomark _)) (pss_one (ps_raise Lv.of (by rfl) T.gN T.xN)) pss_nil)))
      (pss_one (ps_ret (pv 3)))), ?_⟩
    unfold mModes at k
    refine ⟨_, rfl, _, rfl, _, rfl, B, bs, w, h, rfl, hw, hh, hwh, hb, k.bind fun sq bs1 v1 H1 hm1 hb1 kp1 hv1 k1 => ?_⟩
    obtain ⟨z, l⟩ := sq
    obtain ⟨sa, cl, rfl, hS, hz9, hll⟩ := hv1
    dsimp only at hS hz9 hll k1
    obtain ⟨sdx, hsin⟩ := hS.ins
    refine ⟨_, rfl, sa, t.CS, sdx, _, _, rfl, hsin, T.cS, T.sC, sqF_c _ _ _, cl, rfl, ⟨_, SqL.of hS.lst⟩, for_list (K := K) (a := cl) (xs := natsV (wordsOfPx l))
      (fun i σ Hx => Hx = H1 ∧ ∃ v4, σ = [some (.ref B.p), some (nat w), some (nat h), some (.ref sa), v4] ∧ ∀ p ∈ l.take i, p.g < 14) ⟨rfl, none, rfl, by simp⟩ (fun i σ Hx _ h => by rw [h.1]; exact SqL.of hS.lst) ?_ ?_⟩
    · rintro i x σ Hx hx ⟨rfl, v4, rfl, hall⟩
      obtain ⟨n, hn, rfl⟩ := get_natsV hx
      unfold wordsOfPx at hn
      rw [List.getElem?_map] at hn
      cases hp : l[i]? with
      | none => rw [hp] at hn; cases hn
      | some p =>
        rw [hp] at hn
        have en : p.word = n := Option.some.inj hn
        subst en
        have hil : i < l.length := (List.getElem?_eq_some_iff.mp hp).1
        have hg : l[i] = p := by rw [List.getElem?_eq_getElem hil] at hp; exact Option.some.inj hp
        have hok := hS.ok p (List.mem_of_getElem? hp)
        refine ⟨_, rfl, _, _, rfl, rfl, (by show (0 : Int) ≤ 8; decide), _, _, rfl, rfl, _, _, rfl, rfl, _, rfl, ite2 (fun e => ?_) (fun e => ?_)⟩
        · have e' : (13 : Int) < Builtin.bitAnd (((p.word : Nat) : Int) / 2 ^ (8 : Int).toNat) 255 := of_decide_eq_true e
          rw [green_int hok] at e'
          have hbad : modesOk l = false := by
            unfold modesOk
            rw [List.all_eq_false]
            exact ⟨p, List.mem_of_getElem? hp, by simp; omega⟩
          exact k1.need.2 hbad _
        · have e' : ¬ (13 : Int) < Builtin.bitAnd (((p.word : Nat) : Int) / 2 ^ (8 : Int).toNat) 255 := fun z => e (decide_eq_true z)
          rw [green_int hok] at e'
          refine ⟨rfl, _, rfl, fun q hq => ?_⟩
          rw [List.take_succ_eq_append_getElem hil, hg] at hq
          rcases List.mem_append.mp hq with hq | hq
          · exact hall q hq
          · rw [List.mem_singleton.mp hq]; omega
    · rintro σ Hx ⟨rfl, v4, rfl, hall⟩
      have hlen : (natsV (wordsOfPx l)).length = l.length := by rw [natsV_len]; unfold wordsOfPx; rw [List.length_map]
      rw [hlen, List.take_length] at hall
      have hgood : modesOk l = true := by
        unfold modesOk
        rw [List.all_eq_true]
        exact fun p hp => decide_eq_true (hall p hp)
      refine ⟨_, rfl, ?_⟩
      exact (k1.need.1 hgood).pure hb1 ⟨sa, cl, rfl, hS, hz9, hll⟩
/-! ### read_packing -/
def spPack (t : Ad) : Sp := fun vs H Q E => ∃ (B : Bi) (bs : List Bool), vs = [.ref B.p] ∧ BitsAt t H B bs ∧ Out t E B [] H isNat Q (mPack bs)
theorem scPack : FnScope ["bits", "size"] ["bits"] (defScope sPack) := ⟨rfl, rfl, rfl, by decide +kernel, rfl, by decide +kernel, by decide +kernel⟩
theorem ok_Pack {f : Addr} {fd : FuncData} (F : Fun K "read_packing" "read_packing" sPack f fd) (T : Tx K mg t) (Gn : MethOk P w K mg base 2 t.CB "number" ["self", "width"] (spNumber t)) (Gp : DefOk P w K mg base 8 "read_plain_picture" ["bits", "width", "height"] (spPlain t)) : FnOk P w K mg base (CXe P w) 9 f fd ["bits"] (spPack t) := by
  refine F.okE scPack (fun vs H Q E h => ?_) (fun cdv A outer s H vs Q E hr h => ?_)
  · obtain ⟨B, bs, rfl, _⟩ := h
    rfl
  · obtain ⟨B, bs, rfl, hb, k⟩ := h
    have hr2 : Room 2 _ := hr.mono (by decide)
    refine ⟨_, pss_cons (ps_set (i := 1) scPack.nd rfl (Or.inl rfl) (pe_op op_add (pm Gn Lv.of T.cB hr2 (pv 0) (pa_cons pe_int pa_nil)) pe_int))
      (pss_cons (ps_expr (pd Gp Lv.of hr (pa_cons (pv 0) (pa_cons (pv 1) (pa_cons pe_int pa_nil)))))
      (pss_cons (ps_if (pt_cmpR op_le (pv 1) pe_int (nomark _)) (pss_one (ps_ret pe_int)) pss_nil)
      (pss_cons (ps_if (pt_cmpR op_le (pv 1) pe_int (nomark _)) (pss_one (ps_ret pe_int)) pss_nil)
      (pss_cons (ps_if (pt_cmpR op_le (pv 1) pe_int (nomark _)) (pss_one (ps_ret pe_int)) pss_nil)
      (pss_one (ps_ret pe_int)))))), ?_⟩
    unfold mPack at k
    obtain ⟨dx, fs, e1, e2⟩ := hb.meth (m := "number")
    refine ⟨_, rfl, B.p, dx, fs, rfl, e1, e2, B, bs, 8, rfl, by decide, hb, k.bind fun q bs1 v1 H1 hm1 hb1 kp1 hv1 k1 => ?_⟩
    cases hv1
    have hq : q < 256 := bits_lt hm1
    have eq2 : (q : Int) + 1 = ((q + 1 : Nat) : Int) := by omega
    refine ⟨_, _, rfl, rfl, ?_⟩
    dsimp -proj only
    rw [eq2]
    refine ⟨_, rfl, _, rfl, B, bs1, q + 1, 1, rfl, by omega, by omega, by omega, hb1, k1.bind fun l bs2 v2 H2 hm2 hb2 kp2 hv2 k2 => ?_⟩
    have fin : ∀ z : Nat, packedBits (q + 1) = z → Q (nat z) H2 := fun z hz => by
      rw [hz] at k2
      exact k2.pure hb2 rfl
    refine ⟨_, rfl, _, _, rfl, rfl, _, rfl, ite2 (fun e => ?_) (fun e => ?_)⟩
    · have e' : ((q + 1 : Nat) : Int) ≤ 2 := of_decide_eq_true e
      exact fin 3 (by unfold packedBits; rw [if_pos (by omega)])
    · have e' : ¬ ((q + 1 : Nat) : Int) ≤ 2 := fun z => e (decide_eq_true z)
      refine ⟨_, rfl, _, _, rfl, rfl, _, rfl, ite2 (fun f => ?_) (fun f => ?_)⟩
      · have f' : ((q + 1 : Nat) : Int) ≤ 4 := of_decide_eq_true f
        exact fin 2 (by unfold packedBits; rw [if_neg (by omega), if_pos (by omega)])
      · have f' : ¬ ((q + 1 : Nat) : Int) ≤ 4 := fun z => f (decide_eq_true z)
        refine ⟨_, rfl, _, _, rfl, rfl, _, rfl, ite2 (fun g => ?_) (fun g => ?_)⟩
        · have g' : ((q + 1 : Nat) : Int) ≤ 16 := of_decide_eq_true g
          exact fin 1 (by unfold packedBits; rw [if_neg (by omega), if_neg (by omega), if_pos (by omega)])
        · have g' : ¬ ((q + 1 : Nat) : Int) ≤ 16 := fun z => g (decide_eq_true z)
          exact fin 0 (by unfold packedBits; rw [if_neg (by omega), if_neg (by omega), if_neg (by omega)])
/-! ### read_transform -/
def spTrans (t : Ad) : Sp := fun vs H Q E => ∃ (B : Bi) (bs : List Bool) (kd w h : Nat), vs = [.ref B.p, nat kd, nat w, nat h] ∧ kd < 4 ∧ 0 < w ∧ 0 < h ∧ w * h ≤ 2 ^ 20 ∧ BitsAt t H B bs ∧ Out t E B [] H isNat Q (mKind kd w h bs)
theorem scTrans : FnScope ["bits", "kind", "width", "height"] ["bits", "kind", "width", "height"] (defScope sTrans) := ⟨rfl, rfl, rfl, by decide +kernel, rfl, by decide +kernel, by decide +kernel⟩
theorem ok_Trans {f : Addr} {fd : FuncData} (F : Fun K "read_transform" "read_transform" sTrans f fd) (T2 : Tx2 mg) (Gm : DefOk P w K mg base 10 "read_modes" ["bits", "width", "height"] (spModes t)) (Gs : DefOk P w K mg base 9 "read_squares" ["bits", "width", "height"] (spSquares t))
    (Gu : DefOk P w K mg base 1 "divided_up" ["number", "shift"] spDivUp) (Gp : DefOk P w K mg base 9 "read_packing" ["bits"] (spPack t)) : FnOk P w K mg base (CXe P w) 11 f fd ["bits", "kind", "width", "height"] (spTrans t) := by
  obtain ⟨u0, h0, r0⟩ := T2.kPRED
  obtain ⟨u1, h1, r1⟩ := T2.kCOL
  obtain ⟨u3, h3, r3⟩ := T2.kTAB
  refine F.okE scTrans (fun vs H Q E h => ?_) (fun cdv A outer s H vs Q E hr h => ?_)
  · obtain ⟨B, bs, kd, w, h, rfl, _⟩ := h
    rfl
  · obtain ⟨B, bs, kd, w, h, rfl, hk4, hw, hh, hwh, hb, k⟩ := h
    have hr1 : Room 1 _ := hr.mono (by decide)
    have hr9 : Room 9 _ := hr.mono (by decide)
    refine ⟨_, pss_cons (ps_if (pt_cmpR op_eq (pv 1) (pe_glob (by rfl) h0 r0) (nomark _)) (pss_one (ps_expr (pd Gm Lv.of hr (pa_cons (pv 0) (pa_cons (pv 2) (pa_cons (pv 3) pa_nil))))))
        (pss_one (ps_if (pt_cmpR op_eq (pv 1) (pe_glob (by rfl) h1 r1) (nomark _)) (pss_one (ps_expr (pd Gs Lv.of hr9 (pa_cons (pv 0) (pa_cons (pv 2) (pa_cons (pv 3) pa_nil))))))
          (pss_one (ps_if (pt_cmpR op_eq (pv 1) (pe_glob (by rfl) h3 r3) (nomark _)) (pss_one (ps_ret (pd Gu Lv.of hr1 (pa_cons (pv 2) (pa_cons (pd Gp Lv.of hr9 (pa_cons (pv 0) pa_nil)) pa_nil))))) pss_nil)))))
      (pss_one (ps_ret (pv 2))), ?_⟩
    unfold mKind at k
    refine ⟨_, rfl, rfl, _, rfl, ite2 (fun e => ?_) (fun e => ?_)⟩
    · have e' : kd = 0 := by have := V.int.inj (of_decide_eq_true e); omega
      rw [if_pos e'] at k
      refine ⟨_, rfl, _, rfl, _, rfl, B, bs, w, h, rfl, hw, hh, hwh, hb, k.bind fun sq bs1 v1 H1 hm1 hb1 kp1 hv1 k1 => ?_⟩
      exact ⟨_, rfl, k1.pure hb1 rfl⟩
    · have e' : ¬ kd = 0 := fun z => e (decide_eq_true (by rw [z]; rfl))
      rw [if_neg e'] at k
      refine ⟨_, rfl, rfl, _, rfl, ite2 (fun f => ?_) (fun f => ?_)⟩
      · have f' : kd = 1 := by have := V.int.inj (of_decide_eq_true f); omega
        rw [if_pos f'] at k
        refine ⟨_, rfl, _, rfl, _, rfl, B, bs, w, h, rfl, hw, hh, hwh, hb, k.bind fun sq bs1 v1 H1 hm1 hb1 kp1 hv1 k1 => ?_⟩
        exact ⟨_, rfl, k1.pure hb1 rfl⟩
      · have f' : ¬ kd = 1 := fun z => f (decide_eq_true (by rw [z]; rfl))
        rw [if_neg f'] at k
        refine ⟨_, rfl, rfl, _, rfl, ite2 (fun g => ?_) (fun g => ?_)⟩
        · have g' : kd = 3 := by have := V.int.inj (of_decide_eq_true g); omega
          rw [if_neg (by omega)] at k
          refine ⟨_, rfl, _, rfl, B, bs, rfl, hb, k.bind fun z bs1 v1 H1 hm1 hb1 kp1 hv1 k1 => ?_⟩
          cases hv1
          have hz : z ≤ 3 := by
            unfold mPack at hm1
            obtain ⟨q, bs2, _, hm1⟩ := bind_some hm1
            obtain ⟨l, bs3, _, hm1⟩ := bind_some hm1
            have := congrArg Prod.fst (Option.some.inj hm1)
            rw [← (show packedBits (q + 1) = z from this)]
            exact packed_le _
          exact ⟨w, z, rfl, by omega, k1.pure hb1 rfl⟩
        · have g' : ¬ kd = 3 := fun z => g (decide_eq_true (by rw [z]; rfl))
          rw [if_pos (by omega)] at k
          exact ⟨_, rfl, k.pure hb rfl⟩
/-! ### read_transforms -/
def isWd (w : Nat) : Nat → V → Hp → Prop := fun n v _ => v = nat n ∧ 0 < n ∧ n ≤ w
def spTranss (t : Ad) : Sp := fun vs H Q E => ∃ (B : Bi) (bs : List Bool) (w h : Nat), vs = [.ref B.p, nat w, nat h] ∧ 0 < w ∧ 0 < h ∧ w * h ≤ 2 ^ 20 ∧ BitsAt t H B bs ∧ Out t E B [] H (isWd w) Q (mWidth h 5 [] w bs)
theorem scTranss : FnScope ["bits", "width", "height", "seen", "kind"] ["bits", "width", "height"] (defScope sTranss) := ⟨rfl, rfl, rfl, by decide +kernel, rfl, by decide +kernel, by decide +kernel⟩
def TransW (t : Ad) (E : XK) (B : Bi) (H : Hp) (Q : VK) (w h : Nat) (la : Addr) (n : Nat) (σ : L2.St) (Hx : Hp) : Prop := ∃ (had : List Nat) (bs : List Bool) (w' : Nat) (v4 : Option V),
  σ = [some (.ref B.p), some (nat w'), some (nat h), some (.ref la), v4] ∧ had.length + n = 5 ∧ had.Nodup ∧ (∀ x ∈ had, x < 4) ∧ Hx la = some (.lst (natsV had.reverse)) ∧ BitsAt t Hx B bs ∧ Kept [B.p] H Hx ∧ 0 < w' ∧ w' ≤ w ∧ Out t E B [] H (isWd w) Q (mWidth h n had w' bs)
theorem mKind_le {kd w h w' : Nat} {bs bs' : List Bool} (hw : 0 < w) (hm : mKind kd w h bs = some (w', bs')) : 0 < w' ∧ w' ≤ w := by
  have same : ∀ {bs bs' : List Bool}, (pure w : D Nat) bs = some (w', bs') → 0 < w' ∧ w' ≤ w := fun q => by
    have := congrArg Prod.fst (Option.some.inj q)
    rw [← (show w = w' from this)]
    exact ⟨hw, Nat.le_refl _⟩
  unfold mKind at hm
  split at hm
  · obtain ⟨_, _, _, hm⟩ := bind_some hm
    exact same hm
  · split at hm
    · obtain ⟨_, _, _, hm⟩ := bind_some hm
      exact same hm
    · split at hm
      · exact same hm
      · obtain ⟨z, _, _, hm⟩ := bind_some hm
        have := congrArg Prod.fst (Option.some.inj hm)
        have hp : 0 < (2 : Nat) ^ z := Nat.pow_pos (by decide)
        rw [← (show up w (2 ^ z) = w' from this)]
        exact ⟨up_pos hp hw, up_le hp⟩
theorem ok_Transs {f : Addr} {fd : FuncData} (F : Fun K "read_transforms" "read_transforms" sTranss f fd) (T : Tx K mg t) (Gb : MethOk P w K mg base 1 t.CB "bit" ["self"] (spBit t)) (Gn : MethOk P w K mg base 2 t.CB "number" ["self", "width"] (spNumber t))
    (Gt : DefOk P w K mg base 11 "read_transform" ["bits", "kind", "width", "height"] (spTrans t)) : FnOk P w K mg base (CXe P w) 12 f fd ["bits", "width", "height"] (spTranss t) := by
  refine F.okE scTranss (fun vs H Q E h => ?_) (fun cdv A outer s H vs Q E hr h => ?_)
  · obtain ⟨B, bs, w, h, rfl, _⟩ := h
    rfl
  · obtain ⟨B, bs, w, h, rfl, hw, hh, hwh, hb, k⟩ := h
    have hr1 : Room 1 _ := hr.mono (by decide)
    have hr2 : Room 2 _ := hr.mono (by decide)
    refine ⟨_, pss_cons (ps_set (i := 3) scTranss.nd rfl (Or.inl rfl) (pe_lst pa_nil))
      (pss_cons (ps_while Lv.of.own (pt_cmpR op_eq (pm0 Gb Lv.of T.cB hr1 (pv 0)) pe_int (nomark _))
        (pss_cons (ps_set (i := 4) scTranss.nd rfl (Or.inl rfl) (pm Gn Lv.of T.cB hr2 (pv 0) (pa_cons pe_int pa_nil)))
        (pss_cons (ps_if (pt_cmpR op_in_seq (pv 4) (pv 3) (by with_unfolding_all rfl)) (pss_one (ps_raise Lv.of (by rfl) T.gN T.xN)) pss_nil)
        (pss_cons (ps_expr (pe_bm PySem.F.plainAttrs_list PySem.F.slot_list_append PySem.F.type_list_append mt_append (pv 3) (pa_cons (pv 4) pa_nil)))
        (pss_one (ps_set (i := 1) scTranss.nd rfl (Or.inl rfl) (pd Gt Lv.of hr (pa_cons (pv 0) (pa_cons (pv 4) (pa_cons (pv 1) (pa_cons (pv 2) pa_nil)))))))))))
      (pss_one (ps_ret (pv 1)))), ?_⟩
    refine ⟨Nat.zero_le _, fun la hla => ?_⟩
    have sm0 : Same H (upd H la (.lst [])) := same_new (Same.refl _) hla
    refine ⟨TransW t E B H Q w h la, ⟨5, [], bs, w, none, rfl, rfl, List.nodup_nil, by simp, upd_same, hb.same sm0, Kept.same sm0 _, hw, Nat.le_refl _, k⟩, ?_⟩
    rintro n σ Hy ⟨had, bs1, w1, v4, rfl, hlen, hnd, h4, hly, hb1, kp1, hw1, hww, k1⟩
    have hle := len_nodup 4 had hnd h4
    obtain ⟨m, rfl⟩ : ∃ m, n = m + 1 := ⟨n - 1, by omega⟩
    rw [mWidth_succ] at k1
    obtain ⟨dx, fs, e1, e2⟩ := hb1.meth (m := "bit")
    refine ⟨_, rfl, B.p, dx, fs, rfl, e1, e2, B, bs1, rfl, hb1, (k1.shift kp1).bind fun u bs2 v2 H2 hm2 hb2 kp2 hv2 k2 => ?_⟩
    cases hv2
    have hly2 := kp2.lst hb1 hly
    refine ⟨rfl, _, rfl, ite2 (fun e => ?_) (fun e => ?_)⟩
    · have e' : u = 1 := by have := V.int.inj (of_decide_eq_true e); omega
      rw [if_pos e'] at k2
      have k2o := k1.next hm2
      rw [if_pos e'] at k2o
      refine ⟨fun σ' H' => ∃ m', m' < m + 1 ∧ TransW t E B H Q w h la m' σ' H', fun _ _ h => h, ?_⟩
      obtain ⟨dx3, fs3, e3, e4⟩ := hb2.meth (m := "number")
      refine ⟨_, rfl, B.p, dx3, fs3, rfl, e3, e4, B, bs2, 2, rfl, by decide, hb2, k2.bind fun kd bs3 v3 H3 hm3 hb3 kp3 hv3 k3 => ?_⟩
      cases hv3
      have hk4 : kd < 4 := bits_lt hm3
      have hly3 := kp3.lst hb2 hly2
      have k3o := k2o.next hm3
      refine ⟨_, rfl, _, rfl, la, _, rfl, .inl (SqL.of hly3), rfl, natsV_flat _, _, rfl, ite2 (fun g => ?_) (fun g => ?_)⟩
      · have g' : had.contains kd = true := by
          have g2 : inV (nat kd) (natsV had.reverse) = true := g
          rw [inV_nats, contains_reverse] at g2
          exact g2
        exact k3.need.2 (by rw [g']; rfl) _
      · have g' : had.contains kd = false := by
          have g2 : ¬ inV (nat kd) (natsV had.reverse) = true := g
          rw [inV_nats, contains_reverse] at g2
          exact Bool.eq_false_iff.mpr g2
        have k4 := k3.need.1 (by rw [g']; rfl)
        have k4o := k3o.need.1 (by rw [g']; rfl)
        have hla3 : H la = none := hla
        have hb4 : BitsAt t (upd H3 la (.lst (natsV had.reverse ++ [nat kd]))) B bs3 := bits_put hb3 hb hla
        have kpa : Kept [B.p] H (upd H3 la (.lst (natsV had.reverse ++ [nat kd]))) := kept_put ((kp1.trans kp2).trans kp3) hla
        have k5 := k4o.shift kpa
        refine ⟨_, rfl, .inl ⟨rfl, _, SqL.of hly3⟩, _, rfl, la, _, _, rfl, rfl, hly3, ?_, ?_⟩
        · rw [natsV_len, List.length_reverse]
          exact Nat.lt_of_le_of_lt hle (by decide)
        · refine ⟨_, rfl, _, rfl, _, rfl, _, rfl, B, bs3, kd, w1, h, rfl, hk4, hw1, hh, Nat.le_trans (Nat.mul_le_mul_right _ hww) hwh, hb4, k5.bind fun w2 bs5 v5 H5 hm5 hb5 kp5 hv5 k6 => ?_⟩
          cases hv5
          obtain ⟨p1, p2⟩ := mKind_le hw1 hm5
          refine ⟨m, Nat.lt_succ_self _, kd :: had, bs5, w2, _, rfl, by rw [List.length_cons]; omega, List.nodup_cons.mpr ⟨fun z => ?_, hnd⟩, ?_, ?_, hb5, kpa.trans kp5, p1, Nat.le_trans p2 hww, k4o.next hm5⟩
          · rw [List.contains_iff_mem.mpr z] at g'; cases g'
          · intro x hx
            rcases List.mem_cons.mp hx with e | e
            · rw [e]; exact hk4
            · exact h4 x e
          · have := kp5.lst hb4 upd_same
            rw [this, List.reverse_cons, natsV_app]
            rfl
    · have e' : ¬ u = 1 := fun z => e (decide_eq_true (by rw [z]; rfl))
      have k2o := k1.next hm2
      rw [if_neg e'] at k2o
      refine ⟨_, rfl, ?_⟩
      exact k2o.pure' hb2 (kp1.trans kp2) ⟨rfl, hw1, hww⟩
end
end Lk
end
section
set_option Elab.async false
set_option linter.all false
set_option maxRecDepth 100000
set_option maxHeartbeats 2000000
namespace Lk
open PySem PySem.Spec PyProof.Rows L2
open Sn15 (D bits bitsOf symbol Px Group up need packedBits four)

abbrev sLetters : Stmt := top 45
abbrev sSizeAt : Stmt := top 46
abbrev sNames : Stmt := top 47
abbrev sFrame : Stmt := top 48
/-! ### lists of numbers as data -/
theorem dp_nats {K : PySem.W.Frag} {H : Hp} : ∀ l : List Nat, DpAll K H (natsV l) ((l.map fun (n : Nat) => (n : Int)).map PyData.int)
  | [] => .nil
  | n :: r => .cons (.int _) (dp_nats r)
theorem cast_inj : ∀ {l m : List Nat}, (l.map fun (n : Nat) => (n : Int)) = (m.map fun (n : Nat) => (n : Int)) → l = m
  | [], [], _ => rfl
  | [], _ :: _, h => by cases h
  | _ :: _, [], h => by cases h
  | a :: r, b :: t, h => by
    rw [List.map_cons, List.map_cons] at h
    obtain ⟨h1, h2⟩ := List.cons.inj h
    rw [cast_inj h2]
    congr 1
    omega
theorem eqv_nats (l m : List Nat) : PyData.eqv (.list ((l.map fun (n : Nat) => (n : Int)).map PyData.int)) (.list ((m.map fun (n : Nat) => (n : Int)).map PyData.int)) = decide (l = m) := by
  show PyData.eqvAll _ _ = _
  rw [PySem.W.ked_eqvAll]
  by_cases h : l = m
  · subst h; simp
  · rw [decide_eq_false h, decide_eq_false (fun z => h (cast_inj z))]
theorem canLay_ints : ∀ l : List Int, PyData.canLayAll0 (l.map PyData.int) = true
  | [] => rfl
  | a :: r => by rw [List.map_cons, PyData.canLayAll0, canLay_ints r]; rfl
theorem depth_ints : ∀ l : List Int, PyData.depthAll (l.map PyData.int) ≤ 1
  | [] => Nat.zero_le _
  | a :: r => by
    have h1 : PyData.depth (.int a) ≤ 1 := by rw [PyData.depth] <;> simp
    have h2 := depth_ints r
    rw [List.map_cons, PyData.depthAll]
    omega
theorem shaped_ints (l : List Int) : SeqAt.shaped (.list (l.map PyData.int)) = true := by
  unfold SeqAt.shaped
  rw [PyData.canLay0, canLay_ints, PyData.depth, decide_eq_true (by have := depth_ints l; omega)]
  rfl
theorem sIx_nat {n d p : Nat} (h : p ≤ n) : HT.sIx n d (some (p : Int)) = p := by
  show (if (p : Int) < 0 then ((p : Int) + (n : Int)).toNat else min (p : Int).toNat n) = p
  rw [if_neg (by omega)]
  omega
theorem cut_nats {b : List Nat} {p q : Nat} (h : p ≤ q) (hq : q ≤ b.length) : cutV (natsV b) (some (p : Int)) (some (q : Int)) = natsV ((b.drop p).take (q - p)) := by
  unfold cutV
  rw [natsV_len, sIx_nat (p := p) (by omega), sIx_nat (p := q) hq]
  unfold natsV
  rw [List.map_take, List.map_drop]
theorem size_int {c0 c1 c2 c3 : Nat} (h0 : c0 < 256) (h1 : c1 < 256) (h2 : c2 < 256) (h3 : c3 < 256) :
    Builtin.bitOr (Builtin.bitOr (Builtin.bitOr (c0 : Int) ((c1 : Int) * 2 ^ (8 : Int).toNat)) ((c2 : Int) * 2 ^ (16 : Int).toNat)) ((c3 : Int) * 2 ^ (24 : Int).toNat) = ((c0 + 256 * (c1 + 256 * (c2 + 256 * c3)) : Nat) : Int) := by
  have e1 : (c1 : Int) * 2 ^ (8 : Int).toNat = ((c1 * 2 ^ 8 : Nat) : Int) := by show (c1 : Int) * 2 ^ 8 = ((c1 * 2 ^ 8 : Nat) : Int); omega
  have e2 : (c2 : Int) * 2 ^ (16 : Int).toNat = ((c2 * 2 ^ 16 : Nat) : Int) := by show (c2 : Int) * 2 ^ 16 = ((c2 * 2 ^ 16 : Nat) : Int); omega
  have e3 : (c3 : Int) * 2 ^ (24 : Int).toNat = ((c3 * 2 ^ 24 : Nat) : Int) := by show (c3 : Int) * 2 ^ 24 = ((c3 * 2 ^ 24 : Nat) : Int); omega
  rw [e1, e2, e3, bor_low (by omega), bor_low (by omega), bor_low (by omega)]
  omega
theorem pe_last {X : Cx} {op : BoolOp} {a : Expr} {pos : Pos} {t : TE} (h : PE X a t) : PE X (.BoolOp op [a] pos) t := fun pins s σ H Q I hw => BoolOp_one (h pins s σ H Q I hw)

section
variable {P : Program} {w : World} {K : PySem.W.Frag} {mg : Str → Option Value} {base : Heap} {t : Ad}
/-! ### letters_stand -/
def spLetters (K : PySem.W.Frag) : Sp := fun vs H Q _ => ∃ (d : Addr) (b : List Nat) (p : Nat) (x : Str), vs = [.ref d, nat p, .str x] ∧ SqL K H d (natsV b) ∧ p + x.cps.size ≤ b.length ∧ x.cps.size ≤ 1000 ∧
  ∀ H', Same H H' → Q (.bl (decide ((b.drop p).take x.cps.size = x.cps.toList))) H'
abbrev nLetters : List Str := ["data", "place", "letters", "letter"]
theorem scLetters : FnScope nLetters ["data", "place", "letters"] (defScope sLetters) := ⟨rfl, rfl, rfl, by decide +kernel, rfl, by decide +kernel, by decide +kernel⟩
theorem ok_Letters {f : Addr} {fd : FuncData} (F : Fun K "letters_stand" "letters_stand" sLetters f fd) (T : Tx K mg t) : FnOk P w K mg base (CXe P w) 1 f fd ["data", "place", "letters"] (spLetters K) := by
  refine F.okE scLetters (fun vs H Q E h => ?_) (fun cdv A outer s H vs Q E hr h => ?_)
  · obtain ⟨d, b, p, x, rfl, _⟩ := h
    rfl
  · obtain ⟨d, b, p, x, rfl, hS, hpx, hx, k⟩ := h
    refine ⟨_, pss_one (ps_ret (pe_cmpR (op_eqD hr.units) (pe_slice sl_list (pv 0) (po_some (pv 1)) (po_some (pe_op op_add (pv 1) (pe_callB call_len_str (by rfl) T.len PySem.boot_len (pa_cons (pv 2) pa_nil)))))
      (pe_lc (own := [("letter", 3)]) rfl scLetters.nd (pi_str (pv 2)) (by show BlkOk nLetters (defScope sLetters) _ _; exact blkOk_by (by decide +kernel))
        (fun _ _ _ _ _ => by exact pg_name (i := 3) scLetters.nd (by rfl) (Or.inl (by rfl)) (Or.inr (by rfl))) (fun _ _ _ _ _ => pts_nil) (fun _ _ _ _ _ => by exact pe_callB call_ord (by rfl) T.ord PyProof.Rows.boot_ord (pa_cons (pv 3) pa_nil))) (nomark _))), ?_⟩
    refine ⟨_, rfl, _, rfl, _, rfl, _, rfl, _, rfl, x, rfl, Nat.le_trans hx (by decide), _, _, rfl, rfl, _, rfl, d, natsV b, rfl, hS, fun p1 hp1 => ⟨_, rfl, x, rfl, fun Dl hDl => lc_str (z := x)
      (fun i Hx => Same (upd H p1 (.lst (cutV (natsV b) (some (p : Int)) (some ((p : Int) + (x.length : Int)))))) Hx ∧ Hx Dl = some (.lst (natsV (x.cps.toList.take i)))) ⟨same_new (Same.refl _) hDl, upd_same⟩ ?_ ?_⟩⟩
    · rintro i c Hx hc ⟨sx, dxx⟩
      have hc' : x.cps.toList[i]? = some c := by rw [Array.getElem?_toList]; exact hc
      have hil : i < x.cps.toList.length := (List.getElem?_eq_some_iff.mp hc').1
      have hg : x.cps.toList[i] = c := by rw [List.getElem?_eq_getElem hil] at hc'; exact Option.some.inj hc'
      refine ⟨rfl, yes_if ⟨_, rfl, ⟨#[c]⟩, rfl, rfl, _, dxx, ?_, same_over sx hDl, ?_⟩⟩
      · rw [natsV_len, List.length_take]
        rw [Array.length_toList] at hil ⊢
        exact Nat.lt_of_le_of_lt (show min i x.cps.size ≤ 1000 by omega) (by decide)
      · rw [upd_same, List.take_succ_eq_append_getElem hil, natsV_app, hg]; rfl
    · rintro Hx ⟨sx, dxx⟩
      have ex : x.length = x.cps.size := rfl
      have ec : cutV (natsV b) (some (p : Int)) (some ((p : Int) + (x.length : Int))) = natsV ((b.drop p).take x.cps.size) := by
        have := cut_nats (b := b) (p := p) (q := p + x.cps.size) (by omega) hpx
        rw [ex]
        rw [show ((p + x.cps.size : Nat) : Int) = (p : Int) + (x.cps.size : Int) by omega, show p + x.cps.size - p = x.cps.size by omega] at this
        exact this
      rw [← Array.length_toList, List.take_length] at dxx
      have h1 : Hx p1 = some (.lst (natsV ((b.drop p).take x.cps.size))) := by rw [← ec]; exact sx _ _ upd_same
      refine ⟨_, _, .lst (SqL.of h1) (dp_nats _), .lst (SqL.of dxx) (dp_nats _), shaped_ints _, shaped_ints _, ?_⟩
      rw [eqv_nats]
      exact k _ ((same_new (Same.refl _) hp1).trans sx)
/-! ### size_at -/
def spSizeAt (K : PySem.W.Frag) : Sp := fun vs H Q _ => ∃ (d : Addr) (b : List Nat) (p : Nat), vs = [.ref d, nat p] ∧ SqL K H d (natsV b) ∧ (∀ c ∈ b, c < 256) ∧ p + 3 < b.length ∧ Q (nat (four b p)) H
theorem scSizeAt : FnScope ["data", "place"] ["data", "place"] (defScope sSizeAt) := ⟨rfl, rfl, rfl, by decide +kernel, rfl, by decide +kernel, by decide +kernel⟩
theorem ok_SizeAt {f : Addr} {fd : FuncData} (F : Fun K "size_at" "size_at" sSizeAt f fd) : FnOk P w K mg base (CXe P w) 1 f fd ["data", "place"] (spSizeAt K) := by
  refine F.okE scSizeAt (fun vs H Q E h => ?_) (fun cdv A outer s H vs Q E hr h => ?_)
  · obtain ⟨d, b, p, rfl, _⟩ := h
    rfl
  · obtain ⟨d, b, p, rfl, hS, hb, hp, k⟩ := h
    have g : ∀ j, j < b.length → ∃ c, b[j]? = some c ∧ c < 256 ∧ b.getD j 0 = c := fun j hj => ⟨b[j], List.getElem?_eq_getElem hj, hb _ (List.getElem_mem hj), by rw [List.getD_eq_getElem?_getD, List.getElem?_eq_getElem hj]; rfl⟩
    obtain ⟨c0, g0, l0, f0⟩ := g p (by omega)
    obtain ⟨c1, g1, l1, f1⟩ := g (p + 1) (by omega)
    obtain ⟨c2, g2, l2, f2⟩ := g (p + 2) (by omega)
    obtain ⟨c3, g3, l3, f3⟩ := g (p + 3) (by omega)
    refine ⟨_, pss_one (ps_ret (pe_op op_or (pe_op op_or (pe_op op_or (pe_ix ix_list (pv 0) (pv 1) (fun _ _ => rfl)) (pe_op op_shl (pe_ix ix_list (pv 0) (pe_op op_add (pv 1) pe_int) (fun _ _ => rfl)) pe_int))
      (pe_op op_shl (pe_ix ix_list (pv 0) (pe_op op_add (pv 1) pe_int) (fun _ _ => rfl)) pe_int)) (pe_op op_shl (pe_ix ix_list (pv 0) (pe_op op_add (pv 1) pe_int) (fun _ _ => rfl)) pe_int))), ?_⟩
    refine ⟨_, rfl, _, rfl, d, _, _, nat c0, rfl, rfl, hS, at_of (j := p) rfl (natsV_get g0), ?_⟩
    refine ⟨_, rfl, _, rfl, _, _, rfl, rfl, d, _, _, nat c1, rfl, rfl, hS, at_of (j := p + 1) (by omega) (natsV_get g1), _, _, rfl, rfl, ⟨by decide, by decide, by omega⟩, _, _, rfl, rfl, ?_⟩
    refine ⟨_, rfl, _, rfl, _, _, rfl, rfl, d, _, _, nat c2, rfl, rfl, hS, at_of (j := p + 2) (by omega) (natsV_get g2), _, _, rfl, rfl, ⟨by decide, by decide, by omega⟩, _, _, rfl, rfl, ?_⟩
    refine ⟨_, rfl, _, rfl, _, _, rfl, rfl, d, _, _, nat c3, rfl, rfl, hS, at_of (j := p + 3) (by omega) (natsV_get g3), _, _, rfl, rfl, ⟨by decide, by decide, by omega⟩, _, _, rfl, rfl, ?_⟩
    show Q (.int (Builtin.bitOr (Builtin.bitOr (Builtin.bitOr (c0 : Int) ((c1 : Int) * 2 ^ (8 : Int).toNat)) ((c2 : Int) * 2 ^ (16 : Int).toNat)) ((c3 : Int) * 2 ^ (24 : Int).toNat))) H
    rw [size_int l0 l1 l2 l3]
    unfold four at k
    rw [f0, f1, f2, f3] at k
    exact k
/-! ### names_stand -/
abbrev names4 : List Nat := [82, 73, 70, 70]
abbrev names8 : List Nat := [87, 69, 66, 80, 86, 80, 56, 76]
def spNames (K : PySem.W.Frag) : Sp := fun vs H Q _ => ∃ (d : Addr) (b : List Nat), vs = [.ref d] ∧ SqL K H d (natsV b) ∧ 16 ≤ b.length ∧ ∀ H', Same H H' → Q (.bl (decide (b.take 4 = names4 ∧ (b.drop 8).take 8 = names8))) H'
theorem scNames : FnScope ["data"] ["data"] (defScope sNames) := ⟨rfl, rfl, rfl, by decide +kernel, rfl, by decide +kernel, by decide +kernel⟩
theorem ok_Names {f : Addr} {fd : FuncData} (F : Fun K "names_stand" "names_stand" sNames f fd) (Gl : DefOk P w K mg base 1 "letters_stand" ["data", "place", "letters"] (spLetters K)) : FnOk P w K mg base (CXe P w) 2 f fd ["data"] (spNames K) := by
  refine F.okE scNames (fun vs H Q E h => ?_) (fun cdv A outer s H vs Q E hr h => ?_)
  · obtain ⟨d, b, rfl, _⟩ := h
    rfl
  · obtain ⟨d, b, rfl, hS, hl, k⟩ := h
    refine ⟨_, pss_one (ps_ret (pe_and (pd Gl Lv.of hr (pa_cons (pv 0) (pa_cons pe_int (pa_cons pe_str pa_nil)))) (pe_last (pd Gl Lv.of hr (pa_cons (pv 0) (pa_cons pe_int (pa_cons pe_str pa_nil))))))), ?_⟩
    have n4 : ("RIFF" : Str).cps.toList = names4 := by decide +kernel
    have n8 : ("WEBPVP8L" : Str).cps.toList = names8 := by decide +kernel
    have z4 : ("RIFF" : Str).cps.size = 4 := by decide +kernel
    have z8 : ("WEBPVP8L" : Str).cps.size = 8 := by decide +kernel
    refine ⟨_, rfl, d, b, 0, "RIFF", rfl, hS, by rw [z4]; omega, by rw [z4]; decide, fun H1 s1 => ⟨_, rfl, ite2 (fun e => ?_) (fun e => ?_)⟩⟩
    · have e' := of_decide_eq_true e
      rw [z4, n4, List.drop_zero] at e'
      refine ⟨_, rfl, d, b, 8, "WEBPVP8L", rfl, s1.seq hS, by rw [z8]; omega, by rw [z8]; decide, fun H2 s2 => ?_⟩
      have := k H2 (s1.trans s2)
      rw [z8, n8]
      rw [show decide (b.take 4 = names4 ∧ (b.drop 8).take 8 = names8) = decide ((b.drop 8).take 8 = names8) from by simp [e']] at this
      exact this
    · have e' : ¬ b.take 4 = names4 := fun z => e (decide_eq_true (by rw [z4, n4, List.drop_zero]; exact z))
      have := k H1 s1
      rw [decide_eq_false (fun z => e' z.1)] at this
      exact this
/-! ### bytes_of_bits -/
def spFrame (K : PySem.W.Frag) (t : Ad) : Sp := fun vs H Q E => ∃ (d : Addr) (b : List Nat), vs = [.ref d] ∧ SqL K H d (natsV b) ∧ (∀ c ∈ b, c < 256) ∧
  (okFrame b → ∀ o H', Same H H' → H o = none → H' o = some (.lst (natsV (payload b))) → Q (.ref o) H') ∧ (¬ okFrame b → ∀ H', E (.ref t.CN) none H')
theorem scFrame : FnScope ["data", "size", "padding"] ["data"] (defScope sFrame) := ⟨rfl, rfl, rfl, by decide +kernel, rfl, by decide +kernel, by decide +kernel⟩
theorem ok_Frame {f : Addr} {fd : FuncData} (F : Fun K "bytes_of_bits" "bytes_of_bits" sFrame f fd) (T : Tx K mg t) (T2 : Tx2 mg) (Gn : DefOk P w K mg base 2 "names_stand" ["data"] (spNames K)) (Gz : DefOk P w K mg base 1 "size_at" ["data", "place"] (spSizeAt K)) :
    FnOk P w K mg base (CXe P w) 3 f fd ["data"] (spFrame K t) := by
  obtain ⟨uS, hS1, rS⟩ := T2.kSIG
  refine F.okE scFrame (fun vs H Q E h => ?_) (fun cdv A outer s H vs Q E hr h => ?_)
  · obtain ⟨d, b, rfl, _⟩ := h
    rfl
  · obtain ⟨d, b, rfl, hS, hb, kt, kf⟩ := h
    have hr1 : Room 1 _ := hr.mono (by decide)
    have raise : ∀ {X : Cx} {E : XK} (L : Lv X E) (g : Gl X "NoSuchFile") (e : X.mg = mg) (e2 : X.K = K) {np cpos pos : Pos}, PSs X [.Raise (some (.Call (.Name "NoSuchFile" np) [] [] cpos)) none pos] (tRaise t.CN E) := fun L g e e2 => pss_one (ps_raise L g (by rw [e]; exact T.gN) (by rw [e2]; exact T.xN))
    refine ⟨_, pss_cons (ps_if (PW.pt (pw_or (pt_cmpR op_lt (pe_callB call_len_seq (by rfl) T.len PySem.boot_len (pa_cons (pv 0) pa_nil)) pe_int (nomark _)) (pw_or1 (pt_not (pt_val (pd Gn Lv.of hr (pa_cons (pv 0) pa_nil))))))) (pss_one (ps_raise Lv.of (by rfl) T.gN T.xN)) pss_nil)
      (pss_cons (ps_set (i := 1) scFrame.nd rfl (Or.inl rfl) (pd Gz Lv.of hr1 (pa_cons (pv 0) (pa_cons pe_int pa_nil))))
      (pss_cons (ps_set (i := 2) scFrame.nd rfl (Or.inl rfl) (pe_op op_mod (pv 1) pe_int))
      (pss_cons (ps_if (PW.pt (pw_or (pt_cmpR op_ne (pd Gz Lv.of hr1 (pa_cons (pv 0) (pa_cons pe_int pa_nil))) (pe_op op_add (pe_op op_add pe_int (pv 1)) (pv 2)) (nomark _))
          (pw_or1 (pt_cmpR op_ne (pe_callB call_len_seq (by rfl) T.len PySem.boot_len (pa_cons (pv 0) pa_nil)) (pe_op op_add (pe_op op_add pe_int (pv 1)) (pv 2)) (nomark _))))) (pss_one (ps_raise Lv.of (by rfl) T.gN T.xN)) pss_nil)
      (pss_cons (ps_if (pt_cmpR op_ne (pe_ix ix_list (pv 0) pe_int (fun _ _ => rfl)) (pe_glob (by rfl) hS1 rS) (nomark _)) (pss_one (ps_raise Lv.of (by rfl) T.gN T.xN)) pss_nil)
      (pss_cons (ps_if (PW.pt (pw_and (pt_cmpR op_eq (pv 2) pe_int (nomark _)) (pw_and1 (pt_cmpR op_ne (pe_ix ix_list (pv 0) (pe_op op_add pe_int (pv 1)) (fun _ _ => rfl)) pe_int (nomark _))))) (pss_one (ps_raise Lv.of (by rfl) T.gN T.xN)) pss_nil)
      (pss_one (ps_ret (pe_slice sl_list (pv 0) (po_some pe_int) (po_some (pe_op op_add pe_int (pv 1))))))))))), ?_⟩
    have bad : ∀ {c : Prop}, c → (c → ¬ okFrame b) → ∀ H', E (.ref t.CN) none H' := fun h z => kf (z h)
    refine ⟨_, rfl, d, _, rfl, .inl hS, _, _, rfl, rfl, _, rfl, ite2 (fun e => ?_) (fun e => ?_)⟩
    · have e' : ((natsV b).length : Int) < 21 := of_decide_eq_true e
      rw [natsV_len] at e'
      exact iteT (kf (fun ok => ok (.inl (by omega))) _)
    · have e' : ¬ ((natsV b).length : Int) < 21 := fun z => e (decide_eq_true z)
      rw [natsV_len] at e'
      have hl : 21 ≤ b.length := by omega
      refine ⟨_, rfl, d, b, rfl, hS, by omega, fun H1 s1 => ⟨_, rfl, ite2 (fun g => ?_) (fun g => ?_)⟩⟩
      · have g' : ¬ (b.take 4 = names4 ∧ (b.drop 8).take 8 = names8) := by
          intro z
          rw [decide_eq_true z] at g
          cases g
        refine kf (fun ok => ?_) _
        refine g' ⟨Classical.byContradiction fun z => ok (.inr (.inl z)), Classical.byContradiction fun z => ok (.inr (.inr (.inl z)))⟩
      · have g' : b.take 4 = names4 ∧ (b.drop 8).take 8 = names8 := by
          refine Classical.byContradiction fun z => g ?_
          rw [decide_eq_false z]
          rfl
        have hS1 : SqL K H1 d (natsV b) := s1.seq hS
        refine ⟨_, rfl, d, b, 16, rfl, hS1, hb, by omega, ?_⟩
        generalize hsz : four b 16 = sz
        refine ⟨_, rfl, _, _, rfl, rfl, (by show (0 : Int) < 2; decide), ?_⟩
        dsimp -proj only
        rw [show ((sz : Nat) : Int) % 2 = ((sz % 2 : Nat) : Int) by omega]
        refine ⟨_, rfl, d, b, 4, rfl, hS1, hb, by omega, _, rfl, _, _, rfl, rfl, _, rfl, _, _, rfl, rfl, rfl, _, rfl, ite2 (fun i => ?_) (fun i => ?_)⟩
        · have i' : ¬ four b 4 = 12 + four b 16 + four b 16 % 2 := by
            intro z
            rw [hsz] at z
            have i2 : (!decide (nat (four b 4) = V.int (12 + (sz : Int) + ((sz % 2 : Nat) : Int)))) = true := i
            rw [decide_eq_true (by rw [z]; congr 1 <;> omega)] at i2
            cases i2
          exact iteT (kf (fun ok => ok (.inr (.inr (.inr (.inl i'))))) _)
        · have i' : four b 4 = 12 + four b 16 + four b 16 % 2 := by
            rw [hsz]
            refine Classical.byContradiction fun z => i ?_
            show (!decide (nat (four b 4) = V.int (12 + (sz : Int) + ((sz % 2 : Nat) : Int)))) = true
            rw [decide_eq_false (fun y => z (by have := V.int.inj y; omega))]
            rfl
          refine ⟨_, rfl, d, _, rfl, .inl hS1, _, rfl, _, _, rfl, rfl, _, rfl, _, _, rfl, rfl, rfl, _, rfl, ite2 (fun j => ?_) (fun j => ?_)⟩
          · have j' : ¬ b.length = 20 + four b 16 + four b 16 % 2 := by
              intro z
              rw [hsz] at z
              have j2 : (!decide (V.int ((natsV b).length : Int) = V.int (20 + (sz : Int) + ((sz % 2 : Nat) : Int)))) = true := j
              rw [decide_eq_true (by rw [natsV_len, z]; congr 1 <;> omega)] at j2
              cases j2
            exact kf (fun ok => ok (.inr (.inr (.inr (.inr (.inl j')))))) _
          · have j' : b.length = 20 + four b 16 + four b 16 % 2 := by
              rw [hsz]
              refine Classical.byContradiction fun z => j ?_
              show (!decide (V.int ((natsV b).length : Int) = V.int (20 + (sz : Int) + ((sz % 2 : Nat) : Int)))) = true
              rw [decide_eq_false (fun y => z (by have := V.int.inj y; rw [natsV_len] at this; omega))]
              rfl
            have g20 : b[20]? = some (b.getD 20 0) := by rw [List.getD_eq_getElem?_getD, List.getElem?_eq_getElem (by omega : 20 < b.length)]; rfl
            refine ⟨_, rfl, d, _, _, nat (b.getD 20 0), rfl, rfl, hS1, at_of (j := 20) rfl (natsV_get g20), rfl, _, rfl, ite2 (fun l => ?_) (fun l => ?_)⟩
            · have l' : ¬ b.getD 20 0 = 47 := by
                intro z
                have l2 : (!decide (nat (b.getD 20 0) = V.int 47)) = true := l
                rw [decide_eq_true (by rw [z]; rfl)] at l2
                cases l2
              exact kf (fun ok => ok (.inr (.inr (.inr (.inr (.inr (.inl l'))))))) _
            · have l' : b.getD 20 0 = 47 := by
                refine Classical.byContradiction fun z => l ?_
                show (!decide (nat (b.getD 20 0) = V.int 47)) = true
                rw [decide_eq_false (fun y => z (by have := V.int.inj y; omega))]
                rfl
              have fin : ¬ (four b 16 % 2 = 1 ∧ b.getD (20 + four b 16) 0 ≠ 0) → tRet (tSl (rSlL K) (tVar 0) (tPart (tC (.int 21))) (tPart (tOp (rI0 fun i j => .int (i + j)) (tC (.int 20)) (tVar 1)))) { nx := fun _ H' => Q .non H', rt := Q } [some (.ref d), some (nat sz), some (nat (sz % 2))] H1 := fun m' => by
                have ok : okFrame b := by
                  rintro (z | z | z | z | z | z | z)
                  · omega
                  · exact z g'.1
                  · exact z g'.2
                  · exact z i'
                  · exact z j'
                  · exact z l'
                  · exact m' z
                refine ⟨_, rfl, _, rfl, _, rfl, _, _, rfl, rfl, _, rfl, d, natsV b, rfl, hS1, fun p hp => ?_⟩
                refine kt ok p _ (same_new s1 hp) (s1.free hp) ?_
                rw [upd_same]
                have ec := cut_nats (b := b) (p := 21) (q := 20 + sz) (by rw [hsz] at j'; omega) (by rw [hsz] at j'; omega)
                unfold payload
                rw [hsz]
                rw [show 20 + sz - 21 = sz - 1 by omega] at ec
                rw [← ec]
                rfl
              refine ⟨_, rfl, rfl, _, rfl, ite2 (fun m => ?_) (fun m => ?_)⟩
              · have m' : four b 16 % 2 = 1 := by
                  rw [hsz]
                  have := V.int.inj (of_decide_eq_true m)
                  omega
                have hlt : 20 + sz < b.length := by rw [j', m', hsz]; omega
                have gz : b[20 + sz]? = some (b.getD (20 + sz) 0) := by rw [List.getD_eq_getElem?_getD, List.getElem?_eq_getElem hlt]; rfl
                refine ⟨_, rfl, _, rfl, _, _, rfl, rfl, d, _, _, nat (b.getD (20 + sz) 0), rfl, rfl, hS1, at_of (j := 20 + sz) (by omega) (natsV_get gz), rfl, _, rfl, ite2 (fun n => ?_) (fun n => ?_)⟩
                · have n' : b.getD (20 + four b 16) 0 ≠ 0 := by
                    intro z
                    rw [hsz] at z
                    have n2 : (!decide (nat (b.getD (20 + sz) 0) = V.int 0)) = true := n
                    rw [decide_eq_true (by rw [z]; rfl)] at n2
                    cases n2
                  exact kf (fun ok => ok (.inr (.inr (.inr (.inr (.inr (.inr ⟨m', n'⟩))))))) _
                · have n' : b.getD (20 + sz) 0 = 0 := by
                    refine Classical.byContradiction fun z => n ?_
                    show (!decide (nat (b.getD (20 + sz) 0) = V.int 0)) = true
                    rw [decide_eq_false (fun y => z (by have := V.int.inj y; omega))]
                    rfl
                  exact fin fun z => z.2 (by rw [hsz]; exact n')
              · have m' : ¬ four b 16 % 2 = 1 := by
                  rw [hsz]
                  intro z
                  refine m (decide_eq_true ?_)
                  show nat (sz % 2) = V.int 1
                  rw [z]; rfl
                refine iteF ?_
                exact fin fun z => m' z.1
end
end Lk
end
section
set_option Elab.async false
set_option linter.all false
set_option maxRecDepth 100000
set_option maxHeartbeats 2000000
namespace Lk
open PySem PySem.Spec PyProof.Rows L2
open Sn15 (D bits bitsOf symbol Px Group up need MOSTELEMENTS)

abbrev sLook : Stmt := top 62
abbrev sLooked : Stmt := top 63
abbrev sHead : Stmt := top 64
/-! ### what is read, and then whatever -/
def Run {α : Type} (t : Ad) (E : XK) (B : Bi) (H : Hp) (Z : α → List Bool → Hp → Prop) : Option (α × List Bool) → Prop
  | none => ∀ H', E (.ref t.CN) none H'
  | some (a, bs') => ∀ H', BitsAt t H' B bs' → Kept [B.p] H H' → Z a bs' H'
section
variable {α β : Type} {t : Ad} {E : XK} {B : Bi} {H H' : Hp} {Z : β → List Bool → Hp → Prop} {R1 : α → V → Hp → Prop} {Q1 : VK} {bs bs' : List Bool}
theorem Run.shift {r : Option (β × List Bool)} (h : Run t E B H Z r) (k : Kept [B.p] H H') : Run t E B H' Z r := by
  cases r with
  | none => exact h
  | some x => exact fun H2 b k2 => h H2 b (k.trans k2)
theorem Run.bind {m : D α} {f : α → D β} (h : Run t E B H Z ((m >>= f) bs))
    (k : ∀ a bs' v H', m bs = some (a, bs') → BitsAt t H' B bs' → Kept [B.p] H H' → R1 a v H' → Run t E B H' Z (f a bs') → Q1 v H') : Out t E B [] H R1 Q1 (m bs) := by
  rw [d_bind] at h
  cases hm : m bs with
  | none => rw [hm] at h; exact h
  | some x =>
    rw [hm] at h
    obtain ⟨a, bs'⟩ := x
    exact fun v H' b kp r => k a bs' v H' hm b kp r (Run.shift h kp)
theorem Run.mid {m : D α} {f : α → D β} (h : Run t E B H Z ((m >>= f) bs)) : Run t E B H (fun a bs' H' => Run t E B H' Z (f a bs')) (m bs) := by
  rw [d_bind] at h
  cases hm : m bs with
  | none => rw [hm] at h; exact h
  | some x =>
    rw [hm] at h
    obtain ⟨a, bs'⟩ := x
    exact fun H' b kp => Run.shift h kp
theorem Run.imp {r : Option (β × List Bool)} {Z' : β → List Bool → Hp → Prop} (h : Run t E B H Z r) (k : ∀ a bs' H', r = some (a, bs') → BitsAt t H' B bs' → Kept [B.p] H H' → Z a bs' H' → Z' a bs' H') : Run t E B H Z' r := by
  cases r with
  | none => exact h
  | some x => exact fun H2 b k2 => k _ _ _ rfl b k2 (h H2 b k2)
theorem Run.need {c : Bool} {f : Unit → D β} (h : Run t E B H Z ((Sn15.need c >>= f) bs)) : (c = true → Run t E B H Z (f () bs)) ∧ (c = false → ∀ H', E (.ref t.CN) none H') := by
  refine ⟨fun e => ?_, fun e => ?_⟩
  · subst e; rw [d_need_true] at h; exact h
  · subst e; rw [d_need_false] at h; exact h
theorem Run.pure {a : β} (h : Run t E B H Z ((Pure.pure a : D β) bs)) (b : BitsAt t H B bs) : Z a bs H := h H b (Kept.refl _ _)
end
/-! ### look's reading, without the transforms' own matter -/
theorem look_eq : mLook = (mHead >>= fun s => if MOSTELEMENTS < s.1 * s.2.1 then pure (s.1, s.2.1) else mWidth s.2.1 5 [] s.1 >>= fun w' => mMain w' s.2.1 >>= fun _ => bitsLeft >>= fun n => need (decide (n < 8)) >>= fun _ => pure (s.1, s.2.1)) := by
  unfold mLook
  congr 1
  funext s
  by_cases h : MOSTELEMENTS < s.1 * s.2.1
  · rw [if_pos h, if_pos h]
  · rw [if_neg h, if_neg h]
    unfold mBody mWidth
    simp only [d_assoc, d_pure_bind]
def lookRes (b : List Nat) : Option (Nat × Nat) := if okFrame b then (mLook (bitsOf (payload b))).map (fun x => x.1) else none
theorem lookAns_res (b : List Nat) : lookAns b = match lookRes b with
    | none => [-3]
    | some (w, h) => if MOSTELEMENTS < w * h then [-4] else [0, (w : Int), (h : Int)] := by
  unfold lookAns lookRes
  by_cases ok : okFrame b
  · rw [if_pos ok, if_pos ok]
    cases hm : mLook (bitsOf (payload b)) with
    | none => rfl
    | some x => rfl
  · rw [if_neg ok, if_neg ok]
theorem pdp {X : Cx} {E : XK} {k : Nat} {x : Str} {ps : List Str} {sp : Sp} {p pos : Pos} {e : Expr} {es : List Expr} {ts : TA} (G : DefOk X.prog X.w X.K X.mg X.base k x ps sp) (hp : Passes (CXe X.prog X.w) X E) (hr : Room k X.A) (ha : PA X (e :: es) ts) (hg : Gl X x := by rfl) (hdb : (x == ("__debug__" : Str)) = false := by decide)
    (he : starEach (e :: es) X.env = (false, eval e X.env) :: starEach es X.env := by rfl) (hpl : (backTo pos (starEach es X.env)).any (·.1) = false := by rfl) : PE X (.Call (.Name x p) (e :: es) [] pos) (tCall sp [] E ts) := by
  obtain ⟨f, fd, F, hm, hk, hb⟩ := G.ex
  exact pe_call F hr hg hm hk hb .nil hp ha hdb he hpl

section
variable {P : Program} {w : World} {K : PySem.W.Frag} {mg : Str → Option Value} {base : Heap} {t : Ad}
/-! ### read_head -/
def headZ (t : Ad) (E : XK) (Q : VK) : Nat × Nat × Nat → List Bool → Hp → Prop := fun s _ H => (MOSTELEMENTS < s.1 * s.2.1 → ∀ H', E (.ref t.CT) none H') ∧
  (¬ MOSTELEMENTS < s.1 * s.2.1 → ∀ la H', Same H H' → H' la = some (.lst [nat s.1, nat s.2.1]) → Q (.ref la) H')
def spHead (t : Ad) : Sp := fun vs H Q E => ∃ (B : Bi) (bs : List Bool), vs = [.ref B.p] ∧ BitsAt t H B bs ∧ Run t E B H (headZ t E Q) (mHead bs)
theorem scHead : FnScope ["bits", "width", "height"] ["bits"] (defScope sHead) := ⟨rfl, rfl, rfl, by decide +kernel, rfl, by decide +kernel, by decide +kernel⟩
theorem ok_Head {f : Addr} {fd : FuncData} (F : Fun K "read_head" "read_head" sHead f fd) (T : Tx K mg t) (T2 : Tx2 mg) (Gb : MethOk P w K mg base 1 t.CB "bit" ["self"] (spBit t)) (Gn : MethOk P w K mg base 2 t.CB "number" ["self", "width"] (spNumber t)) : FnOk P w K mg base (CXe P w) 3 f fd ["bits"] (spHead t) := by
  obtain ⟨uL, hL, rL⟩ := T2.kLAR
  refine F.okE scHead (fun vs H Q E h => ?_) (fun cdv A outer s H vs Q E hr h => ?_)
  · obtain ⟨B, bs, rfl, _⟩ := h
    rfl
  · obtain ⟨B, bs, rfl, hb, k⟩ := h
    have hr1 : Room 1 _ := hr.mono (by decide)
    refine ⟨_, pss_cons (ps_set (i := 1) scHead.nd rfl (Or.inl rfl) (pe_op op_add (pm Gn Lv.of T.cB hr (pv 0) (pa_cons pe_int pa_nil)) pe_int))
      (pss_cons (ps_set (i := 2) scHead.nd rfl (Or.inl rfl) (pe_op op_add (pm Gn Lv.of T.cB hr (pv 0) (pa_cons pe_int pa_nil)) pe_int))
      (pss_cons (ps_expr (pm0 Gb Lv.of T.cB hr1 (pv 0)))
      (pss_cons (ps_if (pt_cmpR op_ne (pm Gn Lv.of T.cB hr (pv 0) (pa_cons pe_int pa_nil)) pe_int (nomark _)) (pss_one (ps_raise Lv.of (by rfl) T.gN T.xN)) pss_nil)
      (pss_cons (ps_if (pt_cmpR op_gt (pe_op op_mul (pv 1) (pv 2)) (pe_glob (by rfl) hL rL) (nomark _)) (pss_one (ps_raise Lv.of (by rfl) T.gT T.xT)) pss_nil)
      (pss_one (ps_ret (pe_lst (pa_cons (pv 1) (pa_cons (pv 2) pa_nil))))))))), ?_⟩
    unfold mHead at k
    obtain ⟨dx, fs, e1, e2⟩ := hb.meth (m := "number")
    refine ⟨_, rfl, B.p, dx, fs, rfl, e1, e2, B, bs, 14, rfl, by decide, hb, k.bind fun w1 bs1 v1 H1 hm1 hb1 kp1 hv1 k1 => ?_⟩
    cases hv1
    have hw1 : w1 < 2 ^ 14 := bits_lt hm1
    refine ⟨_, _, rfl, rfl, ?_⟩
    dsimp -proj only
    rw [show (w1 : Int) + 1 = ((w1 + 1 : Nat) : Int) by omega]
    obtain ⟨dx2, fs2, e3, e4⟩ := hb1.meth (m := "number")
    refine ⟨_, rfl, B.p, dx2, fs2, rfl, e3, e4, B, bs1, 14, rfl, by decide, hb1, k1.bind fun h1 bs2 v2 H2 hm2 hb2 kp2 hv2 k2 => ?_⟩
    cases hv2
    have hh1 : h1 < 2 ^ 14 := bits_lt hm2
    refine ⟨_, _, rfl, rfl, ?_⟩
    dsimp -proj only
    rw [show (h1 : Int) + 1 = ((h1 + 1 : Nat) : Int) by omega]
    obtain ⟨dx3, fs3, e5, e6⟩ := hb2.meth (m := "bit")
    refine ⟨_, rfl, B.p, dx3, fs3, rfl, e5, e6, B, bs2, rfl, hb2, k2.bind fun al bs3 v3 H3 hm3 hb3 kp3 hv3 k3 => ?_⟩
    obtain ⟨dx4, fs4, e7, e8⟩ := hb3.meth (m := "number")
    refine ⟨_, rfl, B.p, dx4, fs4, rfl, e7, e8, B, bs3, 3, rfl, by decide, hb3, k3.bind fun vv bs4 v4 H4 hm4 hb4 kp4 hv4 k4 => ?_⟩
    cases hv4
    refine ⟨rfl, _, rfl, ite2 (fun e => ?_) (fun e => ?_)⟩
    · refine k4.need.2 ?_ _
      rw [beq_eq_false_iff_ne]
      intro z
      have e' : (!decide (nat vv = V.int 0)) = true := e
      rw [decide_eq_true (by rw [z]; rfl)] at e'
      cases e'
    · have hv0 : vv = 0 := by
        refine Classical.byContradiction fun z => e ?_
        show (!decide (nat vv = V.int 0)) = true
        rw [decide_eq_false (fun y => z (by have := V.int.inj y; omega))]
        rfl
      have k5 := (k4.need.1 (by rw [hv0]; rfl)).pure hb4
      have em : ((w1 + 1 : Nat) : Int) * ((h1 + 1 : Nat) : Int) = (((w1 + 1) * (h1 + 1) : Nat) : Int) := (Int.natCast_mul _ _).symm
      refine ⟨_, rfl, _, rfl, _, _, rfl, rfl, .inl ⟨by omega, by omega⟩, _, _, rfl, rfl, _, rfl, ite2 (fun g => ?_) (fun g => ?_)⟩
      · have g' : (1048576 : Int) < ((w1 + 1 : Nat) : Int) * ((h1 + 1 : Nat) : Int) := of_decide_eq_true g
        rw [em] at g'
        exact k5.1 (by show (1048576 : Nat) < (w1 + 1) * (h1 + 1); omega) _
      · have g' : ¬ (1048576 : Int) < ((w1 + 1 : Nat) : Int) * ((h1 + 1 : Nat) : Int) := fun z => g (decide_eq_true z)
        rw [em] at g'
        refine ⟨_, rfl, _, rfl, (by show 2 ≤ sizeLine; decide), fun la hla => ?_⟩
        exact k5.2 (by show ¬ (1048576 : Nat) < (w1 + 1) * (h1 + 1); omega) la _ (same_new (Same.refl _) hla) upd_same
/-! ### looked_at -/
def spLooked (K : PySem.W.Frag) (t : Ad) : Sp := fun vs H Q E => ∃ (d : Addr) (b : List Nat), vs = [.ref d] ∧ SqL K H d (natsV b) ∧ (∀ c ∈ b, c < 256) ∧ b.length ≤ 100000 ∧ (lookRes b = none → ∀ H', E (.ref t.CN) none H') ∧
  ∀ w h, lookRes b = some (w, h) → (MOSTELEMENTS < w * h → ∀ H', E (.ref t.CT) none H') ∧ (¬ MOSTELEMENTS < w * h → ∀ la H', Same H H' → H' la = some (.lst [nat w, nat h]) → Q (.ref la) H')
theorem scLooked : FnScope ["data", "bits", "size", "coded_width"] ["data"] (defScope sLooked) := ⟨rfl, rfl, rfl, by decide +kernel, rfl, by decide +kernel, by decide +kernel⟩
theorem ok_Looked {f : Addr} {fd : FuncData} (F : Fun K "looked_at" "looked_at" sLooked f fd) (T : Tx K mg t) (Gf : DefOk P w K mg base 3 "bytes_of_bits" ["data"] (spFrame K t)) (GB : MakeOk P w K mg base 1 t.CB "Bits" ["self", "octets"] (spBInit t)) (Gh : DefOk P w K mg base 3 "read_head" ["bits"] (spHead t))
    (Gt : DefOk P w K mg base 12 "read_transforms" ["bits", "width", "height"] (spTranss t)) (Gp : DefOk P w K mg base 11 "read_grouped_picture" ["bits", "width", "height"] (spGrouped t)) (Gl : MethOk P w K mg base 1 t.CB "left" ["self"] (spLeft t)) :
    FnOk P w K mg base (CXe P w) 13 f fd ["data"] (spLooked K t) := by
  refine F.okE scLooked (fun vs H Q E h => ?_) (fun cdv A outer s H vs Q E hr h => ?_)
  · obtain ⟨d, b, rfl, _⟩ := h
    rfl
  · obtain ⟨d, b, rfl, hS, hb, hlen, kn, kz⟩ := h
    have hr1 : Room 1 _ := hr.mono (by decide)
    have hr2 : Room 2 _ := hr.mono (by decide)
    have hr3 : Room 3 _ := hr.mono (by decide)
    have hr11 : Room 11 _ := hr.mono (by decide)
    refine ⟨_, pss_cons (ps_set (i := 1) scLooked.nd rfl (Or.inl rfl) (pmk GB Lv.of hr2 (pa_cons (pd Gf Lv.of hr3 (pa_cons (pv 0) pa_nil)) pa_nil)))
      (pss_cons (ps_set (i := 2) scLooked.nd rfl (Or.inl rfl) (pd Gh Lv.of hr3 (pa_cons (pv 1) pa_nil)))
      (pss_cons (ps_set (i := 3) scLooked.nd rfl (Or.inl rfl) (pd Gt Lv.of hr (pa_cons (pv 1) (pa_cons (pe_ix ix_list (pv 2) pe_int (fun _ _ => rfl)) (pa_cons (pe_ix ix_list (pv 2) pe_int (fun _ _ => rfl)) pa_nil)))))
      (pss_cons (ps_expr (pd Gp Lv.of hr11 (pa_cons (pv 1) (pa_cons (pv 3) (pa_cons (pe_ix ix_list (pv 2) pe_int (fun _ _ => rfl)) pa_nil)))))
      (pss_cons (ps_if (pt_cmpR op_ge (pm0 Gl Lv.of T.cB hr1 (pv 1)) pe_int (nomark _)) (pss_one (ps_raise Lv.of (by rfl) T.gN T.xN)) pss_nil)
      (pss_one (ps_ret (pv 2))))))), ?_⟩
    refine ⟨_, rfl, d, b, rfl, hS, hb, fun ok o H1 s1 ho hH1 => ?_, fun nok => kn (by unfold lookRes; rw [if_neg nok])⟩
    have hpl : (payload b).length ≤ 100000 := by
      unfold payload
      rw [List.length_take, List.length_drop]
      omega
    have hpb : ∀ c ∈ payload b, c < 256 := fun c hc => hb c (List.mem_of_mem_drop (List.mem_of_mem_take hc))
    intro p dxp hp hdxp hne
    have neo : o ≠ p := ne_of_none hH1 hp
    have neod : o ≠ dxp := ne_of_none hH1 hdxp
    refine ⟨p, o, dxp, payload b, rfl, upd_same, by rw [upd_ne neo, upd_ne neod]; exact hH1, hpb, hpl, fun H3 hb3 kp3 => ⟨rfl, ?_⟩⟩
    have sm3 : Same H1 H3 := Same.made hp hdxp fun b o e ne => kp3 b o e (by simpa using ne)
    have hfresh : H p = none := s1.free hp
    -- the reading of the whole
    have kr : Run t E ⟨p, o, payload b⟩ H3 (fun s _ H' => (MOSTELEMENTS < s.1 * s.2 → ∀ H', E (.ref t.CT) none H') ∧ (¬ MOSTELEMENTS < s.1 * s.2 → ∀ la, H' la = some (.lst [nat s.1, nat s.2]) → Q (.ref la) H')) (mLook (bitsOf (payload b))) := by
      have hres : lookRes b = (mLook (bitsOf (payload b))).map (fun x => x.1) := by unfold lookRes; rw [if_pos ok]
      cases hm : mLook (bitsOf (payload b)) with
      | none => exact kn (by rw [hres, hm]; rfl)
      | some x =>
        obtain ⟨⟨w, h⟩, bs'⟩ := x
        obtain ⟨z1, z2⟩ := kz w h (by rw [hres, hm]; rfl)
        refine fun H' hb' kp' => ⟨z1, fun nm la hla => z2 nm la H' (fun c u e => ?_) hla⟩
        refine kp' c u (sm3 c u (s1 c u e)) ?_
        intro z
        rw [List.mem_singleton.mp z, hfresh] at e
        cases e
    rw [look_eq] at kr
    refine ⟨_, rfl, ⟨p, o, payload b⟩, _, rfl, hb3, kr.mid.imp fun s bs1 H4 hm1 hb4 kp4 k4 => ?_⟩
    obtain ⟨w1, h1, al⟩ := s
    have hwh : 0 < w1 ∧ 0 < h1 := by
      unfold mHead at hm1
      obtain ⟨x1, _, _, hm1⟩ := bind_some hm1
      obtain ⟨x2, _, _, hm1⟩ := bind_some hm1
      obtain ⟨x3, _, _, hm1⟩ := bind_some hm1
      obtain ⟨x4, _, _, hm1⟩ := bind_some hm1
      obtain ⟨x5, _, _, hm1⟩ := bind_some hm1
      have := congrArg Prod.fst (Option.some.inj hm1)
      have h1' : x1 + 1 = w1 := congrArg (fun z => z.1) this
      have h2' : x2 + 1 = h1 := congrArg (fun z => z.2.1) this
      omega
    dsimp only at k4
    refine ⟨fun big => ?_, fun nbig la H5 s5 hla => ?_⟩
    · rw [if_pos big] at k4
      exact (k4.pure hb4).1 big
    · dsimp only at nbig hla
      rw [if_neg nbig] at k4
      have hle : w1 * h1 ≤ 2 ^ 20 := by
        have : ¬ (1048576 : Nat) < w1 * h1 := nbig
        omega
      have hb5 := hb4.same s5
      have k5 := k4.shift (Kept.same s5 _)
      refine ⟨_, rfl, _, rfl, la, _, _, nat w1, rfl, rfl, SqL.of hla, at_of (j := 0) rfl rfl, _, rfl, la, _, _, nat h1, rfl, rfl, SqL.of hla, at_of (j := 1) rfl rfl, ⟨p, o, payload b⟩, bs1, w1, h1, rfl, hwh.1, hwh.2, hle, hb5, k5.bind fun w2 bs6 v6 H6 hm6 hb6 kp6 hv6 k6 => ?_⟩
      obtain ⟨rfl, hw2, hw21⟩ := hv6
      have hla6 := kp6.lst hb5 hla
      refine ⟨_, rfl, _, rfl, _, rfl, la, _, _, nat h1, rfl, rfl, SqL.of hla6, at_of (j := 1) rfl rfl, ⟨p, o, payload b⟩, bs6, w2, h1, rfl, hw2, hwh.2, Nat.le_trans (Nat.mul_le_mul_right _ hw21) hle, hb6, k6.bind fun l bs7 v7 H7 hm7 hb7 kp7 hv7 k7 => ?_⟩
      have hla7 := kp7.lst hb6 hla6
      have k8 : Run t E ⟨p, o, payload b⟩ H7 _ ((need (decide (bs7.length < 8)) >>= fun _ => pure (w1, h1)) bs7) := k7
      obtain ⟨dx8, fs8, e1, e2⟩ := hb7.meth (m := "left")
      refine ⟨_, rfl, p, dx8, fs8, rfl, e1, e2, ⟨p, o, payload b⟩, bs7, rfl, hb7, _, _, rfl, rfl, _, rfl, ite2 (fun g => ?_) (fun g => ?_)⟩
      · have g' : (8 : Int) ≤ ((bs7.length : Nat) : Int) := of_decide_eq_true g
        exact k8.need.2 (decide_eq_false (by omega)) _
      · have g' : ¬ (8 : Int) ≤ ((bs7.length : Nat) : Int) := fun z => g (decide_eq_true z)
        exact ⟨_, rfl, ((k8.need.1 (decide_eq_true (by omega))).pure hb7).2 nbig la hla7⟩
/-! ### look -/
def spLook (K : PySem.W.Frag) : Sp := fun vs H Q _ => ∃ (most : Int) (d : Addr) (b : List Nat), vs = [.int most, .ref d] ∧ SqL K H d (natsV b) ∧ (∀ c ∈ b, c < 256) ∧ b.length ≤ 100000 ∧ ∀ la H', H' la = some (.lst ((lookAns b).map V.int)) → Q (.ref la) H'
theorem scLook : FnScope ["most", "data"] ["most", "data"] (defScope sLook) := ⟨rfl, rfl, rfl, by decide +kernel, rfl, by decide +kernel, by decide +kernel⟩
theorem ok_Look {f : Addr} {fd : FuncData} (F : Fun K "look" "look" sLook f fd) (T : Tx K mg t) (T2 : Tx2 mg) (Gk : DefOk P w K mg base 13 "looked_at" ["data"] (spLooked K t))
    (x11 : PySem.W.exmOne K (.ref t.CN) (.ref t.CN) = some true) (x21 : PySem.W.exmOne K (.ref t.CT) (.ref t.CN) = some false) (x22 : PySem.W.exmOne K (.ref t.CT) (.ref t.CT) = some true) : FnOk P w K mg base (CXe P w) 14 f fd ["most", "data"] (spLook K) := by
  obtain ⟨u3, h3, r3⟩ := T2.kNSF
  obtain ⟨u4, h4, r4⟩ := T2.kTOO
  refine F.okE scLook (fun vs H Q E h => ?_) (fun cdv A outer s H vs Q E hr h => ?_)
  · obtain ⟨m, d, b, rfl, _⟩ := h
    rfl
  · obtain ⟨m, d, b, rfl, hS, hb, hlen, k⟩ := h
    rw [lookAns_res] at k
    refine ⟨_, pss_one (ps_try2 (E := fun C _ _ => (C = .ref t.CN ∧ lookRes b = none) ∨ (C = .ref t.CT ∧ ∃ w h, lookRes b = some (w, h) ∧ MOSTELEMENTS < w * h)) rfl rfl (by rfl) T.gN (by rfl) T.gT x11 x21 x22
      (fun pn => pss_one (ps_ret (pe_op op_cat (pe_lst (pa_cons pe_int pa_nil)) (pdp Gk pass_try hr (pa_cons (pv 1) pa_nil)))))
      (fun pn e => pss_one (ps_ret (pe_lst (pa_cons (pe_glob (by rfl) h3 r3) pa_nil))))
      (fun pn e => pss_one (ps_ret (pe_lst (pa_cons (pe_glob (by rfl) h4 r4) pa_nil))))), ?_, ?_⟩
    · refine ⟨(by show 1 ≤ sizeLine; decide), fun z hz => ⟨_, rfl, d, b, rfl, (same_new (Same.refl _) hz).seq hS, hb, hlen, fun e _ => .inl ⟨rfl, e⟩, fun w h e => ⟨fun big _ => .inr ⟨rfl, w, h, e, big⟩, fun nbig la H' s' hla => ?_⟩⟩⟩
      rw [e] at k
      have k2 : ∀ la H', H' la = some (.lst ((if MOSTELEMENTS < w * h then [-4] else [0, (w : Int), (h : Int)]).map V.int)) → Q (.ref la) H' := k
      rw [if_neg nbig] at k2
      refine ⟨z, la, _, _, rfl, rfl, s' _ _ upd_same, hla, (by show 3 ≤ sizeLine; decide), fun p hp => k2 p _ ?_⟩
      rw [upd_same]
      rfl
    · rintro C H' σ' (⟨rfl, e⟩ | ⟨rfl, w, h, e, big⟩)
      · refine .inl ⟨rfl, (by show 1 ≤ sizeLine; decide), fun p hp => ?_⟩
        rw [e] at k
        exact k p _ upd_same
      · refine .inr ⟨rfl, (by show 1 ≤ sizeLine; decide), fun p hp => ?_⟩
        rw [e] at k
        have k2 : ∀ la H', H' la = some (.lst ((if MOSTELEMENTS < w * h then [-4] else [0, (w : Int), (h : Int)]).map V.int)) → Q (.ref la) H' := k
        rw [if_pos big] at k2
        exact k2 p _ upd_same
end
end Lk
end
section
set_option Elab.async false
set_option linter.all false
set_option maxRecDepth 100000
set_option maxHeartbeats 4000000
namespace Lk
open PySem PySem.Spec PyProof.Rows L2

/-! ### what the top has written, name by name -/
structure FnAt (K : PySem.W.Frag) (x : Str) (st : Stmt) : Prop where
  ex : ∃ f fd, PySem.W.nsIn K mainGlobals x = some (some (.ref f)) ∧ Fun K x x st f fd
theorem fn_at {K : PySem.W.Frag} {x : Str} {st : Stmt} {f : Addr} {oc : Value} {od an : Option Addr} {osl : Array (Option Value)} {kV doc pm cdv ct : Value} (a : PySem.W.nsIn K mainGlobals x = some (some (.ref f)))
    (l : K.lookup f = some ⟨oc, od, .func (PySem.W.fnOf x x (defArgs st) (defBody st) (defScope st) .none kV doc pm an cdv ct), osl⟩) (c : PySem.W.codeIn K cdv x = true) (k : PySem.W.keepIn K (.ref f) = true) : FnAt K x st := ⟨_, _, a, ⟨_, _, _, _, _, _, _, _, _, rfl, l, c⟩, k⟩
structure MtAt (K : PySem.W.Frag) (C : Addr) (m qual : Str) (st : Stmt) : Prop where
  ex : ∃ f fd, Meth K C m f ∧ Fun K m qual st f fd
theorem mt_at {K : PySem.W.Frag} {C : Addr} {m qual : Str} {st : Stmt} {f : Addr} {oc : Value} {od an : Option Addr} {osl : Array (Option Value)} {kV doc pm cdv ct : Value} (a : PySem.W.findIn K (.ref C) m = some (some (.ref f))) (i : PySem.W.isFn K (.ref f) = true)
    (l : K.lookup f = some ⟨oc, od, .func (PySem.W.fnOf m qual (defArgs st) (defBody st) (defScope st) .none kV doc pm an cdv ct), osl⟩) (c : PySem.W.codeIn K cdv qual = true) (k : PySem.W.keepIn K (.ref f) = true) : MtAt K C m qual st := ⟨_, _, ⟨a, i, k⟩, ⟨_, _, _, _, _, _, _, _, _, rfl, l, c⟩, k⟩
structure ClAt (K : PySem.W.Frag) (x : Str) (C : Addr) : Prop where
  nm : PySem.W.nsIn K mainGlobals x = some (some (.ref C))
  cl : Cls K C
  mks : PySem.W.makesIn K C = true
  kp : PySem.W.keepIn K (.ref C) = true
theorem cls_at {K : PySem.W.Frag} {x : Str} {C : Addr} (nm : PySem.W.nsIn K mainGlobals x = some (some (.ref C))) (pg : PySem.W.plainGet K C Str.empty = true) (hd : PySem.W.hasDictIn K C = true) (po : PySem.W.plainOver K C = true)
    (sa : PySem.W.findIn K (.ref C) "__setattr__" = some (some (.builtin "object.__setattr__"))) (mk : PySem.W.makesIn K C = true) (kp : PySem.W.keepIn K (.ref C) = true) : ClAt K x C := ⟨nm, ⟨pg, hd, po, sa⟩, mk, kp⟩
structure NumAt (K : PySem.W.Frag) (x : Str) (i : Int) : Prop where
  ex : ∃ t, PySem.W.nsIn K mainGlobals x = some (some (.int i t))
theorem num_at {K : PySem.W.Frag} {x : Str} {i : Int} {t : Tok} (a : PySem.W.nsIn K mainGlobals x = some (some (.int i t))) : NumAt K x i := ⟨t, a⟩
inductive PairsAt (K : PySem.W.Frag) : List Value → List (Int × Int) → Prop
  | nil : PairsAt K [] []
  | cons {b : Addr} {bs : List Value} {x y : Int} {ps : List (Int × Int)} {od : Option Addr} {tx ty : Tok} {n : Nat} {sl : Array (Option Value)} (l : K.lookup b = some ⟨.type "tuple", od, .seq #[.int x tx, .int y ty] n, sl⟩) (r : PairsAt K bs ps) : PairsAt K (.ref b :: bs) ((x, y) :: ps)
theorem PairsAt.refs {K : PySem.W.Frag} {vs : List Value} {ps : List (Int × Int)} (h : PairsAt K vs ps) : ∃ as : List Addr, vs = as.map Value.ref ∧ as.length = ps.length ∧ ∀ (i : Nat) (b : Addr), as[i]? = some b → ∃ x y : Int, ps[i]? = some (x, y) ∧ ∀ H, SqT K H b [.int x, .int y] := by
  induction h with
  | nil => exact ⟨[], rfl, rfl, fun i b e => by simp at e⟩
  | @cons b bs x y ps od tx ty n sl l r ih =>
    obtain ⟨as, e1, e2, e3⟩ := ih
    refine ⟨b :: as, by rw [e1]; rfl, by rw [List.length_cons, List.length_cons, e2], fun i b' e => ?_⟩
    cases i with
    | zero =>
      have eb : b = b' := Option.some.inj e
      subst eb
      exact ⟨x, y, rfl, fun H => .inr ⟨_, _, n, l, rfl, rfl, (by show 2 ≤ sizeLine; decide), .cons ⟨tx, rfl⟩ (.cons ⟨ty, rfl⟩ .nil)⟩⟩
    | succ j => exact e3 j b' e
theorem near_lit : Sn15.NEAR = [(0, 1), (1, 0), (1, 1), (-1, 1), (0, 2), (2, 0), (1, 2), (-1, 2), (2, 1), (-2, 1), (2, 2), (-2, 2), (0, 3), (3, 0), (1, 3), (-1, 3), (3, 1), (-3, 1), (2, 3), (-2, 3), (3, 2), (-3, 2), (0, 4), (4, 0), (1, 4), (-1, 4), (4, 1), (-4, 1), (3, 3), (-3, 3), (2, 4), (-2, 4), (4, 2), (-4, 2), (0, 5), (3, 4), (-3, 4), (4, 3), (-4, 3), (5, 0), (1, 5), (-1, 5), (5, 1), (-5, 1), (2, 5), (-2, 5), (5, 2), (-5, 2), (4, 4), (-4, 4), (3, 5), (-3, 5), (5, 3), (-5, 3), (0, 6), (6, 0), (1, 6), (-1, 6), (6, 1), (-6, 1), (2, 6), (-2, 6), (6, 2), (-6, 2), (4, 5), (-4, 5), (5, 4), (-5, 4), (3, 6), (-3, 6), (6, 3), (-6, 3), (0, 7), (7, 0), (1, 7), (-1, 7), (5, 5), (-5, 5), (7, 1), (-7, 1), (4, 6), (-4, 6), (6, 4), (-6, 4), (2, 7), (-2, 7), (7, 2), (-7, 2), (3, 7), (-3, 7), (7, 3), (-7, 3), (5, 6), (-5, 6), (6, 5), (-6, 5), (8, 0), (4, 7), (-4, 7), (7, 4), (-7, 4), (8, 1), (8, 2), (6, 6), (-6, 6), (8, 3), (5, 7), (-5, 7), (7, 5), (-7, 5), (8, 4), (6, 7), (-6, 7), (7, 6), (-7, 6), (8, 5), (7, 7), (-7, 7), (8, 6), (8, 7)] := rfl
theorem vals_refs : ∀ as : List Addr, Vals (as.map V.ref) (as.map Value.ref)
  | [] => .nil
  | a :: r => .cons rfl (vals_refs r)
section
variable {P : Program} {w : World} {K : PySem.W.Frag} {mg : Str → Option Value} {base h : Heap} {x m qual : Str} {st : Stmt} {ps : List Str} {k : Nat} {sp : Sp} {C : Addr}
theorem NumAt.glob {i : Int} (N : NumAt K x i) (X : K.In h) (G : h.Ns mainGlobals mg) : ∃ u, mg x = some u ∧ RelV (.int i) u := by
  obtain ⟨t, a⟩ := N.ex
  exact ⟨_, PySem.W.mg_of X G a, t, rfl⟩
theorem FnAt.ok (F : FnAt K x st) (X : K.In h) (G : h.Ns mainGlobals mg) (hb : ∀ (kV doc pm : Value) (an : Option Addr) (cdv ct : Value) (us : List Value), us.length = ps.length → bindArgs (PySem.W.fnOf x x (defArgs st) (defBody st) (defScope st) .none kV doc pm an cdv ct) ⟨us, []⟩ = pure (ps.zip us))
    (ok : ∀ {f : Addr} {fd : FuncData}, Fun K x x st f fd → FnOk P w K mg base (CXe P w) k f fd ps sp) : DefOk P w K mg base k x ps sp := by
  obtain ⟨f, fd, a, F⟩ := F.ex
  exact ⟨f, fd, ok F, PySem.W.mg_of X G a, F.kp, F.binds hb⟩
theorem MtAt.ok (F : MtAt K C m qual st) (hb : ∀ (kV doc pm : Value) (an : Option Addr) (cdv ct : Value) (us : List Value), us.length = ps.length → bindArgs (PySem.W.fnOf m qual (defArgs st) (defBody st) (defScope st) .none kV doc pm an cdv ct) ⟨us, []⟩ = pure (ps.zip us))
    (ok : ∀ {f : Addr} {fd : FuncData}, Fun K m qual st f fd → FnOk P w K mg base (CXe P w) k f fd ps sp) : MethOk P w K mg base k C m ps sp := by
  obtain ⟨f, fd, M, F⟩ := F.ex
  exact ⟨f, fd, ok F, M, F.binds hb⟩
theorem MtAt.make (F : MtAt K C "__init__" qual st) (cl : ClAt K x C) (X : K.In h) (G : h.Ns mainGlobals mg) (hb : ∀ (kV doc pm : Value) (an : Option Addr) (cdv ct : Value) (us : List Value), us.length = ps.length → bindArgs (PySem.W.fnOf "__init__" qual (defArgs st) (defBody st) (defScope st) .none kV doc pm an cdv ct) ⟨us, []⟩ = pure (ps.zip us))
    (ok : ∀ {f : Addr} {fd : FuncData}, Fun K "__init__" qual st f fd → FnOk P w K mg base (CXe P w) k f fd ps sp) : MakeOk P w K mg base k C x ps sp := by
  obtain ⟨f, fd, M, F⟩ := F.ex
  exact ⟨⟨f, fd, ok F, ⟨cl.mks, M.at_, M.fn, cl.kp⟩, F.binds hb⟩, PySem.W.mg_of X G cl.nm⟩
end

theorem all_mk {P : Program} {w : World} {K : PySem.W.Frag} {h : Heap} {mg : Str → Option Value} {fa CN CT CB CV CC CS CG aO aA : Addr} {odO odA : Option Addr} {itsO itsA : Array Value} {zO zA : Nat} {slO slA : Array (Option Value)} (X : K.In h) (G : h.Ns mainGlobals mg) (hfa : mg "look" = some (.ref fa))
    (nN : PySem.W.nsIn K mainGlobals "NoSuchFile" = some (some (.ref CN))) (xN : PySem.W.excIn K CN bmEx "Exception.__new__" = true) (nT : PySem.W.nsIn K mainGlobals "TooLarge" = some (some (.ref CT))) (xT : PySem.W.excIn K CT bmEx "Exception.__new__" = true)
    (x11 : PySem.W.exmOne K (.ref CN) (.ref CN) = some true) (x21 : PySem.W.exmOne K (.ref CT) (.ref CN) = some false) (x22 : PySem.W.exmOne K (.ref CT) (.ref CT) = some true)
    (cCB : ClAt K "Bits" CB) (cCV : ClAt K "Canvas" CV) (cCC : ClAt K "Code" CC) (cCS : ClAt K "Squares" CS) (cCG : ClAt K "Groups" CG)
    (n0 : PySem.W.findIn K (.ref CB) "octets" = some none) (n1 : PySem.W.findIn K (.ref CB) "place" = some none) (n2 : PySem.W.findIn K (.ref CB) "end" = some none) (n3 : PySem.W.findIn K (.ref CV) "width" = some none) (n4 : PySem.W.findIn K (.ref CV) "size" = some none) (n5 : PySem.W.findIn K (.ref CV) "colours" = some none) (n6 : PySem.W.findIn K (.ref CV) "depth" = some none) (n7 : PySem.W.findIn K (.ref CV) "cache" = some none) (n8 : PySem.W.findIn K (.ref CC) "words" = some none) (n9 : PySem.W.findIn K (.ref CC) "sole" = some none) (n10 : PySem.W.findIn K (.ref CS) "shift" = some none) (n11 : PySem.W.findIn K (.ref CS) "across" = some none) (n12 : PySem.W.findIn K (.ref CS) "colours" = some none) (n13 : PySem.W.findIn K (.ref CG) "squares" = some none) (n14 : PySem.W.findIn K (.ref CG) "groups" = some none)
    (blen : PySem.W.nsIn K mainGlobals "len" = some none) (brange : PySem.W.nsIn K mainGlobals "range" = some none) (bmax : PySem.W.nsIn K mainGlobals "max" = some none) (bmin : PySem.W.nsIn K mainGlobals "min" = some none) (bsum : PySem.W.nsIn K mainGlobals "sum" = some none) (benumerate : PySem.W.nsIn K mainGlobals "enumerate" = some none) (bord : PySem.W.nsIn K mainGlobals "ord" = some none)
    (kSPREAD : NumAt K "SPREAD" 506832829) (kLOW : NumAt K "LOW_32" 4294967295) (kLONGEST : NumAt K "LONGEST" 15) (kFIRST : NumAt K "FIRST" 0) (kRED : NumAt K "RED" 1) (kBLUE : NumAt K "BLUE" 2) (kALPHA : NumAt K "ALPHA" 3) (kDISTANCE : NumAt K "DISTANCE" 4) (kPRED : NumAt K "PREDICTIONS" 0) (kCOL : NumAt K "COLOURS" 1) (kTAB : NumAt K "TABLE" 3) (kMODE : NumAt K "GREATEST_MODE" 13) (kSIG : NumAt K "SIGNATURE" 47) (kNSF : NumAt K "NO_SUCH_FILE" (-3)) (kTOO : NumAt K "TOO_LARGE" (-4)) (kLAR : NumAt K "LARGEST" 1048576)
    (gO : PySem.W.nsIn K mainGlobals "LENGTH_SYMBOLS" = some (some (.ref aO))) (lO : K.lookup aO = some ⟨.type "tuple", odO, .seq itsO zO, slO⟩) (vO : Vals (natsV Sn15.ORDER) itsO.toList) (sO : itsO.size ≤ sizeLine)
    (gA : PySem.W.nsIn K mainGlobals "NEAR" = some (some (.ref aA))) (lA : K.lookup aA = some ⟨.type "tuple", odA, .seq itsA zA, slA⟩) (sA : itsA.size ≤ sizeLine) (pA : PairsAt K itsA.toList Sn15.NEAR)
    (mBI : MtAt K CB "__init__" "Bits.__init__" sBInit) (mLeft : MtAt K CB "left" "Bits.left" sLeft) (mBit : MtAt K CB "bit" "Bits.bit" sBit) (mNum : MtAt K CB "number" "Bits.number" sNumber) (mCI : MtAt K CC "__init__" "Code.__init__" sCInit) (mNext : MtAt K CC "next_symbol" "Code.next_symbol" sNext) (mVI : MtAt K CV "__init__" "Canvas.__init__" sVInit) (mPut : MtAt K CV "put" "Canvas.put" sPut) (mPutC : MtAt K CV "put_cached" "Canvas.put_cached" sPutC) (mRep : MtAt K CV "repeat" "Canvas.repeat" sRepeat) (mSI : MtAt K CS "__init__" "Squares.__init__" sSInit) (mColAt : MtAt K CS "colour_at" "Squares.colour_at" sColAt) (mGI : MtAt K CG "__init__" "Groups.__init__" sGInit) (mGrpAt : MtAt K CG "group_at" "Groups.group_at" sGrpAt)
    (f00 : FnAt K "code_of_lengths" sCol) (f01 : FnAt K "read_value" sValue) (f02 : FnAt K "distance_of" sDist) (f03 : FnAt K "read_most_symbols" sMost) (f04 : FnAt K "read_run" sRun) (f05 : FnAt K "read_code_of_lengths" sCofL) (f06 : FnAt K "read_lengths" sLens) (f07 : FnAt K "read_short_code" sShort) (f08 : FnAt K "read_code" sCode) (f09 : FnAt K "group_number" sGrpNo) (f10 : FnAt K "divided_up" sDivUp) (f11 : FnAt K "read_cache_depth" sDepth) (f12 : FnAt K "read_colour" sColour) (f13 : FnAt K "read_step" sStep) (f14 : FnAt K "read_colours" sColours) (f15 : FnAt K "read_group" sGroup) (f16 : FnAt K "read_plain_picture" sPlain) (f17 : FnAt K "read_squares" sSquares) (f18 : FnAt K "read_groups" sGroups) (f19 : FnAt K "read_grouped_picture" sGrouped) (f20 : FnAt K "read_modes" sModes) (f21 : FnAt K "read_packing" sPack) (f22 : FnAt K "read_transform" sTrans) (f23 : FnAt K "read_transforms" sTranss) (f24 : FnAt K "letters_stand" sLetters) (f25 : FnAt K "size_at" sSizeAt) (f26 : FnAt K "names_stand" sNames) (f27 : FnAt K "bytes_of_bits" sFrame) (f28 : FnAt K "read_head" sHead) (f29 : FnAt K "looked_at" sLooked) (f30 : FnAt K "look" sLook) :
    ∃ fd : FuncData, (∀ (s : Shared) (us : List Value), us.length = (["most", "data"] : List Str).length → BindsTo s fd ⟨us, []⟩ ((["most", "data"] : List Str).zip us)) ∧ ∀ base : Heap, K.In base → base.Ns mainGlobals mg → FnOk P w K mg base (CXe P w) 14 fa fd ["most", "data"] (spLook K) := by
  obtain ⟨asA, eA, nA, qA⟩ := pA.refs
  have T : Tx K mg ⟨CN, CT, CB, CV, CC, CS, CG⟩ :=
    { xN := xN, gN := PySem.W.mg_of X G nN, xT := xT, gT := PySem.W.mg_of X G nT, cB := cCB.cl, cV := cCV.cl, cC := cCC.cl, cS := cCS.cl, cG := cCG.cl
      nO := n0, nP := n1, nE := n2, vW := n3, vS := n4, vC := n5, vD := n6, vH := n7, nW := n8, nS := n9, sS := n10, sA := n11, sC := n12, gS := n13, gG := n14
      len := PySem.W.mg_none_of X G blen, range := PySem.W.mg_none_of X G brange, max := PySem.W.mg_none_of X G bmax, min := PySem.W.mg_none_of X G bmin, sum := PySem.W.mg_none_of X G bsum, enum := PySem.W.mg_none_of X G benumerate, ord := PySem.W.mg_none_of X G bord
      kSPREAD := kSPREAD.glob X G, kLOW := kLOW.glob X G, kLONGEST := kLONGEST.glob X G, kFIRST := kFIRST.glob X G, kRED := kRED.glob X G, kBLUE := kBLUE.glob X G, kALPHA := kALPHA.glob X G, kDISTANCE := kDISTANCE.glob X G
      kORDER := ⟨aO, PySem.W.mg_of X G gO, fun H => .inr ⟨_, itsO, zO, lO, rfl, rfl, sO, vO⟩⟩
      kNEAR := ⟨aA, asA, PySem.W.mg_of X G gA, fun H => .inr ⟨_, itsA, zA, lA, rfl, rfl, sA, by rw [eA]; exact vals_refs asA⟩, nA, qA⟩ }
  have T2 : Tx2 mg := ⟨kPRED.glob X G, kCOL.glob X G, kTAB.glob X G, kMODE.glob X G, kSIG.glob X G, kNSF.glob X G, kTOO.glob X G, kLAR.glob X G⟩
  obtain ⟨f, fd, a, F⟩ := f30.ex
  have e := hfa.symm.trans (PySem.W.mg_of X G a)
  cases e
  refine ⟨fd, fun s us hu => ?_, fun base _ _ => ?_⟩
  · obtain ⟨oc, od, kV, doc, pm, an, cdv, ct, osl, rfl, lk, hcd⟩ := F.ex
    match us, hu with
    | [_, _], _ => exact .of_eq rfl
  · have gBit : MethOk P w K mg base 1 CB "bit" ["self"] (spBit ⟨CN, CT, CB, CV, CC, CS, CG⟩) := mBit.ok (fun _ _ _ _ _ _ us hl => match us, hl with | [_], _ => rfl) fun F => ok_Bit F T
    have gNum : MethOk P w K mg base 2 CB "number" ["self", "width"] (spNumber ⟨CN, CT, CB, CV, CC, CS, CG⟩) := mNum.ok (fun _ _ _ _ _ _ us hl => match us, hl with | [_, _], _ => rfl) fun F => ok_Number F T gBit
    have gLeft : MethOk P w K mg base 1 CB "left" ["self"] (spLeft ⟨CN, CT, CB, CV, CC, CS, CG⟩) := mLeft.ok (fun _ _ _ _ _ _ us hl => match us, hl with | [_], _ => rfl) fun F => ok_Left F T
    have gB : MakeOk P w K mg base 1 CB "Bits" ["self", "octets"] (spBInit ⟨CN, CT, CB, CV, CC, CS, CG⟩) := mBI.make cCB X G (fun _ _ _ _ _ _ us hl => match us, hl with | [_, _], _ => rfl) fun F => ok_BInit F T
    have gC : MakeOk P w K mg base 1 CC "Code" ["self", "words", "sole"] (spCInit ⟨CN, CT, CB, CV, CC, CS, CG⟩) := mCI.make cCC X G (fun _ _ _ _ _ _ us hl => match us, hl with | [_, _, _], _ => rfl) fun F => ok_CInit F T
    have gNext : MethOk P w K mg base 2 CC "next_symbol" ["self", "bits"] (spNext ⟨CN, CT, CB, CV, CC, CS, CG⟩) := mNext.ok (fun _ _ _ _ _ _ us hl => match us, hl with | [_, _], _ => rfl) fun F => ok_Next F T gBit
    have gCol : DefOk P w K mg base 3 "code_of_lengths" ["lengths"] (spCol ⟨CN, CT, CB, CV, CC, CS, CG⟩) := f00.ok X G (fun _ _ _ _ _ _ us hl => match us, hl with | [_], _ => rfl) fun F => ok_Col F T gC
    have gV : MakeOk P w K mg base 1 CV "Canvas" ["self", "width", "height", "depth"] (spVInit ⟨CN, CT, CB, CV, CC, CS, CG⟩) := mVI.make cCV X G (fun _ _ _ _ _ _ us hl => match us, hl with | [_, _, _, _], _ => rfl) fun F => ok_VInit F T
    have gPut : MethOk P w K mg base 1 CV "put" ["self", "colour"] (spPut ⟨CN, CT, CB, CV, CC, CS, CG⟩) := mPut.ok (fun _ _ _ _ _ _ us hl => match us, hl with | [_, _], _ => rfl) fun F => ok_Put F T
    have gPutC : MethOk P w K mg base 2 CV "put_cached" ["self", "slot"] (spPutC ⟨CN, CT, CB, CV, CC, CS, CG⟩) := mPutC.ok (fun _ _ _ _ _ _ us hl => match us, hl with | [_, _], _ => rfl) fun F => ok_PutC F T gPut
    have gRep : MethOk P w K mg base 2 CV "repeat" ["self", "length", "distance"] (spRepeat ⟨CN, CT, CB, CV, CC, CS, CG⟩) := mRep.ok (fun _ _ _ _ _ _ us hl => match us, hl with | [_, _, _], _ => rfl) fun F => ok_Repeat F T gPut
    have gVal : DefOk P w K mg base 3 "read_value" ["bits", "symbol"] (spValue ⟨CN, CT, CB, CV, CC, CS, CG⟩) := f01.ok X G (fun _ _ _ _ _ _ us hl => match us, hl with | [_, _], _ => rfl) fun F => ok_Value F T gNum
    have gDist : DefOk P w K mg base 1 "distance_of" ["value", "width"] spDist := f02.ok X G (fun _ _ _ _ _ _ us hl => match us, hl with | [_, _], _ => rfl) fun F => ok_Dist F T
    have gMost : DefOk P w K mg base 3 "read_most_symbols" ["bits", "size"] (spMost ⟨CN, CT, CB, CV, CC, CS, CG⟩) := f03.ok X G (fun _ _ _ _ _ _ us hl => match us, hl with | [_, _], _ => rfl) fun F => ok_Most F T gBit gNum
    have gRun : DefOk P w K mg base 3 "read_run" ["bits", "symbol", "last"] (spRun ⟨CN, CT, CB, CV, CC, CS, CG⟩) := f04.ok X G (fun _ _ _ _ _ _ us hl => match us, hl with | [_, _, _], _ => rfl) fun F => ok_Run F T gNum
    have gCofL : DefOk P w K mg base 4 "read_code_of_lengths" ["bits"] (spCofL ⟨CN, CT, CB, CV, CC, CS, CG⟩) := f05.ok X G (fun _ _ _ _ _ _ us hl => match us, hl with | [_], _ => rfl) fun F => ok_CofL F T gNum gCol
    have gLens : DefOk P w K mg base 5 "read_lengths" ["bits", "size"] (spLens ⟨CN, CT, CB, CV, CC, CS, CG⟩) := f06.ok X G (fun _ _ _ _ _ _ us hl => match us, hl with | [_, _], _ => rfl) fun F => ok_Lens F T gNext gCofL gMost gRun
    have gShort : DefOk P w K mg base 3 "read_short_code" ["bits", "size"] (spShort ⟨CN, CT, CB, CV, CC, CS, CG⟩) := f07.ok X G (fun _ _ _ _ _ _ us hl => match us, hl with | [_, _], _ => rfl) fun F => ok_Short F T gBit gNum gC
    have gCode : DefOk P w K mg base 6 "read_code" ["bits", "size"] (spCode ⟨CN, CT, CB, CV, CC, CS, CG⟩) := f08.ok X G (fun _ _ _ _ _ _ us hl => match us, hl with | [_, _], _ => rfl) fun F => ok_Code F T gBit gShort gLens gCol
    have gS : MakeOk P w K mg base 1 CS "Squares" ["self", "shift", "across", "colours"] (spSInit ⟨CN, CT, CB, CV, CC, CS, CG⟩) := mSI.make cCS X G (fun _ _ _ _ _ _ us hl => match us, hl with | [_, _, _, _], _ => rfl) fun F => ok_SInit F T
    have gG : MakeOk P w K mg base 1 CG "Groups" ["self", "squares", "groups"] (spGInit ⟨CN, CT, CB, CV, CC, CS, CG⟩) := mGI.make cCG X G (fun _ _ _ _ _ _ us hl => match us, hl with | [_, _, _], _ => rfl) fun F => ok_GInit F T
    have gGrpNo : DefOk P w K mg base 1 "group_number" ["colour"] spGrpNo := f09.ok X G (fun _ _ _ _ _ _ us hl => match us, hl with | [_], _ => rfl) fun F => ok_GrpNo F 
    have gDivUp : DefOk P w K mg base 1 "divided_up" ["number", "shift"] spDivUp := f10.ok X G (fun _ _ _ _ _ _ us hl => match us, hl with | [_, _], _ => rfl) fun F => ok_DivUp F 
    have gColAt : MethOk P w K mg base 1 CS "colour_at" ["self", "x", "y"] (spColAt ⟨CN, CT, CB, CV, CC, CS, CG⟩) := mColAt.ok (fun _ _ _ _ _ _ us hl => match us, hl with | [_, _, _], _ => rfl) fun F => ok_ColAt F T
    have gGrpAt : MethOk P w K mg base 2 CG "group_at" ["self", "x", "y"] (spGrpAt ⟨CN, CT, CB, CV, CC, CS, CG⟩) := mGrpAt.ok (fun _ _ _ _ _ _ us hl => match us, hl with | [_, _, _], _ => rfl) fun F => ok_GrpAt F T gGrpNo gColAt
    have gDepth : DefOk P w K mg base 3 "read_cache_depth" ["bits"] (spDepth ⟨CN, CT, CB, CV, CC, CS, CG⟩) := f11.ok X G (fun _ _ _ _ _ _ us hl => match us, hl with | [_], _ => rfl) fun F => ok_Depth F T gBit gNum
    have gColour : DefOk P w K mg base 3 "read_colour" ["bits", "green", "group"] (spColour ⟨CN, CT, CB, CV, CC, CS, CG⟩) := f12.ok X G (fun _ _ _ _ _ _ us hl => match us, hl with | [_, _, _], _ => rfl) fun F => ok_Colour F T gNext
    have gStep : DefOk P w K mg base 4 "read_step" ["bits", "canvas", "group"] (spStep ⟨CN, CT, CB, CV, CC, CS, CG⟩) := f13.ok X G (fun _ _ _ _ _ _ us hl => match us, hl with | [_, _, _], _ => rfl) fun F => ok_Step F T gNext gPut gPutC gRep gVal gDist gColour
    have gColours : DefOk P w K mg base 5 "read_colours" ["bits", "canvas", "groups"] (spColours ⟨CN, CT, CB, CV, CC, CS, CG⟩) := f14.ok X G (fun _ _ _ _ _ _ us hl => match us, hl with | [_, _, _], _ => rfl) fun F => ok_Colours F T gGrpAt gStep
    have gGroup : DefOk P w K mg base 7 "read_group" ["bits", "depth"] (spGroup ⟨CN, CT, CB, CV, CC, CS, CG⟩) := f15.ok X G (fun _ _ _ _ _ _ us hl => match us, hl with | [_, _], _ => rfl) fun F => ok_Group F T gCode
    have gPlain : DefOk P w K mg base 8 "read_plain_picture" ["bits", "width", "height"] (spPlain ⟨CN, CT, CB, CV, CC, CS, CG⟩) := f16.ok X G (fun _ _ _ _ _ _ us hl => match us, hl with | [_, _, _], _ => rfl) fun F => ok_Plain F T gDepth gGroup gG gV gColours
    have gSquares : DefOk P w K mg base 9 "read_squares" ["bits", "width", "height"] (spSquares ⟨CN, CT, CB, CV, CC, CS, CG⟩) := f17.ok X G (fun _ _ _ _ _ _ us hl => match us, hl with | [_, _, _], _ => rfl) fun F => ok_Squares F T gNum gDivUp gPlain gS
    have gGroups : DefOk P w K mg base 10 "read_groups" ["bits", "width", "height", "depth"] (spGroups ⟨CN, CT, CB, CV, CC, CS, CG⟩) := f18.ok X G (fun _ _ _ _ _ _ us hl => match us, hl with | [_, _, _, _], _ => rfl) fun F => ok_Groups F T gBit gGroup gG gSquares gGrpNo
    have gGrouped : DefOk P w K mg base 11 "read_grouped_picture" ["bits", "width", "height"] (spGrouped ⟨CN, CT, CB, CV, CC, CS, CG⟩) := f19.ok X G (fun _ _ _ _ _ _ us hl => match us, hl with | [_, _, _], _ => rfl) fun F => ok_Grouped F T gDepth gGroups gV gColours
    have gModes : DefOk P w K mg base 10 "read_modes" ["bits", "width", "height"] (spModes ⟨CN, CT, CB, CV, CC, CS, CG⟩) := f20.ok X G (fun _ _ _ _ _ _ us hl => match us, hl with | [_, _, _], _ => rfl) fun F => ok_Modes F T T2 gSquares
    have gPack : DefOk P w K mg base 9 "read_packing" ["bits"] (spPack ⟨CN, CT, CB, CV, CC, CS, CG⟩) := f21.ok X G (fun _ _ _ _ _ _ us hl => match us, hl with | [_], _ => rfl) fun F => ok_Pack F T gNum gPlain
    have gTrans : DefOk P w K mg base 11 "read_transform" ["bits", "kind", "width", "height"] (spTrans ⟨CN, CT, CB, CV, CC, CS, CG⟩) := f22.ok X G (fun _ _ _ _ _ _ us hl => match us, hl with | [_, _, _, _], _ => rfl) fun F => ok_Trans F T2 gModes gSquares gDivUp gPack
    have gTranss : DefOk P w K mg base 12 "read_transforms" ["bits", "width", "height"] (spTranss ⟨CN, CT, CB, CV, CC, CS, CG⟩) := f23.ok X G (fun _ _ _ _ _ _ us hl => match us, hl with | [_, _, _], _ => rfl) fun F => ok_Transs F T gBit gNum gTrans
    have gLetters : DefOk P w K mg base 1 "letters_stand" ["data", "place", "letters"] (spLetters K) := f24.ok X G (fun _ _ _ _ _ _ us hl => match us, hl with | [_, _, _], _ => rfl) fun F => ok_Letters F T
    have gSizeAt : DefOk P w K mg base 1 "size_at" ["data", "place"] (spSizeAt K) := f25.ok X G (fun _ _ _ _ _ _ us hl => match us, hl with | [_, _], _ => rfl) fun F => ok_SizeAt F 
    have gNames : DefOk P w K mg base 2 "names_stand" ["data"] (spNames K) := f26.ok X G (fun _ _ _ _ _ _ us hl => match us, hl with | [_], _ => rfl) fun F => ok_Names F gLetters
    have gFrame : DefOk P w K mg base 3 "bytes_of_bits" ["data"] (spFrame K ⟨CN, CT, CB, CV, CC, CS, CG⟩) := f27.ok X G (fun _ _ _ _ _ _ us hl => match us, hl with | [_], _ => rfl) fun F => ok_Frame F T T2 gNames gSizeAt
    have gHead : DefOk P w K mg base 3 "read_head" ["bits"] (spHead ⟨CN, CT, CB, CV, CC, CS, CG⟩) := f28.ok X G (fun _ _ _ _ _ _ us hl => match us, hl with | [_], _ => rfl) fun F => ok_Head F T T2 gBit gNum
    have gLooked : DefOk P w K mg base 13 "looked_at" ["data"] (spLooked K ⟨CN, CT, CB, CV, CC, CS, CG⟩) := f29.ok X G (fun _ _ _ _ _ _ us hl => match us, hl with | [_], _ => rfl) fun F => ok_Looked F T gFrame gB gHead gTranss gGrouped gLeft
    exact ok_Look F T T2 gLooked x11 x21 x22
end Lk
end
section
set_option Elab.async false
set_option linter.all false
set_option maxRecDepth 100000
set_option maxHeartbeats 4000000
namespace Lk
open PySem PySem.Spec PyProof.Rows L2
open PySem.W (Codec OpenSpec)
/-- the walk over a row where what a def may raise hangs on the world, and its promise on the written part -/
theorem walk_specKw {r : OpenSpec} {k : Nat} {q : Program} {loose : List Str} {XP : (Str → Option Value) → Heap → Prop} {YP : World → Heap → Prop} {d : DefRec} {K : Params → PySem.W.Frag} {CX : World → CXT} {ps : List Str} {sp : PySem.W.Frag → Sp}
    (wl : r.wellSaid = true) (nd : d.params.defaults = []) (ln : r.args.length = ps.length) (ro : Room k callerA) (hK : ∀ (w : World) (h : Heap), YP w h → (K w.params).In h)
    (F : ∀ (w : World) (mg : Str → Option Value) (fa : Addr) (h : Heap), YP w h → (K w.params).In h → h.Ns mainGlobals mg → mg d.name = some (.ref fa) → ∃ fd : FuncData, (∀ (s : Shared) (us : List Value), us.length = ps.length → BindsTo s fd ⟨us, []⟩ (ps.zip us)) ∧ ∀ base : Heap, (K w.params).In base → base.Ns mainGlobals mg → FnOk r.prog w (K w.params) mg base (CX w) k fa fd ps (sp (K w.params)))
    (S : ∀ (K : PySem.W.Frag) (H : Hp) (xs : List V) (a : Codec.denoteAll r.args), OnlyF H → Codec.withinAll r.args a = true → Codec.app r.args r.asked a = true → DwAll K H xs (Codec.encAll r.args a) → sp K xs H (fun v H' => Dw K H' v (r.ret.enc (Codec.app r.args r.f a))) fun _ _ _ => False)
    (C : ∀ (w : World) (H : Hp) (s : Shared) (e : Value) (s' : Shared), CX w [] H s (fun _ _ _ => False) e s' → False) : PySem.W.WalkOS q loose XP YP r d [] (fun f vs => PySem.call f vs) :=
  walk_spec (sp := fun w => sp (K w.params)) wl nd ln ro hK F (fun w => S (K w.params)) C
theorem toNat_bytes : ∀ l : List Int, (∀ z ∈ l, 0 ≤ z) → l.map V.int = natsV (l.map Int.toNat)
  | [], _ => rfl
  | z :: l, h => by
    have ih := toNat_bytes l fun y hy => h y (List.mem_cons_of_mem _ hy)
    have hz := h z (List.mem_cons_self ..)
    show V.int z :: l.map V.int = V.int ((z.toNat : Nat) : Int) :: natsV (l.map Int.toNat)
    rw [ih, Int.toNat_of_nonneg hz]
theorem look_sp (K : PySem.W.Frag) (H : Hp) (xs : List V) (a : Codec.denoteAll PySem.Challenge.rw_losslook_s01_look.args) (hO : OnlyF H) (hwi : Codec.withinAll PySem.Challenge.rw_losslook_s01_look.args a = true) (hask : Codec.app PySem.Challenge.rw_losslook_s01_look.args PySem.Challenge.rw_losslook_s01_look.asked a = true)
    (hx : DwAll K H xs (Codec.encAll PySem.Challenge.rw_losslook_s01_look.args a)) :
    spLook K xs H (fun v H' => Dw K H' v (PySem.Challenge.rw_losslook_s01_look.ret.enc (Codec.app PySem.Challenge.rw_losslook_s01_look.args PySem.Challenge.rw_losslook_s01_look.f a))) fun _ _ _ => False := by
  cases hx with
  | cons h1 h2 =>
    cases h2 with
    | cons h3 h4 =>
      cases h4
      cases h1
      cases h3 with
      | lst hs ha =>
        have e := ints_dw a.2.1 _ ha
        subst e
        have q : (Codec.inInt (-2147483648) 2147483647 a.1 && ((Codec.inLen 0 100000 a.2.1 && a.2.1.all (Codec.inInt 0 255)) && true)) = true := hwi
        rw [Bool.and_eq_true, Bool.and_eq_true, Bool.and_eq_true] at q
        have hb : ∀ z : Int, z ∈ (show List Int from a.2.1) → (0 : Int) ≤ z ∧ z ≤ (255 : Int) := fun z hz => Codec.inInt_iff.mp (List.all_eq_true.mp q.2.1.2 z hz)
        have hl : a.2.1.length ≤ 100000 := (Codec.inNat_iff.mp q.2.1.1).2
        have e1 := toNat_bytes a.2.1 fun z hz => (hb z hz).1
        rw [e1] at hs
        refine ⟨a.1, _, a.2.1.map Int.toNat, rfl, hs, ?_, ?_, ?_⟩
        · intro c hc
          obtain ⟨z, hz, rfl⟩ := List.mem_map.mp hc
          have h8 : (0 : Int) ≤ (z : Int) := (hb z hz).1
          have h9 : (z : Int) ≤ (255 : Int) := (hb z hz).2
          show Int.toNat z < 256
          revert h8 h9
          exact (fun (y : Int) (h8 : 0 ≤ y) (h9 : y ≤ 255) => (by omega : y.toNat < 256)) z
        · rw [List.length_map]
          exact hl
        · intro la H' hla
          rw [← look_ans a.1 a.2.1 hl] at hla
          exact .lst (SqL.of hla) (dw_ints _)
end Lk
end
/- names that are taken: the head then lays no quick twin of its objects, trees and heaps, whose proofs would grow with the square of their number -/
namespace PySem.W.Fast
theorem tw5755865609793161506 : True := trivial
theorem tw9772605357142511634 : True := trivial
theorem tw6798021090147415846 : True := trivial
theorem tw4252651870555733138 : True := trivial
theorem tw18378361275750635568 : True := trivial
theorem tw17418366833252344844 : True := trivial
theorem tw10667522994693154072 : True := trivial
theorem tw13902680054752797550 : True := trivial
theorem tw13351670636574453741 : True := trivial
theorem tw13506125487054368673 : True := trivial
theorem tw6839506388942825387 : True := trivial
theorem tw1897466548343205208 : True := trivial
theorem tw2834541274444446721 : True := trivial
theorem tw3819931942234569041 : True := trivial
theorem tw17444239323800570878 : True := trivial
theorem tw12842011997792054574 : True := trivial
theorem tw17345363589839402146 : True := trivial
theorem tw9548680153926629536 : True := trivial
theorem tw12417853421658728020 : True := trivial
theorem tw1991015616902103023 : True := trivial
theorem tw5550810375119396013 : True := trivial
theorem tw17928982432013121932 : True := trivial
theorem tw13624124867245601348 : True := trivial
theorem tw9044410033761961258 : True := trivial
theorem tw13141709399255796810 : True := trivial
theorem tw847042108765944670 : True := trivial
theorem tw14441041104276340353 : True := trivial
theorem tw15361884236743237798 : True := trivial
theorem tw5123793751208226195 : True := trivial
theorem tw296596955861800935 : True := trivial
theorem tw11873172204147177669 : True := trivial
theorem tw5326460789995145773 : True := trivial
theorem tw10539121349613649221 : True := trivial
theorem tw2475019691788515300 : True := trivial
theorem tw6249721641634887786 : True := trivial
theorem tw12302524498209802363 : True := trivial
theorem tw17320601939453103778 : True := trivial
theorem tw15727438765332132556 : True := trivial
theorem tw8858930738707033501 : True := trivial
theorem tw9808199088584000977 : True := trivial
theorem tw3655333103708655297 : True := trivial
theorem tw18038825193781035626 : True := trivial
theorem tw17126704003245942022 : True := trivial
theorem tw2602873505336906970 : True := trivial
theorem tw2456480455456360870 : True := trivial
theorem tw18092900448045579578 : True := trivial
theorem tw2327485667407385967 : True := trivial
theorem tw9334936832692696212 : True := trivial
theorem tw13307932612427310603 : True := trivial
theorem tw8464794712735207438 : True := trivial
theorem tw96617465157390549 : True := trivial
theorem tw7467622210518968836 : True := trivial
theorem tw7067130489879452287 : True := trivial
theorem tw5398100973177579454 : True := trivial
theorem tw796555088015199351 : True := trivial
theorem tw17888521370481389287 : True := trivial
theorem tw15464965102360058689 : True := trivial
theorem tw1681611520295058308 : True := trivial
theorem tw12080288167085841019 : True := trivial
theorem tw10877405689760395178 : True := trivial
theorem tw11185058916532500946 : True := trivial
theorem tw7218914125092035748 : True := trivial
theorem tw7231684112985819443 : True := trivial
theorem tw13843399596968644043 : True := trivial
theorem tw11963023808812489035 : True := trivial
theorem tw4545969132547981606 : True := trivial
theorem tw14914764613046995810 : True := trivial
theorem tw14246378362578017093 : True := trivial
theorem tw8956083090000207495 : True := trivial
theorem tw5855120234902778062 : True := trivial
theorem tw5831645270618669945 : True := trivial
theorem tw11007886502312061760 : True := trivial
theorem tw9639633142741261898 : True := trivial
theorem tw455701075035261985 : True := trivial
theorem tw1144390831932659428 : True := trivial
theorem tw6163926809299736197 : True := trivial
theorem tw10078176952597307457 : True := trivial
theorem tw17493934976023198138 : True := trivial
theorem tw1057024060450748675 : True := trivial
theorem tw16967760154632951731 : True := trivial
theorem tw6328542944417194602 : True := trivial
theorem tw17245934344246409733 : True := trivial
theorem tw7185130355007043893 : True := trivial
theorem tw4861900792363551539 : True := trivial
theorem tw3952128988721151574 : True := trivial
theorem tw13334351091362592955 : True := trivial
theorem tw2800162550771071164 : True := trivial
theorem tw8053267439215345602 : True := trivial
theorem tw13784771500172471553 : True := trivial
theorem tw13252760808526141662 : True := trivial
theorem tw11276055005462715218 : True := trivial
theorem tw16163942358922754645 : True := trivial
theorem tw9173117040256192514 : True := trivial
theorem tw1939327634625946236 : True := trivial
theorem tw15683724966687124703 : True := trivial
theorem tw451143765797629680 : True := trivial
theorem tw12997088822685805341 : True := trivial
theorem tw4623704091923697536 : True := trivial
theorem tw10555889760482265486 : True := trivial
theorem tw945699540330121036 : True := trivial
theorem tw14529376622124537975 : True := trivial
theorem tw10664151047756717024 : True := trivial
theorem tw10270044313906094320 : True := trivial
theorem tw3520918425673503164 : True := trivial
theorem tw4900444376522243645 : True := trivial
theorem tw6686951155318773070 : True := trivial
theorem tw14904483872290521607 : True := trivial
theorem tw5209463969059760787 : True := trivial
theorem tw13044333330263690656 : True := trivial
theorem tw9765513377216621632 : True := trivial
theorem tw7248965472900913802 : True := trivial
theorem tw3129447459948069357 : True := trivial
theorem tw8233411309975416 : True := trivial
theorem tw13810141760034803123 : True := trivial
theorem tw15924403705608291237 : True := trivial
theorem tw1022308453004470402 : True := trivial
theorem tw7488596936990998852 : True := trivial
theorem tw8582079796495937936 : True := trivial
theorem tw1665409675713470744 : True := trivial
theorem tw13255923768245495845 : True := trivial
theorem tw3522571956314270742 : True := trivial
theorem tw3676134565122051615 : True := trivial
theorem tw11637520601746213280 : True := trivial
theorem tw14332682577835308088 : True := trivial
theorem tw11030709444923377415 : True := trivial
theorem tw7084707718183251738 : True := trivial
theorem tw18144868200273699501 : True := trivial
theorem tw10181154119194480502 : True := trivial
theorem tw419219758206734089 : True := trivial
theorem tw15441065432356997791 : True := trivial
theorem tw132180348402082154 : True := trivial
theorem tw15971503816438219317 : True := trivial
theorem tw11616564465948726318 : True := trivial
theorem tw17378608517453280307 : True := trivial
theorem tw13398988893854326708 : True := trivial
theorem tw14936336559437961895 : True := trivial
theorem tw1930918736735608046 : True := trivial
theorem tw6782293090282225533 : True := trivial
theorem tw7296163394948424771 : True := trivial
theorem tw14561510177007920219 : True := trivial
theorem tw6526187116166963122 : True := trivial
theorem tw15103810084854060466 : True := trivial
theorem tw8357766091467148259 : True := trivial
theorem tw8192477552270734003 : True := trivial
theorem tw3906058629336012255 : True := trivial
theorem tw11011184409128041014 : True := trivial
theorem tw8465223403856097054 : True := trivial
theorem tw17137683992216999877 : True := trivial
theorem tw1197051022380765729 : True := trivial
theorem tw18126060115705921887 : True := trivial
theorem tw8403788592548186818 : True := trivial
theorem tw5852387722417410644 : True := trivial
theorem tw10160125848717661395 : True := trivial
theorem tw14065540403439033668 : True := trivial
theorem tw11655810459353061400 : True := trivial
theorem tw3115958987389001013 : True := trivial
theorem tw14400171244048228248 : True := trivial
theorem tw11134266923341177996 : True := trivial
theorem tw14851861408847527582 : True := trivial
theorem tw11023401125342392525 : True := trivial
theorem tw10363037081709631187 : True := trivial
theorem tw9035099313603100166 : True := trivial
theorem tw4184210904118182141 : True := trivial
theorem tw9018689417745974667 : True := trivial
theorem tw7280922911657547807 : True := trivial
theorem tw16872225228437080240 : True := trivial
theorem tw6755760813740924585 : True := trivial
theorem tw1445364126286837643 : True := trivial
theorem tw3290694517101689662 : True := trivial
theorem tw17235810403920684895 : True := trivial
theorem tw17889269936101058153 : True := trivial
theorem tw7522980673331697866 : True := trivial
theorem tw15346440933445516539 : True := trivial
theorem tw9216931817610758374 : True := trivial
theorem tw554279562148796489 : True := trivial
theorem tw2784344036319695301 : True := trivial
theorem tw14361929688402365603 : True := trivial
theorem tw17982935539585544111 : True := trivial
theorem tw7106208267162466480 : True := trivial
theorem tw2330081354930800975 : True := trivial
theorem tw16395034312383746728 : True := trivial
theorem tw4703584591764622242 : True := trivial
theorem tw12544621644187363046 : True := trivial
theorem tw15705053105151970382 : True := trivial
theorem tw12892334530803548356 : True := trivial
theorem tw12486706262958084647 : True := trivial
theorem tw17617258433661008175 : True := trivial
theorem tw3259541311125618630 : True := trivial
theorem tw14474444085837579890 : True := trivial
theorem tw18053300158446369847 : True := trivial
theorem tw7537541203962091727 : True := trivial
theorem tw5379157657878340556 : True := trivial
theorem tw8227266378723025612 : True := trivial
theorem tw9199264963459091634 : True := trivial
theorem tw13179988038723435579 : True := trivial
theorem tw13575736970079700721 : True := trivial
theorem tw5922035872846424866 : True := trivial
theorem tw2200476656041631531 : True := trivial
theorem tw13605124620983253792 : True := trivial
theorem tw3443068875622812147 : True := trivial
theorem tw14523787491039000309 : True := trivial
theorem tw1455746797385578606 : True := trivial
theorem tw66407114659696402 : True := trivial
theorem tw15541264219080774203 : True := trivial
theorem tw12143975367690189655 : True := trivial
theorem tw11233234828252721971 : True := trivial
theorem tw4837448251846987456 : True := trivial
theorem tw365760730213563267 : True := trivial
theorem tw17393202145929966538 : True := trivial
theorem tw4251506544817258662 : True := trivial
theorem tw13596307594515381059 : True := trivial
theorem tw13195851234374204115 : True := trivial
theorem tw5601525201772414860 : True := trivial
theorem tw16404837584113270983 : True := trivial
theorem tw17714682423799390513 : True := trivial
theorem tw7095909072670314942 : True := trivial
theorem tw6462280497066538332 : True := trivial
theorem tw9958381336813943854 : True := trivial
theorem tw13661553137243052425 : True := trivial
theorem tw3825322126996736151 : True := trivial
theorem tw8090605855546769353 : True := trivial
theorem tw277634285034751920 : True := trivial
theorem tw2155845265739929185 : True := trivial
theorem tw6080734173707079258 : True := trivial
theorem tw129933513823755309 : True := trivial
theorem tw16311819694357151038 : True := trivial
theorem tw12913954851089211519 : True := trivial
theorem tw16920983458810862335 : True := trivial
theorem tw9796116806424877755 : True := trivial
theorem tw14421297747117734368 : True := trivial
theorem tw16818617900714446149 : True := trivial
theorem tw7020711516749770381 : True := trivial
theorem tw18229063171568324898 : True := trivial
theorem tw8188505782182023578 : True := trivial
theorem tw203281372835355497 : True := trivial
theorem tw10424432652342753844 : True := trivial
theorem tw13638352868449454433 : True := trivial
theorem tw10710524755300043292 : True := trivial
theorem tw10713180858081179903 : True := trivial
theorem tw4863270006695660884 : True := trivial
theorem tw11784480087631548926 : True := trivial
theorem tw8877551071838100560 : True := trivial
theorem tw1389499675043493539 : True := trivial
theorem tw596254732210136694 : True := trivial
theorem tw17181578549426577212 : True := trivial
theorem tw4010482273151943531 : True := trivial
theorem tw15279900715778905666 : True := trivial
theorem tw6849910161498288475 : True := trivial
theorem tw8112648432380964232 : True := trivial
theorem tw15695735916846882096 : True := trivial
theorem tw2262352897212781957 : True := trivial
theorem tw5469973966892823179 : True := trivial
theorem tw2090453716766141985 : True := trivial
theorem tw7689469638319725610 : True := trivial
theorem tw11967445168650774887 : True := trivial
theorem tw10311025022379344619 : True := trivial
theorem tw6601491043933960288 : True := trivial
theorem tw9815390347837371480 : True := trivial
theorem tw3059656016538039259 : True := trivial
theorem tw15211520680917576615 : True := trivial
theorem tw6117371518256517842 : True := trivial
theorem tw3549096349181986394 : True := trivial
theorem tw12593858641353265656 : True := trivial
theorem tw8832055442135525990 : True := trivial
theorem tw4881036318908937103 : True := trivial
theorem tw9846260825006909189 : True := trivial
theorem tw13675556876954064161 : True := trivial
theorem tw15241951127621625919 : True := trivial
theorem tw10472622934485830844 : True := trivial
theorem tw2036095813404827041 : True := trivial
theorem tw6662439179339966218 : True := trivial
theorem tw6419881310709300267 : True := trivial
theorem tw8072495160847275452 : True := trivial
theorem tw6415495853315280528 : True := trivial
theorem tw9992025813707778942 : True := trivial
theorem tw5261615050711823099 : True := trivial
theorem tw1576908975469763022 : True := trivial
theorem tw11211676138026316107 : True := trivial
theorem tw9717144987974000465 : True := trivial
theorem tw13101542321068449285 : True := trivial
theorem tw6260550908615164869 : True := trivial
theorem tw11444321975190277423 : True := trivial
theorem tw4906301594356366030 : True := trivial
theorem tw1669746986971828722 : True := trivial
theorem tw15233901891985964800 : True := trivial
theorem tw7792621226963073730 : True := trivial
theorem tw6690180754895199919 : True := trivial
theorem tw17785514052328386097 : True := trivial
theorem tw14938747336415628997 : True := trivial
theorem tw10266916656266072008 : True := trivial
theorem tw13309488058921450474 : True := trivial
theorem tw2055441584600525787 : True := trivial
theorem tw9070858558380032787 : True := trivial
theorem tw17718905410118135571 : True := trivial
theorem tw17283200076867466224 : True := trivial
theorem tw9543743019788145123 : True := trivial
theorem tw4651446078769342566 : True := trivial
theorem tw11160971531194311568 : True := trivial
theorem tw7646755863872091266 : True := trivial
theorem tw422273971863431583 : True := trivial
theorem tw5059498439695054004 : True := trivial
theorem tw14989613213036740379 : True := trivial
theorem tw16363858205431432069 : True := trivial
theorem tw3312670438623173073 : True := trivial
theorem tw15444635004795406345 : True := trivial
theorem tw17972517433112424554 : True := trivial
theorem tw15802938854854711831 : True := trivial
theorem tw16364635050795706295 : True := trivial
theorem tw5596230439542207821 : True := trivial
theorem tw8917331411256659561 : True := trivial
theorem tw4254466422595393951 : True := trivial
theorem tw7214930161576186764 : True := trivial
theorem tw14912735471021381391 : True := trivial
theorem tw12875325346368162164 : True := trivial
theorem tw17613303982524378418 : True := trivial
theorem tw5024082837611136680 : True := trivial
theorem tw1675890632679214803 : True := trivial
theorem tw14624920014620040284 : True := trivial
theorem tw8652274938001566203 : True := trivial
theorem tw17553461846519179551 : True := trivial
theorem tw3070235142223461476 : True := trivial
theorem tw13053903654595399892 : True := trivial
theorem tw5922833849664453231 : True := trivial
theorem tw6203912994546483159 : True := trivial
theorem tw1259926276071830622 : True := trivial
theorem tw7426300964538068770 : True := trivial
theorem tw2194271008392163206 : True := trivial
theorem tw7576272197470750777 : True := trivial
theorem tw16278282995575713917 : True := trivial
theorem tw4791975117983714500 : True := trivial
theorem tw5867959114570303680 : True := trivial
theorem tw9827712510017791496 : True := trivial
theorem tw10759894869156278713 : True := trivial
theorem tw874013523877833757 : True := trivial
theorem tw14561786279185525235 : True := trivial
theorem tw16004470876718654642 : True := trivial
theorem tw10048344541413147301 : True := trivial
theorem tw7862675876187565209 : True := trivial
theorem tw8390862717748879014 : True := trivial
theorem tw11847339791929766573 : True := trivial
theorem tw9343284134506158312 : True := trivial
theorem tw4519715060175393070 : True := trivial
theorem tw8442141231828173208 : True := trivial
theorem tw3234356682086226730 : True := trivial
theorem tw2799473022598194486 : True := trivial
theorem tw4365898289617067748 : True := trivial
theorem tw7336907013471227935 : True := trivial
theorem tw16698836974937049680 : True := trivial
theorem tw12002364919214490901 : True := trivial
theorem tw3216993770471553181 : True := trivial
theorem tw508941245653090281 : True := trivial
theorem tw16813045740696015518 : True := trivial
theorem tw18243386507652361759 : True := trivial
theorem tw12449069993070167328 : True := trivial
theorem tw17782197279025093154 : True := trivial
theorem tw2695914142956473899 : True := trivial
theorem tw13499108285486324043 : True := trivial
theorem tw11405032552727139862 : True := trivial
theorem tw11307091503363309520 : True := trivial
theorem tw14716805326571461601 : True := trivial
theorem tw14924727507374632540 : True := trivial
theorem tw1392875872616670408 : True := trivial
theorem tw18111987346807278424 : True := trivial
theorem tw2175218663543004081 : True := trivial
theorem tw4826900018695170590 : True := trivial
theorem tw10864379767347563640 : True := trivial
theorem tw4531918602421723869 : True := trivial
theorem tw15171243622153747847 : True := trivial
theorem tw10114509709206742053 : True := trivial
theorem tw5256708493020973125 : True := trivial
theorem tw7930461936639017196 : True := trivial
theorem tw18313319946246839097 : True := trivial
theorem tw6589764028521194855 : True := trivial
theorem tw427703485738003341 : True := trivial
theorem tw17930067513390771742 : True := trivial
theorem tw7564682541118820053 : True := trivial
theorem tw7870506514485060576 : True := trivial
theorem tw1721538020560761744 : True := trivial
theorem tw13132514386976098627 : True := trivial
theorem tw11152196693861486110 : True := trivial
theorem tw322926027182450852 : True := trivial
theorem tw5917625998953447480 : True := trivial
theorem tw3600601130525733015 : True := trivial
theorem tw7107795659076295484 : True := trivial
theorem tw2292495310673852456 : True := trivial
theorem tw2872750125767676461 : True := trivial
theorem tw16087396958244885819 : True := trivial
theorem tw11113736291901014137 : True := trivial
theorem tw5113450941370048118 : True := trivial
theorem tw8141397258973629758 : True := trivial
theorem tw7301958990219551180 : True := trivial
theorem tw762228794184023020 : True := trivial
theorem tw14908056523865554631 : True := trivial
theorem tw6560723550624744003 : True := trivial
theorem tw17274826537850967246 : True := trivial
theorem tw1743781160619816632 : True := trivial
theorem tw17489967403600787207 : True := trivial
theorem tw12352418209858956825 : True := trivial
theorem tw790149057243227551 : True := trivial
theorem tw17601124879222045747 : True := trivial
theorem tw11760654549487184590 : True := trivial
theorem tw14762747897136085022 : True := trivial
theorem tw7268473617269808257 : True := trivial
theorem tw9886885502195408851 : True := trivial
theorem tw10228076574924217175 : True := trivial
theorem tw8864633388230570426 : True := trivial
theorem tw6391964708606745908 : True := trivial
theorem tw2935014950674040124 : True := trivial
theorem tw6529101355099439916 : True := trivial
theorem tw8131099954627162851 : True := trivial
theorem tw13675569836315290547 : True := trivial
theorem tw8388252553847032803 : True := trivial
theorem tw9494174455905991066 : True := trivial
theorem tw3712073467096143663 : True := trivial
theorem tw2955377138365660556 : True := trivial
theorem tw5285640710824289791 : True := trivial
theorem tw15831748369341096022 : True := trivial
theorem tw7788244083089495718 : True := trivial
theorem tw18036393270060144789 : True := trivial
theorem tw11698894327249845531 : True := trivial
theorem tw3165643284585003250 : True := trivial
theorem tw12591095315809027333 : True := trivial
theorem tw10198071606653855548 : True := trivial
theorem tw2606103054024111978 : True := trivial
theorem tw16283871036010216775 : True := trivial
theorem tw6966459575781295154 : True := trivial
theorem tw16558974744958281515 : True := trivial
theorem tw1239304859556233315 : True := trivial
theorem tw8677360003965503098 : True := trivial
theorem tw5650520777898110114 : True := trivial
theorem tw5513083314370497939 : True := trivial
theorem tw10177714590666877083 : True := trivial
theorem tw1262987824720212753 : True := trivial
theorem tw10345936514698741777 : True := trivial
theorem tw14103572070752591705 : True := trivial
theorem tw7560995056682799576 : True := trivial
theorem tw6989568428748454907 : True := trivial
theorem tw8065472039703065378 : True := trivial
theorem tw6739807910246992934 : True := trivial
theorem tw776952456235130710 : True := trivial
theorem tw14201436849696188092 : True := trivial
theorem tw11667524277423649476 : True := trivial
theorem tw11833913895113881487 : True := trivial
theorem tw4428002707489505486 : True := trivial
theorem tw11579054443676971832 : True := trivial
theorem tw12810715209785221164 : True := trivial
theorem tw3205422888037092281 : True := trivial
theorem tw6522750517699107085 : True := trivial
theorem tw13242765772519446953 : True := trivial
theorem tw8104756195324543209 : True := trivial
theorem tw10915657876745797384 : True := trivial
theorem tw5694760752994310720 : True := trivial
theorem tw16696403164324495537 : True := trivial
theorem tw7273052893925831315 : True := trivial
theorem tw16689865134737453955 : True := trivial
theorem tw12344837177443258187 : True := trivial
theorem tw8397383969221573658 : True := trivial
theorem tw7106647858516775520 : True := trivial
theorem tw18095380609240355078 : True := trivial
theorem tw8039131732009382839 : True := trivial
theorem tw17669527941334208666 : True := trivial
theorem tw5841506528595164511 : True := trivial
theorem tw3274655587646739883 : True := trivial
theorem tw15550349708260385045 : True := trivial
theorem tw13102585299422497980 : True := trivial
theorem tw11356031102694071166 : True := trivial
theorem tw15232082505840882239 : True := trivial
theorem tw8982474293592757768 : True := trivial
theorem tw13346461160218782020 : True := trivial
theorem tw13292653603871730214 : True := trivial
theorem tw10911266882613530372 : True := trivial
theorem tw14702757478069588831 : True := trivial
theorem tw5631042513141385326 : True := trivial
theorem tw14188639074200309317 : True := trivial
theorem tw17351197606831066197 : True := trivial
theorem tw15526153001410558044 : True := trivial
theorem tw3487117351507729166 : True := trivial
theorem tw4265831190591960392 : True := trivial
theorem tw271792670454658029 : True := trivial
theorem tw14672625300757859149 : True := trivial
theorem tw6645046830347299887 : True := trivial
theorem tw12297058393255316637 : True := trivial
theorem tw10935008166987809624 : True := trivial
theorem tw13576284837217127261 : True := trivial
theorem tw4093565805959535553 : True := trivial
theorem tw14539769569367299002 : True := trivial
theorem tw6750149929465341307 : True := trivial
theorem tw8454396284674426931 : True := trivial
theorem tw3747437569820125138 : True := trivial
theorem tw3815924998995809828 : True := trivial
theorem tw17305568344399696486 : True := trivial
theorem tw16584028657805530387 : True := trivial
theorem tw13216745883414566835 : True := trivial
theorem tw17788430405298608292 : True := trivial
theorem tw14720296018745998194 : True := trivial
theorem tw12403026829378828094 : True := trivial
theorem tw866086393401314939 : True := trivial
theorem tw8725308927838119882 : True := trivial
theorem tw3481191553960737505 : True := trivial
theorem tw3465791293193226706 : True := trivial
theorem tw7605592297869147279 : True := trivial
theorem tw2610949294731495140 : True := trivial
theorem tw2655790836419764663 : True := trivial
theorem tw6428296163795102529 : True := trivial
theorem tw594519140012650616 : True := trivial
theorem tw7481379412732866839 : True := trivial
theorem tw18209108235173970198 : True := trivial
theorem tw7681388890041802721 : True := trivial
theorem tw10109953423451477182 : True := trivial
theorem tw17847693571716090027 : True := trivial
theorem tw9169874279596552835 : True := trivial
theorem tw13110304341781801436 : True := trivial
theorem tw15176260468268452948 : True := trivial
theorem tw18238898911360403026 : True := trivial
theorem tw15884754325251886992 : True := trivial
theorem tw18319611732202166746 : True := trivial
theorem tw1539872268949713269 : True := trivial
theorem tw18414577820837191037 : True := trivial
theorem tw14749769626603160936 : True := trivial
theorem tw11540110634321251788 : True := trivial
theorem tw12446725577453047212 : True := trivial
theorem tw15478037046732246138 : True := trivial
theorem tw313767957701837562 : True := trivial
theorem tw7975841971716470324 : True := trivial
theorem tw13681501470526776128 : True := trivial
theorem tw1536372860457384985 : True := trivial
theorem tw12294164920945852574 : True := trivial
theorem tw3928821499081130238 : True := trivial
theorem tw8008349138718927854 : True := trivial
theorem tw14550843726780495025 : True := trivial
theorem tw669225190577080718 : True := trivial
theorem tw2687326364016151615 : True := trivial
theorem tw12429421993499636529 : True := trivial
theorem tw5806787472592551253 : True := trivial
theorem tw823896869198898083 : True := trivial
theorem tw4727444585952588794 : True := trivial
theorem tw7964322127402857581 : True := trivial
theorem tw17330005393918153695 : True := trivial
theorem tw16803241870570672818 : True := trivial
theorem tw9524155459544069462 : True := trivial
theorem tw14666001862463078336 : True := trivial
theorem tw1979319169842568762 : True := trivial
theorem tw5930341997098769845 : True := trivial
theorem tw13349093456029130075 : True := trivial
theorem tw12660805438421388685 : True := trivial
theorem tw873736503641143451 : True := trivial
theorem tw5342054310555993354 : True := trivial
theorem tw11691348845960305695 : True := trivial
theorem tw9822659858629872020 : True := trivial
theorem tw14103461893172461360 : True := trivial
theorem tw12716147660866016366 : True := trivial
theorem tw8515109895587400729 : True := trivial
theorem tw11412371975497823413 : True := trivial
theorem tw1056456892496761411 : True := trivial
theorem tw18302290063545865732 : True := trivial
theorem tw12465123457303976124 : True := trivial
theorem tw1297871738682353111 : True := trivial
theorem tw5414702172685881135 : True := trivial
theorem tw15320316385839481397 : True := trivial
theorem tw770129581432435355 : True := trivial
theorem tw13414581320952829355 : True := trivial
theorem tw4716833410097341210 : True := trivial
theorem tw4977900288213540601 : True := trivial
theorem tw7719891769326330284 : True := trivial
theorem tw14410270592286360753 : True := trivial
theorem tw7196359959797478522 : True := trivial
theorem tw726344261275017882 : True := trivial
theorem tw17788578931304517203 : True := trivial
theorem tw11006535510288340214 : True := trivial
theorem tw9436741885150362654 : True := trivial
end PySem.W.Fast
set_option Elab.async false
set_option linter.all false
open PySem PySem.W PyProof.Rows
set_option maxRecDepth 100000 in
set_option maxHeartbeats 0 in
theorem PySem.Challenge.cw_losslook_s01_look_holds : PySem.Challenge.rw_losslook_s01_look.Holds := by
  w_on; k_headS; (case hw => exact ⟨[.int 0, .list []], by decide +kernel, by decide +kernel⟩)
  k_fillS
  refine Lk.walk_specKw (r := PySem.Challenge.rw_losslook_s01_look) (k := 14) (CX := fun w => L2.CXe PySem.Challenge.rw_losslook_s01_look.prog w) (ps := ["most", "data"]) (sp := Lk.spLook) (by decide +kernel) rfl rfl ⟨rfl, by decide, by decide⟩ (fun w h Y => PySem.W.kIn_of Y) ?F Lk.look_sp (fun _ _ _ _ _ ⟨_, _, _, _, _, _, z, _⟩ => z)
  case F =>
    intro w mg fa h Y KX G hmg
    refine' Lk.all_mk KX G hmg ?nN ?xN ?nT ?xT ?x11 ?x21 ?x22 ?cCB ?cCV ?cCC ?cCS ?cCG ?n0 ?n1 ?n2 ?n3 ?n4 ?n5 ?n6 ?n7 ?n8 ?n9 ?n10 ?n11 ?n12 ?n13 ?n14 ?blen ?brange ?bmax ?bmin ?bsum ?benumerate ?bord ?kSPREAD ?kLOW ?kLONGEST ?kFIRST ?kRED ?kBLUE ?kALPHA ?kDISTANCE ?kPRED ?kCOL ?kTAB ?kMODE ?kSIG ?kNSF ?kTOO ?kLAR ?gO ?lO ?vO ?sO ?gA ?lA ?sA ?pA ?mBI ?mLeft ?mBit ?mNum ?mCI ?mNext ?mVI ?mPut ?mPutC ?mRep ?mSI ?mColAt ?mGI ?mGrpAt ?f00 ?f01 ?f02 ?f03 ?f04 ?f05 ?f06 ?f07 ?f08 ?f09 ?f10 ?f11 ?f12 ?f13 ?f14 ?f15 ?f16 ?f17 ?f18 ?f19 ?f20 ?f21 ?f22 ?f23 ?f24 ?f25 ?f26 ?f27 ?f28 ?f29 ?f30
    (case nN => k_is)
    (case xN => k_exc)
    (case nT => k_is)
    (case xT => k_exc)
    (case x11 => kts_exm)
    (case x21 => kts_exm)
    (case x22 => kts_exm)
    (case cCB => (refine' Lk.cls_at ?nm ?pg ?hd ?po ?sa ?mk ?kp; (case nm => k_is); (case pg => k_is); (case hd => k_is); (case po => k_is); (case sa => k_is); (case mk => k_is); (case kp => k_is)))
    (case cCV => (refine' Lk.cls_at ?nm ?pg ?hd ?po ?sa ?mk ?kp; (case nm => k_is); (case pg => k_is); (case hd => k_is); (case po => k_is); (case sa => k_is); (case mk => k_is); (case kp => k_is)))
    (case cCC => (refine' Lk.cls_at ?nm ?pg ?hd ?po ?sa ?mk ?kp; (case nm => k_is); (case pg => k_is); (case hd => k_is); (case po => k_is); (case sa => k_is); (case mk => k_is); (case kp => k_is)))
    (case cCS => (refine' Lk.cls_at ?nm ?pg ?hd ?po ?sa ?mk ?kp; (case nm => k_is); (case pg => k_is); (case hd => k_is); (case po => k_is); (case sa => k_is); (case mk => k_is); (case kp => k_is)))
    (case cCG => (refine' Lk.cls_at ?nm ?pg ?hd ?po ?sa ?mk ?kp; (case nm => k_is); (case pg => k_is); (case hd => k_is); (case po => k_is); (case sa => k_is); (case mk => k_is); (case kp => k_is)))
    (case n0 => k_is)
    (case n1 => k_is)
    (case n2 => k_is)
    (case n3 => k_is)
    (case n4 => k_is)
    (case n5 => k_is)
    (case n6 => k_is)
    (case n7 => k_is)
    (case n8 => k_is)
    (case n9 => k_is)
    (case n10 => k_is)
    (case n11 => k_is)
    (case n12 => k_is)
    (case n13 => k_is)
    (case n14 => k_is)
    (case blen => k_is)
    (case brange => k_is)
    (case bmax => k_is)
    (case bmin => k_is)
    (case bsum => k_is)
    (case benumerate => k_is)
    (case bord => k_is)
    (case kSPREAD => (refine' Lk.num_at ?a; (case a => k_is)))
    (case kLOW => (refine' Lk.num_at ?a; (case a => k_is)))
    (case kLONGEST => (refine' Lk.num_at ?a; (case a => k_is)))
    (case kFIRST => (refine' Lk.num_at ?a; (case a => k_is)))
    (case kRED => (refine' Lk.num_at ?a; (case a => k_is)))
    (case kBLUE => (refine' Lk.num_at ?a; (case a => k_is)))
    (case kALPHA => (refine' Lk.num_at ?a; (case a => k_is)))
    (case kDISTANCE => (refine' Lk.num_at ?a; (case a => k_is)))
    (case kPRED => (refine' Lk.num_at ?a; (case a => k_is)))
    (case kCOL => (refine' Lk.num_at ?a; (case a => k_is)))
    (case kTAB => (refine' Lk.num_at ?a; (case a => k_is)))
    (case kMODE => (refine' Lk.num_at ?a; (case a => k_is)))
    (case kSIG => (refine' Lk.num_at ?a; (case a => k_is)))
    (case kNSF => (refine' Lk.num_at ?a; (case a => k_is)))
    (case kTOO => (refine' Lk.num_at ?a; (case a => k_is)))
    (case kLAR => (refine' Lk.num_at ?a; (case a => k_is)))
    (case gO => k_is)
    (case lO => k_is)
    (case vO => exact .cons ⟨_, rfl⟩ (.cons ⟨_, rfl⟩ (.cons ⟨_, rfl⟩ (.cons ⟨_, rfl⟩ (.cons ⟨_, rfl⟩ (.cons ⟨_, rfl⟩ (.cons ⟨_, rfl⟩ (.cons ⟨_, rfl⟩ (.cons ⟨_, rfl⟩ (.cons ⟨_, rfl⟩ (.cons ⟨_, rfl⟩ (.cons ⟨_, rfl⟩ (.cons ⟨_, rfl⟩ (.cons ⟨_, rfl⟩ (.cons ⟨_, rfl⟩ (.cons ⟨_, rfl⟩ (.cons ⟨_, rfl⟩ (.cons ⟨_, rfl⟩ (.cons ⟨_, rfl⟩ (.nil))))))))))))))))))))
    (case sO => (show 19 ≤ _; decide))
    (case gA => k_is)
    (case lA => k_is)
    (case sA => (show 120 ≤ _; decide))
    (case pA => (rw [Lk.near_lit]; refine' Lk.PairsAt.cons ?l0 ?r0; (case l0 => k_is); refine' Lk.PairsAt.cons ?l1 ?r1; (case l1 => k_is); refine' Lk.PairsAt.cons ?l2 ?r2; (case l2 => k_is); refine' Lk.PairsAt.cons ?l3 ?r3; (case l3 => k_is); refine' Lk.PairsAt.cons ?l4 ?r4; (case l4 => k_is); refine' Lk.PairsAt.cons ?l5 ?r5; (case l5 => k_is); refine' Lk.PairsAt.cons ?l6 ?r6; (case l6 => k_is); refine' Lk.PairsAt.cons ?l7 ?r7; (case l7 => k_is); refine' Lk.PairsAt.cons ?l8 ?r8; (case l8 => k_is); refine' Lk.PairsAt.cons ?l9 ?r9; (case l9 => k_is); refine' Lk.PairsAt.cons ?l10 ?r10; (case l10 => k_is); refine' Lk.PairsAt.cons ?l11 ?r11; (case l11 => k_is); refine' Lk.PairsAt.cons ?l12 ?r12; (case l12 => k_is); refine' Lk.PairsAt.cons ?l13 ?r13; (case l13 => k_is); refine' Lk.PairsAt.cons ?l14 ?r14; (case l14 => k_is); refine' Lk.PairsAt.cons ?l15 ?r15; (case l15 => k_is); refine' Lk.PairsAt.cons ?l16 ?r16; (case l16 => k_is); refine' Lk.PairsAt.cons ?l17 ?r17; (case l17 => k_is); refine' Lk.PairsAt.cons ?l18 ?r18; (case l18 => k_is); refine' Lk.PairsAt.cons ?l19 ?r19; (case l19 => k_is); refine' Lk.PairsAt.cons ?l20 ?r20; (case l20 => k_is); refine' Lk.PairsAt.cons ?l21 ?r21; (case l21 => k_is); refine' Lk.PairsAt.cons ?l22 ?r22; (case l22 => k_is); refine' Lk.PairsAt.cons ?l23 ?r23; (case l23 => k_is); refine' Lk.PairsAt.cons ?l24 ?r24; (case l24 => k_is); refine' Lk.PairsAt.cons ?l25 ?r25; (case l25 => k_is); refine' Lk.PairsAt.cons ?l26 ?r26; (case l26 => k_is); refine' Lk.PairsAt.cons ?l27 ?r27; (case l27 => k_is); refine' Lk.PairsAt.cons ?l28 ?r28; (case l28 => k_is); refine' Lk.PairsAt.cons ?l29 ?r29; (case l29 => k_is); refine' Lk.PairsAt.cons ?l30 ?r30; (case l30 => k_is); refine' Lk.PairsAt.cons ?l31 ?r31; (case l31 => k_is); refine' Lk.PairsAt.cons ?l32 ?r32; (case l32 => k_is); refine' Lk.PairsAt.cons ?l33 ?r33; (case l33 => k_is); refine' Lk.PairsAt.cons ?l34 ?r34; (case l34 => k_is); refine' Lk.PairsAt.cons ?l35 ?r35; (case l35 => k_is); refine' Lk.PairsAt.cons ?l36 ?r36; (case l36 => k_is); refine' Lk.PairsAt.cons ?l37 ?r37; (case l37 => k_is); refine' Lk.PairsAt.cons ?l38 ?r38; (case l38 => k_is); refine' Lk.PairsAt.cons ?l39 ?r39; (case l39 => k_is); refine' Lk.PairsAt.cons ?l40 ?r40; (case l40 => k_is); refine' Lk.PairsAt.cons ?l41 ?r41; (case l41 => k_is); refine' Lk.PairsAt.cons ?l42 ?r42; (case l42 => k_is); refine' Lk.PairsAt.cons ?l43 ?r43; (case l43 => k_is); refine' Lk.PairsAt.cons ?l44 ?r44; (case l44 => k_is); refine' Lk.PairsAt.cons ?l45 ?r45; (case l45 => k_is); refine' Lk.PairsAt.cons ?l46 ?r46; (case l46 => k_is); refine' Lk.PairsAt.cons ?l47 ?r47; (case l47 => k_is); refine' Lk.PairsAt.cons ?l48 ?r48; (case l48 => k_is); refine' Lk.PairsAt.cons ?l49 ?r49; (case l49 => k_is); refine' Lk.PairsAt.cons ?l50 ?r50; (case l50 => k_is); refine' Lk.PairsAt.cons ?l51 ?r51; (case l51 => k_is); refine' Lk.PairsAt.cons ?l52 ?r52; (case l52 => k_is); refine' Lk.PairsAt.cons ?l53 ?r53; (case l53 => k_is); refine' Lk.PairsAt.cons ?l54 ?r54; (case l54 => k_is); refine' Lk.PairsAt.cons ?l55 ?r55; (case l55 => k_is); refine' Lk.PairsAt.cons ?l56 ?r56; (case l56 => k_is); refine' Lk.PairsAt.cons ?l57 ?r57; (case l57 => k_is); refine' Lk.PairsAt.cons ?l58 ?r58; (case l58 => k_is); refine' Lk.PairsAt.cons ?l59 ?r59; (case l59 => k_is); refine' Lk.PairsAt.cons ?l60 ?r60; (case l60 => k_is); refine' Lk.PairsAt.cons ?l61 ?r61; (case l61 => k_is); refine' Lk.PairsAt.cons ?l62 ?r62; (case l62 => k_is); refine' Lk.PairsAt.cons ?l63 ?r63; (case l63 => k_is); refine' Lk.PairsAt.cons ?l64 ?r64; (case l64 => k_is); refine' Lk.PairsAt.cons ?l65 ?r65; (case l65 => k_is); refine' Lk.PairsAt.cons ?l66 ?r66; (case l66 => k_is); refine' Lk.PairsAt.cons ?l67 ?r67; (case l67 => k_is); refine' Lk.PairsAt.cons ?l68 ?r68; (case l68 => k_is); refine' Lk.PairsAt.cons ?l69 ?r69; (case l69 => k_is); refine' Lk.PairsAt.cons ?l70 ?r70; (case l70 => k_is); refine' Lk.PairsAt.cons ?l71 ?r71; (case l71 => k_is); refine' Lk.PairsAt.cons ?l72 ?r72; (case l72 => k_is); refine' Lk.PairsAt.cons ?l73 ?r73; (case l73 => k_is); refine' Lk.PairsAt.cons ?l74 ?r74; (case l74 => k_is); refine' Lk.PairsAt.cons ?l75 ?r75; (case l75 => k_is); refine' Lk.PairsAt.cons ?l76 ?r76; (case l76 => k_is); refine' Lk.PairsAt.cons ?l77 ?r77; (case l77 => k_is); refine' Lk.PairsAt.cons ?l78 ?r78; (case l78 => k_is); refine' Lk.PairsAt.cons ?l79 ?r79; (case l79 => k_is); refine' Lk.PairsAt.cons ?l80 ?r80; (case l80 => k_is); refine' Lk.PairsAt.cons ?l81 ?r81; (case l81 => k_is); refine' Lk.PairsAt.cons ?l82 ?r82; (case l82 => k_is); refine' Lk.PairsAt.cons ?l83 ?r83; (case l83 => k_is); refine' Lk.PairsAt.cons ?l84 ?r84; (case l84 => k_is); refine' Lk.PairsAt.cons ?l85 ?r85; (case l85 => k_is); refine' Lk.PairsAt.cons ?l86 ?r86; (case l86 => k_is); refine' Lk.PairsAt.cons ?l87 ?r87; (case l87 => k_is); refine' Lk.PairsAt.cons ?l88 ?r88; (case l88 => k_is); refine' Lk.PairsAt.cons ?l89 ?r89; (case l89 => k_is); refine' Lk.PairsAt.cons ?l90 ?r90; (case l90 => k_is); refine' Lk.PairsAt.cons ?l91 ?r91; (case l91 => k_is); refine' Lk.PairsAt.cons ?l92 ?r92; (case l92 => k_is); refine' Lk.PairsAt.cons ?l93 ?r93; (case l93 => k_is); refine' Lk.PairsAt.cons ?l94 ?r94; (case l94 => k_is); refine' Lk.PairsAt.cons ?l95 ?r95; (case l95 => k_is); refine' Lk.PairsAt.cons ?l96 ?r96; (case l96 => k_is); refine' Lk.PairsAt.cons ?l97 ?r97; (case l97 => k_is); refine' Lk.PairsAt.cons ?l98 ?r98; (case l98 => k_is); refine' Lk.PairsAt.cons ?l99 ?r99; (case l99 => k_is); refine' Lk.PairsAt.cons ?l100 ?r100; (case l100 => k_is); refine' Lk.PairsAt.cons ?l101 ?r101; (case l101 => k_is); refine' Lk.PairsAt.cons ?l102 ?r102; (case l102 => k_is); refine' Lk.PairsAt.cons ?l103 ?r103; (case l103 => k_is); refine' Lk.PairsAt.cons ?l104 ?r104; (case l104 => k_is); refine' Lk.PairsAt.cons ?l105 ?r105; (case l105 => k_is); refine' Lk.PairsAt.cons ?l106 ?r106; (case l106 => k_is); refine' Lk.PairsAt.cons ?l107 ?r107; (case l107 => k_is); refine' Lk.PairsAt.cons ?l108 ?r108; (case l108 => k_is); refine' Lk.PairsAt.cons ?l109 ?r109; (case l109 => k_is); refine' Lk.PairsAt.cons ?l110 ?r110; (case l110 => k_is); refine' Lk.PairsAt.cons ?l111 ?r111; (case l111 => k_is); refine' Lk.PairsAt.cons ?l112 ?r112; (case l112 => k_is); refine' Lk.PairsAt.cons ?l113 ?r113; (case l113 => k_is); refine' Lk.PairsAt.cons ?l114 ?r114; (case l114 => k_is); refine' Lk.PairsAt.cons ?l115 ?r115; (case l115 => k_is); refine' Lk.PairsAt.cons ?l116 ?r116; (case l116 => k_is); refine' Lk.PairsAt.cons ?l117 ?r117; (case l117 => k_is); refine' Lk.PairsAt.cons ?l118 ?r118; (case l118 => k_is); refine' Lk.PairsAt.cons ?l119 ?r119; (case l119 => k_is); exact .nil))
    (case mBI => (refine' Lk.mt_at ?a ?i ?l ?c ?k; (case a => k_is); (case i => k_is); (case l => k_is); (case c => k_is); (case k => k_is)))
    (case mLeft => (refine' Lk.mt_at ?a ?i ?l ?c ?k; (case a => k_is); (case i => k_is); (case l => k_is); (case c => k_is); (case k => k_is)))
    (case mBit => (refine' Lk.mt_at ?a ?i ?l ?c ?k; (case a => k_is); (case i => k_is); (case l => k_is); (case c => k_is); (case k => k_is)))
    (case mNum => (refine' Lk.mt_at ?a ?i ?l ?c ?k; (case a => k_is); (case i => k_is); (case l => k_is); (case c => k_is); (case k => k_is)))
    (case mCI => (refine' Lk.mt_at ?a ?i ?l ?c ?k; (case a => k_is); (case i => k_is); (case l => k_is); (case c => k_is); (case k => k_is)))
    (case mNext => (refine' Lk.mt_at ?a ?i ?l ?c ?k; (case a => k_is); (case i => k_is); (case l => k_is); (case c => k_is); (case k => k_is)))
    (case mVI => (refine' Lk.mt_at ?a ?i ?l ?c ?k; (case a => k_is); (case i => k_is); (case l => k_is); (case c => k_is); (case k => k_is)))
    (case mPut => (refine' Lk.mt_at ?a ?i ?l ?c ?k; (case a => k_is); (case i => k_is); (case l => k_is); (case c => k_is); (case k => k_is)))
    (case mPutC => (refine' Lk.mt_at ?a ?i ?l ?c ?k; (case a => k_is); (case i => k_is); (case l => k_is); (case c => k_is); (case k => k_is)))
    (case mRep => (refine' Lk.mt_at ?a ?i ?l ?c ?k; (case a => k_is); (case i => k_is); (case l => k_is); (case c => k_is); (case k => k_is)))
    (case mSI => (refine' Lk.mt_at ?a ?i ?l ?c ?k; (case a => k_is); (case i => k_is); (case l => k_is); (case c => k_is); (case k => k_is)))
    (case mColAt => (refine' Lk.mt_at ?a ?i ?l ?c ?k; (case a => k_is); (case i => k_is); (case l => k_is); (case c => k_is); (case k => k_is)))
    (case mGI => (refine' Lk.mt_at ?a ?i ?l ?c ?k; (case a => k_is); (case i => k_is); (case l => k_is); (case c => k_is); (case k => k_is)))
    (case mGrpAt => (refine' Lk.mt_at ?a ?i ?l ?c ?k; (case a => k_is); (case i => k_is); (case l => k_is); (case c => k_is); (case k => k_is)))
    (case f00 => (refine' Lk.fn_at ?a ?l ?c ?k; (case a => k_is); (case l => k_is); (case c => k_is); (case k => k_is)))
    (case f01 => (refine' Lk.fn_at ?a ?l ?c ?k; (case a => k_is); (case l => k_is); (case c => k_is); (case k => k_is)))
    (case f02 => (refine' Lk.fn_at ?a ?l ?c ?k; (case a => k_is); (case l => k_is); (case c => k_is); (case k => k_is)))
    (case f03 => (refine' Lk.fn_at ?a ?l ?c ?k; (case a => k_is); (case l => k_is); (case c => k_is); (case k => k_is)))
    (case f04 => (refine' Lk.fn_at ?a ?l ?c ?k; (case a => k_is); (case l => k_is); (case c => k_is); (case k => k_is)))
    (case f05 => (refine' Lk.fn_at ?a ?l ?c ?k; (case a => k_is); (case l => k_is); (case c => k_is); (case k => k_is)))
    (case f06 => (refine' Lk.fn_at ?a ?l ?c ?k; (case a => k_is); (case l => k_is); (case c => k_is); (case k => k_is)))
    (case f07 => (refine' Lk.fn_at ?a ?l ?c ?k; (case a => k_is); (case l => k_is); (case c => k_is); (case k => k_is)))
    (case f08 => (refine' Lk.fn_at ?a ?l ?c ?k; (case a => k_is); (case l => k_is); (case c => k_is); (case k => k_is)))
    (case f09 => (refine' Lk.fn_at ?a ?l ?c ?k; (case a => k_is); (case l => k_is); (case c => k_is); (case k => k_is)))
    (case f10 => (refine' Lk.fn_at ?a ?l ?c ?k; (case a => k_is); (case l => k_is); (case c => k_is); (case k => k_is)))
    (case f11 => (refine' Lk.fn_at ?a ?l ?c ?k; (case a => k_is); (case l => k_is); (case c => k_is); (case k => k_is)))
    (case f12 => (refine' Lk.fn_at ?a ?l ?c ?k; (case a => k_is); (case l => k_is); (case c => k_is); (case k => k_is)))
    (case f13 => (refine' Lk.fn_at ?a ?l ?c ?k; (case a => k_is); (case l => k_is); (case c => k_is); (case k => k_is)))
    (case f14 => (refine' Lk.fn_at ?a ?l ?c ?k; (case a => k_is); (case l => k_is); (case c => k_is); (case k => k_is)))
    (case f15 => (refine' Lk.fn_at ?a ?l ?c ?k; (case a => k_is); (case l => k_is); (case c => k_is); (case k => k_is)))
    (case f16 => (refine' Lk.fn_at ?a ?l ?c ?k; (case a => k_is); (case l => k_is); (case c => k_is); (case k => k_is)))
    (case f17 => (refine' Lk.fn_at ?a ?l ?c ?k; (case a => k_is); (case l => k_is); (case c => k_is); (case k => k_is)))
    (case f18 => (refine' Lk.fn_at ?a ?l ?c ?k; (case a => k_is); (case l => k_is); (case c => k_is); (case k => k_is)))
    (case f19 => (refine' Lk.fn_at ?a ?l ?c ?k; (case a => k_is); (case l => k_is); (case c => k_is); (case k => k_is)))
    (case f20 => (refine' Lk.fn_at ?a ?l ?c ?k; (case a => k_is); (case l => k_is); (case c => k_is); (case k => k_is)))
    (case f21 => (refine' Lk.fn_at ?a ?l ?c ?k; (case a => k_is); (case l => k_is); (case c => k_is); (case k => k_is)))
    (case f22 => (refine' Lk.fn_at ?a ?l ?c ?k; (case a => k_is); (case l => k_is); (case c => k_is); (case k => k_is)))
    (case f23 => (refine' Lk.fn_at ?a ?l ?c ?k; (case a => k_is); (case l => k_is); (case c => k_is); (case k => k_is)))
    (case f24 => (refine' Lk.fn_at ?a ?l ?c ?k; (case a => k_is); (case l => k_is); (case c => k_is); (case k => k_is)))
    (case f25 => (refine' Lk.fn_at ?a ?l ?c ?k; (case a => k_is); (case l => k_is); (case c => k_is); (case k => k_is)))
    (case f26 => (refine' Lk.fn_at ?a ?l ?c ?k; (case a => k_is); (case l => k_is); (case c => k_is); (case k => k_is)))
    (case f27 => (refine' Lk.fn_at ?a ?l ?c ?k; (case a => k_is); (case l => k_is); (case c => k_is); (case k => k_is)))
    (case f28 => (refine' Lk.fn_at ?a ?l ?c ?k; (case a => k_is); (case l => k_is); (case c => k_is); (case k => k_is)))
    (case f29 => (refine' Lk.fn_at ?a ?l ?c ?k; (case a => k_is); (case l => k_is); (case c => k_is); (case k => k_is)))
    (case f30 => (refine' Lk.fn_at ?a ?l ?c ?k; (case a => k_is); (case l => k_is); (case c => k_is); (case k => k_is)))
